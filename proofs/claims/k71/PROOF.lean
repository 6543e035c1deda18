import PyProof.Rows.All
import OpenK.AllK
import PyProof.StrLawsChain
import PyProof.StrLawsFirst
import PyProof.Rows.StrNews2
import PyProof.DictItems
import PyProof.MeetsStr2
import PyProof.EqAt
import PyProof.EqKinds
import PyProof.StationsW
import PyProof.ExcBaseAll.ValueError
import PyProof.RulesAs
import PyProof.NsDelKeeps
import PyProof.ExcArgsOwn
import PyProof.ExcAttrAll.ValueError
import PyProof.IsiBase
import PyProof.StrCalls6
import PyProof.IsiNone
import PyProof.ToksMono
import PyProof.ReprBulk
import PyProof.StrLawsReplace
import PySem.Challenge.RW_primer_k71_deeds_at_the_desk
set_option Elab.async false
set_option linter.all false
set_option bootstrap.genMatcherCode false
set_option maxRecDepth 100000
set_option maxHeartbeats 4000000
set_option genInjectivity false
set_option genSizeOf false
set_option autoImplicit true
set_option relaxedAutoImplicit true
open Option renaming some->bD,none->cb,map_eq_some_iff->g7,bind_eq_some_iff->ki,isSome_iff_exists->vr,ite_none_right_eq_some->O_,isNone_iff_eq_none->UA,isSome_map->XF,getD_none->Ï,map_some->ß
open Bool renaming true->b6,and_eq_true->cc,false->cK,false_ne_true->ke,not_eq_true'->mN,and_eq_true_iff->n7,eq_iff_iff->rD,or_eq_true->Rv,false_eq_true->XH,and_false->YQ,and_true->Ĕ
open PySem renaming wpAny_bind->cL,sizeLine->c8,wpAny_pure->dV,wpAny->f6,model->gs,Value->g8,Addr->hH,starEach->i0,Shared->i4,mainGlobals->i5,Expr->jw,wpAny_mono->lg,wpAny_Call_Name_kw->nS,wpAny_newObj_type->pj,eval->p8,wpAny_field->p9,wpAny_truthy_bool->q9,Program->sd,bootBuiltins->sx,wpAny_call_entry->tj,wpAny_callSpecial?_slot->tp,wpAny_holding->tv,codeAny_builtin->tA,Scope->uk,Stmt->ve,backTo->vl,World->wk,compareOp->y0,wpAny_setField->y9,wpAny_of_eq->z8,foldedSetIterable->Cd,cLine->C0,holding->KX,Heap->K2,attributeBase->LF,cellsFrom->Oo,keywordEach->PK,wpAny_rule->P5,sysModules->P',call->Qo,wpAny_passesOwn->Qq,swapsWith->Qv,wpAny_isTrue_Compare1->Qz,Keyword->QF,typeIs_str->Q',call_meets->Rh,codeAny->Rr,Builtin->Ru,plainId_quiet->RK,binaryOp->RU,behindInMarks->RW,wpAny_specialOf->RX,wpAny_execs_nil->R0,wpAny_pyIter_tuple->R',tupleKind_room_in1->Sd,assignEach->Se,wpAny_getItem_str_slice->SI,scanBound->SM,rawInt->To,pyNext->Ts,codeAny_mono->Tt,wpAny_isInstance->T7,Around->Ui,wpAny_attempt->Us,backToKw->Ut,call_isinstance->UG,wpAny_typeOf->UO,getItem->UQ,isSubtype->U1,assign->Vj,JoinOk->Vn,FuncData->Vo,wpAny_pyIter_list->VJ,wpAny_loadPart_at->VO,sliceBounds->VR,notedBy->VS,wpAny_comprehension_free->VX,swapsWithSole->V3,relayAll->Wg,compEnvC->Wm,wpAny_Call_method_late->Ws,typeLookup->Wt,standAt->Wx,setItem->WB,relabel->WI,callerA->WN,wpAny_updateSeq->WU,wpAny_loadPart'->W2,post_val_or_str->Xa,letOwnedTupleGo->Xd,codeAny_of_tree->Xv,wpAny_runValue->XI,codeAny_call_builtin->XJ,IsPart->XT,treeTable->X3,pushCells->X4,wpAny_Tuple_spliced->X8,swappedStores->Ya,Params->Yl,wpAny_pyIter_enum->YC,wpAny_Return_some->YD,release->YE,concat_meets->YF,wpAny_execs_cons->YU,tupleKind->YV,pyIter->YW,noFill_tuple_add->YX,PassesOwn->YY,subscripted->Y0,pushCells_keeps->Y8,valueAt->Zc,wpAny_seqItems->Zi,wpAny_call->Zj,typeOf->Zq,isSubtype_type->Zr,isSubtype_stop->Zt,firstArgMember->Zu,GenState->ZL,wpAny_standAt->Z9,wpAny_newList->Z_,wpAny_handled->À,signature?_of->Á,seq_tuple_add->Â,wpAny_Call_method0_late->Ë,strValues->Ì,atKey->Í,wpAny_pyNext_list_item->Ð,call_meetsIn->Ñ,argsOk->Ò,IsEnum->Ø,BindsTo->Û,builtinLookup_eq_fast->å,wpAny_throw->î,step->ï,seqIndex_of->ð,entryFor->ñ,codeAny_extend_loopS->ò,bindL->ó,bindC->ô,Operator->ö,NameKind->ø,wpAny_load->Ą,wpAny_Name->ą,wpAny_List_spliced->Ć,truthy->ć,slot_listiter_next->Ĉ,setAdd->ĉ,rule->Ċ,builtinsNs->ċ,WalksS->Č,wpAny_storeSet_of->ĕ,wpAny_sequenceKey->Ė,wpAny_assign_Name->ė,wpAny_Assign_Name->Ę,spliced->ę,object_init_meets->Ě,fits_of_scanBound->ě,collect->Ĝ,ItemsOf->Ģ,CmpOp->Ħ,wpAny_eqBool_str->Ĩ,wpAny_eqBool_int->ĩ,seqIndex?->Ī,noteFrame->ī,getMethod->Ĭ,entryFor_of_tree->ĭ,checkBuiltinCall->Į,Slot->ı,wpAny_ite_split->ļ,typeLookup_type->Ľ,importedModules->ľ,wpAny_loadPart->ņ,recursionLimit->Ň,numbered_texts->ň,newFunctionEnv->ŉ,field->Ŋ,callWith->ŋ,callType_codes->Ō,bindArgs->ō,augStore->Ŏ
open Decidable renaming decide->df
open PySem.Heap renaming get?_push_of_some->dt,get?_push_size->gj,lt_size->hW,get?_update_self->ro,get?_update_other->tr,SameBut->tE,size_push->Qy,ExtBut->Wo,get?_update_ne->Ç
open List renaming length_map->ei,getElem?_eq_some_iff->eH,mem_cons->eT,getElem?_set_self->fx,mem_cons_of_mem->f7,getElem?_set_ne->hQ,range->ib,mem_cons_self->il,map_cons->i6,mem_append->i7,map_map->i8,mem_map->j0,replicate->kb,mem_singleton->kr,length_cons->k9,all_eq_true->lx,map_append->mn,size_toArray->mu,length_append->mx,nodup_append->my,nodup_cons->nC,mem_of_getElem?->nT,isEmpty_iff->oa,getElem?_append_right->pe,mem_append_right->pz,getElem?_append_left->qs,nil_append->rr,getElem?_map->sg,lookup_cons->sL,append_nil->tP,mem_range->uv,mem_map_of_mem->B',getElem_mem->F1,getElem?_drop->KD,length_filter_le->K',mem_filter->M',length->NX,append_assoc->N4,map_congr_left->O0,filterMap_cons->O5,getElem?_replicate->O7,lookup->Pk,filter_eq_nil_iff->Pn,map_nil->Q1,filter_cons->Q2,ext_getElem->Q3,getElem?_eq_getElem->Rp,mem_filterMap->RA,filter_append->RB,take_of_length_le->R_,dropLast_eq_take->SN,getD->S3,any_eq_true->S7,mem_append_left->TN,eq_nil_of_length_eq_zero->TR,of_mem_zip->TU,getElem_of_mem->Uq,pairwise_cons->UB,drop_eq_getElem_cons->UI,reverse_cons->UZ,length_take->Vr,length_eq_one_iff->VW,drop_left'->Wb,length_replicate->Wf,mem_iff_getElem->Wr,getElem?_range->Xx,zip_cons_cons->XG,all_map->X6,length_drop->Yd,isEmpty_map->Ye,cons_ne_nil->Yf,length_zip->Yw,foldl_cons->Yy,filter_nil->Yz,nodup_nil->YP,getElem?_take_of_lt->Y4,mem_iff_getElem?->ZY,length_singleton->Z0,getElem?_eq_none->Z2,mem_of_mem_take->Z6,mem_erase_of_ne->Z7,getElem?_zipIdx->Z8,flatten_append->É,filter_eq_self->Ê,take_sublist->à,take_add_one->á,length_range->â,flatten_cons->ã,ext_getElem?->ä,take_length->ç,not_mem_nil->è,map_fst_zip->é,getElem_inj->ê,drop_length->ë,cons_append->ì,length_set->þ,filter_map->ÿ,sum_cons->Đ,set_comm->đ,findIdx?->Ē,any_cons->ē,set_set->ħ,map_id->ĸ
open PySem.PyData renaming keyHash->et
open Nat renaming le_refl->hY,ne_of_lt->i9,lt_of_lt_of_le->jn,zero_le->kj,le_trans->qv,lt_irrefl->td,ne_of_gt->DD,le_of_lt->Q_,lt_succ_of_lt->Sf,lt_succ_self->TB,le_of_eq->Ux,lt_trans->X',le_succ->È,min_le_right->ý,zero_add->ķ,log2_lt->ń,mod_lt->ŗ
open PySem.Txt renaming partition->ko,join->ri,split->G',replace->Yp,endswith->İ
open PySem.Value renaming ref->ku,none->oD,str->y6,type->Rt,bool->Uu,builtin->UX,isStrOf->Xw,isStrOf_shape->Z3,int->Õ,isInt->ğ,float->Ġ,bytes->ġ
open Ne renaming symm->mh
open Sum renaming inr->nc,inl->Zh
open PySem.Str renaming empty->nH,ofString->Uv,length->XQ,join->Ä
open Array renaming length_toList->p7,getElem?_eq_some_iff->H8,toArray_toList->Wn,toList_append->WT,getElem?_eq_getElem->YR,getElem?_toList->Zg
open PySem.Obj renaming mapSeq->rS,data_mapFields->K1,isFreed_of_fields->SR,mapFields->TC,putSet->V6,cls_mapFields->X9
open PySem.Calls renaming spliced_cons->so,callWith_builtin->ur,evalArgs_plain->w6,spliced_nil->y8,Constant_str->Uw,Name_function_global->YJ,call_function_entry->YN
open PyProof.Rows renaming slot_tuple_getitem->sP,callWith_builtin1->uu,seqObj->u5,callWith_type1->x8,StrsAre->VU,AllBare->VV,listUpdate_at->Yb,IsTup->Yc,size_push'->Yn,envOfC->Yo,Subscript_->ZQ,subscriptTail_builtinR->Ü,listItems_at->Ý,IntsAre->Þ,seqEpoch_at->ü,sortedHeap->Ď,args_tuple_getitem->ď,len_tuple->Ķ,joinOk_of->Ł,get?_update_seq->ł,call_isinstance_yes->Ń,sortedHeap_old->œ,slicePart_none->Ŕ,isTrue_and_nil->ŕ,args_list_sort->Ŗ
open PySem.Builtin.Str renaming occurrences->ti,partsBetween->T8,strKind->YO,glued->Y1
open PySem.Builtin.Tuple renaming tupleExact->u4,tupleItemsOf->Xy
open PySem.Builtin.List renaming listTooLong->va,listLengthHint->x6,listExtendWith->O9,listSameRef->X5,listFitsIndex->ŀ
open Option.some renaming inj->vu,injEq->Y2
open PySem.Heap.SameBut renaming update->wh,refl->YZ
open False renaming elim->Hf
open PySem.NameKind renaming free->L',cell->O'
open PySem.SetTable renaming grown->N8,orStandIn->Zf,layClean->ZA,relaid->Å,laid->Ö
open PySem.Builtin.Slice renaming slicePlaces->Pr,sliceAdjust->Tz,sliceApplied->Xz,slicePartIndex->ĳ,sliceFields->Ĵ
open PyProof.Rows.F renaming plain_set_update_loop->PB,entry_set_update_loop->U2
open PySem.AutoSeq1 renaming wpAny_loadPart'->QW,idx_int->Z5
open PySem.Builtin.SmallTypes renaming nextOf->R6
open Int renaming toNat_natCast->Sq,emod_nonneg->Ur,eq_ofNat_of_zero_le->VC,toNat_of_nonneg->XB,emod_lt_of_pos->XU,zero_add->Ļ
open List.cons renaming injEq->SO
open PySem.W renaming kas_sort->Tx,openGood->Zy,nsIn->Ó,looks_findIn->Ô,kas_ask->ĝ,Looks->Ğ,subIn->ŏ,findIn->Ő
open ForInStep renaming yield->Va
open Classical renaming choose_spec->Vp,byContradiction->Yk
open Prod renaming ext->Vq
open PySem.StrLaws renaming glued_eq_join->Vz,strSub_toList->Ã
open PySem.SeqAt renaming EqAt->VA,ne_of_list_tuple->Zb,RcAt->Æ,RcNeAt->č
open True renaming intro->VH
open PySem.Around renaming under_plainId->Wd,under->XD
open PyProof.Rows.IsTup renaming new->Wq
open PySem.PassesOwn renaming leaving->WS
open PySem.Code renaming quiet_builtin->XC,frames->Z4,isGuard->Ĥ,isFrame->ĥ
open PySem.F renaming args_str_split_2->X_,entry_str_split->Ym,slot_str_split->YG,slot_gs_get->ZP,typeOf_object_class->Î,excBase_ValueError->Ù,args_list_extend_2->Ú,entry_list_extend->æ,slot_list_extend->ù,attr_ValueError->ā
open PySem.Moved renaming trans->ZJ,refl->Ĳ
open Iff renaming rfl->í
open PySem.Shared renaming TypeIs->õ
open PySem.Builtin.Frozenset renaming updateFrom->ú,newClass->û
open PySem.ItemsOf renaming nil->Ā
open PyProof.Rows.LSm renaming range_all->Ă,kept_iter->ă
open PySem.Heap.IsSliceOf renaming new->ģ
open PySem.Walks renaming list->į
open PySem.Builtin.Range renaming rangeSize->ĵ
open List.Pairwise renaming nil->Ĺ
open LawfulBEq renaming eq_of_beq->ĺ
open PySem.W.WData renaming int->Ŀ
open ToString renaming toString->Ņ
open PySem.W.Looks renaming ld->ő
open PySem.Heap.DictOf renaming new->Œ
abbrev Ř:=@decide_eq_true_eq
abbrev ř:=@if_pos
abbrev Ś:=@if_neg
abbrev ś:=@decide_eq_false
abbrev Ŝ:=@of_decide_eq_true
abbrev ŝ:=@decide_eq_true
abbrev Ş:=@decide_eq_false_iff_not
abbrev ş:=@congrArg
abbrev Š:=@beq_eq_false_iff_ne
local macro_rules|`(def $a:declId $b* : $t :=$v)=>`(theorem $a:declId $b* : $t :=$v)
local macro_rules|`(abbrev $a:declId $b:optDeclSig $c:declVal)=>`(noncomputable def $a:declId $b:optDeclSig $c:declVal)
local macro_rules|`(tactic|show $t)=>`(tactic|refine $t)
local macro_rules|`(tactic|have⟨$a⟩:=$t)=>do let p<-`(Lean.Parser.Tactic.rcasesPatLo|$(⟨a⟩):ident);`(tactic|obtain⟨$p⟩:=$t)
local macro_rules|`(tactic|have($a,$b,*):=$t)=>do let g:=fun(x:Lean.Term)=>if x.raw.isIdent then`(Lean.Parser.Tactic.rcasesPatLo|$(⟨x⟩):ident)else`(Lean.Parser.Tactic.rcasesPatLo|_);let p<-(#[a]++b.getElems).mapM fun x=>match x with|`(($c,$d,*))=>do let q<-(#[c]++d.getElems).mapM g;`(Lean.Parser.Tactic.rcasesPatLo|⟨$q,*⟩)|_=>g ⟨x⟩;`(tactic|obtain⟨$p,*⟩:=$t)
local macro_rules|`(⋯)=>`(by first|(simp;done)|lia|decide|(simp;lia)|simp_all)
local macro_rules|`(#[$a,*])=>`(⟨$a,*⟩)
local macro_rules|`(#v[$a,*])=>`(List.toArray [$a,*])
local macro_rules|`(⇑$x)=>`(($x).length)
local macro_rules|`(↥$x)=>`(($x).heap.objs.size)
local macro_rules|`(~~~$x)=>`(($x).cps.toList)
local macro_rules|`(↑$x)=>`(List $x)
local macro_rules|`($x≈$y)=>`($x=some $y)
local macro_rules|`(‹$x›)=>`(f6 (gs ($x).prog ($x).w) ($x).A)
local macro_rules|`(tactic|erw[$a,*]$[$l]?)=>do let b:Array Lean.Term:=a.getElems.map fun r=>⟨r.raw[1]⟩;`(tactic|simp only[$[$b:term],*]$[$l]?)
local macro_rules|`(tactic|exists $x)=>`(tactic|simpa using $x)
def ttt:True:=trivial
local macro_rules|`(∅)=>`(⟨⟨.own,rfl,rfl⟩,trivial⟩)
namespace L2
open PySem PySem.Spec PyProof.Rows
abbrev fS(s:ve):Arguments:=match s with
 |.FunctionDef _ a _ _ _ _ _ _ _ _=>a
 |_=>{posonlyargs:=[],args:=[],vararg:=cb,kwonlyargs:=[],kw_defaults:=[],kwarg:=cb,defaults:=[]}
abbrev bO(s:ve):↑ve:=match s with
 |.FunctionDef _ _ b _ _ _ _ _ _ _=>b
 |_=>[]
abbrev aD(s:ve):uk:=match s with
 |.FunctionDef _ _ _ _ _ _ a _ _ _=>a
 |_=>{kind:=.function,names:=[],isGenerator:=cK,isCoroutine:=cK}
end L2
namespace TM
open PySem L2 PyProof.Rows
@[reducible]noncomputable def Gx:=Obj×↑(hH×Obj)
abbrev com(n q:Str)(k l c:Nat)(r s:hH)(x y z:g8)(a b t:Nat):Obj:=#[.type "code",cb,.fields #v[.str n k,.str q (k+1),.str "/claim/cut.py" (k+2),.int l 0,.int c 0,.int 0 0,.int 0 0,.int 3 0,.ref r,.bool b6,.int t 0,.ref s,.none,x,y,z,.int a 0,.int l 0,.str "/claim/cut.py" b],#v[]]
abbrev co(n:Str)(k l c:Nat)(r s:hH)(x y z:g8)(a b t:Nat):Obj:=com n n k l c r s x y z a b t
abbrev ge(P:Yl)(x:Str)(k:Nat)(v:g8):DictEntry:=#[et P x,.str x k,v]
end TM
namespace K
open PySem L2 TM PySem.W PyProof.Rows
abbrev WE:↑Obj->Nat->BT->Option BT
 |[],_,t=>bD t
 |o::l,n,t=>match ((t.ins n o).get n).isSome with
  |true=>WE l (n+1) (t.ins n o)
  |false=>cb
theorem wK:∀{l}{n}{t t'}{a},WE l n t≈t'->absHeap t n e=⟨a,e⟩->absHeap t' (n+⇑l) e=⟨a++l,e⟩
 |[],n,t,t',a,h,k=>by
  cases h;exists k
 |o::l,n,t,t',a,h,k=>by
  unfold WE at h;cases g:((t.ins n o).get n).isSome with
  |false=>rw[g]at h;cases h
  |true =>
   rw[g]at h;have z:=wK (a:=a.push o) h (by rw[absHeap_ins g,k];rfl);rw[k9,show n+(⇑l+1)=n+1+⇑l by lia,z];simp
abbrev rT(p:sd)(w:wk)(m:Nat)(a:Option g8):Nat->SharedT->Thread->Option SharedT
 |0,_,_=>cb
 |n+1,s,t=>match through t with
  |true=>bD s
  |false=>match stepOk m a t with
   |false=>cb
   |true=>match stepT (denote X3) p w s t with
    |some (b,t')=>rT p w m a n b t'
    |none=>cb
theorem F_:∀{n}{s b}{t},rT p w m a n s t≈b->topRun X3 p w m a n s.abs t≈b.abs
 |0,_,_,_,h=>by cases h
 |n+1,s,b,t,h=>by
  unfold rT at h;unfold topRun;cases c:through t with
  |true=>rw[c]at h;cases h;rfl
  |false =>
   rw[c]at h;cases hk:stepOk m a t with
   |false=>rw[hk]at h;cases h
   |true =>
    rw[hk]at h;cases hs:stepT (denote X3) p w s t with
    |none=>rw[hs]at h;cases h
    |some r=>have(d,e):=r;rw[hs]at h;rw[stepT_spec hs];show F_ h
abbrev oT(p:sd)(w:wk)(N:Nat):Option i4:=(fencedOpening X3 p w N).bind λs=>match s.heap.isNs i5&&s.gens.size==0 with
 |true=>(WE s.heap.objs.toList 0 .nil).bind λT=>(rT p w ↥s (s.heap.nsMap i5 "__annotations__") N #[T,↥s,s.heap.life,s.gens,s.drawn,s.toks,s.os] (topStub p)).bind λu=>match staticsOk (ľ p.main.body) s.heap u.abs.heap&&namesBound p u.abs.heap&&gensDone u.abs&&laidKept s.heap u.abs.heap with
  |true=>bD u.abs
  |false=>cb
 |false=>cb
def J8(h:oT p w N≈r):openEnds X3 p w N≈r:=by
 unfold oT at h;have(s,e,h):=ki.mp h;unfold openEnds;rw[e];change topFrom X3 p w N s=_;unfold topFrom;cases g:s.heap.isNs i5&&s.gens.size==0 with
 |false=>rw[g]at h;cases h
 |true =>
  rw[g]at h;have(T,b,h):=ki.mp h;have(u,c,h):=ki.mp h;have z:=wK (e:=s.heap.life) (a:=#v[]) b rfl;have y:=F_ c;rw[show SharedT.abs #[T,↥s,s.heap.life,s.gens,s.drawn,s.toks,s.os]=s from by
   change Shared.mk (absHeap T ↥s s.heap.life) _ _ _ _=s;rw[show ↥s=0+⇑s.heap.objs.toList by simp,z];simp]at y
  change Option.bind _ _=_;rw[y];show h
abbrev top(i:Nat):ve:=if i<1000 then PySem.Challenge.pw_primer_k71_deeds_at_the_desk.main.body.getD i (.Pass #[0,0,0,0]) else match PySem.Challenge.pw_primer_k71_deeds_at_the_desk.main.body.getD (i / 1000 - 1) (.Pass #[0,0,0,0]) with|.ClassDef _ _ _ b _ _ _ _ _ _ _=>b.getD (i % 1000) (.Pass #[0,0,0,0])|_=>.Pass #[0,0,0,0]
abbrev m0:g8:=.str "primer.words" 342
abbrev m1:g8:=.str "primer.books" 385
abbrev m2:g8:=.str "primer.learning" 445
abbrev m3:g8:=.str "primer.reader" 668
abbrev m4:g8:=.str "primer.shelf" 702
abbrev m5:g8:=.str "primer.writer" 810
abbrev m6:g8:=.str "primer.desk" 825
abbrev m7:g8:=.str "law_primer_k71_deeds_at_the_desk" 938
structure Mz where
 x:Str
 y:Str
 i:Nat
 N:↑Str
 a:hH
 c:hH
 m:g8
 cr:Obj
abbrev z2(x y:Str)(i:Nat)(N:↑Str)(a c:hH)(m:g8)(k l e:Nat)(r s:hH)(u v w:g8)(d b t:Nat):Mz:=#[x,y,i,N,a,c,m,com x y k l e r s u v w d b t]
abbrev z1(x:Str)(i:Nat)(N:↑Str)(a c:hH)(m:g8)(k l e:Nat)(r s:hH)(u v w:g8)(d b t:Nat):Mz:=z2 x x i N a c m k l e r s u v w d b t
abbrev zl:Mz:=z1 "law" 108 ["_law_script","_law_drawn_here","_law_names_here","_law_desk","_law_rows","_law_past","_law_k","_law_way","_law_row","_law_behind_here","_law_due","_law_line","_law_turn_here"] 670 669 m7 1060 500 1 664 665 (.ref 666) (.ref 667) (.ref 668) 1076 1077 181
abbrev zs:↑Mz:=[z1 "is_stem" 16 ["text"] 135 134 m0 352 28 1 131 132 .none .none (.ref 133) 355 356 181,
 z1 "is_later_sense" 17 ["text"] 140 139 m0 358 32 1 136 137 .none .none (.ref 138) 361 362 181,
 z1 "is_word" 18 ["text"] 147 146 m0 364 34 1 141 142 (.ref 143) (.ref 144) (.ref 145) 368 369 181,
 z1 "stem_of" 19 ["word"] 154 153 m0 371 38 1 148 149 (.ref 150) (.ref 151) (.ref 152) 375 376 181,
 z1 "number_of" 20 ["word"] 161 160 m0 378 40 1 155 156 (.ref 157) (.ref 158) (.ref 159) 382 383 181,
 z1 "is_row" 24 ["row","told"] 166 165 m1 391 45 1 162 163 .none .none (.ref 164) 394 395 181,
 z1 "in_one_order" 25 ["row"] 173 172 m1 397 50 1 167 168 (.ref 169) (.ref 170) (.ref 171) 401 402 181,
 z1 "alike" 26 ["row","other"] 180 179 m1 404 52 2 174 175 (.ref 176) (.ref 177) (.ref 178) 409 410 181,
 z1 "gathered" 29 ["pairs","found","key","value"] 199 198 m1 427 62 1 193 194 (.ref 195) (.ref 196) (.ref 197) 434 435 181,
 z1 "places_that_tell" 32 ["book","pairs","place","row"] 211 210 m2 447 73 1 207 208 .none .none (.ref 209) 450 451 181,
 z1 "new_steps" 33 ["book","places","known","steps","place","word"] 218 217 m2 453 78 3 212 213 (.ref 214) (.ref 215) (.ref 216) 462 463 181,
 z1 "steps_in_rounds" 34 ["book","tellers","missing","known","found","ready","steps","word","place","teller"] 223 222 m2 465 85 1 219 220 .none .none (.ref 221) 468 469 181,
 z1 "order" 36 ["book","found","steps"] 235 234 m2 477 108 1 229 230 (.ref 231) (.ref 232) (.ref 233) 483 484 181,
 z1 "learnt" 37 ["book"] 240 239 m2 486 113 1 236 237 .none .none (.ref 238) 489 490 181,
 z1 "read_row" 69 ["line","parts"] 377 376 m3 672 232 1 371 372 (.ref 373) (.ref 374) (.ref 375) 677 678 181,
 z1 "read_told" 70 ["parts"] 382 381 m3 680 237 1 378 379 .none .none (.ref 380) 683 684 181,
 z1 "places_alike" 75 ["book","row"] 394 393 m4 704 259 2 390 391 .none .none (.ref 392) 707 708 181,
 z1 "gained_and_lost" 76 ["ahead","behind","known","known_then","gained","lost"] 399 398 m4 710 261 2 395 396 .none .none (.ref 397) 713 714 181,
 z2 "__init__" "Shelf.__init__" 78000 ["self"] 413 412 m4 728 269 1 407 408 (.ref 409) (.ref 410) (.ref 411) 732 733 181,
 z2 "book" "Shelf.book" 78001 ["self"] 420 419 m4 735 273 1 414 415 (.ref 416) (.ref 417) (.ref 418) 739 740 181,
 z2 "put" "Shelf.put" 78004 ["self","word","told","row"] 441 440 m4 756 282 3 435 436 (.ref 437) (.ref 438) (.ref 439) 763 764 181,
 z2 "take" "Shelf.take" 78005 ["self","word","told","places"] 448 447 m4 766 290 3 442 443 (.ref 444) (.ref 445) (.ref 446) 773 774 181,
 z2 "back" "Shelf.back" 78006 ["self"] 455 454 m4 776 296 1 449 450 (.ref 451) (.ref 452) (.ref 453) 780 781 181,
 z2 "do_deed" "Shelf.do_deed" 78007 ["self","rows"] 462 461 m4 783 301 2 456 457 (.ref 458) (.ref 459) (.ref 460) 788 789 181,
 z2 "turn_to" "Shelf.turn_to" 78008 ["self","rows","changes"] 469 468 m4 791 305 2 463 464 (.ref 465) (.ref 466) (.ref 467) 797 798 181,
 z1 "shown" 79 ["book"] 481 480 m5 812 310 1 477 478 .none .none (.ref 479) 815 816 181,
 z1 "shown_told" 80 ["told"] 488 487 m5 818 312 1 482 483 (.ref 484) (.ref 485) (.ref 486) 822 823 181,
 z1 "listed" 83 ["words"] 496 495 m6 835 318 1 490 491 (.ref 492) (.ref 493) (.ref 494) 839 840 181,
 z1 "shown_changes" 84 ["changes"] 503 502 m6 842 322 1 497 498 (.ref 499) (.ref 500) (.ref 501) 846 847 181,
 z1 "answer_at_large" 90 ["book","question"] 539 538 m6 884 354 2 533 534 (.ref 535) (.ref 536) (.ref 537) 889 890 181,
 z2 "__init__" "Desk.__init__" 92000 ["self"] 553 552 m6 904 366 1 547 548 (.ref 549) (.ref 550) (.ref 551) 908 909 181,
 z2 "say" "Desk.say" 92001 ["self","text","parts"] 560 559 m6 911 369 2 554 555 (.ref 556) (.ref 557) (.ref 558) 917 918 181,
 z2 "say_deed" "Desk.say_deed" 92002 ["self","deed","row"] 567 566 m6 920 381 3 561 562 (.ref 563) (.ref 564) (.ref 565) 926 927 181,
 z1 "_law_mix" 93 ["_law_cell_here","_law_k","_law_by"] 581 580 m7 940 386 2 575 576 (.ref 577) (.ref 578) (.ref 579) 946 947 181,
 z1 "_law_cell" 94 ["_law_script","_law_k","_law_seed"] 588 587 m7 949 389 2 582 583 (.ref 584) (.ref 585) (.ref 586) 955 956 181,
 z1 "_law_drawn" 95 ["_law_cell_here","_law_many","_law_found","_law_left","_law_k"] 595 594 m7 958 396 2 589 590 (.ref 591) (.ref 592) (.ref 593) 966 967 181,
 z1 "_law_name" 96 ["_law_drawn_here","_law_names_here","_law_letters","_law_name_here","_law_stem","_law_spare"] 600 599 m7 969 406 2 596 597 .none .none (.ref 598) 972 973 181,
 z1 "_law_names" 97 ["_law_script","_law_base","_law_many","_law_names_here","_law_k"] 607 606 m7 975 417 3 601 602 (.ref 603) (.ref 604) (.ref 605) 983 984 181,
 z1 "_law_told" 98 ["_law_drawn_here","_law_names_here","_law_top","_law_told_here","_law_k","_law_one"] 614 613 m7 986 422 2 608 609 (.ref 610) (.ref 611) (.ref 612) 995 996 181,
 z1 "_law_learnt" 99 ["_law_rows","_law_known","_law_grown","_law_word","_law_told_here"] 619 618 m7 998 432 1 615 616 .none .none (.ref 617) 1001 1002 181,
 z1 "_law_there" 100 ["_law_rows","_law_row"] 624 623 m7 1004 442 2 620 621 .none .none (.ref 622) 1007 1008 181,
 z1 "_law_text" 101 ["_law_row"] 631 630 m7 1010 444 1 625 626 (.ref 627) (.ref 628) (.ref 629) 1014 1015 181,
 z1 "_law_turn" 102 ["_law_ahead","_law_behind_here","_law_gained","_law_lost"] 636 635 m7 1017 448 2 632 633 .none .none (.ref 634) 1020 1021 181,
 z1 "_law_deed" 103 ["_law_drawn_here","_law_names_here","_law_rows","_law_row","_law_kind","_law_there_here","_law_cut"] 643 642 m7 1023 452 3 637 638 (.ref 639) (.ref 640) (.ref 641) 1033 1034 181,
 z1 "_law_behind" 104 ["_law_way","_law_row","_law_rows","_law_past","_law_there_here"] 648 647 m7 1036 466 4 644 645 .none .none (.ref 646) 1039 1040 181,
 z1 "_law_said" 105 ["_law_desk","_law_line","_law_told_here","e","_law_some"] 653 652 m7 1042 479 2 649 650 .none .none (.ref 651) 1045 1046 181,
 z1 "_law_right" 106 ["_law_desk","_law_rows","_law_known","_law_line"] 658 657 m7 1048 490 2 654 655 .none .none (.ref 656) 1051 1052 181,
 z1 "_law_own_words" 107 ["_law_names_here","_law_number","_law_own"] 663 662 m7 1054 496 2 659 660 .none .none (.ref 661) 1057 1058 181,
 zl]
abbrev fz(m:Mz):Obj:=#[.type "function",cb,.func (W.fnOf m.x m.y (fS (top m.i)) (bO (top m.i)) (aD (top m.i)) .none .none .none m.m cb (.ref m.c) .none),#v[]]
abbrev fZ(g:Gx):W.Frag:=(3,g.1)::(zs.flatMap (λm=>[(m.c,m.cr),(m.a,fz m)])++g.2)
abbrev gg(P:Yl):Obj:=#[.type "dict",cb,.dict #v[ge P "__name__" 165 (.str "law_primer_k71_deeds_at_the_desk" 938),ge P "__doc__" 166 .none,ge P "__package__" 167 .none,ge P "__loader__" 168 (.builtin "__main__.__loader__#opaque"),ge P "__spec__" 169 .none,ge P "__annotations__" 170 (.ref 6),ge P "__builtins__" 171 (.ref 4),ge P "__file__" 173 (.str "/claim/cut.py" 172),ge P "__cached__" 174 .none,ge P "_wall" 193 (.ref 21),ge P "PrimerError" 213 (.ref 31),ge P "NoText" 229 (.ref 44),ge P "Unfit" 245 (.ref 56),ge P "Unknown" 261 (.ref 68),ge P "Unlearnt" 277 (.ref 80),ge P "TooMany" 293 (.ref 92),ge P "Lacking" 309 (.ref 104),ge P "NoRow" 325 (.ref 116),ge P "NoDeed" 341 (.ref 128),ge P "LETTERS" 345 (.str "abcdefghijklmnopqrstuvwxyz" 344),ge P "LONGEST_STEM" 347 (.int 8 346),ge P "FIRST_SENSE" 349 (.int 1 348),ge P "LAST_SENSE" 351 (.int 99 350),ge P "is_stem" 357 (.ref 135),ge P "is_later_sense" 363 (.ref 140),ge P "is_word" 370 (.ref 147),ge P "stem_of" 377 (.ref 154),ge P "number_of" 384 (.ref 161),ge P "MOST_TOLD" 388 (.int 8 387),ge P "MOST_ROWS" 390 (.int 60 389),ge P "is_row" 396 (.ref 166),ge P "in_one_order" 403 (.ref 173),ge P "alike" 411 (.ref 180),ge P "words_of" 420 (.ref 187),ge P "lacking" 426 (.ref 192),ge P "gathered" 436 (.ref 199),ge P "refuse_unknown" 444 (.ref 206),ge P "places_that_tell" 452 (.ref 211),ge P "new_steps" 464 (.ref 218),ge P "steps_in_rounds" 470 (.ref 223),ge P "rounds" 476 (.ref 228),ge P "order" 485 (.ref 235),ge P "learnt" 491 (.ref 240),ge P "not_learnt" 498 (.ref 247),ge P "refuse_unlearnt" 506 (.ref 254),ge P "knot" 514 (.ref 259),ge P "with_pictures" 522 (.ref 264),ge P "suffice" 530 (.ref 271),ge P "MOST_NOT_LEARNT" 534 (.int 5 533),ge P "choices" 546 (.ref 278),ge P "fewest_words" 552 (.ref 283),ge P "paper" 558 (.ref 288),ge P "fewest" 567 (.ref 295),ge P "pairs_of" 575 (.ref 300),ge P "words_told_of" 582 (.ref 307),ge P "words_that_tell" 588 (.ref 312),ge P "reached" 599 (.ref 319),ge P "under" 607 (.ref 326),ge P "over" 615 (.ref 333),ge P "without" 623 (.ref 338),ge P "order_up_to" 635 (.ref 345),ge P "musts" 641 (.ref 350),ge P "row_price" 649 (.ref 355),ge P "prices_and_places" 655 (.ref 360),ge P "prices" 661 (.ref 365),ge P "best_rows" 667 (.ref 370),ge P "PICTURE_SIGN" 671 (.str "*" 670),ge P "read_row" 679 (.ref 377),ge P "read_told" 685 (.ref 382),ge P "DEAREST_READ" 689 (.int 2000 688),ge P "reading" 701 (.ref 389),ge P "places_alike" 709 (.ref 394),ge P "gained_and_lost" 715 (.ref 399),ge P "Shelf" 809 (.ref 472),ge P "shown" 817 (.ref 481),ge P "shown_told" 824 (.ref 488),ge P "WORD_QUESTIONS" 834 (.ref 489),ge P "listed" 841 (.ref 496),ge P "shown_changes" 848 (.ref 503),ge P "round_of" 854 (.ref 508),ge P "price_of" 862 (.ref 515),ge P "words_read" 868 (.ref 520),ge P "reason" 874 (.ref 525),ge P "answer_about" 883 (.ref 532),ge P "answer_at_large" 891 (.ref 539),ge P "Desk" 937 (.ref 570),ge P "_law_mix" 948 (.ref 581),ge P "_law_cell" 957 (.ref 588),ge P "_law_drawn" 968 (.ref 595),ge P "_law_name" 974 (.ref 600),ge P "_law_names" 985 (.ref 607),ge P "_law_told" 997 (.ref 614),ge P "_law_learnt" 1003 (.ref 619),ge P "_law_there" 1009 (.ref 624),ge P "_law_text" 1016 (.ref 631),ge P "_law_turn" 1022 (.ref 636),ge P "_law_deed" 1035 (.ref 643),ge P "_law_behind" 1041 (.ref 648),ge P "_law_said" 1047 (.ref 653),ge P "_law_right" 1053 (.ref 658),ge P "_law_own_words" 1059 (.ref 663),ge P "law" 1078 (.ref 670)] 102,#v[]]
abbrev xk(a:hH)(n:Str)(b r:hH)(t u:Tok):Obj:={cls:=.type "type",data:=.cls {name:=n,bases:=[.ref b],mro:=[.ref a,.ref b,.type "ValueError",.type "Exception",.type "BaseException",.type "object"],ns:=a - 1,qualname:=n},slots:=#v[bD (.ref r),cb,bD (.str n t),bD (.str n u),bD (.builtin "ValueError.__new__"),bD (.bool b6)]}
abbrev xo(P:Yl):↑(hH×Obj):=[(570,({cls:=.type "type",data:=.cls {name:="Desk",bases:=[.type "object"],mro:=[.ref 570,.type "object"],ns:=569,qualname:="Desk" },slots:=#v[cb,cb,bD (.str "Desk" 892),bD (.str "Desk" 900),bD (.builtin "object.__new__"),bD (.bool b6)]}:Obj)),
 (104,xk 104 "Lacking" 31 95 294 302),
 (128,xk 128 "NoDeed" 31 119 326 334),
 (116,xk 116 "NoRow" 31 107 310 318),
 (44,xk 44 "NoText" 31 35 214 222),
 (31,({cls:=.type "type",data:=.cls {name:="PrimerError",bases:=[.type "ValueError"],mro:=[.ref 31,.type "ValueError",.type "Exception",.type "BaseException",.type "object"],ns:=30,qualname:="PrimerError",subclasses:=[.ref 44,.ref 56,.ref 68,.ref 80,.ref 92,.ref 104,.ref 116,.ref 128]},slots:=#v[bD (.ref 22),cb,bD (.str "PrimerError" 196),bD (.str "PrimerError" 204),bD (.builtin "ValueError.__new__"),bD (.bool b6)]}:Obj)),
 (472,({cls:=.type "type",data:=.cls {name:="Shelf",bases:=[.type "object"],mro:=[.ref 472,.type "object"],ns:=471,qualname:="Shelf" },slots:=#v[cb,cb,bD (.str "Shelf" 716),bD (.str "Shelf" 724),bD (.builtin "object.__new__"),bD (.bool b6)]}:Obj)),
 (92,xk 92 "TooMany" 31 83 278 286),
 (56,xk 56 "Unfit" 31 47 230 238),
 (68,xk 68 "Unknown" 31 59 246 254),
 (80,xk 80 "Unlearnt" 31 71 262 270),
 (569,({cls:=.type "dict",data:=.dict #v[{hash:=et P "__module__",key:=.str "__module__" 899,val:=.str "primer.desk" 825},{hash:=et P "__firstlineno__",key:=.str "__firstlineno__" 903,val:=.int 364 902},{hash:=et P "__init__",key:=.str "__init__" 910,val:=.ref 553},{hash:=et P "say",key:=.str "say" 919,val:=.ref 560},{hash:=et P "say_deed",key:=.str "say_deed" 928,val:=.ref 567},{hash:=et P "__static_attributes__",key:=.str "__static_attributes__" 930,val:=.ref 568},{hash:=et P "__dict__",key:=.str "__dict__" 932,val:=.ref 571},{hash:=et P "__weakref__",key:=.str "__weakref__" 934,val:=.ref 572},{hash:=et P "__doc__",key:=.str "__doc__" 935,val:=.none}] 4}:Obj)),
 (103,({cls:=.type "dict",data:=.dict #v[{hash:=et P "__module__",key:=.str "__module__" 301,val:=.str "primer.errors" 194},{hash:=et P "__firstlineno__",key:=.str "__firstlineno__" 305,val:=.int 17 304},{hash:=et P "__static_attributes__",key:=.str "__static_attributes__" 306,val:=.ref 102},{hash:=et P "__doc__",key:=.str "__doc__" 307,val:=.none}] 2}:Obj)),
 (127,({cls:=.type "dict",data:=.dict #v[{hash:=et P "__module__",key:=.str "__module__" 333,val:=.str "primer.errors" 194},{hash:=et P "__firstlineno__",key:=.str "__firstlineno__" 337,val:=.int 21 336},{hash:=et P "__static_attributes__",key:=.str "__static_attributes__" 338,val:=.ref 126},{hash:=et P "__doc__",key:=.str "__doc__" 339,val:=.none}] 2}:Obj)),
 (115,({cls:=.type "dict",data:=.dict #v[{hash:=et P "__module__",key:=.str "__module__" 317,val:=.str "primer.errors" 194},{hash:=et P "__firstlineno__",key:=.str "__firstlineno__" 321,val:=.int 19 320},{hash:=et P "__static_attributes__",key:=.str "__static_attributes__" 322,val:=.ref 114},{hash:=et P "__doc__",key:=.str "__doc__" 323,val:=.none}] 2}:Obj)),
 (43,({cls:=.type "dict",data:=.dict #v[{hash:=et P "__module__",key:=.str "__module__" 221,val:=.str "primer.errors" 194},{hash:=et P "__firstlineno__",key:=.str "__firstlineno__" 225,val:=.int 7 224},{hash:=et P "__static_attributes__",key:=.str "__static_attributes__" 226,val:=.ref 42},{hash:=et P "__doc__",key:=.str "__doc__" 227,val:=.none}] 2}:Obj)),
 (30,({cls:=.type "dict",data:=.dict #v[{hash:=et P "__module__",key:=.str "__module__" 203,val:=.str "primer.errors" 194},{hash:=et P "__firstlineno__",key:=.str "__firstlineno__" 207,val:=.int 5 206},{hash:=et P "__static_attributes__",key:=.str "__static_attributes__" 208,val:=.ref 29},{hash:=et P "__weakref__",key:=.str "__weakref__" 210,val:=.ref 32},{hash:=et P "__doc__",key:=.str "__doc__" 211,val:=.none}] 3}:Obj)),
 (471,({cls:=.type "dict",data:=.dict #v[{hash:=et P "__module__",key:=.str "__module__" 723,val:=.str "primer.shelf" 702},{hash:=et P "__firstlineno__",key:=.str "__firstlineno__" 727,val:=.int 267 726},{hash:=et P "__init__",key:=.str "__init__" 734,val:=.ref 413},{hash:=et P "book",key:=.str "book" 741,val:=.ref 420},{hash:=et P "learnt_now",key:=.str "learnt_now" 748,val:=.ref 427},{hash:=et P "deeds",key:=.str "deeds" 755,val:=.ref 434},{hash:=et P "put",key:=.str "put" 765,val:=.ref 441},{hash:=et P "take",key:=.str "take" 775,val:=.ref 448},{hash:=et P "back",key:=.str "back" 782,val:=.ref 455},{hash:=et P "do_deed",key:=.str "do_deed" 790,val:=.ref 462},{hash:=et P "turn_to",key:=.str "turn_to" 799,val:=.ref 469},{hash:=et P "__static_attributes__",key:=.str "__static_attributes__" 802,val:=.ref 470},{hash:=et P "__dict__",key:=.str "__dict__" 804,val:=.ref 473},{hash:=et P "__weakref__",key:=.str "__weakref__" 806,val:=.ref 474},{hash:=et P "__doc__",key:=.str "__doc__" 807,val:=.none}] 4}:Obj)),
 (91,({cls:=.type "dict",data:=.dict #v[{hash:=et P "__module__",key:=.str "__module__" 285,val:=.str "primer.errors" 194},{hash:=et P "__firstlineno__",key:=.str "__firstlineno__" 289,val:=.int 15 288},{hash:=et P "__static_attributes__",key:=.str "__static_attributes__" 290,val:=.ref 90},{hash:=et P "__doc__",key:=.str "__doc__" 291,val:=.none}] 2}:Obj)),
 (55,({cls:=.type "dict",data:=.dict #v[{hash:=et P "__module__",key:=.str "__module__" 237,val:=.str "primer.errors" 194},{hash:=et P "__firstlineno__",key:=.str "__firstlineno__" 241,val:=.int 9 240},{hash:=et P "__static_attributes__",key:=.str "__static_attributes__" 242,val:=.ref 54},{hash:=et P "__doc__",key:=.str "__doc__" 243,val:=.none}] 2}:Obj)),
 (67,({cls:=.type "dict",data:=.dict #v[{hash:=et P "__module__",key:=.str "__module__" 253,val:=.str "primer.errors" 194},{hash:=et P "__firstlineno__",key:=.str "__firstlineno__" 257,val:=.int 11 256},{hash:=et P "__static_attributes__",key:=.str "__static_attributes__" 258,val:=.ref 66},{hash:=et P "__doc__",key:=.str "__doc__" 259,val:=.none}] 2}:Obj)),
 (79,({cls:=.type "dict",data:=.dict #v[{hash:=et P "__module__",key:=.str "__module__" 269,val:=.str "primer.errors" 194},{hash:=et P "__firstlineno__",key:=.str "__firstlineno__" 273,val:=.int 13 272},{hash:=et P "__static_attributes__",key:=.str "__static_attributes__" 274,val:=.ref 78},{hash:=et P "__doc__",key:=.str "__doc__" 275,val:=.none}] 2}:Obj))]
abbrev gx(P:Yl):Gx:=(gg P,xo P)
abbrev xa:↑hH:=[570,104,128,116,44,31,472,92,56,68,80,569,103,127,115,43,30,471,91,55,67,79]
abbrev aZ:↑hH:=3::(zs.flatMap (λm=>[m.c,m.a])++xa)
abbrev vw:sd:=view PySem.Challenge.pw_primer_k71_deeds_at_the_desk [16,17,18,19,20,24,25,26,29,32,33,34,36,37,69,70,75,76,78000,78001,78004,78005,78006,78007,78008,79,80,83,84,90,92000,92001,92002,93,94,95,96,97,98,99,100,101,102,103,104,105,106,107,108]
abbrev Tu:↑Str:=(["_wall","PrimerError","NoText","Unfit","Unknown","Unlearnt","TooMany","Lacking","NoRow","NoDeed","LETTERS","LONGEST_STEM","FIRST_SENSE","LAST_SENSE","MOST_TOLD","MOST_ROWS","words_of","lacking","refuse_unknown","rounds","not_learnt","refuse_unlearnt","knot","with_pictures","suffice","MOST_NOT_LEARNT","choices","fewest_words","paper","fewest"]:↑Str)++(["pairs_of","words_told_of","words_that_tell","reached","under","over","without","order_up_to","musts","row_price","prices_and_places","prices","best_rows","PICTURE_SIGN","DEAREST_READ","reading","Shelf","WORD_QUESTIONS","round_of","price_of","words_read","reason","answer_about","Desk"]:↑Str)
noncomputable abbrev xt(s:i4):Bool:=xlAt vw [] s&&recOk (RowW.records PySem.Challenge.rw_primer_k71_deeds_at_the_desk.row.toRowW) s
noncomputable abbrev oe(w:wk):Option i4:=oT PySem.Challenge.rw_primer_k71_deeds_at_the_desk.row.prog w 5000
noncomputable abbrev os(s:i4):=openSeen vw Tu (ľ PySem.Challenge.rw_primer_k71_deeds_at_the_desk.row.prog.main.body) xt b6 s
@[reducible]noncomputable def qF{α β:Type}(x:α×β):α:=Prod.rec (motive:=λ_=>α) (λa _=>a) x
@[reducible]noncomputable def qS{α β:Type}(x:α×β):β:=Prod.rec (motive:=λ_=>β) (λ_ a=>a) x
def QS(w):(oe w).map (λs=>qF (os s))≈(Zy vw Tu).1:=by kernel_rfl
def Qt(w):(oe w).map (λs=>qF (qS (qS (os s))))≈(Zy vw Tu).2.2.1:=by kernel_rfl
def hl4(w):(oe w).map (λs=>qF (qS (qS (qS (os s)))))≈(Zy vw Tu).2.2.2.1:=by kernel_rfl
def UE(w):(oe w).map (λs=>(qF (qS (os s)),qS (qS (qS (qS (os s)))),aZ.map s.heap.get?))≈((Zy vw Tu).2.1,(Zy vw Tu).2.2.2.2,(fZ (gx w.params)).map λp=>bD p.2):=by kernel_rfl
end K
namespace L2
open PySem PySem.Spec PyProof.Rows
@[reducible]noncomputable def Key:=Sum Int Str
abbrev mJ:Key->g8->Bool
 |.inl k,v=>ğ k v
 |.inr x,v=>Xw x v
abbrev Mt(w:wk):Key->Int
 |.inl k=>hashInt k
 |.inr x=>hashStr w x
theorem bI:∀{k}{v},mJ k v=b6->(∃i t,k=Zh i/\v=Õ i t)\/(∃x t,k=nc x/\v=y6 x t)
 |.inl i,v,h=>by
  have(t,e):=Value.isInt_shape   h;show .inl #[i,t,rfl,e]
 |.inr x,v,h=>by
  have(t,e):=Z3   h;show .inr #[x,t,rfl,e]
def yj(i)(t):mJ (.inl i) (.int i t)=b6:=by simp[mJ,ğ]
def yk(x)(t):mJ (.inr x) (.str x t)=b6:=by simp[mJ,Xw]
def G4(a b):df ((Zh a:Key)=Zh b)=(a==b):=by
 grind
def G5(a b):df ((nc a:Key)=nc b)=df (a=b):=by
 simp
def G6(a)(b):df ((Zh a:Key)=nc b)=cK:=ś (λq=>nomatch q)
def G7(a)(b):df ((nc a:Key)=Zh b)=cK:=ś (λq=>nomatch q)
abbrev bz(prog:sd)(w:wk):PySem.KeyKind prog w Key where
 is:=mJ
 hash:=Mt w
 inj:=λv a b g f=>by
  rcases bI g with⟨i,t,rfl,rfl⟩|⟨x,t,rfl,rfl⟩
  .rcases bI f with⟨j,u,rfl,e⟩|⟨y,u,rfl,e⟩
   .injection e with c _;rw[c]
   .show nomatch e
  .rcases bI f with⟨j,u,rfl,e⟩|⟨y,u,rfl,e⟩
   .show nomatch e
   .injection e with c _;rw[c]
 byValue:=λk v h=>by
  rcases bI h with⟨i,t,rfl,rfl⟩|⟨x,t,rfl,rfl⟩<;>rfl
 pyHash:=λd h=>by
  rcases bI d with⟨i,t,rfl,rfl⟩|⟨x,t,rfl,rfl⟩
  .show wpAny_pyHash_int h
  .show wpAny_pyHash_str h
 eqBool:=λl d h=>by
  rcases bI l with⟨i,t,rfl,rfl⟩|⟨x,t,rfl,rfl⟩
  .rcases bI d with⟨j,u,rfl,rfl⟩|⟨y,u,rfl,rfl⟩
   .rw[G4]at h;show ĩ h
   .rw[G6]at h;show SeqAt.EqAt.int_str i t y u _ _ _ _ h
  .rcases bI d with⟨j,u,rfl,rfl⟩|⟨y,u,rfl,rfl⟩
   .rw[G7]at h;show SeqAt.EqAt.str_int x t j u _ _ _ _ h
   .rw[G5]at h;show Ĩ h
 «strs»:=λk x t v h=>by
  rcases bI h with⟨i,u,rfl,e⟩|⟨y,u,rfl,e⟩
  .show nomatch e
  .injection e with c _
   subst c;cases v<;>rfl
def rV(prog)(w)(i)(t):(bz prog w).is (.inl i) (.int i t)=b6:=yj i t
def rW(prog)(w)(x)(t):(bz prog w).is (.inr x) (.str x t)=b6:=yk x t
inductive V where
 |Nt|bl (b:Bool)|int (i:Int)|str (x:Str)|Q6 (b:Array UInt8)|Vl (b:UInt64)|ref (a:hH)|ty (n:String)
 deriving DecidableEq
def RelV:V->g8->Prop
 |.Nt,u=>u=oD
 |.bl b,u=>u=Uu b
 |.int i,u=>∃t,u=Õ i t
 |.str x,u=>∃t,u=y6 x t
 |.Q6 b,u=>∃t,u=ġ b t
 |.Vl b,u=>∃t,u=Ġ b t
 |.ref a,u=>u=ku a
 |.ty n,u=>u=Rt n
@[reducible]noncomputable def Vals:↑V->↑g8->Prop:=Paired RelV
def Vals.length(r:Vals xs us):⇑xs=⇑us:=Paired.length r
theorem Vals.get:∀{xs}{us}{i:Nat}{x},Vals xs us->xs[i]?≈x->∃u,us[i]?≈u/\RelV x u
 |_,_,_,_,.nil,e=>by simp at e
 |_,_,0,_,.cons r _,e=>by simp at e;subst e;show#[_,rfl,r]
 |_,_,i+1,x,.cons _ t,e=>by
  have(u,b,a):=Vals.get   t (by exists e);show#[u,by assumption,a]
theorem Vals.set(r:RelV x u):∀{xs}{us} i,Vals xs us->Vals (xs.set i x) (us.set i u)
 |_,_,_,.nil=>.nil
 |_,_,0,.cons _ t=>.cons r t
 |_,_,i+1,.cons q t=>.cons q (Vals.set r i t)
theorem Vals.append:∀{xs ys}{us ws},Vals xs us->Vals ys ws->Vals (xs++ys) (us++ws)
 |_,_,_,_,.nil,s=>s
 |_,_,_,_,.cons r t,s=>.cons r (Vals.append t s)
theorem Vals.take:∀{xs}{us} n,Vals xs us->Vals (xs.take n) (us.take n)
 |_,_,0,_=>.nil
 |_,_,_+1,.nil=>.nil
 |_,_,n+1,.cons r t=>.cons r (Vals.take n t)
theorem Vals.drop:∀{xs}{us} n,Vals xs us->Vals (xs.drop n) (us.drop n)
 |_,_,0,r=>r
 |_,_,_+1,.nil=>.nil
 |_,_,n+1,.cons _ t=>Vals.drop n t
def gI:Option V->Option g8->Prop
 |some v,bD u=>RelV v u
 |none,cb=>True
 |_,_=>False
abbrev KV{κ:Type}:↑(κ×V)->↑(κ×g8)->Prop:=Paired λ(p:κ×V) (q:κ×g8)=>p.1=q.1/\RelV p.2 q.2
abbrev kV:Key->V
 |.inl i=>.int i
 |.inr x=>.str x
inductive HO where
 |lst (xs:↑V)
 |tup (xs:↑V)
 |dK (kvs:↑(Key×V))|dT (kvs:↑(↑Key×V))
 |set (S:Int->Bool) (n:Nat)
 |ins (C dx:hH) (fs:↑(Str×V))
 |own (x:hH)
 |xd (fs:↑(Str×V))
 |met (f x:hH)
 |WG (lo hi:Int)
 |Pa (o:Obj) (u:HO)
 |SH (ps:Array g8)
 |ext (φ:K2->Prop)
@[reducible]noncomputable def Hp:=hH->Option HO
abbrev upd(H:Hp)(a:hH)(o:HO):Hp:=λb=>if b=a then bD o else H b
def aj:upd H a o a≈o:=by unfold upd;simp
def ai(h:b≠a):upd H a o b=H b:=by unfold upd;rw[Ś h]
def J9{H:Hp}(h:H a≈o)(h':H b≈u)(d:o≠u):a≠b:=by
 intro e;simp_all
def av{H:Hp}(h:H a≈o)(h':H b=cb):a≠b:=by
 grind
section
variable(P:sd)(w:wk)
def cE(H:Hp)(h:K2)(a:hH):HO->Prop
 |.lst xs=>⇑xs<=c8/\∃(c:↑g8) (n:Nat),Vals xs c/\h.get? a≈{cls:=.type "list",data:=.seq c.toArray n}
 |.tup xs=>⇑xs<=c8/\∃c:↑g8,Vals xs c/\Yc h a c.toArray
 |.dK kvs=>⇑kvs<=c8/\(a==P')=cK/\∃vs,KV kvs vs/\h.DictOf (bz P w) a vs
 |.dT kvs=>⇑kvs<=c8/\(a==P')=cK/\∃xs:↑(↑Key×hH×g8),
   Paired (λ(p:↑Key×V) (q:↑Key×hH×g8)=>p.1=q.1/\H q.2.1≈.tup (p.1.map kV)/\RelV p.2 q.2.2) kvs xs /\
   ∃o es ep,h.get? a≈o/\o.ExactDict/\o.data=.dict es ep/\es.toList=xs.map (entryOfKey (YV (bz P w)))/\(xs.map (·.1)).Nodup
 |.set S n=>h.SetOf (intKind P w) a S n
 |.ins C e d=>H e≈.own a/\⇑d<=1000/\e≠a/\h.get? a≈W.instObj C e /\
   ∃b,h.Ns1 e b/\(∀f,gI (d.lookup f) (b f))/\PySem.Within b (d.map (·.1))
 |.own _=>∃o,h.get? a≈o
 |.xd d=>∃b,h.Ns1 a b/\∀f,gI (d.lookup f) (b f)
 |.WG lo hi=>∃t u v,h.get? a≈{cls:=.type "range",data:=.fields #v[.int lo t,.int hi u,.int 1 v]}
 |.Pa o u=>h.get? a≈o/\cE H h a u
 |.SH ps=>h.get? a≈{cls:=.none,data:=.fields ps}
 |.met f x=>h.get? a≈W.methodObj (.ref f) (.ref x)
 |.ext φ=>φ h/\(∃o,h.get? a≈o)/\∀g i:K2,φ g->(∀o,g.get? a≈o->i.get? a≈o)->φ i
abbrev OE(H:Hp)(h:K2):Prop:=∀a o,H a≈o->cE P w H h a o
end
def cE.lt(x:cE P w H h a o):a<h.objs.size:=by
 cases o with
 |lst xs=>have(_,_,_,_,e):=x;show hW e
 |tup xs=>have(_,_,_,p):=x;show p.lt
 |set S n=>have(o,_,_,_,e,_):=x;show hW e
 |ins C c b=>have(_,_,_,e,_):=x;show hW e
 |own y=>have(_,e):=x;show hW e
 |xd b=>have(_,(_,_,_,e,_),_):=x;show hW e
 |WG lo hi=>have(_,_,_,e):=x;show hW e
 |Pa d u=>have(e,_):=x;show hW e
 |SH ps=>show hW (x)
 |met f y=>show hW (x)
 |ext φ=>have(_,(_,e),_):=x;show hW e
 |_=>have(_,_,_,_,o,_,_,e,_):=x;show hW e
theorem Paired.G8:∀{c:↑α}{d},Paired F c d->(∀a b,F a b->G a b)->Paired G c d
 |_,_,.nil,_=>.nil
 |_,_,.cons r t,f=>.cons (f _ _ r) (Paired.G8 t f)
def cE.lO(x:cE P w H h a o)(k:∀b u,(b=a\/H b≈.own a)->h.get? b≈u->h'.get? b≈u)
  (ho:∀b,H b≈.own a->H' b≈.own a) (m:∀b xs,H b≈.tup xs->H' b≈.tup xs):cE P w H' h' a o:=by
 induction o with
 |lst xs=>have(z,i,n,r,e):=x;show#[z,i,n,r,k _ _ (.inl rfl) e]
 |tup xs=>have(z,i,r,g,e,c):=x;show#[z,i,r,g,k _ _ (.inl rfl) e,c]
 |dK kvs=>have(z,y,vs,r,g,es,ep,e,c):=x;show#[z,y,vs,r,g,es,ep,k _ _ (.inl rfl) e,c]
 |dT kvs =>
  have(z,y,xs,r,g,es,ep,e,c):=x;show#[z,y,xs,Paired.G8 r λp q z=>#[z.1,m _ _ z.2.1,z.2.2],g,es,ep,k _ _ (.inl rfl) e,c]
 |set S n=>have(g,es,ep,t,e,c):=x;show#[g,es,ep,t,k _ _ (.inl rfl) e,c]
 |ins C D s =>
  have(d,z,ne,e,j,(l,es,ep,A,c),r):=x;show#[ho _ d,z,ne,k _ _ (.inl rfl) e,j,#[l,es,ep,k _ _ (.inr d) A,c],r]
 |own y=>have(g,e):=x;show#[g,k _ _ (.inl rfl) e]
 |xd s=>have(j,(l,es,ep,e,c),r):=x;show#[j,#[l,es,ep,k _ _ (.inl rfl) e,c],r]
 |WG lo hi=>have(t,u,v,e):=x;show#[t,u,v,k _ _ (.inl rfl) e]
 |Pa g u B=>have(e,q):=x;show#[k _ _ (.inl rfl) e,B q]
 |SH ps =>
  have e:=x;show k a _ (.inl rfl) e
 |met f y =>
  have e:=x;show k a _ (.inl rfl) e
 |ext φ=>have(p,(o,e),st):=x;show#[st _ _ p λo q=>k _ _ (.inl rfl) q,#[o,k _ _ (.inl rfl) e],st]
def OE.lt(x:OE P w H h)(e:H a≈o):a<h.objs.size:=(x a o e).lt
def OE.fresh(x:OE P w H h)(e:h.objs.size<=a):H a=cb:=by
 cases q:H a with
 |none=>rfl
 |some u=>show absurd (jn (x.lt q) e) (td _)
def OE.kept(x:OE P w H h)(k:∀b u,h.get? b≈u->h'.get? b≈u):OE P w H h':=λa o e =>
 (x a o e).lO (λb u _ q=>k b u q) (λ_ q=>q) λ_ _ q=>q
def OE.laid(x:OE P w H h)(k:∀b u,h.get? b≈u->h'.get? b≈u)(f:h.objs.size<=a)(new:cE P w (upd H a o) h' a o):OE P w (upd H a o) h':=λb u e=>by
 have hn:=x.fresh f;by_cases d:b=a
 .subst d;rw[aj]at e;simp_all
 .rw[ai d]at e;show(x b u e).lO (λc v _ q=>k c v q) (λc q=>by rw[ai (av q hn)];show q) λc xs q=>by rw[ai (av q hn)];show q
abbrev Rd(H:Hp)(a:hH)(u:HO):Prop:=H a≈u\/∃o,H a≈.Pa o u
def Rd.of(h:H a≈u):Rd H a u:=.inl h
def Rd.ok(r:Rd H a u)(x:OE P w H h):cE P w H h a u:=by
 rcases r with r|⟨o,r⟩
 .show x a u r
 .have(_,q):=x a _ r;show q
def Vm:Option HO->Prop
 |some (.lst _)=>True
 |some (.dK _)=>True
 |some (.dT _)=>True
 |some (.set _ _)=>True
 |some (.ins _ _ _)=>True
 |some (.ext _)=>True
 |_=>False
def OE.write(m:OE P w H h)(a:Vm (H x))(g:e=x\/H e≈.own x)(k:∀b u,b≠e->h.get? b≈u->h'.get? b≈u)(n:∃u,h'.get? e≈u)
  (new:cE P w (upd H x i) h' x i):OE P w (upd H x i) h':=λb u q=>by
 have j:∀c y,H c≈.own y->c≠x:=λc y r z=>by subst z;rw[r]at a;show a
 have o:∀c xs,H c≈.tup xs->c≠x:=λc xs r z=>by subst z;rw[r]at a;show a
 by_cases d:b=x
 .subst d;rw[aj]at q;cases q;show new
 .rw[ai d]at q;by_cases f:b=e
  .have l:H b≈.own x:=by
    rcases g with z|z
    .show absurd (f.trans z) d
    .rw[f];show z
   rw[q]at l;cases l;have(v,p):=n;show#[v,by rw[f];show p]
  .show(m b u q).lO (λc v hc r=>k c v ?_ r) (λc r=>by rw[ai (j c b r)];show r) λc xs r=>by rw[ai (o c xs r)];show r
   rcases hc with rfl|hc
   .show f
   .rintro rfl;rcases g with z|z
    .show j c b hc z
    .rw[hc]at z;cases z;show d rfl
structure Un(fs ex:↑hH)(H H':Hp)(h h':K2):Prop where
 keep:∀b o,h.get? b≈o->H b=cb->b∉fs->b∉ex->h'.get? b≈o
 slot:∀b o,h.get? b≈o->H b=cb->b∈fs->b∉ex->∃sl,h'.get? b≈{o with slots:=sl}
 free:∀b o,h.get? b≈o->H b=cb->b∉ex->H' b=cb
 there:∀b o,h.get? b≈o->b∉ex->∃o',h'.get? b≈o'
 gQ:∀b xs,H b≈.tup xs->H' b≈.tup xs
 OF:∀b o u,H b≈.Pa o u->H' b≈.Pa o u
 ON:∀b ps,H b≈.SH ps->∃more,H' b≈.SH (ps++more)
def Un.any(u:Un e ex H i h f)(q:h.get? b≈a)(n:H b=cb)(c:b∉ex):∃g,f.get? b≈{a with slots:=g}:=by
 by_cases d:b∈e
 .show u.slot b a q n d c
 .show#[_,u.keep b a q n d c]
def Un.kept(k:∀b u,h.get? b≈u->h'.get? b≈u):Un c ex H H h h' :=
 #[λb a q _ _ _=>k b a q,λb a q _ _ _=>#[_,k b a q],λ_ _ _ n _=>n,λb a q _=>#[a,k b a q],λ_ _ q=>q,λ_ _ _ q=>q,λ_ ps q=>#[#v[],by simp_all]]
def Un.refl:Un a ex H H h h:=Un.kept λ_ _ q=>q
def Un.laid(k:∀b u,h.get? b≈u->h'.get? b≈u)(c:h.objs.size<=a)(hn:H a=cb):Un d ex H (upd H a o) h h' where
 keep:=λb u q _ _ _=>k b u q
 slot:=λb u q _ _ _=>#[_,k b u q]
 free:=λb u q n _=>by rw[ai (i9 (jn (hW q) c))];show n
 there:=λb u q _=>#[u,k b u q]
 gQ:=λb xs q=>by rw[ai (av q hn)];show q
 OF:=λb u xs q=>by rw[ai (av q hn)];show q
 ON:=λb ps q=>#[#v[],by rw[ai (av q hn),q];simp]
def Un.write(c:Vm (H x))(i:e=x\/H e≈.own x)(k:∀b u,b≠e->h.get? b≈u->h'.get? b≈u)(j:∃u,h'.get? e≈u):Un l ex H (upd H x o) h h':=by
 have f:∀b,H b=cb->b≠x:=λb n z=>by subst z;rw[n]at c;show c
 have d:∀b,H b=cb->b≠e:=λb n z=>by
  simp_all
 have a:∀b u,H b≈u->¬Vm (bD u)->b≠x:=λb u q nm z=>by simp_all
 show#[λb u q n _ _=>k b u (d b n) q,λb u q n _ _=>#[_,k b u (d b n) q],λb u q n _=>by rw[ai (f b n)];show n,λb u q _=>?_,
  λb xs q=>by rw[ai (a b _ q λz=>z)];show q,λb u xs q=>by rw[ai (a b _ q λz=>z)];show q,λb ps q=>#[#v[],by rw[ai (a b _ q λz=>z),q];simp]]
 by_cases g:b=e
 .simp_all
 .show#[u,k b u g q]
abbrev trk(h:K2)(H:Hp):↑hH:=(ib h.objs.size).filter λa=>(H a).isSome
abbrev pW(h:K2)(H:Hp):K2:=W.hideAll h (trk h H)
def yl(h)(H):(pW h H).objs.size=h.objs.size:=W.hideAll_size _ _
def Ad(e:h.get? b≈o)(n:H b=cb):(pW h H).get? b≈o :=
 W.hideAll_get _ e λa=>by
  have q:=(M'.mp a).2;simp_all
def DA(e:(pW h H).get? b≈o):h.get? b≈o/\H b=cb:=by
 have a:=W.of_hideAll _ e;show#[a,?_];cases q:H b with
 |none=>rfl
 |some x =>
  have c:b∈trk h H:=M'.mpr #[uv.mpr (hW a),by simp[q]];have z:(pW h H).get? b=cb:=W.hideAll_none _ c;simp_all
structure Mod(K:W.Frag)(mg:Str->Option g8)(base:K2):Prop where
 SJ:K.In base
 glob:base.Ns i5 mg
 blt:∃mb,base.Ns ċ mb/\∀x:Str,x≠"__name__"->mb x=sx x
 nolimit:base.NoLimit
structure Cx where
 prog:sd
 w:wk
 K:W.Frag
 mg:Str->Option g8
 base:K2
 A:Ui
 N:↑Str
 s₀:i4
 H₀:Hp
 env:Env
 outer:↑Env
 stack:↑Env
 ex:↑hH
 fn:Str->Bool
 calm:Bool
 pn:↑(hH×Obj)
 xe:g8->i4->Prop
abbrev Ot(l:↑Env):↑hH:=l.filterMap (·.frame)
noncomputable abbrev Cx.fs(X:Cx):↑hH:=Ot X.outer
abbrev Ow(a:uk)(x:Str):Prop:=a.names.lookup x≈.local\/a.names.lookup x≈.cell\/a.names.lookup x≈.free
abbrev Loc(a:uk)(x:Str):Prop:=a.names.lookup x≈.local\/a.names.lookup x≈.cell
abbrev Look(env:Env)(h:K2)(m:Str->Option g8)(x:Str)(u:g8):Prop :=
 (env.kindOf x≈.local/\m x≈u)\/((env.kindOf x≈.cell\/env.kindOf x≈.free)/\∃c,env.cells.lookup x≈c/\h.IsCell c (bD u))
structure Cx.Ok(X:Cx):Prop where
 mod:Mod X.K X.mg X.base
 kind:X.env.scope.kind=.function
 glob:X.env.globals=i5
 blt:X.env.builtins=ċ
 above:↥X.s₀<=X.env.locals
 inj:∀x y c,X.env.cells.lookup x≈c->X.env.cells.lookup y≈c->x=y
 has:∀x,(X.env.kindOf x≈.cell\/X.env.kindOf x≈.free)->∃c,X.env.cells.lookup x≈c
 Tv:∀x c,X.fn x=b6->X.env.cells.lookup x≈c->↥X.s₀<=c
 hd:X.calm=b6->X.A.handled=cb
 frames:X.A.frames≈X.stack
 UH:X.stack=X.outer\/(X.stack=X.env::X.outer/\X.env.frame≈X.env.locals)
 WH:∀b∈X.ex,b≠X.env.locals/\∀x c,X.env.cells.lookup x≈c->c≠b
 bs:∀b o,X.base.get? b≈o->X.s₀.heap.get? b≈o/\X.H₀ b=cb
 Q8:X.base.objs.size<=↥X.s₀
 P_:∀b o,X.base.get? b≈o->b∉X.ex
 QC:∀b∈X.ex,b∉X.fs
 jC:X.s₀.heap.FunFrames X.base X.outer
 R3:∀b∈X.fs,X.H₀ b=cb
structure Inv(X:Cx)(pins:↑(hH×Obj))(σ:↑(Option V))(H:Hp)(s:i4):Prop where
 ok:X.Ok
 os:s.os=X.s₀.os
 bare:VV s.gens
 base:Un X.fs X.ex X.H₀ H X.s₀.heap s.heap
 loc:∃m,s.heap.Ns X.env.locals m/\∀(i:Nat) (x:Str) (v:V),X.N[i]?≈x->σ[i]?≈bD v->Ow X.env.scope x->∃u,RelV v u/\Look X.env s.heap m x u
 cell:∀x c,X.env.cells.lookup x≈c->∃v,s.heap.IsCell c v
 free:H X.env.locals=cb
 NW:∀x c,X.env.cells.lookup x≈c->H c=cb
 pin:∀p∈X.pn++pins,s.heap.get? p.1≈p.2/\H p.1=cb/\p.1≠X.env.locals/\p.1∉X.fs/\∀v,p.2.data≠.cell v
 Nr:OE X.prog X.w H s.heap
 len:⇑σ=⇑X.N
section
variable{X:Cx}{pins:List (hH×Obj)}{σ:List (Option V)}{H H':Hp}{s:i4}{h':K2}
def Cx.Ok.Mu(a:X.Ok)(e:X.base.get? b≈o):b∉X.fs:=λc=>by
 have:=(a.jC.mem c).1;simp_all
def Inv.bs(I:Inv X pins σ H s):∀b o,X.base.get? b≈o->s.heap.get? b≈o/\H b=cb:=λb o e =>
 #[I.base.keep b o (I.ok.bs b o e).1 (I.ok.bs b o e).2 (I.ok.Mu e) (I.ok.P_ b o e),I.base.free b o (I.ok.bs b o e).1 (I.ok.bs b o e).2 (I.ok.P_ b o e)]
def Inv.bk(I:Inv X pins σ H s):∀b o,X.base.get? b≈o->s.heap.get? b≈o:=λb o e=>(I.bs b o e).1
def Inv.mod(I:Inv X pins σ H s):Mod X.K X.mg X.base:=I.ok.mod
def Inv.Pb(I:Inv X pins σ H s):X.K.In s.heap:=I.ok.mod.SJ.keeps I.bk
def Inv.lt(I:Inv X pins σ H s):X.env.locals<↥s:=let ⟨_,hn,_⟩:=I.loc;hn.lt
def Inv.sz(I:Inv X pins σ H s):↥X.s₀<=↥s:=qv I.ok.above (Q_ I.lt)
def Inv.J_(I:Inv X pins σ H s)(h:↥s<=a):a∉X.fs:=λb=>by
 have(_,o,ho,_):=I.ok.jC.mem b;show absurd (jn (hW ho) (qv I.sz h)) (td _)
def Inv.Q9(I:Inv X pins σ H s):∀x c,X.env.cells.lookup x≈c->c≠X.env.locals:=λx c e z=>by
 have(v,o,ho,b):=I.cell x c e;have(m,(d,es,ep,f,a,_),_):=I.loc;simp_all
def Inv.jC(I:Inv X pins σ H s):s.heap.FunFrames X.base X.outer:=by
 have all:∀(l:↑Env),(∀b∈Ot l,b∈X.fs)->X.s₀.heap.FunFrames X.base l->s.heap.FunFrames X.base l:=by
  intro l;induction l with
  |nil=>intro _ _;trivial
  |cons env r f =>
   intro hs hl;have(hk,(L,o,a,hn,ho,g),h):=hl;have c:=hs L (by unfold Ot;rw[O5,a];show il);have(i,e):=I.base.slot L o ho (I.ok.R3 L c) c λz=>I.ok.QC L z c;show#[hk,#[L,_,a,hn,e,g],f (λb d=>hs b (by unfold Ot;rw[O5,a];show f7 _ d)) h]
 show all _ (λ_ d=>d) I.ok.jC
def Inv.stack(I:Inv X pins σ H s):s.heap.FunFrames X.base X.stack:=by
 rcases I.ok.UH with e|⟨e,a⟩
 .rw[e];show I.jC
 .rw[e];have(m,hn,_):=I.loc;show .cons (by rw[I.ok.kind];decide) a hn ?_ I.jC;show Heap.get?_none_of_le (qv I.ok.Q8 I.ok.above)
def Inv.mK(I:Inv X pins σ H s):∀b∈Ot X.stack,b∈X.env.locals::X.fs:=λb a=>by
 rcases I.ok.UH with e|⟨e,c⟩
 .simp_all
 .rw[e]at a;unfold Ot at a;rw[O5,c]at a;show a
def Inv.iB(I:Inv X pins σ H s):∀b∈Ot X.stack,H b=cb:=λb hb=>by
 rcases eT.mp (I.mK b hb) with e|hb
 .rw[e];show I.free
 .have(_,o,ho,_):=I.ok.jC.mem hb;show I.base.free b o ho (I.ok.R3 b hb) λz=>I.ok.QC b z hb
def Inv.step{ch:↑hH}(I:Inv X pins σ H s)
  (j:∀b∈ch,(b∈X.ex\/↥X.s₀<=b)/\b≠X.env.locals/\(∀x c,X.env.cells.lookup x≈c->c≠b)/\∀p∈X.pn++pins,p.1≠b)
  (keep:∀b o,b≠X.env.locals->b∉X.fs->b∉ch->s.heap.get? b≈o->H b=cb->h'.get? b≈o)
  (slot:∀b o,b≠X.env.locals->b∈X.fs->b∉ch->s.heap.get? b≈o->H b=cb->∃G,h'.get? b≈{o with slots:=G}) (free:∀b o,b∉ch->s.heap.get? b≈o->H b=cb->H' b=cb)
  (there:∀b o,b∉ch->s.heap.get? b≈o->∃t,h'.get? b≈t)
  (gQ:∀b xs,H b≈.tup xs->H' b≈.tup xs) (OF:∀b o u,H b≈.Pa o u->H' b≈.Pa o u) (ON:∀b ps,H b≈.SH ps->∃y,H' b≈.SH (ps++y))
  (ns:∀m,s.heap.Ns X.env.locals m->h'.Ns X.env.locals m) (O:OE X.prog X.w H' h') (Q:VV g') :
  Inv X pins σ H' {s with heap:=h',gens:=g',drawn:=d',toks:=t' }:=by
 have A:∀b o,X.s₀.heap.get? b≈o->b≠X.env.locals:=λb o e=>i9 (jn (hW e) I.ok.above);have C:∀b o,X.s₀.heap.get? b≈o->b∉X.ex->b∉ch:=λb o e a h=>by
  rcases(j b h).1 with z|z
  .show a z
  .show absurd (jn (hW e) z) (td _)
 have f:∀x c,X.env.cells.lookup x≈c->∀v,s.heap.IsCell c v->h'.IsCell c v:=λx c e v T=>by
  have(o,ho,J):=T;have B:c∉ch:=λz=>(j c z).2.2.1 x c e rfl;by_cases L:c∈X.fs
  .have(G,q):=slot c o (I.Q9 x c e) L B ho (I.NW x c e);show#[_,q,J]
  .show#[o,keep c o (I.Q9 x c e) L B ho (I.NW x c e),J]
 show#[I.ok,I.os,Q,#[λb o e n h a=>?_,λb o e n h a=>?_,λb o e n a=>?_,λb o e a=>?_,λb xs e=>gQ b xs (I.base.gQ b xs e),λb o xs e=>OF b o xs (I.base.OF b o xs e),λb ps e=>?_],?_,λx c e=>?_,?_,λx c e=>?_,λp N=>?_,O,I.len]
 .show keep b o (A b o e) h (C b o e a) (I.base.keep b o e n h a) (I.base.free b o e n a)
 .have(G,g):=I.base.slot b o e n h a;have(Y,D):=slot b _ (A b o e) h (C b o e a) g (I.base.free b o e n a);show#[Y,D]
 .have(t,g):=I.base.there b o e a;show free b t (C b o e a) g (I.base.free b o e n a)
 .have(t,g):=I.base.there b o e a;show there b t (C b o e a) g
 .have(m1,g):=I.base.ON b ps e;have(m2,D):=ON b _ g;show#[m1++m2,by simp_all]
 .have(m,hn,hl):=I.loc;show#[m,ns m hn,λi x v g D e3=>?_];have(u,r,l):=hl i x v g D e3;show#[u,r,?_];rcases l with l|⟨k,c,e,z⟩
  .show .inl l
  .show .inr #[k,c,e,f x c e _ z]
 .have(v,z):=I.cell x c e;show#[v,f x c e v z]
 .have(m,(o,_,_,ho,_),_):=I.loc;show free _ o (λz=>(j _ z).2.1 rfl) ho I.free
 .have(v,o,ho,J):=I.cell x c e;show free c o (λz=>(j c z).2.2.1 x c e rfl) ho (I.NW x c e)
 .have(e,n,ne,nf,d):=I.pin p N;have B:p.1∉ch:=λz=>(j p.1 z).2.2.2 p N rfl;show#[keep p.1 p.2 ne nf B e n,free p.1 p.2 B e n,ne,nf,d]
def Inv.un(I:Inv X pins σ H s)(u:Un X.fs [] H H' s.heap h')(d:OE X.prog X.w H' h'):Inv X pins σ H' {s with heap:=h',toks:=t' }:=by
 have(m,(o,es,ep,ho,r),_):=id I.loc;have(k,f):=u.any ho I.free ⋯;show I.step   (ch:=[]) (λ_ z=>nomatch z) (λb o _ a _ e n=>u.keep b o e n a ⋯) (λb o _ a _ e n=>u.slot b o e n a ⋯) (λb o _ e n=>u.free b o e n ⋯) (λb o _ e=>u.there b o e ⋯) u.gQ u.OF u.ON (λl g=>by
  have(p,h,i,c,j):=g;rw[ho]at c;cases c;show#[_,h,i,f,j]) d I.bare
def Inv.call(I:Inv X pins σ H s)(u:Un (Ot X.stack) ch H H' s.heap h')(h:OE X.prog X.w H' h')(i:VV g')
  (f:∀b∈ch,(b∈X.ex\/↥X.s₀<=b)/\b≠X.env.locals/\(∀x c,X.env.cells.lookup x≈c->c≠b)/\∀p∈X.pn++pins,p.1≠b) :
  Inv X pins σ H' {s with heap:=h',gens:=g',drawn:=d',toks:=t' }:=by
 have(m,(o,es,ep,ho,r),_):=id I.loc;have(v,d):=u.any ho I.free λz=>(f _ z).2.1 rfl;show I.step  f (λb o d j a e n=>u.keep b o e n (λz=>(eT.mp (I.mK b z)).elim d j) a) (λb o _ _ a e n=>u.any e n a) (λb o a e n=>u.free b o e n a) (λb o a e=>u.there b o e a) u.gQ u.OF u.ON (λy k=>by
  have(A,l,q,g,t):=k;rw[ho]at g;cases g;show#[_,l,q,d,t]) h i
def Inv.turned(I:Inv X pins σ H s)(k:∀b o,b≠it->s.heap.get? b≈o->h'.get? b≈o)(hn:H it=cb)(d:it≠X.env.locals)
  (g:it∈X.ex\/↥X.s₀<=it) (h:∀x c,X.env.cells.lookup x≈c->c≠it) (i:∀p∈X.pn++pins,p.1≠it):Inv X pins σ H {s with heap:=h',toks:=t' }:=by
 have f:∀b u,H b≈u->b≠it:=λb u e z=>by simp_all
 show I.step (g':=s.gens) (d':=s.drawn) (ch:=[it]) (λb j=>?_) (λb o _ _ a e _=>k b o (λz=>a (by simp[z])) e) (λb o _ _ a e _=>#[o.slots,k b o (λz=>a (by simp[z])) e]) (λ_ _ _ _ n=>n)
  (λb o a e=>#[o,k b o (λz=>a (by simp[z])) e]) (λ_ _ e=>e) (λ_ _ _ e=>e) (λb ps e=>#[#v[],by simp_all]) (λm l=>?_) (λb u e=>?_) I.bare
 .have e:b=it:=by exists j
  subst e;show#[g,d,h,i]
 .have(o,es,ep,ho,r):=l;show#[o,es,ep,k _ o (mh d) ho,r]
 .show(I.Nr b u e).lO (λc v a q=>k c v ?_ q) (λ_ q=>q) λ_ _ q=>q;rcases a with z|z
  .rw[z];show f b u e
  .show f c _ z
def Inv.tok(I:Inv X pins σ H s)(t):Inv X pins σ H {s with toks:=t}:=I.un  (t':=t) Un.refl I.Nr
def Inv.kept(I:Inv X pins σ H s)(k:∀b u,s.heap.get? b≈u->h'.get? b≈u):Inv X pins σ H {s with heap:=h',toks:=t' }:=I.un (Un.kept k) (I.Nr.kept k)
def Inv.laid(I:Inv X pins σ H s)(k:∀b u,s.heap.get? b≈u->h'.get? b≈u)(c:↥s<=a)(new:cE X.prog X.w (upd H a o) h' a o):
  Inv X pins σ (upd H a o) {s with heap:=h',toks:=t' }:=I.un (Un.laid k c (I.Nr.fresh c)) (I.Nr.laid k c new)
def Inv.write(I:Inv X pins σ H s)(a:Vm (H x))(c:e=x\/H e≈.own x)(k:∀b u,b≠e->s.heap.get? b≈u->h'.get? b≈u)(d:∃u,h'.get? e≈u)
  (new:cE X.prog X.w (upd H x o) h' x o):Inv X pins σ (upd H x o) {s with heap:=h',toks:=t' }:=I.un (Un.write a c k d) (I.Nr.write a c k d new)
def Inv.weak(I:Inv X pins σ H s)(hl:⇑a=⇑σ)(w:∀(i:Nat) v,a[i]?≈bD v->σ[i]?≈bD v):Inv X pins a H s :=
 #[I.ok,I.os,I.bare,I.base,let ⟨m,hn,b⟩:=I.loc;⟨m,hn,λi x v c d e=>b i x v c (w i v d) e⟩,I.cell,I.free,I.NW,I.pin,I.Nr,hl.trans I.len]
def Inv.iC(I:Inv X pins σ H s)(h:∀p∈a,s.heap.get? p.1≈p.2/\H p.1=cb/\p.1≠X.env.locals/\p.1∉X.fs/\∀v,p.2.data≠.cell v):Inv X a σ H s :=
 #[I.ok,I.os,I.bare,I.base,I.loc,I.cell,I.free,I.NW,λp b=>(i7.mp b).elim (λz=>I.pin p (TN _ z)) (h p),I.Nr,I.len]
def jD{N:↑Str}(c:N.Nodup){i j:Nat}(a:N[i]?≈x)(b:N[j]?≈x):i=j:=by
 have(f,d):=eH.mp a;have(g,e):=eH.mp b;show(ê c).mp (d.trans e.symm)
def oR(I:Inv X pins σ H s)(hN:X.N.Nodup)(hi:X.N[i]?≈x)(l:Loc X.env.scope x)(r:RelV v u)
  (h:∀O,Inv X pins (σ.set i (bD v)) H O->(∃a,tE a s.heap O.heap/\(a=X.env.locals\/X.env.cells.lookup x≈a))->Q () O) (hf:X.fn x=b6\/X.env.scope.names.lookup x≈.local:=by first|show .inl rfl|show .inr rfl|assumption):f6 M A (storeName X.env x u) Q E s:=by
 have(m,hn,hl):=id I.loc;have Tw:(X.env.scope.kind==.class||(X.env.scope.kind==.module&&X.env.locals != X.env.globals))=cK:=by rw[I.ok.kind];rfl
 have G:i < ⇑σ:=by rw[I.len];show(eH.mp hi).1
 have T:=I.Q9;have f:∀{a:hH} {h':K2},(∃o,s.heap.get? a≈o/\H a=cb)->tE a s.heap h'->OE X.prog X.w H h':=λ{a h'} ha hs b ob e=>by
  have(_,_,N6):=ha;show(I.Nr b ob e).lO (λc Y t q=>(hs.2 c ?_).trans q) (λ_ q=>q) λ_ _ q=>q
  grind
 rcases l with hk|hk
 .show wpAny_storeName_local hk hn (λh' UJ hs=>?_) Tw;have(oL,_,_,R4,_):=id hn;show h _ #[I.ok,I.os,I.bare,#[λb o e n C l=>?_,λb o e n C l=>?_,I.base.free,λb o e l=>?_,I.base.gQ,I.base.OF,I.base.ON],#[_,UJ,λj y v' g B e3=>?_],λy c e=>?_,I.free,I.NW,λp hp=>?_,f #[oL,R4,I.free] hs,by exists I.len] ⟨_,hs,.inl rfl⟩
  .show(hs.2 b (i9 (jn (hW e) I.ok.above))).trans (I.base.keep b o e n C l)
  .have(sl,g):=I.base.slot b o e n C l;show#[sl,(hs.2 b (i9 (jn (hW e) I.ok.above))).trans g]
  .have(o',g):=I.base.there b o e l;show#[o',(hs.2 b (i9 (jn (hW e) I.ok.above))).trans g]
  .by_cases D:j=i
   .subst D;rw[hi]at g;cases g;rw[fx G]at B;cases B;show#[u,r,.inl #[hk,by simp]]
   .rw[hQ (mh D)]at B;have(u',r',q):=hl j y v' g B e3;show#[u',r',?_];rcases q with⟨k,e⟩|⟨k,c,e,z⟩
    .show .inl #[k,?_];have:y≠x:=λe=>D (jD hN g (e▸hi));simp[this,e]
    .show .inr #[k,c,e,z.sameBut hs (T y c e)]
  .have(Y,z):=I.cell y c e;show#[Y,z.sameBut hs (T y c e)]
  .have(e,n,ne,nf,d):=I.pin p hp;show#[(hs.2 p.1 ne).trans e,n,ne,nf,d]
 .have Qu:X.fn x=b6:=by
   simp_all
  have(c,t):=I.ok.has x (.inl hk);have(Y,z):=I.cell x c t;show wpAny_storeName_cell I.ok.kind hk t z (λh' UK hs=>?_);have(oc,ab,ac):=id z;show h {s with heap:=h' } ⟨I.ok,I.os,I.bare,⟨λb o e n C l=>?_,λb o e n C l=>?_,I.base.free,λb o e l=>?_,I.base.gQ,I.base.OF,I.base.ON⟩,⟨m,hn.sameBut hs (mh (T x c t)),λj y v' g B e3=>?_⟩,λy L e=>?_,I.free,I.NW,λp hp=>?_,f ⟨oc,ab,I.NW x c t⟩ hs,by exists I.len⟩ ⟨c,hs,.inr t⟩
  .show(hs.2 b (i9 (jn (hW e) (I.ok.Tv x c Qu t)))).trans (I.base.keep b o e n C l)
  .have(sl,g):=I.base.slot b o e n C l;show#[sl,(hs.2 b (i9 (jn (hW e) (I.ok.Tv x c Qu t)))).trans g]
  .have(o',g):=I.base.there b o e l;show#[o',(hs.2 b (i9 (jn (hW e) (I.ok.Tv x c Qu t)))).trans g]
  .by_cases D:j=i
   .subst D;rw[hi]at g;cases g;rw[fx G]at B;cases B;show#[u,r,.inr #[.inl hk,c,t,UK]]
   .rw[hQ (mh D)]at B;have(u',r',q):=hl j y v' g B e3;show#[u',r',?_];rcases q with q|⟨k,L,e,z'⟩
    .show .inl q
    .show .inr #[k,L,e,z'.sameBut hs ?_];rintro rfl;show D (jD hN g (I.ok.inj _ _ _ e t▸hi))
  .by_cases J:L=c
   .subst J;show#[_,UK]
   .have(w2,z2):=I.cell y L e;show#[w2,z2.sameBut hs J]
  .have(e,n,ne,nf,d):=I.pin p hp;show#[(hs.2 p.1 ?_).trans e,n,ne,nf,d];intro q;simp_all
def jE(I:Inv X pins σ H s)(b:X.N.Nodup)(hi:X.N[i]?≈x)(c:Loc X.env.scope x)(r:RelV v u)
  (h:∀a,Inv X pins (σ.set i (bD v)) H a->Q () a) (d:X.fn x=b6\/X.env.scope.names.lookup x≈.local:=by first|show .inl rfl|show .inr rfl|assumption):f6 M A (storeName X.env x u) Q E s :=
 oR I b hi c r (λa e _=>h a e) d
def Inv.Ga(I:Inv X pins σ H s)(ho:a.os=s.os)(u:Un (Ot X.stack) ch H H' s.heap a.heap)(d:OE X.prog X.w H' a.heap)(f:VV a.gens)
  (g:∀b∈ch,(b∈X.ex\/↥X.s₀<=b)/\b≠X.env.locals/\(∀x c,X.env.cells.lookup x≈c->c≠b)/\∀p∈X.pn++pins,p.1≠b):Inv X pins σ H' a:=by
 have(h',g',d',t',h):=a;have e:=ho;subst e;show I.call    u d f g
end
@[reducible]noncomputable def XK:=g8->Option hH->Hp->Prop
@[reducible]noncomputable def St:=↑(Option V)
@[reducible]noncomputable def VK:=V->Hp->Prop
@[reducible]noncomputable def TE:=St->Hp->VK->Prop
@[reducible]noncomputable def TT:=St->Hp->(Bool->Hp->Prop)->Prop
@[reducible]noncomputable def TA:=St->Hp->(↑V->Hp->Prop)->Prop
structure Ends where
 nx:St->Hp->Prop
 rt:VK
 bk:St->Hp->Prop:=λ_ _=>False
 ct:St->Hp->Prop:=λ_ _=>False
@[reducible]noncomputable def TS:=Ends->St->Hp->Prop
inductive EP(X:Cx)(pins:↑(hH×Obj))(σ:St)(Q:VK)(u:g8)(s':i4):Prop
 |mk (v:V) (H':Hp):Inv X pins σ H' s'->RelV v u->Q v H'->EP X pins σ Q u s'
abbrev TP(X:Cx)(pins:↑(hH×Obj))(σ:St)(Q:Bool->Hp->Prop)(b:Bool)(a:i4):Prop:=∃H',Inv X pins σ H' a/\Q b H'
inductive AP(X:Cx)(pins:↑(hH×Obj))(σ:St)(Q:↑V->Hp->Prop)(us:↑g8)(s':i4):Prop
 |mk (vs:↑V) (H':Hp):Inv X pins σ H' s'->Vals vs us->Q vs H'->AP X pins σ Q us s'
abbrev SP(X:Cx)(pins:↑(hH×Obj))(D:Ends)(f:Flow)(b:i4):Prop :=
 match f with
 |.next=>∃a H',Inv X pins a H' b/\D.nx a H'
 |.brk=>∃a H',Inv X pins a H' b/\D.bk a H'
 |.cont=>∃a H',Inv X pins a H' b/\D.ct a H'
 |.ret u=>∃v a H',Inv X pins a H' b/\RelV v u/\D.rt v H'
abbrev PE(X:Cx)(e:jw)(t:TE):Prop :=
 ∀(pins:↑(hH×Obj)) (s:i4) (σ:St) (H:Hp) (Q:VK),Inv X pins σ H s->t σ H Q->‹X› (p8 e X.env) (EP X pins σ Q) X.xe s
abbrev PT(X:Cx)(e:jw)(t:TT):Prop :=
 ∀(pins:↑(hH×Obj)) (s:i4) (σ:St) (H:Hp) (Q:Bool->Hp->Prop),Inv X pins σ H s->t σ H Q->‹X› (isTrue e X.env (p8 e X.env)) (TP X pins σ Q) X.xe s
abbrev PW(X:Cx)(e:jw)(t:TT):Prop :=
 ∀(a:Sem g8) (pins:↑(hH×Obj)) (s:i4) (σ:St) (H:Hp) (Q:Bool->Hp->Prop),Inv X pins σ H s->t σ H Q->‹X› (isTrue e X.env a) (TP X pins σ Q) X.xe s
def PW.pt(h:PW X e t):PT X e t:=h _
abbrev PA(X:Cx)(es:↑jw)(t:TA):Prop :=
 ∀(pos:Pos) (pins:↑(hH×Obj)) (s:i4) (σ:St) (H:Hp) (Q:↑V->Hp->Prop),Inv X pins σ H s->t σ H Q->‹X› (ę (vl pos (i0 es X.env))) (AP X pins σ Q) X.xe s
abbrev PS(X:Cx)(st:ve)(t:TS):Prop :=
 ∀(pins:↑(hH×Obj)) (s:i4) (σ:St) (H:Hp) (D:Ends),Inv X pins σ H s->t D σ H->‹X› (exec st X.env) (SP X pins D) X.xe s
abbrev OO(X:Cx)(st:↑ve)(t:TS):Prop :=
 ∀(pins:↑(hH×Obj)) (s:i4) (σ:St) (H:Hp) (D:Ends),Inv X pins σ H s->t D σ H->‹X› (execs st X.env) (SP X pins D) X.xe s
def Ny(h:f6 M A t Q E s)(b:∀a s,Q a s->c a s):f6 M A t c E s:=lg h b λ_ _ x=>x
def bin(j:PE X a k)(l:PE X b tb){R:V->V->Hp->Prop}(I:Inv X pins σ H s)(h:k σ H λx e=>tb σ e λy c=>R x y c)
 {Q} {f:g8->g8->Sem α}
    (m:∀v u d x y c,Inv X pins σ c d->RelV x v->RelV y u->R x y c->‹X› (f v u) Q X.xe d) :
    ‹X› (p8 a X.env) (λv n=>‹X› (p8 b X.env) (λu o=>‹X› (f v u) Q X.xe o) X.xe n) X.xe s:=by
  show Ny (j pins s σ H _ I h) λv s1 g=>?_;have(x,e,p,q,r):=g;show Ny (l pins s1 σ e _ p r) λu d i=>?_;have(y,c,t,z,B):=i;show m v u d x y c t q z B
abbrev lP(i:Nat):TE:=λσ H Q=>∃v,σ[i]?≈bD v/\Q v H
abbrev tC(v:V):TE:=λ_ H Q=>Q v H
def a9(g:X.N[i]?≈x)(j:Ow X.env.scope x)(b:(x==("__debug__":Str))=cK:=by decide)(k:(x==("__classdict__":Str))=cK:=by decide):PE X (.Name x pos) (lP i):=by
 intro pins s σ H Q I h;have(v,e,h):=h;have(m,hn,hl):=I.loc;have(u,r,l):=hl i x v g e j;have a:EP X pins σ Q u s:=#[v,H,I,r,h]
 rcases l with⟨hk,n⟩|⟨hk,c,d,f⟩
 .show ą (wpAny_loadName_local I.ok.kind hk hn n a) b
 .rcases hk with hk|hk
  .show ą (wpAny_loadName_cell I.ok.kind hk d f a) b
  .show ą (wpAny_loadName_free I.ok.kind hk d f a k) b
def mL:PE X (.Constant (.int i) j pos) (tC (.int i)):=λ_ _ _ H _ I h=>wpAny_Constant_int #[.int i,H,I.tok _,#[_,rfl],h]
def Ae:PE X (.Constant (.bool b) j pos) (tC (.bl b)):=λ_ _ _ H _ I h=>Constant_bool #[.bl b,H,I,rfl,h]
def uw:PE X (.Constant .none j pos) (tC .Nt):=λ_ _ _ H _ I h=>Constant_none #[.Nt,H,I,rfl,h]
def uA:PE X (.Constant (.str x) j pos) (tC (.str x)):=λ_ _ _ H _ I h=>Uw #[.str x,H,I.tok _,#[_,rfl],h]
abbrev Gl(X:Cx)(x:Str):Prop:=X.env.kindOf x≈.globalImplicit
def eD(I:Inv X pins σ H s)(a:Gl X x)(b:X.mg x≈u)(h:Q u s)
  (c:(x==("__debug__":Str))=cK:=by decide):‹X› (p8 (.Name x pos) X.env) Q E s :=
 YJ I.ok.kind a (Calls.loadGlobal_global (by rw[I.ok.glob];show I.mod.glob.keeps I.bk) b h) c
def dB(I:Inv X pins σ H s)(a:Gl X x)(b:X.mg x=cb)(c:sx x≈u)(h:Q u s)
  (hn:x≠"__name__":=by decide) (d:(x==("__debug__":Str))=cK:=by decide):‹X› (p8 (.Name x pos) X.env) Q E s:=by
 have(g,e,f):=I.mod.blt;show YJ I.ok.kind a (Calls.loadGlobal_builtin (by rw[I.ok.glob];show I.mod.glob.keeps I.bk) b (by rw[I.ok.blt];show e.keeps I.bk) ((f x hn).trans c) h) d
def DB(a:Gl X x)(b:X.mg x≈u)(r:RelV v u)(c:(x==("__debug__":Str))=cK:=by decide):PE X (.Name x pos) (tC v) :=
 λ_ _ _ H _ I h=>eD I a b #[v,H,I,r,h] c
def wL(a:Gl X x)(b:X.mg x=cb)(c:sx x≈u)(r:RelV v u)(hn:x≠"__name__":=by decide)(d:(x==("__debug__":Str))=cK:=by decide):PE X (.Name x pos) (tC v) :=
 λ_ _ _ H _ I h=>dB I a b c #[v,H,I,r,h] hn d
abbrev PC(X:Cx)(op:Ħ)(a b:jw)(t:TE):Prop :=
 ∀(pins:↑(hH×Obj)) (s:i4) (σ:St) (H:Hp) (Q:VK),Inv X pins σ H s->t σ H Q ->
  ‹X› (p8 a X.env) (λv c=>‹X› (p8 b X.env) (λu d=>‹X› (y0 op v u) (EP X pins σ Q) X.xe d) X.xe c) X.xe s
abbrev tB(t:TE):TT:=λσ H Q=>t σ H λx a=>∃c,x=.bl c/\Q c a
def Af(h:PC X op a b t)(e:RW op b=cK:=by first|show m _ ⋯ ⋯|rfl):PT X (.Compare a [op] [b] pos) (tB t):=by
 intro pins s σ H Q I f;show Qz (Ny (h pins s σ H _ I f) λv s1 e=>Ny e λu n g=>Ny g λc o ⟨x,i,j,k,l⟩=>?_) e;have(d,rfl,q):=l;cases k;show q9 #[i,j,q]
def Ag(h:PE X e t)(b:∀a,isTrue e X.env a=(do let v <-a;Wx e.pos;KX [v] (ć v)):=by intro _;rfl):PT X e (tB t):=by
 intro pins s σ H Q I c;show isTrue_plain (Ny (h pins s σ H _ I c) λv s1 ⟨x,f,g,i,j⟩=>?_) (b _);have(d,rfl,q):=j;cases i;show q9 #[f,g,q]
abbrev Ka(t u:TT):TT:=λσ H Q=>t σ H λc a=>if c=b6 then u σ a Q else Q cK a
abbrev tOr(t u:TT):TT:=λσ H Q=>t σ H λc a=>if c=b6 then Q b6 a else u σ a Q
abbrev Mw(t:TT):TT:=λσ H Q=>t σ H λc a=>Q (!c) a
def wM(b:PT X a d):PW X (.BoolOp .And [a] pos) d:=by
 intro f pins s σ H Q I h;show isTrue_and (Ny (b pins s σ H Q I h) λc s1 e=>?_);cases c with
 |true=>show ŕ e
 |false=>show e
def G9(b:PT X a d):PW X (.BoolOp .Or [a] pos) d:=by
 intro f pins s σ H Q I h;show isTrue_or (Ny (b pins s σ H Q I h) λc s1 e=>?_);cases c with
 |false=>show isTrue_or_nil e
 |true=>show e
def Ah(j:PT X a k)(l:PW X (.BoolOp .And (b::d) pos) m):PW X (.BoolOp .And (a::b::d) pos) (Ka k m):=by
 intro n pins s σ H Q I h;show isTrue_and (Ny (j pins s σ H _ I h) λc s1 e=>?_);have(f,g,i):=e;cases c with
 |true=>show l n pins s1 σ f Q g i
 |false=>show#[f,g,i]
def Kb(j:PT X a k)(l:PW X (.BoolOp .Or (b::d) pos) m):PW X (.BoolOp .Or (a::b::d) pos) (tOr k m):=by
 intro n pins s σ H Q I h;show isTrue_or (Ny (j pins s σ H _ I h) λc s1 e=>?_);have(f,g,i):=e;cases c with
 |true=>show#[f,g,i]
 |false=>show l n pins s1 σ f Q g i
def G_(b:PT X a c):PT X (.UnaryOp .Not a pos) (Mw c):=by
 intro pins s σ H Q I h;show isTrue_not (b pins s σ H _ I h)
abbrev Kc(b tb:TE):TE:=λσ H Q=>b σ H λx a=>∃c,x=.bl c/\if c=b6 then tb σ a Q else Q (.bl cK) a
abbrev Ke(a:TE):TE:=λσ H Q=>a σ H λx b=>∃c,x=.bl c/\Q (.bl (!c)) b
def Ha(h:PE X a t):PE X (.BoolOp op [a] pos) t:=λpins s σ H Q I b=>BoolOp_one (h pins s σ H Q I b)
def Hb(j:PE X a k)(l:PE X (.BoolOp .And (b::d) pos) tb):PE X (.BoolOp .And (a::b::d) pos) (Kc k tb):=by
 intro pins s σ H Q I h;show BoolOp_and (Ny (j pins s σ H _ I h) λv s1 f=>?_);have(x,g,i,m,e):=f;have(c,rfl,e):=e;cases m;show q9 ?_;cases c with
 |true=>show l pins s1 σ g Q i e
 |false=>show#[.bl _,g,i,rfl,e]
def Hc(e:PE X a f):PE X (.UnaryOp .Not a pos) (Ke f):=by
 intro pins s σ H Q I h;show UnaryOp_ (Ny (e pins s σ H _ I h) λv s1 b=>?_);have(x,g,i,j,d):=b;have(c,rfl,d):=d;cases j;show not_of (q9 #[.bl (!c),g,i,rfl,d])
abbrev N5(K:W.Frag)(H:Hp)(a:hH)(xs:↑V):Prop :=
 Rd H a (.lst xs) \/
  ∃(o:Obj) (b:Array g8) (n:Nat),K.lookup a≈o/\o.cls=.type "list"/\o.dict=cb/\o.data=.seq b n/\b.size<=c8/\Vals xs b.toList
abbrev Oc(K:W.Frag)(H:Hp)(a:hH)(xs:↑V):Prop :=
 Rd H a (.tup xs) \/
  ∃(o:Obj) (b:Array g8) (n:Nat),K.lookup a≈o/\o.cls=.type "tuple"/\o.data=.seq b n/\b.size<=c8/\Vals xs b.toList
abbrev Mx:g8->Option V
 |.none=>bD .Nt
 |.bool b=>bD (.bl b)
 |.int i _=>bD (.int i)
 |.str x _=>bD (.str x)
 |.bytes b _=>bD (.Q6 b)
 |.float b _=>bD (.Vl b)
 |.ref a=>bD (.ref a)
 |.type n=>bD (.ty n)
 |_=>cb
def RelV.abs(r:RelV x u):Mx u≈x:=by
 cases x with
 |Nt=>cases r;rfl
 |bl _=>cases r;rfl
 |ref _=>cases r;rfl
 |ty _=>cases r;rfl
 |_=>have(t,rfl):=r;rfl
def RelV.inj(r:RelV x u)(q:RelV y u):x=y:=vu (r.abs.symm.trans q.abs)
theorem Vals.inj:∀{xs ys}{us},Vals xs us->Vals ys us->xs=ys
 |_,_,_,.nil,.nil=>rfl
 |_,_,_,.cons r t,.cons a t'=>by rw[r.inj a,Vals.inj t t']
def N5.of{K}(h:H a≈.lst xs):N5 K H a xs:=.inl (.inl h)
def Oc.of{K}(h:H a≈.tup xs):Oc K H a xs:=.inl (.inl h)
inductive IvL(s:i4)(a:hH)(xs:↑V):Prop
 |mk (J':↑g8):Vals xs J'->PlainL s.heap a J'.toArray->⇑xs<=c8->IvL s a xs
def Inv.list(I:Inv X pins σ H s)(h:N5 X.K H a xs):IvL s a xs:=by
 rcases h with h|⟨o,b,n,hk,c,d,hs,hz,r⟩
 .have(z,b,n,r,e):=h.ok I.Nr;show#[b,r,#[_,n,e,rfl,rfl,rfl],z]
 .show#[b.toList,r,#[o,n,I.Pb a o hk,c,d,by exists hs],?_];have e:=⇑r;erw[p7]at e;lia
inductive IvT(s:i4)(a:hH)(xs:↑V):Prop
 |mk (J':↑g8):Vals xs J'->Yc s.heap a J'.toArray->⇑xs<=c8->IvT s a xs
def Inv.tuple(I:Inv X pins σ H s)(h:Oc X.K H a xs):IvT s a xs:=by
 rcases h with h|⟨o,b,n,hk,c,hs,hz,r⟩
 .have(z,b,r,p):=h.ok I.Nr;show#[b,r,p,z]
 .show#[b.toList,r,#[o,I.Pb a o hk,c,n,by exists hs],?_];have e:=⇑r;erw[p7]at e;lia
def Inv.mM(I:Inv X pins σ H s)(h:N5 X.K H a xs)(h':N5 X.K H a ys):xs=ys:=by
 have(b,r,(o,n,e,_,_,d),_):=I.list h;have(its',c,(f,g,i,_,_,d'),_):=I.list h';have:b=its':=⋯
 subst this;show r.inj c
def Inv.oS(I:Inv X pins σ H s)(h:Oc X.K H a xs)(h':Oc X.K H a ys):xs=ys:=by
 have(b,r,(o,e,_,n,d),_):=I.tuple h;have(its',c,(f,g,_,i,d'),_):=I.tuple h';have:b=its':=⋯
 subst this;show r.inj c
@[reducible]noncomputable def Cx.gL(X:Cx)(E:g8->i4->Prop):Cx:={X with xe:=E}
@[reducible]noncomputable def Cx.OU(X:Cx):Cx:=X.gL λ_ _=>False
def Cx.Ok.gL{X:Cx}(a:X.Ok)(E):(X.gL E).Ok :=
 #[a.mod,a.kind,a.glob,a.blt,a.above,a.inj,a.has,a.Tv,a.hd,a.frames,a.UH,a.WH,a.bs,a.Q8,a.P_,a.QC,a.jC,a.R3]
def Cx.Ok.dC{X:Cx}(a:(X.gL E).Ok):X.Ok :=
 #[a.mod,a.kind,a.glob,a.blt,a.above,a.inj,a.has,a.Tv,a.hd,a.frames,a.UH,a.WH,a.bs,a.Q8,a.P_,a.QC,a.jC,a.R3]
def Inv.gL(I:Inv X pins σ H s)(E):Inv (X.gL E) pins σ H s:=#[I.ok.gL E,I.os,I.bare,I.base,I.loc,I.cell,I.free,I.NW,I.pin,I.Nr,I.len]
def Inv.dC(I:Inv (X.gL E) pins σ H s):Inv X pins σ H s:=#[I.ok.dC,I.os,I.bare,I.base,I.loc,I.cell,I.free,I.NW,I.pin,I.Nr,I.len]
def SP.dC(h:SP (X.gL E) pins D f b):SP X pins D f b:=by
 cases f with
 |ret u=>have(v,a,H',I,r,q):=h;show#[v,a,H',I.dC,r,q]
 |_=>have(a,H',I,q):=h;show#[a,H',I.dC,q]
def OO.OU{st}(h:OO X.OU st t):OO X st t:=λpins s σ H D I a =>
 lg (h pins s σ H D (I.gL _) a) (λ_ _ q=>q.dC) λ_ _ z=>Hf z
section
variable{X:Cx}{st:ve}{rest:List ve}{t u:TS}{e:jw}{te:TE}{pos:Pos}
abbrev Ai:TS:=λD σ H=>D.nx σ H
abbrev Hd(t u:TS):TS:=λD σ H=>t {D with nx:=u D} σ H
def iD:OO X [] Ai:=λ_ _ σ H _ I h=>R0 #[σ,H,I,h]
def dw(a:PS X st t)(b:OO X rest u):OO X (st::rest) (Hd t u):=by
 intro pins s σ H D I h;show YU (Ny (a pins s σ H _ I h) λf s1 q=>?_);cases f with
 |next =>
  have(c,H',d,q):=q;show b pins s1 c H' D d q
 |_=>show q
def Inv.quiet(I:Inv X pins σ H s):interactive X.env=cK:=by simp[interactive,I.ok.kind]
abbrev Aj(te:TE):TS:=λD σ H=>te σ H λ_ a=>D.nx σ a
def iE(a:PE X e te)(hs:Qv e cb pos.line X.env=pure cK:=by rfl):PS X (.Expr e pos) (Aj te):=by
 intro pins s σ H D I h;show wpAny_Expr_any (Ny (a pins s σ H _ I h) λv s1 ⟨x,b,c,f,d⟩=>#[σ,b,c,d]) I.quiet hs
abbrev My(te:TE):TS:=λD σ H=>te σ H D.rt
def He(a:PE X e te):PS X (.Return (bD e) pos) (My te):=by
 intro pins s σ H D I h;show YD (Ny (a pins s σ H _ I h) λv s1 ⟨x,b,c,d,f⟩=>#[x,σ,b,c,d,f])
abbrev Kf(c:TT)(t u:TS):TS:=λD σ H=>c σ H λb a=>if b=b6 then t D σ a else u D σ a
def Ge(k:PT X c l)(m:OO X a t)(n:OO X b u):PS X (.If c a b pos) (Kf l t u):=by
 intro pins s σ H D I h;show wpAny_If (Ny (k pins s σ H _ I h) λd s1 f=>?_);have(g,i,j):=f;cases d with
 |true=>show m pins s1 σ g D i j
 |false=>show n pins s1 σ g D i j
end
@[reducible]noncomputable def TG:=V->St->Hp->(St->Hp->Prop)->Prop
@[reducible]noncomputable def UL:=↑V->St->Hp->(St->Hp->Prop)->Prop
abbrev PG(X:Cx)(a:jw)(t:TG):Prop :=
 ∀(pins:↑(hH×Obj)) (s:i4) (σ:St) (H:Hp) (v:V) (u:g8) (Q:St->Hp->Prop),Inv X pins σ H s->RelV v u->t v σ H Q ->
  ‹X› (Vj a X.env u) (λ_ c=>∃b H',Inv X pins b H' c/\Q b H') X.xe s
abbrev Vs(X:Cx)(ts:↑jw)(t:UL):Prop :=
 ∀(pins:↑(hH×Obj)) (s:i4) (σ:St) (H:Hp) (vs:↑V) (us:↑g8) (Q:St->Hp->Prop),Inv X pins σ H s->Vals vs us->t vs σ H Q ->
  ‹X› (assignInOrder ((Se ts X.env).map (·.2)) us) (λ_ b=>∃a H',Inv X pins a H' b/\Q a H') X.xe s
@[reducible]noncomputable def Hg:=V->V->V->Hp->(Hp->Prop)->Prop
abbrev pX(X:Cx)(t:Hg):Prop :=
 ∀(pins:↑(hH×Obj)) (s:i4) (σ:St) (H:Hp) (o i v:V) (a b u:g8) (Q:Hp->Prop),Inv X pins σ H s->RelV o a->RelV i b->RelV v u->t o i v H Q ->
  ‹X› (WB a b u) (λ_ c=>∃H',Inv X pins σ H' c/\Q H') X.xe s
@[reducible]noncomputable def XE:=V->V->Hp->VK->Prop
abbrev WJ(X:Cx)(op:ö)(t:XE):Prop :=
 ∀(pins:↑(hH×Obj)) (s:i4) (σ:St) (H:Hp) (x y:V) (v u:g8) (Q:VK),Inv X pins σ H s->RelV x v->RelV y u->t x y H Q ->
  ‹X› (inplaceOp op v u) (EP X pins σ Q) X.xe s
abbrev kU(i:Nat):TG:=λv σ H Q=>Q (σ.set i (bD v)) H
def pY(a:X.N.Nodup)(hi:X.N[i]?≈x)(b:Loc X.env.scope x)(c:X.fn x=b6\/X.env.scope.names.lookup x≈.local:=by first|show .inl rfl|show .inr rfl|assumption):PG X (.Name x pos) (kU i):=by
 intro pins s σ H v u Q I r h;show ė (jE I a hi b r (λe d=>#[_,H,d,h]) c)
abbrev Kg:UL:=λvs σ H Q=>vs=[]/\Q σ H
abbrev Gf(t:TG)(u:UL):UL:=λvs σ H Q=>∃v r,vs=v::r/\t v σ H λa H'=>u r a H' Q
def DC:Vs X [] Kg:=by
 intro pins s σ H vs us Q I r h;have(e,h):=h;show assignInOrder_nil #[σ,H,I,h]
def Ak(b:PG X e t)(c:Vs X es u)
  (hs:(Se (e::es) X.env).map (·.2)=Vj e X.env::(Se es X.env).map (·.2):=by rfl):Vs X (e::es) (Gf t u):=by
 intro pins s σ H vs us Q I r h;have(v,l,d,h):=h;subst d;cases r with
 |cons r f =>
  rw[hs];show assignInOrder_cons (Ny (b pins s σ H _ _ _ I r h) λ_ s1 a=>?_);have(g,i,j,k):=a;show c pins s1 g i _ _ Q j f k
abbrev MA(K:W.Frag)(n:Nat)(t:UL):TG:=λv σ H Q=>∃a xs,v=.ref a/\Oc K H a xs/\⇑xs=n/\t xs σ H Q
def Hh(d:X.calm=b6)(h:Vs X es t)
  (hn:⇑(Se es X.env)=n:=by rfl) (f:(Se es X.env).findIdx? (·.1)=cb:=by rfl):PG X (.Tuple es k pos) (MA X.K n t):=by
 intro pins s σ H v u Q I r c;have(a,xs,g,i,hl,c):=c;subst g;cases r;have(p,rv,j,hz):=I.tuple i;show assign_Tuple_tuple (I.ok.hd d) j (by simp[hn,<-hl,⇑rv]) f λh' l=>?_;have m:=I.kept (t':=s.toks) λb o e=>l b o (i9 (hW e)) e;show h pins _ σ H xs _ Q m ⋯ c
abbrev MB(a b:TE)(t:Hg):TG:=λv σ H Q=>a σ H λo c=>b σ c λi d=>t o i v d λe=>Q σ e
def Al(ho:PE X o d)(hi:PE X i e)(hs:pX X t)
  (f:∀v,Vj (.Subscript o i pos) X.env v=(do
   let a <-KX [v] (p8 o X.env)
   let b <-KX [v,a] (p8 i X.env)
   Wx pos
   KX [v,a,b] (WB a b v)
   YE [v,a,b] []):=by intro _;rfl):PG X (.Subscript o i pos) (MB d e t):=by
 intro pins s σ H v u Q I r h;rw[f];show cL (tv (Ny (ho pins s σ H _ I h) λa s1 c=>?_));have(x,g,j,k,l):=c;show cL (tv (Ny (hi pins s1 σ g _ j l) λb m n=>?_));have(y,p,q,w,z):=n;show cL (Z9 (cL (tv (Ny (hs pins m σ p x y v a b u _ q k w r z) λ_ G A=>?_))));have(B,C,D):=A;show wpAny_release #[σ,B,C,D]
abbrev ym(a:TE)(g:TG):TS:=λD σ H=>a σ H λx b=>g x σ b D.nx
def uB(a:PE X e b)(c:PG X tg g)(hs:V3 [tg] e pos.line X.env=pure cK:=by rfl)(d:Ya [tg] e X.env=pure cb:=by rfl)
  (f:(Se [tg] X.env).map (·.2)=[Vj tg X.env]:=by rfl):PS X (.Assign [tg] e pos) (ym b g):=by
 intro pins s σ H D I h;show wpAny_Assign_stores (Ny (a pins s σ H _ I h) λv s1 ⟨x,i,j,k,l⟩=>?_) hs d;rw[f];show Ny (c pins s1 σ i x v _ j k l) λ_ m q=>q
def mO(b:X.N.Nodup)(hi:X.N[i]?≈x)(c:Loc X.env.scope x)(d:PE X e f)(hs:Qv e (bD (.Name x a)) pos.line X.env=pure cK:=by rfl)(g:X.fn x=b6\/X.env.scope.names.lookup x≈.local:=by first|show .inl rfl|show .inr rfl|assumption):
  PS X (.Assign [.Name x a] e pos) (ym f (kU i)):=by
 intro pins s σ H D I h;show Ę (Ny (d pins s σ H _ I h) λv s1 ⟨y,j,k,l,m⟩=>?_) hs;show jE k b hi c l (λo n=>#[_,j,n,m]) g
abbrev Kh(a b c:TE)(d:V->V->Hp->VK->Prop)(e:XE)(f:Hg):TS:=λD σ H=>a σ H λo g=>b σ g λi h=>d o i h λx j=>c σ j λy k=>e x y k λz l=>f o i z l λm=>D.nx σ m
abbrev Ki(X:Cx)(t:V->V->Hp->VK->Prop):Prop :=
 ∀(pins:↑(hH×Obj)) (s:i4) (σ:St) (H:Hp) (o i:V) (a b:g8) (Q:VK),Inv X pins σ H s->RelV o a->RelV i b->t o i H Q ->
  ‹X› (UQ a b) (EP X pins σ Q) X.xe s
def DF(ho:PE X o l)(hi:PE X i m)(n:Ki X p)(q:PE X e r)(t:WJ X op u)(hs:pX X w)
  (x:∀a b new,Ŏ i a b new=(do KX [new,a,b] (WB a b new);YE [new,a,b] [];pure .next):=by intros;rfl):PS X (.AugAssign (.Subscript o i d) op e pos) (Kh l m r p u w):=by
 intro pins s σ H D I h;show wpAny_AugAssign_SubscriptAny (Ny (ho pins s σ H _ I h) λa s1 ⟨f,y,z,g,A⟩=>?_) x;show Ny (hi pins s1 σ y _ z A) λb B C=>?_;have(j,G,J,k,L):=C;show Ny (n pins B σ G f j a b _ J g k L) λc N O=>?_;have(Q,T,Y,r3,q3):=O;show Ny (q pins N σ T _ Y q3) λv s4 XM=>?_;have(x4,H4,I4,r4,q4):=XM;show Ny (t pins s4 σ H4 Q x4 c v _ I4 r3 r4 q4) λnew s5 XN=>?_;have(x5,H5,I5,r5,q5):=XN;show Ny (hs pins s5 σ H5 f j x5 a b new _ I5 g k r5 q5) λ_ s6 ⟨H6,I6,q6⟩=>#[σ,H6,I6,q6]
abbrev XO(f:Int->Int->Int):XE:=λx y H Q=>∃i j,x=.int i/\y=.int j/\Q (.int (f i j)) H
def Hi:WJ X .Add (XO λi j=>i+j):=by
 intro pins s σ H x y v u Q I a b h;have(i,j,c,d,q):=h;subst c;subst d;have(t,rfl):=a;have(t',rfl):=b;show iadd_int #[.int _,H,I.tok _,#[_,rfl],q]
def Hj:WJ X .Sub (XO λi j=>i - j):=by
 intro pins s σ H x y v u Q I a b h;have(i,j,c,d,q):=h;subst c;subst d;have(t,rfl):=a;have(t',rfl):=b;show isub_int #[.int _,H,I.tok _,#[_,rfl],q]
abbrev Hk(c:TT)(tb:TS):TS:=λD σ H=>∃W:Nat->St->Hp->Prop,(∃m,W m σ H)/\∀m σ H,W m σ H ->
 c σ H λb a=>if b=b6 then ∃N:St->Hp->Prop,(∀d H',N d H'->∃e,e<m/\W e d H')/\tb {D with nx:=N,ct:=N,bk:=D.nx} σ a else D.nx σ a
def Am(q:YY (gs X.prog X.w) X.A X.env X.xe)(y:PT X c z)(B:OO X body tb):PS X (.While c body [] pos) (Hk z tb):=by
 intro pins s σ H D I h;have(W,(m0,C),a):=h;show wpAny_While (codeAny_whileLoop (λn G=>∃r H',Inv X pins r H' G/\W n r H') ?_ m0 ⟨σ,H,I,C⟩);rintro n s1 ⟨g,t,J,L⟩;show Qq q (Ny (y pins s1 g t _ J (a n g t L)) λb O Q=>?_);have(u,v,i):=Q;cases b with
 |true =>
  have(N,x,i):=i;show Qq q (Ny (B pins O g u _ v i) λf T j=>?_);cases f with
  |next =>
   have(d,e,k,l):=j;have(m,o,p):=x d e l;show#[m,o,d,e,k,p]
  |cont =>
   have(d,e,k,l):=j;have(m,o,p):=x d e l;show#[m,o,d,e,k,p]
  |_=>show j
 |false =>
  show R0 #[g,u,v,i]
structure It where
 go:Nat->Hp->Prop
 UM:Nat->Hp->V->Hp->Prop
 stop:Nat->Hp->Prop
abbrev gJ(X:Cx)(pins:↑(hH×Obj))(H:Hp)(b:hH):Prop :=
 H b=cb/\b≠X.env.locals/\b∉X.fs/\(b∈X.ex\/↥X.s₀<=b)/\(∀x c,X.env.cells.lookup x≈c->c≠b)/\∀p∈X.pn++pins,p.1≠b
def Inv.yn(I:Inv X pins σ H s)(a:↥s<=b)(hn:H' b=cb):gJ X pins H' b:=by
 show#[hn,DD (jn I.lt a),I.J_ a,.inr (qv I.sz a),λx c e z=>?_,λp d z=>?_]
 .have(v,q):=I.cell x c e;show absurd (jn q.lt ⋯) (td _)
 .show absurd (jn (hW (I.pin p d).1) ⋯) (td _)
structure Turn(P:sd)(w:wk)(K:W.Frag)(tg:jw)(J:It)(fp:↑hH)(it:hH)(tn:Nat->K2->Prop):Prop where
 mem:it∈fp
 obj:∀i h,tn i h->∀b∈fp,∃o,h.get? b≈o/\∀v,o.data≠.cell v
 keep:∀i h h',tn i h->(∀b∈fp,∀o,h.get? b≈o->h'.get? b≈o)->tn i h'
 item:∀(X:Cx),X.prog=P->X.w=w->X.K=K->X.calm=b6->∀(i:Nat) (pins:↑(hH×Obj)) (s:i4) (σ:St) (H:Hp) (E:g8->i4->Prop),Inv X pins σ H s->(∀b∈fp,gJ X pins H b)->tn i s.heap->J.go i H ->
  f6 (gs P w) X.A (Ts (.ref it)) (λr s1=>∃u,r≈u /\
   f6 (gs P w) X.A (Xd tg (.ref it) u) (λ_ s2=>∃x H',Inv X pins σ H' s2/\RelV x u/\J.UM i H x H'/\tn (i+1) s2.heap/\∀b∈fp,H' b=cb) E s1) E s
 done:∀(X:Cx),X.prog=P->X.w=w->X.K=K->X.calm=b6->∀(i:Nat) (pins:↑(hH×Obj)) (s:i4) (σ:St) (H:Hp) (E:g8->i4->Prop),Inv X pins σ H s->(∀b∈fp,gJ X pins H b)->tn i s.heap->J.stop i H ->
  f6 (gs P w) X.A (Ts (.ref it)) (λr s1=>r=cb/\Inv X pins σ H s1) E s
 self:∀(A:Ui) (i:Nat) (s:i4) (Q:g8->i4->Prop) (E:g8->i4->Prop),tn i s.heap->Q (.ref it) s->f6 (gs P w) A (YW (.ref it)) Q E s
@[reducible]noncomputable def TI:=St->Hp->(It->Hp->Prop)->Prop
inductive XR(X:Cx)(pins:↑(hH×Obj))(σ:St)(tg:jw)(R:It->Hp->Prop)(Vt:g8)(s2:i4):Prop
 |mk (it:hH) (fp:↑hH) (tn:Nat->K2->Prop) (J:It) (H':Hp):Vt=.ref it->Inv X pins σ H' s2->Turn X.prog X.w X.K tg J fp it tn->tn 0 s2.heap->(∀b∈fp,gJ X pins H' b)->R J H'->XR X pins σ tg R Vt s2
abbrev PI(X:Cx)(tg a:jw)(b:TI):Prop :=
 ∀(pins:↑(hH×Obj)) (s:i4) (σ:St) (H:Hp) (R:It->Hp->Prop),Inv X pins σ H s->b σ H R ->
  ‹X› (p8 a X.env) (λv s1=>‹X› (YW v) (XR X pins σ tg R) X.xe s1) X.xe s
def rX(ho:s.heap.get? it≈o)(b:o.cls=.type n)(c:o.data=.fields vs)
    (hn:["enumerate","zip","dict_itemiterator","dict_reverseitemiterator","odict_iterator","itertools.zip_longest","itertools.pairwise"].contains n=cK) (a:Q () s):f6 M A (Xd tg (.ref it) u) Q E s:=by
  cases tg<;>first
    | show dV a
    | (cases u<;>first
        | show dV a
        | (show cL (Ą ho ?_)
           rw[b,c];change f6 M A (if (["enumerate","zip","dict_itemiterator","dict_reverseitemiterator","odict_iterator","itertools.zip_longest","itertools.pairwise"].contains n&&vs[0]?==bD _)=b6 then _ else _) Q E s;rw[Ś (by grind)];show dV a))
abbrev UN(K:W.Frag)(a:hH):It :=
 #[λi H=>∃xs x,N5 K H a xs/\xs[i]?≈x,λi H x H'=>H'=H/\∀xs,N5 K H a xs->xs[i]?≈x,λi H=>∃xs,N5 K H a xs/\⇑xs<=i]
abbrev XS(K:W.Frag)(a:hH):It :=
 #[λi H=>∃xs x,Oc K H a xs/\xs[i]?≈x,λi H x H'=>H'=H/\∀xs,Oc K H a xs->xs[i]?≈x,λi H=>∃xs,Oc K H a xs/\⇑xs<=i]
abbrev Vu(lo:Int)(n:Nat):It:=#[λi _=>i<n,λi H x H'=>H'=H/\x=.int (lo+i),λi _=>n<=i]
def oV{K}(a it):Turn P w K tg (UN K a) [it] it (λi h=>h.IsListIter it a i) where
 mem:=⋯
 obj:=λi h st b f=>by
  have(o,e,c,d):=st;simp_all
 keep:=λi h h' st k=>st.at λo e=>k it ⋯ o e
 item:=by
  intro X l m n B i pins s σ H E I g st q;subst l m n;have(xs,x,j,r):=q;have(C,rv,p,hz):=I.list j;have(u,Q,D):=rv.get r;have(t,v,G,y,z,A):=g it ⋯;show Ð st p.isList (x:=u) ⋯ λh' st' J=>?_;have L:=I.turned (t':=s.toks) (λb o f e=>(J.2 b f).trans e) t v y z A;have(o,e,c,d):=id st';show#[u,rfl,rX  e c d ⋯ #[x,H,L,D,#[rfl,λys N=>by rw[I.mM N j];show r],st',λb f=>(g b f).1]]
 done:=by
  intro X l m n B i pins s σ H E I g st q;subst l m n;have(xs,j,r):=q;have(C,rv,p,hz):=I.list j;have(t,v,G,y,z,A):=g it ⋯;have hl:=⇑rv;show wpAny_pyNext_list_end (I.ok.hd B) st p.isList ⋯ λh' O=>#[rfl,I.turned  (λb o f e=>O b o f e) t v y z A]
 self:=λ_ _ _ _ _ st h=>wpAny_pyIter_listiter st h
def uC{K}(a it):Turn P w K tg (XS K a) [it] it (λi h=>h.IsTupleIter it a i) where
 mem:=⋯
 obj:=λi h st b f=>by
  have(o,e,c,d):=st;simp_all
 keep:=λi h h' st k=>st.at λo e=>k it ⋯ o e
 item:=by
  intro X l m n B i pins s σ H E I g st q;subst l m n;have(xs,x,j,r):=q;have(C,rv,p,hz):=I.tuple j;have(u,Q,D):=rv.get r;have(t,v,G,y,z,A):=g it ⋯;show wpAny_pyNext_tuple_item st (p) (x:=u) ⋯ λh' st' J=>?_;have L:=I.turned (t':=s.toks) (λb o f e=>(J.2 b f).trans e) t v y z A;have(o,e,c,d):=id st';show#[u,rfl,rX  e c d ⋯ #[x,H,L,D,#[rfl,λys N=>by rw[I.oS N j];show r],st',λb f=>(g b f).1]]
 done:=by
  intro X l m n B i pins s σ H E I g st q;subst l m n;have(xs,j,r):=q;have(C,rv,p,hz):=I.tuple j;have(t,v,G,y,z,A):=g it ⋯;have hl:=⇑rv;show wpAny_pyNext_tuple_end (I.ok.hd B) st (p) ⋯ λh' O=>#[rfl,I.turned  (λb o f e=>O b o f e) t v y z A]
 self:=λ_ _ _ _ _ st h=>wpAny_pyIter_tupleiter st h
def uD{K}(it)(lo)(n):Turn P w K tg (Vu lo n) [it] it (λi h=>IsRangeIter h it (lo+(i:Nat) * 1) ((n:Int) - (i:Nat)) 1) where
 mem:=⋯
 obj:=λi h st b a=>by
  simp_all
 keep:=λi h h' st k=>k it ⋯ _ st
 item:=by
  intro X q r u d i pins s σ H E I c st f;subst q r u;have(g,j,x,l,m,p):=c it ⋯;have W:=Walks.range (prog:=X.prog) (w:=X.w) (I.ok.hd d) it lo 1 n;show W.item i s _ _ f st λv h' tk y st' z=>?_;have(t,rfl):=y;have A:Inv X pins σ H {s with heap:=h',toks:=tk}:=I.turned (λb o a e=>z b o (by exists a) e) g j l m p;show#[_,rfl,rX   st' rfl rfl ⋯ #[.int _,H,A,#[t,?_],#[rfl,rfl],st',λb a=>(c b a).1]];simp
 done:=by
  intro X q r u d i pins s σ H E I c st f;have(g,j,x,l,m,p):=c it ⋯;show wpAny_pyNext_range_end (I.ok.hd d) st (by have:n<=i:=f;lia) λh' B=>#[rfl,I.turned  (λb o a e=>B b o a e) g j l m p]
 self:=λ_ _ _ _ _ st h=>wpAny_pyIter_rangeiter st h
abbrev Kj(K:W.Frag)(tl:TE):TI:=λσ H R=>tl σ H λx b=>∃a,x=.ref a/\(∃xs,N5 K b a xs)/\R (UN K a) b
abbrev MC(K:W.Frag)(tl:TE):TI:=λσ H R=>tl σ H λx b=>∃a,x=.ref a/\(∃xs,Oc K b a xs)/\R (XS K a) b
def DG(hl:PE X l tl):PI X tg l (Kj X.K tl):=by
 intro pins s σ H R I h;show Ny (hl pins s σ H _ I h) λv s1 d=>?_;have(x,f,c,g,i):=d;have(a,e,(xs,j),q):=i;subst e;cases g;have(m,rv,p,hz):=c.list j;show VJ p.isList ?_;show#[_,_,_,_,f,rfl,c.kept  λb o e=>dt _ e,oV a _,#[_,gj _ rfl,rfl,rfl],λb k=>?_,q];have e:=by exists k
 subst e;show c.yn (hY _) (c.Nr.fresh (hY _))
def Hl(hl:PE X l tl):PI X tg l (MC X.K tl):=by
 intro pins s σ H R I h;show Ny (hl pins s σ H _ I h) λv s1 d=>?_;have(x,f,c,g,i):=d;have(a,e,(xs,j),q):=i;subst e;cases g;have(m,rv,p,hz):=c.tuple j;show R' (p) ?_;show#[_,_,_,_,f,rfl,c.kept  λb o e=>dt _ e,uC a _,#[_,gj _ rfl,rfl,rfl],λb k=>?_,q];have e:=by exists k
 subst e;show c.yn (hY _) (c.Nr.fresh (hY _))
def rY{lo hi}(I:Inv X pins σ H s)(c:-(2 ^ 62)<=lo)(d:lo<2 ^ 62)(f:-(2 ^ 62)<=hi)(g:hi<2 ^ 62)
  (q:R (Vu lo (hi - lo).toNat) H):‹X› (YW (.ref ↥s)) (XR X pins σ tg R) E {s with heap:=s.heap.push {cls:=.type "range",data:=.fields #v[.int lo t,.int hi u,.int 1 v]},toks:=tk}:=by
 show wpAny_pyIter_range (IsRange.new ..) (small_one c d f g) ?_;have a:Inv X pins σ H {s with heap:=s.heap.push {cls:=.type "range",data:=.fields #v[.int lo t,.int hi u,.int 1 v]},toks:=tk}:=I.kept λb o e=>dt _ e;show#[_,_,_,_,H,rfl,
  a.kept  λb o e=>dt _ e,uD _ lo _,?_,λb h=>?_,q]
 .have i:lo+(0:Nat) * 1=lo:=⋯
  have j:(hi - lo).toNat - (0:Nat)=ĵ lo hi 1:=by rw[rangeSize_one];lia
  rw[i,j];show gj _ rfl
 .have e:b=(s.heap.push {cls:=.type "range",data:=.fields #v[.int lo t,.int hi u,.int 1 v]}).objs.size:=by exists h
  subst e;show a.yn (hY _) (a.Nr.fresh (hY _))
abbrev Kk(a:TA):TI:=λσ H R=>a σ H λvs b=>∃j:Int,vs=[.int j]/\-(2 ^ 62)<=j/\j<2 ^ 62/\R (Vu 0 j.toNat) b
abbrev Kl(a:TA):TI:=λσ H R=>a σ H λvs b=>∃i j:Int,vs=[.int i,.int j]/\(-(2 ^ 62)<=i/\i<2 ^ 62/\-(2 ^ 62)<=j/\j<2 ^ 62)/\R (Vu i (j - i).toNat) b
def yo(c:Gl X "range")(d:X.mg "range"=cb)(f:PA X [a] g)(hs:i0 [a] X.env=[(cK,p8 a X.env)]:=by rfl):PI X tg (.Call (.Name "range" p) [a] [] pos) (Kk g):=by
 intro pins s σ H R I h;show Call_ (dB I c d boot_range (x8 (Ny (f pos pins s σ H _ I h) λus s1 ⟨vs,n,i,k,b⟩=>?_) hs rfl));have(j,e,b,l,q):=b;subst e;cases k with
 |cons r m =>
  cases m;have(t,rfl):=r;show call_range_1 (rY i ⋯ ⋯ b l ⋯)
def yp(f:Gl X "range")(g:X.mg "range"=cb)(k:PA X [a,b] l)(hs:i0 [a,b] X.env=[(cK,p8 a X.env),(cK,p8 b X.env)]:=by rfl)(m:i0 [b] X.env=[(cK,p8 b X.env)]:=by rfl):
  PI X tg (.Call (.Name "range" p) [a,b] [] pos) (Kl l):=by
 intro pins s σ H R I h;show Call_ (dB I f g boot_range (x8 (Ny (k pos pins s σ H _ I h) λus s1 ⟨vs,y,n,o,c⟩=>?_) ⋯ (by rw[m];rfl)));have(i,j,e,(c,u,v,w),q):=c;subst e;cases o with
 |cons r d =>
  cases d with
  |cons x d =>
   cases d;have(t,rfl):=r;have(t',rfl):=x;show call_range_2 (rY n c u v w q)
abbrev MD(c:TI)(g:TG)(tb:TS):TS:=λD σ H=>c σ H λJ d=>∃W:Nat->Nat->St->Hp->Prop,(∃m,W 0 m σ d)/\∀i m σ H,W i m σ H ->
 (J.stop i H/\D.nx σ H)\/(J.go i H/\∃N:St->Hp->Prop,(∀a H',N a H'->∃b,b<m/\W (i+1) b a H')/\∀x H',J.UM i H x H'->g x σ H' λe f=>tb {D with nx:=N,ct:=N,bk:=D.nx} e f)
abbrev pZ(a:↑hH)(h:K2):↑(hH×Obj):=a.filterMap λb=>(h.get? b).map λo=>(b,o)
def fT(a:b∈c)(e:h.get? b≈o):(b,o)∈pZ c h:=RA.mpr #[b,a,by rw[e];rfl]
def yq(a:p∈pZ c h):p.1∈c/\h.get? p.1≈p.2:=by
 have(b,d,e):=RA.mp a;cases q:h.get? b with
 |none=>simp_all
 |some o =>
  rw[q]at e;have f:=vu e;subst f;show#[d,q]
def Inv.pinned(I:Inv X pins σ H s)(f:∀b∈a,gJ X pins H b)(ho:∀b∈a,∃o,s.heap.get? b≈o/\∀v,o.data≠.cell v):Inv X (pins++pZ a s.heap) σ H s :=
 I.iC λp g=>(i7.mp g).elim (λz=>I.pin p (pz _ z)) λz=>by
  have(c,e):=yq z;have(h,i,j,_):=f p.1 c;have(o,k,d):=ho p.1 c;simp_all
def Inv.mP(I:Inv X (pins++b) σ H s):Inv X pins σ H s:=I.iC λp a=>I.pin p (pz _ (TN _ a))
def Hm(q:YY (gs X.prog X.w) X.A X.env X.xe)(hc:X.calm=b6)(hi:PI X tg l wi)(hg:PG X tg g)(a:OO X body tb)
  (hs:∀x,Cd l X.env x=pure x:=by intro _;rfl):PS X (.For tg l body [] pos) (MD wi g tb):=by
 intro pins s σ H D I h;show wpAny_For (Ny (hi pins s σ H _ I h) λv s1 h1=>Ny h1 λVt s2 h2=>?_) hs;have(it,C,tn,J,H2,e,I2,T,st2,f2,W,(m0,w0),t):=h2;subst e;have L:∀{H':Hp},(∀b∈C,H' b=cb)->∀b∈C,gJ X pins H' b:=λhn b a=>#[hn b a,(f2 b a).2]
 show codeAny_forLoop_any (λn s'=>∃i y H',Inv X pins y H' s'/\tn i s'.heap/\(∀b∈C,H' b=cb)/\W i n y H') ?_ m0 ⟨0,σ,H2,I2,st2,λb a=>(f2 b a).1,w0⟩;rintro n s3 ⟨i,z,G,I3,N7,Vv,w3⟩;rcases t i n z G w3 with⟨B,qn⟩|⟨go,N,hN,ï⟩
 .show Qq q (Ny (T.done X rfl rfl rfl hc i pins s3 z G X.xe I3 (L Vv) N7 B) λr s4 XW=>?_);have(O,I4):=XW;subst O;show R0 #[z,G,I4,qn]
 .show Qq q (Ny (T.item X rfl rfl rfl hc i pins s3 z G X.xe I3 (L Vv) N7 go) λr s4 XX=>?_);have(u,O,h4):=XX;subst O;show Qq q (Ny h4 λ_ s5 XY=>?_);have(x,H5,I5,r5,y5,Q,XZ):=XY;have X0:=I5.pinned (L XZ) (T.obj _ _ Q);show Qq q (Ny (hg _ s5 z H5 x u _ X0 r5 (ï x H5 y5)) λ_ s6 X1=>?_);have(σ6,H6,I6,q6):=X1;show Qq q (Ny (a _ s6 σ6 H6 _ I6 q6) λf s7 p=>?_);have again:∀{c:St} {j:Hp},Inv X _ c j s7->N c j->∃m,m<n/\∃i y H',Inv X pins y H' s7/\tn i _/\(∀b∈C,H' b=cb)/\W i m y H':=λ{c j} k Y=>by
   have(m',hm,w7):=hN c j Y;show#[m',hm,i+1,c,j,k.mP,T.keep _ _ _ Q λb a o e=>(k.pin (b,o) (pz _ (pz _ (fT a e)))).1,λb a=>?_,w7];have(o,e,d):=T.obj _ _ Q b a;show(k.pin _ (pz _ (pz _ (fT a e)))).2.1
  cases f with
  |brk=>have(c,j,k,p):=p;show#[c,j,k.mP,p]
  |ret v=>have(x7,c,j,k,r7,p):=p;show#[x7,c,j,k.mP,r7,p]
  |_=>have(c,j,k,Y):=p;show again k Y
@[reducible]noncomputable def R2:=V->V->Hp->VK->Prop
abbrev OY(X:Cx)(f:g8->g8->Sem g8)(r:R2):Prop :=
 ∀(pins:↑(hH×Obj)) (s:i4) (σ:St) (H:Hp) (x y:V) (v u:g8) (Q:VK),Inv X pins σ H s->RelV x v->RelV y u->r x y H Q ->
  ‹X› (f v u) (EP X pins σ Q) X.xe s
abbrev X2(X:Cx)(f:g8->Sem g8)(r:V->Hp->VK->Prop):Prop :=
 ∀(pins:↑(hH×Obj)) (s:i4) (σ:St) (H:Hp) (x:V) (v:g8) (Q:VK),Inv X pins σ H s->RelV x v->r x H Q ->
  ‹X› (f v) (EP X pins σ Q) X.xe s
abbrev gD(X:Cx)(f:g8)(r:↑V->Hp->VK->Prop):Prop :=
 ∀(pins:↑(hH×Obj)) (s:i4) (σ:St) (H:Hp) (xs:↑V) (us:↑g8) (Q:VK),Inv X pins σ H s->Vals xs us->r xs H Q ->
  ‹X› (Qo f us) (EP X pins σ Q) X.xe s
abbrev ME(X:Cx)(r:V->Hp->(Bool->Hp->Prop)->Prop):Prop :=
 ∀(pins:↑(hH×Obj)) (s:i4) (σ:St) (H:Hp) (x:V) (v:g8) (Q:Bool->Hp->Prop),Inv X pins σ H s->RelV x v->r x H Q ->
  ‹X› (ć v) (TP X pins σ Q) X.xe s
abbrev WK(r:R2)(a tb:TE):TE:=λσ H Q=>a σ H λx b=>tb σ b λy c=>r x y c Q
abbrev tUn(r:V->Hp->VK->Prop)(a:TE):TE:=λσ H Q=>a σ H λx b=>r x b Q
abbrev rI(C:Int->Int->Prop)(g:Int->Int->V):R2:=λx y H Q=>∃i j,x=.int i/\y=.int j/\C i j/\Q (g i j) H
abbrev TF(g:Int->Int->V):R2:=λx y H Q=>∃i j,x=.int i/\y=.int j/\Q (g i j) H
abbrev rU(g:Int->V):V->Hp->VK->Prop:=λx H Q=>∃i,x=.int i/\Q (g i) H
def MF(g:PE X a i)(j:PE X b tb){R:V->V->Hp->Prop}(I:Inv X pins σ H s)
  (h:i σ H λx e=>tb σ e λy c=>R x y c) {f:g8->g8->Sem g8}
  (k:∀v u d x y c,Inv X pins σ c d->RelV x v->RelV y u->R x y c->‹X› (f v u) Q X.xe d) :
  ‹X› (p8 a X.env) (λv l=>‹X› (p8 b X.env) (λu m=>‹X› (f v u) Q X.xe m) X.xe l) X.xe s:=by
 show Ny (g pins s σ H _ I h) λv s1 n=>?_;have(x,e,o,p,q):=n;show Ny (j pins s1 σ e _ o q) λu d r=>?_;have(y,c,t,z,B):=r;show k v u d x y c t p z B
def Km(ho:X2 X (unaryOp op) r)(b:PE X a c):PE X (.UnaryOp op a pos) (tUn r c):=by
 intro pins s σ H Q I h;show UnaryOp_ (Ny (b pins s σ H _ I h) λv s1 ⟨x,d,e,f,g⟩=>ho pins s1 σ d x v Q e f g)
def WM{g:Int->Int->Int}
  (Ċ:∀i j t u s Q E,C i j->Q (.int (g i j) s.toks) {s with toks:=s.toks+1}->‹X› (f (.int i t) (.int j u)) Q E s) :
  OY X f (rI C λi j=>.int (g i j)):=by
 intro pins s σ H x y v u Q I a b h;have(i,j,rfl,rfl,c,q):=h;have(t,rfl):=a;have(t',rfl):=b;show Ċ i j t t' s _ _ c #[.int _,H,I.tok _,#[_,rfl],q]
def Ko{g:Int->Int->Int}
  (Ċ:∀i j t u s Q E,Q (.int (g i j) s.toks) {s with toks:=s.toks+1}->‹X› (f (.int i t) (.int j u)) Q E s) :
  OY X f (TF λi j=>.int (g i j)):=by
 intro pins s σ H x y v u Q I a b h;have(i,j,rfl,rfl,q):=h;have(t,rfl):=a;have(t',rfl):=b;show Ċ i j t t' s _ _ #[.int _,H,I.tok _,#[_,rfl],q]
def Hn{g:Int->Int->Bool}
  (Ċ:∀i j t u s Q E,Q (.bool (g i j)) s->‹X› (f (.int i t) (.int j u)) Q E s) :
  OY X f (TF λi j=>.bl (g i j)):=by
 intro pins s σ H x y v u Q I a b h;have(i,j,rfl,rfl,q):=h;have(t,rfl):=a;have(t',rfl):=b;show Ċ i j t t' s _ _ #[.bl _,H,I,rfl,q]
abbrev MG(i j:Int):Prop:=0<j/\j<1073741824
abbrev MH(i j:Int):Prop:=0<=j/\j<=1000000/\i.natAbs<2 ^ 64
abbrev Ho(i j:Int):Prop:=(-(2 ^ 64)<i/\i<2 ^ 64)\/(-(2 ^ 64)<j/\j<2 ^ 64)
def Ho.ok(h:Ho i j):IntMulOk i j:=by
 rcases h with⟨a,b⟩|⟨a,b⟩
 .show .of_left (intBits_le_64 a b)
 .show .of_right (intBits_le_64 a b)
def d5:OY X (RU .Add) (TF λi j=>.int (i+j)):=Ko λ_ _ _ _ _ _ _ q=>add_int q
def uE:OY X (RU .Sub) (TF λi j=>.int (i - j)):=Ko λ_ _ _ _ _ _ _ q=>sub_int q
def p_:OY X (RU .Mult) (rI Ho λi j=>.int (i * j)):=WM λ_ _ _ _ _ _ _ a q=>mul_int q a.ok
def DI:OY X (RU .FloorDiv) (rI MG λi j=>.int (i / j)):=WM λi j _ _ _ _ _ a q=>by
 have b:=a.1;have c:=a.2;show floordiv_int ⋯ (by rw[Int.fdiv_eq_ediv_of_nonneg i ⋯];show q) (.inl (PyProof.noPylong_small ⋯))
def cp:OY X (RU .Mod) (rI (λ_ j=>0<j) λi j=>.int (i % j)):=WM λi j _ _ _ _ _ a q=>by
 show mod_int' ⋯ (by rw[Int.fmod_eq_emod_of_nonneg i ⋯];show q)
def qa:OY X (RU .Pow) (rI MH λi j=>.int (i ^ j.toNat)):=WM λ_ _ _ _ _ _ _ a q=>pow_int_small a.1 a.2.1 a.2.2 q
def unI{g:Int->Int}
  (Ċ:∀i t s Q E,Q (.int (g i) s.toks) {s with toks:=s.toks+1}->‹X› (f (.int i t)) Q E s) :
  X2 X f (rU λi=>.int (g i)):=by
 intro pins s σ H x v Q I a h;have(i,rfl,q):=h;have(t,rfl):=a;show Ċ i t s _ _ #[.int (g i),H,I.tok _,#[_,rfl],q]
def Hq:X2 X (unaryOp .USub) (rU λi=>.int (-i)):=unI λ_ _ _ _ _ q=>neg_int q
abbrev MI:V->V->Bool
 |.Nt,.Nt=>b6|.Nt,.int _=>b6|.int _,.Nt=>b6|.Nt,.bl _=>b6|.bl _,.Nt=>b6|.Nt,.str _=>b6|.str _,.Nt=>b6
 |.int _,.int _=>b6|.bl _,.bl _=>b6|.str _,.str _=>b6|.Q6 _,.Q6 _=>b6
 |.int _,.str _=>b6|.str _,.int _=>b6|.bl _,.str _=>b6|.str _,.bl _=>b6
 |_,_=>cK
abbrev rEq:R2:=λx y H Q=>MI x y=b6/\Q (.bl (df (x=y))) H
def DJ:df (V.int i=V.int j)=(i==j):=by
 rw[rD];simp
def Hr:df (V.bl i=V.bl j)=(i==j):=by
 rw[rD];simp
def DK:df (V.str i=V.str j)=(i==j):=by
 rw[rD];simp
def DL:df (V.Q6 i=V.Q6 j)=(i.toList==j.toList):=by
 rw[rD];cases i;cases j;simp
def bU(I:Inv X pins σ H s)(q:Q (.bl k) H)(e:k=k'):EP X pins σ Q (.bool k') s:=by
 subst e;show#[.bl k,H,I,rfl,q]
def Gg:OY X (y0 .Eq) rEq:=by
 intro pins s σ H x y v u Q I b a h;have(hs,q):=h;cases x with
 |Nt =>
  cases b;cases y with
  |Nt=>cases a;show PySem.EqNone.eq_none_none (bU I q ⋯)
  |bl j=>cases a;show PySem.EqNone.eq_none_bool (bU I q ⋯)
  |int j=>have(t',rfl):=a;show PySem.EqNone.eq_none_int (bU I q ⋯)
  |str j=>have(t',rfl):=a;show PySem.EqNone.eq_none_str (bU I q ⋯)
  |_=>show absurd (show cK=b6 from hs) ke
 |bl i =>
  cases b;cases y with
  |Nt=>cases a;show PySem.EqNone.eq_bool_none (bU I q ⋯)
  |bl j=>cases a;show eq_bool (bU I q Hr)
  |str j=>have(t',rfl):=a;show PySem.EqMixed.eq_bool_str (bU I q ⋯)
  |_=>show absurd (show cK=b6 from hs) ke
 |int i =>
  have(t,rfl):=b;cases y with
  |Nt=>cases a;show PySem.EqNone.eq_int_none (bU I q ⋯)
  |int j=>have(t',rfl):=a;show eq_int (bU I q DJ)
  |str j=>have(t',rfl):=a;show PySem.EqMixed.eq_int_str (bU I q ⋯)
  |_=>show absurd (show cK=b6 from hs) ke
 |str i =>
  have(t,rfl):=b;cases y with
  |Nt=>cases a;show PySem.EqNone.eq_str_none (bU I q ⋯)
  |bl j=>cases a;show PySem.EqMixed.eq_str_bool (bU I q ⋯)
  |int j=>have(t',rfl):=a;show PySem.EqMixed.eq_str_int (bU I q ⋯)
  |str j=>have(t',rfl):=a;show eq_str (bU I q DK)
  |_=>show absurd (show cK=b6 from hs) ke
 |Q6 i =>
  have(t,rfl):=b;cases y with
  |Q6 j=>have(t',rfl):=a;show W.eq_bytes (bU I q DL)
  |_=>show absurd (show cK=b6 from hs) ke
 |_=>cases y<;>show absurd (show cK=b6 from hs) ke
def Kp:OY X (y0 .Lt) (TF λi j=>.bl (df (i<j))):=Hn λ_ _ _ _ _ _ _ q=>lt_int q
def Kq:OY X (y0 .Gt) (TF λi j=>.bl (df (j<i))):=Hn λ_ _ _ _ _ _ _ q=>gt_int q
def Kr:OY X (y0 .GtE) (TF λi j=>.bl (df (j<=i))):=Hn λ_ _ _ _ _ _ _ q=>ge_int q
def yr:OY X (y0 .In) (λx y H Q=>∃i j,x=.str i/\y=.str j/\Q (.bl (!(ti j i 0 ⇑j 1).isEmpty)) H):=by
 intro pins s σ H x y v u Q I a b h;have(i,j,rfl,rfl,q):=h;have(t,rfl):=a;have(t',rfl):=b;show in_str (bU I q rfl)
def Hs:OY X (y0 .Is) (λx y H Q=>y=.Nt/\Q (.bl (df (x=.Nt))) H):=by
 intro pins s σ H x y v u Q I a b h;have(rfl,q):=h;cases b;show is_none_gen (bU I q ?_);cases x<;>first
  |(rfl)
  |(have(t,rfl):=a;rfl)
def DM:OY X (y0 .IsNot) (λx y H Q=>y=.Nt/\Q (.bl (!df (x=.Nt))) H):=by
 intro pins s σ H x y v u Q I a b h;have(rfl,q):=h;cases b;show isnot_none_gen (bU I q ?_);cases x<;>first
  |(cases a;rfl)
  |(have(t,rfl):=a;rfl)
abbrev An(t:TE):TT:=λσ H Q=>t σ H λx H'=>∃k,x=.bl k/\Q k H'
def DN(ho:OY X (y0 op) r)(d:PE X a f)(g:PE X b tb)(i:RW op b=cK):PT X (.Compare a [op] [b] pos) (An (WK r f tb)):=by
 intro pins s σ H Q I h;show Qz (Ny (d pins s σ H _ I h) λv s1 ⟨x,j,l,m,n⟩=>Ny (g pins s1 σ j _ l n) λu o ⟨y,p,q,t,w⟩ =>
  Ny (ho pins o σ p x y v u _ q m t w) λc G ⟨z,A,B,C,k,e,D⟩=>?_) i
 subst e;cases C;show q9 #[A,B,D]
abbrev Ks(K:W.Frag)(x:V)(H:Hp)(k:Bool):Prop :=
 match x with
 |.Nt=>k=cK
 |.bl b=>k=b
 |.int i=>k=(i != 0)
 |.str y=>⇑y<=c8/\k=((⇑y:Int) != 0)
 |.Q6 y=>y.size<=c8/\k=((y.size:Int) != 0)
 |.ref p=>(∃xs,N5 K H p xs/\k=!xs.isEmpty)\/(∃xs,Oc K H p xs/\k=!xs.isEmpty)\/∃kvs,H p≈.dK kvs/\k=!kvs.isEmpty
 |_=>False
def uF(r:KV kvs vs):(!vs.isEmpty)=!kvs.isEmpty:=by
 cases r<;>rfl
def mQ(r:Vals xs a):(!a.toArray.isEmpty)=!xs.isEmpty:=by
 cases r<;>simp
def gM:(c8:Nat)<2 ^ 63:=⋯
def Ht:ME X (λx H Q=>∃k,Ks X.K x H k/\Q k H):=by
 intro pins s σ H x v Q I d h;have(k,e,q):=h;have hl:=gM;have hs:c8=16777216:=sizeLine_eq;cases x with
 |Nt =>
  cases d;have a:k=cK:=e;subst a;show truthy_none #[H,I,q]
 |bl b =>
  cases d;have a:k=b:=e;subst a;show q9 #[H,I,q]
 |int i =>
  have(t,rfl):=d;have a:k=(i != 0):=e;subst a;show PySem.P.truthy_int #[H,I,q]
 |str y =>
  have(t,rfl):=d;obtain⟨j,a⟩:⇑y<=c8/\k=((⇑y:Int) != 0):=e;subst a;show PySem.P.truthy_str ⋯ #[H,I.tok _,q]
 |Q6 y =>
  have(t,rfl):=d;obtain⟨j,a⟩:y.size<=c8/\k=((y.size:Int) != 0):=e;subst a;show W.truthy_bytes ⋯ #[H,I.tok _,q]
 |ref p =>
  cases d;have a:=e;rcases a with⟨xs,f,a⟩|⟨xs,f,a⟩|⟨kvs,f,a⟩
  .subst a;have(l,r,g,hz):=I.list f;have c:=⇑r;show wpAny_truthy_list g.isList (by erw[mu];lia) #[H,I.tok _,by rw[mQ r];show q]
  .subst a;have(l,r,g,hz):=I.tuple f;have c:=⇑r;show truthy_tuple g (by erw[mu];lia) #[H,I.tok _,by rw[mQ r];show q]
  .subst a;obtain⟨hz,n,vs,r,m⟩:⇑kvs<=c8/\(p==P')=cK/\∃vs,KV kvs vs/\s.heap.DictOf (bz X.prog X.w) p vs:=I.Nr p _ f;have c:⇑kvs=⇑vs:=Paired.length r;show wpAny_truthy_dict n m ⋯ #[H,I.tok _,by rw[uF r];show q]
 |_=>show(show False from e).elim
def Ao(c:PE X a d)(e:∀b,isTrue a X.env b=(do let v <-b;Wx a.pos;KX [v] (ć v))):
  PT X a (λσ H Q=>d σ H λx H'=>∃k,Ks X.K x H' k/\Q k H'):=by
 intro pins s σ H Q I h;show isTrue_plain (Ny (c pins s σ H _ I h) λv s1 ⟨x,f,g,i,j⟩=>Ht pins s1 σ f x v Q g i j) (e _)
def uG:OY X (RU .Add) (λx y H Q=>∃i j,x=.str i/\y=.str j/\⇑i+⇑j<=c8/\Q (.str (i++j)) H):=by
 intro pins s σ H x y v u Q I a b h;have(i,j,rfl,rfl,hz,q):=h;have(t,rfl):=a;have(t',rfl):=b;show add_str (λt' tk=>#[.str _,H,I.tok _,#[_,rfl],q]) hz
def vals1(r:Vals [x] us):∃u,us=[u]/\RelV x u:=by
 cases r with
 |cons a b=>cases b;show#[_,rfl,a]
def vals2(r:Vals [x,y] us):∃u a,us=[u,a]/\RelV x u/\RelV y a:=by
 cases r with
 |cons b c =>
  cases c with
  |cons d e=>cases e;show#[_,_,rfl,b,d]
def yt(b:X.calm=b6):gD X (.builtin "max") (λxs H Q=>∃i j,xs=[.int i,.int j]/\Q (.int (if j>i then j else i)) H):=by
 intro pins s σ H xs us Q I r h;have(i,j,rfl,q):=h;have(u,c,rfl,(t,rfl),(t',rfl)):=vals2 r;show max_two_ints (I.ok.hd b) λh' tk k=>#[_,H,I.kept k,?_,q]
 by_cases a:j>i
 .rw[ř a,ř a];show#[_,rfl]
 .rw[Ś a,Ś a];show#[_,rfl]
def yu(b:X.calm=b6):gD X (.builtin "min") (λxs H Q=>∃i j,xs=[.int i,.int j]/\Q (.int (if j<i then j else i)) H):=by
 intro pins s σ H xs us Q I r h;have(i,j,rfl,q):=h;have(u,c,rfl,(t,rfl),(t',rfl)):=vals2 r;show min_two_ints (I.ok.hd b) λh' tk k=>#[_,H,I.kept k,?_,q]
 by_cases a:j<i
 .rw[ř a,ř a];show#[_,rfl]
 .rw[Ś a,Ś a];show#[_,rfl]
def yw:gD X (.type "int") (λxs H Q=>(∃i,xs=[.int i]/\Q (.int i) H)\/∃k,xs=[.bl k]/\Q (.int (if k then 1 else 0)) H):=by
 intro pins s σ H xs us Q I r h;rcases h with⟨i,rfl,q⟩|⟨k,rfl,q⟩
 .have(u,rfl,t,rfl):=vals1 r;show call_int_int #[.int i,H,I,#[_,rfl],q]
 .have(u,rfl,a):=vals1 r;cases a;show call_int_bool #[.int _,H,I.tok _,#[_,rfl],q]
def qb:gD X (.type "str") (λxs H Q=>∃i,xs=[.int i]/\i.natAbs.log2<1920/\Q (.str (Ņ i)) H):=by
 intro pins s σ H xs us Q I r h;have(i,rfl,hz,q):=h;have(u,rfl,t,rfl):=vals1 r;show PySem.P.str_of_int hz #[.str _,H,I.tok _,#[_,rfl],q]
structure uH(h:K2)(x dx C:hH)(mA:Str->Option g8):Prop where
 obj:h.get? x≈W.instObj C dx
 ns:h.Ns1 dx mA
 ne:dx≠x
def yx{h:K2}(n:h.Ns1 c d):∃b,h.get? c≈b/\∀name,W.lookIn name b≈d name:=by
 have(o,es,ep,ho,f,hk,_,g):=n;show#[o,ho,λname=>?_];have e:=g name;unfold nsFind findBy at e;rw[<-Array.find?_toList]at e;unfold W.lookIn;rw[f]
 dsimp only
 split
 .rename_i y q;rw[q]at e;show ş bD e
 .rename_i q;rw[q]at e;have a:es.toList.any (·.refKey)=cK:=by
   rw[List.any_eq_false];intro y i;have(z,t,j):=hk y (Array.mem_toList_iff.mp i);simp[DictEntry.refKey,j]
  have a':¬es.toList.any (·.refKey)=b6:=by rw[a];show ke
  rw[Ś a'];show ş bD e
def uH.look(I:uH h x b C c):∃a,W.InstAt h x (W.instObj C b) C (bD a)/\∀name,W.lookIn name a≈c name :=
 let ⟨a,ho,hl⟩:=yx I.ns
 ⟨a,⟨I.obj,rfl,rfl,ho⟩,hl⟩
section
variable{prog:sd}{w:wk}{A:Ui}{E:g8->i4->Prop}{s:i4}{K:PySem.W.Frag}{x dx C f:hH}{mA:Str->Option g8}{name:Str}{v:g8}
def get_map(X:K.In s.heap)(I:uH s.heap x dx C mA)(c:W.plainGet K C name=b6)(d:W.hasDictIn K C=b6)
  (e:W.findIn K (.ref C) name≈cb) (g:mA name≈v) (a:W.handedIn v=b6) (h:Q v {s with toks:=s.toks+1}) :
  f6 (gs prog w) A (getAttr (.ref x) name b) Q E s:=by
 have(i,J,hl):=I.look;show W.get_value X J (W.plainGet_of c).1 (W.findObj_own d e rfl (by rw[hl,g])) a h
def Ap(X:K.In s.heap)(I:uH s.heap x dx C mA)(a:W.plainGet K C name=b6)
  (b:W.findIn K (.ref C) name≈bD (.ref f)) (c:W.isFn K (.ref f)=b6) (d:mA name=cb) (h:Q (.ref f,[.ref x]) s) :
  f6 (gs prog w) A (Ĭ (.ref x) name g) Q E s:=by
 have(e,J,hl):=I.look;show W.method_fn X J (W.plainGet_of a).1 (W.plainGet_of a).2 b (beq_iff_eq.mp c) (by change(W.lookIn name e).map (·.isSome)≈cK;rw[hl,d];rfl) h
def DO(X:K.In s.heap)(I:uH s.heap x dx C mA)
  (hs:W.findIn K (.ref C) "__setattr__"≈bD (.builtin "object.__setattr__")) (k:W.plainOver K C=b6) (l:W.takerIn K C name≈cb) (m:W.hasDictIn K C=b6)
  (n:PySem.Within mA ns) (hsz:⇑ns<=c8)
  (h:∀h',uH h' x dx C (λy=>if y=name then bD v else mA y)->tE dx s.heap h'->Q () {s with heap:=h',toks:=s.toks+2}) :
  f6 (gs prog w) A (setAttr (.ref x) name v) Q E s:=by
 have(u,J,hl):=I.look;show W.set_plain X J hs (W.osa_open (s:={s with toks:=s.toks+1}) (r:=cb) X J k l λb=>?_);have(z,o,c):=W.any_some m;have p:s.heap.get? x≈⟨.ref C,bD dx,.plain,#v[]⟩:=I.obj;show cL (dV (cL (cL (ņ p (cL (W.Looks.here (s:={s with toks:=s.toks+1}) (W.looks_clsIn X o) ?_))))));rw[c];show dV (a:=bD dx) (cL (dV (cL ?_)));show wpAny_nsSet1 (s:={s with toks:=s.toks+1}) I.ns λh' i j=>?_;have(B,q,t,d,e,g):=i.count (PySem.Within.cons name v n);show cL (wpAny_lookBehind d (by rw[e];show pastItsLine_dict (qv g (by rw[k9];lia))) ?_);show dV (h _ #[(j.2 _ (mh I.ne)).trans I.obj,i,I.ne] j)
def Aq(X:K.In s.heap)(b:W.makesIn K C=b6)
  (hi:W.findIn K (.ref C) "__init__"≈bD (.ref f)) (c:W.typeIn K (.ref f)≈.type "function")
  (h:Rr (gs prog w) (A.under (.builtin "type.__call__" ⟨.ref C::vs,a⟩)) (.call (.ref f) #[.ref (↥s+1)::vs,a]) (W.InitBack (↥s+1) R)
   {s with heap:=(s.heap.push W.emptyDict).push (W.instObj C ↥s)}) :
  Rr (gs prog w) A (.call (.ref C) #[vs,a]) R s:=by
 have(e,g,d,t,os):=s;show W.make_core (W.makes_of X b) (W.looks_findIn X hi) (λself=>W.bind_fn X self c) (.inl rfl) h
end
abbrev fu(f:Str)(v:V):↑(Str×V)->↑(Str×V)
 |[]=>[(f,v)]
 |(g,x)::r=>if g=f then(g,v)::r else(g,x)::fu f v r
theorem kW(f g)(v):∀b,(fu f v b).lookup g=if g=f then bD v else b.lookup g
 |[]=>by
  change Pk g [(f,v)]=_;by_cases h:g=f
  .have a:(g==f)=b6:=beq_iff_eq.mpr h;erw[Pk,a,ř h]
  .have a:(g==f)=cK:=Š.mpr h;erw[Pk,a,Ś h]
 |(k,x)::r=>by
  have c:=kW f g v r;rw[show fu f v ((k,x)::r)=(if k=f then(k,v)::r else(k,x)::fu f v r) from rfl];by_cases hk:k=f
  .rw[ř hk];by_cases h:g=k
   .have a:(g==k)=b6:=beq_iff_eq.mpr h;erw[Pk,a,ř (h.trans hk)]
   .have a:(g==k)=cK:=Š.mpr h;erw[Pk,a,Ś (λe:g=f=>h (e.trans hk.symm))]
  .rw[Ś hk];by_cases h:g=k
   .have a:(g==k)=b6:=beq_iff_eq.mpr h;erw[Pk,a,Ś (λe:g=f=>hk (h.symm.trans e))]
   .have a:(g==k)=cK:=Š.mpr h;erw[Pk,a];show c
theorem km(f)(v):∀a,f∈(fu f v a).map (·.1)/\∀g,g∈a.map (·.1)->g∈(fu f v a).map (·.1)
 |[]=>#[by simp[fu],λg h=>by simp at h]
 |(k,x)::r=>by
  have(b,c):=km f v r;rw[show fu f v ((k,x)::r)=(if k=f then(k,v)::r else(k,x)::fu f v r) from rfl];by_cases hk:k=f
  .rw[ř hk];subst hk;show#[by simp,λg h=>by exists h]
  .rw[Ś hk];show#[?_,λg h=>?_]
   .rw[i6];show f7 _ b
   .rw[i6]at h ⊢;rcases eT.mp h with e|e
    .show eT.mpr (.inl e)
    .show f7 _ (c g e)
theorem kX(f)(v):∀a,⇑(fu f v a)<=⇑a+1
 |[]=>by simp[fu]
 |(k,x)::r=>by
  have b:=kX f v r;rw[show fu f v ((k,x)::r)=(if k=f then(k,v)::r else(k,x)::fu f v r) from rfl];by_cases hk:k=f
  .rw[ř hk,k9,k9];lia
  .rw[Ś hk,k9,k9];lia
def gI.some_of(r:gI (bD v) o):∃u,o≈u/\RelV v u:=by
 cases o with
 |none=>show(r).elim
 |some u=>show#[u,rfl,r]
def gI.none_of(r:gI cb o):o=cb:=by
 cases o with
 |none=>rfl
 |some u=>show(r).elim
def yy(r:RelV v u):W.handedIn u=b6:=by
 cases v with
 |Nt=>cases(show u=oD from r);rfl
 |bl b=>cases(show u=Uu b from r);rfl
 |int i=>have(t,e):=(show ∃t,u=Õ i t from r);cases e;rfl
 |str x=>have(t,e):=(show ∃t,u=y6 x t from r);cases e;rfl
 |Q6 b=>have(t,e):=(show ∃t,u=ġ b t from r);cases e;rfl
 |Vl b=>have(t,e):=(show ∃t,u=Ġ b t from r);cases e;rfl
 |ref a=>cases(show u=ku a from r);rfl
 |ty n=>cases(show u=Rt n from r);rfl
def qc(i:OE P w H h)(e:H a≈.ins C g c):∃b,uH h a g C b/\(∀f,gI (c.lookup f) (b f))/\PySem.Within b (c.map (·.1))/\⇑c<=1000/\H g≈.own a:=by
 have(d,z,ne,j,b,n,r,q):=(show cE P w H h a (.ins C g c) from i a _ e)
 show#[b,#[j,n,ne],r,q,z,d]
structure RC(K:W.Frag)(C:hH):Prop where
 pg:W.plainGet K C nH=b6
 hd:W.hasDictIn K C=b6
 po:W.plainOver K C=b6
 sa:W.findIn K (.ref C) "__setattr__"≈bD (.builtin "object.__setattr__")
def RC.get{K}(c:RC K C)(f):W.plainGet K C f=b6:=c.pg
abbrev jf(K:W.Frag)(C:hH)(f:Str):Prop:=W.findIn K (.ref C) f≈cb
def jf.Kt{K}(n:jf K C f):W.takerIn K C f≈cb:=by
 unfold W.takerIn;rw[show W.findIn K (.ref C) f≈cb from n];rfl
structure Meth(K:W.Frag)(C:hH)(m:Str)(f:hH):Prop where
 at_:W.findIn K (.ref C) m≈bD (.ref f)
 fn:W.isFn K (.ref f)=b6
 kp:W.keepIn K (.ref f)=b6
def uI(I:Inv X pins σ H s)(e:H a≈.ins C m i)(c:RC X.K C)(n:jf X.K C f)(l:i.lookup f≈v)
  (h:∀u d,Inv X pins σ H d->RelV v u->Q u d):f6 (gs X.prog X.w) A (getAttr (.ref a) f b) Q E s:=by
 have(j,O,r,_,_,_):=qc I.Nr e;have(u,k,g):=gI.some_of (v:=v) (o:=j f) (by rw[<-l];show r f);show get_map I.Pb O (c.get f) c.hd n k (yy g) (h u _ (I.tok _) g)
def uJ(I:Inv X pins σ H s)(e:H a≈.ins C f b)(c:RC X.K C)(k:Meth X.K C m g)(l:b.lookup m=cb)
  (h:Q (.ref g,[.ref a]) s):f6 (gs X.prog X.w) A (Ĭ (.ref a) m i) Q E s:=by
 have(d,O,r,_,_,_):=qc I.Nr e;have hn:d m=cb:=gI.none_of (by rw[<-l];show r m);show Ap I.Pb O (c.get m) k.at_ k.fn hn h
def uK(I:Inv X pins σ H s)(e:H a≈.ins C i d)(c:RC X.K C)(n:jf X.K C f)(hl:⇑d<1000)(p:RelV y u)
  (h:∀k,Inv X pins σ (upd H a (.ins C i (fu f y d))) k->Q () k):f6 (gs X.prog X.w) A (setAttr (.ref a) f u) Q E s:=by
 have(l,O,r,m,_,ho):=qc I.Nr e;have hz:⇑(d.map (·.1))<=c8:=by rw[ei,sizeLine_eq];lia
 show DO I.Pb O c.sa c.po n.Kt c.hd m hz λh' j t=>h _ ?_;have v:∃o,h'.get? i≈o:=let ⟨o,_,_,B,_⟩:=j.ns;⟨o,B⟩;show I.write (x:=a) (e:=i) (by rw[e];show VH) (.inr ho) (λb q D z=>(t.2 b D).trans z) v ?_;show#[by rw[ai O.ne];show ho,?_,O.ne,j.obj,_,j.ns,λg=>?_,λg G=>?_]
 .have:=kX f y d;lia
 .change gI ((fu f y d).lookup g) (if g=f then bD u else l g);rw[kW];by_cases q:g=f
  .rw[ř q,ř q];show p
  .rw[Ś q,Ś q];show r g
 .by_cases q:g=f
  .rw[q];show(km f y d).1
  .show(km f y d).2 g (m g λz=>G ?_);change(if g=f then bD u else l g)=cb;rw[Ś q];show z
def Inv.made(I:Inv X pins σ H s):Inv X pins σ (upd (upd H ↥s (.own (↥s+1))) (↥s+1) (.ins C ↥s []))
  {s with heap:=(s.heap.push W.emptyDict).push (W.instObj C ↥s)}:=by
 have c:(s.heap.push W.emptyDict).get? ↥s≈W.emptyDict:=gj s.heap rfl;have d:((s.heap.push W.emptyDict).push (W.instObj C ↥s)).get? (↥s+1)≈(W.instObj C ↥s):=by
  have:=gj (s.heap.push W.emptyDict) (o:=W.instObj C ↥s) rfl
  rwa [Qy]at this
 have f:(s.heap.push W.emptyDict).Ns ↥s (λ_=>cb):=#[W.emptyDict,#v[],_,c,rfl,(λe g=>absurd g ⋯),λ_=>rfl]
 have h:=I.laid (a:=↥s) (o:=.own (↥s+1)) (h':=s.heap.push W.emptyDict) (t':=s.toks) (λb u q=>dt _ q) (hY _) ⟨_,c⟩;show h.laid (a:=↥s+1) (o:=.ins C ↥s []) (t':=s.toks) (λb u q=>dt _ q) (Ux (Qy _ _)) ?_;have ne:↥s≠↥s+1:=i9 (TB _);show#[by rw[ai ne,aj],kj _,ne,d,λ_=>cb,(Heap.Ns1.of_empty f).at λo q=>dt _ q,λ_=>VH,λy i=>absurd rfl i]
def DP(a:LF e f env (p8 e env)=p8 e env)
  (h:f6 (gs prog w) A (p8 e env) (λo b=>f6 (gs prog w) A (getAttr o f b6) Q E b) E s):f6 (gs prog w) A (p8 (.Attribute e f pos) env) Q E s :=
 Attribute_any_ h (by rw[arm_eval_Attribute,a])
abbrev Hu(K:W.Frag)(d:TE)(f:Str):TE:=λσ H Q=>d σ H λx b=>∃a C e c v,x=.ref a/\b a≈.ins C e c/\RC K C/\jf K C f/\c.lookup f≈v/\Q v b
abbrev MJ(K:W.Frag)(e g:TE)(f:Str):TS:=λD σ H=>g σ H λy h=>e σ h λx c=>∃a C d b,x=.ref a/\c a≈.ins C d b/\RC K C/\jf K C f/\⇑b<1000 /\
 D.nx σ (upd c a (.ins C d (fu f y b)))
def qd(b:PE X e d)(g:LF e f X.env (p8 e X.env)=p8 e X.env):PE X (.Attribute e f pos) (Hu X.K d f):=by
 intro pins s σ H Q I h;show DP g (Ny (b pins s σ H _ I h) λu s1 i=>?_);have(x,j,k,m,a,C,r,t,v,ex,ea,c,n,l,q):=i;subst ex;obtain rfl:u=ku a:=m;show uI k ea c n l λu' w o p=>#[v,j,o,p,q]
def qe(e:PE X o g)(i:PE X b j)(hs:Qv b (bD (.Attribute o f d)) pos.line X.env=pure cK):PS X (.Assign [.Attribute o f d] b pos) (MJ X.K g j f):=by
 intro pins s σ H D I h;show plainObj_wpAny_Assign_Attribute (Ny (i pins s σ H _ I h) λu s1 ⟨y,k,m,p,q⟩=>Ny (e pins s1 σ k _ m q) λr A ⟨x,B,t,v,a,C,G,J,ex,ea,c,n,l,w⟩=>?_) hs;subst ex;obtain rfl:r=ku a:=v;show uK t ea c n l p λL z=>#[σ,_,z,w]
inductive mR(K:W.Frag)(H:Hp):V->g8->Prop where
 |Nt:mR K H .Nt (.type "NoneType")
 |bl (x:Bool):mR K H (.bl x) (.type "bool")
 |int (i:Int):mR K H (.int i) (.type "int")
 |str (x:Str):mR K H (.str x) (.type "str")
 |Vl (x:UInt64):mR K H (.Vl x) (.type "float")
 |lst {a:hH} {xs:↑V} (e:H a≈.lst xs):mR K H (.ref a) (.type "list")
 |Pa {a:hH} {o:Obj} {xs:↑V} (e:H a≈.Pa o (.lst xs)):mR K H (.ref a) (.type "list")
 |tup {a:hH} {xs:↑V} (e:H a≈.tup xs):mR K H (.ref a) (.type "tuple")
 |dK {a:hH} {kvs:↑(Key×V)} (e:H a≈.dK kvs):mR K H (.ref a) (.type "dict")
 |dT {a:hH} {kvs:↑(↑Key×V)} (e:H a≈.dT kvs):mR K H (.ref a) (.type "dict")
 |ins {a C dx:hH} {fs:↑(Str×V)} (e:H a≈.ins C dx fs) (cl:RC K C) (ha:W.findIn K (.ref C) "__class__"≈bD (.builtin "object.__class__"))
   (hn:W.specialIn K (.builtin "object.__class__") "__get__"≈bD (.builtin "getset_descriptor.__get__")) (SQ:W.takesIn K (.builtin "object.__class__")≈b6)
   (hm:W.mroIn K C (.type "object")≈b6):mR K H (.ref a) (.ref C)
structure cW(k:Nat)(A:Ui):Prop where
 hd:A.handled=cb
 dp:A.depth+3 * k+5<Ň
 un:A.units+16 * k+200<C0
 gd:A.guards≈[]
def cW.mono(r:cW k A)(h:j<=k):cW j A:=#[r.hd,by have:=r.dp;lia,by have:=r.un;lia,r.gd]
def cW.deeper(r:cW (k+1) A)(env):cW k (A.deeper env) :=
 #[r.hd,by have:=r.dp;change A.depth+1+3 * k+5 < _;lia,by have:=r.un;change A.units+3+16 * k+200 < _;lia,r.gd]
def uL{A:Ui}:(A.under (.builtin "type.__call__" ⟨.ref C::us,a⟩)).depth=A.depth+1:=by
 first|rfl|simp[XD,Code.weight,Ĥ,Code.isCaller,Z4,ĥ,guardIds]
def uM{A:Ui}:(A.under (.builtin "type.__call__" ⟨.ref C::us,a⟩)).units=A.units+1:=by
 first|rfl|simp[XD,Code.cUnits,Z4]
def cW.make(r:cW (k+1) A)(C)(us)(a):cW k (A.under (.builtin "type.__call__" ⟨.ref C::us,a⟩)) :=
 #[r.hd,by have:=r.dp;rw[uL];lia,by have:=r.un;rw[uM];lia,by first|show r.gd|(simp[XD,Ĥ,Z4,ĥ,guardIds];show r.gd)|(change _=_;show r.gd)]
def cW.depth(r:cW k A):A.depth<Ň:=by have:=r.dp;lia
abbrev rZ:TA:=λ_ H Q=>Q [] H
abbrev kY(a:TE)(b:TA):TA:=λσ H Q=>a σ H λx c=>b σ c λxs d=>Q (x::xs) d
def cB:PA X [] rZ:=λ_ _ _ _ H Q I h=>y8 #[[],H,I,.nil,h]
def bA(a:PE X e b)(c:PA X es t)(hs:i0 (e::es) X.env=(cK,p8 e X.env)::i0 es X.env:=by rfl):PA X (e::es) (kY b t):=by
 intro pos pins s σ H Q I h;rw[hs];show so (Ny (a pins s σ H _ I h) λu s1 d=>?_);have(x,f,g,i,j):=d;show Ny (c pos pins s1 σ f _ g j) λus o ⟨xs,k,l,m,n⟩=>#[_,k,l,.cons i m,n]
abbrev Ku(t:TA):TE:=λσ H Q=>t σ H λxs a=>⇑xs<=c8/\∀p,a p=cb->Q (.ref p) (upd a p (.tup xs))
abbrev Hv(t:TA):TE:=λσ H Q=>t σ H λxs a=>⇑xs<=c8/\∀p,a p=cb->Q (.ref p) (upd a p (.lst xs))
def uN(h:PA X es t):PE X (.Tuple es g pos) (Ku t):=by
 intro pins s σ H Q I d;show X8 (Ny (h pos pins s σ H _ I d) λus s1 ⟨xs,a,c,r,z,q⟩=>#[by rw[<-⇑r];show z,?_]);have f:a ↥s1=cb:=c.Nr.fresh (hY _);show#[.ref ↥s1,upd a ↥s1 (.tup xs),c.laid (t':=s1.toks) (λb u e=>dt _ e) (hY _) ?_,rfl,q _ f];show#[z,us,r,#[_,gj _ rfl,rfl,_,rfl]]
def uO(h:PA X es t):PE X (.List es pos) (Hv t):=by
 intro pins s σ H Q I d;show Ć (Ny (h pos pins s σ H _ I d) λus s1 ⟨xs,a,c,r,z,q⟩=>#[by rw[<-⇑r];show z,?_]);have f:a ↥s1=cb:=c.Nr.fresh (hY _);show#[.ref ↥s1,upd a ↥s1 (.lst xs),c.laid (t':=s1.toks) (λb u e=>dt _ e) (hY _) ?_,rfl,q _ f];show#[z,us,0,r,gj _ rfl]
@[reducible]noncomputable def Sp:=↑V->Hp->VK->XK->Prop
@[reducible]noncomputable def TJ:=↑Env->Hp->i4->XK->g8->i4->Prop
structure uP(P:sd)(w:wk)(K:W.Frag)(mg:Str->Option g8)(base:K2)(A:Ui)(outer:↑Env)(s:i4)(H:Hp):Prop where
 frames:A.frames≈outer
 mod:Mod K mg base
 bs:∀b o,base.get? b≈o->s.heap.get? b≈o/\H b=cb
 Q8:base.objs.size<=↥s
 jC:s.heap.FunFrames base outer
 R3:∀b∈Ot outer,H b=cb
 Nr:OE P w H s.heap
 bare:VV s.gens
abbrev CE(outer:↑Env)(P:sd)(w:wk)(H:Hp)(s:i4)(Q:VK)(u:g8)(a:i4):Prop :=
 ∃v H',a.os=s.os/\VV a.gens/\Un (Ot outer) [] H H' s.heap a.heap/\OE P w H' a.heap/\RelV v u/\Q v H'
abbrev CR(CX:TJ)(outer:↑Env)(P:sd)(w:wk)(H:Hp)(s:i4)(Q:VK)(E:XK)(r:Result)(a:i4):Prop :=
 match r with
 |.ok (.ret u)=>CE outer P w H s Q u a
 |.ok _=>False
 |.error e=>CX outer H s E e a
structure dE(P:sd)(w:wk)(K:W.Frag)(mg:Str->Option g8)(base:K2)(CX:TJ)(k:Nat)(f:hH)(fd:Vo)(ps:↑Str)(sp:Sp):Prop where
 len:∀vs H Q E,sp vs H Q E->⇑vs=⇑ps
 run:∀(A:Ui) (outer:↑Env) (s:i4) (H:Hp) (args:Args) (us:↑g8) (vs:↑V) (Q:VK) (E:XK),cW k A->uP P w K mg base A outer s H->Û s fd args (ps.zip us)->Vals vs us->sp vs H Q E ->
  Rr (gs P w) A (.call (.ref f) args) (CR CX outer P w H s Q E) s
def uP.make{K}(e:uP P w K mg base A outer s H)(C)(us)(a):
  uP P w K mg base (A.under (.builtin "type.__call__" ⟨.ref C::us,a⟩)) outer s H:=#[by first|show e.frames|(simpa[XD,Code.envs,pushEnvs] using e.frames),e.mod,e.bs,e.Q8,e.jC,e.R3,e.Nr,e.bare]
def Inv.Hw(I:Inv X pins σ H s):uP X.prog X.w X.K X.mg X.base X.A X.stack s H :=
 #[I.ok.frames,I.ok.mod,I.bs,qv I.ok.Q8 I.sz,I.stack,I.iB,I.Nr,I.bare]
def Inv.after(I:Inv X pins σ H s)(h:CE X.stack X.prog X.w H s Q u c):EP X pins σ Q u c:=by
 have(v,H',os,a,e,f,r,q):=h;have(j,g,d,t,i):=c;obtain rfl:i=s.os:=os;show#[v,H',I.call      e f a (λb z=>absurd z ⋯),r,q]
abbrev Kv(C:hH)(c:Sp)(d:↑V)(E:XK)(t:TA):TE:=λσ H Q=>t σ H λvs b=>∀x a,b x=cb->b a=cb->a≠x ->
 c (.ref x::(vs++d)) (upd (upd b a (.own x)) x (.ins C a [])) (λv e=>v=.Nt/\Q (.ref x) e) E
abbrev Binds(K:W.Frag)(a:Vo)(ps:↑Str)(ds:↑g8):Prop :=
 ∀(s:i4) (us:↑g8),K.In s.heap->⇑(us++ds)=⇑ps->Û s a #[us,[]] (ps.zip (us++ds))
def Binds.all{K}(h:∀us,⇑us=⇑ps->ō a #[us,[]]=pure (ps.zip us)):Binds K a ps []:=λs us _ hl=>by
 rw[tP]at hl ⊢;show .of_eq (h us hl)
abbrev Passes(CX:TJ)(X:Cx)(E:XK):Prop:=∀(pins:↑(hH×Obj)) (σ:St) (H:Hp) (s:i4) (e:g8) (a:i4),Inv X pins σ H s->CX X.stack H s E e a->X.xe e a
def Ar(F:dE X.prog X.w X.K X.mg X.base CX k f c ps d)(g:cW k X.A)(i:Binds X.K c ps ds)(j:Vals l ds)(m:Passes CX X E)
  (I:Inv X pins σ H s) (r:Vals vs us) (h:d (vs++l) H Q E):‹X› (Qo (.ref f) us) (EP X pins σ Q) X.xe s:=by
 have b:=r.append j;have hl:⇑(us++ds)=⇑ps:=by rw[<-⇑b];show F.len _ _ _ _ h
 show Zj (Tt (F.run X.A _ s H _ _ _ Q E g I.Hw (i s us I.Pb hl) b h) λr n a=>?_);cases r with
 |error e=>show m pins σ H s e n I a
 |ok o =>
  cases o with
  |ret u=>show I.after a
  |cont=>assumption
  |_=>show Hf a
structure Mk(K:W.Frag)(C f:hH):Prop where
 makes:W.makesIn K C=b6
 init:W.findIn K (.ref C) "__init__"≈bD (.ref f)
 fn:W.isFn K (.ref f)=b6
 kp:W.keepIn K (.ref C)=b6
def As(M:Mk X.K C f)(F:dE X.prog X.w X.K X.mg X.base CX k f j ps l)(m:cW (k+1) X.A)(n:Binds X.K j ps ds)(o:Vals d ds)
  (p:Passes CX X E) (I:Inv X pins σ H s) (r:Vals vs us)
  (h:∀x a,H x=cb->H a=cb->a≠x->l (.ref x::(vs++d)) (upd (upd H a (.own x)) x (.ins C a [])) (λv q=>v=.Nt/\Q (.ref x) q) E) :
  ‹X› (Qo (.ref C) us) (EP X pins σ Q) X.xe s:=by
 have g:=h (↥s+1) ↥s (I.Nr.fresh (È _)) (I.Nr.fresh (hY _)) (i9 (TB _));have b:=Inv.made (C:=C) I;have i:Vals (V.ref (↥s+1)::(vs++d)) (ku (↥s+1)::(us++ds)):=.cons rfl (r.append o);have hl:⇑(ku (↥s+1)::us++ds)=⇑ps:=by
  have e:=⇑i;rw[F.len _ _ _ _ g]at e;show e.symm
 show Zj (Aq (f:=f) I.Pb M.makes M.init (beq_iff_eq.mp M.fn) (Tt (F.run _ X.stack _ _ #[ku (↥s+1)::us,[]] (ku (↥s+1)::(us++ds)) _ _ E (m.make C us [])
  (b.Hw.make C us []) (n _ (ku (↥s+1)::us) b.Pb hl) i g) λr t c=>?_))
 cases r with
 |error e=>show p pins σ _ _ e t b c
 |ok y =>
  cases y with
  |ret u =>
   have(v,H',z,rv,ev,B):=b.after c;subst ev;show#[rv,#[V.ref (↥s+1),H',z,rfl,B]]
  |_=>show Hf c
def r6(M:Mk X.K C f)(F:dE X.prog X.w X.K X.mg X.base CX k f a ps b)(c:cW (k+1) X.A)(d:Gl X x)(e:X.mg x≈.ref C)(g:Binds X.K a ps ds)(i:Vals j ds)(l:Passes CX X E)
  (m:(x==("__debug__":Str))=cK:=by decide):PE X (.Call (.Name x p) [] [] pos) (Kv C b j E rZ):=by
 intro pins s σ H Q I h;show nS (eD I d e ?_ m);show W.callWith_K0 I.Pb M.kp (As (us:=[]) M F c g i l I .nil h)
structure da(N P:↑Str)(sc:uk):Prop where
 kind:sc.kind=.function
 co:sc.isCoroutine=cK
 gen:sc.isGenerator=cK
 nd:N.Nodup
 pre:N.take ⇑P=P
 par:∀x∈P,sc.names.lookup x≈.local\/sc.names.lookup x≈.cell
 TK:∀y∈sc.names,y.2≠.free
theorem oW{kindOf}:∀{a}{m},(∀v,(x,v)∉a)->ó kindOf a m x=m x
 |[],_,_=>rfl
 |(n,v)::r,m,h=>by
  unfold ó;rw[oW λw b=>h w (f7 _ b)];split
  .have:x≠n:=by rintro rfl;show h v il
   simp[this]
  .rfl
theorem oX{kindOf}:∀{a}{m},(∀v,(x,v)∉a)->ô kindOf a m x=m x
 |[],_,_=>rfl
 |(n,v)::r,m,h=>by
  unfold ô;rw[oX λw b=>h w (f7 _ b)];split
  .rfl
  .have:x≠n:=by rintro rfl;show h v il
   simp[this]
theorem oY{kindOf}:∀{P:↑Str}{vs}{i:Nat}{m},P.Nodup->P[i]?≈x->vs[i]?≈v->kindOf x≈.local ->
  ó kindOf (P.zip vs) m x≈v
 |[],_,_,_,_,h,_,_=>by simp at h
 |_::_,[],_,_,_,_,h,_=>by simp at h
 |p::P,w::vs,0,m,a,b,c,hk=>by
  simp at b c;subst b;subst c;change ó _ ((p,w)::P.zip vs) m p=_;unfold ó;rw[oW λv d=>(nC.mp a).1 (TU d).1,ř hk];simp
 |p::P,w::vs,i+1,m,a,b,c,hk=>by
  unfold ó;show oY  (nC.mp a).2 (by assumption) (by assumption) hk
theorem oZ{kindOf}:∀{P:↑Str}{vs}{i:Nat}{m},P.Nodup->P[i]?≈x->vs[i]?≈v->kindOf x≠bD .local ->
  ô kindOf (P.zip vs) m x≈v
 |[],_,_,_,_,h,_,_=>by simp at h
 |_::_,[],_,_,_,_,h,_=>by simp at h
 |p::P,w::vs,0,m,a,b,c,hk=>by
  simp at b c;subst b;subst c;change ô _ ((p,w)::P.zip vs) m p=_;unfold ô;rw[oX λv d=>(nC.mp a).1 (TU d).1,Ś hk];simp
 |p::P,w::vs,i+1,m,a,b,c,hk=>by
  unfold ô;show oZ  (nC.mp a).2 (by assumption) (by assumption) hk
abbrev start(N:↑Str)(vs:↑V):St:=vs.map bD++kb (⇑N - ⇑vs) cb
abbrev qf(CX:TJ)(P:sd)(w:wk)(K:W.Frag)(mg:Str->Option g8)(base:K2)(N:↑Str)(a:Str)(scope:uk)(f:hH)(b:g8)(A:Ui)(outer:↑Env)(s:i4)(H:Hp)(E:XK):Cx where
 prog:=P
 w:=w
 K:=K
 mg:=mg
 base:=base
 A:=A.deeper (Yo a scope ↥s f b)
 N:=N
 s₀:=s
 H₀:=H
 env:=Yo a scope ↥s f b
 outer:=outer
 stack:=Yo a scope ↥s f b::outer
 ex:=[]
 calm:=b6
 fn:=λ_=>b6
 pn:=[]
 xe:=λe d=>f6 (gs P w) (A.deeper (Yo a scope ↥s f b)) (leaving (Yo a scope ↥s f b) e) (λ_ c=>CX outer H s E e c) (λg c=>CX outer H s E g c) d
def r9{a:uk}(h:a.names.lookup x≈.cell):∃c,(Oo n a.names []).lookup x≈c:=by
 have q:=W.cellsFrom_some _ n [] (.inl h);show vr.mp q
def yz{K}
  (S:da N ps scope) (C:A.handled=cb) (d:uP P w K mg base A outer s H) (hl:⇑vs=⇑ps) (r:Vals vs us)
  (x:InCallC s ↥s (ó (Yo a scope ↥s f o).kindOf (ps.zip us) λ_=>cb) (Oo (↥s+1) scope.names []) (ô (Yo a scope ↥s f o).kindOf (ps.zip us) λ_=>cb) s1) :
  Inv (qf CX P w K mg base N a scope f o A outer s H E) [] (start N vs) H s1:=by
 have G:⇑ps<=⇑N:=by have:=ş NX S.pre;grind
 have(m,tk,rfl,hk):=x.done;have t:∀b:hH,b∉(qf CX P w K mg base N a scope f o A outer s H E).ex:=λb z=>absurd (show b∈([]:↑hH) from z) ⋯;show#[#[d.mod,S.kind,rfl,rfl,hY _,λy z c m g=>?_,λy hy=>?_,λy c _ h=>?_,λ_=>C,Around.frames_deeper d.frames,.inr #[rfl,rfl],λb z=>absurd z (t b),d.bs,d.Q8,λb _ _=>t b,λb z=>absurd z (t b),d.jC,d.R3],
  rfl,d.bare,Un.kept hk,#[_,x.toInCall.ns,λi y v m g I=>?_],λy c h=>#[_,x.cell y c h],d.Nr.fresh (hY _),λy c h=>?_,λp j=>absurd (show p∈([]:↑(hH×Obj)) from j) ⋯,d.Nr.kept hk,?_]
 .show name_of_addr x.apart (PySem.mem_of_lookup m) (PySem.mem_of_lookup g)
 .rcases hy with hy|hy
  .show r9 hy
  .show absurd rfl (S.TK _ (PySem.mem_of_lookup hy))
 .show Q_ (x.above y c (PySem.mem_of_lookup h))
 .have hi:i<⇑vs:=by
   unfold start at g;by_cases hi:i<⇑vs
   .show hi
   .rw[pe (by exists hi)]at g;rw[O7]at g;simp_all
  have D:vs[i]?≈v:=by
   unfold start at g;rw[qs (by exists hi),sg]at g;simp_all
  have(u,B,rv):=r.get D;have j:ps[i]?≈y:=by
   rw[<-S.pre,Y4 ⋯];show m
  have l:ps.Nodup:=by rw[<-S.pre];show S.nd.sublist (à _ _)
  show#[u,rv,?_];rcases S.par y (nT j) with k|k
  .show .inl #[k,oY l j B k]
  .have(c,e):=r9 (n:=↥s+1) k;show .inr #[.inl k,c,e,?_];have q:=x.cell y c e;rw[oZ l j B (by change scope.names.lookup y≠_;rw[k];decide)]at q;show q
 .show d.Nr.fresh (Q_ (x.above y c (PySem.mem_of_lookup h)))
 .unfold start;change _=⇑N;simp_all
def wN{K:W.Frag}{B kV g pm d ct L}
 (lk:K.lookup f≈#[L,od,.func (W.fnOf name a c body scope B kV g pm O d ct),R5]) (T:W.codeIn K d a=b6) (S:da N ps scope)
    (h:∀vs H Q E,C vs H Q E->⇑vs=⇑ps)
    (Y:∀A outer s H vs Q E,cW k (A.deeper (Yo a scope ↥s f d))->C vs H Q E ->
      ∃t,OO (qf CX P w K mg base N a scope f d A outer s H E) body t/\t {nx:=λ_ H'=>Q .Nt H',rt:=Q} (start N vs) H) :
    dE P w K mg base CX (k+1) f (W.fnOf name a c body scope B kV g pm O d ct) ps C:=by
  show#[h,λA outer s H args us vs Q E m i hb r D=>?_];have hl:=h _ _ _ _ D;have G:=i.mod.SJ.keeps λb o e=>(i.bs b o e).1;have p:=i.mod.nolimit.keeps λb o e=>(i.bs b o e).1;have Vy:∀y∈ps.zip us,scope.names.lookup y.1≈.local\/(scope.names.lookup y.1≈.cell/\((Oo (↥s+1) scope.names []).lookup y.1).isSome=b6):=λ⟨n,v⟩ hy=>by
    rcases S.par n (TU hy).1 with q|q
    . show .inl q
    . show .inr #[q,W.cellsFrom_some _ _ _ (.inl q)]
  show codeAny_call_function m.depth (G _ _ lk) rfl S.co S.gen rfl (W.codeRec_of G T) (hb _ _ _ _ ?_);show wpAny_newFunctionEnv_cells S.kind Vy λenv he s1 x=>?_;subst he;show#[p.keeps x.toInCall.keep,codeAny_func ?_];have(t,ht,hq):=Y A outer s H vs Q E (m.deeper _) D;have I:Inv (qf CX P w K mg base N a scope f d A outer s H E) [] (start N vs) H s1:=yz S m.hd i hl r x;show lg (ht [] s1 (start N vs) H _ I hq) (λfl z hs=>?_) λe z hs=>hs;have j:∀{l:St} {H':Hp} {v:V} {u:g8},Inv (qf CX P w K mg base N a scope f d A outer s H E) [] l H' z->RelV v u->Q v H'->CE outer P w H s Q u z :=
    λ{l H' v u} J rv q=>#[v,H',J.os,J.bare,J.base,J.Nr,rv,q]
  cases fl with
  | ret u =>
    have(v,l,H',J,rv,q):=hs;show j J rv q
  | next =>
    have(l,H',J,q):=hs;show j (v:=V.Nt)  J rfl q
  | brk =>
    have(_,_,_,q):=hs;show Hf q
  | cont =>
    have(_,_,_,q):=hs;simp_all
section
variable{X:Cx}{x:Str}{p pos:Pos}{e:jw}{es:List jw}{t:TA}{id T:String}{r:List V->Hp->VK->Prop}
abbrev tCB(r:↑V->Hp->VK->Prop)(t:TA):TE:=λσ H Q=>t σ H λvs a=>r vs a Q
def Au(a:gD X (.builtin id) r)(b:Gl X x)(c:X.mg x=cb)(d:sx x≈.builtin id)(f:PA X (e::es) t)(hn:x≠"__name__":=by decide)(g:(x==("__debug__":Str))=cK:=by decide)
  (i:i0 (e::es) X.env=(cK,p8 e X.env)::i0 es X.env:=by rfl) (j:(vl pos (i0 es X.env)).any (·.1)=cK:=by rfl):PE X (.Call (.Name x p) (e::es) [] pos) (tCB r t):=by
 intro pins s σ H Q I h;show nS (dB I b c d ?_ hn g);show uu (Ny (f pos pins s σ H _ I h) λus s1 ⟨vs,k,l,m,n⟩=>a pins s1 σ k vs us Q l m n) i j
end
end L2
namespace HT
open PySem PyProof.Rows
section
open PySem.SeqAt
open PySem.AutoSeq1 (wpAny_loadPart')
open PySem.MeetsSeq PySem.MeetsSeq2 PySem.MeetsSeq3
end
def DQ(o:Yc s.heap t vs.toArray)(p:Yc s.heap b ws.toArray)(f:vs≠[])
  (q:ws=[]->Q (.ref t) s) (r:ws≠[]->Q (.ref ↥s) {s with heap:=s.heap.push {cls:=.type "tuple",data:=.seq (vs++ws).toArray}})
  (hsz:⇑vs+⇑ws<=c8):f6 (gs prog w) A (RU .Add (.ref t) (.ref b)) Q E s:=by
 have((cls,dd,data,g),ho,h,n,i):=id o;have((u,j,data2,k),c,l,m,a):=id p;simp only at h i l a;subst h i l a;have e:vs.toArray++ws.toArray=(vs++ws).toArray:=⋯
 by_cases d:ws=[]
 .show YF #[_,ho,rfl] #[_,c,rfl] YX Â F.slot_tuple_add F.entry_tuple_add (F.args_tuple_add_2 _ _)
   (tuple_addW1 t b vs.toArray ws.toArray n m dd j g k (by exists f) (by simp[d])) #[ho,c,q d]
 .show YF #[_,ho,rfl] #[_,c,rfl] YX Â F.slot_tuple_add F.entry_tuple_add (F.args_tuple_add_2 _ _)
   (tuple_addW2 t b vs.toArray ws.toArray n m dd j g k (by exists f) (by exists d) (by rw[mu,mu];show hsz)) #[ho,c,?_]
  rw[e];show r d
abbrev NP(n d:Nat):Option Int->Nat
 |none=>d
 |some v=>if v<0 then(v+(n:Int)).toNat else min v.toNat n
def Av(n d):NP n d cb=d:=rfl
def DR(n d k:Nat):NP n d (bD (k:Int))=min k n:=by
 rfl
def Hx(n d)(b:d<=n)(o):NP n d o<=n:=by
 cases o with
 |none=>show b
 |some v =>
  change(if v<0 then(v+(n:Int)).toNat else min v.toNat n)<=n;by_cases a:v<0
  .rw[ř a];lia
  .rw[Ś a];show ý _ _
def wO(v)(n d:Nat):(if v<0 then max (v+(n:Int)) 0 else min v (n:Int))=((NP n d (bD v):Nat):Int):=by
 change(if v<0 then max (v+(n:Int)) 0 else min v (n:Int))=(((if v<0 then(v+(n:Int)).toNat else min v.toNat n):Nat):Int)
 by_cases a:v<0
 .simp only[ř a];lia
 .simp only[Ś a];lia
def uQ(lo hi)(n:Nat):Tz lo hi 1 (n:Int)=(((NP n 0 lo:Nat):Int),((NP n n hi:Nat):Int)):=by
 have a:¬((1:Int)<0):=⋯
 unfold Tz;erw[a,if_false];show Vq ?_ ?_
 .cases lo with
  |none=>rfl
  |some v=>show wO v n 0
 .cases hi with
  |none=>rfl
  |some v=>show wO v n n
def uR(i j:Nat):Pr (i:Int) (j:Int) 1=j - i:=by
 unfold Pr;have a:(1:Int)>0:=⋯
 erw[a,if_true,Int.ediv_one];split<;>lia
def mS(p:XT v o)(h:Q o s):f6 (gs prog w) A (ĳ v) Q E s:=by
 cases p with
 |none=>show Ŕ h
 |int i t=>show slicePart_int h
def fB{lo hi}{n:Nat}(hs:s.heap.IsSliceOf e c d .none)(f:XT c lo)(g:XT d hi)
  (h:Q (((NP n 0 lo:Nat):Int),1,NP n n hi - NP n 0 lo) s):f6 (gs prog w) A (Xz (.ref e) (pure (n:Int))) Q E s:=by
 have(os,a,i,b):=id hs;unfold Xz Ĵ;show cL (cL (p9 a b (x:=c) rfl (cL (p9 a b (x:=d) rfl (cL (p9 a b (x:=.none) rfl (dV ?_)))))));show cL (Ŕ ?_);change f6 _ _ (if ((1:Int)==0)=b6 then _ else _) _ _ s;rw[Ś ⋯];show cL (mS f (cL (mS g (cL (dV ?_)))));change f6 _ _ (match Tz lo hi 1 (n:Int) with|(lo,hi)=>pure (lo,(1:Int),Pr lo hi 1)) _ _ s;rw[uQ lo hi n];change f6 _ _ (pure (((NP n 0 lo:Nat):Int),(1:Int),Pr ((NP n 0 lo:Nat):Int) ((NP n n hi:Nat):Int) 1)) _ _ s;rw[uR];show dV h
def Aw(xs:Array g8)(i k:Nat):((ib k).filterMap λ(m:Nat)=>xs[((i:Int)+(m:Int) * 1).toNat]?).toArray=((xs.toList.drop i).take k).toArray:=by
 have e:(λ(m:Nat)=>xs[((i:Int)+(m:Int) * 1).toNat]?)=λm=>xs[i+m]?:=by
  funext m
  have:((i:Int)+(m:Int) * 1).toNat=i+m:=⋯
  rw[this]
 rw[e];have:=pick_run xs i k;rw[List.filterMap_map]at this;have a:((λx=>xs[x]?) ∘ λx=>i+x)=λm=>xs[i+m]?:=rfl;rw[a]at this;rw[this]
def jF{lo hi}(b:Yc s.heap t a)(hs:s.heap.IsSliceOf d e f .none)(g:XT e lo)(i:XT f hi)
  (j:¬(NP a.size 0 lo=0/\NP a.size a.size hi=a.size))
  (h:Q (.ref ↥s) {s with heap:=s.heap.push {cls:=.type "tuple",data:=.seq ((a.toList.drop (NP a.size 0 lo)).take (NP a.size a.size hi - NP a.size 0 lo)).toArray}})
  (hsz:a.size<=c8):f6 (gs prog w) A (UQ (.ref t) (.ref d)) Q E s:=by
 have c:sizeOk (.seq ((a.toList.drop (NP a.size 0 lo)).take (NP a.size a.size hi - NP a.size 0 lo)).toArray):=by
  change((a.toList.drop (NP a.size 0 lo)).take (NP a.size a.size hi - NP a.size 0 lo)).toArray.size<=c8;rw[mu,Vr,Yd,p7];lia
 have p:NP a.size a.size hi<=a.size:=Hx _ _ (hY _) hi;have(os,k,l,r):=id hs;have n:s.TypeIs (.ref d) "slice":=#[os,k,l]
 unfold UQ
 try with_reducible show tv ?_
 first|show cL (dV ?_)|skip
 show cL (Ė b.typeIs ⋯ ?_);show cL (tp (name:=Uv "__getitem__") b.typeIs sP
  (tj sP b.typeIs entry_tuple_getitem ?_ (ď _ _)))
 change f6 _ _ (Xy (.ref t) >>= _) _ _ s;show cL (tupleItemsOf_ b ?_);show cL (UO n ?_);rw[ř ⋯];show cL (fB hs g i ?_);have o:¬((((NP a.size 0 lo:Nat):Int)==0&&(1:Int)==1&&(NP a.size a.size hi - NP a.size 0 lo)==a.size)=b6):=by
  intro q;rw[cc,cc]at q;have u:((NP a.size 0 lo:Nat):Int)=0:=ĺ q.1.1;have v:NP a.size a.size hi - NP a.size 0 lo=a.size:=ĺ q.2;show j #[⋯,⋯]
 change f6 _ _ (if (((NP a.size 0 lo:Nat):Int)==0&&(1:Int)==1&&(NP a.size a.size hi - NP a.size 0 lo)==a.size)=b6 then _ else _) _ _ s;rw[Ś o,Aw]
 first
  |show cL (m:=u4 _) (pj (dV #[_,rfl,dV h]) c)
  |show cL (m:=u4 _) (pj (cL (dV (dV #[_,rfl,dV h]))) c)
  |show cL (cL (m:=u4 _) (pj (dV (dV #[_,rfl,dV h])) c))
  |show cL (cL (m:=u4 _) (pj (dV #[_,rfl,dV h]) c))
end HT
namespace L2
open PySem PySem.Spec PyProof.Rows
@[reducible]noncomputable def TO:=St->Hp->(Option Int->Hp->Prop)->Prop
abbrev PO(X:Cx)(e:Option jw)(t:TO):Prop :=
 ∀(pins:↑(hH×Obj)) (s:i4) (σ:St) (H:Hp) (Q:Option Int->Hp->Prop),Inv X pins σ H s->t σ H Q ->
  ‹X› (evalPart e X.env) (λu a=>∃o H',Inv X pins σ H' a/\XT u o/\Q o H') X.xe s
abbrev DS:TO:=λ_ H Q=>Q cb H
abbrev Kw(t:TE):TO:=λσ H Q=>t σ H λx a=>∃i,x=.int i/\Q (bD i) a
section
variable{X:Cx}{e:jw}{te:TE}{lo hi:Option jw}{tl th:TO}{pos p2:Pos}
def DT:PO X cb DS:=by
 intro pins s σ H Q I h;show dV #[cb,H,I,.none,h]
def DU(h:PE X e te):PO X (bD e) (Kw te):=by
 intro pins s σ H Q I a;show Ny (h pins s σ H _ I a) λu s1 b=>?_;have(x,c,d,f,g):=b;have(i,rfl,q):=g;have(t,rfl):=f;show#[_,c,d,.int i t,q]
abbrev RF(X:Cx)(r:V->Option Int->Option Int->Hp->VK->Prop):Prop :=
 ∀(pins:↑(hH×Obj)) (s:i4) (σ:St) (H:Hp) (x:V) (v a b:g8) (lo hi:Option Int) (c:hH) (Q:VK),Inv X pins σ H s->RelV x v->s.heap.IsSliceOf c a b .none->XT a lo->XT b hi->r x lo hi H Q ->
  ∃T id,Wt (.type T) "__getitem__"=pure (bD (.builtin id))/\s.TypeIs v T/\‹X› (UQ v (.ref c)) (EP X pins σ Q) X.xe s
def RF.or(h:RF X r)(h':RF X i):RF X (λx lo hi H Q=>r x lo hi H Q\/i x lo hi H Q):=by
 intro pins s σ H x v a b lo hi c Q I d hs f g q;rcases q with q|q
 .show h pins s σ H x v a b lo hi c Q I d hs f g q
 .show h' pins s σ H x v a b lo hi c Q I d hs f g q
abbrev tSl(r:V->Option Int->Option Int->Hp->VK->Prop)(te:TE)(tl th:TO):TE:=λσ H Q=>te σ H λx a=>tl σ a λl b=>th σ b λu c=>r x l u c Q
def Ax(g:RF X r)(i:PE X e te)(hl:PO X lo tl)(j:PO X hi th):PE X (.Subscript e (.Slice lo hi cb p2) pos) (tSl r te tl th):=by
 intro pins s σ H Q I h;show ZQ (Ny (i pins s σ H _ I h) λv s1 k=>?_);have(x,m,n,o,p):=k;show wpAny_Slice (Ny (hl pins s1 σ m _ n p) λa t ⟨l,w,y,z,A⟩=>Ny (j pins t σ w _ y A) λc d B=>?_);have(u,f,C,D,G):=B;show dV ?_;have J:Inv X pins σ f {d with heap:=d.heap.push {cls:=.type "slice",data:=.fields #v[a,c,.none]}}:=C.kept  λb Y q=>dt _ q;have(T,id,L,N,O):=g pins _ σ f x v a c l u _ Q J o (ģ ..) z D G;show tail_any  N L O (by rfl)
abbrev uS(xs:↑V)(lo hi:Option Int):↑V:=(xs.drop (HT.NP ⇑xs 0 lo)).take (HT.NP ⇑xs ⇑xs hi - HT.NP ⇑xs 0 lo)
def kZ(xs)(lo hi):⇑(uS xs lo hi)<=⇑xs:=by
 unfold uS;rw[Vr,Yd];lia
abbrev Kx(K:W.Frag):V->Option Int->Option Int->Hp->VK->Prop:=λx lo hi H Q=>∃a xs,x=.ref a/\Oc K H a xs /\
 ¬(HT.NP ⇑xs 0 lo=0/\HT.NP ⇑xs ⇑xs hi=⇑xs)/\∀p,H p=cb->Q (.ref p) (upd H p (.tup (uS xs lo hi)))
def Hy:RF X (Kx X.K):=by
 intro pins s σ H x v m n lo hi p Q I f hs g i h;have(a,xs,rfl,j,k,q):=h;cases f;have(l,r,d,hz):=I.tuple j;have c:l.toArray.size=⇑xs:=by rw[mu];show r.length.symm
 show#["tuple",_,sP.lookup,d.typeIs,?_];show HT.jF d hs g i (by rw[c];show k) ?_ (by rw[c];show hz);rw[c];show#[.ref ↥s,_,I.laid (t':=s.toks) (o:=.tup (uS xs lo hi)) (λb t q=>dt _ q) (hY _) ?_,rfl,q _ (I.Nr.fresh (hY _))];show#[qv (kZ xs lo hi) hz,_,(r.drop (HT.NP ⇑xs 0 lo)).take (HT.NP ⇑xs ⇑xs hi - HT.NP ⇑xs 0 lo),Wq _ _]
abbrev Ky(K:W.Frag):R2:=λx y H Q=>∃a b xs ys,x=.ref a/\y=.ref b/\Oc K H a xs/\Oc K H b ys/\xs≠[]/\⇑xs+⇑ys<=c8 /\
 (ys=[]->Q (.ref a) H)/\(ys≠[]->∀p,H p=cb->Q (.ref p) (upd H p (.tup (xs++ys))))
def Vals.qg(r:Vals xs us):us=[]↔xs=[]:=by
 cases r with
 |_=>simp
def DV:OY X (RU .Add) (Ky X.K):=by
 intro pins s σ H x y v u Q I f g h;have(a,b,xs,ys,rfl,rfl,i,j,k,hz,l,m):=h;cases f;cases g;have(p,d,n,_):=I.tuple i;have(r,c,p2,_):=I.tuple j;show HT.DQ n p2 (λz=>k (d.qg.mp z)) (λz=>#[.ref a,H,I,rfl,l (c.qg.mp z)]) (λz=>?_) (by rw[<-⇑d,<-⇑c];show hz);show#[.ref ↥s,_,I.laid (t':=s.toks) (o:=.tup (xs++ys)) (λb t q=>dt _ q) (hY _) ?_,rfl,m (λw=>z (c.qg.mpr w)) _ (I.Nr.fresh (hY _))];show#[by rw[mx];show hz,_,d.append c,Wq _ _]
end
abbrev QU(n:Nat)(i:Int):Option Nat:=if 0<=i then(if i<n then bD i.toNat else cb) else if -(n:Int)<=i then bD (i+n).toNat else cb
abbrev N_{α:Type}(xs:↑α)(i:Int):Option α:=(QU ⇑xs i).bind λj=>xs[j]?
def wQ{n}(h:QU n i≈j):Ī i n≈j/\j<n/\-(n:Int)<=i/\i<n:=by
 unfold QU at h;by_cases h0:0<=i
 .rw[ř h0]at h;by_cases a:i<n
  .rw[ř a]at h;have e:=vu h;show#[by rw[ð h0 a,e],⋯,⋯,a]
  simp_all
 .rw[Ś h0]at h;by_cases a:-n<=i
  .rw[ř a]at h;have e:=vu h;show#[by rw[seqIndex_neg ⋯ a,e],⋯,a,⋯]
  simp_all
def qh(h:N_ xs i≈v):∃j,Ī i ⇑xs≈j/\xs[j]?≈v/\j<⇑xs/\-(⇑xs:Int)<=i/\i<⇑xs:=by
 unfold N_ at h;cases e:QU ⇑xs i with
 |none=>simp_all
 |some j =>
  rw[e]at h;have(a,b,c,d):=wQ e;show#[j,a,h,b,c,d]
def bM{j:Nat}(h:xs[j]?≈v):N_ xs (j:Int)≈v:=by
 have a:=(eH.mp h).1;have e:QU ⇑xs j≈j:=by
  unfold QU;simp_all
 unfold N_;rw[e];show h
abbrev lY(b:jw):Prop:=∀o i,Y0 b cK o i=operate [o,i] (UQ o i)
abbrev WO(X:Cx)(r:R2):Prop :=
 ∀(b a:jw) (pins:↑(hH×Obj)) (s:i4) (σ:St) (H:Hp) (x y:V) (v u:g8) (Q:VK),Inv X pins σ H s->RelV x v->RelV y u->r x y H Q ->
  Y0 a cK v u=operate [v,u] (UQ v u)->‹X› (subscriptTail b a v u) (EP X pins σ Q) X.xe s
abbrev TL(X:Cx)(id:String)(r:V->↑V->Hp->VK->Prop):Prop :=
 ∀(pins:↑(hH×Obj)) (s:i4) (σ:St) (H:Hp) (x:V) (xs:↑V) (v:g8) (us:↑g8) (Q:VK),Inv X pins σ H s->RelV x v->Vals xs us->r x xs H Q ->
  ‹X› (Qo (.builtin id) (v::us)) (EP X pins σ Q) X.xe s
section
def Kz(c:WO X r)(d:PE X a f)(g:PE X b tb)(hs:lY b):PE X (.Subscript a b pos) (WK r f tb):=by
 intro pins s σ H Q I h;show ZQ (MF d g I h λv u i x y j k l m q=>c a b pins i σ j x y v u Q k l m q (hs _ _))
abbrev MK(K:W.Frag):R2:=λx y H Q=>∃p xs i v,x=.ref p/\y=.int i/\N5 K H p xs/\N_ xs i≈v/\Q v H
abbrev KA(K:W.Frag):R2:=λx y H Q=>∃p xs i v,x=.ref p/\y=.int i/\Oc K H p xs/\N_ xs i≈v/\Q v H
abbrev ML:R2:=λx y H Q=>∃z i c,x=.str z/\y=.int i/\⇑z<=c8/\N_ (~~~z) i≈c/\Q (.str #[#v[c]]) H
def DW:WO X (MK X.K):=by
 intro b c pins s σ H x y v u Q I l m h hs;have(p,xs,i,z,rfl,rfl,n,A,q):=h;cases l;have(t,rfl):=m;have(B,r,d,hz):=I.list n;have(j,g,C,L,D,G):=qh A;have(w,k,J):=r.get C;have hl:=⇑r;have hn:=gM;have a:EP X pins σ Q w s:=#[z,H,I,J,q]
 by_cases h0:0<=i
 .have f:i.toNat=j:=by
   rw[ð h0 G]at g;simp_all
  show item_listR d.isList h0 ⋯ (by rw[f];exists k) a hs
 .have f:(i+(B.toArray.size:Int)).toNat=j:=by
   rw[seqIndex_neg ⋯ D]at g;simp_all
  show Ü  d.isList.typeIs slot_list_getitem.lookup
   (wpAny_getItem_list_neg  d.isList ⋯ ⋯ ⋯ (by rw[f];exists k) #[rfl,a]) hs
def kn:WO X (KA X.K):=by
 intro a b pins s σ H x y v u Q I f g h hs;have(p,xs,i,z,rfl,rfl,k,l,q):=h;cases f;have(t,rfl):=g;have(B,r,d,hz):=I.tuple k;have(j,C,m,D,G,J):=qh l;have(w,n,A):=r.get m;have hl:=⇑r;have hn:=gM;have c:EP X pins σ Q w s:=#[z,H,I,A,q]
 show Ü  d.typeIs slot_tuple_getitem.lookup
  (getItem_tuple (j:=j)  d ⋯ ⋯ ⋯ (by exists n) #[rfl,c]) hs
def mT:WO X ML:=by
 intro a b pins s σ H x y v u Q I f g h hs;have(z,i,c,rfl,rfl,hz,k,q):=h;have(t,rfl):=f;have(t',rfl):=g;have(j,d,l,p,m,n):=qh k;have hl:⇑z.cps.toList=⇑z:=by rfl
 rw[hl]at d m n;have hn:=gM;show tail_any (Q' s z t) slot_str_getitem.lookup (getItem_str  (by
  grind) (by rw[d];exists l) #[.str _,H,I.tok _,#[_,rfl],q]) hs
def uT(a:↑g8)(n j)(u):rS (·.setIfInBounds j u) {cls:=.type "list",data:=.seq a.toArray n}={cls:=.type "list",data:=.seq (a.set j u).toArray n}:=by
 simp[rS]
def Inv.lst(I:Inv X pins σ H s)(h:H p≈.lst xs):
  ∃a n,Vals xs a/\s.heap.get? p≈{cls:=.type "list",data:=.seq a.toArray n}/\⇑xs<=c8:=by
 have(z,a,n,r,e):=I.Nr p _ h;show#[a,n,r,e,z]
def Inv.Hz{a its':↑g8}(I:Inv X pins σ H s)(h:H p≈.lst xs)
  (ho:s.heap.get? p≈{cls:=.type "list",data:=.seq a.toArray n}) (c:f {cls:=.type "list",data:=.seq a.toArray n}={cls:=.type "list",data:=.seq its'.toArray d }) (r:Vals ys its') (hz:⇑ys<=c8) (t) :
  Inv X pins σ (upd H p (.lst ys)) {s with heap:=s.heap.update p f,toks:=t}:=by
 have e:(s.heap.update p f).get? p≈{cls:=.type "list",data:=.seq its'.toArray d }:=by
  rw[ro f ho (by rw[c]<;>rfl),c]
 show I.write   (by rw[h];trivial) (.inl rfl) (λb u g q=>(tr _ _ (mh g)).trans q) ⟨_,e⟩ ?_;show#[hz,its',d,r,e]
abbrev KC:V->V->V->Hp->(Hp->Prop)->Prop:=λo i v H Q=>∃p xs k j,o=.ref p/\i=.int k/\H p≈.lst xs/\QU ⇑xs k≈j/\Q (upd H p (.lst (xs.set j v)))
def set_list:pX X KC:=by
 intro pins s σ H o i v x y u Q I f g rv h;have(p,xs,k,j,rfl,rfl,a,l,q):=h;cases f;have(t,rfl):=g;have(b,n,r,ho,hz):=I.lst a;have(c,z,m,w):=wQ l;have hl:=⇑r;have hn:=gM;have d :=
  I.Hz a ho (uT b n j u) (r.set rv j) ⋯ s.toks
 by_cases h0:0<=k
 .have hk:k.toNat=j:=by
   rw[ð h0 w]at c;simp_all
  show W.ki_setAt ho h0 ⋯ ⋯ (by rw[hk];show#[_,d,q])
 .have hk:(k+b.toArray.size).toNat=j:=by
   rw[seqIndex_neg ⋯ m]at c;simp_all
  show W.ki_setBack ho ⋯ ⋯ ⋯ (by rw[hk];show#[_,d,q])
def qi(lo hi)(n):(VR lo hi cb n).1=((HT.NP n 0 lo:Nat):Int)/\(VR lo hi cb n).2.1=((HT.NP n n hi:Nat):Int)/\(VR lo hi cb n).2.2=1:=by
 show#[?_,?_,rfl]
 .cases lo with
  |none=>simp[VR,HT.NP]
  |some i =>
   erw[VR,HT.NP,Ï,show(1:Int)>0 by decide,if_true];by_cases h:i<0
   .simp only[h,if_true]<;>lia
   .simp only[h,if_false]<;>lia
 .cases hi with
  |none=>rfl
  |some i =>
   erw[VR,HT.NP,Ï,show(1:Int)>0 by decide,if_true];by_cases h:i<0
   .simp only[h,if_true]<;>lia
   .simp only[h,if_false]<;>lia
def oE(a:↑g8)(lo hi):slicePick a.toArray lo hi cb=((a.drop (HT.NP ⇑a 0 lo)).take (HT.NP ⇑a ⇑a hi - HT.NP ⇑a 0 lo)).toArray:=by
 have(b,c,d):=qi lo hi _;unfold slicePick;rw[b,c,d];erw[sliceRange_one,pick_run]<;>rfl
abbrev KG(K:W.Frag):V->Option Int->Option Int->Hp->VK->Prop:=λx lo hi H Q=>∃a xs,x=.ref a/\N5 K H a xs/\∀p,H p=cb->Q (.ref p) (upd H p (.lst (uS xs lo hi)))
def DX:RF X (KG X.K):=by
 intro pins s σ H x v k l lo hi m Q I f hs g i h;have(a,xs,rfl,j,q):=h;cases f;have(n,r,d,hz):=I.list j;have c:=⇑r;show#[_,_,slot_list_getitem.lookup,d.isList.typeIs,?_];show wpAny_getItem_list_slice d.isList hs g i .none ⋯ ?_ ⋯;rw[oE,<-c];show#[.ref _,_,I.laid   (λb p q=>dt _ q) (hY _) ?_,rfl,q _ (I.Nr.fresh (hY _))];show#[qv (kZ xs lo hi) hz,_,0,(r.drop _).take _,gj _ rfl]
def qj:OY X (y0 .NotIn) (λx y H Q=>∃i j,x=.str i/\y=.str j/\Q (.bl (!(!(ti j i 0 ⇑j 1).isEmpty))) H):=by
 intro pins s σ H x y v u Q I a b h;have(i,j,rfl,rfl,q):=h;have(t,rfl):=a;have(t',rfl):=b;show notIn_str #[.bl _,H,I,rfl,q]
def fU:gD X (.builtin "len") (λxs H Q=>∃p ys,xs=[.ref p]/\(N5 X.K H p ys\/Oc X.K H p ys)/\Q (.int ⇑ys) H):=by
 intro pins s σ H xs us Q I r h;have(p,ys,rfl,hq,q):=h;have(u,rfl,d):=vals1 r;cases d;have hn:=gM;rcases hq with hq|hq
 .have(f,b,c,hz):=I.list hq;have a:=⇑b;show Calls.call_len_list c.isList (by erw[mu]<;>lia) #[.int _,H,I.tok _,#[_,by rw[mu,a]],q]
 .have(f,b,c,hz):=I.tuple hq;have a:=⇑b;show Ķ c (by erw[mu]<;>lia) #[.int _,H,I.tok _,#[_,by rw[mu,a]],q]
def qk:gD X (.builtin "len") (λxs H Q=>∃z,xs=[.str z]/\⇑z<=c8/\Q (.int ⇑z) H):=by
 intro pins s σ H xs us Q I r h;have(z,rfl,hz,q):=h;have(u,rfl,t,rfl):=vals1 r;have hn:=gM;show len_str ⋯ #[.int _,H,I.tok _,#[_,rfl],q]
def iX:gD X (.type "tuple") (λxs H Q=>∃p ys,xs=[.ref p]/\((N5 X.K H p ys/\∀l,H l=cb->Q (.ref l) (upd H l (.tup ys)))\/(Oc X.K H p ys/\Q (.ref p) H))):=by
 intro pins s σ H xs us Q I r h;have(p,ys,rfl,h):=h;have(u,rfl,j):=vals1 r;cases j;rcases h with⟨a,q⟩|⟨a,q⟩
 .have(f,c,d,hz):=I.list a;have g:=⇑c;show call_tuple_list d.isList (λh' k=>?_) ⋯;have i:=I.kept (t':=s.toks) k;have m :=
   i.laid (t':=s.toks) (λb o e=>dt _ e) (hY _) (show cE _ X.w _ _ _ (.tup ys) from#[hz,f,c,Wq _ _])
  show#[.ref _,_,m,rfl,q _ (i.Nr.fresh (hY _))]
 .have(f,c,d,hz):=I.tuple a;show call_tuple_same d #[.ref p,H,I,rfl,q]
abbrev WQ(K:W.Frag)(T:String)(x:V)(H:Hp):Prop:=match x with
 |.str _=>T="str"
 |.int _=>T="int"
 |.ref p=>(T="list"/\∃xs,N5 K H p xs)\/(T="tuple"/\∃o,K.lookup p≈o/\o.cls=.type "tuple"/\o.dict=cb) \/
   (T="dict"/\((∃kvs,H p≈.dK kvs)\/∃kvs,H p≈.dT kvs))\/(T="set"/\∃S n,H p≈.set S n)
 |_=>False
def ql(I:Inv X pins σ H s)(r:RelV x v)(ty:WQ X.K T x H):
  s.TypeIs v T/\∀a,v=.ref a->∃f,s.heap.get? a≈f/\f.dict=cb:=by
 cases x with
 |str z =>
  have(t,rfl):=r;cases(ty);show#[Q' s z t,λ_ e=>nomatch e]
 |int i =>
  have(t,rfl):=r;cases(ty);show#[typeIs_int s i t,λ_ e=>nomatch e]
 |ref p =>
  cases r;rcases ty with⟨rfl,xs,h⟩|⟨rfl,o,hk,j,b⟩|⟨rfl,hk⟩|⟨rfl,S,n,hk⟩
  .have(k,_,g,_):=I.list h;show#[g.isList.typeIs,λa e=>?_];cases e;have(o,n,e,c,b,_):=g;show#[o,e,b]
  .show#[#[o,I.Pb p o hk,j],λa e=>?_];cases e;show#[o,I.Pb _ o hk,b]
  .have z:∃o,s.heap.get? p≈o/\o.ExactDict:=by
    rcases hk with⟨kvs,hk⟩|⟨kvs,hk⟩
    .have(_,_,_,_,o,_,_,e,ex,_):=I.Nr p _ hk;show#[o,e,ex]
    .have(_,_,_,_,o,_,_,e,ex,_):=I.Nr p _ hk;show#[o,e,ex]
   have(o,e,ex):=z;show#[#[o,e,ex.1],λa d=>?_];cases d;show#[o,e,ex.2.1]
  .have(o,_,_,_,e,ex,_):=I.Nr p _ hk;show#[#[o,e,ex.1],λa d=>?_];cases d;show#[o,e,ex.2.1]
 |_=>show Hf ty
abbrev MM(K:W.Frag)(T:String)(r:V->↑V->Hp->VK->Prop)(to:TE):TE:=λσ H Q=>to σ H λx a=>WQ K T x a/\r x [] a Q
abbrev VB(K:W.Frag)(T:String)(r:V->↑V->Hp->VK->Prop)(to:TE)(t:TA):TE:=λσ H Q=>to σ H λx a=>WQ K T x a/\t σ a λxs b=>r x xs b Q
variable{o e:jw}{es:List jw}{to:TE}{t:TA}{name:Str}{apos Nn:Pos}{T id:String}{r:V->List V->Hp->VK->Prop}
def Ay(c:PlainAttrs T)(slot:ı T name id)(d:Zq (.builtin id)=pure (.type "method_descriptor"))(f:TL X id r)(ho:PE X o to)
  (g:LF o name X.env (p8 o X.env)=p8 o X.env:=by rfl) (i:(apos.endLine==Nn.line)=b6:=by rfl):PE X (.Call (.Attribute o name apos) [] [] Nn) (MM X.K T r to):=by
 intro pins s σ H Q I h;show Ë g i (Ny (ho pins s σ H _ I h) λv s1 j=>?_);have(x,k,a,b,ty,l):=j;have(m,n):=ql a b ty;show#[T,id,c,slot,d,m,n,ur rfl (PySem.evalArgs_none (f pins s1 σ k x [] v [] Q a b .nil l))]
def o_(d:PlainAttrs T)(slot:ı T name id)(f:Zq (.builtin id)=pure (.type "method_descriptor"))(g:TL X id r)(ho:PE X o to)(i:PA X (e::es) t)
  (j:LF o name X.env (p8 o X.env)=p8 o X.env:=by rfl)
  (k:((vl Nn (i0 (e::es) X.env)).all (λx=>!x.1)&&(Ut Nn (PK [] X.env)).all (λx=>x.1.isSome)
   && df (⇑(e::es)+⇑([]:↑QF)+(if ([]:↑QF).isEmpty then 0 else 1)<30))=b6:=by rfl)
  (l:(apos.endLine==Nn.line)=b6:=by rfl) (hs:i0 (e::es) X.env=(cK,p8 e X.env)::i0 es X.env:=by rfl) (C:(vl Nn (i0 es X.env)).any (·.1)=cK:=by rfl) :
  PE X (.Call (.Attribute o name apos) (e::es) [] Nn) (VB X.K T r to t):=by
 intro pins s σ H Q I h;show Ws j k l rfl (Ny (ho pins s σ H _ I h) λv s1 m=>?_);have(x,n,a,b,ty,p):=m;have(q,u):=ql a b ty;show#[T,id,d,slot,f,q,u,?_];have c:=i Nn pins s1 σ n _ a p;rw[hs]at c ⊢;show ur (by assumption) (w6 ?_);show Ny c λus w ⟨vs,y,z,A,B⟩=>g pins w σ y x vs v us Q z b A B
end
abbrev WR(X:Cx)(id:String)(r:V->↑V->Hp->VK->Prop):Prop :=
 ∀(pins:↑(hH×Obj)) (s:i4) (σ:St) (H:Hp) (x:V) (xs:↑V) (v:g8) (us:↑g8) (Q:VK),Inv X pins σ H s->RelV x v->Vals xs us->r x xs H Q ->
  ‹X› (Qo (.builtin id) (v::us)) (EP X pins σ Q) X.xe s
theorem Vals.one:∀{x}{us},Vals [x] us->∃u,us=[u]/\RelV x u
 |_,_,.cons r .nil=>#[_,rfl,r]
theorem Vals.zero:∀{us},Vals [] us->us=[]
 |_,.nil=>rfl
def Vals.dropLast(h:Vals xs us):Vals xs.dropLast us.dropLast:=by
 induction h with
 |nil=>show .nil
 |cons r t a =>
  cases t with
  |nil=>show .nil
  |cons q t'=>show .cons r a
def Vals.reverse(h:Vals xs us):Vals xs.reverse us.reverse:=by
 induction h with
 |nil=>show .nil
 |cons r t a=>rw[UZ,UZ];show Vals.append a (.cons r .nil)
def Inv.jg{a its':↑g8}(I:Inv X pins σ H s)(b:H l≈.lst xs)
  (e:s.heap.get? l≈{cls:=.type "list",data:=.seq a.toArray n}) (c:f a.toArray=its'.toArray) (d:Vals ys its') (hz:⇑ys<=c8) :
  Inv X pins σ (upd H l (.lst ys)) {s with heap:=s.heap.update l (rS f),toks:=t' }:=by
 have q:=PySem.IsL.update e f;rw[c]at q;show I.write   (by rw[b];show ttt) (.inl rfl) (λi u g h=>(tr _ _ (mh g)).trans h) ⟨_,q⟩ ?_;show#[hz,its',_,d,q]
def Inv.MN(I:Inv X pins σ H s)(b:Vals ys a)(hz:⇑ys<=c8):
  Inv X pins σ (upd H ↥s (.lst ys)) {s with heap:=s.heap.push {cls:=.type "list",data:=.seq a.toArray},toks:=t' } :=
 I.laid (λ_ _ q=>dt _ q) (hY _) ⟨hz,a,0,b,gj _ rfl⟩
def Inv.fresh(I:Inv X pins σ H s):H ↥s=cb:=I.Nr.fresh (hY _)
inductive IvM(s:i4)(l:hH)(xs:↑V):Prop
 |mk (hz:⇑xs<=c8) (J':↑g8) (n:Nat):Vals xs J'->⇑xs=⇑J'->s.heap.get? l≈{cls:=.type "list",data:=.seq J'.toArray n}->IvM s l xs
def Inv.DY(I:Inv X pins σ H s)(a:H l≈.lst xs):IvM s l xs:=by
 have(z,b,n,r,e):=I.Nr l _ a;show#[z,b,n,r,⇑r,e]
def Az(h:n<=c8):va n=cK:=by
 unfold va;simp_all
abbrev wR:V->↑V->Hp->VK->Prop:=λx vs H Q=>∃l xs y,x=.ref l/\vs=[y]/\H l≈.lst xs/\⇑xs<c8/\Q .Nt (upd H l (.lst (xs++[y])))
def iF:WR X "list.append" wR:=by
 intro pins s σ H x vs v us Q I c rv h;have(l,xs,y,rfl,rfl,a,hz,q):=h;cases c;have(u,rfl,d):=rv.one;have(z,b,n,r,hl,e):=I.DY a;show Rh F.slot_list_append #[_,e,rfl] F.entry_list_append (F.args_list_append_2 _ _) (PySem.list_append l b.toArray n u ⋯) #[e,?_];show#[.Nt,_,I.jg (its':=b++[u]) a e ⋯ (r.append (.cons d .nil)) ?_,rfl,q]
 grind
abbrev MO:V->↑V->Hp->VK->Prop:=λx vs H Q=>∃l xs y,x=.ref l/\vs=[]/\H l≈.lst xs/\xs[⇑xs - 1]?≈y/\Q y (upd H l (.lst xs.dropLast))
def AA:WR X "list.pop" MO:=by
 intro pins s σ H x vs v us Q I d rv h;have(l,xs,y,rfl,rfl,c,f,q):=h;cases d;have a:=rv.zero;subst a;have(z,b,n,r,hl,e):=I.DY c;have(u,j,g):=r.get f;have i:b.toArray[b.toArray.size - 1]?≈u:=by
  simp_all
 show Rh F.slot_list_pop #[_,e,rfl] F.entry_list_pop (F.args_list_pop_1 _) (MeetsSeq.list_pop_last l b.toArray n u i ⋯) #[e,?_];show#[y,_,I.jg  c e ?_ r.dropLast ?_,g,q]
 .simp
 .rw[List.length_dropLast];lia
section
set_option maxRecDepth 100000 in
end
end L2
namespace Att
open PySem PySem.W PySem.Calls PyProof.Rows
def lQ:∀ns vs,WellAll P h vs (ns.map Ŀ)->Þ vs ns:=by
 intro ns;induction ns with
 |nil =>
  intro vs w;cases w;show .nil
 |cons n ns c =>
  intro vs w;cases w with
  |cons a b =>
   cases a;show .cons _ _ (c _ b)
def yA{l:OpenLaw}(hn:l.most≈n)
  (g:l.row.toRowW.claim.pre args=b6) (i:WellAll P h b args) :
  ∃a vs ns,b=[ku a]/\args=[WData.list (ns.map Ŀ)]/\h.get? a≈{cls:=.type "list",data:=.seq vs.toArray}/\Þ vs ns/\⇑ns<=n:=by
 have f:WShape.hasAll [] args _=b6:=(pre_splitW g).1;have j:=(pre_splitW g).2;have(d,r,rfl,k,m):=hasAllW_cons f;obtain rfl:=hasAllW_nil m;have(xs,rfl,o):=hasW_list k;have(ns,rfl):=items_int o;have c:⇑ns<=n:=by
  have e:=by
   have e:=(holds_andW j).1;rw[hn]at e;show e
  have t:=condW_of e (w_not (w_lt w_lit (w_len_list (w_arg rfl))));simp_all
 cases i with
 |cons p q =>
  cases q;cases p with
  |list ho s=>show#[_,_,ns,rfl,rfl,ho,lQ ns _ s,c]
def yB(l:OpenLaw)(args):l.row.toRowW.claim.post args (.bool b6) args=b6 :=
 postW_of
  (show WShape.has [] _ _=b6 by rfl)
  (w_eq_bool (w_res rfl) w_lit) rfl
def r_{l:OpenLaw}
  (hn:l.most≈n) (t:d.params.defaults=[])
  (Qo:∀w s₀ b mg k fa o pm i c a vs ns,
   Ground q e [] u w s₀ mg k b.heap->v w b.heap ->
   b.heap.get? fa≈o->o.data=.func (docDef d.name d.params d.body d.scope pm i c)->b.heap.CodeRec i d.name->mg d.name≈.ref fa ->
   b.heap.get? a≈{cls:=.type "list",data:=.seq vs.toArray}->Þ vs ns->⇑ns<=n->b.gens=#v[] ->
   Rr (gs l.prog w) WN (.call (.ref fa) #[[.ref a],[]]) (λr j=>r=.ok (.ret (.bool b6))/\OldK b.heap j.heap/\j.os=b.os/\VV j.gens) b) :
  WalkO q e u v l.row.toRowW d [] (λf vs=>PySem.call f vs):=by
 intro w s₀ b mg k G Y fa o pm i c x kV ho y z m A B args p as C s T D H;obtain rfl:x=.none:=Dflts.none m t;obtain rfl:kV=.none:=Dflts.noKw m;have(a,vs,ns,rfl,rfl,I,g,h):=yA hn C D;show enter_call (Tt (Qo w s₀ b mg k fa o pm i c a vs ns G Y ho (fd_plain y) z A I g h B) λr j J=>?_);have(rfl,L,N,O):=J;show#[.inl #[_,_,[],rfl,λ_=>rfl,.bool b6,yB l _,λ_=>#[Ĺ,λ_ Q=>(nomatch Q)]],L,N,O]
end Att
namespace L2
open PySem PySem.Spec PyProof.Rows
theorem pb:∀{vs}{ns},Þ vs ns->Vals (ns.map V.int) vs
 |_,_,.nil=>.nil
 |_,_,.cons n t h=>.cons #[t,rfl] (pb h)
abbrev HA(H:Hp):Prop:=∀b,H b=cb\/∃o xs,H b≈.Pa o (.lst xs)
def AB{K}
  (B:K.In c.heap) (C:c.heap.Ns i5 mg) (g:c.heap.Ns ċ D) (y:∀x:Str,x≠"__name__"->D x=sx x) (N:c.heap.NoLimit) (O:c.gens=#v[])
  (A:c.heap.get? a≈{cls:=.type "list",data:=.seq vs.toArray}) (hi:Þ vs ns) (hl:⇑ns<=c8) (Q:cW k WN)
  (F:∀base:K2,K.In base->base.Ns i5 mg->dE P w K mg base CX k fa T [x] Y) (VD:∀s u,Û s T #[[u],[]] [(x,u)])
  (Pe:∀H:Hp,HA H->N5 K H a (ns.map V.int)->Y [.ref a] H (λv _=>v=.bl b6) λ_ _ _=>False)
  (Yg:∀H e f,CX [] H c (λ_ _ _=>False) e f->False) :
  Rr (gs P w) WN (.call (.ref fa) #[[.ref a],[]]) (λr f=>r=.ok (.ret (.bool b6))/\OldK c.heap f.heap/\f.os=c.os/\VV f.gens) c:=by
 have rv:=pb hi;have Yh:=⇑hi;have i:∀H:Hp,HA H->N5 K H a (ns.map V.int)->OE P w H c.heap->(∀b,H b≠cb->b=a)->(H a≠cb->K.lookup a=cb) ->
   Rr (gs P w) WN (.call (.ref fa) #[[.ref a],[]]) (λr f=>r=.ok (.ret (.bool b6))/\OldK c.heap f.heap/\f.os=c.os/\VV f.gens) c:=by
  intro H G hS I hA hK;have j4:∀{b:hH} {o:Obj},c.heap.get? b≈o->H b=cb->(pW c.heap H).get? b≈o:=λe n=>Ad e n;have Vx:∀{b:hH} {o:Obj} {es:Array DictEntry} {ep:Nat},c.heap.get? b≈o->o.data=.dict es ep->H b=cb:=λ{b o es ep} e d=>by
   grind
  have t:∀{b:hH} {m:Str->Option g8},c.heap.Ns b m->(pW c.heap H).Ns b m:=λ{b m} ⟨o,es,ep,e,d,r⟩=>#[o,es,ep,j4 e (Vx e d),d,r]
  have j:K.In (pW c.heap H):=λb o e=>j4 (B b o e) (by
   grind)
  have hM:Mod K mg (pW c.heap H):=#[j,t C,#[D,t g,y],let ⟨mc,h1,h2⟩:=N;⟨mc,t h1,h2⟩]
  have e0:uP P w K mg (pW c.heap H) WN [] c H:=#[rfl,hM,λb o e=>DA e,Ux (yl _ _),ttt,λb g=>absurd (show b∈([]:↑hH) from g) ⋯,I,.of_eq O]
  show Tt ((F _ j (t C)).run WN [] c H #[[.ref a],[]] [.ref a] [.ref a] _ _ Q e0 (VD c (.ref a)) (.cons rfl .nil) (Pe H G hS)) λr f h=>?_;cases r with
  |error e=>show(Yg H e f h).elim
  |ok fl =>
   cases fl with
   |ret u =>
    have(v,H',os,l,J,Yi,r',q):=h;have q':v=.bl b6:=q;subst q';obtain rfl:u=Uu b6:=r';show#[rfl,OldK.of_keep λb o e=>?_,os,l];cases q:H b with
    |none=>show J.keep b o e q (by intro z;show absurd (show b∈([]:↑hH) from z) ⋯) ⋯
    |some u =>
     rcases G b with z|⟨ob,xs,z⟩
     .rw[q]at z;cases z
     .have z2:=J.OF b ob _ z;have(L,_):=I b _ z;have(e2,_):=Yi b _ z2;rw[e]at L;cases L;show e2
   |_=>show Hf h
 cases hk:K.lookup a with
 |some o =>
  have e:=B a o hk;rw[A]at e;cases e;show i (λ_=>cb) (λ_=>.inl rfl) (.inr #[_,vs.toArray,_,hk,rfl,rfl,rfl,by rw[mu,Yh];show hl,by exists rv]) (λb u z=>by have p:(cb:Option HO)≈u:=z;cases p) (λb z=>absurd rfl z) λz=>absurd rfl z
 |none =>
  show i (λb=>if b=a then bD (.Pa {cls:=.type "list",data:=.seq vs.toArray} (.lst (ns.map V.int))) else cb) (λb=>?_) (.inl (.inr #[{cls:=.type "list",data:=.seq vs.toArray},ř rfl])) (λb u z=>?_) (λb z=>?_) λ_=>hk
  .by_cases g:b=a
   .show .inr #[_,_,ř g]
   .show .inl (Ś g)
  .by_cases g:b=a
   .have p:=(ř g).symm.trans z;cases p;subst g;show#[A,by rw[ei];show hl,vs,_,rv,A]
   .have p:=(Ś g).symm.trans z;cases p
  simp_all
def DZ{l:W.OpenLaw}{K:Yl->W.Frag}{CX:wk->TJ}{r:wk->Sp}
  (hn:l.most≈n) (y:n<=c8) (z:d.params.defaults=[]) (A:cW k WN)
  (B:∀w h,C w h->(K w.params).In h)
  (F:∀w mg fa h,(K w.params).In h->h.Ns i5 mg->mg d.name≈.ref fa ->
   ∃j,(∀s u,Û s j #[[u],[]] [(x,u)]) /\
    ∀base,(K w.params).In base->base.Ns i5 mg->dE l.prog w (K w.params) mg base (CX w) k fa j [x] (r w))
  (D:∀w H a (ns:↑Int),⇑ns<=n->HA H->N5 (K w.params) H a (ns.map V.int)->r w [.ref a] H (λv _=>v=.bl b6) λ_ _ _=>False)
  (I:∀w H s e m,CX w [] H s (λ_ _ _=>False) e m->False) :
  W.WalkO q p XP C l.row.toRowW d [] (λf vs=>PySem.call f vs):=by
 show Att.r_ hn z λw s₀ J mg mb fa o pm cd L a vs ns G Y ho hd NO N O i c Q=>?_;have t:=B w _ Y;have(j,hb,hF):=F w mg fa _ t G.T.g N;show AB t G.T.g G.T.b G.T.builtins G.T.nolimit Q O i (qv c y) A hF hb (λH hO hS=>D w H a ns c hO hS) λH e m=>I w H J e m
@[reducible]noncomputable def SW:TJ:=λ_ _ _ _ _ _=>False
@[reducible]noncomputable def E0:XK:=λ_ _ _=>False
def Gh:Passes SW X E0:=λ_ _ _ _ _ _ _ h=>h.elim
inductive KH(K:W.Frag)(x qual:Str)(st:ve)(f:hH)(fd:Vo):Prop
 |mk (oc:g8) (od:Option hH) (kV doc pm:g8) (an:Option hH) (OJ ct:g8) (R5:Array (Option g8)):fd=W.fnOf x qual (fS st) (bO st) (aD st) .none kV doc pm an OJ ct->K.lookup f≈⟨oc,od,.func fd,R5⟩->W.codeIn K OJ qual=b6->KH K x qual st f fd
structure QV(K:W.Frag)(x qual:Str)(st:ve)(f:hH)(fd:Vo):Prop where
 ex:KH K x qual st f fd
 kp:W.keepIn K (.ref f)=b6
section
variable{P:sd}{w:wk}{K:PySem.W.Frag}{mg:Str->Option g8}{base:K2}
def QV.ok{st}(F:QV K x a st f e)(S:da N ps (aD st))(c:∀vs H Q E,d vs H Q E->⇑vs=⇑ps)
  (g:∀b A outer s H vs Q E,cW k (A.deeper (Yo a (aD st) ↥s f b))->d vs H Q E ->
   ∃t,OO (qf SW P w K mg base N a (aD st) f b A outer s H E).OU (bO st) t/\t {nx:=λ_ H'=>Q .Nt H',rt:=Q} (start N vs) H):dE P w K mg base SW (k+1) f e ps d:=by
 have(n,o,kV,i,pm,p,b,ct,r,rfl,lk,j):=F.ex;show wN lk j S c λA outer s H vs Q E l m=>?_;have(t,h,q):=g b A _ s H vs Q E l m;show#[t,h.OU,q]
def HB{st}{kV b pm d ct}(l:K.lookup f≈#[g,h,.func (W.fnOf x a (fS st) (bO st) (aD st) .none kV b pm e d ct),i])
  (c:W.codeIn K d a=b6) (k:W.keepIn K (.ref f)=b6):QV K x a st f (W.fnOf x a (fS st) (bO st) (aD st) .none kV b pm e d ct):=#[#[g,h,kV,b,pm,e,d,ct,i,rfl,l,c],k]
end
abbrev fV(H H':Hp):Prop:=∀b o,H b≈o->H' b≈o
section
variable{κ:Type}[DecidableEq κ]
abbrev eU(kvs:↑(κ×V))(k:κ):Option V:=(kvs.find? λkv=>df (kv.1=k)).map (·.2)
abbrev putK(kvs:↑(κ×V))(k:κ)(v:V):↑(κ×V) :=
 if (kvs.any λkv=>df (kv.1=k))=b6 then kvs.map (λkv=>if kv.1=k then(kv.1,v) else kv) else kvs++[(k,v)]
def fC{p}{k:κ}(e:p.1=k):eU (p::r) k≈p.2:=by simp[eU,e]
def fD{p}{k:κ}(e:¬p.1=k):eU (p::r) k=eU r k:=by simp[eU,e]
theorem jG(k:κ):∀kvs,(kvs.any λkv=>df (kv.1=k))=(eU kvs k).isSome
 |[]=>rfl
 |p::r=>by
  rw[ē];by_cases e:p.1=k
  .simp only[fC e,ŝ e,Bool.true_or,Option.isSome_some]
  .rw[fD e,ś e];show jG k r
def k7(kvs)(k:κ)(v:V):⇑(putK kvs k v)<=⇑kvs+1:=by
 unfold putK
 grind
def AD{k:κ}(v)(h:eU kvs k=cb):putK kvs k v=kvs++[(k,v)]:=by
 unfold putK;rw[jG,h];rfl
def gI.fE(r:gI o u):o.isSome=u.isSome:=by
 cases o with
 |none=>cases u with
  |none=>rfl
  |some _=>show(r).elim
 |some _=>cases u with
  |none=>show(r).elim
  |some _=>rfl
def gI.getD(r:gI o u)(a:RelV d d'):RelV (o.getD d) (u.getD d'):=by
 cases o with
 |none=>cases u with
  |none=>show a
  |some _=>show(r).elim
 |some _=>cases u with
  |none=>show(r).elim
  |some _=>show r
def KV.val(r:KV kvs vs)(k:κ):gI (eU kvs k) (Zc vs k):=by
 induction r with
 |nil=>show VH
 |@cons p q ps a h t f =>
  have(d,g):=h;by_cases e:p.1=k
  .have c:=d.symm.trans e;have b:Zc (q::a) k≈q.2:=by simp[Zc,c]
   rw[fC e,b];show g
  .have c:¬q.1=k:=λz=>e (d.trans z);have b:Zc (q::a) k=Zc a k:=by simp[Zc,c]
   rw[fD e,b];show f
def KV.any(r:KV kvs vs)(k:κ):(kvs.any λkv=>df (kv.1=k))=vs.any λkv=>df (kv.1=k):=by
 induction r with
 |nil=>rfl
 |cons h t a=>simp_all
def KV.HC(r:KV kvs vs)(k:κ)(b:RelV y u):
  KV (kvs.map λkv=>if kv.1=k then(kv.1,y) else kv) (vs.map λkv=>if kv.1=k then(kv.1,u) else kv):=by
 unfold KV at r ⊢;induction r with
 |nil=>show .nil
 |@cons p q ps f h t c =>
  rw[i6,i6];show .cons ?_ c;have(a,d):=h;by_cases e:p.1=k
  .rw[ř e,ř (a.symm.trans e)];show#[a,b]
  .rw[Ś e,Ś (λz=>e (a.trans z))];show#[a,d]
def KV.put(r:KV kvs vs)(k:κ)(a:RelV y u):KV (putK kvs k y) (stored vs k u):=by
 unfold putK stored;rw[r.any k];by_cases e:(vs.any λkv=>df (kv.1=k))=b6
 .rw[ř e,ř e];show r.HC k a
 .rw[Ś e,Ś e];show Paired.snoc r #[rfl,a]
def KV.length(r:KV kvs vs):⇑kvs=⇑vs:=Paired.length r
end
def pd(r:RelV (kV k) u):(bz P w).is k u=b6:=by
 cases k with
 |inl i=>have(t,e):=(r);subst e;show rV P w i t
 |inr x=>have(t,e):=(r);subst e;show rW P w x t
theorem pf:∀{ks}{us},Vals (ks.map kV) us->ItemsAre (bz P w) ks us
 |[],_,r=>by cases r;show .nil
 |k::ks,_,r=>by
  cases r with
  |cons h t=>show .cons (pd h) (pf t)
@[reducible]noncomputable def KT(H:Hp):↑(↑Key×V)->↑(↑Key×hH×g8)->Prop:=Paired λp q=>p.1=q.1/\H q.2.1≈.tup (p.1.map kV)/\RelV p.2 q.2.2
def KT.val(r:KT H kvs xs)(k):gI (eU kvs k) ((Í xs k).map (·.2)):=by
 induction r with
 |nil=>show VH
 |@cons p q ps a h t f =>
  have(d,_,g):=h;by_cases e:p.1=k
  .have c:=d.symm.trans e;have b:Í (q::a) k≈q.2:=by simp[Í,c]
   rw[fC e,b];show g
  .have c:¬q.1=k:=λz=>e (d.trans z);have b:Í (q::a) k=Í a k:=by simp[Í,c]
   rw[fD e,b];show f
def KT.HC(r:KT H kvs xs)(k)(c:RelV y u):
  KT H (kvs.map λkv=>if kv.1=k then(kv.1,y) else kv) (xs.map (putAt k u)):=by
 induction r with
 |nil=>show .nil
 |@cons p q ps g h t d =>
  rw[i6,i6];show .cons ?_ d;have(a,b,f):=h;unfold putAt;by_cases e:p.1=k
  .rw[ř e,ř (a.symm.trans e)];show#[a,b,c]
  .rw[Ś e,Ś (λz=>e (a.trans z))];show#[a,b,f]
def KT.put(r:KT H kvs xs)(k)(c:H b≈.tup (k.map kV))(a:RelV y u):
  KT H (putK kvs k y) (storedH xs k b u):=by
 have e:(kvs.any λkv=>df (kv.1=k))=(Í xs k).isSome:=by
  rw[jG,(r.val k).fE,XF]
 unfold putK storedH;rw[e];by_cases q:(Í xs k).isSome=b6
 .rw[ř q,ř q];show r.HC k a
 .rw[Ś q,Ś q];show Paired.snoc r #[rfl,c,a]
def KT.keeps(r:KT H kvs xs)(a:∀b ys,H b≈.tup ys->H' b≈.tup ys):KT H' kvs xs :=
 Paired.G8 r λ_ _ z=>#[z.1,a _ _ z.2.1,z.2.2]
def Gi(b:OE P w H h)(e:Rd H a u):cE P w H h a u:=e.ok b
def k8(b:OE P w H h)(e:Rd H a (.dK kvs)):⇑kvs<=c8/\(a==P')=cK/\∃vs,KV kvs vs/\h.DictOf (bz P w) a vs :=
 Gi b e
def Gj(b:OE P w H h)(e:H a≈.dK kvs):⇑kvs<=c8/\(a==P')=cK/\∃vs,KV kvs vs/\h.DictOf (bz P w) a vs:=k8 b (.inl e)
def kq(b:OE P w H h)(e:H a≈.tup (ks.map kV)):(YV (bz P w)).is h ks a:=by
 have(_,g,r,o,c,d,n,f):=(b a _ e)
 show#[o,_,n,c,d,f,by exists pf r]
def mU(b:OE P w H h)(e:Rd H a (.dT kvs)):⇑kvs<=c8/\(a==P')=cK /\
  ∃xs,KT H kvs xs/\h.DictOfH (YV (bz P w)) a xs:=by
 have(z,y,xs,r,o,es,ep,c,d,f,g,i):=(Gi b e)
 show#[z,y,xs,r,o,es,ep,c,d,f,g,λx hx=>?_,i];have all:∀{l:↑_} {m:↑_},KT H l m->∀x∈m,(YV (bz P w)).is h x.1 x.2.1:=by
  intro l m q;induction q with
  |nil=>simp
  |@cons p q ps k n t j =>
   intro x hx;rcases eT.mp hx with e|hx
   .show kq b ⋯
   .show j x hx
 show all r x hx
def KI(b:OE P w H h)(e:H a≈.dT kvs):⇑kvs<=c8/\(a==P')=cK /\
  ∃xs,KT H kvs xs/\h.DictOfH (YV (bz P w)) a xs:=mU b (.inl e)
abbrev gN(H:Hp)(a:hH)(y:V)(r:Option V):Prop :=
 (∃kvs k,Rd H a (.dK kvs)/\y=kV k/\r=eU kvs k)\/∃kvs k b,Rd H a (.dT kvs)/\y=.ref b/\H b≈.tup (k.map kV)/\r=eU kvs k
abbrev yC(H:Hp)(a:hH)(y v:V)(H':Hp):Prop :=
 (∃kvs k,H a≈.dK kvs/\y=kV k/\⇑kvs<c8/\H'=upd H a (.dK (putK kvs k v))) \/
 ∃kvs k b,H a≈.dT kvs/\y=.ref b/\H b≈.tup (k.map kV)/\⇑kvs<c8/\H'=upd H a (.dT (putK kvs k v))
def gN.k{H}{a}{kvs}{k}(e:H a≈.dK kvs):gN H a (kV k) (eU kvs k):=.inl #[kvs,k,.inl e,rfl,rfl]
def yC.k{H}{a}{kvs}{k}{v}(e:H a≈.dK kvs)(hl:⇑kvs<c8):yC H a (kV k) v (upd H a (.dK (putK kvs k v))):=.inl #[kvs,k,e,rfl,hl,rfl]
def Inv.big(I:Inv X pins σ H s):P'<↥s:=by
 have h:=(I.mod.glob.keeps I.bk).lt;show X' ⋯ h
def yD(o:A.units+1<C0)(I:Inv X pins σ H s)(g:gN H a y (bD v))(m:RelV y u)(h:∀d n,Inv X pins σ H n->RelV v d->Q d n):
  f6 (gs X.prog X.w) A (UQ (.ref a) u) Q E s:=by
 rcases g with⟨kvs,k,e,f,l⟩|⟨kvs,k,b,e,f,q,l⟩
 .subst f;have(z,r,vs,c,dd):=k8 I.Nr e;have(d,i,j):=gI.some_of   (by rw[l];show c.val k);show wpAny_getItem_of (pd m) dd.mapOf i (h d _ (I.tok _) j)
 .subst f;cases(m);have(z,r,xs,c,dd):=mU I.Nr e;have(d,i,j):=gI.some_of   (by rw[l];show c.val k);have(p,t,x):=g7.mp i;show wpAny_getItem_heap (Sd o) (kq I.Nr q) dd t ?_;rw[x];show h d _ (I.tok _) j
def KJ(m:A.units+1<C0)(I:Inv X pins σ H s)(g:gN H a y o)(i:RelV y u)(h:∀j,Inv X pins σ H j->Q (.bool o.isSome) j):
  f6 (gs X.prog X.w) A (y0 .In u (.ref a)) Q E s:=by
 rcases g with⟨kvs,k,e,d,l⟩|⟨kvs,k,b,e,d,n,l⟩
 .subst d;have(z,f,vs,c,dd):=k8 I.Nr e;show wpAny_in_of (pd i) f dd.mapOf ?_;rw[<-(c.val k).fE,<-l];show h _ (I.tok _)
 .subst d;cases(i);have(z,f,xs,c,dd):=mU I.Nr e;show wpAny_in_heap (Sd m) (kq I.Nr n) f dd ?_;have q:=(c.val k).fE;rw[XF]at q;rw[<-q,<-l];show h _ (I.tok _)
def wU(m:A.units+1<C0)(I:Inv X pins σ H s)(g:gN H a y o)(i:RelV y u)(h:∀j,Inv X pins σ H j->Q (.bool (!o.isSome)) j):
  f6 (gs X.prog X.w) A (y0 .NotIn u (.ref a)) Q E s:=by
 rcases g with⟨kvs,k,e,d,l⟩|⟨kvs,k,b,e,d,n,l⟩
 .subst d;have(z,f,vs,c,dd):=k8 I.Nr e;show wpAny_notIn_of (pd i) f dd.mapOf ?_;rw[<-(c.val k).fE,<-l];show h _ (I.tok _)
 .subst d;cases(i);have(z,f,xs,c,dd):=mU I.Nr e;show wpAny_notIn_heap (Sd m) (kq I.Nr n) f dd ?_;have q:=(c.val k).fE;rw[XF]at q;rw[<-q,<-l];show h _ (I.tok _)
def wV(I:Inv X pins σ H s)(d:Vm (H a))(hs:tE a s.heap h')(e:∃q,h'.get? a≈q)(new:cE X.prog X.w (upd H a c) h' a c):
  Inv X pins σ (upd H a c) {s with heap:=h',toks:=t' } :=
 I.write   d (.inl rfl) (λb q f z=>(hs.2 b f).trans z) e new
def HD(z:⇑kvs<=c8)(c:(a==P')=cK)(b:KV kvs vs)(dd:h'.DictOf (bz P w) a vs):
  cE P w H' h' a (.dK kvs):=#[z,c,vs,b,dd]
def yE(B:A.units+1<C0)(I:Inv X pins σ H s)(g:yC H a y v H')(o:RelV y u)(rv:RelV v r)(h:∀p,Inv X pins σ H' p->Q () p):
  f6 (gs X.prog X.w) A (WB (.ref a) u r) Q E s:=by
 rcases g with⟨kvs,k,e,j,l,m⟩|⟨kvs,k,b,e,j,t,l,m⟩
 .subst j m;have(z,n,vs,d,dd):=Gj I.Nr e;have hz:⇑vs<=c8:=by rw[<-⇑d];show z
  have hl:⇑(putK kvs k v)<=c8:=by have:=k7 kvs k v;lia
  show wpAny_setItem_pairs (hsz:=hz) (pd o) dd λh' f hs=>h _ ?_;have C:∃q,h'.get? a≈q:=let ⟨q,_,_,i,_⟩:=f;⟨q,i⟩;show wV I (by rw[e];show VH) hs C (HD hl n (d.put k rv) f)
 .subst j m;cases(o);have(z,n,xs,d,dd):=KI I.Nr e;have hz:⇑xs<=c8:=by rw[<-Paired.length d];show z
  have hl:⇑(putK kvs k v)<=c8:=by have:=k7 kvs k v;lia
  show wpAny_setItem_heap  (Sd B) (kq I.Nr t) dd λh' f hs=>h _ ?_;have(q,es,ep,i,D,G,J,_,L):=f;show wV I (by rw[e];show VH) hs #[q,i] #[hl,n,_,(d.put k t rv).keeps λc ys x=>?_,q,es,ep,i,D,G,J,L];rw[ai (J9 x e (λz=>nomatch z))];show x
abbrev HE(i:jw):Prop:=∀a b,Y0 i cK a b=operate [a,b] (UQ a b)
def D0{T id}
  (hl:Wt (.type T) "__getitem__"=pure (bD (.builtin id))) (hs:HE a)
  (h:f6 (gs prog w) A (p8 b env) (λo f=>f6 (gs prog w) A (p8 a env) (λi d=>d.TypeIs o T/\f6 (gs prog w) A (UQ o i) Q E d) E f) E s) :
  f6 (gs prog w) A (p8 (.Subscript b a pos) env) Q E s:=by
 show ZQ (lg h (λo f j=>lg j (λi d e=>?_) λ_ _ x=>x) λ_ _ x=>x);have(k,e):=e;show cL ?_;show cL (RX k hl ?_);have c:f6 (gs prog w) A (Y0 a cK o i) (λr g=>f6 (gs prog w) A (letTemporaryGo b o r >>= λ_=>pure r) Q E g) E d:=by
  rw[hs o i];show wpAny_operating (lg e (λr g l=>cL (wpAny_letTemporaryGo (dV l))) λ_ _ x=>x)
 first
  |show dV (cL c)
  |show cL _
  |show cL c
def se(I:Inv X pins σ H s)(g:gN H a y o):s.TypeIs (.ref a) "dict":=by
 rcases g with⟨kvs,k,e,_,_⟩|⟨kvs,k,b,e,_,_,_⟩
 .have(_,_,vs,_,dd):=k8 I.Nr e;show dd.typeIs
 .have(_,_,xs,_,dd):=mU I.Nr e;show dd.typeIs
abbrev KN(c ty:TE):TE:=λσ H Q=>c σ H λx d=>ty σ d λy b=>∃a v,x=.ref a/\gN b a y (bD v)/\Q v b
abbrev MP(ty c:TE):TE:=λσ H Q=>ty σ H λy d=>c σ d λx b=>∃a o,x=.ref a/\gN b a y o/\Q (.bl o.isSome) b
abbrev D1(ty c:TE):TE:=λσ H Q=>ty σ H λy d=>c σ d λx b=>∃a o,x=.ref a/\gN b a y o/\Q (.bl (!o.isSome)) b
def D2(c:X.A.units+1<C0)(ho:PE X o d)(hi:PE X i ty)(hs:HE i):PE X (.Subscript o i pos) (KN d ty):=by
 intro pins s σ H Q I h;show D0 F.slot_dict_getitem.lookup hs (Ny (ho pins s σ H _ I h) λu s1 ⟨x,e,f,j,k⟩=>Ny (hi pins s1 σ e _ f k) λt w l=>?_);have(y,m,b,n,a,v,ex,g,p):=l;subst ex;obtain rfl:u=ku a:=j;show#[se b g,yD c b g n λz B q r=>#[v,m,q,r,p]]
def HF(b:X.A.units+1<C0)(hi:PE X i ty)(ho:PE X o c):PC X .In i o (MP ty c):=by
 intro pins s σ H Q I h;show Ny (hi pins s σ H _ I h) λr s1 ⟨y,d,e,f,j⟩=>Ny (ho pins s1 σ d _ e j) λu t k=>?_;have(x,l,m,n,a,v,ex,g,p):=k;subst ex;obtain rfl:u=ku a:=n;show KJ b m g f λw q=>#[.bl _,l,q,rfl,p]
def yF(b:X.A.units+1<C0)(hi:PE X i ty)(ho:PE X o c):PC X .NotIn i o (D1 ty c):=by
 intro pins s σ H Q I h;show Ny (hi pins s σ H _ I h) λr s1 ⟨y,d,e,f,j⟩=>Ny (ho pins s1 σ d _ e j) λu t k=>?_;have(x,l,m,n,a,v,ex,g,p):=k;subst ex;obtain rfl:u=ku a:=n;show wU b m g f λw q=>#[.bl _,l,q,rfl,p]
def AE(h:K2)(a:P'<h.objs.size):cE P w H (h.push {cls:=.type "dict",data:=.dict #v[]}) h.objs.size (.dK []) :=
 #[kj _,Š.mpr (mh (i9 a)),[],.nil,Œ h]
abbrev HG:TE:=λ_ H Q=>∀p,H p=cb->Q (.ref p) (upd H p (.dK []))
def sf:PE X (.Dict [] [] pos) HG:=λpins s σ H Q I h =>
 wpAny_Dict_empty #[.ref _,_,I.laid    (λ_ _ q=>dt _ q) (hY _) (AE _ I.big),rfl,h _ (I.Nr.fresh (hY _))]
structure M2(X:Cx)(o:jw)(m:Str)(apos:Pos)(e f:jw)(Nn:Pos):Prop where
 base:LF o m X.env (p8 o X.env)=p8 o X.env
 Qb:((vl Nn (i0 [e,f] X.env)).all (λx=>!x.1)&&(Ut Nn (PK [] X.env)).all (λx=>x.1.isSome)
  && df (⇑([e,f]:↑jw)+⇑([]:↑QF)+(if ([]:↑QF).isEmpty then 0 else 1)<30))=b6
 line:(apos.endLine==Nn.line)=b6
 trees:vl Nn (i0 [e,f] X.env)=[(cK,p8 e X.env),(cK,p8 f X.env)]
abbrev IsD(H:Hp)(a:hH):Prop:=(∃kvs,Rd H a (.dK kvs))\/∃kvs,Rd H a (.dT kvs)
def HH(I:Inv X pins σ H s)(d:IsD H a):
  s.TypeIs (.ref a) "dict"/\(∀b,ku a=.ref b->∃c,s.heap.get? b≈c/\c.dict=cb)/\(a==P')=cK:=by
 rcases d with⟨kvs,e⟩|⟨kvs,e⟩
 .have(_,f,vs,_,dd):=k8 I.Nr e;show#[dd.typeIs,λb q=>?_,f];cases q;have(c,_,_,g,h,_):=dd;show#[c,g,h.2.1]
 .have(_,f,xs,_,dd):=mU I.Nr e;show#[dd.typeIs,λb q=>?_,f];cases q;have(c,_,_,g,h,_):=dd;show#[c,g,h.2.1]
def HI(q:A.units+1<C0)(I:Inv X pins σ H s)(g:gN H a y o)(j:RelV y u)(m:RelV d r)(h:∀n p,Inv X pins σ H p->RelV (o.getD d) n->Q n p):
  f6 (gs X.prog X.w) A (Qo (.builtin "dict.get") [.ref a,u,r]) Q E s:=by
 rcases g with⟨kvs,k,e,f,l⟩|⟨kvs,k,b,e,f,t,l⟩
 .subst f;have(z,i,vs,c,dd):=k8 I.Nr e;show Ñ F.slot_dict_get dd.typeIs F.entry_dict_get (F.args_dict_get_3 _ _ _) (meets_dict_get_default _ a (pd j) i r) #[_,dd.mapOf,h _ _ (I.tok _) ?_];rw[l];show(c.val k).getD m
 .subst f;cases(j);have(z,i,xs,c,dd):=mU I.Nr e;show Ñ F.slot_dict_get dd.typeIs F.entry_dict_get (F.args_dict_get_3 _ _ _) (meetsH_dict_get_default _ a b i r) #[Sd q,k,xs,kq I.Nr t,dd,h _ _ (I.tok _) ?_];rw[l];show(c.val k).getD m
abbrev HJ(d ty e:TE):TE:=λσ H Q=>d σ H λx b=>∃a,x=.ref a/\IsD b a/\ty σ b λy f=>e σ f λz c=>∃o,gN c a y o/\Q (o.getD z) c
def AF(i:X.A.units+1<C0)(ho:PE X o j)(k:PE X e ty)(l:PE X f n)(m:M2 X o "get" b e f p):PE X (.Call (.Attribute o "get" b) [e,f] [] p) (HJ j ty n):=by
 intro pins s σ H Q I h;show wpAny_Call_method m.base m.Qb m.line F.plainAttrs_dict F.slot_dict_get F.type_dict_get (Ny (ho pins s σ H _ I h) λu s1 q=>?_);have(x,r,c,t,a,ex,d,v):=q;subst ex;obtain rfl:u=ku a:=t;have(w,B,_):=HH c d;show#[w,B,?_];rw[m.trees];show ur rfl (w6 (so (Ny (k pins s1 σ r _ c v) λiv C ⟨y,D,G,J,L⟩ =>
  so (Ny (l pins C σ D _ G L) λfv s3 ⟨z,N,O,T,ov,g,Y⟩=>y8 ?_))))
 show HI i O g J T λw' s4 I4 QE=>#[_,N,I4,QE,Y]
end L2
namespace NR
open PySem PySem.Builtin.Str PySem.StrLaws
abbrev low(c:Nat):Bool:=df (97<=c)&&df (c<=122)
abbrev cS(l:↑Nat):Bool:=df (1<=⇑l)&&df (⇑l<=8)&&l.all low
def cN(l):cS l=b6↔1<=⇑l/\⇑l<=8/\∀c∈l,97<=c/\c<=122:=by
 simp[cS,low,and_assoc]
def jH(h:cS l=b6):47∉l:=λm=>by
 have:=((cN l).mp h).2.2 47 m;lia
def dO{x y:Str}(h:(~~~x)=(~~~y)):x=y:=by
 cases x;simp_all
def uU(x)(b:(~~~x)=(ib 26).map (97+·))(c):(!(ti x #[#v[c]] 0 ⇑x 1).isEmpty)=low c:=by
 rw[found_one,b];erw[low,j0,uv];by_cases h:97<=c/\c<=122
 .have:∃a,a<26/\97+a=c:=#[c - 97,⋯,⋯]
  simp[this,h.1,h.2]
 .have:¬∃a,a<26/\97+a=c:=λ⟨a,d,e⟩=>h #[⋯,⋯];simp[this];lia
def iG(h:c∉(~~~x)):ko x #[#v[c]]=(x,nH,nH):=by
 have e:=found_one x c;unfold ko;simp_all
def qm(x)(c i):At x #[#v[c]] ⇑x i↔(~~~x)[i]?≈c:=subAt_one x c i
def AG(h:(~~~x)=a++c::b)(hn:c∉a)(d)(hl:1<=d):∃r,ti x #[#v[c]] 0 ⇑x d=⇑a::r:=by
 have f:(~~~x)[⇑a]?≈c:=by rw[h];simp
 rcases occ_head x ⟨#v[c]⟩ d hl with⟨_,j⟩|⟨i,r,e,hi,k⟩
 .show absurd ((qm x c ⇑a).mpr f) (j _)
 .have g:=(qm x c i).mp hi;have:i=⇑a:=by
   rcases Nat.lt_trichotomy i ⇑a with z|z|z
   .exfalso
    rw[h,qs z]at g;show hn (nT g)
   .show z
   .show absurd ((qm x c ⇑a).mpr f) (k _ z)
  simp_all
def qo(h:(~~~x)=a++c::b)(hn:c∉a):ko x #[#v[c]]=(⟨a.toArray⟩,⟨#v[c]⟩,⟨b.toArray⟩):=by
 have(r,e):=AG h hn 1 (hY _);unfold ko;rw[e];have d:⇑(⟨#v[c]⟩:Str)=1:=rfl;have f:⇑x=⇑a+1+⇑b:=by
  have:=ş NX h;simp[XQ]at this ⊢;lia
 show Vq ?_ (Vq rfl ?_)
 .apply dO;rw[Ã,h];simp
 .apply dO;rw[Ã,h,d,f];simp
def uV(h:c∉(~~~x)):G' x #[#v[c]]=[x]:=by
 unfold G';split
 .rfl
 .rw[ř];rcases occ_head x _ (⇑x+1) ⋯ with⟨e,_⟩|⟨i,r,e,hi,_⟩
  .rw[e];rfl
  .show absurd (nT ((qm x c i).mp hi)) h
def si(c)(h:c<256)(x):¬(PySem.Builtin.Str.strKind x<PySem.Builtin.Str.strKind #[#v[c]]):=by
 have e:PySem.Builtin.Str.strKind ⟨#v[c]⟩=1:=by simp[PySem.Builtin.Str.strKind,h]
 rw[e];unfold PySem.Builtin.Str.strKind;split
 .lia
 .split<;>lia
def AH(h:(~~~x)=a++c::b)(hn:c∉a)(d:c<256):∃r,G' x #[#v[c]]=⟨a.toArray⟩::r:=by
 have(r,e):=AG h hn (⇑x+1) ⋯;have i:⇑(⟨#v[c]⟩:Str)=1:=rfl;have j:⇑x=⇑a+1+⇑b:=by
  have:=ş NX h;simp[XQ]at this ⊢;lia
 unfold G';rw[Ś (by
  have f:¬(⇑x<⇑(⟨#v[c]⟩:Str)):=⋯
  have g:=si c d x;simp[f,g]),e]
 show#[_,ş (·::_) ?_];apply dO;rw[Ã,h];simp
abbrev qp(i:Int):Str:=Uv (Ņ i)
abbrev Gk:Str:=#[#v[47]]
def qq(h:a++c::b=p++c::q)(d:c∉a)(e:c∉p):a=p/\b=q:=by
 induction a generalizing p with
 |nil =>
  cases p with
  |nil=>simp at h;show#[rfl,h]
  |cons z p=>simp at h;show absurd (by rw[h.1];show il) e
 |cons y a f =>
  cases p with
  |nil=>simp at h;show absurd (by rw[h.1];show il) d
  |cons z p =>
   simp at h;have(g,i):=f h.2 (λm=>d (f7 _ m)) (λm=>e (f7 _ m));show#[by rw[h.1,g],i]
def sj(h:c∈l):∃a b,l=a++c::b/\c∉a:=by
 induction l with
 |nil=>cases h
 |cons x l f =>
  by_cases d:x=c
  .subst d;show#[[],l,rfl,by simp]
  .have g:c∈l:=by
    rcases eT.mp h with e|e
    .show absurd e.symm d
    .show e
   have(a,b,e,hn):=f g;show#[x::a,b,by rw[e];rfl,λm=>?_];rcases eT.mp m with z|z
   .show d z.symm
   .show hn z
end NR
namespace L2
open PySem PySem.Spec PyProof.Rows
abbrev cH(env:Env):↑(Str×ø)->↑(Str×hH)->↑(Str×hH)
 |[],b=>b
 |(n,k)::r,b=>cH env r (if k==.free then(match env.cells.lookup n with|some a=>(n,a)::b|none=>b) else b)
def dF(h:∀y∈scope.names,y.2=.free->∃a,env.cells.lookup y.1≈a):closureFor scope env=pure (cH env scope.names []):=by
 unfold closureFor;generalize scope.names=names at h
 suffices H:∀c,forIn _ c _=pure (cH env _ c) by
  have:=H [];show ş (λm=>m >>= pure) this
 induction names with
 |nil=>intro c;rfl
 |cons y r e =>
  intro c;have(n,k):=y;rw[List.forIn_cons];have b:=e λy f=>h y (f7 _ f);by_cases hk:(k==L')=b6
  .have(a,g):=h _ il (by exists hk);have d:=g;erw[hk,cellOf,d,cH];show b _
  .simp only[hk,cH];show b _
theorem fW:∀names b,(∀n c,b.lookup n≈c->env.cells.lookup n≈c)->∀n c,(cH env names b).lookup n≈c->env.cells.lookup n≈c
 |[],_,h=>h
 |(m,k)::r,b,h=>by
  show fW r _ λn c e=>?_;by_cases hk:(k==L')=b6
  .rw[ř hk]at e;cases q:env.cells.lookup m with
   |none=>rw[q]at e;show h n c e
   |some a =>
    rw[q]at e
    grind
  .rw[Ś hk]at e;show h n c e
theorem k_(d:env.cells.lookup n≈a):∀names (c:↑(Str×hH)),c.lookup n≈a->(cH env names c).lookup n≈a
 |[],_,h=>h
 |(m,k)::r,c,h=>by
  show k_ d r _ ?_;by_cases hk:(k==L')=b6
  .rw[ř hk];cases q:env.cells.lookup m with
   |none=>show h
   |some b =>
    grind
  .rw[Ś hk];show h
theorem jh(b:env.cells.lookup n≈a):∀names c,(n,L')∈names->(cH env names c).lookup n≈a
 |[],_,h=>by cases h
 |(m,k)::r,c,h=>by
  rcases eT.mp h with e|e
  .show k_ b r _ ?_;simp_all
  .show jh b r _ e
theorem cq{env:Env}:∀{names:↑(Str×ø)}{x}{k},
  (names.map λ(n,k)=>if (k==L'&&env.scope.kind==.function&&env.kindOf n==bD .cell) then(n,O') else(n,k)).lookup x≈k ->
  names.lookup x≈k\/(k=.cell/\names.lookup x≈.free)
 |[],_,_,h=>by simp at h
 |(n,k0)::r,x,k,h=>by
  have b:=@cq env r x k;rw[i6]at h;by_cases c:(k0==L'&&env.scope.kind==.function&&env.kindOf n==bD .cell)=b6
  .simp only[ř c,sL]at h;cases a:x==n with
   |true =>
    simp_all
   |false =>
    rw[a]at h;rcases b h with z|⟨z1,z2⟩
    .show .inl (by simp[sL,a,z])
    .show .inr #[z1,by simp[sL,a,z2]]
  .simp only[Ś c,sL]at h;cases a:x==n with
   |true=>simp_all
   |false =>
    rw[a]at h;rcases b h with z|⟨z1,z2⟩
    .show .inl (by simp[sL,a,z])
    .show .inr #[z1,by simp[sL,a,z2]]
theorem la:∀names b,(cH env names b).lookup x≈c->(x,L')∈names\/b.lookup x≈c
 |[],_,h=>.inr h
 |(m,k)::r,b,h=>by
  rcases la r _ h with z|z
  .show .inl (f7 _ z)
  .by_cases hk:(k==L')=b6
   .rw[ř hk]at z;cases q:env.cells.lookup m with
    |none=>rw[q]at z;show .inr z
    |some a =>
     rw[q]at z;erw[sL]at z;cases d:x==m with
     |true =>
      simp_all
     |false=>rw[d]at z;show .inr z
   .rw[Ś hk]at z;show .inr z
theorem jI:∀names n a,(Oo n names a).lookup x≈c->((x,O')∈names/\@LE.le Nat _ n c)\/a.lookup x≈c
 |[],_,_,h=>.inr h
 |(y,k)::r,n,a,h=>by
  unfold Oo at h;by_cases hk:(k==O')=b6
  .have b:=by exists hk
   subst b;rcases jI r _ _ h with⟨z1,z2⟩|z
   .show .inl #[f7 _ z1,Nat.le_of_succ_le z2]
   grind
  .rw[Ś hk]at h;rcases jI r n a h with⟨z1,z2⟩|z
   .show .inl #[f7 _ z1,z2]
   .show .inr z
theorem qr:∀names n a,(x,O')∉names->(Oo n names a).lookup x=a.lookup x
 |[],_,_,_=>rfl
 |(y,k)::r,n,a,h=>by
  unfold Oo;have b:=λz=>h (f7 _ z);by_cases hk:(k==O')=b6
  .rw[ř hk,qr r _ _ b]
   grind
  .rw[Ś hk,qr r _ _ b]
theorem uW:∀names n a,(∀z d,a.lookup z≈d->@LT.lt Nat _ d n)->(∀u v d,a.lookup u≈d->a.lookup v≈d->u=v) ->
  (Oo n names a).lookup x≈c->(Oo n names a).lookup y≈c->x=y
 |[],_,_,_,hi,b,f=>hi x y c b f
 |(g,k)::r,n,a,hl,hi,b,f=>by
  unfold Oo at b f;by_cases hk:(k==O')=b6
  .rw[ř hk]at b f;have lk:∀(z:Str) (d:hH),Pk z ((g,n)::a)≈d->(z=g/\d=n)\/a.lookup z≈d:=λz d e=>by
    erw[sL]at e;cases h:z==g with
    |true=>simp_all
    |false=>rw[h]at e;show .inr e
   show uW r _ _ (λz d e=>?_) (λu v d i j=>?_) b f
   .rcases lk z d e with⟨_,q⟩|q
    .simp_all
    .show Sf (hl z d q)
   .rcases lk u d i with⟨l,m⟩|q<;>rcases lk v d j with⟨o,p2⟩|p
    .rw[l,o]
    .rw[m]at p;show absurd (hl v n p) (td _)
    .rw[p2]at q;show absurd (hl u n q) (td _)
    .show hi u v d q p
  .rw[Ś hk]at b f;show uW r n a hl hi b f
theorem qt:∀names h a,(Oo h.objs.size names a).lookup x≈c->(X4 h names).IsCell c cb\/a.lookup x≈c
 |[],_,_,e=>.inr e
 |(y,k)::r,h,a,e=>by
  unfold Oo at e;unfold X4;by_cases hk:(k==O')=b6
  .rw[ř hk]at e ⊢;have hs:h.objs.size+1=(h.push {cls:=.type "cell",data:=.cell cb}).objs.size:=⋯
   rw[hs]at e;rcases qt r _ _ e with z|z
   .show .inl z
   .simp only[sL]at z;cases b:x==y with
    |true =>
     rw[b]at z;cases z;show .inl #[_,Y8 r _ _ _ (gj _ rfl),rfl]
    |false=>rw[b]at z;show .inr z
  .rw[Ś hk]at e ⊢;show qt r h a e
abbrev Qw(X:Cx)(scope:uk)(C:hH):↑(Str×hH):=Oo (C+1) scope.names (cH X.env scope.names [])
abbrev Ou(X:Cx)(N:↑Str)(scope:uk)(C:hH)(s:i4)(H:Hp)(ex:↑hH):Cx where
 prog:=X.prog
 w:=X.w
 K:=X.K
 mg:=X.mg
 base:=X.base
 A:=X.A
 N:=N
 s₀:=s
 H₀:=H
 env:=Wm scope (Qw X scope C) C X.env
 outer:=X.stack
 stack:=X.stack
 ex:=ex
 fn:=λx=>df (scope.names.lookup x≈.cell)
 calm:=X.calm
 pn:=[]
 xe:=λ_ _=>False
abbrev fw(D N:↑Str):Prop:=⇑D=⇑N/\∀(i:Nat) (y:Str),D[i]?≈y->N[i]?≈y\/y="."\/y=".."
def fw.refl(N):fw N N:=#[rfl,λ_ _ h=>.inl h]
def fw.set{D N}(h:fw D N)(j){m:Str}(b:m="."\/m=".."):fw (D.set j m) N:=by
 show#[by rw[þ];show h.1,λi y e=>?_];by_cases a:j=i
 .subst a;rw[List.getElem?_set]at e;simp_all
 .rw[hQ a]at e;show h.2 i y e
structure de(X:Cx)(N own:↑Str)(scope:uk):Prop where
 kind:scope.kind=.function
 uq:∀y∈scope.names,scope.names.lookup y.1≈y.2
 cl:∀y∈scope.names,y.2=.cell->y.1∈own
 nd:N.Nodup
 pre:N.take ⇑own=own
 loc:∀y∈scope.names,y.2=.local->y.1∈own\/y.1=".0"
 no0:(".0":Str)∉N
 tail:fw (N.drop ⇑own) X.N
 free:∀y∈scope.names,y.2=.free->X.env.scope.names.lookup y.1≈.cell\/X.env.scope.names.lookup y.1≈.free
 dot:∀y∈scope.names,y.1≠"."/\y.1≠".."
def mem_lookup{names:↑(Str×ø)}(h:names.lookup x≈k):(x,k)∈names:=PySem.mem_of_lookup h
def de.names(S:de X N a scope):∀y∈scope.names,y.2=.local->scope.names.lookup y.1≈.local:=λy b e=>e▸S.uq y b
def de.no(S:de X N a scope)(h:scope.names.lookup x≈.free):(x,O')∉scope.names:=λz=>by
 have:=S.uq _ z;simp_all
def de.cells(S:de X N c scope)(b:X.Ok):∀y∈scope.names,y.2=.free->∃a,X.env.cells.lookup y.1≈a:=λy d e=>by
 rcases S.free y d e with z|z
 .show b.has y.1 (.inl z)
 .show b.has y.1 (.inr z)
def AI(S:de X N f scope)(I:Inv X pins σ H s)
  (B:↥s<=C) (RG:∀x c,(Qw X scope C).lookup x≈c->D.heap.IsCell c cb\/(cH X.env scope.names []).lookup x≈c) (Ra:D.os=s.os) (hg:D.gens=s.gens) (keep:∀b o,s.heap.get? b≈o->D.heap.get? b≈o) (ns:∃m,D.heap.Ns C m)
  (g:∀b∈ex,gJ X pins H b/\b<↥s):Inv (Ou X N scope C s H ex) [] (kb ⇑f cb++σ) H D:=by
 have(m0,VE):=ns;have sub:=fW (env:=X.env) scope.names [] (λn c e=>by simp at e);have L:∀(x:Str) (c:hH),(cH X.env scope.names []).lookup x≈c->c<↥s:=λx c e=>by
  have(v,o,ho,_):=I.cell x c (sub x c e);show hW ho
 have O:∀(x:Str) (c:hH),(Qw X scope C).lookup x≈c->C<c\/(cH X.env scope.names []).lookup x≈c:=λx c e=>(jI _ _ _ e).imp (λz=>z.2) id;have VF:∀b∈ex,b<C:=λb t=>jn (g b t).2 B;have tl:⇑f<=⇑N:=by have:=ş NX S.pre;grind
 show#[#[I.ok.mod,?_,I.ok.glob,I.ok.blt,B,λx y c w A=>uW _ _ _ (λz d e=>Sf (jn (L z d e) B)) (λu v d G e2=>I.ok.inj u v d (sub u d G) (sub v d e2)) w A,λx hx=>?_,λx c h e=>?_,I.ok.hd,I.ok.frames,.inl rfl,λb t=>#[i9 (VF b t),λx c e=>?_],λb o e=>I.bs b o e,?_,λb o e t=>?_,λb t=>?_,I.stack,I.iB],
  Ra,(by rw[hg];show I.bare),Un.kept keep,#[m0,VE,λi y v w A h3=>?_],λx c e=>?_,I.Nr.fresh B,λx c e=>?_,λp hp=>absurd (show p∈([]:↑(hH×Obj)) from hp) ⋯,I.Nr.kept keep,?_]
 .change(WI scope X.env).kind=.function;show S.kind
 .
  have Yq:(WI scope X.env).names.lookup x≈.cell\/(WI scope X.env).names.lookup x≈.free:=hx;have N6:scope.names.lookup x≈.cell\/scope.names.lookup x≈.free:=by
   rcases Yq with z|z
   .rcases cq z with q|⟨_,q⟩
    .show .inl q
    .show .inr q
   .rcases cq z with q|⟨q,_⟩
    .show .inr q
    .cases q
  rcases N6 with N6|N6
  .show vr.mp (W.cellsFrom_some scope.names (C+1) _ (.inl N6))
  .have(a,ha):=S.cells I.ok (x,.free) (mem_lookup N6) rfl;show#[a,(qr _ _ _ (S.no N6)).trans (jh ha scope.names [] (mem_lookup N6))]
 .have h':scope.names.lookup x≈.cell:=Ŝ h;rcases O x c e with z|z
  .show qv B (Q_ z)
  .rcases la _ _ z with z|z
   .have:=S.uq _ z;rw[h']at this;cases this
   .simp at z
 .rcases O x c e with z|z
  .show λq=>absurd (X' (VF b t) z) (by rw[q];show td _)
  .show(g b t).1.2.2.2.2.1 x c (sub x c z)
 .show qv I.ok.Q8 I.sz
 .have(f0,f1,f2,f3,f4,f5):=(g b t).1;rcases f3 with z|z
  .show I.ok.P_ b o e z
  .show absurd (jn (hW e) (qv I.ok.Q8 z)) (td _)
 .intro Qx;have(f0,f1,f2,f3,f4,f5):=(g b t).1;rcases eT.mp (I.mK b Qx) with z|z
  .show f1 z
  .show f2 z
 .
  have hi:⇑f<=i:=by
   by_cases hi:i<⇑f
   .rw[qs (by exists hi),O7]at A;split at A<;>cases A
   .lia
  rw[pe (by exists hi),Wf]at A;have Q:(N.drop ⇑f)[i - ⇑f]?≈y:=by
   rw[KD];have e:⇑f+(i - ⇑f)=i:=⋯
   rw[e];show w
  have UR:(WI scope X.env).names.lookup y≈.local\/(WI scope X.env).names.lookup y≈.cell\/(WI scope X.env).names.lookup y≈.free:=h3;have SX:∀y:Str,y∈f->N[i]?≈y->False:=λy T w=>by
   have(j,hj,ej):=Uq T;have R7:N[j]?≈y:=by
    have G:(N.take ⇑f)[j]?≈y:=by rw[S.pre,Rp hj,ej]
    rw[Y4 hj]at G;show G
   have:=jD S.nd R7 w;lia
  have N6:scope.names.lookup y≈.free:=by
   rcases UR with z|z|z
   .rcases cq z with q|⟨q,_⟩
    .exfalso
     have T:y∈f:=by
      rcases S.loc (y,.local) (mem_lookup q) rfl with z|z
      .show z
      .have z':y=".0":=z;show absurd (nT w) (by rw[z'];show S.no0)
     show SX y T w
    .cases q
   .rcases cq z with q|⟨_,q⟩
    .show(SX y (S.cl _ (mem_lookup q) rfl) w).elim
    .show q
   .rcases cq z with q|⟨q,_⟩
    .show q
    .cases q
  have hX:X.N[i - ⇑f]?≈y:=by
   rcases S.tail.2 _ _ Q with e|e|e
   .show e
   .show absurd e (S.dot _ (mem_lookup N6)).1
   .show absurd e (S.dot _ (mem_lookup N6)).2
  have(m,hn,hl):=I.loc;have hv:X.env.scope.names.lookup y≈.cell\/X.env.scope.names.lookup y≈.free:=S.free (y,.free) (mem_lookup N6) rfl;have(u,r,l):=hl _ y v hX A (.inr hv);show#[u,r,?_];rcases l with⟨k,_⟩|⟨k,c,e,z⟩
  .have k':X.env.scope.names.lookup y≈.local:=k;simp_all
  .have hk:(WI scope X.env).names.lookup y≈.cell\/(WI scope X.env).names.lookup y≈.free:=by
    rcases UR with q|q|q
    .rcases cq q with J|⟨J,_⟩
     .rw[N6]at J;cases J
     .cases J
    .show .inl q
    .show .inr q
   have(o,ho,Y):=z;show .inr #[hk,c,(qr _ _ _ (S.no N6)).trans (jh e scope.names [] (mem_lookup N6)),o,keep c o ho,Y]
 .rcases RG x c e with z|z
  .show#[_,z]
  .have(v,o,ho,Y):=I.cell x c (sub x c z);show#[v,o,keep c o ho,Y]
 .rcases O x c e with z|z
  .show I.Nr.fresh (qv B (Q_ z))
  .show I.NW x c (sub x c z)
 .rw[mx,Wf,I.len];have e:⇑N=⇑f+⇑(N.drop ⇑f):=by rw[Yd];lia
  change _=⇑N;rw[e,S.tail.1]
def mV(I:Inv X pins σ H s)
  (d:Inv (Ou X N scope C s H ex) O Q k l) (w:↥s<=D) (x:↥s<=C) (m:D≠C) (g:k D=cb) (rv:Vals ys r) (y:l.heap.PlainList D r.toArray) (hl:⇑ys<=c8)
  (h:tE C l.heap h') (p:∀b∈ex,gJ X pins H b):Inv X pins σ (upd k D (.lst ys)) {l with heap:=h' }:=by
 have T:k C=cb:=d.free;have lt:∀{b:hH} {o:Obj},s.heap.get? b≈o->b≠C/\b≠D:=λe=>#[i9 (jn (hW e) x),i9 (jn (hW e) w)]
 show I.Ga  (ch:=ex) d.os #[λb o e n i f=>?_,λb o e n i f=>?_,λb o e n f=>?_,λb o e f=>?_,λb xs e=>?_,λb o u e=>?_,λb ps e=>?_] (λa o e=>?_) d.bare λb i=>?_
 .show(h.2 b (lt e).1).trans (d.base.keep b o e n i f)
 .have(z,q):=d.base.slot b o e n i f;show#[z,(h.2 b (lt e).1).trans q]
 .rw[ai (lt e).2];show d.base.free b o e n f
 .have(A,q):=d.base.there b o e f;show#[A,(h.2 b (lt e).1).trans q]
 .have q:=d.base.gQ b xs e;rw[ai (av q g)];show q
 .have q:=d.base.OF b o u e;rw[ai (av q g)];show q
 .have(j,q):=d.base.ON b ps e;show#[j,by rw[ai (av q g)];show q]
 .by_cases t:a=D
  .subst t;rw[aj]at e;cases e;have(n,q):=y;show#[hl,r,n,rv,(h.2 _ m).trans q]
  .rw[ai t]at e;show(d.Nr a o e).lO (λc v Y q=>(h.2 c ?_).trans q) (λc q=>?_) λc xs q=>?_
   .grind
   .rw[ai (av q g)];show q
   .rw[ai (av q g)];show q
 .have(f0,B,f2,G,J,L):=p b i;show#[G,B,J,L]
def qu(I:Nat->i4->Prop)
  (d:∀n s,I n s->f6 (gs prog w) A (Ts it) (λr f=>match r with
   |none=>R (.ok .next) f
   |some v=>f6 (gs prog w) A (Xd a it v) (λ_ f=>f6 (gs prog w) A (Vj a env v) (λ_ k =>
     f6 (gs prog w) A (forIn ifs b6 λc r=>if r=b6 then do let ok <-isTrue c env (p8 c env);pure (Va ok) else pure (Va r)) (λok g =>
      if ok=b6 then f6 (gs prog w) A (p8 elt env) (λx l =>
       f6 (gs prog w) A (Qo (.builtin "list.append") [i,x]) (λ_ o=>∃m,m<n/\I m o) (VS (gs prog w) A env λe b=>R (.error e) b) l) (VS (gs prog w) A env λe b=>R (.error e) b) g
      else ∃m,m<n/\I m g) (VS (gs prog w) A env λe b=>R (.error e) b) k) (VS (gs prog w) A env λe b=>R (.error e) b) f) (VS (gs prog w) A env λe b=>R (.error e) b) f) (VS (gs prog w) A env λe b=>R (.error e) b) s)
  (n) (h:I n s) :
  Rr (gs prog w) A (.compLoop (.ListComp elt [⟨a,p,ifs,0⟩] scope pos) 0 it i env) R s:=by
 show codeAny_loop rfl I (λn s u=>?_) n h;show wpAny_noted ?_;rw[compTurn_list];show cL (Z9 (cL (lg (d n s u) (λr f q=>?_) λ_ _ h'=>h')));cases r with
 |none=>show dV q
 |some v =>
  show cL (lg q (λ_ y j=>?_) λ_ _ h'=>h');show cL (lg j (λ_ k z=>cL (lg z (λok g t=>?_) λ_ _ h'=>h')) λ_ _ h'=>h');cases ok with
  |false=>show dV #[rfl,t]
  |true =>
   show cL (cL (lg t (λx l B=>cL (lg B (λ_ o C=>dV (dV #[rfl,C])) λ_ _ h'=>h')) λ_ _ h'=>h'))
abbrev RH(X:Cx)(ifs:↑jw)(t:TT):Prop :=
 ∀(pins:↑(hH×Obj)) (s:i4) (σ:St) (H:Hp) (Q:Bool->Hp->Prop),Inv X pins σ H s->t σ H Q ->
  ‹X› (forIn ifs b6 λc r=>if r=b6 then do let a <-isTrue c X.env (p8 c X.env);pure (Va a) else pure (Va r)) (TP X pins σ Q) X.xe s
abbrev MQ:TT:=λ_ H Q=>Q b6 H
def wW:RH X [] MQ:=λ_ _ _ H _ I h=>wpAny_tests_nil #[H,I,h]
def qw(h:PT X c t):RH X [c] t:=λpins s σ H Q I q=>wpAny_tests_one (h pins s σ H Q I q)
abbrev sr(k:Nat)(J:It)(g:TG)(j:TT)(l:TE)(Q:VK)(σ:St)(n:Hp):Prop :=
  ∃W:Nat->Nat->↑V->Hp->Prop,(∃m,W 0 m [] n)/\∀i m ys H,W i m ys H->⇑ys<=c8 /\
    ((J.stop i H/\∀p,H p=cb->Q (.ref p) (upd H p (.lst ys))) \/
     (J.go i H/\∃c:↑V->Hp->Prop,(∀e H',c e H'->∃f,f<m/\W (i+1) f e H')/\∀x H',J.UM i H x H'->g x (kb k cb++σ) H' λd o=>∃a:St,⇑a=k/\d=a++σ /\
        j d o λb h=>if b=b6 then l d h λy q=>c (ys++[y]) q else c ys h))
abbrev sv(k:Nat)(a:TI)(g:TG)(b:TT)(c:TE):TE:=λσ H Q=>a σ H λJ d=>sr k J g b c Q σ d
structure qx(X:Cx)(tg:jw)(J:It)(fp:↑hH)(it:hH)(tn:Nat->K2->Prop):Prop where
 obj:∀i h,tn i h->∀b∈fp,∃o,h.get? b≈o/\∀v,o.data≠.cell v
 keep:∀i h h',tn i h->(∀b∈fp,∀o,h.get? b≈o->h'.get? b≈o)->tn i h'
 item:∀(i:Nat) (pins:↑(hH×Obj)) (s:i4) (σ:St) (H:Hp) (E:g8->i4->Prop),Inv X pins σ H s->(∀b∈fp,gJ X pins H b)->tn i s.heap->J.go i H ->
  ‹X› (Ts (.ref it)) (λr s1=>∃u,r≈u /\
   ‹X› (Xd tg (.ref it) u) (λ_ s2=>∃x H',Inv X pins σ H' s2/\RelV x u/\J.UM i H x H'/\tn (i+1) s2.heap/\∀b∈fp,H' b=cb) E s1) E s
 done:∀(i:Nat) (pins:↑(hH×Obj)) (s:i4) (σ:St) (H:Hp) (E:g8->i4->Prop),Inv X pins σ H s->(∀b∈fp,gJ X pins H b)->tn i s.heap->J.stop i H->‹X› (Ts (.ref it)) (λr s1=>r=cb/\Inv X pins σ H s1) E s
 self:∀(A:Ui) (i:Nat) (s:i4) (Q:g8->i4->Prop) (E:g8->i4->Prop),tn i s.heap->Q (.ref it) s->f6 (gs X.prog X.w) A (YW (.ref it)) Q E s
def Turn.at{K}(T:Turn P w K tg J b it c)(d:X.prog=P)(e:X.w=w)(f:X.K=K)(a:X.calm=b6):qx X tg J b it c:=by
 subst d e f;show#[T.obj,T.keep,T.item X rfl rfl rfl a,T.done X rfl rfl rfl a,T.self]
def AJ
  (S:de X N L scope) (hg:∀C s H ex,PG (Ou X N scope C s H ex) tg g) (hf:∀C s H ex,RH (Ou X N scope C s H ex) ifs tt)
  (he:∀pins s7 σ7 H7 Q7,Inv (Ou X N scope C s H t) pins σ7 H7 s7->te σ7 H7 Q7->‹X› (p8 elt (Wm scope (Qw X scope C) C X.env)) (EP (Ou X N scope C s H t) pins σ7 Q7) (VS (gs X.prog X.w) X.A (Wm scope (Qw X scope C) C X.env) λe k=>R (.error e) k) s7)
  (I:Inv X pins σ H s) (T:qx (Ou X N scope C s H t) tg J t it tn) (st:tn 0 s.heap) (f2:∀b∈t,gJ X pins H b) (W:sr ⇑L J g tt te Q σ H)
  (hD:@Eq Nat D ↥s) (hC:@Eq Nat C (↥s+1)) (RG:∀x c,(Qw X scope C).lookup x≈c->B.heap.IsCell c cb\/(cH X.env scope.names []).lookup x≈c) (Ra:B.os=s.os) (a5:B.gens=s.gens) (keep:∀b o,s.heap.get? b≈o->B.heap.get? b≈o) (ns:∃m,B.heap.Ns C m) (pl:B.heap.PlainList D #v[])
  (am:∀s5 H5 ys l,Inv (Ou X N scope C s H t) [] (kb ⇑L cb++σ) H5 s5->H5 D=cb->Vals ys l->s5.heap.PlainList D l.toArray->⇑ys<=c8->(∀p,H5 p=cb->Q (.ref p) (upd H5 p (.lst ys)))->R (.ok .next) s5) :
  Rr (gs X.prog X.w) X.A (.compStart (.ListComp elt [⟨tg,an,ifs,0⟩] scope pos) 0 (.ref it) (.ref D) (Wm scope (Qw X scope C) C X.env)) R B:=by
 have R8:∀b∈t,@LT.lt Nat _ b ↥s:=λb h=>by
  have(o,e,_):=T.obj 0 s.heap st b h;show hW e
 have I4:Inv (Ou X N scope C s H t) [] (kb ⇑L cb++σ) H B:=AI S I ⋯ RG Ra a5 keep ns λb h=>#[f2 b h,R8 b h]
 have US:tn 0 B.heap:=T.keep 0 s.heap B.heap st λb _ o e=>keep b o e;have nD:H D=cb:=I.Nr.fresh ⋯;have(W,(m0,w0),ï):=W;generalize O:Ou X N scope C s H t=f at I4 am he T;have eP:f.prog=X.prog:=by rw[<-O];rfl
 have ew:f.w=X.w:=by rw[<-O];rfl
 have eK:f.K=X.K:=by rw[<-O];rfl
 have eA:f.A=X.A:=by rw[<-O];rfl
 have ee:f.env=Wm scope (Qw X scope C) C X.env:=by rw[<-O];rfl
 have ap:f.xe=λ_ _=>False:=by rw[<-O];rfl
 have el:f.env.locals=C:=by rw[ee];rfl
 have WV:PG f tg g:=by rw[<-O];show hg _ _ _ _
 have a8:RH f ifs tt:=by rw[<-O];show hf _ _ _ _
 have s0:f.s₀=s:=by rw[<-O];rfl
 have WW:f.pn=[]:=by rw[<-O];rfl
 have Yr:∀{H':Hp} {o:Obj},(∀b∈t,H' b=cb)->∀b∈t,gJ f [(D,o)] H' b:=λ{H' o} hn b h=>by
  have ex:f.ex=t:=by rw[<-O];rfl
  show#[hn b h,?_,?_,.inl (by rw[ex];show h),λx c e=>?_,λp Y=>?_]
  .rw[el];have:=R8 b h;show i9 (by change @LT.lt Nat _ b C;lia)
  .have e1:f.fs=Ot X.stack:=by rw[<-O];rfl
   rw[e1];intro z;have(f0,f1,a',f3,f4,f5):=f2 b h;rcases eT.mp (I.mK b z) with q|q
   .show f1 q
   .show a' q
  .have e1:f.env.cells=Qw X scope C:=by rw[ee];rfl
   rw[e1]at e;rcases jI _ _ _ e with z|z
   .have:=R8 b h;have:=z.2;show DD (by change @LT.lt Nat _ b c;lia)
   .show(f2 b h).2.2.2.2.1 x c (fW scope.names [] (λn c e=>by simp at e) x c z)
  grind
 have Ys:∀{σ':St} {H':Hp} {k:i4} {o:Obj},Inv f [] σ' H' k->H' D=cb->k.heap.get? D≈o->(∀v,o.data≠.cell v)->Inv f [(D,o)] σ' H' k:=λ{σ' H' k o} I' n e d =>
  I'.iC λp Y=>by
   have:p=(D,o):=by exists Y
   subst this;show#[e,n,?_,?_,d]
   .rw[el];show i9 (by change @LT.lt Nat _ D C;lia)
   .have e1:f.fs=Ot X.stack:=by rw[<-O];rfl
    rw[e1];intro z;have zz:(D:hH)∈Ot X.stack:=z;rcases eT.mp (I.mK D zz) with q|q
    .have:=I.lt;rw[<-q]at this;show absurd this (by change ¬@LT.lt Nat _ D ↥s;lia)
    .show I.J_ (a:=D) ⋯ q
 have start:∀k:i4,k=B->Rr (gs X.prog X.w) X.A (.compLoop (.ListComp elt [⟨tg,an,ifs,0⟩] scope pos) 0 (.ref it) (.ref D) (Wm scope (Qw X scope C) C X.env)) R k:=by
  rintro k rfl;show qu (λn k=>∃i ys l H',Inv f [] (kb ⇑L cb++σ) H' k/\tn i k.heap/\(∀b∈t,H' b=cb)/\H' D=cb/\Vals ys l/\k.heap.PlainList D l.toArray/\W i n ys H') ?_ m0
   ⟨0,[],[],H,I4,US,λb h=>(f2 b h).1,nD,.nil,pl,w0⟩
  rintro n s3 ⟨i,ys,l,H3,I3,N7,Vv,as,WX,⟨nn,bb⟩,w3⟩;have(ab,VG):=ï i n ys H3 w3;have IP:=Ys I3 as bb (λv z=>by have z':Data.seq _ _=Data.cell v:=z;cases z');rcases VG with⟨a0,qn⟩|⟨go,NN,a1,a2⟩
  .have d:=T.done i _ s3 _ H3 (VS (gs X.prog X.w) X.A (Wm scope (Qw X scope C) C X.env) λe k=>R (.error e) k) IP (Yr Vv) N7 a0;rw[eP,ew,eA]at d;show Ny d λr B Yt=>?_;have(hr,I5):=Yt;subst hr;have e5:=(I5.pin (D,({cls:=.type "list",data:=.seq l.toArray nn}:Obj)) (by rw[WW];simp)).1;show am B H3 ys l (I5.iC λp Y=>by cases Y) as WX ⟨nn,e5⟩ ab qn
  .have d:=T.item i _ s3 _ H3 (VS (gs X.prog X.w) X.A (Wm scope (Qw X scope C) C X.env) λe k=>R (.error e) k) IP (Yr Vv) N7 go;rw[eP,ew,eA]at d;show Ny d λr B Yu=>?_;have(u,hr,h4):=Yu;subst hr;show Ny h4 λ_ s5 Yv=>?_;have(x,H5,I5,r5,y5,QT,XZ):=Yv;have bs:H5 D=cb:=(I5.pin (D,({cls:=.type "list",data:=.seq l.toArray nn}:Obj)) (by rw[WW];simp)).2.1;have X0:=I5.pinned (Yr XZ) (T.obj _ _ QT);have a6:=WV _ s5 _ H5 x u _ X0 r5 (a2 x H5 y5);rw[eP,ew,eA,ee,ap]at a6;show lg a6 (λ_ s6 ⟨σ6,H6,I6,q6⟩=>?_) λ_ _ z=>Hf z;have(ow,a3,rfl,q6):=q6;have a7:=a8 _ s6 _ H6 _ I6 q6;rw[eP,ew,eA,ee,ap]at a7;show lg a7 (λb s7 ⟨H7,I7,q7⟩=>?_) λ_ _ z=>Hf z;have ac:∀{s8:i4} {G:Hp} {Pc:↑V} {its':↑g8} {nn':Nat},Inv f [] (ow++σ) G s8->tn (i+1) s8.heap->(∀b∈t,G b=cb)->G D=cb->Vals Pc its'->s8.heap.PlainList D its'.toArray->(∃m',m'<n/\W (i+1) m' Pc G) ->
     ∃m,m<n/\∃i ys l H',Inv f [] (kb ⇑L cb++σ) H' s8/\tn i s8.heap/\(∀b∈t,H' b=cb)/\H' D=cb/\Vals ys l/\s8.heap.PlainList D l.toArray/\W i m ys H':=λ{s8 G Pc its' nn'} I8 bd be n8 bi bk w8=>by
    have(m',hm,w8):=w8;show#[m',hm,i+1,Pc,its',G,I8.weak (by simp[a3]) (λj v e=>?_),bd,be,n8,bi,bk,w8];by_cases hj:j<⇑L
    .rw[qs (by exists hj),O7]at e;split at e<;>cases e
    .rw[pe (by simpa using(Nat.not_lt.mp hj)),Wf]at e;rw[pe ⋯,a3];show e
   have al:∀{σ':St} {G:Hp} {s8:i4},Inv f ([(D,({cls:=.type "list",data:=.seq l.toArray nn}:Obj))]++pZ t s5.heap) σ' G s8->s8.heap.get? D≈{cls:=.type "list",data:=.seq l.toArray nn}/\G D=cb/\tn (i+1) s8.heap/\∀b∈t,G b=cb:=λ{σ' G s8} I8=>by
    have p1:=I8.pin (D,({cls:=.type "list",data:=.seq l.toArray nn}:Obj)) (by rw[WW];simp);show#[p1.1,p1.2.1,T.keep _ _ _ QT λb h o e=>(I8.pin (b,o) (pz _ (pz _ (fT h e)))).1,λb h=>?_];have(o,e,d):=T.obj _ _ QT b h;show(I8.pin (b,o) (pz _ (pz _ (fT h e)))).2.1
   cases b with
   |false =>
    rw[Ś ke]at q7 ⊢;have(p1,p2,p3,p4):=al I7;show ac (nn':=0) (I7.iC λp Y=>by cases Y) p3 p4 p2 WX ⟨nn,p1⟩ (a1 _ _ q7)
   |true =>
    rw[ř rfl]at q7 ⊢;show lg (he _ s7 _ H7 _ I7 q7) (λy s8 ⟨yv,G,I8,r8,q8⟩=>?_) λ_ _ z=>z;have(p1,p2,p3,p4):=al I8;have hsz:l.toArray.size<=c8:=by rw[mu,<-⇑WX];show ab
    show wpAny_list_append_plain (hsz:=hsz) #[nn,p1] λh9 bl a4=>?_;have bm:Inv f [] (ow++σ) G s8:=I8.iC λp Y=>by cases Y
    have WY:∀x c,f.env.cells.lookup x≈c->c≠D:=λx c e=>by
     have e1:f.env.cells=Qw X scope C:=by rw[ee];rfl
     rw[e1]at e;rcases jI _ _ _ e with z|z
     .have:=z.2;show DD (by change @LT.lt Nat _ D c;lia)
     .have(v,z):=I.cell x c (fW scope.names [] (λn c e=>by simp at e) x c z);have:@LT.lt Nat _ c ↥s:=z.lt;show i9 (by change @LT.lt Nat _ c D;lia)
    have I9:Inv f [] (ow++σ) G {s8 with heap:=h9,toks:=s8.toks}:=bm.turned (it:=D) (λb o h e=>(a4.2 b h).trans e) p2 (by rw[el];show i9 (by change @LT.lt Nat _ D C;lia)) (.inr (by rw[s0];change @LE.le Nat _ ↥s D;lia)) WY (λp Y=>by rw[WW]at Y;cases Y);have bn:(l++[y]).toArray=l.toArray.push y:=⋯
    show ac (nn':=0) (s8:={s8 with heap:=h9,toks:=s8.toks}) I9 (T.keep _ _ _ p3 λb h o e=>(a4.2 b ?_).trans e) p4 p2 (WX.append (.cons r8 .nil)) (by rw[bn];show bl) (a1 _ _ q8);have:=R8 b h;show i9 (by change @LT.lt Nat _ b D;lia)
 show codeAny_compStart_list (start _ rfl) (by have z:=T.self X.A 0 B;rw[eP,ew]at z;show z _ _ US (start _ rfl))
def uX
  (f:Q (newEnv scope ↥s b (Oo (↥s+1) scope.names cl) d cb .none (bD c) a) {s with heap:=X4 (s.heap.push {cls:=.type "dict",data:=.dict #v[]}) scope.names}) :
  f6 M A (ŉ scope b cl [] d cb .none (bD c) a) Q E s:=by
 show cL (wpAny_alloc ?_);show cL (wpAny_layCells _ (λname kind e=>by rfl) _ _ _ _ ?_);rw[Qy ..];show cL ?_;show dV (dV f)
def ji{RR:g8->hH->Result->i4->Prop}
    (S:de X N f scope) (y:∀C s H ex,PG (Ou X N scope C s H ex) tg g) (B:∀C s H ex,RH (Ou X N scope C s H ex) ifs G) (L:∀C s H ex,PE (Ou X N scope C s H ex) elt O)
 (I:Inv X pins σ H s) (T:∀C,qx (Ou X N scope C s H k) tg J k it Y) (st:Y 0 s.heap) (f2:∀b∈k,gJ X pins H b) (W:sr ⇑f J g G O Q σ H)
    (l:∀D C h a ys j,@Eq Nat D ↥s->@Eq Nat C (↥s+1)->Inv (Ou X N scope C s H k) [] (kb ⇑f cb++σ) a h->a D=cb->Vals ys j->h.heap.PlainList D j.toArray->⇑ys<=c8->(∀p,a p=cb->Q (.ref p) (upd a p (.lst ys)))->RR (.ref D) C (.ok .next) h) :
    ‹X› (newList []) (λi s₃=>‹X› (ŉ scope X.env.globals (cH X.env scope.names []) [] X.env.qual cb .none (bD X.env)) (λr s₄ =>
      Rr (gs X.prog X.w) X.A (.compStart (.ListComp elt [⟨tg,t,ifs,0⟩] scope pos) 0 (.ref it) i {r with scope:=WI scope X.env}) (RR i r.locals) s₄) E s₃) E s:=by
  show pj (uX ?_);generalize m:s.heap.push _=d;have u:d.objs.size=↥s+1:=by rw[<-m,Qy]
  have v:∀b o,d.get? b≈o->(X4 (d.push {cls:=.type "dict",data:=.dict #v[]}) scope.names).get? b≈o:=λb o e=>Y8 _ _ b o (dt _ e);have n:=λb o e=>v b o (m▸dt _ e);have OA:(X4 _ scope.names).PlainList _ #v[]:=#[_,v _ _ (m▸gj _ rfl)]
  have RG:∀x c,(Qw X scope _).lookup x≈c->(X4 (d.push {cls:=.type "dict",data:=.dict #v[]}) scope.names).IsCell c cb\/(cH X.env scope.names []).lookup x≈c:=λx c e=>by
    show qt scope.names _ _ ?_;rw[Qy];show e
  show AJ (s:=s)  (C:=d.objs.size)  S y B (λpins s7 σ7 H7 Q7 I7 q=>lg (L _ _ _ _ pins s7 σ7 H7 Q7 I7 q) (λ_ _ z=>z) λ_ _ z=>z.elim) I (T _) st f2 W rfl u RG rfl rfl n ⟨_,(Heap.Ns.new d _).keeps (Y8 _ _)⟩ OA
    λh a ys j I5 n5 TV TX TY q5=>l _ _ h a ys j rfl u I5 n5 TV TX TY q5
def D3(S:de X N b scope)(j:X.calm=b6)(hi:PI X tg a k)(l:∀C s H ex,PG (Ou X N scope C s H ex) tg g)(m:∀C s H ex,RH (Ou X N scope C s H ex) ifs n)(o:∀C s H ex,PE (Ou X N scope C s H ex) elt p)
  (hs:∀x,Cd a X.env x=pure x:=by intro _;rfl):PE X (.ListComp elt [⟨tg,a,ifs,0⟩] scope pos) (sv ⇑b k g n p):=by
 intro pins s σ H Q I h;show VX   rfl hs (dF (S.cells I.ok)) S.kind S.names ?_;show Ny (hi pins s σ H _ I h) λv s1 q=>Ny q λG L r=>?_;have(it,O,Y,J,H2,e,c,T,st2,d,W):=r;subst e;show ji  S l m o c (λC=>T.at rfl rfl rfl j) st2 d W ?_;intro D C s5 H5 ys J' t hC f i u w y z;have(m5,A,_):=f.loc;show#[m5,A,λh' B=>#[.ref D,_,mV c f (Ux t.symm) ⋯ (i9 ⋯) i u w y B d,rfl,z D i]]
def D4(S:de X N n scope)(hc:X.calm=b6)(hN:X.N.Nodup)(WZ:X.N[i]?≈y)(O:X.env.scope.names.lookup y≈.local)
  (hi:PI X tg d wi) (hg:∀C s H ex,PG (Ou X N scope C s H ex) tg g) (hf:∀C s H ex,RH (Ou X N scope C s H ex) ifs tt) (he:∀C s H ex,PE (Ou X N scope C s H ex) elt te)
  (RJ:Qv (.ListComp elt [⟨tg,d,ifs,0⟩] scope pos) (bD (.Name y k)) QG.line X.env=pure b6:=by rfl)
  (hs:∀x,Cd d X.env x=pure x:=by intro _;rfl):PS X (.Assign [.Name y k] (.ListComp elt [⟨tg,d,ifs,0⟩] scope pos) QG) (ym (sv ⇑n wi g tt te) (kU i)):=by
 intro pins s σ H D I h;rw[exec_Assign_Name_used _ _ _ _ RJ];show cL (Z9 (cL ?_));change f6 _ X.A (do let _ <-comprehension (.ListComp elt [⟨tg,d,ifs,0⟩] scope pos) scope X.env _ (newList []) cK (p8 d X.env) (bD (Vj (.Name y k) X.env))) _ _ s;show cL (lg (VX (use:=bD (Vj (.Name y k) X.env)) (cl:=cH X.env scope.names []) (Q:=λ_ s'=>SP X pins D .next s') rfl hs (dF (S.cells I.ok)) S.kind S.names ?_) (λ_ s' hq=>dV (dV hq)) λ_ _ e=>e);show Ny (hi pins s σ H _ I h) λv s1 h1=>Ny h1 λVt l h2=>?_;have(it,fp,tn,J,H2,e,j,T,st2,Y,W):=h2;subst e;show ji (RR:=λq C=>compPost (gs X.prog X.w) X.A X.xe (bD (Vj (.Name y k) X.env)) (λ_ s'=>SP X pins D .next s') q C) S hg hf he j (λC=>T.at rfl rfl rfl hc) st2 Y W ?_;intro f C m r ys J' hD hC t n5 TV TX TY q5;have(m5,VI,_):=t.loc;have u:r C=cb:=t.free;have B:Inv X pins σ (upd r f (.lst ys)) {m with heap:=m.heap}:=mV j t (Ux hD.symm) ⋯ (i9 (by change @LT.lt Nat _ f C;lia)) n5 TV TX TY (YZ ..) Y;change f6 _ X.A (Vj (.Name y k) X.env (.ref f)) _ _ m;show ė (oR (s:=m) B hN WZ (.inl O) (show RelV (.ref f) (.ref f) from rfl) (λs6 I6 ⟨a,sb,ha⟩=>?_) (.inr O));have WY:@LT.lt Nat _ X.env.locals C:=by have:@LT.lt Nat _ X.env.locals ↥l:=j.lt;lia
 have Rb:∀x c,X.env.cells.lookup x≈c->c≠C:=λx c e=>by
  have(v,z):=j.cell x c e;have:@LT.lt Nat _ c ↥l:=z.lt
  grind
 have G:C≠a:=by
  rcases ha with z|z
  .rw[z];show DD WY
  .show(Rb _ _ z).symm
 show#[m5,VI.sameBut sb G,λh' L=>?_];show#[σ.set i (bD (.ref f)),upd r f (.lst ys),I6.turned (it:=C) (t':=s6.toks) (λb o hb e=>(L.2 b hb).trans e) ?_ (DD WY) (.inr (by have:@LE.le Nat _ ↥X.s₀ ↥l:=j.sz;lia)) Rb (λp hp=>?_),q5 f n5]
 .rw[ai (DD ⋯)];show u
 .have:@LT.lt Nat _ p.1 ↥l:=hW (j.pin p hp).1
  grind
abbrev Yx(x:Str):It:=#[λi _=>i<⇑x.cps.toList,λi H v H'=>H'=H/\∃c,(~~~x)[i]?≈c/\v=.str #[#v[c]],λi _=>⇑x.cps.toList<=i]
def sy{K}(it)(B:["enumerate","zip","dict_itemiterator","dict_reverseitemiterator","odict_iterator","itertools.zip_longest","itertools.pairwise"].contains ty=cK)
  (C:∀A (s:i4) i c Q E,s.heap.IsStrIter it ty x t i->x.cps[i]?≈c->(∀h',h'.IsStrIter it ty x t (i+1)->tE it s.heap h'->Q (bD (.str #[#v[c]] s.toks)) {s with heap:=h',toks:=s.toks+1})->f6 (gs P w) A (Ts (.ref it)) Q E s)
  (D:∀A s i Q E,A.handled=cb->s.heap.IsStrIter it ty x t i->x.cps[i]?=cb->(∀h',Wo it s.heap h'->Q cb {s with heap:=h' })->f6 (gs P w) A (Ts (.ref it)) Q E s)
  (G:∀A i s Q E,s.heap.IsStrIter it ty x t i->Q (.ref it) s->f6 (gs P w) A (YW (.ref it)) Q E s) :
  Turn P w K tg (Yx x) [it] it (λi h=>h.IsStrIter it ty x t i) where
 mem:=⋯
 obj:=λi h st b a=>by
  have e:b=it:=by exists a
  subst e;have(o,e,c,d):=st;simp_all
 keep:=λi h h' st k=>let ⟨o,ho,r⟩:=st;⟨o,k it ⋯ o ho,r⟩
 item:=by
  intro X g j l y i pins s σ H E I f st m;subst g j l;have(n,p,J,q,u,v):=f it ⋯;have z:i<⇑x.cps.toList:=m;show C X.A s i (~~~x)[i] _ _ st ⋯ λh' st' L=>?_;have N:Inv X pins σ H {s with heap:=h',toks:=s.toks+1}:=I.turned (λb o a e=>(L.2 b a).trans e) n p q u v;have(o,e,O,d):=id st';show#[_,rfl,rX  e O d B #[.str _,H,N,#[_,rfl],#[rfl,_,by simp,rfl],st',λb a=>(f b a).1]]
 done:=by
  intro X g j l y i pins s σ H E I f st m;subst g j l;have(n,p,J,q,u,v):=f it ⋯;have z:⇑x.cps.toList<=i:=m;show D X.A s i _ _ (I.ok.hd y) st (by exists z) λh' T=>#[rfl,I.turned (t':=s.toks) (λb o a e=>T b o a e) n p q u v]
 self:=λA i s Q E st h=>G A i s Q E st h
abbrev MR(tl:TE):TI:=λσ H R=>tl σ H λv a=>∃x,v=.str x/\R (Yx x) a
def HK(hl:PE X l tl):PI X tg l (MR tl):=by
 intro pins s σ H R I h;show Ny (hl pins s σ H _ I h) λv s1 n=>?_;have(x,g,f,p,r):=n;have(z,rfl,q):=r;have(t,rfl):=p;have k:∀b∈[↥s1],gJ X pins g b:=λb u=>by
  have e:=by exists u
  subst e;show f.yn (hY _) (f.Nr.fresh (hY _))
 cases m:z.cps.all (·<128) with
 |true =>
  show wpAny_pyIter_ascii m ?_;show#[_,_,_,_,g,rfl,f.kept (t':=s1.toks) λb o e=>dt _ e,
   sy (x:=z) (t:=t) _ ⋯ (λA s i c Q E st d a=>wpAny_pyNext_ascii_item st d a) (λA s i Q E j st d a=>wpAny_pyNext_ascii_end j st d a) (λA i s Q E st a=>wpAny_pyIter_striter_ascii st a),
   #[_,gj _ rfl,rfl,rfl],k,q]
 |false =>
  show wpAny_pyIter_wide m ?_;show#[↥s1,_,_,_,g,rfl,f.kept (t':=s1.toks) λb o e=>dt _ e,
   sy (x:=z) (t:=t) _ ⋯ (λA s i c Q E st d a=>wpAny_pyNext_wide_item st d a) (λA s i Q E j st d a=>wpAny_pyNext_wide_end j st d a) (λA i s Q E st a=>wpAny_pyIter_striter_wide st a),
   #[_,gj _ rfl,rfl,rfl],k,q]
abbrev KO:V->Option Int->Option Int->Hp->VK->Prop:=λx lo hi H Q=>∃z,x=.str z/\⇑z<=c8/\Q (.str (PySem.StrLaws.sliceText z lo hi)) H
def oF(x)(lo hi)(hz:⇑x<=c8):⇑(PySem.StrLaws.sliceText x lo hi)<=c8:=qv (Txt.slice_le x lo hi) hz
def HL:RF X KO:=by
 intro pins s σ H x v g m lo hi n Q I e hs f c h;have(z,rfl,hz,q):=h;have(t,rfl):=e;show#["str",_,slot_str_getitem.lookup,Q' _ _ _,?_];have a:⇑(PySem.StrLaws.sliceText z lo hi)<=c8/\∀t' k,EP X pins σ Q (.str _ t') _:=#[oF z lo hi hz,λt' k=>#[.str _,H,I.tok k,#[_,rfl],q]]
 cases f with
 |none =>
  cases c with
  |none=>show SI (l:=cb) (u:=cb) (st:=cb) hs rfl (Xa a)
  |int j b=>show SI (l:=cb) (u:=bD (j,b)) (st:=cb) hs rfl (Xa a)
 |int i d =>
  cases c with
  |none=>show SI (l:=bD (i,d)) (u:=cb) (st:=cb) hs rfl (Xa a)
  |int j b=>show SI (l:=bD (i,d)) (u:=bD (j,b)) (st:=cb) hs rfl (Xa a)
def sA:TL X "str.endswith" (λx xs H Q=>∃a b,x=.str a/\xs=[.str b]/\Q (.bl (İ a b)) H):=by
 intro pins s σ H x xs v us Q I c rs h;have(a,b,rfl,rfl,q):=h;have(t,rfl):=c;have(u,rfl,t',rfl):=vals1 rs;show SC.endswith #[.bl _,H,I,rfl,q]
def qy:TL X "str.partition" (λx xs H Q=>∃a b,x=.str a/\xs=[.str b]/\(⇑b==0)=cK/\⇑a<=c8 /\
  ∀p,H p=cb->Q (.ref p) (upd H p (.tup [.str (ko a b).1,.str (ko a b).2.1,.str (ko a b).2.2]))):=by
 intro pins s σ H x xs v us Q I i rs h;have(a,b,rfl,rfl,j,hz,q):=h;have(t,rfl):=i;have(u,rfl,t',rfl):=vals1 rs;show Rh F.slot_str_partition (Q' _ _ _) F.entry_str_partition (F.args_str_partition_2 _ _) (meets_str_partition a b t t' j hz) ?_;have l:H ↥s=cb:=I.Nr.fresh (hY _);have m:=q _ l;have c:∀(d f g:Tok) (k:Nat),EP X pins σ Q (.ref ↥s) {s with toks:=k,heap:=s.heap.push {cls:=.type "tuple",data:=.seq _}}:=λd f g k =>
  #[.ref ↥s,_,I.laid (t':=k) (o:=.tup [.str (ko a b).1,.str (ko a b).2.1,.str (ko a b).2.2]) (λb u e=>dt _ e) (hY _)
   ⟨by change 3<=c8;decide,_,.cons ⟨d,rfl⟩ (.cons #[f,rfl] (.cons #[g,rfl] .nil)),⟨_,gj _ rfl,rfl,_,rfl⟩⟩,rfl,m]
 revert c;unfold ko;cases ti a b 0 ⇑a 1 with
 |_=>intro c;show c _ _ _ _
theorem ph:∀l,Vals (l.map λp=>V.str p.1) (Ì l)
 |[]=>.nil
 |(x,t)::r=>.cons #[t,rfl] (ph r)
theorem fX:∀{ys}{a},Vals (ys.map V.str) a->∃l,a=Ì l/\l.map (·.1)=ys
 |[],_,.nil=>#[[],rfl,rfl]
 |y::ys,_,.cons r t=>by
  have(tk,rfl):=r;have(l,rfl,e):=fX t;show#[(y,tk)::l,rfl,by simp_all]
def AK:TL X "str.split" (λx xs H Q=>∃a b,x=.str a/\xs=[.str b]/\(⇑b==0)=cK/\⇑a+2<=c8 /\
  ∀p,H p=cb->Q (.ref p) (upd H p (.lst ((G' a b).map V.str)))):=by
 intro pins s σ H x xs v us Q I i rs h;have(x,y,rfl,rfl,g,hz,q):=h;have(t,rfl):=i;have(u0,rfl,u,rfl):=vals1 rs;have d:=I.Nr.fresh (hY _);have j:=q _ d;have c:∀(l:↑(Str×Tok)) (k:Nat),⇑l<=c8->l.map (·.1)=G' x y->EP X pins σ Q (.ref ↥s) {s with toks:=k,heap:=s.heap.push {cls:=.type "list",data:=.seq (Ì l).toArray}}:=λl k hl e =>
  #[.ref ↥s,_,I.laid (t':=k) (o:=.lst ((G' x y).map V.str)) (λb u e=>dt _ e) (hY _)
   ⟨by rw[<-e,ei,ei];show hl,Ì l,_,by rw[<-e,i8];show ph l,gj _ rfl⟩,rfl,j]
 have one:1<=c8:=⋯
 cases f:(df (⇑x<⇑y)||decide (YO x<YO y))
 .cases d:(ti x y 0 ⇑x (⇑x+1)).isEmpty
  .have hn:⇑(T8 x (ti x y 0 ⇑x (⇑x+1)) ⇑y)<=c8:=by
    have:=PySem.StrLaws.occ_length_le x y 0 ⇑x (⇑x+1);erw[T8,ei,Yw,k9,mx];lia
   show Rh YG (Q' _ _ _) Ym (X_ _ _) (meets_str_split_sep x y t u f g d ⋯ hn) ?_;rw[strsFrom_eq];show c (numbered s.toks _) _ ?_ ((ň _ _).trans ((Ś (ne_true_of_eq_false f)).trans (Ś (ne_true_of_eq_false d))).symm);have e:=ş NX (ň s.toks (T8 x (ti x y 0 ⇑x (⇑x+1)) ⇑y));simp_all
  .show Rh YG (Q' _ _ _) Ym (X_ _ _) (meets_str_split_not_found x y t u f g d)
    (c [(x,t)] _ one ((Ś (ne_true_of_eq_false f)).trans (ř d)).symm)
 .show Rh YG (Q' _ _ _) Ym (X_ _ _) (meets_str_split_cannot_occur x y t u f)
   (c [(x,t)] _ one (ř f).symm)
def D5:TL X "str.join" (λx xs H Q=>∃a p ys,x=.str a/\xs=[.ref p]/\N5 X.K H p (ys.map V.str)/\Vn a ys=b6/\Q (.str (ri a ys)) H):=by
 intro pins s σ H x xs v us Q I b rs h;have(a,p,ys,rfl,rfl,c,d,q):=h;have(t,rfl):=b;have(u,rfl,r):=vals1 rs;cases r;have(g,rv,f,hz):=I.list c;have(l,rfl,e):=fX rv;show SC.join f.isList e d λt' k=>#[.str _,H,I.tok k,#[_,rfl],q]
theorem lh:∀{bs:↑Bool}{a},Vals (bs.map V.bl) a->a=bs.map Uu
 |[],_,.nil=>rfl
 |b::bs,_,.cons r t=>by
  cases r;rw[lh t];rfl
def AL:X.calm=b6->gD X (.builtin "all") (λxs H Q=>∃(p:hH) (bs:↑Bool),xs=[.ref p]/\N5 X.K H p (bs.map V.bl)/\Q (.bl (bs.all id)) H):=by
 intro f pins s σ H xs us Q I rs h;have(p,bs,rfl,g,q):=h;have(u,rfl,r):=vals1 rs;cases r;have(k,rv,a,hz):=I.list g;have e:=lh rv;subst e;have j:p<↥s:=by have(_,_,e,_):=a;show hW e
 show call_all_walk (VJ a.isList ?_);show#[_,_,_,_,_,_,λi=>(bs[i]?).getD b6,rfl,į (A:=X.A.in1) (I.ok.hd f) _ p (i9 j) _,
  #[#[_,gj _ rfl,rfl,rfl],a.isList.push _],λi v l m n o d=>?_,λh' tk hk=>?_]
 .have c:(bs.map Uu)[i]?≈v:=⋯
  rw[sg]at c;cases e:bs[i]? with
  |none=>simp_all
  |some b =>
   rw[e]at c;cases c;erw[e]at d;show q9 d
 .have e:((ib (bs.map Uu).toArray.size).all λi=>(bs[i]?).getD b6)=bs.all id:=by
   rw[mu,ei];show Ă bs
  rw[e];show#[.bl _,H,I.kept (t':=tk) (ă hk),rfl,q]
abbrev D6(N a:↑Str)(scope:uk)(out:↑(Str×ø)):Bool :=
 df (scope.kind=.function)&&scope.names.all (λy=>df (scope.names.lookup y.1≈y.2))&&scope.names.all (λy=>df (y.2≠.cell)||decide (y.1∈a))&&decide N.Nodup&&df (N.take ⇑a=a) &&
 scope.names.all (λy=>df (y.2≠.local)||decide (y.1∈a)||decide (y.1=".0"))&&df ((".0":Str)∉N)&&scope.names.all (λy=>df (y.2≠.free)||decide (out.lookup y.1≈.cell)||decide (out.lookup y.1≈.free))&&scope.names.all (λy=>df (y.1≠".")&&df (y.1≠".."))
def uY(hn:X.env.scope.names=out)(c:fw (N.drop ⇑a) X.N)(h:D6 N a scope out=b6):de X N a scope:=by
 unfold D6 at h;erw[cc,lx,Rv,Ř]at h;obtain⟨⟨⟨⟨⟨⟨⟨⟨d,f⟩,g⟩,i⟩,j⟩,k⟩,l⟩,m⟩,n⟩:=h;show#[d,f,λy b e=>?_,i,j,λy b e=>?_,l,c,λy b e=>?_,n]
 .rcases g y b with z|z
  .show absurd e z
  .show z
 .rcases k y b with(z|z)|z
  .show absurd e z
  .show .inl z
  .show .inr z
 .rw[hn];rcases m y b with(z|z)|z
  .show absurd e z
  .show .inl z
  .show .inr z
inductive AM(prog:sd)(w:wk)(h:K2)(k:Str×↑Str)(a:hH):Prop
 |mk:∀o n t b,h.get? a≈o->o.cls=.type "tuple"->o.data=.seq #v[.str k.1 t,.ref b] n->IsTupleKey (PySem.strKind prog w) h k.2 b->AM prog w h k a
abbrev PH(a b:Str):Bool:=!df ((~~~b)<(~~~a))
def lZ(a b):PH a b=b6↔(~~~a)<=(~~~b):=by
 erw[PH,mN,Ş];rfl
def pk(a b c)(d:PH a b=b6)(e:PH b c=b6):PH a c=b6:=by
 rw[lZ]at d e ⊢;show List.le_trans d e
def yG(a b):(PH a b||PH b a)=b6:=by
 rw[Rv,lZ,lZ];show List.le_total _ _
def AN{x y:Str}(h:(~~~x)=(~~~y)):x=y:=by
 cases x;simp_all
def qz(c:PH a b=b6)(d:PH b a=b6):a=b:=by
 rw[lZ]at c d;show AN (List.le_antisymm c d)
abbrev b_(l:↑Str):↑Str:=l.mergeSort PH
def dg(l):(b_ l).Perm l:=List.mergeSort_perm l PH
def mW(l):(b_ l).Pairwise (λa b=>PH a b=b6):=List.pairwise_mergeSort pk yG l
theorem jJ:∀l p,risingS p l=b6->(p::l).Pairwise (λa b=>PH a b=b6)
 |[],p,_=>by simp
 |x::r,p,h=>by
  have h':=h;have(d,g):=n7.mp h';have f:=jJ r x g;have c:PH p x=b6:=by rw[ltCps_eq]at d;show d
  show UB.mpr #[λy i=>?_,f];rcases eT.mp i with e|e
  .rw[e];lia
  .show pk _ _ _ c ((UB.mp f).1 y e)
def qA(h:sortedS l=b6):l.Pairwise (λa b=>PH a b=b6):=by
 cases l with
 |nil=>simp
 |cons x r=>show jJ r x h
theorem kA:∀{l m:↑Str},l.Perm m->l.Pairwise (λa b=>PH a b=b6)->m.Pairwise (λa b=>PH a b=b6)->l=m
 |[],m,c,_,_=>(List.Perm.nil_eq c)
 |x::l,m,c,f,g=>by
  cases m with
  |nil=>simp_all
  |cons y m =>
   have(h,i):=UB.mp f;have(b1,j):=UB.mp g;have d:x=y:=by
    have m1:=c.mem_iff.mp il;have m2:=c.mem_iff.mpr il;rcases eT.mp m1 with e|e
    .show e
    .rcases eT.mp m2 with e'|e'
     .show e'.symm
     .show qz (h y e') (b1 x e)
   subst d;rw[kA (List.Perm.cons_inv c) i j]
def AO(a:l.Perm m)(hs:sortedS l=b6):l=b_ m:=kA (a.trans (dg m).symm) (qA hs) (mW m)
def sC(a:l.Perm m):b_ l=b_ m:=kA ((dg l).trans (a.trans (dg m).symm)) (mW l) (mW m)
def jK(l):⇑(b_ l)=⇑l:=(dg l).length_eq
theorem eV:∀{ys}{a},Vals (ys.map V.str) a->VU a ys
 |[],_,.nil=>.nil
 |y::ys,_,.cons r t=>by
  have(tk,rfl):=r;show .cons y tk (eV t)
theorem fY:∀{a}{ys},VU a ys->Vals (ys.map V.str) a
 |_,_,.nil=>.nil
 |_,_,.cons x t h=>.cons #[t,rfl] (fY h)
theorem jj(hc:f6 (gs prog w) A.in1 (Ĝ x) (λvs s1=>∃ss,VU vs ss/\vs.length<64 /\
      ∀h' NZ e,(∀b o,s1.heap.get? b=bD o->h'.get? b=bD o)->h'.get? s1.heap.objs.size=bD (u5 "list" NZ.toArray e)->VU NZ (b_ ss)->Q (.ref s1.heap.objs.size) {s1 with heap:=h' }) E s) :
    f6 (gs prog w) A (Qo (.builtin "sorted") [x]) Q E s:=by
  refine YN kind_sorted plain_sorted entry_sorted (args_sorted1 _) ?_;unfold Ru.«sorted»;refine cL (m:=checkCount "sorted" 1 1 _) (dV ?_);refine cL (lg hc (λvs s1 h1=>?_) λ_ _ e=>e);obtain⟨ss,hS,R9,h⟩:=h1
  refine wpAny_bind (wpAny_newList ?_ (by have : (64 : Nat) ≤ sizeLine := by decide
                                          lia))
  have R4:(s1.heap.push (u5 "list" vs.toArray 0)).get? s1.heap.objs.size=bD (u5 "list" vs.toArray 0):=gj _ rfl;show f6 _ _ _ _ _ {s1 with heap:=s1.heap.push (u5 "list" vs.toArray 0)};refine cL (tv (tj slot_list_sort ⟨_,R4,rfl⟩ entry_list_sort (list_sort_treeK strKind_oneLt R4 hS.keysOf (λv₁ v₂ rest e=>keyKind_strs (by rw[<-e];exact hS)) R9 λst' a1 a2=>⟨_,rfl,?_⟩) (Ŗ _)));obtain⟨Qc,b1,b2,b3⟩:=sorted_out_str hS a1 a2;obtain⟨e,he⟩:=sortedHeap_at (out:=(arrOf st').map (·.2)) R4;rw[AO b2 b3]at b1;refine dV ⟨_,rfl,h _ ((arrOf st').map (·.2)).toList e (λb o q=>?_) (by rw[Wn];exact he) b1⟩;have Oa:b<s1.heap.objs.size:=hW q;show(Ď (s1.heap.push (u5 "list" vs.toArray 0)) s1.heap.objs.size vs ((arrOf st').map (·.2))).get? b=bD o;rw[œ (i9 Oa) (by rw[Yn];exact Sf Oa)];exact dt _ q
def oG(hl:Yc s.heap l vs.toArray)
  (h:Q vs {s with heap:=(s.heap.push (u5 "list" #v[] 0)).update ↥s (rS (·++vs.toArray))}) (hsz:⇑vs<=c8) :
  f6 (gs prog w) A (Ĝ (.ref l)) Q E s:=by
 have(o,ho,b,n,c):=id hl;unfold Ĝ;show cL (XI (tA entry_proto_collect' ?_));show cL (Z_ (dV #[XC _ (by decide +kernel),tA entry_list_iadd' ?_]));change f6 _ _ (O9 (.ref ↥s) (.ref l) (.ref ↥s)) _ _ {s with heap:=s.heap.push (u5 "list" #v[] 0)};unfold O9;have a:(s.heap.push (u5 "list" #v[] 0)).get? l≈o:=dt _ ho;show cL (UO (T:="tuple") #[o,a,b] ?_);rw[ř ⋯];show cL (Ý a c ?_);show cL (Ý (xs:=#v[]) (n:=0) (gj _ rfl) rfl ?_);rw[Ś ⋯];show cL (Yb (xs:=#v[]) (n:=0) (gj _ rfl) rfl ?_ (kj _) (by grind));show dV ?_;show cL (Ą (ł (gj _ rfl) _) ?_);change f6 _ _ (pure ((#v[]:Array g8)++vs.toArray).toList) Q E _;rw[show((#v[]:Array g8)++vs.toArray).toList=vs by simp];show dV h
def oH{h:K2}{vs:↑g8}(e:h.get? b≈o):((h.push (u5 "list" #v[] 0)).update h.objs.size (rS (·++vs.toArray))).get? b≈o:=by
 rw[Ç _ _ _ _ (i9 (hW e))];show dt _ e
def sD(I:Inv X pins σ H s)(k1:∀b o,s.heap.get? b≈o->s1.heap.get? b≈o)(g:∃c a,s1={s with heap:=c,toks:=a})
  (hk:∀b o,s1.heap.get? b≈o->h'.get? b≈o) (h:h'.get? ↥s1≈u5 "list" d.toArray e) (i:VU d (b_ ss)) (hsz:↥s<=↥s1) (hl:⇑ss<=c8)
  (q:∀p,H p=cb->Q (.ref p) (upd H p (.lst ((b_ ss).map V.str)))):EP X pins σ Q (.ref ↥s1) {s1 with heap:=h' }:=by
 have(c,a,rfl):=g;have f:=I.kept (t':=a) k1;show#[.ref _,_,f.laid  (o:=.lst _) hk (hY _) #[by rw[ei,jK];show hl,d,e,fY i,h],rfl,q _ (f.Nr.fresh (hY _))]
def lj:gD X (.builtin "sorted") (λxs H Q=>∃p ys,xs=[.ref p]/\(N5 X.K H p (ys.map V.str)\/Oc X.K H p (ys.map V.str))/\⇑ys<64/\∀q,H q=cb->Q (.ref q) (upd H q (.lst ((b_ ys).map V.str)))):=by
 intro pins s σ H xs us Q I rs h;have(p,ys,rfl,hq,j,q):=h;have(u,rfl,r):=vals1 rs;cases r;have hl:⇑ys<=c8:=Q_ (jn j ⋯);have d:∀(a:↑g8),Vals (ys.map V.str) a->∀(h':K2) (c:↑g8) (e:Nat),(∀b o,((s.heap.push (u5 "list" #v[] 0)).update ↥s (rS (·++a.toArray))).get? b≈o->h'.get? b≈o) ->
   h'.get? ((s.heap.push (u5 "list" #v[] 0)).update ↥s (rS (·++a.toArray))).objs.size≈u5 "list" c.toArray e->VU c (b_ ys) ->
   EP X pins σ Q (.ref ((s.heap.push (u5 "list" #v[] 0)).update ↥s (rS (·++a.toArray))).objs.size) {s with heap:=h' }:=λa rv h' c e hk f g =>
  sD (s1:={s with heap:=(s.heap.push (u5 "list" #v[] 0)).update ↥s (rS (·++a.toArray))}) I (λb o z=>oH z) ⟨_,s.toks,rfl⟩ hk f g ⋯ hl q
 rcases hq with hq|hq
 .have(a,rv,i,hz):=I.list hq;have k:⇑a=⇑ys:=by rw[<-⇑rv,ei]
  show jj (collect_list i.isList #[ys,eV rv,⋯,λh' c e hk f g=>d a rv h' c e hk f g] ⋯)
 .have(a,rv,i,hz):=I.tuple hq;have k:⇑a=⇑ys:=by rw[<-⇑rv,ei]
  show jj (oG i #[ys,eV rv,⋯,λh' c e hk f g=>d a rv h' c e hk f g] ⋯)
@[reducible]noncomputable def sK(P:sd)(w:wk):=PySem.strKind P w
inductive jL(P:sd)(w:wk)(h:K2)(a:hH)(led:Bool)(D:↑Str):Prop
 |mk:∀(L:↑(Str×Tok)) (es:Array (Int×g8)) (ep:Nat) (t:SetTable),h.get? a≈{cls:=.type "set",dict:=cb,data:=.set es ep t}->es.toList=L.map (λp=>((sK P w).hash p.1,y6 p.1 p.2))->(L.map (·.1)).Perm D->D.Nodup->t.fits es.size=b6->es.size<SM->t.led=led->(es.size=0\/t.plain=cK)->jL P w h a led D
def jL.at(c:jL prog w h a b D)(k:∀o,h.get? a≈o->h'.get? a≈o):jL prog w h' a b D :=
 let ⟨L,es,ep,t,d,e,f,g,i,j,l,m⟩:=c;⟨L,es,ep,t,k _ d,e,f,g,i,j,l,m⟩
def AQ{L:↑(Str×Tok)}:ElemsOf (sK prog w) (L.map λp=>((sK prog w).hash p.1,y6 p.1 p.2)):=by
 intro e a;have(p,_,rfl):=j0.mp a;show#[#[p.1,by simp[PySem.strKind,Xw],rfl],rfl]
def wX(x y)(t):(sK prog w).is x (.str y t)=df (x=y):=by
 rw[rD];simp[PySem.strKind,Xw];show#[λh=>h.symm,λh=>h.symm]
def uZ(t)(es)(h)(x):(layNew t es h x).2.1.led=t.led:=by
 unfold layNew;split
 .change(Zf _ _).led=t.led;unfold Zf;split<;>rfl
 .rfl
def qB(t)(es)(n):(Wg t es n).2.1.led=t.led:=by
 unfold Wg;split
 .rename_i t' b a;have:t'.led=t.led:=by
   unfold Å Ö at a;cases c:ZA _ _ with
   |none=>rw[c]at a;cases a
   |some o=>rw[c]at a;cases a;rfl
  dsimp only
  split
  .lia
  .rfl
 .rfl
def mX(t)(es)(n)(h:t.plain=cK):(Wg t es n).2.1.plain=cK:=by
 unfold Wg;split
 .rename_i t' b a;have:t'.plain=t.plain:=by
   unfold Å Ö at a;cases c:ZA _ _ with
   |none=>rw[c]at a;cases a
   |some o=>rw[c]at a;cases a;rfl
  dsimp only
  split
  .rw[this];show h
  .rfl
 .rfl
def mY(h:l.Perm (L.map λp=>((sK prog w).hash p.1,y6 p.1 p.2))):∃a:↑(Str×Tok),l=a.map (λp=>((sK prog w).hash p.1,y6 p.1 p.2))/\a.Perm L:=by
 have all:∀e∈l,∃p:Str×Tok,e=((sK prog w).hash p.1,y6 p.1 p.2):=λe b=>by
  have(p,_,rfl):=j0.mp (h.mem_iff.mp b);show#[p,rfl]
 have ex:∀l:↑(Int×g8),(∀e∈l,∃p:Str×Tok,e=((sK prog w).hash p.1,y6 p.1 p.2))->∃a:↑(Str×Tok),l=a.map (λp=>((sK prog w).hash p.1,y6 p.1 p.2)):=by
  intro l;induction l with
  |nil=>intro _;show#[[],rfl]
  |cons e l d =>
   intro c;have(p,rfl):=c e il;have(a,rfl):=d λe b=>c e (f7 _ b);show#[p::a,rfl]
 have(a,rfl):=ex l all;show#[a,rfl,?_];have g:(a.map λp=>((sK prog w).hash p.1,y6 p.1 p.2)).map (λe=>match e.2 with|.str x t=>(x,t)|_=>(nH,0))=a:=by
  rw[i8];show ĸ _
 have f:(L.map λp=>((sK prog w).hash p.1,y6 p.1 p.2)).map (λe=>match e.2 with|.str x t=>(x,t)|_=>(nH,0))=L:=by
  rw[i8];show ĸ _
 have:=h.map (λe=>match e.2 with|.str x t=>(x,t)|_=>(nH,0));rw[g,f]at this;lia
def u6(hS:jL prog w s.heap a l D)(SY:⇑D+1<SM)
  (h:∀h',tE a s.heap h'->jL prog w h' a l (if x∈D then D else D++[x])->Q (df (x∉D)) {s with heap:=h' }) :
  f6 (gs prog w) A (setAddHashed a (.str x tk) ((sK prog w).hash x)) Q E s:=by
 have(L,es,ep,t,ho,u,I,NI,O,hb,T,OG):=hS;have TH:(sK prog w).is x (.str x tk)=b6:=by rw[wX];simp
 have v:ElemsOf (sK prog w) es.toList:=by rw[u];show AQ
 have y:es.size=⇑D:=by rw[<-p7,u,ei,<-ei (f:=Prod.fst) (as:=L),I.length_eq]
 unfold setAddHashed setAddHashedIn;show tv (cL (wpAny_setState_of ho rfl O ?_))
 dsimp only
 rw[byScan_of (knd:=sK prog w) rfl hb v];simp only[↓reduceIte];unfold setAddByScan;show cL ?_;show cL (P5 ?_);show cL (wpAny_setScan_of (knd:=sK prog w) TH ho rfl O v ?_);have i:(∃e∈es.toList,(sK prog w).is x e.2=b6)↔x∈D:=by
  rw[u,<-I.mem_iff,j0];constructor
  .rintro⟨e,Y,hi⟩;have(p,k,rfl):=j0.mp Y;rw[wX,Ř]at hi;show#[p,k,hi.symm]
  .rintro⟨p,k,e⟩;show#[_,j0.mpr #[p,k,rfl],by rw[wX];simp[e]]
 cases hr:Ē (λe=>(sK prog w).is x e.2) es.toList with
 |some j =>
  dsimp only
  have(hj,ab,_):=List.findIdx?_eq_some_iff_getElem.mp hr;have r:x∈D:=i.mp #[es.toList[j],F1 hj,ab];show dV (dV ?_);have e:s={s with heap:=s.heap}:=by cases s;rfl
  have:=h s.heap (YZ a s.heap) (by rw[ř r];show#[L,es,ep,t,ho,u,I,NI,O,hb,T,OG]);rw[ś (λz=>z r)]at this;rw[e];show this
 |none =>
  dsimp only
  have r:x∉D:=λr=>by
   have(e,Y,k):=i.mpr r;have:=List.findIdx?_eq_none_iff.mp hr e Y;rw[k]at this;show Bool.noConfusion this
  have ac:∀(b:Bool) {m:i4} {n:Unit->i4->Prop},n () m->f6 (gs prog w) A (match b with|true=>Ċ "set.scan.the-table-gave-way"|false=>pure ()) n E m :=
   λb m n o=>by cases b<;>first|show dV o|show P5 o
  have B:=layNew_perm t es ((sK prog w).hash x) (.str x tk);have J:=layNew_fits t es ((sK prog w).hash x) (.str x tk);have QS:=uZ t es ((sK prog w).hash x) (.str x tk);generalize hL:layNew t es ((sK prog w).hash x) (.str x tk)=NL at B J QS ⊢;have(c,C,Rc,a0):=NL
  dsimp only at B J QS ⊢
  rw[Array.toList_push,u,show [((sK prog w).hash x,y6 x tk)]=[(x,tk)].map (λp=>((sK prog w).hash p.1,y6 p.1 p.2)) from rfl,<-mn]at B;have(L1,e1,al):=mY B;have TZ:c.size=⇑D+1:=by rw[<-p7,B.length_eq,ei,mx,<-y,<-p7,u,ei];rfl
  have UT:c.size<SM:=⋯
  have S5:(L1.map (·.1)).Perm (D++[x]):=(al.map _).trans (by rw[mn];show I.append_right _);have G:(D++[x]).Nodup:=by
   rw[my]
   grind
  show cL (ac _ ?_);have Sa:∀h',tE a s.heap h'->jL prog w h' a l (D++[x])->Q b6 {s with heap:=h' }:=λh' sb hs=>by
   have:=h h' sb (by rw[Ś r];show hs);rw[ŝ r]at this;show this
  have q:∀(g:Bool->Sem Unit),(∀(b:Bool) (m:i4) (n:Unit->i4->Prop),n () m->f6 (gs prog w) A (g b) n E m)->∀(R:Option Bool->i4->Prop),(∀h',tE a s.heap h'->jL prog w h' a l (D++[x])->R (bD b6) {s with heap:=h' })->∀d:SetTable,d.fits c.size=b6->d.led=l->d.plain=cK->f6 (gs prog w) A (do
    storeSet a c d
    if (!Rc&&d.tooFull)=b6 then do
      g (Wg d c (N8 c.size)).2.2
      storeSet a (Wg d c (N8 c.size)).1 (Wg d c (N8 c.size)).2.1
      pure (bD b6)
     else pure (bD b6)) R E s:=by
   intro g hg R hR d am Qt VL;show cL (ĕ ho rfl ?_ (ě UT));have VM:(s.heap.update a (V6 c d)).get? a≈{cls:=.type "set",dict:=cb,data:=.set c (ep+1) d}:=by
    have:=ro (V6 c d) ho rfl;show this
   have VN:=wh s.heap a (V6 c d);split
   .have k:=relayAll_perm d c (N8 c.size);have Qd:=relayAll_fits d c (N8 c.size);have S6:=qB d c (N8 c.size);have YA:=mX d c (N8 c.size) VL;generalize YB:Wg d c (N8 c.size)=Rl at k Qd S6 YA ⊢;have(H,N,an):=Rl
    dsimp only at k Qd S6 YA ⊢
    rw[e1]at k;have(L2,e2,ap):=mY k;have hsz:H.size=c.size:=by rw[<-p7,k.length_eq,<-e1,p7]
    show cL (hg _ _ _ ?_);show cL (ĕ VM rfl ?_ (ě ⋯));have T1:((s.heap.update a (V6 c d)).update a (V6 H N)).get? a≈{cls:=.type "set",dict:=cb,data:=.set H (ep+1+1) N}:=ro (V6 H N) VM rfl;show dV (hR _ (VN.trans (wh _ a _)) #[L2,H,_,N,T1,e2,(ap.map _).trans S5,G,Qd,⋯,S6.trans Qt,.inr YA])
   .show dV (hR _ VN #[L1,c,_,d,VM,e1,S5,G,am,UT,Qt,.inr VL])
  split
  .rename_i k;show cL ?_;rw[hashByValue_scannable 8 rfl];show dV ?_;have ep:(if plainKind (y6 x tk)=b6 then C else {C with plain:=cK})={C with plain:=cK}:=rfl;rw[ep];show q _ ?_ _ ?_ {C with plain:=cK} (SetTable.fits_plain_off J) (QS.trans T) rfl
   .intro b m n o;cases b<;>first|show dV o|show P5 o
   .intro h' Sb Qe;dsimp only;show dV (Sa h' Sb Qe)
  .rename_i k;show cL (dV ?_);simp only[↓reduceIte];show q _ ?_ _ ?_ C J (QS.trans T) (Bool.eq_false_iff.mpr k)
   .intro b m n o;cases b<;>first|show dV o|show P5 o
   .intro h' Sb Qe;dsimp only;show dV (Sa h' Sb Qe)
abbrev fF(D:↑Str)(x:Str):↑Str:=if x∈D then D else D++[x]
abbrev bV(l:↑Str):↑Str:=l.foldl fF []
def u7(h:D.Nodup):(fF D x).Nodup:=by
 unfold fF;split
 .show h
 .rw[my];show#[h,by simp,λy a z hz=>by grind]
theorem jk:∀(l D:↑Str),D.Nodup->(l.foldl fF D).Nodup/\(∀x,x∈l.foldl fF D↔x∈D\/x∈l)/\⇑(l.foldl fF D)<=⇑D+⇑l
 |[],D,h=>#[h,by simp,by simp]
 |y::l,D,h=>by
  have(a,b,d):=jk l _ (u7 h);have c:∀x,x∈fF D y↔x∈D\/x=y:=λx=>by
   unfold fF;split
   .simp_all
   .simp
  have hl:⇑(fF D y)<=⇑D+1:=by
   unfold fF;split
   .lia
   .simp
  show#[a,λx=>?_,by grind];rw[Yy,b,c,eT,or_assoc]
def u9(l)(x):x∈bV l↔x∈l:=by rw[bV,(jk l [] YP).2.1];simp
def u_(l):⇑(bV l)<=⇑l:=by have:=(jk l [] YP).2.2;simpa[bV] using this
def sE(l)(x):bV (l++[x])=fF (bV l) x:=by unfold bV;simp
def oI(a)
  (h:Q₁ (.ref ↥s) {s with heap:=s.heap.push {cls:=.type "set",dict:=cb,data:=.set #v[] 0 (.fresh 0 0 (!w.params.followText "set-order"))}}) :
  Rr (gs prog w) A (.call (.builtin "set.__new__") #[[.type "set",a],[]]) (wants Q₁ E) s:=by
 show Xv ?_;show cL (z8 (F.newCall_set_1 a) (dV #[RK F.plain_set_new _,tA F.entry_set_new ?_]));unfold Ru.«set.__new__» û;have b:=sub_set_self
 dsimp only
 wp_walk
 show wpAny_askSetting (dV ?_);show cL (wpAny_alloc (dV ?_));show dV h
def vb(c:h.get? a≈{cls:=.type "set",dict:=cb,data:=.set #v[] 0 (.fresh 0 0 b)}):jL prog w h a b [] :=
 #[[],#v[],0,_,c,rfl,.nil,YP,rfl,by decide,rfl,.inl rfl]
def sub_tuple_set:U1 (.type "tuple") (.type "set")=pure cK:=by rw[Zr];rfl
def sub_tuple_frozenset:U1 (.type "tuple") (.type "frozenset")=pure cK:=by rw[Zr];rfl
section
variable{prog:sd}{w:wk}{A:Ui}{R:Result->i4->Prop}{I:hH}{fp wr:List hH}{G:Array ZL->Array ZL->Prop}{n:Nat}{P:Nat->g8->Prop}{St:Nat->i4->Prop}
def AR(W:Č prog w A.in1 I fp wr G n P St)(t:S∉fp){SP:Nat->K2->Prop}{h0:K2}(u:∀b∈S::wr,h0.get? b=cb)
  (x:∀i h h',SP i h->(∀o,h.get? S≈o->h'.get? S≈o)->SP i h')
  (C:∀i v s Q E,i<n->P i v->SP i s.heap->(∀b o,h0.get? b≈o->s.heap.get? b≈o)->(∀b h' tk,s.toks<=tk->tE S s.heap h'->SP (i+1) h'->Q b {s with heap:=h',toks:=tk})->f6 (gs prog w) A.in1 (ĉ S v) Q E s) :
  ∀k i s,n - i=k->i<=n->St i s->SP i s.heap->(∀b o,h0.get? b≈o->s.heap.get? b≈o) ->
   (∀a,Moved (S::wr) G s a->SP n a.heap->R (.ok (.ret .none)) a) ->
   Rr (gs prog w) A (.builtin "set.update.loop" ⟨[.ref S,.ref I],[]⟩) R s:=by
 have d:S∉wr:=λh=>t (W.sub _ h);have j:∀b∈wr,b∈S::wr:=λb f=>f7 _ f;intro k;induction k with
 |zero =>
  intro i s hk hi l m g p;have D:i=n:=⋯
  subst D;show tA U2 ?_;rw[Wd PB _];change f6 _ A.in1 (Ts (.ref I) >>= _) _ _ s;show cL (W.done s _ _ l λa c=>?_);change f6 _ A.in1 (ret oD) _ _ a;show dV (p a (c.mono j) (x _ _ _ m λ_ ho=>c.heap S _ d ho))
 |succ k H =>
  intro i s hk hi l m g p;have q:i<n:=⋯
  show tA U2 ?_;rw[Wd PB _];change f6 _ A.in1 (Ts (.ref I) >>= _) _ _ s;show cL (W.item i s _ _ q l λv a J L c=>?_);have y:∀b o,h0.get? b≈o->a.heap.get? b≈o:=λb o e=>c.heap b o (λz=>by rw[u b (j b z)]at e;cases e) (g b o e);change f6 _ A.in1 (KX [v] (ĉ S v) >>= _) _ _ a;show cL (tv (C i v a _ _ q J (x _ _ _ m λ_ ho=>c.heap S _ d ho) y λ_ h' tk B r N=>?_));show dV #[RK PB _,H (i+1) _ ⋯ q (W.frame _ a _ _ L B λb f o e=>?_) N (λb o e=>?_) λO T Y=>?_]
  .rw[r.2 b (λh:b=S=>t (by rw[<-h];show f))];show e
  .change h'.get? b≈o;rw[r.2 b (λh:b=S=>by rw[h,u S il]at e;cases e)];show y b o e
  .show p O (ZJ W.gtrans ((c.mono j).then_heap B λb o f e=>?_) T) Y;rw[r.2 b (λh:b=S=>f (by rw[h];show il))];show e
end
@[reducible]noncomputable def fG(w:wk):Bool:=!w.params.followText "set-order"
@[reducible]noncomputable def qC(a:Bool):Obj:={cls:=.type "set",dict:=cb,data:=.set #v[] 0 (.fresh 0 0 a)}
def jM{vs:↑g8}{SP:Nat->K2->Prop}
  (k:s.TypeIs (.ref l) T) (N:U1 (.type T) (.type "set")=pure cK) (O:U1 (.type T) (.type "frozenset")=pure cK) (N3:(Rt T==Rt "dict")=cK)
  (Pu:∀h,h.get? ↥s≈qC (fG w)->SP 0 h) (OK:∀i h h',SP i h->(∀o,h.get? ↥s≈o->h'.get? ↥s≈o)->SP i h')
  (QH:∀B i v s1 Q E,B.units<=A.units+3->vs[i]?≈v->SP i s1.heap->(∀b o,s.heap.get? b≈o->s1.heap.get? b≈o)->(∀b h' tk,s1.toks<=tk->tE ↥s s1.heap h'->SP (i+1) h'->Q b {s1 with heap:=h',toks:=tk})->f6 (gs prog w) B (ĉ ↥s v) Q E s1)
  (m:∀s1 B f,B.handled=A.handled->(∀b o,s.heap.get? b≈o->s1.heap.get? b≈o)->↥s<↥s1 ->
   (∀I n p G P St a,Č prog w B.in1 I n p G ⇑vs P St->(∀g g',G g g'->g'=g)->↥s∉n->(∀b∈p,↥s<b)->(∀i v,P i v->vs[i]?≈v)->St 0 {s1 with heap:=a}->(∀b o,s1.heap.get? b≈o->a.get? b≈o)->f (.ref I) {s1 with heap:=a})->f6 (gs prog w) B (YW (.ref l)) f E s1)
  (h:∀h' tk,SP ⇑vs h'->(∀b o,b<↥s->s.heap.get? b≈o->h'.get? b≈o)->Q (.ref ↥s) {s with heap:=h',toks:=tk}) :
  f6 (gs prog w) A (Qo (.type "set") [.ref l]) Q E s:=by
 have(c,tl,Y):=F.called_set.mro;have t:=F.called_set.made;have Qf:=F.called_set.sub;show Zj (Xv ?_);change f6 _ _ (callAny (.type "set") _) _ _ _;show dV #[XC _ (by decide +kernel),tA F.entry_type_call ?_];rw[Around.under_plain (weight_type_call_type "set" [.ref l] []) rfl];have a:=F.called_set.notType;have h2:=F.called_set.canCreate;have ac:=F.typeCall_set_1 (.ref l)
 repeat (any_goals (first|assumption|wp_step))
 show Tt (oI (.ref l) (E:=E) (Q₁:=λobj s₁=>obj=.ref ↥s/\s₁={s with heap:=s.heap.push (qC (fG w))}) ⟨rfl,rfl⟩) λr s₁ u=>?_;cases r with
 |error e=>show u
 |ok fl =>
  cases fl with
  |ret obj =>
   have(rfl,rfl):=u;have hS:(s.heap.push (qC (fG w))).get? ↥s≈qC (fG w):=gj _ rfl;have hT:õ {s with heap:=s.heap.push (qC (fG w))} (.ref ↥s) "set":=#[_,hS,rfl]
   have al:=F.called_set.init.lookup;have am:=F.called_set.init.bind (.ref ↥s)
   repeat (any_goals (first|assumption|wp_step))
   show Tt (XJ (R:=wants (λr s₂=>r=.none/\∃h' tk,s₂={s with heap:=h',toks:=tk} /\
     SP ⇑vs h' /\
     (∀b o,b<↥s->s.heap.get? b≈o->h'.get? b≈o)) E) F.called_set.init.plain F.entry_set_init (check_set_init_1 hT ?_)) λr₂ s₂ x=>?_
   .have(ol,T5,RG):=k;have(ab,VP,VQ,T6):=ol;simp only at RG;subst RG;have YH:(s.heap.push (qC (fG w))).get? l≈{cls:=.type T,dict:=VP,data:=VQ,slots:=T6}:=dt _ T5;have an:õ {s with heap:=s.heap.push (qC (fG w))} (.ref l) T:=#[_,YH,rfl]
    unfold Ru.«set.__init__» noKeywords ú;generalize y:YW=PI
    wp_walk
    subst y;show m {s with heap:=s.heap.push (qC (fG w))} _ _ rfl (λb o e=>dt _ e) (by rw[Yn];show TB _) λI n p G P St a W hG hf d YI Nz hk=>?_;show cL (XI ?_);show AR W hf (SP:=SP) (h0:=s.heap) (λb hb=>?_) OK (λi v s2 f E' _ hv=>QH _ i v s2 f E' ?_ (YI i v hv)) (⇑vs - 0) 0 _ ⋯ (kj _) Nz (Pu _ (hk _ _ hS)) (λb o e=>hk _ _ (dt _ e)) ?_
    .have C:↥s<=b:=by
      rcases eT.mp hb with z|z
      .show Ux z.symm
      .show Q_ (d b z)
     cases q:s.heap.get? b with
     |none=>rfl
     |some o=>show absurd (hW q) (Nat.not_lt_of_le C)
    .show hY _
    intro s' j D;have(h',g',d',H,X7):=s';have eg:g'=s.gens:=hG _ _ j.gens;have ed:d'=s.drawn:=j.drawn;have eo:X7=s.os:=j.os;subst eg;subst ed;subst eo;change f6 _ _ _ _ _ _;show dV ?_;change f6 _ _ (ret oD) _ _ _;show dV #[rfl,h',H,rfl,D,λb o J e=>?_];show j.heap b o (λz=>by
     rcases eT.mp z with z|z
     .rw[z]at J;show td _ J
     .show absurd (d b z) (Nat.not_lt_of_lt J)) (hk _ _ (dt _ e))
   .cases r₂ with
    |error e=>show x
    |ok L =>
     cases L with
     |ret r =>
      have(rfl,h',tk,rfl,D,OP):=x
      repeat (any_goals (first|assumption|wp_step))
      show h _ _ D OP
     |_=>show x.elim
  |_=>show u.elim
theorem wY:∀{vs}{ss},VU vs ss->∀(i:Nat) v,vs[i]?≈v->∃x t,ss[i]?≈x/\v=.str x t
 |_,_,.nil,i,v,h=>by simp at h
 |_,_,.cons x t h,0,v,e=>by simp at e;show#[x,t,rfl,e.symm]
 |_,_,.cons x t h,i+1,v,e=>by show wY h i v e
theorem sF:∀{vs}{ss},VU vs ss->⇑vs=⇑ss
 |_,_,.nil=>rfl
 |_,_,.cons x t h=>by simp[sF h]
def wZ(a:n≠S)(b:n≠l):n∉[S,l]:=by simp[a,b]
def qD{vs:↑g8}{SP:Nat->K2->Prop}(k:A.handled=cb)(hl:s.heap.IsList l vs.toArray\/s.heap.IsTuple l vs.toArray)
  (m:∀h,h.get? ↥s≈qC (fG w)->SP 0 h) (n:∀i h h',SP i h->(∀o,h.get? ↥s≈o->h'.get? ↥s≈o)->SP i h')
  (p:∀B i v s1 Q E,B.units<=A.units+3->vs[i]?≈v->SP i s1.heap->(∀b o,s.heap.get? b≈o->s1.heap.get? b≈o)->(∀b h' tk,s1.toks<=tk->tE ↥s s1.heap h'->SP (i+1) h'->Q b {s1 with heap:=h',toks:=tk})->f6 (gs prog w) B (ĉ ↥s v) Q E s1)
  (h:∀h' tk,SP ⇑vs h'->(∀b o,b<↥s->s.heap.get? b≈o->h'.get? b≈o)->Q (.ref ↥s) {s with heap:=h',toks:=tk}) :
  f6 (gs prog w) A (Qo (.type "set") [.ref l]) Q E s:=by
 have q:vs.toArray.size=⇑vs:=rfl;rcases hl with hl|hl
 .have c:l<↥s:=let ⟨o,ho,_⟩:=hl;hW ho;show jM hl.typeIs F.sub_list_set F.sub_list_frozenset ⋯ m n p (λs1 B t d hk a f=>?_) h;have QS:s1.heap.IsList l vs.toArray:=let ⟨o,ho,r⟩:=hl;⟨o,hk _ _ ho,r⟩;have W:=(į (prog:=prog) (w:=w) (A:=B.in1) (by simp[d,k]) ↥s1 l (i9 (X' c a)) vs.toArray).toS;rw[q]at W;show VJ QS (f _ _ _ _ _ _ _ W (λ_ _ e=>e) (wZ (i9 a) (DD c)) (λb g=>by rw[kr.mp g];show a) (λi v j=>by exists j) ⟨⟨_,gj _ rfl,rfl,rfl⟩,QS.push _⟩ λb o e=>dt _ e)
 .have c:l<↥s:=let ⟨o,ho,_⟩:=hl;hW ho;show jM hl.typeIs sub_tuple_set sub_tuple_frozenset ⋯ m n p (λs1 B t d hk a f=>?_) h;have QS:s1.heap.IsTuple l vs.toArray:=let ⟨o,ho,r⟩:=hl;⟨o,hk _ _ ho,r⟩;have W:=(Walks.tuple (prog:=prog) (w:=w) (A:=B.in1) (by simp[d,k]) ↥s1 l (i9 (X' c a)) vs.toArray).toS;rw[q]at W;show R' QS (f _ _ _ _ _ _ _ W (λ_ _ e=>e) (wZ (i9 a) (DD c)) (λb g=>by rw[kr.mp g];show a) (λi v j=>by exists j) ⟨⟨_,gj _ rfl,rfl,rfl⟩,let ⟨o,ho,r⟩:=QS;⟨o,dt _ ho,r⟩⟩ λb o e=>dt _ e)
def jN(c:A.handled=cb)(hl:s.heap.IsList l vs.toArray\/s.heap.IsTuple l vs.toArray)(a:VU vs ys)(p:⇑ys+1<SM)
  (h:∀h' tk,jL prog w h' ↥s (fG w) (bV ys)->(∀b o,b<↥s->s.heap.get? b≈o->h'.get? b≈o)->Q (.ref ↥s) {s with heap:=h',toks:=tk}) :
  f6 (gs prog w) A (Qo (.type "set") [.ref l]) Q E s:=by
 show qD (SP:=λi h=>jL prog w h ↥s (fG w) (bV (ys.take i))) c hl (λh e=>vb e) (λi h h' x k=>x.at k) (λB i v s1 Q E _ d f _ q=>?_) λh' tk x k=>h h' tk (by rwa [sF a,ç]at x) k;have(x,t,g,rfl):=wY a i v d;unfold ĉ;show tv (cL ((sK prog w).pyHash (k:=x) (by rw[wX];simp) ?_));have j:⇑(bV (ys.take i))+1<SM:=by have:=u_ (ys.take i);rw[Vr]at this;lia
 show u6 (s:={s1 with toks:=s1.toks+1}) f j λh' m n=>q _ h' _ (È _) m ?_;rw[á,g];change jL prog w h' _ _ (bV (ys.take i++[x]));rw[sE];show n
namespace SI
end SI
def qE(g:X.calm=b6)(I:Inv X pins σ H s)(hq:N5 X.K H p (ys.map V.str)\/Oc X.K H p (ys.map V.str))(d:⇑ys+1<SM)
  (h:∀S h' tk,jL X.prog X.w h' S (fG X.w) (bV ys)->Inv X pins σ H {s with heap:=h',toks:=tk}->Q (.ref S) {s with heap:=h',toks:=tk}) :
  ‹X› (Qo (.type "set") [.ref p]) Q X.xe s:=by
 have f:X.A.handled=cb:=I.ok.hd g;rcases hq with hq|hq
 .have(i,rv,a,hz):=I.list hq;show jN f (.inl a.isList) (eV rv) d λh' tk c k=>h _ h' tk c (I.kept λb o e=>k b o (hW e) e)
 .have(i,rv,a,hz):=I.tuple hq;show jN f (.inr a) (eV rv) d λh' tk c k=>h _ h' tk c (I.kept λb o e=>k b o (hW e) e)
def vc(I:Inv X pins σ H s)(b:jL X.prog X.w s.heap S (fG X.w) D)
  (q:Q (.int ⇑D) H):‹X› (Qo (.builtin "len") [.ref S]) (EP X pins σ Q) X.xe s:=by
 have(L,es,ep,t,ho,c,d,h,f,g,i,j):=b;have a:es.size=⇑D:=by rw[<-p7,c,ei,<-ei  ,d.length_eq]
 have k:es.size<4096:=g;show call_len_set ho #[rfl,rfl,rfl] rfl f ⋯ ?_;show#[.int _,_,I.kept  (λ_ _ e=>e),#[_,rfl],by rw[a];show q]
section
open AutoSeq1 (wpAny_loadPart') in
end
end L2
namespace L2
open PySem PySem.Spec PyProof.Rows
def jO(a:s.heap.IsTupleIter it l i)
  (hl:s.heap.IsTuple l b) (d:b[i]?≈x)
  (e:∀h',h'.IsTupleIter it l (i+1)->tE it s.heap h'->Q x {s with heap:=h' }) :
  f6 (gs prog w) A (R6 (.ref it)) Q E s:=by
 have(o,ho,f,c):=id a;have(j,g,_,k,h):=hl;show cL (tp  a.typeIs F.slot_tuple_iterator_next
  (tj F.slot_tuple_iterator_next a.typeIs F.entry_tuple_iterator_next ?_ (F.args_tuple_iterator_next_1 _)))
 change f6 _ _ (Ŋ _ 0 >>= _) _ _ s;show cL (p9 ho c (x:=.ref l) rfl ?_);show cL (p9 ho c  rfl ?_);show cL (Zi g h ?_);erw[Sq,d];show cL (y9 ho c ⋯ (dV #[x,rfl,dV (e _ ?_ (wh ..))]));show#[_,ro _ ho (SR (K1 c _)),(X9 ..).trans f,by
  rw[K1 c];rfl]
def fH(f:A.handled=cb)
  (b:s.heap.IsTupleIter it l i) (hl:s.heap.IsTuple l c) (g:c[i]?=cb)
  (h:∀h' e,Wo it s.heap h'->(∃o,h'.get? e≈o/\o.cls=.type "StopIteration")->E (.ref e) {s with heap:=h' }) :
  f6 (gs prog w) A (R6 (.ref it)) Q E s:=by
 have(o,ho,n,d):=id b;have(p,j,_,q,k):=hl;show cL (tp  b.typeIs F.slot_tuple_iterator_next
  (tj F.slot_tuple_iterator_next b.typeIs F.entry_tuple_iterator_next ?_ (F.args_tuple_iterator_next_1 _)))
 change f6 _ _ (Ŋ (.ref it) 0 >>= _) _ _ s;show cL (p9 ho d (x:=.ref l) rfl ?_);show cL (p9 ho d  rfl ?_);show cL (Zi j k ?_);erw[Sq,g];show cL (P5 (cL (y9 ho d ⋯ ?_)));show cL ?_;show cL (m:=Zu _ _) (z8 (a:=oD) (by rfl) ?_);show pj ?_ (by size_fits);show cL (À ?_)
 first|rw[f]|rw[f]
 show cL (dV (î ?_));show h _ _ (((wh ..).extBut.push _).push _) #[_,gj _ rfl,rfl]
def sG(c:A.handled=cb)(it l)(d:l≠it)(a):
  Draws prog w A it [it,l] a.size (λi v=>a[i]?≈v) (λi h=>h.IsTupleIter it l i/\h.IsTuple l a) where
 live:=λ_ _ st=>let ⟨o,ho,_⟩:=st.1;⟨o,ho⟩
 frame:=λ_ _ _ st hk=>#[st.1.at λo e=>hk it ⋯ o e,let ⟨o,ho,r⟩:=st.2;⟨o,hk l ⋯ o ho,r⟩]
 item:=λi s Q E hi st f=>by
  show jO st.1 st.2 (x:=a[i]) ⋯ λh' g b=>?_;show f _ h' _ (by simp[]) #[g,let ⟨o,ho,r⟩:=st.2;⟨o,(b.2 l d).trans ho,r⟩] b
 done:=λs Q E st j=>fH c st.1 st.2 ⋯ j
open AutoSeq1 (wpAny_loadPart') in
def mZ(l)(a)(n)(e)(f):
  Meets (Ru.«enumerate.__new__» ⟨[.type "enumerate",.ref l],[]⟩) (λ_ R s=>s.heap.get? l≈{cls:=.type "tuple",dict:=e,data:=.seq a n,slots:=f} /\
   R (.ok (.ret (.ref (s.heap.push {cls:=.type "tuple_iterator",data:=.fields #v[.ref l,.int 0 0]}).objs.size)))
    {s with heap:=(s.heap.push {cls:=.type "tuple_iterator",data:=.fields #v[.ref l,.int 0 0]}).push {cls:=.type "enumerate",data:=.fields #v[.none,.bool cK,.ref ↥s,To 0,.none,.none]}}) :=
 .of_wp λprog w A R s h=>by
  have(i,g,d,tk,os):=s;have(hl,h):=h;have j:=sub_enumerate;have b:Heap.IsTuple _ l a:=#[_,hl,rfl,n,rfl]
  wp_walk using W2 hl
  show wpAny_stack_any λst=>dV ?_;split
  .rename_i c _ _ _ _ _;cases(c==Rt "enumerate")
   .wp_walk using W2 hl,R' b
    show#[_,rfl,h]
   .wp_walk using W2 hl,R' b
    show#[_,rfl,h]
  .wp_walk using W2 hl,R' b
   show#[_,rfl,h]
def gO(g:s.heap.IsTuple l a)
  (h:∀h',Ø h' (↥s+1) ↥s 0 .none->h'.IsTupleIter ↥s l 0->h'.objs.size=↥s+2 ->
   (∀b o,s.heap.get? b≈o->h'.get? b≈o)->Q (.ref (↥s+1)) {s with heap:=h' }) :
  f6 (gs prog w) A (Qo (.type "enumerate") [.ref l]) Q E s:=by
 have((c,i,j,k),hl,d,n,e):=g
 replace d:c=.type "tuple":=d
 replace e:j=.seq a n:=e
 subst d e;show callType_new F.called_enumerate ⋯ (F.typeCall_enumerate_1 _) (F.newCall_enumerate_1 _) (λobj=>F.args_object_init_2 obj _) F.entry_enumerate_new
  (mZ l a n i k) #[hl,?_]
 have hz:(s.heap.push {cls:=.type "tuple_iterator",data:=.fields #v[.ref l,.int 0 0]}).objs.size=↥s+1:=Qy ..;change _/\_;rw[hz];have f:Ø ((s.heap.push {cls:=.type "tuple_iterator",data:=.fields #v[.ref l,.int 0 0]}).push
   {cls:=.type "enumerate",data:=.fields #v[.none,.bool cK,.ref ↥s,To 0,.none,.none]}) (↥s+1) ↥s 0 .none:=by
  have:=gj (s.heap.push {cls:=.type "tuple_iterator",data:=.fields #v[.ref l,.int 0 0]})
   (o:={cls:=.type "enumerate",data:=.fields #v[.none,.bool cK,.ref ↥s,To 0,.none,.none]}) rfl
  rw[hz]at this;show this
 show#[#[_,f,rfl],h _ f #[_,dt _ (gj _ rfl),rfl,rfl] (by rw[Qy,hz]) λb o x=>dt _ (dt _ x)]
end L2
namespace L2
open PySem PySem.Spec PyProof.Rows
def Inv.w9{ch:↑hH}(I:Inv X pins σ H s)(d:∀b∈ch,gJ X pins H b)(k:∀b o,b∉ch->s.heap.get? b≈o->h'.get? b≈o):Inv X pins σ H {s with heap:=h',toks:=t' }:=by
 have f:∀b u,H b≈u->b∉ch:=λb u e z=>by rw[(d b z).1]at e;cases e
 show I.step    (λb g=>?_) (λb o _ _ a e _=>k b o a e) (λb o _ _ a e _=>#[_,k b o a e]) (λ_ _ _ _ n=>n)
  (λb o a e=>#[o,k b o a e]) (λ_ _ e=>e) (λ_ _ _ e=>e) (λb ps e=>#[#v[],by simp_all]) (λm h=>?_) (λb u e=>?_) I.bare
 .have(t,i,w,j,l,p):=d b g;show#[j,i,l,p]
 .have(o,es,ep,ho,r):=h;show#[o,es,ep,k _ o (λz=>(d _ z).2.1 rfl) ho,r]
 .show(I.Nr b u e).lO (λc v a q=>k c v ?_ q) (λ_ q=>q) λ_ _ q=>q;rcases a with z|z
  .rw[z];show f b u e
  .show f c _ z
def Inv.vd{ch:↑hH}(I:Inv X pins σ H s)(g:∀b∈ch,gJ X pins H b)(k:∀b o,b∉ch->s.heap.get? b≈o->h'.get? b≈o)(h:↥s<=T)(new:cE X.prog X.w (upd H T o) h' T o):
  Inv X pins σ (upd H T o) {s with heap:=h',toks:=t' }:=by
 have i:Inv X pins σ H {s with heap:=h',toks:=t' }:=I.w9 g k;have hn:H T=cb:=I.Nr.fresh h;have j:∀b o,s.heap.get? b≈o->b≠T:=λb o e z=>by rw[z]at e;show absurd (jn (hW e) h) (td _)
 have a:∀b u,H b≈u->b≠T:=λb u e z=>by simp_all
 show I.step   (ch:=ch) (λb f=>?_) (λb o _ _ d e _=>k b o d e) (λb o _ _ d e _=>#[o.slots,k b o d e]) (λb o _ e n=>by rw[ai (j b o e)];show n)
  (λb o d e=>#[o,k b o d e]) (λb _ e=>by rw[ai (a b _ e)];show e) (λb _ _ e=>by rw[ai (a b _ e)];show e) (λb ps e=>#[#v[],by rw[ai (a b _ e),e];simp]) (λm l=>?_) (λb u e=>?_) I.bare
 .have(A,p,B,t,x,y):=g b f;show#[t,p,x,y]
 .have(o,es,ep,ho,r):=l;show#[o,es,ep,k _ o (λz=>(g _ z).2.1 rfl) ho,r]
 .by_cases f:b=T
  .subst f;rw[aj]at e;simp_all
  .rw[ai f]at e;show(i.Nr b u e).lO (λc v _ q=>q) (λc q=>by rw[ai (a c _ q)];show q) λc xs q=>by rw[ai (a c _ q)];show q
abbrev UU(a:Hp->↑V->Prop):It :=
 #[λi H=>∃xs x,a H xs/\xs[i]?≈x,λi H x H'=>∃p,H p=cb/\x=.ref p/\∀xs v,a H xs->xs[i]?≈v->H'=upd H p (.tup [.int i,v]),λi H=>∃xs,a H xs/\⇑xs<=i]
def pq{K}(r)(a e it)(L:e≠it)(At:Nat->K2->Prop)(t:K2->Array g8->Prop)
  (OK:∀i h h',At i h->(∀o,h.get? it≈o->h'.get? it≈o)->At i h') (l:∀i h,At i h->∃o,h.get? it≈o/\∀v,o.data≠.cell v)
  (W0:∀X pins s σ H xs,X.K=K->Inv X pins σ H s->r H xs->∃j,Vals xs j/\t s.heap j.toArray)
  (YK:∀X pins s σ H xs ys,X.K=K->Inv X pins σ H s->r H xs->r H ys->xs=ys)
  (Sg:∀h c i d,t h c->Ø h e it i d->e≠a)
  (hD:∀A c,A.handled=cb->Draws P w A it [it,a] c.size (λi v=>c[i]?≈v) (λi h=>At i h/\t h c))
  (Sa:∀A s i c Q E,A.handled=cb->At i s.heap->t s.heap c->c[i]?=cb ->
   (∀h' x,Wo it s.heap h'->(∃o,h'.get? x≈o/\o.cls=.type "StopIteration")->E (.ref x) {s with heap:=h' })->f6 (gs P w) A (R6 (.ref it)) Q E s) :
  Turn P w K (.Tuple es kx ps) (UU r) [e,it] e (λi h=>(∃d,Ø h e it i d)/\At i h) where
 mem:=⋯
 obj:=λi h st b f=>by
  have((d,g),hl):=st;rcases eT.mp f with z|z
  .rw[z];simp_all
  .rw[kr.mp z];show l i h hl
 keep:=λi h h' ⟨⟨d,g⟩,hl⟩ k=>#[#[d,k e ⋯ _ g],OK i h h' hl λo q=>k it ⋯ o q]
 item:=by
  intro X N O B Y i pins s σ H E I C ⟨⟨d,g⟩,hl⟩ hg;subst N O;have(xs,x,G,hx):=hg;have(j,rv,p):=W0 X pins s σ H xs B I G;have(u,hu,ru):=rv.get hx;have Oa:i<j.toArray.size:=by simpa using(eH.mp hu).1
  have D:=hD X.A.in1 j.toArray (by exists I.ok.hd Y);have YL:=Sg _ _ _ _ p g;show wpAny_pyNext_enum_itemD D g #[hl,p] Oa L (by simp[L,YL]) λy h1 tk hy ho st1 J hsz hk=>?_;have ey:y=u:=by
   simp_all
  subst ey;show#[_,rfl,wpAny_letOwnedTupleGo_enum (s:={s with heap:=h1,toks:=tk+1}) ho λm ab Qa=>?_];have n:e<↥s:=hW g;have ac:m.get? ↥s≈{cls:=.type "tuple",data:=.seq #v[.int i tk,y]}:=(Qa.2 _ (DD n)).trans J;have k2:∀b o,b∉[e,it]->s.heap.get? b≈o->m.get? b≈o:=λb o f q=>by
   erw[eT,è,or_false,not_or]at f;show(Qa.2 b f.1).trans (hk b o f.1 f.2 q)
  have I2:Inv X pins σ (upd H ↥s (.tup [.int i,x])) {s with heap:=m,toks:=tk+1}:=I.vd C k2 (hY _)
   (show cE X.prog X.w _ m _ (.tup [.int i,x]) from#[by change 2<=c8;decide,[.int i tk,y],.cons #[tk,rfl] (.cons ru .nil),#[_,ac,rfl,_,rfl]])
  show#[.ref ↥s,_,I2,rfl,#[_,I.Nr.fresh (hY _),rfl,λys v hy hv=>?_],#[#[_,ab],OK (i+1) h1 m st1.1 λo q=>(Qa.2 it (mh L)).trans q],λb f=>?_]
  .have:=YK X pins s σ H ys xs B I hy G;subst this;rw[hx]at hv;cases hv;rfl
  .have Qx:b≠↥s:=by
    rcases eT.mp f with z|z
    .rw[z];show i9 n
    .rw[kr.mp z];have(o,q,_):=l i _ hl;show i9 (hW q)
   rw[ai Qx];show(C b f).1
 done:=by
  intro X N O B Y i pins s σ H E I C ⟨⟨d,g⟩,hl⟩ hg;subst N O;have(xs,G,hx):=hg;have(j,rv,p):=W0 X pins s σ H xs B I G;have al:=⇑rv;have J:s.TypeIs (.ref e) "enumerate":=#[_,g,rfl]
  unfold Ts;show cL (Us (tp (name:=Uv "__next__") J F.slot_enumerate_next
   (tj F.slot_enumerate_next J F.entry_enumerate_next ?_ (F.args_enumerate_next_1 _))))
  change f6 _ _ (Ŋ (.ref e) 2 >>= _) _ _ _;show cL (p9 g rfl (x:=.ref it) rfl ?_);show cL (Sa _ _ i j.toArray _ _ (by exists I.ok.hd Y) hl p ⋯ λh' x YM Yq=>?_);have(o,ho,RG):=Yq;show cL (T7 (T:="StopIteration") (b:=b6) #[o,ho,RG] Zt ?_);show dV #[rfl,I.w9 (t':=s.toks) (ch:=[it]) (λb f=>C b (f7 _ f)) λb o f q=>YM b o (λz=>f (by simp[z])) q]
 self:=λA i s Q E ⟨⟨d,g⟩,hl⟩ h=>YC g h
section
variable{X:Cx}{es:List jw}{kx:Nat}{ps p pos:Pos}
def yH:sx "enumerate"≈.type "enumerate":=by rfl
abbrev MS(K:W.Frag)(c:TA):TI:=λσ H R=>c σ H λvs b=>∃a,vs=[.ref a]/\((∃xs,N5 K b a xs)/\R (UU λH xs=>N5 K H a xs) b\/(∃xs,Oc K b a xs)/\R (UU λH xs=>Oc K H a xs) b)
def HM(a e it)(m:e≠it)(n:a≠it):Turn X.prog X.w X.K (.Tuple es kx ps) (UU λH xs=>N5 X.K H a xs) [e,it] e (λi h=>(∃c,Ø h e it i c)/\h.IsListIter it a i):=by
 show pq _ a e it m _ _ (λi h h' x k=>x.at k) (λi h ⟨o,ho,q,y⟩=>#[o,ho,λv z=>by simp_all])
  (λY pins s σ H xs f I j=>?_) (λY pins s σ H xs ys f I d l=>?_) (λh b i c ⟨o,ho,q,_⟩ B z=>?_) (λA b g=>Draws.list g it a n _) (λA s i b Q E g hl r d t=>wpAny_nextOf_list_end g hl r d t)
 .rw[<-f]at j;have(u,rv,p,hz):=I.list j;show#[u,rv,p.isList]
 .rw[<-f]at d l;show I.mM d l
 grind
def HN(a e it)(m:e≠it)(n:a≠it):Turn X.prog X.w X.K (.Tuple es kx ps) (UU λH xs=>Oc X.K H a xs) [e,it] e (λi h=>(∃c,Ø h e it i c)/\h.IsTupleIter it a i):=by
 show pq _ a e it m _ _ (λi h h' x k=>x.at k) (λi h ⟨o,ho,q,y⟩=>#[o,ho,λv z=>by simp_all])
  (λY pins s σ H xs f I j=>?_) (λY pins s σ H xs ys f I d l=>?_) (λh b i c ⟨o,ho,q,_⟩ B z=>?_) (λA b g=>sG g it a n _) (λA s i b Q E g hl r d t=>fH g hl r d t)
 .rw[<-f]at j;have(u,rv,p,hz):=I.tuple j;show#[u,rv,p]
 .rw[<-f]at d l;show I.oS d l
 grind
def D7(m:Gl X "enumerate")(n:X.mg "enumerate"=cb)(t:PA X [a] v)(hs:i0 [a] X.env=[(cK,p8 a X.env)]):PI X (.Tuple es kx ps) (.Call (.Name "enumerate" p) [a] [] pos) (MS X.K v):=by
 intro pins s σ H R I h;show Call_ (dB I m n yH (x8 (Ny (t pos pins s σ H _ I h) λus s1 ⟨vs,i,c,w,x⟩=>?_) hs rfl));have(a',e,q):=x;subst e;have(u,rfl,r):=vals1 w;cases r;have d:↥s1+1≠↥s1:=Nat.succ_ne_self _;have f:∀(h':K2),(∀b∈[↥s1+1,↥s1],gJ X pins i b):=λh' b y=>by
  have l:↥s1<=b:=by
   rcases eT.mp y with z|z
   .simp_all
   simp_all
  show c.yn l (c.Nr.fresh l)
 rcases q with⟨⟨xs,j⟩,q⟩|⟨⟨xs,j⟩,q⟩
 .have(A,rv,p,hz):=c.list j;have k:=let ⟨o,ho,_⟩:=p.isList;hW ho;show call_enumerate_list p.isList λh' g hl hsz hk=>?_;show YC g #[_,_,_,_,i,rfl,c.kept  hk,HM a' _ _ d (i9 k),#[#[_,g],hl],f h',q]
 .have(A,rv,p,hz):=c.tuple j;have k:=let ⟨o,ho,_⟩:=p;hW ho;show gO p λh' g hl hsz hk=>?_;show YC g #[_,_,_,_,i,rfl,c.kept  hk,HN a' _ _ d (i9 k),#[#[_,g],hl],f h',q]
end
def D8{b:↑g8}(h:Ģ (λi v=>b.toArray[b.toArray.size - 1 - i]?≈v) a b.toArray.size):a.toList=b.reverse:=by
 apply ä;intro i;have hs:a.size=⇑b:=by have:=h.1;exists this
 by_cases hi:i<⇑b
 .have c:i<a.size:=⋯
  have:=h.2 i (a[i]'c) (by simp[c]);rw[Zg,YR c,List.getElem?_reverse hi];exists this.symm
 .rw[Z2 (by rw[p7];lia),Z2 (by rw[List.length_reverse];lia)]
def yI(l)(a)(n)(b)(c)(d)(dd)(e)(j:¬(!a.isEmpty&&va (a.size+c.size))=b6)(f:a.size<=c8)(k:a.size+c.size<=c8+1):
  Meets (Ru.«list.extend» ⟨[.ref l,.ref b],[]⟩) (λ_ R s=>s.heap.get? l≈{cls:=.type "list",dict:=cb,data:=.seq a n,slots:=#v[]}/\s.heap.get? b≈{cls:=.type "list",dict:=dd,data:=.seq c d,slots:=e}/\R (.ok (.ret oD)) {s with heap:=s.heap.update l (rS λx=>x++c),toks:=s.toks}) :=
 .of_wp λprog w A R s h=>by
  have(hl,g,h):=h;have m:=Z5;have i:(a++c).size<=c8+1:=⋯
  wp_walk using(WU hl rfl (hz:=f) (_hz':=i)),QW hl,QW g;show#[_,rfl,h]
def yJ(l)(a)(n)(b)(c)(d)(dd)(e)(j:¬(!a.isEmpty&&va (a.size+c.size))=b6)(f:a.size<=c8)(k:a.size+c.size<=c8+1):
  Meets (Ru.«list.extend» ⟨[.ref l,.ref b],[]⟩) (λ_ R s=>s.heap.get? l≈{cls:=.type "list",dict:=cb,data:=.seq a n,slots:=#v[]}/\s.heap.get? b≈{cls:=.type "tuple",dict:=dd,data:=.seq c d,slots:=e}/\R (.ok (.ret oD)) {s with heap:=s.heap.update l (rS λx=>x++c),toks:=s.toks}) :=
 .of_wp λprog w A R s h=>by
  have(hl,g,h):=h;have m:=Z5;have i:(a++c).size<=c8+1:=⋯
  wp_walk using(WU hl rfl (hz:=f) (_hz':=i)),QW hl,QW g;show#[_,rfl,h]
def vf:WR X "list.extend" (λx vs H Q=>∃l b xs zs,x=.ref l/\vs=[.ref b]/\H l≈.lst xs/\(N5 X.K H b zs\/Oc X.K H b zs)/\⇑xs+⇑zs<=c8/\Q .Nt (upd H l (.lst (xs++zs)))):=by
 intro pins s σ H x vs v us Q I w rv h;have(l,b,xs,zs,rfl,rfl,p,hB,hz,q):=h;cases w;have(u,rfl,y):=rv.one;cases y;have(z,i,n,r,hl,e):=I.DY p;have d:∀a ,Vals zs a->EP X pins σ Q oD {s with heap:=s.heap.update l (rS λx=>x++a.toArray),toks:=s.toks}:=λa c=>by
  show#[.Nt,_,I.jg  p e ⋯ (r.append c) ?_,rfl,q];rw[mx];lia
 have j:∀a:↑g8,⇑zs=⇑a->i.toArray.size+a.toArray.size<=c8:=λa h=>by simp_all
 have t:∀a:↑g8,⇑zs=⇑a->¬(!i.toArray.isEmpty&&va _)=b6:=λa h=>by
  rw[Az (j a h),YQ];simp
 rcases hB with hB|hB
 .have(a,c,k,_):=I.list hB;have((cls,dd,data,m),ho,f,o,g):=k.isList;simp only at f g;subst f g;have Qt:=⇑c;have A:=j a Qt;show Rh ù #[_,e,rfl] æ (Ú _ _) (yI l i.toArray n b _ o dd m (t a Qt) ⋯ ⋯) #[e,ho,d a c]
 .have(a,c,k,_):=I.tuple hB;have((cls,dd,data,m),ho,f,o,g):=k;simp only at f g;subst f g;have Qt:=⇑c;have A:=j a Qt;show Rh ù #[_,e,rfl] æ (Ú _ _) (yJ l i.toArray n b a.toArray o dd m (t a Qt) ⋯ ⋯) #[e,ho,d a c]
def kB:Manifest.owners.lookup (String.ofList ['d','e','s','r','e','v','e','r'].reverse)≈Manifest.sig_reversed:=by rfl
def cX:ı "reversed" "__next__" "reversed.__next__" :=
 .of (owner:="reversed") (n:="__next__") (by rfl) (by decide +kernel) (by decide +kernel) (by rfl) (by first|show .inl (by decide +kernel)|show .inr (by decide +kernel)) (by rfl)
def gP:ñ table "reversed.__next__"≈Ru.«reversed.__next__»:=ĭ (by rfl)
def iY(a):Ò "reversed.__next__" ⟨[a],[]⟩:=by
 unfold Ò;rw[Á  (n:=['_','_','t','x','e','n','_','_'])  (by kernel_rfl) kB];rfl
def iZ:ı "reversed" "__iter__" "reversed.__iter__" :=
 .of (owner:="reversed") (n:="__iter__") (by rfl) (by decide +kernel) (by decide +kernel) (by rfl) (by first|show .inl (by decide +kernel)|show .inr (by decide +kernel)) (by rfl)
def m8:ñ table "reversed.__iter__"≈Ru.«dict_keyiterator.__iter__» :=
 entryFor_alias (id':="dict_keyiterator.__iter__") (by kernel_rfl) (by rfl) (by decide +kernel) (by rfl)
def oJ(a):Ò "reversed.__iter__" ⟨[a],[]⟩:=by
 unfold Ò;rw[Á  (n:=['_','_','r','e','t','i','_','_'])  (by kernel_rfl) kB];rfl
def fy:ı "reversed" "__length_hint__" "reversed.__length_hint__" :=
 .of (owner:="reversed") (n:="__length_hint__") (by rfl) (by rfl) (by decide +kernel) (by decide +kernel) (by first|show .inl (by decide +kernel)|show .inr (by decide +kernel)) (by rfl)
def m9:ñ table "reversed.__length_hint__"≈Ru.«reversed.__length_hint__»:=ĭ (by rfl)
def oK(a):Ò "reversed.__length_hint__" ⟨[a],[]⟩:=by
 unfold Ò;rw[Á  (n:=['_','_','t','n','i','h','_','h','t','g','n','e','l','_','_'])  (by kernel_rfl) kB];rfl
def vg:Wt (.type "reversed") "__len__"=pure cb:=by rw[Ľ,å];rfl
def qG:Wt (.type "tuple") "__reversed__"=pure cb:=by rw[Ľ,å];rfl
def oM:U1 (.type "tuple") (.type "dict")=pure cK:=by rw[Zr];rfl
def oN:ı "reversed" "__init__" "object.__init__" :=
 .of (owner:="object") (n:="__init__") (by rfl) (by decide +kernel) (by decide +kernel) (by rfl) (by first|show .inl (by decide +kernel)|show .inr (by decide +kernel)) (by rfl)
def jm:TypeCalled "reversed" "reversed.__new__" "object.__init__" :=
 #[by rfl,F.create_reversed,#[_,_,F.mro_reversed],F.made_reversed,F.plain_reversed_new,F.sub_reversed_self,oN]
abbrev sH(l:hH)(i:Int):Obj:={cls:=.type "reversed",data:=.fields #v[.ref l,To i]}
abbrev gE(h:K2)(a l:hH)(i:Int):Prop:=∃o,h.get? a≈o/\o.cls=.type "reversed"/\o.data=.fields #v[.ref l,To i]
def gE.typeIs{s:i4}(x:gE s.heap a l i):s.TypeIs (.ref a) "reversed":=let ⟨o,ho,b,_⟩:=x;⟨o,ho,b⟩
def gE.at(x:gE h a l i)(e:∀o,h.get? a≈o->h'.get? a≈o):gE h' a l i:=let ⟨o,ho,r⟩:=x;⟨o,e _ ho,r⟩
section
def D9(hl:Yc s.heap l b)(hz:b.size<=c8)
  (h:Q (.ref ↥s) {s with heap:=s.heap.push (sH l ((b.size:Int) - 1)),toks:=s.toks+2}) :
  Rr (gs prog w) A (.call (.builtin "reversed.__new__") #[[.type "reversed",.ref l],[]]) (wants Q E) s:=by
 have c:c8<2 ^ 60:=⋯
 show Xv ?_;show cL (z8 (F.newCall_reversed_1 _) (dV #[RK F.plain_reversed_new _,tA F.entry_reversed_new ?_]));show cL (z8 (newClass_reversed _) ?_)
 try dsimp only
 show cL (z8 (a:=()) (by rfl) ?_);show cL (z8 (a:=()) (by rfl) ?_)
 try dsimp only
 show cL (RX hl.typeIs qG ?_)
 try dsimp only
 show cL ?_
 wp_delta
 show cL (T7 hl.typeIs oM ?_);rw[Ś ⋯];show cL (RX hl.typeIs slot_tuple_getitem.lookup ?_)
 try dsimp only
 rw[ř ⋯];show dV ?_;rw[Ś ⋯];show cL (Ķ hl ⋯ ?_);show cL (dV ?_);change f6 _ _ (newObj (.type "reversed") (.fields #v[.ref l,To ((b.size:Int) - 1)]) >>= _) _ _ _;show cL (pj (dV h) (by size_fits))
def AS(hl:Yc s.heap l a)(hz:a.size<=c8)
  (h:Q (.ref ↥s) {s with heap:=s.heap.push (sH l ((a.size:Int) - 1)),toks:=s.toks+2}):f6 (gs prog w) A (Qo (.type "reversed") [.ref l]) Q E s:=by
 show Ō (Q₁:=λobj b=>obj=.ref _/\b={s with heap:=s.heap.push _,toks:=s.toks+2}) jm (F.typeCall_reversed_1 _) F.entry_object_init (D9 hl hz #[rfl,rfl]) ?_;rintro obj b ⟨rfl,rfl⟩;have c:{s with heap:=s.heap.push (sH l (a.size - 1)),toks:=s.toks+2}.TypeIs (.ref _) _:=#[_,gj _ rfl,rfl]
 show#[c,F.args_object_init_2 _ _,Ě jm.init.lookup jm.made ⋯ prog w _ _ _ #[c,rfl,h]]
def AU{i:Nat}(hz:a.size<=c8)(b:gE s.heap it l (i:Int))(hl:Yc s.heap l a)(d:a[i]?≈x)
  (e:∀h' tk,gE h' it l ((i:Int) - 1)->tE it s.heap h'->Q (bD x) {s with heap:=h',toks:=tk}):f6 (gs prog w) A (Ts (.ref it)) Q E s:=by
 have(o,ho,f,c):=id b;have g:c8<2 ^ 60:=⋯
 have hi:i<a.size:=(H8.mp d).1;unfold Ts;show cL (Us (tp  b.typeIs cX
  (tj cX b.typeIs gP ?_ (iY _))))
 show cL (z8  rfl ?_)
 try dsimp only
 show cL (p9 ho c (x:=.ref l) rfl ?_);show cL (p9 ho c (x:=To (i:Int)) rfl ?_);change f6 _ _ (if (i:Int)<0 then _ else _) _ _ s;rw[Ś ⋯];show cL (RX hl.typeIs slot_tuple_getitem.lookup ?_);show cL (wpAny_mkInt (cL (Us (getItem_tuple  (j:=i) hl ⋯ ⋯ (by simp[Ī];lia) d ?_))))
 dsimp only
 show cL (p9 ho c (x:=To (i:Int)) rfl ?_);show cL (y9 ho c ⋯ ?_);show dV #[x,rfl,dV (e _ _ ?_ (wh ..))];show#[_,ro _ ho (SR (K1 c _)),(X9 ..).trans f,by
  rw[K1 c];simp]
def D_(f:A.handled=cb)(c:gE s.heap it l (-1))
  (g:∀h',Wo it s.heap h'->Q cb {s with heap:=h' }):f6 (gs prog w) A (Ts (.ref it)) Q E s:=by
 have(o,ho,i,d):=id c;unfold Ts;show cL (Us (tp (name:=Uv "__next__") c.typeIs cX
  (tj cX c.typeIs gP ?_ (iY _))))
 unfold Ru.«reversed.__next__»;show cL (z8 (a:=(ku it,[])) rfl ?_)
 try dsimp only
 show cL (p9 ho d (x:=.ref l) rfl ?_);show cL (p9 ho d (x:=To (-1)) rfl ?_);change f6 _ _ (if (-1:Int)<0 then _ else _) _ _ s;rw[ř ⋯];show cL (P5 ?_);show cL ?_
 wp_delta
 show cL (y9 ho d ⋯ ?_);have h:=ro (TC λxs=>xs.set! 1 (To (-1))) ho (SR (K1 d _));have e:=K1 d (λxs=>xs.set! 1 (To (-1)));show y9 h e ⋯ ?_;show cL ?_
 wp_delta
 erw[newExc,newTuple];show cL (cL (pj ?_ (by size_fits)));show cL (m:=Zu _ _) (z8 (a:=oD) (by rfl) ?_);show pj ?_ (by size_fits);erw[raiseNew];show cL (À ?_)
 first|rw[show A.in1.handled=cb from f]|rw[f]
 show cL (dV (î ?_));show cL (T7 (T:="StopIteration") (b:=b6) #[_,gj _ rfl,rfl] Zt ?_);show dV (g _ (((((wh ..).extBut).trans (wh ..).extBut).push _).push _))
def AV(a:gE s.heap it l i)(h:Q (.ref it) s):f6 (gs prog w) A (YW (.ref it)) Q E s:=by
 show wpAny_pyIter_slot a.typeIs iZ (tj iZ a.typeIs m8 ?_ (oJ _));show dV #[_,rfl,_,_,a.typeIs,cX.lookup,h]
def yK(p:A.handled=cb)(I l)(q:l≠I)(a)(hz:a.size<=c8):
  Walks prog w A I [I,l] [I] a.size (λi v=>a[a.size - 1 - i]?≈v) (λi h=>i<=a.size/\gE h I l ((a.size:Int) - 1 - (i:Int))/\Yc h l a) where
 sub:=λb f=>by simp_all
 frame:=λ_ _ _ x hk=>#[x.1,x.2.1.at λo e=>hk I ⋯ o e,let ⟨o,ho,r⟩:=x.2.2;⟨o,hk l ⋯ o ho,r⟩]
 item:=λi s Q E hi x d=>by
  have e:(a.size:Int) - 1 - i=(a.size - 1 - i:Nat):=⋯
  have c:=x.2.1;rw[e]at c;have j:a[a.size - 1 - i]?≈_:=YR ⋯;show AU hz c x.2.2 j λh' tk k m=>?_;have t:(a.size - 1 - i:Nat) - 1=a.size - 1 - (i+1:Int):=⋯
  rw[t]at k;show d _ h' tk j #[hi,k,let ⟨o,ho,r⟩:=x.2.2;⟨o,(m.2 l q).trans ho,r⟩] λb o f g=>m.extBut b o (λh=>f (by simp[h])) g
 done:=λs Q E x d=>by
  have e:a.size - 1 - (a.size:Int)=-1:=⋯
  have c:=x.2.1;rw[e]at c;show D_ p c λh' u=>d h' _ λb o f g=>u b o (λh=>f (by simp[h])) g
 self:=λ_ _ _ _ x d=>AV x.2.1 d
def AW(d:gE s.heap I l ((c.size:Int) - 1))(hl:Yc s.heap l c)(hz:c.size<=c8)(h:∀b tk,s.toks<=tk->Q b {s with toks:=tk}):
  f6 (gs prog w) A (x6 (.ref I)) Q E s:=by
 have f:c8<2 ^ 60:=⋯
 have(o,ho,i,e):=id d;unfold x6;show cL (RX d.typeIs vg ?_);change f6 _ A (specialOf (ku I) (Uv "__length_hint__") >>= _) _ _ _;show cL (RX d.typeIs fy.lookup ?_);have g:splitId "reversed.__length_hint__"≈("reversed","__length_hint__"):=by rfl
 dsimp only
 rw[g]
 dsimp only
 show cL (T7 d.typeIs F.sub_reversed_self ?_);rw[Ś ⋯];rw[Ś (by decide +kernel)];show cL (P5 ?_);show cL (z8 (fy.bind _) ?_)
 dsimp only
 show cL (Us (tj fy d.typeIs m9 ?_ (oK _)));unfold Ru.«reversed.__length_hint__»;show cL (z8 (a:=ku I) rfl ?_);show cL (p9 ho e (x:=.ref l) rfl ?_);rw[Ś (show ¬((ku l==oD)=b6) from ke)];show cL (Ķ hl ⋯ ?_);show cL (dV ?_);show cL (p9 (s:={s with toks:=s.toks+1+1}) ho e (x:=To ((c.size:Int) - 1)) rfl ?_);change f6 _ _ (if (c.size:Int)<(c.size:Int) - 1+1 then _ else _) _ _ _;rw[Ś ⋯];show cL (wpAny_mkInt (dV #[_,rfl,?_]))
 dsimp only
 show cL (dV ?_)
 dsimp only
 rw[Ś (by erw[ŀ,mN,Bool.and_eq_false_iff,Ş];lia),Ś ⋯,Ś (by erw[va,Ř];lia)];show dV (h _ _ ⋯)
variable{I:hH}{fp wr:List hH}{G:Array ZL->Array ZL->Prop}{n:Nat}{P:Nat->g8->Prop}{St:Nat->i4->Prop}
def vh(W:Č prog w A.in1 I fp wr G n P St)(C:∀i s,St i s->s.TypeIs (.ref I) "reversed")(D:∀A E s Q,St 0 s->(∀b tk,s.toks<=tk->Q b {s with toks:=tk})->f6 (gs prog w) A (x6 (.ref I)) Q E s)(S)(j)(H)(k:St 0 s)(m:S∉fp)(J:I∈fp)
  (q:s.heap.get? S≈{cls:=.type "list",data:=.seq #v[] H})
  (z:∀a d c,Moved (S::wr) G s a->a.heap.get? S≈{cls:=.type "list",dict:=cb,data:=.seq d c,slots:=#v[]}->Ģ P d n->R (.ok (.ret j)) a) (hn:n<=c8) :
  f6 (gs prog w) A.in1 (O9 (.ref S) (.ref I) j)
   (λr a=>match r with|.done f=>R (.ok f) a|.again c=>c.quiet=b6/\Rr (gs prog w) A c R a) (λe a=>R (.error e) a) s:=by
 have t:S≠I:=λe=>m (e▸J);unfold O9;show cL (UO (C 0 _ k) ?_);have L:X5 (.ref S) (.ref I)=cK:=by simp[X5,t]
 have N:(Rt "reversed"==Rt "list")=cK:=⋯
 have O:(Rt "reversed"==Rt "tuple")=cK:=⋯
 erw[L,N,O,Bool.or_false,XH,if_false];show cL (W.self 0 _ _ _ k ?_);show cL (tv ?_);show D _ _ _ _ k λb tk p=>?_;have T:=W.frame 0 s s.heap tk k p λb _ o e=>e;show ļ (λ_=>?_) (λ_=>dV #[RK F.plain_extend_loop _,ò W hn _ m _ n 0 _ _ _ rfl (kj _) T q (Ā P) λa d c u v x=>z a d c (ZJ W.gtrans ((Ĳ W.grefl).then_heap p λb o _ e=>e) u) v x]);show cL (P5 ?_);show cL ?_;show cL (WU (s:={s with toks:=tk}) q rfl ?_);have l:=ro (rS (·.push oD)) q rfl;show WU (hz:=by seq_fits) l rfl ?_;have y:=ro (rS (·.pop)) l rfl;have B:∀b o,b≠S->s.heap.get? b≈o->((s.heap.update S (rS (·.push oD))).update S (rS (·.pop))).get? b≈o:=λb o g e=>(tr _ _ (mh g)).trans ((tr _ _ (mh g)).trans e);show dV #[RK F.plain_extend_loop _,ò W hn _ m _ n 0 _ _ _ rfl (kj _) (W.frame 0 s _ tk k p λb g o e=>B b o (λh=>m (h▸g)) e) y (Ā P) λa d c u v x=>?_];show z a d c (ZJ W.gtrans ((Ĳ W.grefl).then_heap p λb o g e=>B b o (λh=>g (h▸il)) e) u) v x
def sI(W:Č prog w A.in1 I fp wr G n P St)(g:∀i s,St i s->s.TypeIs (.ref I) "reversed")(h:∀A E s Q,St 0 s->(∀b tk,s.toks<=tk->Q b {s with toks:=tk})->f6 (gs prog w) A (x6 (.ref I)) Q E s)(j:St 0 s)(k:∀b∈fp,b<↥s)(l:I∈fp)
  (m:∀c d,Moved wr G s c->Ģ P d n->Q d.toList c) (hn:n<=c8):f6 (gs prog w) A (Ĝ (.ref I)) Q E s:=by
 have p:=λf=>td _ (k _ f);show cL (XI (tA F.entry_proto_collect ?_));show cL (pj ?_);show dV #[RK F.plain_list_iadd _,tA F.entry_list_iadd ?_];have q:=W.frame 0 s (s.heap.push {cls:=.type "list",data:=.seq ([]:↑g8).toArray}) s.toks j (hY _) λb _ o e=>dt _ e;show vh (R:=λr c=>match r with
  |.ok (.ret v)=>f6 (gs prog w) A (match v with
   |.ref a=>do
    let o <-load a
    match o.data with
    |.seq xs _=>pure xs.toList
    |_=>unsupported "internal:collect"
   |_=>unsupported "internal:collect") Q E c
  |.ok _=>False
  |.error e=>E e c) W g h _ _ 0 q p l (gj _ rfl) (λc t y f u x=>?_) hn
 show cL (Ą u ?_);show dV (m c t (Moved.drop_new  (tk:=s.toks) f (hY _)) x)
open AutoSeq1 (wpAny_loadPart') in
def qH(W:Č prog w A.in1.in1.in1 I fp wr G n P St)(j:∀i s,St i s->s.TypeIs (.ref I) "reversed")(m:∀A E s Q,St 0 s->(∀b tk,s.toks<=tk->Q b {s with toks:=tk})->f6 (gs prog w) A (x6 (.ref I)) Q E s)(k:St 0 s)(o:∀b∈fp,b<↥s)(p:I∈fp)
  (q:∀c a,Moved wr G s c->Ģ P a n->Q (.ref ↥c) {c with heap:=c.heap.push {cls:=.type "tuple",data:=.seq a}}) (hsz:n<=c8) :
  f6 (gs prog w) A (Qo (.type "tuple") [.ref I]) Q E s:=by
 show Ō (Q₁:=λobj d=>d.TypeIs obj "tuple"/\Q obj d) F.called_tuple (F.typeCall_tuple_1 _) F.entry_object_init
  (?_) λobj d f=>?_
 .show Xv ?_;show cL (z8 (F.newCall_tuple_1 _) (dV #[RK F.plain_tuple_new _,tA F.entry_tuple_new ?_]));rw[Wd F.plain_tuple_new _];have u:=sub_tuple_self;have g:=init_tuple_lookup;have r:=madeHere_tuple;have h:=j 0 s k
  wp_walk using UO h,sI (hn:=hsz) W j m k o p
  intro c a t l;change f6 _ _ (u4 a.toList.toArray >>= λv=>ret v) _ _ _;unfold u4;show cL (pj ?_ (by change a.toList.toArray.size<=c8;erw[Wn];rw[l.1];lia));show dV ?_;have e:a.toList.toArray=a:=⋯
  rw[e];show#[#[_,gj _ rfl,rfl],q c a t l]
 .show#[f.1,F.args_object_init_2 obj _,Ě F.called_tuple.init.lookup F.called_tuple.made ⋯ prog w A.in1 _ d #[f.1,rfl,f.2]]
end
def yL(n:X.calm=b6)(I:Inv X pins σ H s)(r:Oc X.K H a xs)(q:∀l,H l=cb->Q (.ref l) (upd H l (.tup xs.reverse))):
  ‹X› (Qo (.type "reversed") [.ref a]) (λv s1=>‹X› (Qo (.type "tuple") [v]) (EP X pins σ Q) X.xe s1) X.xe s:=by
 have(c,rv,p,hz):=I.tuple r;have O:⇑c=⇑xs:=rv.length.symm;have g:a<↥s:=p.lt;have d:c.toArray.size<=c8:=by grind
 have hsz:(s.heap.push (sH a ((c.toArray.size:Int) - 1))).objs.size=↥s+1:=Yn ..;show AS p d ?_;have t:gE (s.heap.push (sH a ((c.toArray.size:Int) - 1))) ↥s a ((c.toArray.size:Int) - 1):=#[_,gj _ rfl,rfl,rfl]
 show qH (yK (A:=X.A.in1.in1.in1) (I.ok.hd n) ↥s a (i9 g) c.toArray d).toS (λi s st=>st.2.1.typeIs) (λA E s Q st h=>AW (by exists st.2.1) st.2.2 d h) ⟨kj _,by simpa using t,p.push _⟩ (λb u=>?_) ⋯ (λx y f B=>?_) d
 .rw[hsz];rcases eT.mp u with z|z
  .simp_all
  .rw[kr.mp z];show Sf g
 .have(j,C,D,k,o2):=x;have G:C=s.gens:=f.gens;have J:D=s.drawn:=f.drawn;have L:o2=s.os:=f.os;subst G J L;have k2:=λb o e=>f.heap b o (λz=>by
   rw[kr.mp z]at e;show absurd (hW e) (td _)) (dt _ e)
  have m:Inv X pins σ H {s with heap:=j,toks:=k}:=I.kept k2;have ea:=D8 B;have N :=
   m.laid (t':=k) (λb o e=>dt _ e) (hY _) (show cE X.prog X.w _ _ _ (.tup xs.reverse) from#[by simp_all,c.reverse,rv.reverse,by rw[<-ea,Wn];show Wq _ _])
  show#[.ref j.objs.size,_,N,rfl,q _ (m.Nr.fresh (hY _))]
end L2
namespace L2
open PySem PySem.W PyProof.Rows
abbrev kC{α:Type}(lt:Nat->Nat->Bool):KasT α->α
 |.ret x=>x
 |.ask i j k=>kC lt (k (lt i j))
def OX{α:Type}(n:Nat)(P:α->Prop):KasT α->Prop
 |.ret x=>P x
 |.ask i j k=>i<n/\j<n/\∀b,OX n P (k b)
theorem OX.UW{P:α->Prop}{Q:β->Prop}{f}(a:∀x,P x->OX n Q (f x)):∀{t},OX n P t->OX n Q (t.bind f)
 |.ret x,h=>a x h
 |.ask i j k,h=>#[h.1,h.2.1,λb=>OX.UW a (h.2.2 b)]
theorem OX.got:∀{t:KasT α},OX n P t->P (kC lt t)
 |.ret _,h=>h
 |.ask i j k,h=>OX.got (t:=k _) (h.2.2 _)
theorem OX.wp(b:∀i j,i<n->j<n->∀C:Bool->i4->Prop,C (lt i j) s->a i j C s):
  ∀{t:KasT α},OX n P t->Q (kC lt t) s->t.kasWp a Q s
 |.ret _,_,q=>q
 |.ask i j k,h,q=>b i j h.1 h.2.1 _ (OX.wp b  (h.2.2 _) q)
abbrev Pm(n:Nat)(p:Array Nat):Prop:=p.toList.Perm (ib n)
section
variable{n:Nat}(hn:0<n)
include hn
def Pm.at(h:Pm n p)(i):p.getD i 0<n:=by
 by_cases hi:i<p.size
 .have:p.getD i 0=p[i]:=⋯
  rw[this];have a:p[i]∈p.toList:=⋯
  show uv.mp (h.mem_iff.mp a)
 simp_all
omit hn in
def Pm.rev(h:Pm n p)(i j:Nat):Pm n (kas_rev p i j):=(mirror_perm p i j _).toList.trans h
omit hn in
def Pm.bub(h:Pm n p)(i j:Nat):Pm n (bubble p i j):=(bubble_perm p i j).toList.trans h
theorem vi(h:Pm n p):∀f m,OX n (λ_=>True) (kas_asc p f m)
 |0,m=>trivial
 |f+1,m=>#[h.at hn _,h.at hn _,λb=>by
  cases b
  .show vi h f _
  .show ttt]
theorem l9:∀f p m q,Pm n p->OX n (λr=>Pm n r.1) (kas_desc f p m q)
 |0,p,m,q,h=>h
 |f+1,p,m,q,h=>#[h.at hn _,h.at hn _,λb=>by
  cases b
  .show#[h.at hn _,h.at hn _,λb=>by
    cases b
    .show l9 f p _ _ h
    .show h]
  .split
   .show l9 f _ _ _ (h.rev _ _)
   .show l9 f _ _ _ h]
def w_(h:Pm n p)(m r):OX n (λx=>Pm n x.2) (kas_tail3 m r p):=by
 show OX.UW (λx _=>?_) (vi hn (h.rev _ _) _ _);show h.rev _ _
def xb(h:Pm n p)(m r):OX n (λx=>Pm n x.2) (kas_descPart m r p):=by
 show OX.UW (λx a=>?_) (l9 hn _ _ _ _ h);split
 .show w_ hn (a.rev _ _) _ _
 .show w_ hn a _ _
def AX(h:Pm n p)(r):OX n (λx=>Pm n x.2) (kas_count r p):=by
 show OX.UW (λm _=>?_) (vi hn h _ _);split
 .show h
 .split
  .show#[h.at hn _,h.at hn _,λb=>by
    cases b
    .show xb hn (h.rev _ _) _ _
    .show h]
  .show xb hn h _ _
theorem m_(h:Pm n p)(k):∀f l r,OX n (λ_=>True) (kas_place p k f l r)
 |0,l,r=>trivial
 |f+1,l,r=>by
  unfold kas_place;split
  .show ttt
  .show#[h.at hn _,h.at hn _,λb=>by
    cases b
    .show m_ h k f _ _
    .show m_ h k f _ _]
theorem AY:∀f p k,Pm n p->OX n (Pm n) (kas_bin f p k)
 |0,p,k,h=>h
 |f+1,p,k,h=>OX.UW (λl _=>AY f _ _ (h.bub _ _)) (m_ hn h _ _ _ _)
def xf:OX n (Pm n) (Tx n):=by
 show OX.UW (λx a=>?_) (AX hn  (by unfold Pm;simp) n);split
 .show AY hn _ _ _ a
 .show a
end
def ng(lt)(n):(kC lt (Tx n)).toList.Perm (ib n):=by
 cases n with
 |zero=>rfl
 |succ n=>show(xf (Nat.succ_pos n)).got
def yM(ho:s.heap.get? a≈u5 "list" vs.toArray n)(t:⇑vs<64)
  (f:2<=⇑vs->∀s1,(∀b o,b≠a->s.heap.get? b≈o->s1.heap.get? b≈o)->f6 (gs prog w) A (keyKind' vs.toArray) (λκ d=>d=s1/\∀i j,i<⇑vs->j<⇑vs->∀C:Bool->i4->Prop,C (lt i j) s1->ĝ prog w A κ vs i j C s1) (λ_ _=>False) s1)
  (h:P (.done (.ret .none)) {s with heap:=Ď s.heap a vs (((kC lt (Tx ⇑vs)).toList.map λi=>vs.getD i oD).toArray)}) :
  f6 (gs prog w) A (Ru.«list.sort» ⟨[.ref a],[]⟩) P E s:=by
 have O:a<↥s:=hW ho;have y:(64:Nat)<=c8:=⋯
 rw[list_sort_plain];show cL (Ý ho rfl (cL (Yb ho rfl ?_ (by rw[mu];lia) (kj _))));obtain⟨m,u⟩:∃m,(s.heap.update a (rS λ_=>(#v[]:Array g8))).get? a≈(u5 "list" #v[] m):=#[_,ł ho λ_=>#v[]]
 show cL (ü u rfl (cL (wpAny_newTuple (cL (Z_ (tv ?_) (kj _))) (by change ⇑vs<=_;lia))));have g:(((s.heap.update a (rS λ_=>(#v[]:Array g8))).push (u5 "tuple" vs.toArray 0)).push (u5 "list" #v[] 0)).get? a≈(u5 "list" #v[] m):=dt _ (dt _ u);have k:∀b o,b≠a->s.heap.get? b≈o->(((s.heap.update a (rS λ_=>(#v[]:Array g8))).push (u5 "tuple" vs.toArray 0)).push (u5 "list" #v[] 0)).get? b≈o:=λb o z e =>
  dt _ (dt _ (by rw[Ç _ _ _ _ z];show e))
 change f6 (gs prog w) A _ P E {s with heap:=((s.heap.update a (rS λ_=>(#v[]:Array g8))).push (u5 "tuple" vs.toArray 0)).push (u5 "list" #v[] 0)}
 dsimp only
 have B:⇑((kC lt (Tx ⇑vs)).toList.map λi=>vs.getD i oD)=⇑vs:=by rw[ei,(ng lt _).length_eq,â]
 by_cases c:vs.toArray.size<2
 .rw[ř c,ř c];show cL (dV ?_);rw[StateT.run_pure];show cL (dV ?_);have D:((kC lt (Tx ⇑vs)).toList.map λi=>vs.getD i oD).toArray=(vs.toArray.zip vs.toArray).map (·.2):=by
   have q:=ng lt ⇑vs;clear h f B k g ho t
   match vs,c,q with
   |[],_,q=>simp_all
   |[v],_,q=>simp_all
   |_::_::_,c,_=>simp at c;lia
  rw[D]at h
  dsimp only
  show cL (ü g rfl (cL (Yb g rfl ?_ (kj _) (by grind))));erw[bne_self_eq_false,XH,if_false];show dV h
 .rw[Ś c,Ś c];have l:2<=⇑vs:=by rw[mu]at c;lia
  show cL (lg (f l _ k) (λκ T hk=>?_) λ_ _ x=>x.elim);have(rfl,hk):=hk;show cL (lg (kat_run (κ:=κ) (ks:=vs) (vs:=vs) (G:=λp d=>p=kC lt (Tx ⇑vs)/\d={s with heap:=((s.heap.update a (rS λ_=>(#v[]:Array g8))).push (u5 "tuple" vs.toArray 0)).push (u5 "list" #v[] 0)})
   (Q:=λst' d=>∃p:Array Nat,arrOf st'=p.map (kas_item (vs.toArray.zip vs.toArray))/\failedOf st'=cb/\p=kC lt (Tx ⇑vs)/\d={s with heap:=((s.heap.update a (rS λ_=>(#v[]:Array g8))).push (u5 "tuple" vs.toArray 0)).push (u5 "list" #v[] 0)})
   rfl l t (λp st' d Y H I J=>#[p,H,I,J]) (OX.wp hk (xf ⋯) #[rfl,rfl])) ?_ λ_ _ e=>e)
  rintro⟨⟨⟩,st'⟩ d ⟨p,r,L,rfl,rfl⟩
  dsimp only
  have N:=kat_snds rfl r;rw[N,L];show cL (ü g rfl (cL (Yb g rfl ?_ (kj _) (by grind))));erw[bne_self_eq_false,XH,if_false];show dV h
@[reducible]noncomputable def HP:=Str×Int
abbrev S8(ks:↑Str)(i j:Nat):Bool:=df ((~~~(ks.getD i nH))<(~~~(ks.getD j nH)))
abbrev lR(ks:↑Str):↑Nat:=(kC (S8 ks) (Tx ⇑ks)).toList
def iH(ks):(lR ks).Perm (ib ⇑ks):=ng _ _
abbrev KP(x:Str)(n:Int)(t u:Tok):Obj:={cls:=.type "tuple",data:=.seq #v[.str x t,.int n u]}
abbrev gF(h:K2)(as:↑hH)(ps:↑HP):Prop:=⇑as=⇑ps/\∀(j:Nat) (a:hH),as[j]?≈a->∃p t u,ps[j]?≈p/\h.get? a≈KP p.1 p.2 t u
def gF.keeps(x:gF h as ps)(k:∀b o,b∈as->h.get? b≈o->h'.get? b≈o):gF h' as ps :=
 #[x.1,λj a e=>let ⟨p,t,u,c,d⟩:=x.2 j a e;⟨p,t,u,c,k a _ (nT e) d⟩]
def gF.tail(x:gF h (a::as) (p::ps)):gF h as ps :=
 #[by have:=x.1;simpa using this,λj b e=>by
  have(q,t,u,d,c):=x.2 (j+1) b (by exists e);show#[q,t,u,by assumption,c]]
theorem gF.gQ:∀{as}{ps},gF h as ps->∃b,KatTups h (as.map ku) b/\⇑b=⇑as/\∀v∈b,∃x t,v=y6 x t
 |[],_,_=>#[[],KatTups.nil,rfl,by simp]
 |a::as,[],x=>by have:=x.1;simp_all
 |a::as,p::ps,x=>by
  have(b,c,d,e):=gF.gQ x.tail;have(q,t,u,g,f):=x.2 0 a rfl;show#[.str q.1 t::b,KatTups.cons f rfl rfl rfl c,by simp[d],λv hv=>?_];rcases eT.mp hv with rfl|hv
  .show#[_,_,rfl]
  .show e v hv
theorem pv:∀{l:↑α}{m}{i:Nat}{x},Paired F l m->l[i]?≈x->∃y,m[i]?≈y/\F x y
 |_,_,_,_,.nil,e=>by simp at e
 |_,_,0,_,.cons r _,e=>by simp_all
 |_,_,i+1,x,.cons _ t,e=>by
  have(u,b,a):=pv   t (by exists e);show#[u,by assumption,a]
def HQ(x:gF s.heap as ps)(d:(ps.map (·.1)).Nodup)(hi:i<⇑as)(e:j<⇑as)(q:C (S8 (ps.map (·.1)) i j) s):
  ĝ prog w A (tuples' b6) (as.map ku) i j C s:=by
 have(p,t,u,b,f):=x.2 i as[i] ⋯;have(c,t',u',a,g):=x.2 j as[j] ⋯;have hl:=x.1;have k:i<⇑ps:=⋯
 have l:j<⇑ps:=⋯
 have m:(as.map ku).getD i oD=.ref as[i]:=by simp[S3,hi]
 have n:(as.map ku).getD j oD=.ref as[j]:=by simp[S3,e]
 have o:(ps.map (·.1)).getD i nH=p.1:=by simp[S3,b]
 have r:(ps.map (·.1)).getD j nH=c.1:=by simp[S3,a]
 unfold ĝ;rw[m,n];show kat_lt  f rfl g rfl ?_;unfold S8 at q;rw[o,r]at q;show kat_cons (Ĩ ?_);by_cases h:p.1=c.1
 .have v:i=j:=by
   have y:(ps.map (·.1))[i]'⋯=(ps.map (·.1))[j]'⋯:=by
    simp_all
   show(ê d).mp y
  subst v;rw[b]at a;cases a;rw[ŝ rfl];show kat_yes (kat_cons (ĩ ?_));rw[show(p.2==p.2)=b6 by simp];have:df ((~~~p.1)<(~~~p.1))=cK:=ś (List.lt_irrefl _);rw[this]at q;show q
 .rw[ś h];show kat_no (oneLt_str q)
def HR(x:gF s.heap as ps)(b:(ps.map (·.1)).Nodup)(g:2<=⇑as):
  f6 (gs prog w) A (keyKind' (as.map ku).toArray) (λκ c=>c=s/\∀i j,i<⇑(as.map ku)->j<⇑(as.map ku)->∀C,C (S8 (ps.map (·.1)) i j) s->ĝ prog w A κ (as.map ku) i j C s) (λ_ _=>False) s:=by
 have(h,d,k,e):=x.gQ;show kat_kind (T:=.type "str") d ⋯ (λv f=>?_) rfl ⟨rfl,λi j hi a C q=>?_⟩
 .have(y,t,rfl):=e v f;show Looks.of_pure rfl
 .rw[ei]at hi a;show HQ x b hi a q
abbrev lU(H:Hp):↑(hH×↑V)->Hp
 |[]=>H
 |(a,vs)::r=>upd (lU H r) a (.tup vs)
theorem nh:∀{l}{b}{o},lU H l b≈o->(∃vs,(b,vs)∈l/\o=.tup vs)\/H b≈o
 |[],b,o,h=>.inr h
 |(a,vs)::r,b,o,h=>by
  by_cases c:b=a
  .subst c;rw[lU,aj]at h;simp_all
  .rw[lU,ai c]at h;rcases nh h with⟨ws,d,e⟩|q
   .show .inl #[ws,by simp[d],e]
   .show .inr q
theorem ni:∀{l}{b},(∀p∈l,p.1≠b)->lU H l b=H b
 |[],b,_=>rfl
 |(a,vs)::r,b,h=>by
  rw[lU,ai (mh (h _ il))];show ni λp c=>h p (by simp[c])
theorem xg:∀{l}{b}{vs},(l.map (·.1)).Nodup->(b,vs)∈l->lU H l b≈.tup vs
 |(a,ws)::r,b,vs,d,h=>by
  have c:a∉r.map (·.1)/\(r.map (·.1)).Nodup:=by exists d
  rcases eT.mp h with h|h
  .cases h;show aj
  .have:b≠a:=λz=>c.1 (by rw[<-z];show j0.mpr #[_,h,rfl]);rw[lU,ai this];show xg c.2 h
def Inv.many(I:Inv X pins σ H s)(k:∀b u,s.heap.get? b≈u->h'.get? b≈u)(a:∀b o,H b≈o->H' b≈o)
  (hn:∀b o,H' b≈o->H b≈o\/(↥s<=b/\cE X.prog X.w H' h' b o)):Inv X pins σ H' {s with heap:=h',toks:=t' }:=by
 show I.un #[λb u q _ _ _=>k b u q,λb u q _ _ _=>#[_,k b u q],λb u q n _=>?_,λb u q _=>#[u,k b u q],λb xs q=>a b _ q,λb u xs q=>a b _ q,λb ps q=>#[#v[],by rw[a b _ q];simp]] λb o e=>?_
 .cases e:H' b with
  |none=>rfl
  |some o =>
   rcases hn b o e with z|⟨z,_⟩
   .simp_all
   .show absurd (jn (hW q) z) (td _)
 .rcases hn b o e with z|⟨_,z⟩
  .show(I.Nr b o z).lO (λc v _ q=>k c v q) (λc q=>a c _ q) λc xs q=>a c _ q
  lia
abbrev RL(p:HP):↑V:=[.str p.1,.int p.2]
def qI{ps:↑HP}(hc:X.calm=b6)(I:Inv X pins σ H s)(e:H d≈.dK (ps.map λp=>((nc p.1:Key),V.int p.2)))(NI:(ps.map (·.1)).Nodup)(R9:⇑ps<64)
  (q:∀as L,⇑as=⇑ps->as.Nodup->(∀a∈L::as,H a=cb)->L∉as->Q (.ref L) (upd (lU H (as.zip (ps.map RL))) L (.lst ((lR (ps.map (·.1))).map λi=>V.ref (as.getD i 0))))) :
  ‹X› (Qo (.builtin "dict.items") [.ref d]) (λv s1=>‹X› (Qo (.builtin "sorted") [v]) (EP X pins σ Q) X.xe s1) X.xe s:=by
 have am:(64:Nat)<=c8:=⋯
 have(hz,lo,vs,kv,dd):=Gj I.Nr e;have B:⇑vs=⇑ps:=by
  have:=Paired.length kv;exists this.symm
 have(o,es,ep,n):=id dd;show Ñ F.slot_dict_items (show s.TypeIs (.ref d) "dict" from#[o,n.1,n.2.1.1]) F.entry_dict_items (F.args_dict_items_1 _) (meets_dict_items (bz X.prog X.w) d lo) #[#[vs,dd],?_];change ‹X› (Qo (.builtin "sorted") [.ref ↥s]) (EP X pins σ Q) X.xe {s with heap:=s.heap.push {cls:=.type "dict_items",data:=.fields #v[.ref d]}};have k1:∀b u,s.heap.get? b≈u->(s.heap.push {cls:=.type "dict_items",data:=.fields #v[.ref d]}).get? b≈u:=λb u z=>dt _ z;have an:(s.heap.push {cls:=.type "dict_items",data:=.fields #v[.ref d]}).DictOf (bz X.prog X.w) d vs:=#[o,es,ep,k1 _ _ n.1,n.2]
 have OK:(s.heap.push {cls:=.type "dict_items",data:=.fields #v[.ref d]}).DictAt (bz X.prog X.w) d vs ep:=#[o,es,k1 _ _ n.1,n.2]
 show YN kind_sorted plain_sorted entry_sorted (args_sorted1 _) ?_;unfold Ru.«sorted»;show cL (m:=checkCount "sorted" 1 1 _) (dV ?_);show cL (kdx_collect (A:=X.A.in1) (knd:=bz X.prog X.w) (kvs:=vs) (ep:=ep) (I.ok.hd hc) #[_,gj _ rfl,rfl,rfl] OK ⋯ λc tk as hk hl G=>?_);have J:⇑as=⇑ps:=hl.trans B;have f:∀a∈as,↥s<=a:=λa ha=>by
  have:=G.above a ha;have z:(s.heap.push {cls:=.type "dict_items",data:=.fields #v[.ref d]}).objs.size=↥s+1:=Yn ..
  grind
 have pa:gF c as ps:=#[J,λj a ea=>by
  have(key,k,x,O,T,e3):=G.pairs j a ea;have r:j<⇑ps:=by rw[<-J];show(eH.mp ea).1
  have(y,ey,r1,r2):=pv kv (i:=j) (x:=((nc ps[j].1:Key),V.int ps[j].2)) (by simp[r]);rw[O]at ey;cases ey;obtain⟨tx,rfl⟩:∃t,x=.int ps[j].2 t:=r2;have Y:k=nc ps[j].1:=r1.symm;subst Y;have(t,rfl):=Z3 (x:=ps[j].1) (v:=key) T;show#[ps[j],t,tx,by simp[r],e3]]
 have nd:as.Nodup:=G.rise.imp λh=>i9 h;show cL (Z_ ?_ (by rw[ei];lia));have R4:(c.push (u5 "list" (as.map ku).toArray 0)).get? c.objs.size≈u5 "list" (as.map ku).toArray 0:=gj _ rfl;change f6 _ _ _ _ _ {s with heap:=c.push (u5 "list" (as.map ku).toArray 0),toks:=tk};have C:∀a∈as,a<c.objs.size:=λa ha=>G.there ha;show cL (tv (tj slot_list_sort #[_,R4,rfl] entry_list_sort (yM (lt:=S8 (ps.map (·.1))) R4 (by rw[ei];lia) (λh2 s1 ks=>?_) ⟨_,rfl,?_⟩) (Ŗ _)))
 .show HR (pa.keeps λb o N z=>ks b o (i9 (C b N)) (dt _ z)) NI (by rw[ei]at h2;show h2)
 .have(ee,he):=sortedHeap_at (out:=((kC (S8 (ps.map (·.1))) (Tx ⇑(as.map ku))).toList.map λi=>(as.map ku).getD i oD).toArray) R4;have g:∀b o,c.get? b≈o->(Ď (c.push (u5 "list" (as.map ku).toArray 0)) c.objs.size (as.map ku) ((kC (S8 (ps.map (·.1))) (Tx ⇑(as.map ku))).toList.map λi=>(as.map ku).getD i oD).toArray).get? b≈o:=λb o z=>by
   have Oa:b<c.objs.size:=hW z;rw[œ (i9 Oa) (by rw[Yn];show Sf Oa)];show dt _ z
  have TZ:↥s<=c.objs.size:=Q_ (hW (hk _ _ (gj _ rfl)));have eP:((kC (S8 (ps.map (·.1))) (Tx ⇑(as.map ku))).toList)=lR (ps.map (·.1)):=by
   unfold lR;rw[ei,ei,J]
  have UY:H c.objs.size=cb:=I.Nr.fresh TZ;have ab:c.objs.size∉as:=λz=>td _ (C _ z);have D:∀a∈as,H a=cb:=λa ha=>I.Nr.fresh (f a ha);have YS:∀{b:hH} {ws:↑V},(b,ws)∈as.zip (ps.map RL)->b∈as:=λz=>(TU z).1;show dV #[_,rfl,.ref c.objs.size,upd (lU H (as.zip (ps.map RL))) c.objs.size (.lst ((lR (ps.map (·.1))).map λi=>V.ref (as.getD i 0))),?_,rfl,q as _ J nd (λa ha=>?_) ab]
  .show I.many (λb u z=>g b u (hk b u (k1 b u z))) (λb o z=>?_) λb o z=>?_
   .have n1:b≠c.objs.size:=λy=>by rw[y,UY]at z;cases z
    rw[ai n1,ni λp hp y=>?_]
    .show z
    .have:=D p.1 (YS (b:=p.1) (ws:=p.2) hp);rw[y,z]at this;cases this
   .by_cases N:b=c.objs.size
    .subst N;rw[aj]at z;cases z;show .inr #[TZ,by rw[ei,(iH _).length_eq,â,ei];lia,(lR (ps.map (·.1))).map λi=>(as.map ku).getD i oD,ee,?_,?_]
     .have Po:∀i∈lR (ps.map (·.1)),i<⇑as:=λi hi=>by
       have:=uv.mp ((iH _).mem_iff.mp hi);rw[ei]at this;lia
      generalize lR (ps.map (·.1))=l at Po;induction l with
      |nil=>show .nil
      |cons i l ih =>
       show .cons ?_ (ih λj r=>Po j (by simp[r]));have hi:=Po i ⋯;change RelV (.ref (as.getD i 0)) ((as.map ku).getD i oD);have:(as.map ku).getD i oD=.ref (as.getD i 0):=by simp[S3,hi]
       rw[this];rfl
     .rw[<-eP];show he
    .rw[ai N]at z;rcases nh z with⟨ws,z1,rfl⟩|z1
     .have(j,r,ej):=Wr.mp z1;have YT:j<⇑as:=by simp at r;lia
      have ac:j<⇑ps:=⋯
      have al:as[j]=b/\RL ps[j]=ws:=by exists ej
      have(rfl,rfl):=al;have(p,t,u,O,T):=pa.2 j as[j] (by simp[YT]);have:p=ps[j]:=by simpa[ac] using O.symm
      subst this;show .inr #[f _ ⋯,by change 2<=c8;lia,[.str ps[j].1 t,.int ps[j].2 u],.cons #[t,rfl] (.cons #[u,rfl] .nil),_,g _ _ T,rfl,0,rfl]
     .show .inl z1
  .rcases eT.mp ha with rfl|ha
   .show UY
   .show D a ha
def yN{vs:↑(Key×g8)}(hk:vs.map (·.1)=ks.map nc)(hl:⇑a=⇑vs)(h:∀(j:Nat) v,a[j]?≈v->∃k x,vs[j]?≈(k,x)/\(bz P w).is k v=b6):VU a ks:=by
 induction a generalizing ks vs with
 |nil =>
  cases vs with
  |nil=>cases ks with
   |nil=>show .nil
   |cons _ _=>cases hk
  |cons _ _=>cases hl
 |cons v a c =>
  cases vs with
  |nil=>cases hl
  |cons p vs =>
   cases ks with
   |nil=>cases hk
   |cons k ks =>
    erw[i6,SO]at hk;have(k',x,b,d):=h 0 v rfl;erw[List.getElem?_cons_zero,Y2]at b;subst b;have f:=hk.1;subst f;rcases bI (show mJ (nc k) v=b6 from d) with⟨i,t,e,rfl⟩|⟨y,t,e,rfl⟩
    .cases e
    .cases e;show .cons _ _ (c hk.2 (by exists hl) λj u g=>h (j+1) u (by assumption))
def kD:X.calm=b6->gD X (.builtin "sorted") (λxs H Q=>∃d kvs ks,xs=[.ref d]/\Rd H d (.dK kvs)/\kvs.map (·.1)=ks.map nc/\⇑ks<64/\∀q,H q=cb->Q (.ref q) (upd H q (.lst ((b_ ks).map V.str)))):=by
 intro k pins s σ H xs us Q I rs h;have(d,kvs,ks,rfl,e,hk,D,q):=h;have(u,rfl,r):=vals1 rs;cases r;have(hz,lo,vs,kv,dd):=k8 I.Nr e;have a:⇑vs=⇑kvs:=(Paired.length kv).symm;have l:⇑kvs=⇑ks:=by rw[<-ei (f:=(·.1)),hk,ei]
 have b:vs.map (·.1)=ks.map nc:=by
  rw[<-hk];clear dd a hk l e q hz;induction kv with
  |nil=>rfl
  |cons r _ m=>rw[i6,i6,m,r.1]
 have(o,es,ep,n):=id dd;have p:(64:Nat)<=c8:=⋯
 show jj (kdu_collect (A:=X.A.in1) (kdl_dict (knd:=bz X.prog X.w) (kvs:=vs) (ep:=ep) lo) (I.ok.hd k) #[o,es,n] ⋯ λh' tk t x c=>#[ks,yN b (by rw[p7];show c.1) (λj v y=>c.2 j v (by rw[<-Zg];show y)),by rw[p7,c.1];lia,λG z B k2 g C=>?_]);have i:Inv X pins σ H {s with heap:=h',toks:=tk}:=I.kept (t':=tk) x;show#[.ref h'.objs.size,_,i.laid (t':=tk) (o:=.lst ((b_ ks).map V.str)) k2 (hY _) #[by rw[ei,jK];lia,z,B,fY C,g],rfl,q _ (i.Nr.fresh (hY _))]
end L2
namespace L2
open PySem PySem.Spec PyProof.Rows
def AZ:TL X "str.join" (λx xs H Q=>∃a p ys,x=.str a/\xs=[.ref p]/\Oc X.K H p (ys.map V.str)/\Vn a ys=b6/\Q (.str (ri a ys)) H):=by
 intro pins s σ H x xs v us Q I c rs h;have(a,p,ys,rfl,rfl,d,b,q):=h;have(t,rfl):=c;have(u,rfl,r):=vals1 rs;cases r;have(m,rv,f,hz):=I.tuple d;have(l,rfl,e):=fX rv;subst e;unfold Vn at b;rw[mN]at b;have(o,g,i,n,j):=f;show Rh F.slot_str_join (Q' _ _ _) F.entry_str_join (F.args_str_join_2 _ _) (meets_str_join_tuple a t p l b) #[#[o,n,g,i,j],post_join l #[joinFit_length b,λt' k=>#[.str _,H,I.tok k,#[_,rfl],q]]]
theorem xh:∀{bs:↑Bool}{us},Vals (bs.map V.bl) us->us=bs.map Uu
 |[],_,.nil=>rfl
 |_::_,_,.cons r t=>by rw[r,xh t];rfl
abbrev HS(b:Bool):g8->Bool
 |.bool c=>c==b
 |_=>cK
abbrev vj:V->↑V->Hp->VK->Prop:=λx vs H Q=>∃(l:hH) (bs:↑Bool) (b:Bool) (j:Nat),x=.ref l/\vs=[.bl b]/\H l≈.lst (bs.map V.bl)/\bs[j]?≈b/\(∀m,m<j->bs[m]?≠bD b)/\Q (.int j) H
def A0:WR X "list.index" vj:=by
 intro pins s σ H x vs v us Q I a rv h;have(l,bs,b,j,rfl,rfl,d,f,g,q):=h;cases a;have(u,rfl,i):=rv.one;cases i;have(z,t,n,r,hl,e):=I.DY d;obtain rfl:=xh r;have(w,k):=eH.mp f;have hz:c8<2 ^ 62:=⋯
 rw[ei]at z;show Rh F.slot_list_index #[_,e,rfl] F.entry_list_index (F.args_list_index_2 _ _) (SeqAt.list_indexAt l _ n cb #v[] _ (HS b) j ⋯ ⋯ (by simp[HS,k]) (λm A o=>?_)) ⟨e,λy p=>?_,?_⟩
 .have B:m<⇑bs:=⋯
  have:=g m o;erw[HS];simp_all
 .have(c,_,rfl):=j0.mp (List.mem_toArray.mp p);show SeqAt.EqAt.bool_bool c b
 .show#[.int j,H,I.tok _,#[_,rfl],q]
end L2
namespace L2
open PySem PyProof.Rows PySem.W
abbrev Tr(h base:K2)(e:hH)(cl a:g8):Prop:=∃oe vs T oT ts,h.get? e≈oe/\oe.cls=cl/\oe.data=.fields vs/\vs[2]?≈.none/\vs[1]?≈.ref T/\base.get? T=cb/\T≠e/\h.get? T≈oT/\oT.data=.fields ts/\ts[3]?≈a
section
variable{M:Model}{A:Ui}{E:g8->i4->Prop}{s:i4}{base:K2}{env:Env}{outer l:List Env}{L e:hH}{oe:Obj}{vs:Array g8}{cl fl:g8}{Q:Unit->i4->Prop}
def jo{h:K2}(d:h.get? a≈o)(f:o.data=.fields ws)(g:h.get? b≈c)(hn:∀vs,c.data≠.fields vs):b≠a:=λz=>by
 simp_all
def qJ{o:Obj}(a:o.data=.fields ws):(o.mapFields (·.setIfInBounds j x)).data=.fields (ws.setIfInBounds j x):=K1 a _
def qK{h:K2}(j)(x)(c:h.get? a≈o)(d:o.data=.fields ws):(h.update a (TC (·.setIfInBounds j x))).get? a≈o.mapFields (·.setIfInBounds j x)/\∀b,b≠a->(h.update a (TC (·.setIfInBounds j x))).get? b=h.get? b :=
 #[ro _ c (SR (qJ d)),λb f=>tr _ _ (mh f)]
def sJ(t:A.frames≈(env::outer))(hl:s.heap.FunFrames base (env::outer))(u:env.frame≈L)(f:s.heap.get? e≈oe)(v:base.StaysIn s.heap)(B:base.get? e=cb)(a:oe.data=.fields vs)(hsz:1<vs.size)(C:vs[2]?≈.none)
  (h:∀h',base.StaysIn h'->h'.FunFrames base (env::outer)->Tr h' base e oe.cls (To L)->s.heap.UpToSlots h'->Q () {s with heap:=h' }) :
  f6 M A (do setField (.ref e) 1 (<-EntryCells.newEntry i (<-frameOf env) .none (To L) .none (<-entryPlaceOf L D))) Q E s:=by
 show cL (wpAny_frameOf_fun t hl u λk hk=>cL (wpAny_entryPlaceOf λG w=>?_));show cL (pj ?_ (w.sizeOk5 _ _ _ _ _));have j:=(hk.2.1 e λz=>let ⟨_,o,ho,hn⟩:=hl.mem z;jo f a ho hn rfl).trans f;have m:base.StaysIn k:=λb o q=>(hk.2.1 b λz=>by rw[(hl.mem z).1]at q;cases q).trans (v b o q);generalize n:(Obj.mk (.type "traceback") cb _ #v[])=tb;have p:=dt (h:=k) tb j;have x:(k.push tb).get? k.objs.size≈tb:=gj k (by subst n;rfl);have c:k.objs.size≠e:=DD (hW j);have(y,g):=qK 1 (.ref k.objs.size) p a;show y9 p a hsz (h _ (λb o q=>(g b λz=>by simp_all).trans (dt _ (m b o q))) (hl.of_keeps λb o d hn=>?_) ⟨_,_,k.objs.size,tb,_,y,X9 _ _,qJ a,by simp_all,by simp[hsz],m.fresh,c,(g _ c).trans x,by subst n;rfl,?_⟩ λb o d hn=>?_)
 .have(r,q):=hk.2.2 b o d;show#[_,(g b (jo f a d hn)).trans (dt _ q),rfl]
 .rfl
 .have(r,q):=hk.2.2 b o d;show#[r,(g b (jo f a d hn)).trans (dt _ q)]
def Ea(k:A.frames≈(env::outer))(hl:s.heap.FunFrames base (env::outer))(j:env.frame≈L)(f:s.heap.get? e≈oe)(m:base.StaysIn s.heap)(n:base.get? e=cb)(g:oe.data=.fields vs)(p:vs[2]?≈.none)
  (a:vs[1]?≈.none\/∃T oT ts,vs[1]?≈.ref T/\base.get? T=cb/\T≠e/\s.heap.get? T≈oT/\oT.data=.fields ts/\ts[3]?≈.none)
  (h:∀h',base.StaysIn h'->h'.FunFrames base (env::outer)->Tr h' base e oe.cls (To L)->s.heap.UpToSlots h'->Q () {s with heap:=h' }):f6 M A (ī (.ref e) env) Q E s:=by
 unfold ī;erw[j];rcases a with a|⟨T,oT,ts,a,v,t,c,d,r⟩
 .show cL (p9 f g a ?_);rw[Ś ⋯];show sJ k hl j f m n g (H8.mp a).1 p h
 .show cL (p9 f g a ?_);rw[ř ⋯];show cL (p9 c d r ?_);have(w,i):=qK 3 .none c d;show cL (y9 c d (H8.mp r).1 ?_);show sJ (s:={s with heap:=_}) k (hl.of_keeps λb o q hn=>#[o,(i b (jo c d q hn)).trans q,rfl]) j ((i e (mh t)).trans f) (λb o q=>(i b λz=>by simp_all).trans (m b o q)) n g (H8.mp a).1 p λh' k1 k2 k3 u=>h h' k1 k2 k3 λb o q hn=>u b o ((i b (jo c d q hn)).trans q) hn
def Eb(k:base.StaysIn s.heap)(hl:s.heap.FunFrames base l)(m:Tr s.heap base e cl fl)
  (h:∀h',base.StaysIn h'->h'.FunFrames base l->Tr h' base e cl .none->s.heap.UpToSlots h'->Q () {s with heap:=h' }):f6 M A (setFlight (.ref e) cb) Q E s:=by
 have(oe,vs,T,oT,ts,f,n,g,p,i,r,j,c,a,t):=m;have(u,d):=qK 3 _ c a;have hz:=(H8.mp t).1;show cL (p9 f g i ?_);show y9 c a hz (h _ (λb o q=>(d b λz=>by simp_all).trans (k b o q)) (hl.of_keeps λb o q hn=>#[o,(d b (jo c a q hn)).trans q,rfl]) ⟨oe,vs,T,_,_,(d e (mh j)).trans f,n,g,p,i,r,j,u,qJ a,by simp[hz]⟩ λb o q hn=>#[_,(d b (jo c a q hn)).trans q])
end
abbrev MT(h:K2)(e C:hH)(T:Option hH)(a:g8):Prop:=∃oe vs,h.get? e≈oe/\oe.cls=.ref C/\oe.data=.fields vs/\vs[2]?≈.none/\match T with
 |none=>vs[1]?≈.none
 |some T=>T≠e/\vs[1]?≈.ref T/\∃oT ts,h.get? T≈oT/\oT.data=.fields ts/\ts[3]?≈a
structure cu(P:sd)(w:wk)(stack:↑Env)(H:Hp)(s:i4)(e C:hH)(T:Option hH)(fl:g8)(H':Hp)(s':i4):Prop where
 os:s'.os=s.os
 bare:VV s'.gens
 un:Un (Ot stack) [] H H' s.heap s'.heap
 Nr:OE P w H' s'.heap
 new:s.heap.get? e=cb
 he:H' e=cb
 exc:MT s'.heap e C T fl
 hT:∀a,T≈a->s.heap.get? a=cb/\H' a=cb
abbrev Pw(P:sd)(w:wk):TJ:=λouter H s E v a=>∃e C T H',v=.ref e/\cu P w outer H s e C (bD T) .none H' a/\E (.ref C) cb H'
def cE.there(x:cE P w H h a o):∃u,h.get? a≈u:=by
 cases o with
 |lst xs=>have(_,_,_,_,e):=x;show#[_,e]
 |tup xs=>have(_,_,_,_,e,_):=x;show#[_,e]
 |set S n=>have(o,_,_,_,e,_):=x;show#[_,e]
 |ins C c b=>have(_,_,_,e,_):=x;show#[_,e]
 |own y=>show x
 |xd b=>have(_,(_,_,_,e,_),_):=x;show#[_,e]
 |WG lo hi=>have(_,_,_,e):=x;show#[_,e]
 |Pa d u=>show#[_,x.1]
 |SH ps=>show#[_,x]
 |met f y=>show#[_,x]
 |ext φ=>show x.2.1
 |_=>have(_,_,_,_,o,_,_,e,_):=x;show#[_,e]
section
variable{P:sd}{w:wk}{stack outer:List Env}{H H':Hp}{s s':i4}{e C L:hH}{T:Option hH}{fl:g8}{base:K2}{env:Env}{M:Model}{A:Ui}{E:g8->i4->Prop}{Q:Unit->i4->Prop}
theorem xj(u:Un (Ot stack) [] H H' s.heap s'.heap)(a:∀b∈Ot stack,H b=cb):∀l,(∀b∈Ot l,b∈Ot stack)->s.heap.FunFrames base l->s'.heap.FunFrames base l
 |[],_,_=>trivial
 |env::l,hs,⟨hk,⟨L,o,c,hn,ho,d⟩,f⟩=>by
  have g:Ot (env::l)=L::Ot l:=by unfold Ot;simp_all
  rw[g]at hs;have(i,q):=u.any ho (a L (hs L il)) λz=>nomatch z
  show#[hk,#[L,_,c,hn,q,d],xj u a l (λb h=>hs b (f7 _ h)) f]
def cu.next(F:cu P w stack H s e C T fl H' s')(x:s.heap.FunFrames base stack)(y:∀b∈Ot stack,H b=cb)(N:B=hideAll s'.heap (e::(T.toList++Ot stack))):
  B.StaysIn s'.heap/\s'.heap.FunFrames B stack/\B.get? e=cb/\(∀a,T≈a->B.get? a=cb) /\
   ∀h' l,B.StaysIn h'->h'.FunFrames B stack->Tr h' B e (.ref C) l->s'.heap.UpToSlots h'->∃d,cu P w stack H s e C (bD d) l H' {s' with heap:=h' }:=by
 have g:=xj F.un y _ (λ_ z=>z) x;subst N;show#[λb o q=>of_hideAll _ q,funFrames_hide g λO Y a h2=>f7 _ (pz _ (RA.mpr #[O,Y,h2])),hideAll_none _ il,λa z=>hideAll_none _ (f7 _ (TN _ (by simp[z]))),λh' l k1 k2 ⟨m,NZ,d,p,r,b1,b2,b3,b0,b4,b5,D,b7,b8,b9⟩ k4=>?_];have t:∀a,a∈e::(T.toList++Ot stack)->H' a=cb:=λa ha=>by
  rcases eT.mp ha with rfl|ha
  .show F.he
  rcases i7.mp ha with ha|ha
  .show(F.hT a (by exists ha)).2
  .have(_,o,ho,_):=x.mem ha;show F.un.free a o ho (y a ha) λz=>nomatch z
 have keep:∀b o,b∉e::(T.toList++Ot stack)->s'.heap.get? b≈o->h'.get? b≈o:=λb o c q=>k1 b o (hideAll_get _ q c);have slot:∀b o,b∈Ot stack->s'.heap.get? b≈o->∃G,h'.get? b≈{o with slots:=G}:=λb o c q=>by
  have(_,v,h,hn):=g.mem c;rw[q]at h;cases h;show k4 b o q hn
 have i:∀b o,s.heap.get? b≈o->b∉Ot stack->b∉e::(T.toList++Ot stack):=λb o q c z=>by
  rcases eT.mp z with z|z
  .rw[z,F.new]at q;cases q
  rcases i7.mp z with z|z
  .rw[(F.hT b (by exists z)).1]at q;cases q
  .show c z
 have tn:s.heap.get? d=cb/\H' d=cb:=by
  by_cases z:d∈e::(T.toList++Ot stack)
  .rcases eT.mp z with z|z
   .show absurd z D
   rcases i7.mp z with z|z
   .show F.hT d (by exists z)
   .have(_,v,h,hn):=k2.mem z;simp_all
  .have q:s'.heap.get? d=cb:=by
    cases q:s'.heap.get? d with
    |none=>rfl
    |some o=>have:=hideAll_get _ q z;simp_all
   show#[?_,?_]
   .cases f:s.heap.get? d with
    |none=>rfl
    |some o=>have(v,I):=F.un.there _ o f λz=>nomatch z;rw[q]at I;cases I
   .cases f:H' d with
    |none=>rfl
    |some u =>
     have(o,z):=(F.Nr d u f).there;rw[q]at z;cases z
 show#[d,F.os,F.bare,#[λb o q n c j=>keep b o (i b o q c) (F.un.keep b o q n c j),λb o q n c j=>?_,F.un.free,λb o q j=>?_,F.un.gQ,F.un.OF,F.un.ON],λa u q=>(F.Nr a u q).lO (λb o c h=>?_) (λ_ z=>z) λ_ _ z=>z,F.new,F.he,#[m,NZ,b1,b2,b3,b0,D,b4,p,r,b7,b8,b9],λa z=>by cases z;show tn]
 .have(G,k):=F.un.slot b o q n c j;have(J,f):=slot b _ c k;show#[J,f]
 .have(v,k):=F.un.there b o q j;by_cases c:b∈Ot stack
  .have(J,f):=slot b _ c k;show#[_,f]
  .show#[_,keep b _ (i b o q c) k]
 .show keep b o (λz=>?_) h;have:=t b z;simp_all
def cu.note(F:cu P w (env::outer) H s e C T .none H' s')(f:A.frames≈(env::outer))(g:env.frame≈L)(i:s.heap.FunFrames base (env::outer))(j:∀b∈Ot (env::outer),H b=cb)
  (h:∀a c,cu P w (env::outer) H s e C (bD a) (To L) H' c->Q () c):f6 M A (ī (.ref e) env) Q E s':=by
 have(oe,vs,k,l,m,h0,d):=F.exc;have(n,o,p,q,r):=F.next i j rfl;show Ea f o g k n p m h0 ?_ λh' k1 k2 k3 t=>?_
 .cases T with
  |none=>show .inl d
  |some T=>have(u,v,oT,ts,x,y,B):=d;show .inr #[T,oT,ts,v,q T rfl,u,x,y,B]
 .have(a,z):=r h' _ k1 k2 (l▸k3) t;show h _ _ z
def cu.land{T}(F:cu P w stack H s e C (bD T) fl H' s')(d:s.heap.FunFrames base stack)(f:∀b∈Ot stack,H b=cb)
  (h:∀a c,cu P w stack H s e C (bD a) .none H' c->Q () c):f6 M A (setFlight (.ref e) cb) Q E s':=by
 have(oe,vs,g,i,j,h0,k,l,oT,ts,m,n,o):=F.exc;have(p,q,v,r,t):=F.next d f rfl;show Eb p q #[oe,vs,T,oT,ts,g,i,j,h0,l,r T rfl,k,m,n,o] λh' k1 k2 k3 u=>?_;have(a,z):=t h' _ k1 k2 k3 u;show h _ _ z
def cu.leave(F:cu P w (env::outer) H s e C T .none H' s')(g:A.frames≈(env::outer))(i:env.frame≈L)(c:s.heap.FunFrames base (env::outer))(d:∀b∈Ot (env::outer),H b=cb)
  (h:∀f a,cu P w (env::outer) H s e C (bD f) .none H' a->Q () a):f6 M A (leaving env (.ref e)) Q E s' :=
 cL (F.note g i c d λf a j=>j.land c d h)
end
def cu.down(I:Inv X pins σ H s)(p:X.ex=[])(hs:X.stack=X.env::X.outer)(r:X.env.frame≈X.env.locals)(F:cu X.prog X.w X.stack H s e C T k H' l):cu X.prog X.w X.outer X.H₀ X.s₀ e C T k H' l:=by
 have nx:∀b ,b∉X.ex:=λb z=>by simp_all
 have i:Ot X.stack=X.env.locals::Ot X.outer:=by unfold Ot;simp_all
 have c:∀b,s.heap.get? b=cb->X.s₀.heap.get? b=cb:=λb q=>by
  cases z:X.s₀.heap.get? b with
  |none=>rfl
  |some o=>have(g,z):=I.base.there b o z (nx b);simp_all
 have hl:∀b o,X.s₀.heap.get? b≈o->b≠X.env.locals:=λb o q=>i9 (jn (hW q) I.ok.above);have h:∀b:hH,b∉[]:=λb z=>nomatch z
 show#[F.os.trans I.os,F.bare,#[λb o q n f _=>?_,λb o q n f _=>?_,λb o q n _=>?_,λb o q _=>?_,λb xs q=>F.un.gQ b xs (I.base.gQ b xs q),λb o u q=>F.un.OF b o u (I.base.OF b o u q),λb ps q=>?_],F.Nr,c _ F.new,F.he,F.exc,λa z=>#[c _ (F.hT a z).1,(F.hT a z).2]]
 .show F.un.keep b o (I.base.keep b o q n f (nx b)) (I.base.free b o q n (nx b)) (λz=>by rw[i]at z;show(eT.mp z).elim (hl b o q) f) (h b)
 .have(t,d):=I.base.slot b o q n f (nx b);have(m,j):=F.un.slot b _ d (I.base.free b o q n (nx b)) (by rw[i];show f7 _ f) (h b);show#[m,j]
 .have(g,d):=I.base.there b o q (nx b);show F.un.free b g d (I.base.free b o q n (nx b)) (h b)
 .have(g,d):=I.base.there b o q (nx b);show F.un.there b g d (h b)
 .have(m1,d):=I.base.ON b ps q;have(m2,j):=F.un.ON b _ d;show#[m1++m2,by simp_all]
def cu.made(I:Inv X pins σ H s)(b:Heap.MadeExcOf s.heap h' e (.ref C) vs):cu X.prog X.w X.stack H s e C cb .none H {s with heap:=h' }:=by
 have(t,c,_):=b.there;show#[rfl,I.bare,Un.kept b.keeps,I.Nr.kept b.keeps,b.new,?_,#[_,_,c,rfl,rfl,rfl,rfl],λa z=>nomatch z];cases z:H e with
 |none=>rfl
 |some u=>have(o,q):=(I.Nr e u z).there;rw[b.new]at q;cases q
abbrev U0:↑g8:=[.type "ValueError",.type "Exception",.type "BaseException",.type "object"]
abbrev MqB(p:hH->↑g8->Option g8->Option g8->Option g8->Option g8->String->Option g8->Bool)(M:↑g8)(S:↑(Option g8)):Prop:=∃C a k0 k1 k2 k3 n k5,M=.ref C::a/\S=[k0,k1,k2,k3,bD (.builtin n),k5]/\p C a k0 k1 k2 k3 n k5=b6
def nf{P:Prop}(h:cK=b6):P:=nomatch h
def HU(q:excIn.match_1 (λ_ _=>Bool) M S p (λ_ _=>cK)=b6):MqB p M S:=by
 cases M with
 |nil=>show nf q
 |cons v a =>
  cases v with
  |ref C =>
   cases S with
   |nil=>show nf q
   |cons k0 S =>
   cases S with
   |nil=>show nf q
   |cons k1 S =>
   cases S with
   |nil=>show nf q
   |cons k2 S =>
   cases S with
   |nil=>show nf q
   |cons k3 S =>
   cases S with
   |nil=>show nf q
   |cons b S =>
   cases b with
   |none=>show nf q
   |some v =>
   cases v with
   |builtin n =>
    cases S with
    |nil=>show nf q
    |cons k5 S =>
    cases S with
    |nil=>show#[C,a,k0,k1,k2,k3,n,k5,rfl,rfl,q]
    |cons _ _=>show nf q
   |_=>show nf q
  |_=>show nf q
abbrev MqA(p:Option hH->ClassData->Array (Option g8)->Bool)(o:Option Obj):Prop:=∃d a b,o≈#[.type "type",d,.cls a,b]/\p d a b=b6
def HV(q:excIn.match_6 (λ_=>Bool) o p (λ_=>cK)=b6):MqA p o:=by
 split at q
 .show#[_,_,_,rfl,q]
 simp_all
def HW{K:Frag}{P:Prop}(b:K.In h)(q:excIn K C U0 a=b6)(k:∀c N nm d bs hdct sn sub ab col dd k0 k1 k2 k3 k5 e,h.get? C≈excClassObj nm d C N bs c hdct sn sub ab col dd k0 k1 k2 k3 k5 a->h.Ns N e->e "__init__"=cb->OwnTail h U0 c->P):P:=by
 have(dd,j,m,ho,f):=HV q;have(v,c,k0,k1,k2,k3,n,k5,o,hs,g):=HU f;clear q f;have(nm,bs,mro,ns,d,p,sn,sub,ab,col,r):=j;have⟨l⟩:=m;erw[cc,beq_iff_eq,mN]at g;obtain⟨⟨⟨⟨⟨rfl,rfl⟩,s⟩,t⟩,i⟩,u⟩:=g;subst o s;obtain rfl:l=_:=hs;show k c ns nm d bs p sn sub ab col dd k0 k1 k2 k3 k5 _ (b _ _ ho) (.of_isNs (isNs_of_in b i)) (nsMap_none_of_in b i u) (tail_of_in b t)
def A1(i:X.calm=b6)(j:Gl X x)(d:X.mg x≈.ref C)(k:(x==("__debug__":Str))=cK)(l:excIn X.K C U0 "ValueError.__new__"=b6)(m:PE X a n)
  (f:i0 [a] X.env=[(cK,p8 a X.env)]) :
  PS X (.Raise (bD (.Call (.Name x p) [a] [] A)) cb pos) (λD σ H=>n σ H λv c=>∀pins s e g,Inv X pins σ c s->cu X.prog X.w X.stack c s e C cb .none c g->X.xe (.ref e) g):=by
 intro pins s σ H D I h;show HW I.mod.SJ l λB N nm o bs hdct sn sub ab col dd k0 k1 k2 k3 k5 G r t y T=>?_;show wpAny_Raise_call_subT (nm:=nm) (q:=o) (N:=N) (bs:=bs) (hdct:=hdct) (sn:=sn) (sub:=sub) (ab:=ab) (col:=col) (dd:=dd) (k0:=k0) (k1:=k1) (k2:=k2) (k3:=k3) (k5:=k5) Ù (T.hasType Ù.hasBase) (I.ok.hd i) (by rw[f];rfl) y (eD I j d #[rfl,?_] k);rw[f];show w6 (so (Ny (m pins s σ H _ I h) λu s1 ⟨v,c,b,J,z⟩=>y8 #[rfl,?_,b.bk _ _ r,t.keeps b.bk,T.keeps b.bk,λh' e d=>z pins s1 e _ b (.made b d)]));show(by decide:1<=c8)
def Gm:Passes (Pw X.prog X.w) X E0:=λ_ _ _ _ _ _ _ ⟨_,_,_,_,_,_,h⟩=>h.elim
def xm(F:dE X.prog X.w X.K X.mg X.base CX k f d ps g)(i:cW k X.A)(j:Binds X.K d ps [])(I:Inv X pins σ H s)(r:Vals vs us)(h:g vs H Q E)
  (l:∀e a,CX X.stack H s E e a->EE e a):‹X› (Qo (.ref f) us) (EP X pins σ Q) EE s:=by
 have hl:⇑us=⇑ps:=by rw[<-⇑r];show F.len _ _ _ _ h
 have b:=j s us I.Pb ⋯;rw[tP]at b;show Zj (Tt (F.run X.A _ s H _ us vs Q E i I.Hw b r h) λr a c=>?_);cases r with
 |error e=>show l e a c
 |ok m =>
  cases m with
  |ret u=>show I.after c
  |_=>assumption
@[reducible]noncomputable def Cx.Sh(X:Cx)(e:hH)(oe:Obj)(E:g8->i4->Prop):Cx:={X with A:=X.A.mark (bD (.ref e)),calm:=cK,pn:=(e,oe)::X.pn,xe:=E}
def Inv.Sh(I:Inv X pins σ H s)(a:s.heap.get? e≈oe)(b:H e=cb)(c:e≠X.env.locals)(d:e∉X.fs)(f:∀v,oe.data≠.cell v):Inv (X.Sh e oe E) pins σ H s :=
 #[#[I.ok.mod,I.ok.kind,I.ok.glob,I.ok.blt,I.ok.above,I.ok.inj,I.ok.has,I.ok.Tv,λz=>(nomatch z),I.ok.frames,I.ok.UH,I.ok.WH,I.ok.bs,I.ok.Q8,I.ok.P_,I.ok.QC,I.ok.jC,I.ok.R3],I.os,I.bare,I.base,I.loc,I.cell,I.free,I.NW,
  λp g=>(eT.mp (g)).elim (λz=>by subst z;show#[a,b,c,d,f]) λz=>I.pin p z,I.Nr,I.len]
def Inv.MU(a:X.Ok)(I:Inv (X.Sh e oe E) pins σ H s):Inv X pins σ H s :=
 #[a,I.os,I.bare,I.base,I.loc,I.cell,I.free,I.NW,λp b=>I.pin p (f7 _ b),I.Nr,I.len]
def Inv.gone(I:Inv X pins σ H s)(D:X.N.Nodup)(k:X.N[j]?≈n)(hl:X.env.scope.names.lookup n≈.local)
  (h:∀t,Inv X pins (σ.set j cb) H t->Q () t):f6 M A (do bindName X.env n .none;unbindBehindTheSuite X.env n pos) Q E s:=by
 have(m,hn,G):=id I.loc;have J:(X.env.scope.kind==.class||(X.env.scope.kind==.module&&X.env.locals != X.env.globals))=cK:=by rw[I.ok.kind];rfl
 show wpAny_nameGoes_keeps hl hn J λh' v L hs=>h _ ?_;have w:=I.Q9;have R7:j < ⇑σ:=by rw[I.len];show(eH.mp k).1
 have ne:∀b o,X.s₀.heap.get? b≈o->b≠X.env.locals:=λb o q=>i9 (jn (hW q) I.ok.above);show#[I.ok,I.os,I.bare,#[λb o e n g f=>(hs.2 b (ne b o e)).trans (I.base.keep b o e n g f),λb o e n g f=>?_,I.base.free,λb o e f=>?_,I.base.gQ,I.base.OF,I.base.ON],#[_,L,λi y u x B O=>?_],λy c e=>?_,I.free,I.NW,λp T=>?_,λb Y e=>(I.Nr b Y e).lO (λc w' hc q=>(hs.2 c ?_).trans q) (λ_ q=>q) λ_ _ q=>q,by exists I.len]
 .have(sl,q):=I.base.slot b o e n g f;show#[sl,(hs.2 b (ne b o e)).trans q]
 .have(o',q):=I.base.there b o e f;show#[o',(hs.2 b (ne b o e)).trans q]
 .have C:i≠j:=λz=>by simp_all
  rw[hQ (mh C)]at B;have(u',r,l):=G i y u x B O;show#[u',r,l.imp (λ⟨a,b⟩=>#[a,?_]) λ⟨a,c,b,d⟩=>#[a,c,b,d.sameBut hs (w y c b)]];change(if y=n then v else m y)≈u';rw[Ś λz=>C (jD D x (by rw[z];show k))];show b
 .have(u,z):=I.cell y c e;show#[u,z.sameBut hs (w y c e)]
 .have(a,b,c,d):=I.pin p T;show#[(hs.2 p.1 c).trans a,b,c,d]
 .rintro rfl;rcases hc with hc|hc
  .rw[<-hc,I.free]at e;cases e
  .rw[I.free]at hc;cases hc
section
variable{prog:sd}{w:wk}{A:Ui}{E:g8->i4->Prop}{h:K2}{g:Array ZL}{d:Drawn}{t:Nat}{os:OsState}{a C:hH}{o:Obj}{K:Frag}
def sM(e:K.In h)(hs:ŏ K (.ref C) (.type "object")≈b6)(f:h.get? a≈o)(c:o.cls=.ref C)(i:R (.ok (.ret (.ref C))) #[h,g,d,t,os]):
  Rr (gs prog w) A (.call (.builtin "getset_descriptor.__get__") #[[.builtin "object.__class__",.ref a,.ref C],[]]) R #[h,g,d,t,os]:=by
 have b:=Î;have LS:Ğ (gs prog w) h (U1 (.ref C) (.type (".".intercalate ("object.__class__".cutAt '.').dropLast))) b6:=by rw[F.owner_object_class];show looks_subIn e hs
 show XJ ZP.plain F.entry_gs_get (ZP.check _ _ _ _ _ _ _ _ b (F.args_gs_get _ _ _) ?_)
 repeat (any_goals (first|assumption|(with_reducible show VO f ?_;rw[c])|with_reducible show LS.at ?_|wp_step))
 show#[XC _ (by decide +kernel),tA F.entry_object_class ?_]
 repeat (any_goals (first|assumption|(with_reducible rw[c])|wp_step))
def oO(b:K.In h)(hs:ŏ K (.ref C) (.type "object")≈b6)(f:Ő K (.ref C) "__class__"≈bD (.builtin "object.__class__"))(c:h.get? a≈o)(e:o.cls=.ref C)(j:Q (.done (.ret (.ref C))) #[h,g,d,t,os]):
  f6 (gs prog w) A (Ru.«object.__getattribute__» ⟨[.ref a,.str "__class__" tk],[]⟩) Q E #[h,g,d,t,os]:=by
 have i:Ğ (gs prog w) h _ _:=Ô b f;have k:=Î;have l:=ZP.lookup;have m:=F.slot_gs_set.lookup
 repeat (any_goals (first|assumption|(with_reducible show VO c ?_;rw[e])|with_reducible show i.at ?_|wp_step))
 show sM b hs c e ?_
 repeat (any_goals (first|assumption|wp_step))
def vk(b:K.In h)(hs:ŏ K (.ref C) (.type "BaseException")≈b6)(c:h.get? a≈o)(e:o.cls=.ref C)(f:Q () #[h,g,d,t,os]):f6 M A (Į "BaseException.__getattribute__" ⟨[.ref a,i],[]⟩) Q E #[h,g,d,t,os]:=by
 have hk:builtinKind "BaseException.__getattribute__"≈.slot:=by decide +kernel
 have j:splitId "BaseException.__getattribute__"≈("BaseException","__getattribute__"):=by decide +kernel
 have LS:Ğ M h (U1 (.ref C) (.type "BaseException")) b6:=looks_subIn b hs;have k:=F.args_bexc_ga (.ref a) i;erw[Į,hk,j];show cL ?_
 .unfold isInstance
  repeat (first|(with_reducible show VO c ?_;rw[e])|with_reducible show LS.at ?_|wp_step)
  show f
abbrev gG(K:Frag)(C:hH):Bool:=ŏ K (.ref C) (.type "object")==bD b6&&ŏ K (.ref C) (.type "BaseException")==bD b6&&Ő K (.ref C) "__class__"==bD (bD (.builtin "object.__class__"))&&Ő K (.ref C) "__getattribute__"==bD (bD (.builtin "BaseException.__getattribute__"))&&Ő K (.ref C) "__getattr__"==bD cb&&(clsIn K C).isSome
def vm(b:K.In h)(f:gG K C=b6)(c:h.get? a≈o)(e:o.cls=.ref C)(l:Q (.ref C) #[h,g,d,t,os]):f6 (gs prog w) A (getAttrBy (.ref a) (.str "__class__" tk) cK) Q E #[h,g,d,t,os]:=by
 erw[gG,cc,beq_iff_eq]at f;obtain⟨⟨⟨⟨⟨o1,o2⟩,o3⟩,o4⟩,o5⟩,_⟩:=f;have m:=ā.ga.bind (.ref a);have n:(cK&&onTheHeap (UX "BaseException.__getattribute__"))=cK:=rfl;have i:(UX "BaseException.__getattribute__"==UX "object.__getattribute__")=cK:=by decide +kernel
 have j:(onTheHeap (ku C)&&UX "BaseException.__getattribute__"==UX "object.__getattribute__")=cK:=by rw[i];rfl
 have k:Ğ (gs prog w) h (Wt (.ref C) "__getattribute__") (bD (.builtin "BaseException.__getattribute__")):=Ô b o4;have L2:Ğ (gs prog w) h (Wt (.ref C) "__getattr__") cb:=Ô b o5
 repeat (any_goals (first|assumption|(with_reducible show VO c ?_;rw[e])|with_reducible show k.at ?_|with_reducible show L2.at ?_|wp_step))
 show XJ ā.ga.plain F.entry_bexc_ga (vk b o2 c e (oO b o1 o3 c e ?_))
 repeat (any_goals (first|assumption|wp_step))
def qL(b:K.In h)(c:gG K C=b6)(e:h.get? a≈o)(f:o.cls=.ref C)(i:Q (bD (.ref C)) #[h,g,d,t+1,os]):f6 (gs prog w) A (getAttr? (.ref a) "__class__") Q E #[h,g,d,t,os]:=by
 unfold getAttr? getAttrBy?
 repeat (any_goals (first|assumption|with_reducible apply vm b c e f|wp_step))
end
def sN{K}(b:gG K C=b6):KitX K (.ref a) (.ref C) (λh=>∃o,h.get? a≈o/\o.cls=.ref C) where
 ty:=λM h _ j=>by
  have(o,f,i):=j;show(ő f).andThen ?_;rw[i];show .now
 it:=λM h c _ A Q E s k q=>by
  erw[gG,cc]at b;have z:=b.2;unfold clsIn at z;split at z
  .rename_i ho;unfold isType loadHead;show cL (ņ (k _ _ (c _ _ ho)) (dV q))
  .cases z
 ne:=λh l dd m n p c e=>by
  erw[gG,cc]at b;have z:=b.2;unfold clsIn at z;split at z
  .rename_i ho;rw[Š];intro q;cases q;have:=c _ _ ho;rw[e]at this;cases this
  .cases z
 ca:=λ{_ _ _ _ _ s} c ⟨o,f,i⟩ q=>by
  have(h,g,d,t,os):=s;show qL c b f i q
def Inv.KQ(I:Inv X pins σ H s)(d:s.heap.get? e≈oe)(hn:H e=cb)(g:X.s₀.heap.get? e=cb)(h:e≠X.env.locals)(i:∀x c,X.env.cells.lookup x≈c->c≠e)(j:∀p∈X.pn++pins,p.1≠e):
  Inv X pins σ (upd H e (.Pa oe (.ext λ_=>True))) s:=by
 have ne:∀b o,H b≈o->b≠e:=λb o q=>av q hn;show#[I.ok,I.os,I.bare,#[I.base.keep,I.base.slot,λb o q n k=>?_,I.base.there,λb xs q=>?_,λb o u q=>?_,λb ps q=>?_],I.loc,I.cell,?_,λx c q=>?_,λp f=>?_,λb u q=>?_,I.len]
 .rw[ai (λz=>by rw[z,g]at q;cases q)];show I.base.free b o q n k
 .have:=I.base.gQ b xs q;rw[ai (ne b _ this)];show this
 .have:=I.base.OF b o u q;rw[ai (ne b _ this)];show this
 .have(m,q):=I.base.ON b ps q;show#[m,by rw[ai (ne b _ q)];show q]
 .rw[ai (mh h)];show I.free
 .rw[ai (i x c q)];show I.NW x c q
 .have(a,b,c):=I.pin p f;show#[a,by rw[ai (j p f)];show b,c]
 .by_cases z:b=e
  .subst z;rw[aj]at q;cases q;show#[d,ttt,#[oe,d],λ_ _ _ _=>ttt]
  .rw[ai z]at q;show(I.Nr b u q).lO (λ_ _ _ q=>q) (λc q=>by rw[ai (ne c _ q)];show q) λc xs q=>by rw[ai (ne c _ q)];show q
end L2
namespace L2
open PySem PySem.Spec PyProof.Rows
@[reducible]noncomputable def Cx.NI(X:Cx)(e:hH):Cx:={X with A:=X.A.mark (bD (.ref e)),calm:=cK,xe:=λ_ _=>False}
def Inv.NI(I:Inv X pins σ H s):Inv (X.NI e) pins σ H s :=
 #[#[I.ok.mod,I.ok.kind,I.ok.glob,I.ok.blt,I.ok.above,I.ok.inj,I.ok.has,I.ok.Tv,λz=>(nomatch z),I.ok.frames,I.ok.UH,I.ok.WH,I.ok.bs,I.ok.Q8,I.ok.P_,I.ok.QC,I.ok.jC,I.ok.R3],I.os,I.bare,I.base,I.loc,I.cell,I.free,I.NW,I.pin,I.Nr,I.len]
def Inv.MV(a:X.Ok)(I:Inv (X.NI e) pins σ H s):Inv X pins σ H s :=
 #[a,I.os,I.bare,I.base,I.loc,I.cell,I.free,I.NW,I.pin,I.Nr,I.len]
end L2
namespace L2
open PySem PyProof.Rows PySem.W
def Sm.refl(H):fV H H:=λ_ _ z=>z
def Sm.trans(a:fV H c)(b:fV c d):fV H d:=λx o z=>b x o (a x o z)
def Sm.upd(h:H p=cb):fV H (upd H p o):=λx y z=>by rw[ai (av z h)];show z
abbrev vn(K:Frag)(i:Nat)(cl:Str)(b:Bool):TE:=λσ H Q=>∃(ea:hH) (oe:Obj) (u:HO) (a:hH),σ[i]?≈bD (.ref ea)/\H ea≈.Pa oe u/\oe.cls=.ref a/\Ó K i5 cl≈bD (.ref a)/\∀H',fV H H'->Q (.bl b) H'
def HX(hi:X.N[i]?≈n)(f:Ow X.env.scope n)(g:(n==("__debug__":Str))=cK)(h:(n==("__classdict__":Str))=cK)(j:Gl X "isinstance")(k:X.mg "isinstance"=cb)(l:PE X (.Name D p2) (tC d))(m:∀u,RelV d u->u=o)
  (r:∀a,Ó X.K i5 cl≈bD (.ref a)->gG X.K a=b6/\kitOne X.K (.ref a) o≈b):PE X (.Call (.Name "isinstance" p) [.Name n L,.Name D p2] [] t) (vn X.K i cl b):=by
 rintro pins s σ H Q I ⟨ea,oe,u,a,v,w,x,y,q⟩;show nS (dB I j k (show sx _≈.builtin "isinstance" by decide +kernel) ?_ (by decide +kernel) (by decide +kernel));show uu (Ny (bA (a9 hi f g h) (bA l cB) rfl t pins s σ H (λvs H'=>vs=[.ref ea,d]/\H'=H) I ⟨_,v,rfl,rfl⟩) λus s1 A=>?_);have(vs,O,c,B,e,C):=A;subst e C;have(T,Y,rfl,G,J):=vals2 B;obtain rfl:=m _ J;cases G;have(k1,k2):=r a y;show kia_one (sN k1) c.Pb #[oe,(c.Nr ea _ w).1,x] k2 (λz=>nomatch z) λtk=>?_;show#[.bl b,_,c.tok tk,rfl,q _ (Sm.refl _)]
inductive nj(X:Cx)(cl:Str):↑jw->↑g8->Prop where
 |nil:nj X cl [] []
 |cons {D:Str} {p:Pos} {vD:V} {dv:g8} {es:↑jw} {ds:↑g8} (hD:PE X (.Name D p) (tC vD)) (hr:∀u,RelV vD u->u=dv) (ht:∀Cc,Ó X.K i5 cl≈bD (.ref Cc)->gG X.K Cc=b6/\kitOne X.K (.ref Cc) dv≈cK) (t:nj X cl es ds):nj X cl (.Name D p::es) (dv::ds)
def nj.pa(h:nj X cl es ds):∃vs,PA X es (λ_ H Q=>Q vs H)/\⇑vs=⇑es/\∀us,Vals vs us->us=ds:=by
 induction h with
 |nil=>show#[[],cB,rfl,λus r=>by cases r;rfl]
 |@cons D p i j es ds c d k t e =>
  have(vs,f,h0,g):=e;show#[_,bA   c f,by simp[h0],λus r=>?_];cases r with
  |cons a b=>rw[d _ a,g _ b]
def nj.no(h:nj X cl es ds)(hn:Ó X.K i5 cl≈bD (.ref a)):kitAny X.K (.ref a) ds≈cK:=by
 induction h with
 |nil=>rfl
 |cons d e b t c =>
  unfold kitAny;rw[(b a hn).2];show c
def nj.ok(h:nj X cl es ds)(b:es≠[])(hn:Ó X.K i5 cl≈bD (.ref a)):gG X.K a=b6:=by
 cases h with
 |nil=>show absurd rfl b
 |cons d e c t=>show(c a hn).1
def HY(hi:X.N[i]?≈n)(h:Ow X.env.scope n)(j:(n==("__debug__":Str))=cK)(k:(n==("__classdict__":Str))=cK)(l:Gl X "isinstance")(m:X.mg "isinstance"=cb)(b:nj X cl es ds)(r:es≠[])(hl:⇑es<100):
  PE X (.Call (.Name "isinstance" p) [.Name n p1,.Tuple es x1 p2] [] v) (vn X.K i cl cK):=by
 rintro pins s σ H Q I ⟨ea,oe,u,Cc,w,x,y,f,q⟩;have(vs,A,S_,B):=b.pa;show nS (dB I l m (show sx _≈.builtin "isinstance" by decide +kernel) ?_ (by decide +kernel) (by decide +kernel));have hsz:1000<=c8:=⋯
 have c:⇑vs<=c8:=⋯
 show uu (Ny (bA (a9 hi h j k) (bA (uN A) cB) rfl v pins s σ H (λws H'=>∃t,ws=[.ref ea,.ref t]/\H t=cb/\H'=upd H t _) I ⟨_,w,c,λt d=>#[t,rfl,d,rfl]⟩) λus s1 C=>?_);have(ws,H1,a,D,t,e,d,G):=C;subst e G;have(u1,u2,rfl,J,L):=vals2 D;cases J;cases L;have(J',rv,(o,ho,O,n,T),_):=a.tuple (Oc.of aj);obtain rfl:=B _ rv;have(oc,od,Y,R5):=o;subst O T;have g:fV H (upd H t (.tup vs)):=Sm.upd d;show kia_tup (sN (b.ok r f)) a.Pb #[oe,(a.Nr ea _ (g _ _ x)).1,y] ho (b.no f) (λz=>nomatch z) λtk=>?_;show#[.bl _,_,a.tok tk,rfl,q _ g]
abbrev xn(K:Frag)(i:Nat)(cl:Str):↑Bool->TA
 |[]=>rZ
 |b::bs=>kY (vn K i cl b) (xn K i cl bs)
theorem sO{K}(a:σ[i]?≈bD (.ref ea))(b:oe.cls=.ref c)(d:Ó K i5 cl≈bD (.ref c)):∀bs H Q,H ea≈.Pa oe u->(∀H',fV H H'->Q (bs.map .bl) H')->xn K i cl bs σ H Q
 |[],H,_,_,q=>q H (Sm.refl H)
 |_::bs,H,_,e,q=>#[ea,oe,u,c,a,e,b,d,λH' s=>sO a b d bs H' _ (s _ _ e) λf g=>q f (Sm.trans s g)]
end L2
namespace L2
open PySem PySem.Spec PyProof.Rows PySem.F
def oP:ñ table "proto.unchain"≈Ru.«proto.unchain»:=entryFor_of_fast (by rfl)
def vp(a:A.handled≈.ref ea)(b:ea≠e)(c:s.heap.get? ea≈d)(f:d.data=.fields ws)(g:ws[2]?≈.none)(i:s.heap.get? e≈oe)(j:oe.data=.fields vs)(hz:2<vs.size)
  (h:E (.ref e) {s with heap:=s.heap.update e (TC (·.setIfInBounds 2 (.ref ea)))}):f6 (gs prog w) A (raiseNew (.ref e):Sem α) Q E s:=by
 show cL (À ?_);rw[a]
 dsimp only
 rw[ř (by simp[b])];show cL (tv (XI (tA oP ?_)));show cL (p9 c f g ?_);show dV ?_;show cL (y9 i j hz ?_);show î h
def HZ(g:A.handled≈.ref ea)(h:ea≠it)(j:s.heap.get? ea≈k)(n:k.data=.fields ws)(p:ws[2]?≈.none)(c:s.heap.IsListIter it l i)(hl:s.heap.IsList l r)(t:r[i]?=cb)
  (u:∀h',Wo it s.heap h'->Q cb {s with heap:=h' }):f6 (gs prog w) A (Ts (.ref it)) Q E s:=by
 have(o,ho,C,d):=id c;have(D,v,_,G,y):=hl;unfold Ts;show cL (Us (tp (name:="__next__") c.typeIs Ĉ (tj Ĉ c.typeIs entry_listiter_next ?_ (args_listiter_next _))));show cL (m:=Ŋ (.ref it) 0) (p9 ho d (x:=.ref l) rfl ?_);show cL (m:=Ŋ (.ref it) 1) (p9 ho d (x:=.int i 0) rfl (cL (m:=seqItems? (.ref l)) (Zi v y ?_)));erw[Sq,t];show cL (P5 (cL (y9 ho d ⋯ ?_)));show cL (m:=newExc (.type "StopIteration") []) ?_;erw[newExc,newTuple];show cL (pj (cL (m:=Zu _ _) (z8 (a:=oD) (by rfl) (pj ?_ (by size_fits)))) (by size_fits));have z:=(tr s.heap (TC (·.setIfInBounds 0 oD)) (mh h)).trans j;have e:=dt {cls:=.type "tuple",data:=.seq #v[]} z;show vp (A:=A.in1) g (i9 (hW e)) (dt _ e) n p (gj _ rfl) rfl (by simp<;>lia) ?_;show cL (T7 (T:="StopIteration") (b:=b6) #[_,ro _ (gj _ rfl) rfl,rfl] Zt ?_);show dV (u _ λb o B q=>?_);have f:=dt {cls:=.type "tuple",data:=.seq #v[]} ((tr s.heap (TC (·.setIfInBounds 0 oD)) (mh B)).trans q);show(tr _ _ (DD (hW f))).trans (dt _ f)
abbrev Y3(K:W.Frag)(a ea:hH)(oe:Obj):It:=#[(UN K a).go,(UN K a).UM,λi H=>(UN K a).stop i H/\∃u,H ea≈.Pa oe u]
def H0(a it)(y:X.A.handled≈.ref ea)(B:oe.data=.fields ws)(C:ws[2]?≈.none):qx X tg (Y3 X.K a ea oe) [it] it (λi h=>h.IsListIter it a i):=by
 have T:=oV (P:=X.prog) (w:=X.w) (K:=X.K) (tg:=tg) a it;show#[T.obj,T.keep,λi pins s σ H E I g st k=>?_,λi pins s σ H E I g st k=>?_,T.self]
 .have(xs,x,j,l):=k;have(D,rv,p,hz):=I.list j;have(u,m,G):=rv.get l;have(n,q,J,r,t,v):=g it il;show Ð st p.isList  (by exists m) λh' st' L=>?_;have(o,e,c,d):=id st';show#[u,rfl,rX  e c d ⋯ #[x,H,I.turned  (λb o f e=>(L.2 b f).trans e) n q r t v,G,#[rfl,λys N=>by rw[I.mM N j];show l],st',λb f=>(g b f).1]]
 .have((xs,j,l),u,m):=k;have(D,rv,p,hz):=I.list j;have(n,q,J,r,t,v):=g it il;have hl:=⇑rv;show HZ y (λz=>by simp_all) (I.Nr ea _ m).1 B C st p.isList ⋯ λh' O=>#[rfl,I.turned  (λb o f e=>O b o f e) n q r t v]
abbrev A2(K:W.Frag)(tl:TE)(ea:hH)(oe:Obj):TI:=λσ H R=>tl σ H λx b=>∃a,x=.ref a/\(∃xs,N5 K b a xs)/\R (Y3 K a ea oe) b
def A3(S:de X N f scope)(t:X.A.handled≈.ref ea)(u:oe.data=.fields ws)(w:ws[2]?≈.none)(hl:PE X c tl)(y:∀C s H ex,PG (Ou X N scope C s H ex) tg g)(z:∀C s H ex,RH (Ou X N scope C s H ex) ifs B)(G:∀C s H ex,PE (Ou X N scope C s H ex) elt J)
  (hs:∀x,Cd c X.env x=pure x):PE X (.ListComp elt [⟨tg,c,ifs,0⟩] scope pos) (sv ⇑f (A2 X.K tl ea oe) g B J):=by
 intro pins s σ H Q I h;show VX   rfl hs (dF (S.cells I.ok)) S.kind S.names ?_;show Ny (hl pins s σ H _ I h) λv s1 L=>?_;have(x,i,d,O,a,e,(xs,T),W):=L;subst e;cases O;have(Y,rv,p,hz):=d.list T;show VJ p.isList ?_;have j:∀k,Inv X pins σ i {s1 with heap:=s1.heap.push k}:=λk=>d.kept  λb o e=>dt _ e;have l:∀b∈[↥s1],gJ X pins i b:=λb hb=>by
  rw[kr.mp hb];show d.yn (hY _) (d.Nr.fresh (hY _))
 show ji  S y z G (j _) (λC=>H0 (X:=Ou X N _ C _ i _) a _ t u w) ⟨_,gj _ rfl,rfl,rfl⟩ l W ?_;intro D C s5 H5 ys Y m n q r TV TX TY q5;have(m5,VI,_):=q.loc;show#[m5,VI,λh' sb=>#[.ref D,_,mV (j _) q (Ux m.symm) (by rw[n];show È _) (i9 (by rw[n,m];show TB _)) r TV TX TY sb l,rfl,q5 D r]]
def A4{K}{bs:↑Bool}(hz:⇑bs<100)(j:H a≈.lst (bs.map V.bl))(k:∃u,H ea≈.Pa oe u)(q:∀p,H p=cb->Q (.ref p) (upd H p (.lst ((bs.filter id).map V.bl)))):sr 1 (Y3 K a ea oe) (kU 0) (tB (lP 0)) (lP 0) Q σ H:=by
 have c:N5 K H a (bs.map V.bl):=N5.of j;have hsz:(1000:Nat)<=c8:=⋯
 have hl:∀i,⇑((bs.take i).filter id)<=⇑bs:=λi=>qv (K' _ _) (by rw[Vr];show ý _ _);show#[λi m ys H'=>H'=H/\m=⇑bs - i/\i<=⇑bs/\ys=((bs.take i).filter id).map V.bl,#[⇑bs,rfl,rfl,kj _,rfl],?_];rintro i m ys H' ⟨rfl,rfl,hi,rfl⟩;show#[by rw[ei];have:=hl i;lia,?_];by_cases b:i<⇑bs
 .show .inr #[#[_,.bl bs[i],c,by simp[b]],λg d=>d=H'/\g=((bs.take (i+1)).filter id).map V.bl,λg d ⟨l,n⟩=>#[⇑bs - (i+1),⋯,l,rfl,b,n],λx d f=>?_];have(rfl,f):=f;have h:=f _ c;rw[sg,Rp b]at h;cases h;show#[[bD (.bl bs[i])],rfl,rfl,.bl bs[i],rfl,bs[i],rfl,?_];rw[á,Rp b];cases e:bs[i] with
  |true=>show#[_,rfl,by simp[e]]
  |false=>simp[e]
 .have:i=⇑bs:=⋯
  subst this;show .inl #[#[#[_,c,by simp],k],λp o=>by rw[ç];show q p o]
end L2
namespace TM
open PySem L2
inductive U where
 |Nt|bl (b:Bool)|int (i:Int)|str (x:Str)
 |tup (xs:↑U)|lst (xs:↑U)
 |Nu (ks:↑Str) (vs:↑U)
 |ob (d:Bool) (u:U) (us:↑U)
mutual
noncomputable def NT:U->Bool
 |.tup xs=>d6 xs
 |.lst _=>cK
 |.Nu _ _=>cK
 |.ob _ _ _=>cK
 |.Nt=>b6|.bl _=>b6|.int _=>b6|.str _=>b6
noncomputable def d6:↑U->Bool
 |[]=>b6
 |u::us=>NT u&&d6 us
end
inductive Kd where|own|io|loc|any|bor (j:Nat)|A'
deriving DecidableEq
abbrev Kd.root:Kd->Bool
 |.own=>b6
 |.io=>b6
 |_=>cK
@[reducible]noncomputable def au:=↑(Option (Kd×U))
structure Ct where
 P:sd
 w:wk
 K:W.Frag
 H₀:Hp
 O2:hH->Prop
 IO:hH->Prop
 xw:U->Hp->Prop
abbrev KL(K:W.Frag)(a:hH)(xs:↑V):Prop :=
 ∃(o:Obj) (b:Array g8) (n:Nat),K.lookup a≈o/\o.cls=.type "list"/\o.dict=cb/\o.data=.seq b n/\b.size<=c8/\Vals xs b.toList
abbrev VY(K:W.Frag)(S:hH->Prop)(H:Hp)(a:hH)(vs:↑V):Prop:=(S a/\Rd H a (.lst vs))\/KL K a vs
def VY.sq(h:VY K S H a vs):N5 K H a vs:=h.elim (λz=>.inl z.2) .inr
abbrev Ta(H:Hp)(R:↑V->Prop)(a:hH)(ks:↑Str):Prop:=∃kvs:↑(Key×V),H a≈.dK kvs/\kvs.map (·.1)=ks.map nc/\R (kvs.map (·.2))
section
variable(C:Ct)(S:hH->Prop)(H:Hp)
mutual
def Rep:U->V->Prop
 |.Nt,v=>v=.Nt
 |.bl b,v=>v=.bl b
 |.int i,v=>v=.int i
 |.str x,v=>v=.str x
 |.tup us,v=>∃a vs,v=.ref a/\Oc C.K H a vs/\aq us vs
 |.lst us,v=>∃a vs,v=.ref a/\VY C.K S H a vs/\aq us vs
 |.Nu ks us,v=>∃a,v=.ref a/\S a/\Ta H (aq us) a ks
 |.ob _ _ _,_=>False
def aq:↑U->↑V->Prop
 |[],vs=>vs=[]
 |u::us,vs=>∃v r,vs=v::r/\Rep u v/\aq us r
end
end
def Tp:HO->Prop
 |.tup _=>True
 |.Pa _ (.tup _)=>True
 |_=>False
structure Mv(S:hH->Prop)(H:Hp)(S':hH->Prop)(H':Hp):Prop where
 sub:∀a,S a->S' a
 U3:∀a o,H a≈o->Tp o->H' a≈o
 W3:∀a o,S a->H a≈o->H' a≈o
def Mv.sqT(m:Mv S H S' H')(h:Oc K H a vs):Oc K H' a vs:=by
 rcases h with(h|⟨o,h⟩)|h
 .show .inl (.inl (m.U3 a _ h ttt))
 .show .inl (.inr #[o,m.U3 a _ h ttt])
 .show .inr h
def Mv.lat(m:Mv S H S' H')(h:VY K S H a vs):VY K S' H' a vs:=by
 rcases h with⟨s,h|⟨o,h⟩⟩|h
 .show .inl #[m.sub a s,.inl (m.W3 a _ s h)]
 .show .inl #[m.sub a s,.inr #[o,m.W3 a _ s h]]
 .show .inr h
def Ta.mv(b:∀o,H a≈o->H' a≈o)(c:∀vs,R vs->d vs)(h:Ta H R a ks):Ta H' d a ks :=
 let ⟨kvs,e,f,g⟩:=h;⟨kvs,b _ e,f,c _ g⟩
mutual
theorem Rep.Tb(m:Mv S H S' H'):∀(u:U) (v:V),Rep C S H u v->Rep C S' H' u v
 |.Nt,_,h=>h
 |.bl _,_,h=>h
 |.int _,_,h=>h
 |.str _,_,h=>h
 |.tup us,v,h=>by
  have(a,vs,e,b,c):=h;show#[a,vs,e,m.sqT b,aq.Tb m us vs c]
 |.lst us,v,h=>by
  have(a,vs,e,b,c):=h;show#[a,vs,e,m.lat b,aq.Tb m us vs c]
 |.Nu ks us,v,h=>by
  have(a,e,b,c):=h;show#[a,e,m.sub a b,c.mv (λo q=>m.W3 a o b q) λvs q=>aq.Tb m us vs q]
 |.ob _ _ _,_,h=>Hf h
theorem aq.Tb(m:Mv S H S' H'):∀(us:↑U) (vs:↑V),aq C S H us vs->aq C S' H' us vs
 |[],_,h=>h
 |u::us,vs,h=>by
  have(v,r,e,a,b):=h;show#[v,r,e,Rep.Tb m u v a,aq.Tb m us r b]
end
mutual
theorem Rep.yO:∀(u:U) (v:V),NT u=b6->Rep C S H u v->Rep C S' H u v
 |.Nt,_,_,h=>h
 |.bl _,_,_,h=>h
 |.int _,_,_,h=>h
 |.str _,_,_,h=>h
 |.tup us,v,i,h=>by
  have(a,vs,e,b,c):=h;show#[a,vs,e,b,aq.yO us vs (by simpa[TM.NT] using i) c]
 |.lst us,v,i,h=>by simp[TM.NT]at i
 |.Nu ks us,v,i,h=>by simp[TM.NT]at i
 |.ob _ _ _,_,_,h=>Hf h
theorem aq.yO:∀(us:↑U) (vs:↑V),d6 us=b6->aq C S H us vs->aq C S' H us vs
 |[],_,_,h=>h
 |u::us,vs,i,h=>by
  have(v,r,e,b,c):=h;have a:TM.NT u=b6/\d6 us=b6:=by simpa[d6] using i
  show#[v,r,e,Rep.yO u v a.1 b,aq.yO us r a.2 c]
end
def Rep.mv(m:Mv S H S' H')(h:Rep C S H u v):Rep C S' H' u v:=Rep.Tb m u v h
def aq.mv(m:Mv S H S' H')(h:aq C S H us vs):aq C S' H' us vs:=aq.Tb m us vs h
def Rep.NT(i:TM.NT u=b6)(h:Rep C S H u v):Rep C S' H u v:=Rep.yO u v i h
def aq.NT(i:d6 us=b6)(h:aq C S H us vs):aq C S' H us vs:=aq.yO us vs i h
def Mv.up(sub:∀a,S a->S' a):Mv S H S' H:=#[sub,λ_ _ h _=>h,λ_ _ _ h=>h]
theorem aq.len:∀{us}{vs},aq C S H us vs->⇑us=⇑vs
 |[],_,h=>by cases h;rfl
 |u::us,vs,h=>by
  have(v,r,rfl,_,a):=h;rw[k9,k9,aq.len a]
theorem aq.get:∀{us}{vs}{i:Nat}{u},aq C S H us vs->us[i]?≈u->∃v,vs[i]?≈v/\Rep C S H u v
 |[],_,_,_,_,e=>by simp at e
 |u::us,vs,0,w,h,e=>by
  have(v,r,rfl,a,_):=h;simp at e;subst e;show#[v,rfl,a]
 |u::us,vs,i+1,w,h,e=>by
  have(v,r,rfl,_,b):=h;have(c,d,h'):=aq.get   b (by exists e);show#[c,by assumption,h']
theorem aq.append:∀{us ws}{vs ys},aq C S H us vs->aq C S H ws ys->aq C S H (us++ws) (vs++ys)
 |[],_,_,_,h,h'=>by cases h;show h'
 |u::us,ws,vs,ys,h,h'=>by
  have(v,r,rfl,a,b):=h;show#[v,_,rfl,a,b.append h']
theorem aq.take:∀{us}{vs} n,aq C S H us vs->aq C S H (us.take n) (vs.take n)
 |_,_,0,_=>by rfl
 |[],_,n+1,h=>by cases h;simp[aq]
 |u::us,vs,n+1,h=>by
  have(v,r,rfl,a,b):=h;show#[v,_,rfl,a,b.take n]
theorem aq.drop:∀{us}{vs} n,aq C S H us vs->aq C S H (us.drop n) (vs.drop n)
 |_,_,0,h=>h
 |[],_,n+1,h=>by cases h;rfl
 |u::us,vs,n+1,h=>by
  have(v,r,rfl,b,a):=h;show a.drop n
theorem aq.set:∀{us}{vs} n {u}{v},aq C S H us vs->Rep C S H u v->aq C S H (us.set n u) (vs.set n v)
 |[],_,n,_,_,h,_=>by cases h;rfl
 |u::us,vs,0,_,_,h,h'=>by
  have(v,r,rfl,b,a):=h;show#[_,r,rfl,h',a]
 |u::us,vs,n+1,_,_,h,h'=>by
  have(v,r,rfl,b,a):=h;show#[v,_,rfl,b,a.set n h']
def aq.snoc(h:aq C S H us vs)(h':Rep C S H u v):aq C S H (us++[u]) (vs++[v]):=h.append #[v,[],rfl,h',rfl]
theorem aq.strs:∀{xs:↑Str}{vs},aq C S H (xs.map .str) vs↔vs=xs.map V.str
 |[],vs=>by rfl
 |x::xs,vs=>by
  constructor
  .rintro⟨v,r,rfl,a,b⟩;rw[aq.strs.mp b];have:=a;rw[this];rfl
  .rintro rfl;show#[_,_,rfl,rfl,aq.strs.mpr rfl]
structure Ct.Eqv(C C':Ct):Prop where
 P:C.P=C'.P
 w:C.w=C'.w
 K:C.K=C'.K
mutual
theorem Rep.Tc(q:C.Eqv d):∀(u:U) (v:V),Rep C S H u v->Rep d S H u v
 |.Nt,_,h=>h
 |.bl _,_,h=>h
 |.int _,_,h=>h
 |.str _,_,h=>h
 |.tup us,v,h=>by
  have(a,vs,e,b,c):=h;show#[a,vs,e,q.K▸b,aq.Tc q us vs c]
 |.lst us,v,h=>by
  have(a,vs,e,b,c):=h;show#[a,vs,e,q.K▸b,aq.Tc q us vs c]
 |.Nu ks us,v,h=>by
  have(a,e,b,c):=h;show#[a,e,b,c.mv (λ_ q=>q) λvs z=>aq.Tc q us vs z]
 |.ob _ _ _,_,h=>Hf h
theorem aq.Tc(q:C.Eqv a):∀(us:↑U) (vs:↑V),aq C S H us vs->aq a S H us vs
 |[],_,h=>h
 |u::us,vs,h=>by
  have(v,r,e,b,c):=h;show#[v,r,e,Rep.Tc q u v b,aq.Tc q us r c]
end
def Rep.cg(q:C.Eqv a)(h:Rep C S H u v):Rep a S H u v:=Rep.Tc q u v h
def aq.cg(q:C.Eqv a)(h:aq C S H us vs):aq a S H us vs:=aq.Tc q us vs h
def eE(C:Ct)(S:hH->Prop)(H:Hp)(r:hH):U->Prop
 |.lst us=>∃vs,H r≈.lst vs/\aq C S H us vs
 |.Nu ks us=>Ta H (aq C S H us) r ks
 |_=>False
def eE.mv(m:Mv S H S' H')(a:∀o,H r≈o->H' r≈o)(h:eE C S H r u):eE C S' H' r u:=by
 cases u with
 |lst us=>have(vs,b,c):=h;show#[vs,a _ b,c.mv m]
 |Nu ks us=>show Ta.mv a (λvs q=>q.mv m) h
 |_=>show h
def eE.rep(hs:∀a,S a->S' a)(b:S' r)(h:eE C S H r u):Rep C S' H u (.ref r):=by
 cases u with
 |lst us=>have(vs,c,d):=h;show#[r,vs,rfl,.inl #[b,.inl c],d.mv (.up hs)]
 |Nu ks us=>show#[r,rfl,b,Ta.mv (λ_ q=>q) (λvs q=>q.mv (.up hs)) h]
 |_=>show h.elim
def eE.cg(q:C.Eqv a)(h:eE C S H r u):eE a S H r u:=by
 cases u with
 |lst us=>have(vs,b,c):=h;show#[vs,b,c.cg q]
 |Nu ks us=>show Ta.mv (λ_ q=>q) (λvs z=>z.cg q) h
 |_=>show h
def eE.some(h:eE C S H r u):∃o,H r≈o/\¬Tp o:=by
 cases u with
 |lst us=>have(vs,a,_):=h;show#[_,a,λz=>z]
 |Nu ks us=>have(kvs,a,_):=h;show#[_,a,λz=>z]
 |_=>show h.elim
structure Cf where
 S:hH->Prop
 H:Hp
 σ:St
 st:au
 kid:Nat->↑hH
inductive R1s(st:au)(σ:St)(a:hH):Prop
 |mk:∀(j:Nat) (k:Kd) (u:U),k.root=b6->st[j]?≈bD (k,u)->σ[j]?≈bD (.ref a)->R1s st σ a
abbrev Cf.R1(c:Cf)(a:hH):Prop:=R1s c.st c.σ a
inductive RDj(st:au)(σ:St)(ks:↑hH)(j:Nat)(a:hH):Prop
 |mk:∀(u:U) (r:hH),st[j]?≈bD (.A',u)->σ[j]?≈bD (.ref r)->(a=r\/a∈ks)->RDj st σ ks j a
abbrev Cf.RD(c:Cf)(j:Nat)(a:hH):Prop:=RDj c.st c.σ (c.kid j) j a
abbrev Cf.R(c:Cf)(a:hH):Prop:=c.R1 a\/∃j,c.RD j a
abbrev PS(C:Ct)(S:hH->Prop):hH->Prop:=λa=>C.O2 a\/S a
def jq(C:Ct)(S:hH->Prop)(H:Hp):Kd->U->V->Prop
 |.own,u,v=>∃r,v=.ref r/\¬S r/\¬C.O2 r/\C.H₀ r=cb/\eE C S H r u
 |.io,u,v=>∃r,v=.ref r/\¬S r/\¬C.O2 r/\C.IO r/\eE C S H r u
 |.loc,u,v=>Rep C S H u v
 |.any,u,v=>Rep C (PS C S) H u v
 |.bor _,_,_=>False
 |.A',_,v=>∃r,v=.ref r
def d7(C:Ct)(S:hH->Prop)(H:Hp):↑U->↑hH->Prop
 |[],as=>as=[]
 |u::us,as=>∃a as' ys vs,as=a::as'/\u=.lst ys/\H a≈.lst vs/\aq C S H ys vs/\d7 C S H us as'
abbrev Ri(K:W.Frag)(d:Bool)(cl:hH):Prop:=W.nsIn K i5 (if d=b6 then "Desk" else "Shelf")≈bD (.ref cl)
abbrev Td(v:V)(a:hH):↑(Str×V):=[("rows",v),("earlier",.ref a)]
structure QI(C:Ct)(S:hH->Prop)(H:Hp)(r a:hH)(u:U)(us:↑U)(cl dx:hH)(v:V)(vs:↑V):Prop where
 hc:Ri C.K cK cl
 ins:H r≈.ins cl dx (Td v a)
 ne:r≠a
 fr:∀x∈[r,a],¬S x/\¬C.O2 x/\(C.H₀ x=cb\/C.IO x)
 im:NT u=b6
 rep:Rep C S H u v
 lst:H a≈.lst vs
 VZ:d6 us=b6
 Px:aq C S H us vs
structure DkR(C:Ct)(S:hH->Prop)(H:Hp)(r s a:hH)(cd dd:hH):Prop where
 hc:Ri C.K b6 cd
 ins:H r≈.ins cd dd [("shelf",.ref s)]
 ne:r≠s
 na:r≠a
 fr:¬S r/\¬C.O2 r/\(C.H₀ r=cb\/C.IO r)
def QI.mv(m:Mv S H S' H')(b:∀x∈[r,a],¬S' x/\∀o,H x≈o->H' x≈o)(h:QI C S H r a u us cl d v vs):QI C S' H' r a u us cl d v vs :=
 #[h.hc,(b r ⋯).2 _ h.ins,h.ne,λx c=>#[(b x c).1,(h.fr x c).2],h.im,h.rep.mv m,(b a ⋯).2 _ h.lst,h.VZ,h.Px.mv m]
def QI.there(h:QI C S H r a u us cl b v vs):∀x∈[r,a],∃o,H x≈o/\¬Tp o:=λx hx=>by
 rcases eT.mp hx with rfl|hx
 .show#[_,h.ins,λz=>z]
 .rw[kr.mp hx];show#[_,h.lst,λz=>z]
def ba(C:Ct)(S:hH->Prop)(H:Hp)(r:hH)(as:↑hH):U->Prop
 |.Nu ks us=>∃kvs:↑(Key×V),H r≈.dK kvs/\kvs.map (·.1)=ks.map nc/\kvs.map (·.2)=as.map V.ref/\(r::as).Nodup/\(∀a∈r::as,¬S a/\¬C.O2 a/\C.H₀ a=cb)/\d7 C S H us as
 |.ob cK u us=>∃cl b v a vs,as=[a]/\QI C S H r a u us cl b v vs
 |.ob b6 u us=>∃c dd s cl b v a vs,as=[s,a]/\DkR C S H r s a c dd/\QI C S H s a u us cl b v vs
 |_=>False
structure QJ(C:Ct)(c:Cf):Prop where
 kd:∀(j:Nat) (u:U) (r:hH),c.st[j]?≈bD (.A',u)->c.σ[j]?≈bD (.ref r)->ba C c.S c.H r (c.kid j) u
 dj:∀(i j:Nat) (a:hH),c.RD i a->c.RD j a->i=j
 d1:∀(j:Nat) (a:hH),c.RD j a->¬c.R1 a
inductive Y5(C:Ct)(S:hH->Prop)(H:Hp)(σ:St)(i:Nat)(k:Kd)(u:U):Prop
 |mk:∀v,σ[i]?≈bD v->jq C S H k u v->Y5 C S H σ i k u
structure Ok(C:Ct)(c:Cf):Prop where
 same:∀a o,C.H₀ a≈o->¬C.IO a->c.H a≈o
 O3:∀a,c.S a->C.H₀ a=cb/\∃o,c.H a≈o
 par:∀a,C.O2 a->(∃o,C.H₀ a≈o)/\¬C.IO a
 io:∀a,C.IO a->(∃o,C.H₀ a≈o)/\∃o,c.H a≈o
 len:⇑c.st=⇑c.σ
 sl:∀(i:Nat) (k:Kd) (u:U),c.st[i]?≈bD (k,u)->Y5 C c.S c.H c.σ i k u
 inj:∀(i j:Nat) (k k':Kd) (u u':U) (r:hH),k.root=b6->k'.root=b6->c.st[i]?≈bD (k,u)->c.st[j]?≈bD (k',u')->c.σ[i]?≈bD (.ref r)->c.σ[j]?≈bD (.ref r)->i=j
 dd:QJ C c
structure Ns(c c':Cf):Prop where
 keep:∀a o,c.H a≈o->¬c.R a->c'.H a≈o
 there:∀a o,c.H a≈o->∃o',c'.H a≈o'
 roots:∀a,c'.R a->c.R a\/c.H a=cb
 sub:∀a,c.S a->c'.S a
 new:∀a,c'.S a->c.S a\/c.R a\/c.H a=cb
def Ns.refl(c:Cf):Ns c c:=#[λ_ _ h _=>h,λ_ o h=>#[o,h],λ_ h=>.inl h,λ_ h=>h,λ_ h=>.inl h]
def Ns.none(n:Ns c b)(h:b.H a=.none):c.H a=.none:=by
 cases e:c.H a with
 |none=>rfl
 |some o=>have(d,q):=n.there a o e;simp_all
def Ns.trans(m:Ns c d)(n:Ns d e):Ns c e where
 keep:=λa o h b=>by
  show n.keep a o (m.keep a o h b) λz=>?_;rcases m.roots a z with z|z
  .show b z
  simp_all
 there:=λa o h=>let ⟨f,h'⟩:=m.there a o h;n.there a f h'
 roots:=λa h=>by
  rcases n.roots a h with z|z
  .show m.roots a z
  .show .inr (m.none z)
 sub:=λa h=>n.sub a (m.sub a h)
 new:=λa h=>by
  rcases n.new a h with z|z|z
  .show m.new a z
  .rcases m.roots a z with z|z
   .show .inr (.inl z)
   .show .inr (.inr z)
  .show .inr (.inr (m.none z))
inductive Y6(C:Ct)(S:hH->Prop)(H:Hp)(u:U)(v:V):Prop
 |mk:∀r,v=.ref r->¬S r->¬C.O2 r->(C.H₀ r=cb\/C.IO r)->eE C S H r u->Y6 C S H u v
def jq.rt(hk:k.root=b6)(h:jq C S H k u v):Y6 C S H u v:=by
 cases k with
 |own=>have(r,a,b,c,d,e):=h;show#[r,a,b,c,.inl d,e]
 |io=>have(r,a,b,c,d,e):=h;show#[r,a,b,c,.inr d,e]
 |_=>cases hk
theorem d7.mem:∀{us}{as}{a},d7 C S H us as->a∈as->∃vs,H a≈.lst vs
 |[],as,a,h,ha=>by cases h;cases ha
 |u::us,as,a,h,ha=>by
  have(a',as',ys,vs,rfl,_,b,_,c):=h;rcases eT.mp ha with rfl|ha
  .show#[vs,b]
  .show d7.mem c ha
theorem d7.mv(m:Mv S H S' H'):∀{us}{as},(∀a∈as,∀o,H a≈o->H' a≈o)->d7 C S H us as->d7 C S' H' us as
 |[],as,_,h=>h
 |u::us,as,b,h=>by
  have(a,as',ys,vs,rfl,e,c,d,f):=h;show#[a,as',ys,vs,rfl,e,b a ⋯ _ c,d.mv m,d7.mv m (λa g=>b a (by simp[g])) f]
def ba.fr(h:ba C S H r as u):∀a∈r::as,¬S a/\¬C.O2 a/\(C.H₀ a=cb\/C.IO a):=by
 cases u with
 |Nu ks us=>have(kvs,_,_,_,_,b,_):=h;show λa c=>let ⟨p,q,r⟩:=b a c;⟨p,q,.inl r⟩
 |ob d u us =>
  cases d with
  |false=>have(_,_,_,_,_,rfl,h):=h;show h.fr
  |true=>have(_,_,_,_,_,_,_,_,rfl,k,h):=h;show λx e=>(eT.mp e).elim (λz=>z▸k.fr) (h.fr x)
 |_=>show h.elim
def ba.Y7(h:ba C S H r as (.Nu ks us)):∀a∈r::as,¬S a/\¬C.O2 a/\C.H₀ a=cb:=by
 have(kvs,_,_,_,_,b,_):=h;show b
def ba.there(h:ba C S H r as u):∀a∈r::as,∃o,H a≈o/\¬Tp o:=by
 cases u with
 |Nu ks us =>
  have(kvs,b,_,_,_,_,c):=h;intro a ha;rcases eT.mp ha with rfl|ha
  .show#[_,b,λz=>z]
  .have(vs,e):=c.mem ha;show#[_,e,λz=>z]
 |ob d u us =>
  cases d with
  |false=>have(_,_,_,_,_,rfl,h):=h;show h.there
  |true=>have(_,_,_,_,_,_,_,_,rfl,k,h):=h;show λx f=>(eT.mp f).elim (λz=>z▸⟨_,k.ins,λz=>z⟩) (h.there x)
 |_=>show h.elim
def ba.mv(m:Mv S H S' H')(b:∀a∈r::as,¬S' a/\∀o,H a≈o->H' a≈o)(h:ba C S H r as u):ba C S' H' r as u:=by
 cases u with
 |Nu ks us =>
  have(kvs,e,f,g,i,j,l):=h;show#[kvs,(b r ⋯).2 _ e,f,g,i,λa c=>#[(b a c).1,(j a c).2],l.mv m λa c=>(b a (by simp[c])).2]
 |ob d u us =>
  cases d with
  |false=>have(_,_,_,_,_,rfl,h):=h;show#[_,_,_,_,_,rfl,h.mv m b]
  |true =>
   have(_,_,_,_,_,_,_,_,rfl,k,h):=h;show#[_,_,_,_,_,_,_,_,rfl,#[k.hc,(b r ⋯).2 _ k.ins,k.ne,k.na,(b r ⋯).1,k.fr.2],h.mv m λx n=>b x (f7 _ n)]
 |_=>show h.elim
def QJ.of(d:QJ C c)(hk:e.kid=c.kid)(l:∀(j:Nat) u,e.st[j]?≈bD (.A',u)->c.st[j]?≈bD (.A',u)/\e.σ[j]?=c.σ[j]?)(p:∀a,e.R1 a->c.R1 a\/∀j,¬c.RD j a)
  (m:Mv c.S c.H e.S e.H) (q:∀j a,c.RD j a->¬e.S a/\∀o,c.H a≈o->e.H a≈o):QJ C e:=by
 have b:∀j a,e.RD j a->c.RD j a:=λj a s=>by
  have(u,r,h,f,n):=s;have(g,k):=l j u h;rw[k]at f;rw[hk]at n;show#[u,r,g,f,n]
 show#[λj u r h f=>?_,λi j a z1 z2=>d.dj i j a (b i a z1) (b j a z2),λj a z1 z2=>?_]
 .have(g,k):=l j u h;rw[k]at f;rw[hk];show ba.mv m (λa t=>q j a #[u,r,g,f,eT.mp t]) (d.kd j u r g f)
 .rcases p a z2 with z|z
  .show d.d1 j a (b j a z1) z
  .show z j (b j a z1)
def QJ.hs(d:QJ C c)(m:Mv c.S c.H S' H')(b:∀j a,c.RD j a->¬S' a/\∀o,c.H a≈o->H' a≈o):QJ C {c with H:=H',S:=S' } :=
 d.of rfl (λ_ _ e=>#[e,rfl]) (λ_ z=>.inl z) m b
def Ok.root(f:Ok C c)(h:c.R r):¬c.S r/\¬C.O2 r/\(C.H₀ r=cb\/C.IO r)/\∃o,c.H r≈o/\¬Tp o:=by
 rcases h with⟨j,k,u,hk,b,d⟩|⟨j,u,g,b,d,a⟩
 .have(v,e,hs):=f.sl j _ _ b;have(g,ev,a,l,m,n):=hs.rt hk;rw[d]at e;cases e;cases ev;show#[a,l,m,n.some]
 .have i:=f.dd.kd j u g b d;have(p,q,s):=ba.fr i r (eT.mpr a);show#[p,q,s,ba.there i r (eT.mpr a)]
def Ok.mv(b:Ok C c)(n:Ns c d):Mv c.S c.H d.S d.H:=#[n.sub,λa o h t=>n.keep a o h λz=>by
  have(_,_,_,e,h',f):=b.root z;simp_all,λa o s h=>n.keep a o h λz=>(b.root z).1 s]
def Ok.Si(b:Ok C c)(n:Ns c d):Mv (PS C c.S) c.H (PS C d.S) d.H:=#[λa h=>h.imp id (n.sub a),(b.mv n).U3,λa o s h=>n.keep a o h λz=>by
  rcases s with s|s
  .show(b.root z).2.1 s
  .show(b.root z).1 s]
def Ok.jP(a:Ok C c)(h:c.H p=cb):C.H₀ p=cb/\¬c.S p/\¬C.O2 p/\¬C.IO p/\¬c.R p:=by
 have b:¬C.IO p:=λz=>by have(_,o,q):=a.io p z;simp_all
 have h0:C.H₀ p=cb:=by
  cases e:C.H₀ p with
  |none=>rfl
  |some o=>have:=a.same p o e b;simp_all
 show#[h0,λz=>?_,λz=>?_,b,λz=>?_]
 .have(_,o,q):=a.O3 p z;simp_all
 .have((o,q),_):=a.par p z;simp_all
 .have(_,_,_,o,q,_):=a.root z;simp_all
def jq.mv(m:Mv S H S' H')(i:Mv (PS C S) H (PS C S') H')(g:k.root=b6->∀r,v=.ref r->¬S' r/\∀o,H r≈o->H' r≈o)(h:jq C S H k u v):jq C S' H' k u v:=by
 cases k with
 |own =>
  have(r,e,l,a,b,c):=h;have(d,f):=g rfl r e;show#[r,e,d,a,b,c.mv m f]
 |io =>
  have(r,e,l,a,b,c):=h;have(d,f):=g rfl r e;show#[r,e,d,a,b,c.mv m f]
 |loc=>show Rep.mv m h
 |any=>show Rep.mv i h
 |bor j=>show h.elim
 |A'=>show h
structure Nx(c c':Cf):Prop extends Ns c c' where
instance {c a:Cf}:Coe (Nx c a) (Ns c a):=#[Nx.toNs]
def Nx.refl(c:Cf):Nx c c:=#[.refl c]
def Nx.trans(m:Nx c a)(n:Nx a b):Nx c b:=#[m.toNs.trans n.toNs]
def Nx.none(n:Nx c b)(h:b.H a=.none):c.H a=.none:=n.toNs.none h
def Ok.lay(d:Ok C c)(h:c.H p=cb):Ok C {c with H:=upd c.H p o}/\Nx c {c with H:=upd c.H p o}:=by
 have ne:∀{a:hH} {b:HO},c.H a≈b->a≠p:=λe z=>by subst z;rw[h]at e;cases e
 have f:∀a b,c.H a≈b->(upd c.H p o) a≈b:=λa b e=>by rw[ai (ne e)];show e
 have nx:Nx c {c with H:=upd c.H p o}:=#[#[λa b e _=>f a b e,λa b e=>#[b,f a b e],λa z=>.inl z,λ_ z=>z,λ_ z=>.inl z]]
 show#[#[λa b e z=>f a b (d.same a b e z),λa z=>#[(d.O3 a z).1,let ⟨b,q⟩:=(d.O3 a z).2;⟨b,f a b q⟩],d.par,λa z=>#[(d.io a z).1,let ⟨b,q⟩:=(d.io a z).2;⟨b,f a b q⟩],d.len,λi k u e=>?_,d.inj,d.dd.hs (d.mv nx.toNs) λj a z=>#[(d.root (.inr #[j,z])).1,λb e=>f a b e]],nx];have(v,m,g):=d.sl i k u e;show#[v,m,g.mv (d.mv nx.toNs) (d.Si nx.toNs) λhk r n=>?_];have(t,l,s,_):=g.rt hk;rw[n]at l;cases l;show#[s,λb e=>f r b e]
def Ok.grow(d:Ok C c)(hs:fV c.H H')(h:∀a,S' a->c.S a\/(c.H a=cb/\∃o,H' a≈o))(s:∀a,c.S a->S' a):Ok C {c with H:=H',S:=S' }/\Nx c {c with H:=H',S:=S' }:=by
 have nx:Nx c {c with H:=H',S:=S' }:=#[#[λa b e _=>hs a b e,λa b e=>#[b,hs a b e],λa z=>.inl z,s,λa z=>(h a z).imp id λq=>.inr q.1]]
 show#[#[λa b e z=>hs a b (d.same a b e z),λa z=>?_,d.par,λa z=>#[(d.io a z).1,let ⟨b,q⟩:=(d.io a z).2;⟨b,hs a b q⟩],d.len,λi k u e=>?_,d.inj,d.dd.hs (d.mv nx.toNs) λj a z=>#[λf=>?_,λb e=>hs a b e]],nx]
 rotate_left 2
 .have(g,_,_,o,l,_):=d.root (.inr #[j,z]);rcases h a f with f|⟨f,_⟩
  .show g f
  .rw[l]at f;cases f
 .rcases h a z with q|⟨g,m⟩
  .show#[(d.O3 a q).1,let ⟨b,q⟩:=(d.O3 a q).2;⟨b,hs a b q⟩]
  .show#[(d.jP g).1,m]
 .have(v,t,n):=d.sl i k u e;show#[v,t,n.mv (d.mv nx.toNs) (d.Si nx.toNs) λhk r w=>?_];have(x,p,g,m,y,l):=n.rt hk;rw[w]at p;cases p;have(o,ho,_):=l.some;show#[λz=>?_,λb e=>hs r b e];rcases h r z with z|⟨z,_⟩
  .show g z
  .rw[z]at ho;cases ho
def aM(C:Ct)(c0 c:Cf):Kd->U->V->Prop
 |.own,u,v=>∃r,v=.ref r/\c0.H r=cb/\¬c.S r/\¬c.R r/\eE C c.S c.H r u
 |.loc,u,v=>Rep C c.S c.H u v
 |.any,u,v=>Rep C (PS C c.S) c.H u v
 |.bor j,u,v=>(∃k:Kd,k.root=b6/\c.st[j]?≈bD (k,u))/\c.σ[j]?≈bD v
 |.io,_,_=>False
 |.A',_,_=>False
def gR(C:Ct)(c0 c:Cf):Kd->U->V->Prop
 |.own,u,v=>∃r,v=.ref r/\c0.H r=cb/\¬c.S r/\¬c.R r/\eE C c.S c.H r u
 |.loc,u,v=>Rep C c.S c.H u v
 |.any,u,v=>Rep C (PS C c.S) c.H u v
 |.bor j,u,v=>c.σ[j]?≈bD v
 |.io,_,_=>False
 |.A',_,_=>False
def aM.w(h:aM C c0 c k u v):gR C c0 c k u v:=by
 cases k with
 |bor j=>show h.2
 |_=>show h
def gR.on'(a:Ok C c)(n:Ns c b)(g:∀j,k=.bor j->b.σ[j]?=c.σ[j]?)(h:gR C c0 c k u v):gR C c0 b k u v:=by
 cases k with
 |own =>
  have(r,e,i,l,d,f):=h;have(o,ho,_):=f.some;show#[r,e,i,λz=>?_,λz=>?_,f.mv (a.mv n) λo q=>n.keep r o q d]
  .rcases n.new r z with z|z|z
   .show l z
   .show d z
   simp_all
  .rcases n.roots r z with z|z
   .show d z
   simp_all
 |loc=>show Rep.mv (a.mv n) h
 |any=>show Rep.mv (a.Si n) h
 |bor j=>change b.σ[j]?=_;rw[g j rfl];show h
 |_=>show h
def gR.on(b:Ok C c)(n:Ns c a)(d:a.σ=c.σ)(h:gR C c0 c k u v):gR C c0 a k u v:=h.on' b n λj _=>by rw[d]
def gR.from(n:Ns c0 c1)(h:gR C c1 c k u v):gR C c0 c k u v:=by
 cases k with
 |own=>have(r,e,a,b):=h;show#[r,e,n.none a,b]
 |_=>show h
def aM.from(n:Ns c0 c1)(h:aM C c1 c k u v):aM C c0 c k u v:=by
 cases k with
 |own=>have(r,e,a,b):=h;show#[r,e,n.none a,b]
 |_=>show h
def SK(C:Ct)(c:Cf):Kd->hH->Prop
 |.any=>PS C c.S
 |_=>c.S
abbrev kE:Kd->Kd
 |.any=>.any
 |_=>.loc
def Ok.rootOf(b:Ok C c){j:Nat}(h:∃k,k.root=b6/\c.st[j]?≈bD (k,u))(e:c.σ[j]?≈bD v):Y6 C c.S c.H u v:=by
 have(k,hk,h):=h;have(f,a,d):=b.sl j _ _ h;rw[e]at a;cases a;show d.rt hk
inductive RtL(C:Ct)(c:Cf)(k:Kd)(us:↑U)(v:V):Prop
 |mk:∀a vs,v=.ref a->N5 C.K c.H a vs->aq C (SK C c k) c.H us vs->RtL C c k us v
def aM.list(f:Ok C c)(h:aM C c0 c k (.lst us) v):RtL C c k us v:=by
 cases k with
 |own=>have(r,e,_,_,_,vs,b,d):=h;show#[r,vs,e,N5.of b,d]
 |bor j=>have(r,e,_,_,_,vs,b,d):=f.rootOf h.1 h.2;show#[r,vs,e,N5.of b,d]
 |io=>show h.elim
 |A'=>show h.elim
 |_=>have(a,vs,e,b,d):=h;show#[a,vs,e,b.sq,d]
inductive RtT(C:Ct)(c:Cf)(k:Kd)(us:↑U)(v:V):Prop
 |mk:∀a vs,v=.ref a->Oc C.K c.H a vs->aq C (SK C c k) c.H us vs->RtT C c k us v
def aM.tuple(b:Ok C c)(h:aM C c0 c k (.tup us) v):RtT C c k us v:=by
 cases k with
 |own=>have(r,e,_,_,_,h):=h;show h.elim
 |bor j=>have(r,e,_,_,_,h):=b.rootOf h.1 h.2;show h.elim
 |io=>show h.elim
 |A'=>show h.elim
 |_=>have(a,vs,e,d,f):=h;show#[a,vs,e,d,f]
def aM.flat(b:Ok C c)(a:NT u=b6)(h:aM C c0 c k u v):Rep C c.S c.H u v:=by
 cases k with
 |own=>have(r,e,_,_,_,h):=h;cases u<;>simp[NT]at a<;>show h.elim
 |loc=>show h
 |any=>show Rep.NT a h
 |bor j=>have(r,e,_,_,_,h):=b.rootOf h.1 h.2;cases u<;>simp[NT]at a<;>show h.elim
 |_=>show h.elim
def aM.int(a:Ok C c)(h:aM C c0 c k (.int i) v):v=.int i:=h.flat a rfl
def aM.str(a:Ok C c)(h:aM C c0 c k (.str x) v):v=.str x:=h.flat a rfl
def aM.bl(a:Ok C c)(h:aM C c0 c k (.bl b) v):v=.bl b:=h.flat a rfl
def aM.Nt(a:Ok C c)(h:aM C c0 c k .Nt v):v=.Nt:=h.flat a rfl
def aM.item(h:Rep C (SK C c k) c.H u v):aM C c0 c (kE k) u v:=by
 cases k<;>show h
abbrev PL(H:Hp):hH->Prop:=λa=>∃o,H a≈o
def Ok.A5(b:Ok C c):∀a,c.S a->PL c.H a:=λa h=>(b.O3 a h).2
def Ok.KR(b:Ok C c):∀a,PS C c.S a->PL c.H a:=λa h=>by
 rcases h with h|h
 .have((o,e),n):=b.par a h;show#[o,b.same a o e n]
 .show b.A5 a h
def aM.read(a:Ok C c)(h:aM C c0 c k u v):Rep C (PL c.H) c.H u v:=by
 cases k with
 |own =>
  have(r,e,_,_,_,b):=h;rw[e];have(o,ho,_):=b.some;show b.rep a.A5 #[o,ho]
 |loc=>show Rep.mv (.up a.A5) h
 |any=>show Rep.mv (.up a.KR) h
 |bor j =>
  have(r,e,_,_,_,b):=a.rootOf h.1 h.2;rw[e];have(o,ho,_):=b.some;show b.rep a.A5 #[o,ho]
 |_=>show h.elim
def Ok.newList(a:Ok C c)(n:Nx c0 c)(h:c.H p=cb)(d:aq C c.S c.H us vs):
  Ok C {c with H:=upd c.H p (.lst vs)}/\Nx c0 {c with H:=upd c.H p (.lst vs)}/\aM C c0 {c with H:=upd c.H p (.lst vs)} .own (.lst us) (.ref p):=by
 have(e,b):=a.lay  h;have(h0,f,i,j,g):=a.jP h;show#[e,n.trans b,p,rfl,n.none h,f,g,vs,aj,d.mv (a.mv b.toNs)]
def Ok.A6(a:Ok C c)(n:Nx c0 c)(h:c.H p=cb)(d:aq C c.S c.H us vs):
  Ok C {c with H:=upd c.H p (.tup vs)}/\Nx c0 {c with H:=upd c.H p (.tup vs)}/\aM C c0 {c with H:=upd c.H p (.tup vs)} .loc (.tup us) (.ref p):=by
 have(e,b):=a.lay  h;show#[e,n.trans b,p,vs,rfl,Oc.of aj,d.mv (a.mv b.toNs)]
inductive Ex(α:Type) where|ok (a:α)|exc (c:Str)
abbrev M(α:Type):=au->Option (Ex α×au)
namespace M
abbrev pure(a:α):M α:=λst=>bD (.ok a,st)
abbrev fail:M α:=λ_=>cb
abbrev bind(m:M α)(f:α->M β):M β:=λst=>match m st with
 |none=>cb
 |some (.ok a,st')=>f a st'
 |some (.exc c,st')=>bD (.exc c,st')
abbrev NV(o:Option α):M α:=λst=>match o with
 |none=>cb
 |some a=>bD (.ok a,st)
end M
noncomputable instance:Monad M:={pure:=M.pure,bind:=M.bind}
inductive W{α:Type}(m:M α)(st:au)(Q:α->au->Prop):Prop
 |mk:∀a st',m st≈(.ok a,st')->Q a st'->W m st Q
def ao:W (pure a) st Q↔Q a st:=by
 constructor
 .rintro⟨b,st',e,h⟩;cases e;show h
 .intro h;show#[a,st,rfl,h]
def ag:W (m >>= f) st Q↔W m st λa st'=>W (f a) st' Q:=by
 constructor
 .rintro⟨b,st',e,h⟩;have d:M.bind m f st≈_:=e;unfold M.bind at d;cases q:m st with
  |none=>simp_all
  |some r =>
   have(r,s1):=r;rw[q]at d;cases r with
   |ok a=>show#[a,s1,q,b,st',d,h]
   |exc c=>cases d
 .rintro⟨a,s1,q,b,st',e,h⟩;show#[b,st',?_,h];change M.bind m f st=_;unfold M.bind;rw[q];show e
def cv:W (M.NV o) st Q↔∃a,o≈a/\Q a st:=by
 cases o with
 |none=>show#[λ⟨_,_,e,_⟩=>(by cases e),λ⟨_,e,_⟩=>(by cases e)]
 |some a=>show#[λ⟨_,_,e,h⟩=>(by cases e;show#[a,rfl,h]),λ⟨_,e,h⟩=>(by cases e;show#[a,st,rfl,h])]
def bf:W (M.fail:M α) st Q↔False:=#[λ⟨_,_,e,_⟩=>(by cases e),Hf]
def W.mono(h:W m st Q)(i:∀a s,Q a s->b a s):W m st b:=let ⟨a,s,e,q⟩:=h;⟨a,s,e,i a s q⟩
inductive W4 where|add|sub|mul|Qh|mod|pow
deriving DecidableEq
inductive V0 where|eq|ne|lt|le|gt|ge|isin|NB|is|T9
deriving DecidableEq
inductive Bf where|len|sorted|list|tuple|str|int|repr|max|min|all|any
deriving DecidableEq
inductive B2 where|PM|Rj|sset|jg
deriving DecidableEq
inductive Mf where|split|join|partition|endswith
deriving DecidableEq
inductive Sj where|str
deriving DecidableEq
inductive Ik where|seq|Of|Sk|Te|zip|rev
deriving DecidableEq
inductive E where
 |var (i:Nat)
 |cst (u:U)
 |PF (x:Str) (u:U)
 |bin (op:W4) (a b:E)
 |cmp (op:V0) (a b:E)
 |Qi (o1 o2:V0) (a b c:E)
 |and (es:↑E)|or (es:↑E)|not (a:E)
 |ite (c a b:E)
 |tup (es:↑E)|lst (es:↑E)|PN (r:Bool)
 |idx (a b:E)
 |Ph (a:E) (lo hi:↑E)
 |bi (f:Bf) (es:↑E)
 |Rk (f:B2) (es:↑E)
 |OS (m:Mf) (a:E) (es:↑E)
 |call (f:Str) (es:↑E)
 |comp (k:Nat) (t:Bool) (ik:Ik) (src:↑E) (cond:↑E) (e:E)
 |neg (a:E)|bad|Tf (a:E) (T:Sj)|fst (es:↑E)|inD (neg:Bool) (a:E) (i:Nat)|U4 (i:Nat)|Qj (i:Nat) (k d:E)|U5 (i:Nat)|W5 (ln:Bool) (a b:E)
 |pop (i:Nat)|Sn (i:Nat) (e:E)|Tg (f:Str) (es:↑E)
 |Oy (i:Nat)|PQ (i:Nat)|lW (i:Nat)|O8 (f:Str) (i:Nat) (es:↑E)|QK (d:Bool) (f m:Str) (i:Nat) (es:↑E)|P7 (f m:Str) (i:Nat) (js:↑(Nat×Nat))
inductive RE where
 |mt (d:Bool) (f m:Str) (i:Nat) (es:↑E)
 |P7 (f m:Str) (i:Nat) (js:↑(Nat×Nat))
 |arg (f:Str) (r:RE)
 |QL (r:RE)
inductive S where
 |set (i:Nat) (e:E)
 |Qk (is:↑Nat) (e:E)
 |put (i:Nat) (k v:E)
 |app (i:Nat) (e:E)|ext (i:Nat) (e:E)|bad|newD (i:Nat)|putD (i:Nat) (k v:E)|PU (i:Nat) (k v:E)|aug (sub:Bool) (i:Nat) (k v:E)|W6 (i:Nat)
 |exp (e:E)
 |ret (e:E)|So
 |ite (c:E) (a b:↑S)
 |Ob (t:Bool) (is:↑Nat) (ik:Ik) (src:↑E) (body:↑S)
 |T_ (c:E) (body:↑S)
 |brk|cnt|W7
 |U6 (is:↑Nat)
 |Rm (c:Str) (e:E)
 |OZ (r:RE)|Sr (i:Nat) (c:Str) (b:E) (c1 c2:Str)|Ql|Py (i:Nat)|QM (i:Nat) (e:E)|QN (i:Nat)
 |RM (r:RE) (i:Nat) (x:Str) (Qm:↑(Str×Nat)) (j k:Nat) (Ds:List ↑Str) (G:↑Str)
abbrev isAny:Kd->Bool
 |.any=>b6
 |_=>cK
abbrev kF(k:Kd)(xs:↑U):Bool:=!isAny k||d6 xs
abbrev kT(k k':Kd):Kd:=if isAny k||isAny k' then .any else .loc
abbrev cut{α:Type}(xs:↑α)(lo hi:Option Int):↑α:=(xs.drop (HT.NP ⇑xs 0 lo)).take (HT.NP ⇑xs ⇑xs hi - HT.NP ⇑xs 0 lo)
abbrev A7:Kd×U->Kd×U->Option (Kd×U)
 |(_,.int i),(_,.int j)=>bD (.loc,.int (i+j))
 |(_,.str x),(_,.str y)=>if ⇑x+⇑y<=c8 then bD (.loc,.str (x++y)) else cb
 |(k,.lst xs),(k',.lst ys)=>if ⇑xs+⇑ys<=c8/\kF k xs=b6/\kF k' ys=b6 then bD (.own,.lst (xs++ys)) else cb
 |(k,.tup xs),(k',.tup ys)=>if ⇑xs+⇑ys<=c8 then bD (kT k k',.tup (xs++ys)) else cb
 |_,_=>cb
abbrev vq(f:Int->Int->Option Int):U->U->Option (Kd×U)
 |.int i,.int j=>(f i j).map λn=>(.loc,.int n)
 |_,_=>cb
abbrev Ec(i j:Int):Option Int:=if ((-(2 ^ 64)<i/\i<2 ^ 64)\/(-(2 ^ 64)<j/\j<2 ^ 64)) then bD (i * j) else cb
abbrev Ed(i j:Int):Option Int:=if 0<j/\j<1073741824 then bD (i / j) else cb
abbrev Ee(i j:Int):Option Int:=if 0<j then bD (i % j) else cb
abbrev Ef(i j:Int):Option Int:=if 0<=j/\j<=1000000/\i.natAbs<2 ^ 64 then bD (i ^ j.toNat) else cb
abbrev P8(op:W4)(x y:Kd×U):Option (Kd×U):=match op with
 |.add=>A7 x y
 |.sub=>vq (λi j=>bD (i - j)) x.2 y.2
 |.mul=>vq Ec x.2 y.2
 |.Qh=>vq Ed x.2 y.2
 |.mod=>vq Ee x.2 y.2
 |.pow=>vq Ef x.2 y.2
mutual
noncomputable def Og:Nat->U->Bool
 |_,.Nu _ _=>cK
 |_,.ob _ _ _=>cK
 |0,.tup _=>cK
 |0,.lst _=>cK
 |n+1,.tup xs=>dQ n xs
 |n+1,.lst xs=>dQ n xs
 |_,.Nt=>b6|_,.bl _=>b6|_,.int _=>b6|_,.str _=>b6
noncomputable def dQ:Nat->↑U->Bool
 |_,[]=>b6
 |n,u::us=>Og n u&&dQ n us
end
mutual
noncomputable def bZ:U->U->Bool
 |.Nt,.Nt=>b6
 |.bl a,.bl b=>a==b
 |.bl a,.int b=>(if a then 1 else 0)==b
 |.int a,.bl b=>a==(if b then 1 else 0)
 |.int a,.int b=>a==b
 |.str a,.str b=>a==b
 |.tup xs,.tup ys=>cY xs ys
 |.lst xs,.lst ys=>cY xs ys
 |_,_=>cK
noncomputable def cY:↑U->↑U->Bool
 |[],[]=>b6
 |u::us,w::ws=>bZ u w&&cY us ws
 |_,_=>cK
end
abbrev Ua(x:U)(ys:↑U):Option Bool:=if Og 50 x=b6/\dQ 50 ys=b6 then bD (ys.any λy=>bZ y x) else cb
abbrev U7(x y:Str):Bool:=!(ti y x 0 ⇑y 1).isEmpty
abbrev strsOf:↑U->Option ↑Str
 |[]=>bD []
 |.str x::us=>(strsOf us).map (x::·)
 |_::_=>cb
abbrev Eg:U->U->Option Bool
 |x,.lst ys=>Ua x ys
 |x,.tup ys=>Ua x ys
 |.str x,.str y=>bD (U7 x y)
 |.str x,.Nu ks _=>bD (df (x∈ks))
 |_,_=>cb
abbrev eW:↑Str->↑U->Str->Option U
 |y::ks,u::us,x=>if y=x then bD u else eW ks us x
 |_,_,_=>cb
abbrev dput(ks:↑Str)(us:↑U)(x:Str)(u:U):↑Str×↑U :=
 if x∈ks then(ks,(ks.zip us).map λp=>if p.1=x then u else p.2) else(ks++[x],us++[u])
abbrev pw:U->Bool
 |.Nt=>b6
 |_=>cK
abbrev bN:V0->U->U->Option Bool
 |.eq,a,b=>if Og 50 a=b6/\Og 50 b=b6 then bD (bZ a b) else cb
 |.ne,a,b=>if Og 50 a=b6/\Og 50 b=b6 then bD (!bZ a b) else cb
 |.lt,.int i,.int j=>bD (df (i<j))
 |.gt,.int i,.int j=>bD (df (j<i))
 |.ge,.int i,.int j=>bD (df (j<=i))
 |.isin,x,y=>Eg x y
 |.NB,x,y=>(Eg x y).map (!·)
 |.is,x,.Nt=>bD (pw x)
 |.T9,x,.Nt=>bD (!pw x)
 |.is,.bl x,.bl y=>bD (x==y)
 |.T9,.bl x,.bl y=>bD (!(x==y))
 |_,_,_=>cb
abbrev nq:↑U->Option ↑Bool
 |[]=>bD []
 |.bl x::us=>(nq us).map (x::·)
 |_::_=>cb
abbrev lV:Kd×U->U->Option (Kd×U)
 |(k,.lst xs),.int i=>(N_ xs i).map λu=>(kE k,u)
 |(k,.tup xs),.int i=>(N_ xs i).map λu=>(kE k,u)
 |(_,.str x),.int i=>if ⇑x<=c8 then(N_ (~~~x) i).map λc=>(.loc,.str #[#v[c]]) else cb
 |_,_=>cb
abbrev jQ:Kd×U->Option Int->Option Int->Option (Kd×U)
 |(k,.lst xs),lo,hi=>if kF k xs=b6 then bD (.own,.lst (cut xs lo hi)) else cb
 |(k,.tup xs),lo,hi=>bD (kE k,.tup (cut xs lo hi))
 |(_,.str x),lo,hi=>if ⇑x<=c8 then bD (.loc,.str (PySem.StrLaws.sliceText x lo hi)) else cb
 |_,_,_=>cb
abbrev KS:U->Option Nat
 |.lst xs=>bD ⇑xs
 |.tup xs=>bD ⇑xs
 |.str x=>if ⇑x<=c8 then bD ⇑x else cb
 |_=>cb
abbrev iR{β:Type}(f:Kd×U->Option β):↑(Kd×U)->Option β
 |[x]=>f x
 |_=>cb
abbrev intsOf:↑U->Option ↑Int
 |[]=>bD []
 |.int x::us=>(intsOf us).map (x::·)
 |_::_=>cb
abbrev H9:Kd×U->Option (Kd×U)
 |(_,.lst xs)=>(strsOf xs).bind λss=>if ⇑ss<64 then bD (.own,.lst ((b_ ss).map .str)) else cb
 |(_,.Nu ks _)=>if ⇑ks<64 then bD (.own,.lst ((b_ ks).map .str)) else cb
 |(_,.tup xs)=>(strsOf xs).bind λss=>if ⇑ss<64 then bD (.own,.lst ((b_ ss).map .str)) else cb
 |_=>cb
abbrev H_:Kd×U->Option (Kd×U)
 |(k,.lst xs)=>bD (kE k,.tup xs)
 |(k,.tup xs)=>bD (kE k,.tup xs)
 |_=>cb
abbrev A8:Kd×U->Option (Kd×U)
 |(_,.int i)=>if i.natAbs.log2<1920 then bD (.loc,.str (Ņ i)) else cb
 |_=>cb
abbrev yP(a:Bool):↑(Kd×U)->Option (Kd×U)
 |[(_,.int i),(_,.int j)]=>bD (.loc,.int (if a=b6 then(if j<i then j else i) else(if j>i then j else i)))
 |_=>cb
abbrev Ia:Kd×U->Option (Kd×U)
 |(_,.lst xs)=>(nq xs).map λbs=>(.loc,.bl (bs.all id))
 |_=>cb
abbrev Ib:Kd×U->Option (Kd×U)
 |(_,.bl b)=>bD (.loc,.int (if b then 1 else 0))
 |_=>cb
abbrev PV(f:Bf)(rs:↑(Kd×U)):Option (Kd×U):=match f with
 |.len=>iR (λx=>(KS x.2).map λ(n:Nat)=>(Kd.loc,U.int (n:Int))) rs
 |.sorted=>iR H9 rs
 |.tuple=>iR H_ rs
 |.str=>iR A8 rs
 |.int=>iR Ib rs
 |.max=>yP cK rs
 |.min=>yP b6 rs
 |.all=>iR Ia rs
 |_=>cb
abbrev yQ:U->Option ↑Str
 |.lst xs=>(strsOf xs).bind λss=>if ⇑ss+1<SM then bD (bV ss) else cb
 |.tup xs=>(strsOf xs).bind λss=>if ⇑ss+1<SM then bD (bV ss) else cb
 |_=>cb
abbrev Ic:Kd×U->Option (Kd×U)
 |(k,.tup xs)=>bD (kE k,.tup xs.reverse)
 |_=>cb
abbrev vt(f:B2)(rs:↑(Kd×U)):Option (Kd×U):=match f with
 |.PM=>iR Ic rs
 |.Rj=>cb
 |.sset=>cb
 |.jg=>iR (λx=>(yQ x.2).map λss=>(.loc,.int ⇑ss)) rs
abbrev V1(f:Str->Option (Kd×U)):U->Option (Kd×U)
 |.str b=>f b
 |_=>cb
def gS(h:V1 f u≈r):∃b,u=.str b/\f b≈r:=by
 cases u with
 |str b=>show#[b,rfl,h]
 |_=>cases h
abbrev KU(a:Str)(xs:↑U):Option (Kd×U):=(strsOf xs).bind λss=>if Vn a ss=b6 then bD (.loc,.str (ri a ss)) else cb
abbrev MW(a:Str):U->Option (Kd×U)
 |.lst xs=>KU a xs
 |.tup xs=>KU a xs
 |_=>cb
abbrev MX:Mf->Str->U->Option (Kd×U)
 |.split,a=>V1 λb=>if (⇑b==0)=cK/\⇑a+2<=c8 then bD (.own,.lst ((G' a b).map .str)) else cb
 |.join,a=>MW a
 |.endswith,a=>V1 λb=>bD (.loc,.bl (İ a b))
 |.partition,a=>V1 λb=>if (⇑b==0)=cK/\⇑a<=c8 then bD (.loc,.tup [.str (ko a b).1,.str (ko a b).2.1,.str (ko a b).2.2]) else cb
abbrev jR(m:Mf)(u:U)(rs:↑(Kd×U)):Option (Kd×U):=V1 (λa=>iR (λx=>MX m a x.2) rs) u
abbrev MY:Kd×U->Option (↑(Kd×U))
 |(k,.lst xs)=>bD (xs.map λu=>(kE k,u))
 |(k,.tup xs)=>bD (xs.map λu=>(kE k,u))
 |(_,.str x)=>bD (x.cps.toList.map λc=>(.loc,.str #[#v[c]]))
 |_=>cb
abbrev A9:Kd×U->Option (↑(Kd×U))
 |(_,.int n)=>if n<2 ^ 62/\-(2 ^ 62)<n then bD ((ib n.toNat).map λi:Nat=>(Kd.loc,U.int (0+(i:Int)))) else cb
 |_=>cb
abbrev Ie:↑(Kd×U)->Option (↑(Kd×U))
 |[(_,.int lo),(_,.int hi)]=>if hi<2 ^ 62/\-(2 ^ 62)<lo/\lo<2 ^ 62/\-(2 ^ 62)<hi then bD ((ib (hi - lo).toNat).map λi:Nat=>(Kd.loc,U.int (lo+(i:Int)))) else cb
 |_=>cb
abbrev KW:Kd×U->Option (↑(Kd×U))
 |(k,.lst xs)=>bD (xs.zipIdx.map λp=>(kE k,.tup [.int p.2,p.1]))
 |(k,.tup xs)=>bD (xs.zipIdx.map λp=>(kE k,.tup [.int p.2,p.1]))
 |_=>cb
abbrev PX(a:Ik)(rs:↑(Kd×U)):Option (↑(Kd×U)):=match a with
 |.seq=>iR MY rs
 |.Of=>iR A9 rs
 |.Sk=>Ie rs
 |.Te=>iR KW rs
 |_=>cb
abbrev Eh(ps:↑(Str×Int)):↑(Str×Int):=(lR (ps.map (·.1))).map λi=>ps.getD i (nH,0)
abbrev yR(p:Str×Int):U:=.tup [.str p.1,.int p.2]
abbrev A_:U->Option (Kd×U)
 |.Nu ks us=>(intsOf us).bind λns=>if ⇑ks<64/\ks.Nodup/\⇑ks=⇑ns then bD (.own,.lst ((Eh (ks.zip ns)).map yR)) else cb
 |_=>cb
abbrev vv:U->Option Bool
 |.bl b=>bD b
 |.lst xs=>bD !xs.isEmpty
 |.tup xs=>bD !xs.isEmpty
 |.str x=>if ⇑x<=c8 then bD ((⇑x:Int) != 0) else cb
 |_=>cb
abbrev lift:Kd×U->M U
 |(.own,u)=>pure u
 |(.loc,u)=>pure u
 |(.any,u)=>if NT u=b6 then pure u else M.fail
 |(.bor j,_)=>λst=>match st[j]? with
  |some (bD (.own,u))=>bD (.ok u,st.set j (bD (.loc,u)))
  |_=>cb
 |(.io,_)=>M.fail
 |(.A',_)=>M.fail
abbrev cj:↑(Kd×U)->M ↑U
 |[]=>pure []
 |r::rs=>do let u <-lift r;let us <-cj rs;pure (u::us)
abbrev eX(i:Nat):Kd×U->M Unit
 |(.bor j,_)=>λst=>match st[j]? with
  |some (bD (.own,u))=>bD (.ok (),(st.set j (bD (.loc,u))).set i (bD (.loc,u)))
  |_=>cb
 |(.io,_)=>M.fail
 |(.A',_)=>M.fail
 |(k,u)=>λst=>bD (.ok (),st.set i (bD (k,u)))
def bg:↑(Kd×U)->au->Prop
 |[],_=>True
 |(.bor j,u)::rs,st=>(∃k:Kd,k.root=b6/\st[j]?≈bD (k,u))/\bg rs st
 |_::rs,st=>bg rs st
open Classical in
abbrev az(rs:↑(Kd×U)):M Unit:=λst=>if bg rs st then bD (.ok (),st) else cb
@[reducible]noncomputable def Tab:=Str->↑U->Option (Ex (Kd×U))
abbrev i_(Γ:Tab)(f:Str)(us:↑U):M (Kd×U):=λst=>match Γ f us with
 |some (.ok (.any,_))=>cb
 |none=>cb
 |some r=>bD (r,st)
abbrev Ei(Γ:Tab)(f:Str)(j:Nat)(us:↑U):M (Kd×U):=λst=>match st[j]? with
 |some (bD (.own,u))=>match Γ f (us++[u]) with
  |some (.ok (.loc,.tup [x,w]))=>bD (.ok (.loc,x),st.set j (bD (.own,w)))
  |_=>cb
 |_=>cb
abbrev Ej(Γ:Tab)(f:Str)(rs:↑(Kd×U)):M (Kd×U):=match rs with
 |[a,b,c,(.bor j,_)]=>cj [a,b,c] >>= Ei Γ f j
 |_=>M.fail
abbrev Ba(i:Nat):M (Kd×U):=λst=>match st[i]? with
 |some (bD (k,.lst us))=>if k.root=b6 then(match us[⇑us - 1]? with|some u=>bD (.ok (.loc,u),st.set i (bD (k,.lst us.dropLast)))|none=>cb) else cb
 |_=>cb
abbrev dG(i:Nat):M (Kd×U):=λst=>match st[i]? with
 |some (bD (.A',_))=>cb
 |some (bD (k,u))=>bD (.ok (if k.root=b6 then .bor i else k,u),st)
 |_=>cb
abbrev Ss(i:Nat):M (U×↑U):=λst=>match st[i]? with
 |some (bD (.A',.ob cK u us))=>bD (.ok (u,us),st)
 |_=>cb
abbrev Su(i:Nat)(f:U->↑U->Option (U×↑U)):M Unit:=λst=>match st[i]? with
 |some (bD (.A',.ob cK u us))=>match f u us with
  |some (w,ws)=>if NT w=b6/\d6 ws=b6 then bD (.ok (),st.set i (bD (.A',.ob cK w ws))) else cb
  |none=>cb
 |_=>cb
abbrev Ek(u:U)(us:↑U):Option (U×↑U):=if ⇑us<c8 then bD (u,us++[u]) else cb
abbrev lW(i:Nat):M (Kd×U):=λst=>match st[i]? with
 |some (bD (.A',.ob cK u us))=>match us[⇑us - 1]? with
  |some w=>bD (.ok (.loc,w),st.set i (bD (.A',.ob cK u us.dropLast)))
  |none=>cb
 |_=>cb
abbrev QX(d:Bool)(i:Nat):M Unit:=λst=>match st[i]? with
 |some (bD (.A',.ob d' _ _))=>if d'=d then bD (.ok (),st) else cb
 |_=>cb
abbrev W8(w d:Bool):Option Bool:=if w=b6 then(if d=b6 then bD cK else cb) else bD d
abbrev sQ:Kd->U->Option (Sum (Kd×U) Str)
 |.loc,x=>bD (.inl (.loc,x))
 |.io,.str c=>bD (.inr c)
 |_,_=>cb
abbrev Bb(d:Bool):Option (Ex (Kd×U))->Option (Sum (Kd×U) Str×U×↑U)
 |some (.ok (k,.tup [x,.ob d' u us]))=>if d'=d then(sQ k x).map λr=>(r,u,us) else cb
 |_=>cb
abbrev dR(Γ:Tab)(f:Str)(w:Bool)(i:Nat)(rs:↑(Kd×U)):M (Sum (Kd×U) Str):=λst=>match st[i]? with
 |some (bD (.A',.ob d u us))=>(W8 w d).bind λd'=>(Bb d' (Γ f (.ob d' u us::rs.map (·.2)))).map λp=>(.ok p.1,st.set i (bD (.A',.ob d p.2.1 p.2.2)))
 |_=>cb
abbrev U8:Sum (Kd×U) Str->M (Kd×U)
 |.inl r=>pure r
 |.inr _=>M.fail
abbrev Y9(st:au)(p:Nat×Nat):Option (Kd×U):=match st[p.1]? with
 |some (bD (.loc,.tup us))=>us[p.2]?.map λu=>(.loc,u)
 |some (bD (.any,.tup us))=>us[p.2]?.map λu=>(.any,u)
 |_=>cb
abbrev Th(st:au):↑(Nat×Nat)->Option (↑(Kd×U))
 |[]=>bD []
 |p::js=>(Y9 st p).bind λr=>(Th st js).map (r::·)
abbrev Ub(js:↑(Nat×Nat)):M (↑(Kd×U)):=λst=>(Th st js).map λrs=>(.ok rs,st)
abbrev jS(i:Nat):M (↑Str×↑U):=λst=>match st[i]? with
 |some (bD (.A',.Nu ks us))=>bD (.ok (ks,us),st)
 |_=>cb
abbrev gK(x:Kd×U):M Str:=match x.2 with
 |.str y=>pure y
 |_=>M.fail
abbrev Y_(neg:Bool)(y:Str)(ks:↑Str):Bool:=if neg=b6 then !df (y∈ks) else df (y∈ks)
abbrev Bc(i:Nat):M (Kd×U):=λst=>match st[i]? with
 |some (bD (.A',.Nu ks us))=>bD (.ok (.bor i,.Nu ks us),st.set i (bD (.own,.Nu ks us)))
 |_=>dG i st
abbrev Gn(i:Nat):M Unit:=λst=>bD (.ok (),st.set i (bD (.A',.Nu [] [])))
abbrev nu(i:Nat)(y:Str):Kd×U->M Unit
 |(.own,.lst us)=>λst=>match st[i]? with
  |some (bD (.A',.Nu ks vs))=>if y∉ks/\⇑ks<c8 then bD (.ok (),st.set i (bD (.A',.Nu (ks++[y]) (vs++[.lst us])))) else cb
  |_=>cb
 |_=>M.fail
abbrev lX:↑Str->↑U->Str->U->↑U
 |k::ks,v::vs,y,u=>if k=y then u::vs else v::lX ks vs y u
 |_,vs,_,_=>vs
abbrev nv(i:Nat)(y:Str)(u:U):M Unit:=λst=>match st[i]? with
 |some (bD (.A',.Nu ks vs))=>match eW ks vs y with
  |some (.lst xs)=>if ⇑xs<c8 then bD (.ok (),st.set i (bD (.A',.Nu ks (lX ks vs y (.lst (xs++[u])))))) else cb
  |_=>cb
 |_=>cb
abbrev Y':U->M Unit
 |.Nu _ _=>pure ()
 |_=>M.fail
abbrev El(x:Kd×U)(y:Str)(u:U):Option (Kd×U):=match x with
 |(k,.Nu ks us)=>bD (match eW ks us y with|some v=>(kE k,v)|none=>(.loc,u))
 |_=>cb
abbrev sR(i:Nat):M ↑U:=λst=>match st[i]? with
 |some (bD (k,.lst us))=>if k.root=b6 then bD (.ok us,st) else cb
 |_=>cb
abbrev yS(x:Kd×U):M Int:=match x.2 with
 |.int j=>pure j
 |_=>M.fail
abbrev sT(us:↑U)(j:Int):Option Int:=if 0<=j then(match us[j.toNat]? with|some (.int o)=>bD o|_=>cb) else cb
abbrev Bd(sub:Bool)(o w:Int):Int:=if sub=b6 then o - w else o+w
abbrev MZ:U->Option U
 |.lst us=>bD (.lst us.reverse)
 |_=>cb
abbrev sets:↑Nat->↑(Kd×U)->M Unit
 |[],[]=>pure ()
 |i::is,r::rs=>do eX i r;sets is rs
 |_,_=>M.fail
abbrev d8(t:Bool)(is:↑Nat)(r:Kd×U):M Unit:=match t,is,r with
 |false,[i],r=>eX i r
 |true,is,(k,.tup xs)=>sets is (xs.map λu=>(kE k,u))
 |_,_,_=>M.fail
abbrev inScope{α:Type}(k:Nat)(m:M α):M α:=λst=>match m (kb k cb++st) with
 |none=>cb
 |some (r,st')=>bD (r,st'.drop k)
abbrev cm(k:Nat)(t:Bool)(cond:M Bool)(elt:M (Kd×U))(src:↑(Kd×U)):↑(Kd×U)->↑U->M ↑U
 |[],a=>do az src;pure a
 |x::xs,a=>do
  az src
  let r <-inScope k (d8 t (ib k) x >>= λ_=>cond >>= λb=>if b=b6 then(elt >>= λr=>lift r >>= λu=>pure (bD u)) else pure cb)
  match r with
  |some u=>if ⇑a<c8 then cm k t cond elt src xs (a++[u]) else M.fail
  |none=>cm k t cond elt src xs a
abbrev sU:U->Sj->Option Bool
 |.str _,_=>bD b6
 |.int _,_=>bD cK
 |.bl _,_=>bD cK
 |.Nt,_=>bD cK
 |.lst _,_=>bD cK
 |.tup _,_=>bD cK
 |_,_=>cb
abbrev Em:Kd×U->Option (Kd×U)
 |(_,.int i)=>bD (.loc,.int (-i))
 |_=>cb
abbrev Ig(x:Kd×U):M (Option Int):=match x.2 with
 |.int i=>pure (bD i)
 |_=>M.fail
abbrev W9:U->M Unit
 |.lst _=>pure ()
 |_=>M.fail
section
variable(Γ:Tab)
mutual
noncomputable def ev:E->M (Kd×U)
 |.var i=>dG i
 |.cst u=>pure (.loc,u)
 |.PF _ u=>pure (.loc,u)
 |.bin op a b=>do
  let x <-ev a
  let y <-ev b
  az [x,y]
  M.NV (P8 op x y)
 |.cmp op a b=>do
  let x <-ev a
  let y <-ev b
  az [x,y]
  let c <-M.NV (bN op x.2 y.2)
  pure (.loc,.bl c)
 |.Qi _ _ _ _ _=>M.fail
 |.and es=>jT es
 |.or _=>M.fail
 |.not a=>do
  let x <-ev a
  match x.2 with
  |.bl c=>pure (.loc,.bl !c)
  |_=>M.fail
 |.ite c a b=>do
  let p <-NJ c
  if p=b6 then ev a else ev b
 |.tup es=>do
  let rs <-bG es
  az rs
  let us <-cj rs
  if ⇑us<=c8 then pure (.loc,.tup us) else M.fail
 |.lst es=>do
  let rs <-bG es
  az rs
  let us <-cj rs
  if ⇑us<=c8 then pure (.own,.lst us) else M.fail
 |.PN r=>pure (.own,.Nu [] [])
 |.idx a b=>do
  let x <-ev a
  let y <-ev b
  az [x,y]
  M.NV (lV x y.2)
 |.Ph a lo hi=>do
  let x <-ev a
  let l <-Uc lo
  let h <-Uc hi
  az [x]
  M.NV (jQ x l h)
 |.bi f es=>do
  let rs <-bG es
  az rs
  M.NV (PV f rs)
 |.Rk f es=>do
  let rs <-bG es
  az rs
  M.NV (vt f rs)
 |.OS m a es=>do
  let x <-ev a
  let rs <-bG es
  az (x::rs)
  M.NV (jR m x.2 rs)
 |.call f es=>do
  let rs <-bG es
  az rs
  i_ Γ f (rs.map (·.2))
 |.comp k t g src cond e=>do
  let rs <-bG src
  az rs
  let xs <-M.NV (PX g rs)
  let us <-cm k t (aT cond) (ev e) rs xs []
  pure (.own,.lst us)
 |.neg a=>do
  let x <-ev a
  M.NV (Em x)
 |.bad=>M.fail
 |.inD _ _ _=>M.fail
 |.U4 i=>Bc i
 |.Qj i k d=>do
  let x <-dG i
  Y' x.2
  let y <-ev k
  let y <-gK y
  let z <-ev d
  let u <-lift z
  let x <-dG i
  M.NV (El x y u)
 |.U5 i=>do
  let x <-dG i
  M.NV (A_ x.2)
 |.Oy i=>Ss i >>= λp=>pure (.loc,p.1)
 |.PQ _=>M.fail
 |.lW i=>TM.lW i
 |.O8 f i es=>(QX b6 i >>= λ_=>bG es >>= λrs=>az rs >>= λ_=>dR Γ f cK i rs) >>= U8
 |.QK d f _ i es=>(QX d i >>= λ_=>bG es >>= λrs=>az rs >>= λ_=>dR Γ f cK i rs) >>= U8
 |.P7 f _ i js=>(Ub js >>= λrs=>dR Γ f b6 i rs) >>= U8
 |.pop i=>Ba i
 |.Sn _ _=>M.fail
 |.Tg f es=>bG es >>= λrs=>az rs >>= λ_=>Ej Γ f rs
 |.W5 _ _ _=>M.fail
 |.fst es=>M.fail
 |.Tf a T=>do
  let x <-ev a
  let b <-M.NV (sU x.2 T)
  pure (.loc,.bl b)
noncomputable def bG:↑E->M (↑(Kd×U))
 |[]=>pure []
 |e::es=>do let r <-ev e;let rs <-bG es;pure (r::rs)
noncomputable def Uc:↑E->M (Option Int)
 |[]=>pure cb
 |[e]=>do let x <-ev e;Ig x
 |_=>M.fail
noncomputable def jT:↑E->M (Kd×U)
 |[]=>M.fail
 |[e]=>ev e
 |e::es=>do
  let x <-ev e
  match x.2 with
  |.bl b6=>jT es
  |.bl cK=>pure (.loc,.bl cK)
  |_=>M.fail
noncomputable def NJ:E->M Bool
 |.and es=>aT es
 |.or es=>gT es
 |.not a=>do let b <-NJ a;pure !b
 |.cmp op a b=>do
  let x <-ev a
  let y <-ev b
  az [x,y]
  M.NV (bN op x.2 y.2)
 |.var i=>do let x <-dG i;M.NV (vv x.2)
 |.bi f es=>do
  let rs <-bG es
  az rs
  let r <-M.NV (PV f rs)
  M.NV (vv r.2)
 |.call f es=>do
  let rs <-bG es
  az rs
  let r <-i_ Γ f (rs.map (·.2))
  M.NV (vv r.2)
 |.Qi o1 o2 a b c=>do
  let x <-ev a
  let y <-ev b
  az [x,y]
  let p <-M.NV (bN o1 x.2 y.2)
  if p=b6 then do
   let z <-ev c
   az [y,z]
   M.NV (bN o2 y.2 z.2)
  else pure cK
 |.inD neg a i=>do
  let x <-ev a
  let y <-gK x
  let d <-jS i
  pure (Y_ neg y d.1)
 |.Tf a T=>do
  let x <-ev a
  M.NV (sU x.2 T)
 |.PQ i=>Ss i >>= λp=>if Og 50 (.lst p.2)=b6 then pure p.2.isEmpty else M.fail
 |.O8 f i es=>((QX b6 i >>= λ_=>bG es >>= λrs=>az rs >>= λ_=>dR Γ f cK i rs) >>= U8) >>= λr=>M.NV (vv r.2)
 |_=>M.fail
noncomputable def aT:↑E->M Bool
 |[]=>pure b6
 |[e]=>NJ e
 |e::es=>do let b <-NJ e;if b=b6 then aT es else pure cK
noncomputable def gT:↑E->M Bool
 |[]=>pure cK
 |[e]=>NJ e
 |e::es=>do let b <-NJ e;if b=b6 then pure b6 else gT es
end
inductive Fl where|nx|rt (k:Kd) (u:U)|bk|ct
abbrev retS:Kd×U->M Fl
 |(.own,u)=>pure (.rt .own u)
 |(.loc,u)=>pure (.rt .loc u)
 |(.any,u)=>if NT u=b6 then pure (.rt .loc u) else pure (.rt .any u)
 |(.bor j,_)=>λst=>match st[j]? with
  |some (bD (.own,u))=>bD (.ok (.rt .own u),st.set j cb)
  |_=>cb
 |(.io,_)=>M.fail
 |(.A',_)=>M.fail
abbrev forM(t:Bool)(is:↑Nat)(body:M Fl)(src:↑(Kd×U)):↑(Kd×U)->M Fl
 |[]=>do az src;pure .nx
 |x::xs=>do
  az src
  d8 t is x
  let f <-body
  match f with
  |.nx=>forM t is body src xs
  |.ct=>forM t is body src xs
  |.bk=>pure .nx
  |.rt k u=>pure (.rt k u)
abbrev ny(c:M Bool)(body:M Fl):Nat->M Fl
 |0=>M.fail
 |n+1=>do
  let b <-c
  if b=b6 then do
   let f <-body
   match f with
   |.nx=>ny c body n
   |.ct=>ny c body n
   |.bk=>pure .nx
   |.rt k u=>pure (.rt k u)
  else pure .nx
abbrev KY(Γ:Tab)(f:Str):Sum (Kd×U) Str->M (Sum (Kd×U) Str)
 |.inl x=>az [x] >>= λ_=>i_ Γ f [x.2] >>= λr=>pure (.inl r)
 |.inr c=>pure (.inr c)
abbrev KZ:Sum (Kd×U) Str->M (Sum (Kd×U) Str)
 |.inl x=>lift x >>= λu=>pure (.inl (.loc,.tup [u,.Nt]))
 |.inr c=>pure (.inr c)
abbrev Pj(Γ:Tab):RE->M (Sum (Kd×U) Str)
 |.mt d f _ i es=>QX d i >>= λ_=>bG Γ es >>= λrs=>az rs >>= λ_=>dR Γ f cK i rs
 |.P7 f _ i js=>Ub js >>= λrs=>dR Γ f b6 i rs
 |.arg f r=>Pj Γ r >>= KY Γ f
 |.QL r=>Pj Γ r >>= KZ
abbrev yT(t c1 c2:Str):M Fl:=if ⇑t<=1048576 then pure (.rt .loc (.str (Yp t c1 c2))) else M.fail
abbrev Ih:Sum (Kd×U) Str->M Fl
 |.inl x=>retS x
 |.inr c=>pure (.rt .io (.str c))
abbrev Be(i j k n:Nat):M Fl:=λst=>match st[j]?,st[k]? with
 |some cb,bD cb=>if i≠j/\i≠k/\j≠k then(eX i (.loc,.tup [.str "",.int n]) >>= λ_=>pure .nx) st else cb
 |_,_=>cb
abbrev En(i j k:Nat)(a:↑(Str×Nat)):Sum (Kd×U) Str->M Fl
 |.inl x=>eX i x >>= λ_=>pure .nx
 |.inr c=>match a.lookup c with
  |some n=>Be i j k n
  |none=>M.fail
abbrev modS(i:Nat)(f:U->Option U):M Unit:=λst=>match st[i]? with
 |some (bD (k,u))=>if k.root=b6 then match f u with
   |some u'=>bD (.ok (),st.set i (bD (k,u')))
   |none=>cb
  else cb
 |_=>cb
abbrev Eo(u:U):U->Option U
 |.lst xs=>if ⇑xs<c8 then bD (.lst (xs++[u])) else cb
 |_=>cb
abbrev qM:Kd×U->U->Option U
 |(k,.lst ys),.lst xs=>if ⇑xs+⇑ys<=c8/\kF k ys=b6 then bD (.lst (xs++ys)) else cb
 |(k,.tup ys),.lst xs=>if ⇑xs+⇑ys<=c8/\kF k ys=b6 then bD (.lst (xs++ys)) else cb
 |_,_=>cb
abbrev gU(x u:U):U->Option U
 |.Nu ks vs=>match x with
  |.str y=>if ⇑ks<c8 then bD (.Nu (dput ks vs y u).1 (dput ks vs y u).2) else cb
  |_=>cb
 |.lst xs=>match x with
  |.int i=>(QU ⇑xs i).map λj=>.lst (xs.set j u)
  |_=>cb
 |_=>cb
abbrev Bg:↑U->U->Option U
 |[u,x]=>gU x u
 |_=>λ_=>cb
abbrev fuel:Nat:=1000000000000
mutual
noncomputable def Ud:S->Nat->Bool
 |.set i _,j=>df (j≠i)
 |.Qk is _,j=>df (j∉is)
 |.ite _ a b,j=>Pd a j&&Pd b j
 |.Ob _ is _ _ body,j=>df (j∉is)&&Pd body j
 |.T_ _ body,j=>Pd body j
 |.put _ _ _,_=>b6
 |.app _ _,_=>b6
 |.ext _ _,_=>b6
 |.bad,_=>b6
 |.newD i,j=>df (j≠i)
 |.putD _ _ _,_=>b6
 |.PU _ _ _,_=>b6
 |.aug _ _ _ _,_=>b6
 |.W6 _,_=>b6
 |.exp _,_=>b6
 |.ret _,_=>b6
 |.So,_=>b6
 |.brk,_=>b6
 |.cnt,_=>b6
 |.W7,_=>b6
 |.U6 _,_=>b6
 |.Rm _ _,_=>b6
 |.OZ _,_=>b6
 |.Sr _ _ _ _ _,_=>b6
 |.Ql,_=>b6
 |.Py i,j=>df (j≠i)
 |.QM _ _,_=>b6
 |.QN _,_=>b6
 |.RM _ i _ _ j k _ _,n=>df (n≠i)&&(df (n≠j)&&df (n≠k))
noncomputable def Pd:↑S->Nat->Bool
 |[],_=>b6
 |s::ss,j=>Ud s j&&Pd ss j
end
abbrev xp(rs:↑(Kd×U))(is:↑Nat)(body:↑S):Bool:=rs.all λr=>match r.1 with
 |.bor j=>df (j∉is)&&Pd body j
 |_=>b6
mutual
noncomputable def exec:S->M Fl
 |.set i e=>do let r <-ev Γ e;eX i r;pure .nx
 |.Qk is e=>do let r <-ev Γ e;d8 b6 is r;pure .nx
 |.put i k v=>do
  let r <-ev Γ v
  let _ <-dG i
  let x <-ev Γ k
  let us <-cj [r,x]
  modS i (Bg us)
  pure .nx
 |.app i e=>do
  let x <-dG i
  W9 x.2
  let r <-ev Γ e
  let u <-lift r
  modS i (Eo u)
  pure .nx
 |.ext i e=>do
  let x <-dG i
  W9 x.2
  let r <-ev Γ e
  modS i (qM r)
  pure .nx
 |.bad=>M.fail
 |.newD i=>do Gn i;pure .nx
 |.putD i k v=>do
  let r <-ev Γ v
  let d <-jS i
  let x <-ev Γ k
  let y <-gK x
  nu i y r
  pure .nx
 |.PU i k v=>do
  let _ <-jS i
  let x <-ev Γ k
  let y <-gK x
  let d <-jS i
  if y∈d.1 then do
   let r <-ev Γ v
   let u <-lift r
   nv i y u
   pure .nx
  else M.fail
 |.aug sub i k v=>do
  let _ <-sR i
  let y <-ev Γ k
  let j <-yS y
  let us <-sR i
  let o <-M.NV (sT us j)
  let z <-ev Γ v
  let w <-yS z
  modS i (gU (.int j) (.int (Bd sub o w)))
  pure .nx
 |.W6 i=>do
  modS i MZ
  pure .nx
 |.exp e=>do let _ <-ev Γ e;pure .nx
 |.ret e=>do let r <-ev Γ e;retS r
 |.So=>pure (.rt .loc .Nt)
 |.ite c a b=>do let p <-NJ Γ c;if p=b6 then execs a else execs b
 |.Ob t is f src body=>do
  let rs <-bG Γ src
  az rs
  let xs <-M.NV (PX f rs)
  if xp rs is body=b6 then forM t is (execs body) rs xs else M.fail
 |.T_ c body=>ny (NJ Γ c) (execs body) fuel
 |.brk=>pure .bk
 |.cnt=>pure .ct
 |.W7=>pure .nx
 |.U6 _=>M.fail
 |.Rm c e=>do let _ <-ev Γ e;pure (.rt .io (.str c))
 |.OZ r=>Pj Γ r >>= Ih
 |.Sr i c b c1 c2=>dG i >>= λr=>gK r >>= λz=>if z=c then(ev Γ b >>= λr=>gK r >>= λt=>yT t c1 c2) else pure .nx
 |.Ql=>M.fail
 |.Py i=>λst=>bD (.ok .nx,st.set i (bD (.A',.ob b6 (.tup []) [])))
 |.QM i e=>ev Γ e >>= λr=>lift r >>= λu=>Su i (λ_ us=>bD (u,us)) >>= λ_=>pure .nx
 |.QN i=>Su i Ek >>= λ_=>pure .nx
 |.RM r i _ g j k _ _=>Pj Γ r >>= En i j k g
noncomputable def execs:↑S->M Fl
 |[]=>pure .nx
 |s::ss=>do
  let f <-exec s
  match f with
  |.nx=>execs ss
  |f=>pure f
end
end
structure Fn where
 name:Str
 np:Nat
 ns:Nat
 body:↑S
abbrev start(us:↑U)(n:Nat):au:=us.map (λu=>bD (if NT u=b6 then Kd.loc else Kd.any,u))++kb (n - ⇑us) cb
abbrev bJ(Γ:Tab)(fn:Fn)(us:↑U):Option (Ex (Kd×U)):=if ⇑us=fn.np then match execs Γ fn.body (start us fn.ns) with
  |some (.ok (.rt .own u),_)=>bD (.ok (.own,u))
  |some (.ok (.rt .loc u),_)=>bD (.ok (.loc,u))
  |some (.ok (.rt .any u),_)=>bD (.ok (.any,u))
  |some (.ok .nx,_)=>bD (.ok (.loc,.Nt))
  |some (.ok (.rt .io (.str c)),_)=>bD (.exc c)
  |_=>cb
 else cb
abbrev fA(us:↑U)(n:Nat):au:=match us with
 |[x,y,z,l]=>bD (.loc,x)::bD (.loc,y)::bD (.loc,z)::bD (.own,l)::kb (n - 4) cb
 |_=>[]
abbrev Ii:Option (Ex Fl×au)->Option (Ex (Kd×U))
 |some (.ok (.rt .loc u),st)=>match (st[3]?:Option (Option (Kd×U))) with
  |some (bD (.own,w))=>bD (.ok (.loc,.tup [u,w]))
  |_=>cb
 |_=>cb
abbrev runN(Γ:Tab)(fn:Fn)(body:↑S)(us:↑U):Option (Ex (Kd×U)):=if ⇑us=4 then Ii (execs Γ body (fA us fn.ns)) else cb
abbrev Fn.io(fn:Fn):Option (↑Nat×↑S):=match fn.body with
 |.U6 is::body=>bD (is,body)
 |_=>cb
abbrev cC(us:↑U)(n:Nat):au:=match us with
 |[]=>[]
 |o::us=>bD (.A',o)::start us (n - 1)
abbrev Ti:Fl->Option (Kd×U)
 |.rt .loc u=>bD (.loc,u)
 |.rt .io (.str c)=>bD (.io,.str c)
 |.nx=>bD (.loc,.Nt)
 |_=>cb
abbrev W_(st:au):Option U:=match st with
 |some (.A',.ob d u us)::_=>bD (.ob d u us)
 |_=>cb
abbrev eY(Γ:Tab)(fn:Fn)(body:↑S)(us:↑U):Option (Ex (Kd×U)):=if ⇑us=fn.np then match execs Γ body (cC us fn.ns) with
  |some (.ok f,st)=>(Ti f).bind λr=>(W_ st).map λo=>.ok (r.1,.tup [r.2,o])
  |_=>cb
 else cb
abbrev Fn.ob(fn:Fn):Option ↑S:=match fn.body with
 |.Ql::body=>bD body
 |_=>cb
abbrev iS(Γ:Tab)(fn:Fn)(us:↑U):Option (Ex (Kd×U)):=match fn.ob with
 |some body=>eY Γ fn body us
 |none=>match fn.io with
  |some (_,body)=>runN Γ fn body us
  |none=>bJ Γ fn us
abbrev N2(P:↑Fn):Nat->Tab
 |0=>λ_ _=>cb
 |d+1=>λf us=>match P.find? λfn=>df (fn.name=f) with
  |some fn=>iS (N2 P d) fn us
  |none=>cb
end TM
namespace TM
open PySem L2
section
variable{X:Cx}{pins:List (hH×Obj)}{σ:St}{H:Hp}{s:i4}{C:Ct}{S:hH->Prop}
def xq(I:Inv X pins σ H s)(h:N5 X.K H a vs):∃b,Vals vs b/\s.heap.IsList a b.toArray/\⇑vs<=c8:=by
 have(b,r,p,z):=I.list h;show#[b,r,p.isList,z]
inductive Ol(s:i4):Nat->U->g8->Prop where
 |Nt {n:Nat}:Ol s n .Nt .none
 |bl {n:Nat} {b:Bool}:Ol s n (.bl b) (.bool b)
 |int {n:Nat} {i:Int} {t:Tok}:Ol s n (.int i) (.int i t)
 |str {n:Nat} {y:Str} {t:Tok}:Ol s n (.str y) (.str y t)
 |tup {n:Nat} {us:↑U} {J':↑g8} {a:hH}:⇑us=⇑J'->(∀j (hj:j<⇑J'),Ol s n (us.getD j .Nt) J'[j])->cY us us=b6->s.heap.IsTuple a J'.toArray->Ol s (n+1) (.tup us) (.ref a)
 |lst {n:Nat} {us:↑U} {J':↑g8} {a:hH}:⇑us=⇑J'->(∀j (hj:j<⇑J'),Ol s n (us.getD j .Nt) J'[j])->cY us us=b6->s.heap.IsList a J'.toArray->Ol s (n+1) (.lst us) (.ref a)
def Ol.self(h:Ol s n u x):bZ u u=b6:=by
 cases h<;>first|assumption|simp[bZ]
theorem Ol.yU(f:∀u v x,Og n u=b6->Rep C S H u v->RelV v x->Ol s n u x):∀{us}{vs}{a},dQ n us=b6->aq C S H us vs->Vals vs a->⇑us=⇑a/\(∀j b,Ol s n (us.getD j .Nt) a[j])/\cY us us=b6
 |[],_,_,_,h,r=>by cases h;cases r;show#[rfl,λj b=>(nomatch b),rfl]
 |u::us,_,_,e,h,r=>by
  have(v,vs,rfl,c,g):=h;erw[dQ,cc]at e;cases r with
  |cons d i =>
   have(l,k,y):=Ol.yU f e.2 g i;show#[by simp[l],λj b=>?_,by rw[cY,(f _ _ _ e.1 c d).self,y];rfl];cases j with
   |zero=>show f _ _ _ e.1 c d
   |succ j=>show k j ⋯
def Ol.of(I:Inv X pins σ H s)(d:C.K=X.K):∀n u v x,Og n u=b6->Rep C S H u v->RelV v x->Ol s n u x:=by
 intro n;induction n with
 |zero=>intro u v x e h r;cases u<;>first|(simp[Og]at e;done)|(subst h;first|(constructor)|(have(t,rfl):=r;constructor))
 |succ n f =>
  intro u v x e h r;cases u with
  |tup us =>
   have(a,vs,rfl,b,c):=h;cases r;have(g,rv,p,_):=I.tuple (d▸b);have(l,k,y):=Ol.yU f (by assumption) c rv;show .tup l k y p
  |lst us =>
   have(a,vs,rfl,b,c):=h;cases r;have(g,rv,p,_):=xq I (d▸b.sq);have(l,k,y):=Ol.yU f (by simpa[Og] using e) c rv;show .lst l k y p
  |_=>first|(simp[Og]at e;done)|(subst h;first|(constructor)|(have(t,rfl):=r;constructor))
def Ol.inj:∀{n}{u w}{x},Ol s n u x->Ol s n w x->u=w:=by
 intro n;induction n with
 |zero=>intro u w x h h';cases h<;>cases h'<;>rfl
 |succ n t =>
  have go:∀{us ws:↑U} {c its':↑_} {a:hH} {o g:Obj} {m i:Nat},⇑us=⇑c->(∀j (v:j<⇑c),Ol s n (us.getD j .Nt) c[j])->⇑ws=⇑its'->(∀j (v:j<⇑its'),Ol s n (ws.getD j .Nt) its'[j])->s.heap.get? a≈o->o.data=.seq c.toArray m->s.heap.get? a≈g->g.data=.seq its'.toArray i->us=ws:=by
   intro us ws c its' a o g m i l k f k' e d q d';have:c=its':=⋯
   subst this;show Q3 ⋯ λj z A=>?_;have:=t (k j ⋯) (k' j ⋯);simpa[z,A] using this
  intro u w x h h';cases h with
  |tup l k y p =>
   cases h' with
   |tup f k' r b=>have(o,e,_,m,d):=p;have(g,q,_,i,d'):=b;rw[go l k f k' e d q d']
   |lst f k' r b=>show absurd rfl (Zb b p)
  |lst l k y p =>
   cases h' with
   |lst f k' r b=>have(o,e,_,m,d):=p;have(g,q,_,i,d'):=b;rw[go l k f k' e d q d']
   |tup f k' r b=>show absurd rfl (Zb p b)
  |_=>cases h';rfl
theorem kG:∀{us ws},⇑us≠⇑ws->cY us ws=cK
 |[],[],h=>absurd rfl h
 |[],_::_,_=>rfl
 |_::_,[],_=>rfl
 |u::us,w::ws,h=>by
  rw[cY,kG   (λe=>h (by simp[e])),YQ]
theorem gV:∀{us ws},⇑us=⇑ws->cY us ws=(ib ⇑us).all λj=>bZ (us.getD j .Nt) (ws.getD j .Nt)
 |[],[],_=>rfl
 |[],_::_,h=>by simp at h
 |_::_,[],h=>by simp at h
 |u::us,w::ws,h=>by
  have h':=by exists h
  rw[cY,gV h',k9,List.range_succ_eq_map,List.all_cons,X6];rfl
def K3{a its':↑g8}(c:⇑us=⇑a)(l2:⇑ws=⇑its'):cY us ws=((ib (min a.toArray.size its'.toArray.size)).all (λj=>bZ (us.getD j .Nt) (ws.getD j .Nt))&&a.toArray.size==its'.toArray.size):=by
 erw[mu];by_cases b:⇑us=⇑ws
 .rw[gV b,show min _ _=⇑us by lia,show(⇑a==⇑its')=b6 by grind,Ĕ]
 .rw[kG b,show(⇑a==⇑its')=cK by grind,YQ]
def xr(c:Ol s n u y)(h:Æ A s y x k)(hs:y=x->k=b6):VA A s y x k:=λprog w E Q a=>by
 show tv ?_;show ļ (λb=>?_) (λ_=>?_)
 .rw[hs (ĺ b)]at a;show cL (P5 (dV a))
 .cases c<;>show cL (h prog w E _ (q9 a))
def Za(r:∀m,m+1=n->∀{u w}{x f}{A},Ol s m u x->Ol s m w f->A.units+m<C0->VA A s x f (bZ u w))(h:Ol s n u x)(h':Ol s n w f)(hn:A.units+n<C0):Æ A s x f (bZ u w)/\č A s x f (!bZ u w):=by
 have a:A.units<C0:=⋯
 have go:∀{m:Nat} {us ws:↑U} {g its':↑g8},m+1=n->(∀j (t:j<⇑g),Ol s m (us.getD j .Nt) g[j])->(∀j (t:j<⇑its'),Ol s m (ws.getD j .Nt) its'[j])->∀j (i:j<g.toArray.size) (o:j<its'.toArray.size),VA A.in1 s g.toArray[j] its'.toArray[j] (bZ (us.getD j .Nt) (ws.getD j .Nt)):=λ{m us ws g its'} e k k' j i o=>r m e (k j i) (k' j o) (by grind);cases h with
 |Nt =>
  cases h' with
  |Nt=>show#[.none_none,.none_none]
  |bl=>show#[.none_bool _,.none_bool _]
  |int=>show#[.none_int _ _,.none_int _ _]
  |str=>show#[.none_str _ _,.none_str _ _]
  |tup c k' d b=>show#[.none_tuple b a,.none_tuple b a]
  |lst c k' d b=>show#[.none_list b a,.none_list b a]
 |bl =>
  cases h' with
  |Nt=>show#[.bool_none _,.bool_none _]
  |bl=>show#[.bool_bool _ _,.bool_bool _ _]
  |int=>show#[.bool_int _ _ _,.bool_int _ _ _]
  |str=>show#[.bool_str _ _ _,.bool_str _ _ _]
  |tup c k' d b=>show#[.bool_tuple _ b a,.bool_tuple _ b a]
  |lst c k' d b=>show#[.bool_list _ b a,.bool_list _ b a]
 |int =>
  cases h' with
  |Nt=>show#[.int_none _ _,.int_none _ _]
  |bl=>show#[.int_bool _ _ _,.int_bool _ _ _]
  |int=>show#[.int_int _ _ _ _,.int_int _ _ _ _]
  |str=>show#[.int_str _ _ _ _,.int_str _ _ _ _]
  |tup c k' d b=>show#[.int_tuple _ _ b a,.int_tuple _ _ b a]
  |lst c k' d b=>show#[.int_list _ _ b a,.int_list _ _ b a]
 |str =>
  cases h' with
  |Nt=>show#[.str_none _ _,.str_none _ _]
  |bl=>show#[.str_bool _ _ _,.str_bool _ _ _]
  |int=>show#[.str_int _ _ _ _,.str_int _ _ _ _]
  |str=>show#[.str_str _ _ _ _,.str_str _ _ _ _]
  |tup c k' d b=>show#[.str_tuple _ _ b a,.str_tuple _ _ b a]
  |lst c k' d b=>show#[.str_list _ _ b a,.str_list _ _ b a]
 |tup l k y p =>
  cases h' with
  |Nt=>show#[.tuple_none p a,.tuple_none p a]
  |bl=>show#[.tuple_bool _ p a,.tuple_bool _ p a]
  |int=>show#[.tuple_int _ _ p a,.tuple_int _ _ p a]
  |str=>show#[.tuple_str _ _ p a,.tuple_str _ _ p a]
  |tup c k' d b=>rw[show bZ (.tup _) (.tup _)=_ from K3 l c];show#[.tuples p b a (go rfl k k'),.tuples p b a (go rfl k k')]
  |lst c k' d b=>show#[.tuple_list p b a,.tuple_list p b a]
 |lst l k y p =>
  cases h' with
  |Nt=>show#[.list_none p a,.list_none p a]
  |bl=>show#[.list_bool _ p a,.list_bool _ p a]
  |int=>show#[.list_int _ _ p a,.list_int _ _ p a]
  |str=>show#[.list_str _ _ p a,.list_str _ _ p a]
  |tup c k' d b=>show#[.list_tuple p b a,.list_tuple p b a]
  |lst c k' d b =>
   rename_i us _ _ ws _ _;by_cases q:⇑us=⇑ws
   .rw[show bZ (.lst us) (.lst ws)=_ from gV q,l,<-mu];show#[.lists p b ⋯ a (go rfl k k'),.lists p b ⋯ a (go rfl k k')]
   .rw[show bZ (.lst us) (.lst ws)=cK from kG q];show#[.lists_lengths p b ⋯ a,.lists_lengths p b ⋯ a]
def K4:∀{n}{u w}{x a}{A},Ol s n u x->Ol s n w a->A.units+n<C0->VA A s x a (bZ u w):=by
 intro n;induction n with
 |zero=>intro u w x a A h h' b;show xr h (Za (λm e=>by cases e) h h' b).1 λe=>by subst e;rw[h.inj h'];show h'.self
 |succ n c=>intro u w x a A h h' b;show xr h (Za (λm e=>by cases e;show c) h h' b).1 λe=>by subst e;rw[h.inj h'];show h'.self
def Ij(h:Ol s n u x)(h':Ol s n w a)(b:A.units+n<C0):Æ A s x a (bZ u w)/\č A s x a (!bZ u w):=Za (λm e=>by show K4) h h' b
end
end TM
namespace TM
open PySem L2 PyProof.Rows
inductive NF(C:Ct)(m:M (Kd×U))(σ:L2.St)(H:Hp)(Q:VK):Prop
 |mk:∀c0:Cf,c0.σ=σ->c0.H=H->Ok C c0->(W m c0.st λr st'=>∀c v,c.σ=σ->c.st=st'->Ok C c->Nx c0 c->aM C c0 c r.1 r.2 v->Q v c.H)->NF C m σ H Q
inductive OT(C:Ct)(m:M Bool)(σ:L2.St)(H:Hp)(Q:Bool->Hp->Prop):Prop
 |mk:∀c0:Cf,c0.σ=σ->c0.H=H->Ok C c0->(W m c0.st λb st'=>∀c,c.σ=σ->c.st=st'->Ok C c->Nx c0 c->Q b c.H)->OT C m σ H Q
def eu(C:Ct)(c0 c:Cf):↑(Kd×U)->↑V->Prop
 |[],vs=>vs=[]
 |r::rs,vs=>∃v t,vs=v::t/\gR C c0 c r.1 r.2 v/\eu C c0 c rs t/\(r.1=.own->∀(i:Nat) a b,rs[i]?≈a->t[i]?≈b->a.1=.own->b≠v)
inductive OQ(C:Ct)(m:M (↑(Kd×U)))(σ:L2.St)(H:Hp)(Q:↑V->Hp->Prop):Prop
 |mk:∀c0:Cf,c0.σ=σ->c0.H=H->Ok C c0->(W m c0.st λrs st'=>∀c vs,c.σ=σ->c.st=st'->Ok C c->Nx c0 c->eu C c0 c rs vs->Q vs c.H)->OQ C m σ H Q
def PE.weak(h:PE X e t)(i:∀σ H Q,t' σ H Q->t σ H Q):PE X e t':=λpins s σ H Q I q=>h pins s σ H Q I (i σ H Q q)
def PT.weak(h:PT X e t)(i:∀σ H Q,t' σ H Q->t σ H Q):PT X e t':=λpins s σ H Q I q=>h pins s σ H Q I (i σ H Q q)
def bT{st}:W (az rs) st Q↔bg rs st/\Q () st:=by
 constructor
 .rintro⟨a,st',e,h⟩;unfold az at e
  grind
 .rintro⟨c,b⟩;show#[(),st,by unfold az;simp_all,b]
def eO{st}:bg (r::rs) st↔bg [r] st/\bg rs st:=by
 have(k,u):=r;cases k<;>simp[bg]
def gR.t(h:gR C c0 c k u v)(s:bg [(k,u)] c.st):aM C c0 c k u v:=by
 cases k with
 |bor j=>show#[s.1,h]
 |_=>show h
structure U9(C:Ct)(c0 c:Cf)(x y:Kd×U)(vx vy:V):Prop where
 hσ:c.σ=c0.σ
 ok:Ok C c
 nx:Nx c0 c
 rx:aM C c0 c x.1 x.2 vx
 ry:aM C c0 c y.1 y.2 vy
 ne:x.1=.own->y.1=.own->vy≠vx
def nz(h:gR C c0 c1 k u v)(h':gR C c1 c k' u' b):k=.own->k'=.own->b≠v:=by
 rintro rfl rfl e;have(r,d,_,_,_,f):=h;have(i,g,a,_):=h';have(o,ho,_):=f.some;subst d;rw[g]at e;cases e;rw[ho]at a;cases a
def two{k:Kd×U->Kd×U->M β}{j}{f:g8->g8->Sem α}{r:g8->g8->α->i4->Prop}(N:PE X a (NF C O))(Q:PE X b (NF C z))(I:Inv X pins c0.σ c0.H s)(T:Ok C c0)
  (h:W (O >>= λx=>z >>= λy=>az [x,y] >>= λ_=>k x y) c0.st j)
  (Y:∀x y c d e v u l,U9 C c0 c x y d e->Inv X pins c.σ c.H l->RelV d v->RelV e u->W (k x y) c.st j->‹X› (f v u) (r v u) X.xe l) :
  ‹X› (p8 a X.env) (λv s₁=>‹X› (p8 b X.env) (λu s₂=>‹X› (f v u) (r v u) X.xe s₂) X.xe s₁) X.xe s:=by
 rw[ag]at h;show Ny (N pins s _ c0.H (λd B=>∃x c1,c1.H=B/\c1.σ=c0.σ/\Ok C c1/\Nx c0 c1/\aM C c0 c1 x.1 x.2 d/\W (z >>= λy=>az [x,y] >>= λ_=>k x y) c1.st j) I ⟨c0,rfl,rfl,T,h.mono λx st1 q c1 d m e2 n o p=>#[x,c1,rfl,m,n,o,p,by simp_all]⟩) ?_;rintro v s1 ⟨d,B,I1,rv,x,c1,rfl,m,n,o,p,q⟩;rw[ag]at q;show Ny (Q pins s1 _ c1.H (λe D=>∃y c2,c2.H=D/\U9 C c0 c2 x y d e/\W (k x y) c2.st j) I1 ⟨c1,m,rfl,n,q.mono λy st2 g c2 e G e4 N0 J L=>?_⟩) ?_
 .rw[ag,bT]at g;subst e4;rw[eO]at g;show#[y,c2,rfl,#[G,N0,o.trans J,(p.w.on n J (G.trans m.symm)).t g.1.1,(L.from o),nz p.w L.w],g.2]
 .rintro u l ⟨e,D,I2,ru,y,c2,rfl,i,g⟩;have hs:=i.hσ;show Y x y c2 d e v u l i ⋯ rv ru g
structure RN(C:Ct)(c0 c:Cf)(x:Kd×U)(vx:V):Prop where
 hσ:c.σ=c0.σ
 ok:Ok C c
 nx:Nx c0 c
 rx:aM C c0 c x.1 x.2 vx
abbrev cZ(C:Ct)(c0:Cf)(Q:VK)(r:Kd×U)(st':au):Prop:=∀c v,c.σ=c0.σ->c.st=st'->Ok C c->Nx c0 c->aM C c0 c r.1 r.2 v->Q v c.H
def cZ.flat(h:cZ C c0 Q (.loc,u) c.st)(a:c.σ=c0.σ)(b:Ok C c)(n:Nx c0 c)(r:Rep C c.S c.H u v):Q v c.H:=h c v a rfl b n r
def cZ.list(h:cZ C c0 Q (.own,.lst us) c.st)(a:c.σ=c0.σ)(b:Ok C c)(n:Nx c0 c)(r:aq C c.S c.H us vs)(p)(d:c.H p=cb):Q (.ref p) (upd c.H p (.lst vs)):=by
 have(e,f,g):=b.newList n d r;show h {c with H:=upd c.H p _} _ a rfl e f g
def cZ.tup(h:cZ C c0 Q (.loc,.tup us) c.st)(a:c.σ=c0.σ)(b:Ok C c)(n:Nx c0 c)(r:aq C c.S c.H us vs)(p)(d:c.H p=cb):Q (.ref p) (upd c.H p (.tup vs)):=by
 have(e,f,g):=b.A6 n d r;show h {c with H:=upd c.H p _} _ a rfl e f g
def cZ.tupK(h:cZ C c0 Q (kE k,.tup us) c.st)(d:c.σ=c0.σ)(a:Ok C c)(n:Nx c0 c)(r:aq C (SK C c k) c.H us vs)(p)(e:c.H p=cb):Q (.ref p) (upd c.H p (.tup vs)):=by
 have(f,b):=a.lay  e;show h {c with H:=upd c.H p _} _ d rfl f (n.trans b) (aM.item ?_);cases k<;>show#[p,vs,rfl,Oc.of aj,by first|show r.mv (a.Si b)|show r.mv (a.mv b)]
def gW(h:kF k us=b6)(r:aq C (SK C c k) c.H us vs):aq C c.S c.H us vs:=by
 cases k with
 |any=>show r.NT (by assumption)
 |_=>show r
def Il(k k'):∀a,SK C c k a->SK C c (kT k k') a:=by
 intro a h;cases k<;>cases k'<;>first|show h|show .inr h
def Ep(k k'):∀a,SK C c k' a->SK C c (kT k k') a:=by
 intro a h;cases k<;>cases k'<;>first|show h|show .inr h
def K5(k k'):kE (kT k k')=kT k k':=by cases k<;>cases k'<;>rfl
def Er:OY X (RU .Add) (λx y H Q=>∃l b xs zs,x=.ref l/\y=.ref b/\N5 X.K H l xs/\N5 X.K H b zs/\⇑xs+⇑zs<=c8/\∀p,H p=cb->Q (.ref p) (upd H p (.lst (xs++zs)))):=by
 intro pins s σ H x y v u Q I m o h;have(l,b,xs,zs,rfl,rfl,t,w,hz,q):=h;cases m;cases o;have(d,r,A,z):=I.list t;have(e,f,c,z2):=I.list w;have hl:=⇑r;have Qt:=⇑f;have((cls,dd,data,B),ho,g,n,i):=A.isList;have((J,C,data2,D),j,k,G,a):=c.isList;simp only at g i k a;subst g i k a;show YF #[_,ho,rfl] #[_,j,rfl] noFill_list_add seq_list_add F.slot_list_add F.entry_list_add (F.args_list_add_2 _ _)
   (list_addW l b _ _ n G dd C B D ⋯) #[ho,j,?_]
 have ea:d.toArray++e.toArray=(d++e).toArray:=⋯
 rw[ea];show#[.ref _,_,I.MN  (r.append f) (by rw[mx];lia),rfl,q _ I.fresh]
section
variable{X:Cx}{C:Ct}{pins:List (hH×Obj)}{s:i4}{c0 c:Cf}{Q:VK}
def Bh:OY X (RU .Add) (λx y H Q=>∃a b ys,x=.ref a/\y=.ref b/\Oc X.K H a []/\Oc X.K H b ys/\Q (.ref b) H):=by
 intro pins s σ H x y v u Q I j k h;have(a,b,ys,rfl,rfl,l,m,q):=h;cases j;cases k;have(B,o,p,_):=I.tuple l;have(r,D,p2,_):=I.tuple m;cases o;have((cls,dd,data,t),ho,e,n,f):=id p;have((G,w,data2,z),g,i,A,d):=id p2;simp only at e f i d;subst e f i d;show YF #[_,ho,rfl] #[_,g,rfl] YX Â F.slot_tuple_add F.entry_tuple_add (F.args_tuple_add_2 _ _)
   (tuple_addW0 a b _ r.toArray n A dd w t z (by rfl)) #[ho,g,.ref b,H,I,rfl,q]
abbrev W4.op:W4->ö
 |.add=>.Add|.sub=>.Sub|.mul=>.Mult|.Qh=>.FloorDiv|.mod=>.Mod|.pow=>.Pow
def fI(h:vq f a b≈r):∃i j o,a=.int i/\b=.int j/\f i j≈o/\r=(.loc,.int o):=by
 unfold vq at h;split at h
 .rw[g7]at h;have(o,e,rfl):=h;show#[_,_,o,rfl,rfl,e,rfl]
 .cases h
def Im(T:C.K=X.K)(t:U9 C c0 c x y g l)(I:Inv X pins c.σ c.H s)(z:RelV g v)(B:RelV l u)(h:P8 op x y≈r)(q:cZ C c0 Q r c.st):
  ‹X› (RU op.op v u) (EP X pins c.σ Q) X.xe s:=by
 have(m,d,n,D,ty,_):=t;cases op with
 |add =>
  have h:A7 x y≈r:=h;unfold A7 at h;split at h
  .have ex:=D.int d;have e:=ty.int d;cases h;show d5 pins s c.σ c.H g l v u Q I z B #[_,_,ex,e,q.flat m d n rfl]
  .have ex:=D.str d;have e:=ty.str d;split at h
   .cases h;show uG pins s c.σ c.H g l v u Q I z B #[_,_,ex,e,by assumption,q.flat m d n rfl]
   .cases h
  .have(a,vs,ex,N,G):=D.list d;have(b,ws,e,O,J):=ty.list d;split at h
   .rename_i L;cases h;show Er pins s c.σ c.H g l v u Q I z B #[a,b,vs,ws,ex,e,T▸N,T▸O,by rw[<-G.len,<-J.len];show L.1,λp Y=>q.list m d n ((gW L.2.1 G).append (gW L.2.2 J)) p Y]
   .cases h
  .rename_i k xs k' ys _ _;have(a,vs,ex,N,G):=D.tuple d;have(b,ws,e,O,J):=ty.tuple d;have QO:=N;have UR:=O;rw[T]at QO UR;split at h
   .rename_i L;cases h;have m1:aq C (SK C c (kT k k')) c.H xs vs:=G.mv (.up (Il k k'));have m2:aq C (SK C c (kT k k')) c.H ys ws:=J.mv (.up (Ep k k'));have q':cZ C c0 Q (kE (kT k k'),.tup (xs++ys)) c.st:=by rw[K5];show q
    by_cases e1:vs=[]
    .subst e1;show Bh pins s c.σ c.H g l v u Q I z B #[a,b,ws,ex,e,QO,UR,?_];show q' c (.ref b) m rfl d n (aM.item #[b,ws,rfl,O,?_]);have:xs=[]:=by have:=m1.len;exists this
     rw[this];show m2
    .show DV pins s c.σ c.H g l v u Q I z B #[a,b,vs,ws,ex,e,QO,UR,e1,by rw[<-G.len,<-J.len];show L,λe2=>?_,λ_ p Y=>q'.tupK m d n (m1.append m2) p Y];subst e2;show q' c (.ref a) m rfl d n (aM.item #[a,vs,rfl,N,?_]);have:ys=[]:=by have:=m2.len;exists this
     rw[this,tP];show m1
   .cases h
  .cases h
 |sub =>
  have(i,j,o,ex,e,f,rfl):=fI h;have ex:=(ex▸D).int d;have e:=(e▸ty).int d;cases f;show uE pins s c.σ c.H g l v u Q I z B #[_,_,ex,e,q.flat m d n rfl]
 |mul =>
  have(i,j,o,ex,e,f,rfl):=fI h;have ex:=(ex▸D).int d;have e:=(e▸ty).int d;unfold Ec at f;split at f
  .cases f;show p_ pins s c.σ c.H g l v u Q I z B #[_,_,ex,e,by assumption,q.flat m d n rfl]
  .cases f
 |Qh =>
  have(i,j,o,ex,e,f,rfl):=fI h;have ex:=(ex▸D).int d;have e:=(e▸ty).int d;unfold Ed at f;split at f
  .cases f;show DI pins s c.σ c.H g l v u Q I z B #[_,_,ex,e,by assumption,q.flat m d n rfl]
  .cases f
 |mod =>
  have(i,j,o,ex,e,f,rfl):=fI h;have ex:=(ex▸D).int d;have e:=(e▸ty).int d;unfold Ee at f;split at f
  .cases f;show cp pins s c.σ c.H g l v u Q I z B #[_,_,ex,e,by assumption,q.flat m d n rfl]
  .cases f
 |pow =>
  have(i,j,o,ex,e,f,rfl):=fI h;have ex:=(ex▸D).int d;have e:=(e▸ty).int d;unfold Ef at f;split at f
  .cases f;show qa pins s c.σ c.H g l v u Q I z B #[_,_,ex,e,by assumption,q.flat m d n rfl]
  .cases f
def Es(d:C.K=X.K)(f:PE X a (NF C g))(i:PE X b (NF C j)):PE X (.BinOp a op.op b pos) (NF C (g >>= λx=>j >>= λy=>az [x,y] >>= λ_=>M.NV (P8 op x y))):=by
 rintro pins s σ H Q I ⟨c0,rfl,rfl,k,h⟩;show wpAny_BinOp (two f i I k h λx y c o p v u A t l m n w=>?_);have(r,e,q):=cv.mp w;show Ny (Im d t l m n e q) λ_ _ z=>by rw[t.hσ]at z;show z
abbrev V0.op:V0->Ħ
 |.eq=>.Eq|.ne=>.NotEq|.lt=>.Lt|.le=>.LtE|.gt=>.Gt|.ge=>.GtE|.isin=>.In|.NB=>.NotIn|.is=>.Is|.T9=>.IsNot
def K6{neg:Bool}(I:Inv X pins c.σ c.H s)(i:C.K=X.K)(J:X.A.units+60<C0){S}(n:Rep C S c.H x m)(o:RelV m v)(r:aq C S c.H ys vs)
  (ha:N5 C.K c.H a vs\/Oc C.K c.H a vs) (t:Og 50 x=b6) (u:dQ 50 ys=b6) {Q} (q:Q (.bool (if neg then !(ys.any λy=>bZ y x) else ys.any λy=>bZ y x)) s) :
  ‹X› (y0 (if neg then .NotIn else .In) v (.ref a)) Q X.xe s:=by
 have z:=Ol.of I i 50 x m v t n o;have go:∀d ,Vals vs d->∃e:g8->Bool,(∀y,y∈d.toArray->VA X.A.in1 s y v (e y))/\d.toArray.any e=ys.any λy=>bZ y x:=by
  intro d rv;have(l,k,_):=Ol.yU (Ol.of I i 50) u r rv
  classical
  have q:∀j (b:j<⇑d),df (∃w,Ol s 50 w d[j]/\bZ w x=b6)=bZ _ x:=λj b=>by
   rw[rD,decide_eq_true_iff];show#[λ⟨w,f,g⟩=>by rw[<-f.inj (k j b)];show g,λh=>#[_,k j b,h]]
  show#[λy=>df (∃w,Ol s 50 w y/\bZ w x=b6),λy L=>?_,?_]
  .have(j,b,e):=Uq (show y∈d by simp_all);subst e;change VA _ _ _ _ (decide _);rw[q j b];show K4 (k j b) z (by grind)
  .rw[rD];erw[List.any_toArray,S7];constructor
   .rintro⟨y,B,h⟩;have(j,b,rfl):=Uq B;rw[q j b]at h;show#[_,F1 (l▸b),by simpa[l▸b] using h]
   .rintro⟨w,D,G⟩;have(j,b,rfl):=Uq D;show#[_,F1 (l▸b),by rw[q j (l▸b)];simpa[b] using G]
 rcases ha with ha|ha
 .have(d,rv,p,_):=xq I (i▸ha);have(e,f,g):=go d rv;cases neg with
  |false=>show SeqAt.in_listAt e p f (by rw[g];show q)
  |true=>show SeqAt.notIn_listAt e p f (by rw[g];show q)
 .rw[i]at ha;have(d,rv,p,_):=I.tuple ha;have(e,f,g):=go d rv;cases neg with
  |false=>show SeqAt.in_tupleAt e p f (by rw[g];show q)
  |true=>show SeqAt.notIn_tupleAt e p f (by rw[g];show q)
end
theorem cJ:∀{us}{ss},strsOf us≈ss->us=ss.map .str
 |[],ss,h=>by cases h;rfl
 |.str x::us,ss,h=>by
  erw[strsOf,g7]at h;have(t,a,rfl):=h;rw[cJ a];rfl
 |.Nt::_,_,h=>by cases h
 |.bl _::_,_,h=>by cases h
 |.int _::_,_,h=>by cases h
 |.tup _::_,_,h=>by cases h
 |.lst _::_,_,h=>by cases h
 |.Nu _ _::_,_,h=>by cases h
@[simp] theorem vA:∀ss:↑Str,strsOf (ss.map .str)≈ss
 |[]=>rfl
 |x::ss=>by simp[strsOf,vA ss]
theorem ll:∀{us}{ns},intsOf us≈ns->us=ns.map .int
 |[],ns,h=>by cases h;rfl
 |u::us,ns,h=>by
  cases u<;>first|(cases h)|skip
  have h':(intsOf us).map _≈ns:=h;rw[g7]at h';have(ms,e,rfl):=h';rw[ll e];rfl
theorem aq.ints{S}:∀{ns:↑Int}{vs},aq C S H (ns.map .int) vs->vs=ns.map V.int
 |[],vs,h=>h
 |n::ns,vs,h=>by
  have(v,r,rfl,a,b):=h;rw[aq.ints b];have:=a;rw[this];rfl
theorem nA:∀{us}{ss},nq us≈ss->us=ss.map .bl
 |[],ss,h=>by cases h;rfl
 |.bl x::us,ss,h=>by
  erw[nq,g7]at h;have(t,a,rfl):=h;rw[nA a];rfl
 |.Nt::_,_,h=>by cases h
 |.str _::_,_,h=>by cases h
 |.int _::_,_,h=>by cases h
 |.tup _::_,_,h=>by cases h
 |.lst _::_,_,h=>by cases h
 |.Nu _ _::_,_,h=>by cases h
theorem aq.bls{S}:∀{xs:↑Bool}{vs},aq C S H (xs.map .bl) vs->vs=xs.map V.bl
 |[],vs,h=>h
 |x::xs,vs,h=>by
  have(v,r,rfl,a,b):=h;rw[aq.bls b];have:=a;rw[this];rfl
abbrev Io(X:Cx)(pins:↑(hH×Obj))(c:Cf)(b:Bool)(v:g8)(a:i4):Prop:=v=.bool b/\Inv X pins c.σ c.H a
def eF(o:OY X f r)(I:Inv X pins c.σ c.H s)(e:RelV a v)(g:RelV d u)(h:r a d c.H λx H'=>x=.bl b/\H'=c.H):
  ‹X› (f v u) (Io X pins c b) X.xe s :=
 Ny (o pins s c.σ c.H a d v u _ I e g h) λw m i=>by
  have(z,H',j,r,k,l):=i;subst k l;show#[r,j]
inductive RtD(C:Ct)(c:Cf)(k:Kd)(ks:↑Str)(us:↑U)(v:V):Prop
 |mk:∀a kvs,v=.ref a->c.H a≈.dK kvs->kvs.map (·.1)=ks.map nc->aq C (SK C c k) c.H us (kvs.map (·.2))->RtD C c k ks us v
def aM.dict(g:Ok C c)(h:aM C c0 c k (.Nu ks us) v):RtD C c k ks us v:=by
 cases k with
 |own=>have(r,e,_,_,_,kvs,b,d,f):=h;show#[r,kvs,e,b,d,f]
 |bor j=>have(r,e,_,_,_,kvs,b,d,f):=g.rootOf h.1 h.2;show#[r,kvs,e,b,d,f]
 |io=>show h.elim
 |A'=>show h.elim
 |_=>have(a,e,_,kvs,b,d,f):=h;show#[a,kvs,e,b,d,f]
theorem eQ{S}:∀{ks}{us}{kvs:↑(Key×V)},kvs.map (·.1)=ks.map nc->aq C S H us (kvs.map (·.2)) ->
  (∀u,eW ks us x≈u->∃v,eU kvs (nc x)≈v/\Rep C S H u v)/\(eU kvs (nc x)).isSome=df (x∈ks)
 |[],us,kvs,a,b=>by
  have:=by exists a
  subst this;show#[λu h=>by cases us<;>simp[eW]at h,by rfl]
 |k::ks,us,[],a,b=>by simp at a
 |k::ks,[],p::kvs,a,b=>by simp[aq]at b
 |k::ks,u0::us,p::kvs,a,b=>by
  have(v,r,e,d,f):=b;cases e;rw[i6,i6,SO]at a;have(g,i):=eQ  a.2 f;by_cases hk:k=x
  .subst hk;show#[λu h=>?_,?_]
   .simp[eW]at h;subst h;show#[p.2,fC a.1,d]
   .rw[fC a.1];simp
  .have c:¬p.1=nc x:=⋯
   show#[λu h=>?_,?_]
   .simp[eW,hk]at h;have(v,e,q):=g u h;show#[v,by rw[fD c];show e,q]
   .rw[fD c,i];simp[mh hk]
def Rep.pw{S:hH->Prop}(h:Rep C S H u v):df (v=.Nt)=pw u:=by
 cases u with
 |tup us=>have(a,vs,rfl,_):=h;rfl
 |lst us=>have(a,vs,rfl,_):=h;rfl
 |Nu ks us=>have(a,rfl,_):=h;rfl
 |ob _ _ _=>show Hf h
 |_=>have:=h;subst this;rfl
def Bi:OY X (y0 .Is) (λx y H Q=>∃i j,x=.bl i/\y=.bl j/\Q (.bl (i==j)) H):=by
 intro pins s σ H x y v u Q I a b h;have(i,j,rfl,rfl,q):=h;cases a;cases b;cases i<;>cases j<;>show dV (bU I q rfl)
def vB:OY X (y0 .IsNot) (λx y H Q=>∃i j,x=.bl i/\y=.bl j/\Q (.bl (!(i==j))) H):=by
 intro pins s σ H x y v u Q I a b h;have(i,j,rfl,rfl,q):=h;cases a;cases b;cases i<;>cases j<;>show dV (bU I q rfl)
def qN(hP:C.P=X.prog)(hw:C.w=X.w)(m:C.K=X.K)(J:X.A.units+60<C0)(t:U9 C c0 c x y B L)(I:Inv X pins c.σ c.H s)(f:RelV B v)(g:RelV L u)(h:bN op x.2 y.2≈b):
  ‹X› (y0 op.op v u) (Io X pins c b) X.xe s:=by
 have(hσ,d,n,i,ty,_):=t;have(kx,O):=x;have(ky,Q):=y
 dsimp only at h i ty
 have p:∀neg:Bool,∀o,Eg O Q≈o->‹X› (y0 (if neg then .NotIn else .In) v u) (Io X pins c (if neg then !o else o)) X.xe s:=by
  intro neg o h;have r:=i.read d;have D:=ty.read d;unfold Eg at h;split at h
  .have(a,vs,rfl,l,q):=D;cases g;unfold Ua at h;split at h
   .rename_i j;cases h;show K6 I m J r f q (.inl l.sq) j.1 j.2 #[by simp,I]
   .cases h
  .have(a,vs,rfl,l,q):=D;cases g;unfold Ua at h;split at h
   .rename_i j;cases h;show K6 I m J r f q (.inr l) j.1 j.2 #[by rfl,I]
   .cases h
  .cases h;have ex:B=_:=r;have N:L=_:=D;cases neg with
   |false=>show eF yr I f g #[_,_,ex,N,rfl,rfl]
   |true=>show eF qj I f g #[_,_,ex,N,rfl,rfl]
  .cases h;have ex:B=_:=r;have(a,kvs,rfl,l,q,T):=ty.dict d;cases g;subst ex;have hs:=λz:Str=>(eQ (x:=z) q T).2;cases neg with
   |false=>show KJ ⋯ I (gN.k (k:=nc _) l) f λY G=>#[by rw[hs];rfl,G]
   |true=>show wU ⋯ I (gN.k (k:=nc _) l) f λY G=>#[by rw[hs];rfl,G]
  .cases h
 unfold bN at h;split at h
 .split at h
  .rename_i j;cases h;show(Ij (n:=50) (.of I m _ _ _ _ j.1 (i.read d) f) (.of I m _ _ _ _ j.2 (ty.read d) g) ⋯).1 _ _ _ _ #[rfl,I]
  .cases h
 .split at h
  .rename_i j;cases h;show(Ij (n:=50) (.of I m _ _ _ _ j.1 (i.read d) f) (.of I m _ _ _ _ j.2 (ty.read d) g) ⋯).2 _ _ _ _ #[rfl,I]
  .cases h
 .cases h;show eF Kp I f g #[_,_,i.int d,ty.int d,rfl,rfl]
 .cases h;show eF Kq I f g #[_,_,i.int d,ty.int d,rfl,rfl]
 .cases h;show eF Kr I f g #[_,_,i.int d,ty.int d,rfl,rfl]
 .show p cK b h
 .rw[g7]at h;have(o,l,rfl):=h;show p b6 o l
 .cases h;have e:=ty.Nt d;show eF Hs I f g #[e,by rw[(i.read d).pw],rfl]
 .cases h;have e:=ty.Nt d;show eF DM I f g #[e,by rw[(i.read d).pw],rfl]
 .cases h;show eF Bi I f g #[_,_,i.bl d,ty.bl d,rfl,rfl]
 .cases h;show eF vB I f g #[_,_,i.bl d,ty.bl d,rfl,rfl]
 .cases h
def Et(d:C.P=X.prog)(f:C.w=X.w)(g:C.K=X.K)(i:X.A.units+60<C0)(j:PE X a (NF C k))(l:PE X b (NF C m))(n:RW op.op b=cK):
  PE X (.Compare a [op.op] [b] pos) (NF C (k >>= λx=>m >>= λy=>az [x,y] >>= λ_=>M.NV (bN op x.2 y.2) >>= λc=>pure (.loc,.bl c))):=by
 rintro pins s σ H Q I ⟨c0,rfl,rfl,o,h⟩;show wpAny_Compare1 (two j l I o h λx y c L N v u O t p B D w=>?_) n;rw[ag]at w;have(r,e,q):=cv.mp w;rw[ao]at q;show Ny (qN d f g i t p B D e) λz T G=>?_;have(e,J):=G;subst e;show#[.bl r,c.H,by rw[<-t.hσ];show J,rfl,q c _ t.hσ rfl t.ok t.nx rfl]
def Eu(d:C.P=X.prog)(f:C.w=X.w)(g:C.K=X.K)(i:X.A.units+60<C0)(j:PE X a (NF C k))(l:PE X b (NF C m))(n:RW op.op b=cK):
  PT X (.Compare a [op.op] [b] pos) (OT C (k >>= λx=>m >>= λy=>az [x,y] >>= λ_=>M.NV (bN op x.2 y.2))):=by
 rintro pins s σ H Q I ⟨c0,rfl,rfl,o,h⟩;show Qz (two   j l I o h λx y c L N v u O t p B D w=>?_) n;have(r,e,q):=cv.mp w;show Ny (qN d f g i t p B D e) λz T G=>?_;have(e,J):=G;subst e;show q9 #[c.H,by rw[<-t.hσ];show J,q c t.hσ rfl t.ok t.nx]
abbrev Gq(C:Ct)(c0:Cf)(Q:Bool->Hp->Prop)(b:Bool)(st':au):Prop:=∀c,c.σ=c0.σ->c.st=st'->Ok C c->Nx c0 c->Q b c.H
def Ip(a:c1.σ=c0.σ)(b:Ok C c1)(n:Nx c0 c1)(h:W m c1.st (cZ C c0 Q)):NF C m c0.σ c1.H Q :=
 #[c1,a,rfl,b,h.mono λr st c c2 v d e f g i=>c c2 v d e f (n.trans g) (i.from n)]
def Bj(a:c1.σ=c0.σ)(b:Ok C c1)(n:Nx c0 c1)(h:W m c1.st (Gq C c0 Q)):OT C m c0.σ c1.H Q :=
 #[c1,a,rfl,b,h.mono λr st c c2 d e f g=>c c2 d e f (n.trans g)]
def aU(a:Ok C c0)(h:W (b >>= k) c0.st d)
  (hz:∀x c v,RN C c0 c x v->W (k x) c.st d->Z v c.H):NF C b c0.σ c0.H Z:=by
 rw[ag]at h;show#[c0,rfl,rfl,a,h.mono λx st1 l c1 e f m g i j=>hz x c1 e #[f,g,i,j] ⋯]
def gZ(a:Ok C c0)(h:W (d >>= k) c0.st e)
  (hz:∀b c,c.σ=c0.σ->Ok C c->Nx c0 c->W (k b) c.st e->Z b c.H):OT C d c0.σ c0.H Z:=by
 rw[ag]at h;show#[c0,rfl,rfl,a,h.mono λx st1 j c1 f l g i=>hz x c1 f g i ⋯]
abbrev K7(m:M (Kd×U))(x:Kd×U):M (Kd×U):=match x.2 with
 |.bl b6=>m
 |.bl cK=>pure (.loc,.bl cK)
 |_=>M.fail
abbrev K8(x:Kd×U):M (Kd×U):=match x.2 with
 |.bl c=>pure (.loc,.bl !c)
 |_=>M.fail
def snd_and(i:PE X a (NF C j))(l:PE X (.BoolOp .And (b::d) pos) (NF C m)):PE X (.BoolOp .And (a::b::d) pos) (NF C (j >>= K7 m)):=by
 show PE.weak (Hb i l) ?_;rintro σ H Q ⟨c0,rfl,rfl,o,h⟩;show aU o h λx c v t w=>?_;have(k,u):=x;have(g,f,n,r):=t;unfold K7 at w;split at w
 .rename_i e;subst e;show#[b6,r.bl f,by show Ip g f n w]
 .rename_i e;subst e;rw[ao]at w;show#[_,r.bl f,by show w c _ g rfl f n rfl]
 .show(bf.mp w).elim
def Ew(d:PE X a (NF C f)):PE X (.UnaryOp .Not a pos) (NF C (f >>= K8)):=by
 show PE.weak (Hc d) ?_;rintro σ H Q ⟨c0,rfl,rfl,g,h⟩;show aU g h λx c v t w=>?_;have(k,u):=x;have(i,b,n,r):=t;unfold K8 at w;split at w
 .rename_i e;subst e;rw[ao]at w;show#[_,r.bl b,w c _ i rfl b n rfl]
 .show(bf.mp w).elim
def Ey(d:PE X a (NF C f)):PE X (.UnaryOp .USub a pos) (NF C (f >>= λx=>M.NV (Em x))):=by
 show PE.weak (Km Hq d) ?_;rintro σ H Q ⟨c0,rfl,rfl,g,h⟩;show aU g h λx c v t w=>?_;have(k,u):=x;have(i,b,n,r):=t;have(j,e,w):=cv.mp w;unfold Em at e;split at e
 .rename_i q;cases q;cases e;show#[_,r.int b,w c (.int _) i rfl b n rfl]
 .cases e
def Ez(d:PT X a (OT C e)):PT X (.UnaryOp .Not a pos) (OT C (e >>= λb=>pure !b)):=by
 show PT.weak (G_ d) ?_;rintro σ H Q ⟨c0,rfl,rfl,f,h⟩;show gZ f h λp c g i n w=>?_;rw[ao]at w;show w c g rfl i n
def EA(g:PT X a (OT C i))(j:PW X (.BoolOp .And (b::d) pos) (OT C tb)):PW X (.BoolOp .And (a::b::d) pos) (OT C (i >>= λp=>if p=b6 then tb else pure cK)):=by
 have h0:=Ah g j;rintro k pins s σ H Q I ⟨c0,rfl,rfl,l,h⟩;show h0 k pins s _ c0.H Q I (gZ l h λp c e f n w=>?_);cases p with
 |true=>show Bj e f n w
 |false=>rw[Ś ke]at w ⊢;rw[ao]at w;show w c e rfl f n
def Iq(g:PT X a (OT C i))(j:PW X (.BoolOp .Or (b::d) pos) (OT C tb)):PW X (.BoolOp .Or (a::b::d) pos) (OT C (i >>= λp=>if p=b6 then pure b6 else tb)):=by
 have h0:=Kb g j;rintro k pins s σ H Q I ⟨c0,rfl,rfl,l,h⟩;show h0 k pins s _ c0.H Q I (gZ l h λp c e f n w=>?_);cases p with
 |true=>rw[ř rfl]at w ⊢;rw[ao]at w;show w c e rfl f n
 |false=>show Bj e f n w
def xu{us:↑α}{vs:↑β}(h:⇑us=⇑vs):(!us.isEmpty)=!vs.isEmpty:=by
 grind
def jU(j:PE X a (NF C l))(i:C.K=X.K)(m:∀b,isTrue a X.env b=(do let v <-b;Wx a.pos;KX [v] (ć v))):PT X a (OT C (l >>= λx=>M.NV (vv x.2))):=by
 show PT.weak (Ao j m) ?_;rintro σ H Q ⟨c0,rfl,rfl,o,h⟩;show aU o h λx c v t w=>?_;have(k,u):=x;have(s,d,n,r):=t;have(p,e,q):=cv.mp w
 dsimp only at e r
 show#[p,?_,q c s rfl d n];unfold vv at e;split at e
 .cases e;rw[r.bl d];rfl
 .cases e;have(a,vs,rfl,f,g):=r.list d;show .inl #[vs,i▸f,xu g.len]
 .cases e;have(a,vs,rfl,f,g):=r.tuple d;rw[i]at f;show .inr (.inl #[vs,f,xu g.len])
 .split at e
  .cases e;rw[r.str d];show#[⋯,rfl]
  .cases e
 .cases e
def Bl(k:C.P=X.prog)(l:C.w=X.w)(m:C.K=X.K)(n:X.A.units+60<C0)(L:PE X a (NF C N))(O:PE X b (NF C T))(Y:PE X d (NF C md))(hm:lastMarks [o1.op,o2.op] [b,d]=cK):
  PT X (.Compare a [o1.op,o2.op] [b,d] pos) (OT C (N >>= λx=>T >>= λy=>az [x,y] >>= λ_=>M.NV (bN o1 x.2 y.2) >>= λp=>if p=b6 then(md >>= λz=>az [y,z] >>= λ_=>M.NV (bN o2 y.2 z.2)) else pure cK)):=by
 rintro pins s σ H Q I ⟨c0,rfl,rfl,ok,h⟩;show isTrue_chain (Ny (two L O I ok h λx y c vx vy v u s2 t I2 rx o w=>?_) λv s1 h1=>test_link (Ny h1 λu s2 f=>f)) hm;rw[ag]at w;have(p,e,q):=cv.mp w;show Ny (qN k l m n t I2 rx o e) λz s' Zd=>?_;have(e,r):=Zd;subst e;show q9 ?_;cases p with
 |false =>
  rw[Ś ke,ao]at q;show ite_ff #[c.H,by rw[<-t.hσ];show r,q c t.hσ rfl t.ok t.nx]
 |true =>
  rw[ř rfl,ag]at q;show ite_tt (test_last (Ny (Y pins s' c.σ c.H (λi B=>∃z c2,c2.H=B/\U9 C c0 c2 y z vy i/\W (M.NV (bN o2 y.2 z.2)) c2.st (Gq C c0 Q)) r ⟨c,rfl,rfl,t.ok,q.mono λz st2 f c2 i D j N0 G J=>?_⟩) ?_))
  .rw[ag,bT]at f;subst j;rw[eO]at f;show#[z,c2,rfl,#[D.trans t.hσ,N0,t.nx.trans G,(t.ry.w.on t.ok G D).t f.1.1,J.from t.nx,nz t.ry.w J.w],f.2]
  .rintro zv s3 ⟨i,B,I3,rz,z,c2,rfl,g,f⟩;have(q',e',w'):=cv.mp f;show Ny (qN (pins:=pins) k l m n g (by rw[g.hσ,<-t.hσ];show I3) o rz e') λz' s4 Ze=>?_;have(j,I4):=Ze;subst j;show q9 #[c2.H,by rw[<-g.hσ];show I4,w' c2 g.hσ rfl g.ok g.nx]
def eu.from(n:Nx c0 c1):eu C c1 c rs vs->eu C c0 c rs vs:=by
 intro h;induction rs generalizing vs with
 |nil=>show h
 |cons r rs a=>have(v,t,e,b,d,f):=h;show#[v,t,e,b.from n,a d,f]
def eu.get{i:Nat}(h:eu C c0 c rs vs)(e:rs[i]?≈r)(d:vs[i]?≈v):gR C c0 c r.1 r.2 v:=by
 induction rs generalizing vs i with
 |nil=>simp at e
 |cons f rs a =>
  have(g,t,rfl,j,b,k):=h;cases i with
  |zero=>simp_all
  |succ i=>show a b (by exists e) (by assumption)
def EB:PA X [] (OQ C (pure [])):=by
 rintro pos pins s σ H Q I ⟨c0,rfl,rfl,a,h⟩;rw[ao]at h;show cB pos pins s _ c0.H Q I (h c0 [] rfl rfl a (Nx.refl c0) rfl)
def Bm(f:PE X e (NF C m))(g:PA X es (OQ C ms))(hs:i0 (e::es) X.env=(cK,p8 e X.env)::i0 es X.env):PA X (e::es) (OQ C (m >>= λr=>ms >>= λrs=>pure (r::rs))):=by
 rintro pos pins s σ H Q I ⟨c0,rfl,rfl,j,h⟩;show bA f g hs pos pins s _ c0.H Q I (aU j h λr c1 v t w=>?_);rw[ag]at w;show#[c1,t.hσ,rfl,t.ok,w.mono λrs st2 a c2 vs b k l c d=>?_];rw[ao]at a;show a c2 _ b k l (t.nx.trans c) #[v,vs,rfl,t.rx.w.on t.ok c (b.trans t.hσ.symm),d.from t.nx,λhk i q u n o p=>?_];show nz t.rx.w (d.get n o) hk p
structure OL(C:Ct)(c0 c:Cf)(rs:↑(Kd×U))(vs:↑V):Prop where
 hσ:c.σ=c0.σ
 ok:Ok C c
 nx:Nx c0 c
 rep:eu C c0 c rs vs
 RO:bg rs c.st
def args{k:↑(Kd×U)->M β}{a}(e:PA X es (OQ C ms))(I:Inv X pins c0.σ c0.H s)(f:Ok C c0)(h:W (ms >>= λrs=>az rs >>= λ_=>k rs) c0.st a)(pos:Pos):
  ‹X› (ę (vl pos (i0 es X.env))) (λus s1=>∃rs c vs,OL C c0 c rs vs/\Inv X pins c.σ c.H s1/\Vals vs us/\W (k rs) c.st a) X.xe s:=by
 rw[ag]at h;show Ny (e pos pins s _ c0.H (λvs d=>∃rs c,c.H=d/\OL C c0 c rs vs/\W (k rs) c.st a) I ⟨c0,rfl,rfl,f,h.mono λrs st1 b c1 vs g i j l m=>?_⟩) ?_
 .rw[ag,bT]at b;subst i;show#[rs,c1,rfl,#[g,j,l,m,b.1],b.2]
 .rintro us s1 ⟨vs,d,n,rv,rs,c1,rfl,t,w⟩;show#[rs,c1,vs,t,by rw[t.hσ];show n,rv,w]
def OL.one(t:OL C c0 c [r] vs):∃v,vs=[v]/\aM C c0 c r.1 r.2 v:=by
 have(v,t',rfl,a,b,_):=t.rep;cases b;show#[v,rfl,a.t t.RO]
def OL.two(t:OL C c0 c [r,b] vs):∃v a,vs=[v,a]/\aM C c0 c r.1 r.2 v/\aM C c0 c b.1 b.2 a:=by
 have(v,t',rfl,d,(a,e,rfl,f,g,_),_):=t.rep;cases g;have hs:=eO.mp t.RO;show#[v,a,rfl,d.t hs.1,f.t hs.2]
def Ok.share(b:Ok C c)(h0:C.H₀ r=cb)(g:∃o,c.H r≈o)(hl:⇑st'=⇑c.st)
  (d:∀i k u,st'[i]?≈bD (k,u)->Y5 C (λa=>c.S a\/a=r) c.H c.σ i k u/\(k.root=b6->c.st[i]?≈bD (k,u))) (h:QJ C {c with S:=λa=>c.S a\/a=r,st:=st' }) :
  Ok C {c with S:=λa=>c.S a\/a=r,st:=st' }:=by
 show#[b.same,λa z=>?_,b.par,b.io,by rw[hl];show b.len,λi k u e=>(d i k u e).1,λi j k k' u u' l hk f m n p q=>?_,h]
 .rcases z with z|rfl
  .show b.O3 a z
  .show#[h0,g]
 .show b.inj i j k k' u u' l hk f ((d i k u m).2 hk) ((d j k' u' n).2 f) p q
def Ok.Ir(p:Ok C c0)(b:Ok C c)(n:Nx c0 c)(h0:c0.H r=cb)(f:¬c.R r)(s:eE C c.S c.H r u):
  Ok C {c with S:=λa=>c.S a\/a=r}/\Nx c0 {c with S:=λa=>c.S a\/a=r}:=by
 have(o,ho,_):=s.some;show#[b.share  (p.jP h0).1 #[o,ho] rfl (λi k u e=>#[?_,λ_=>e]) (b.dd.hs (.up λa=>.inl) λj a z=>#[λq=>q.elim (b.root (.inr #[j,z])).1 λe=>f (.inr #[j,e▸z]),λo q=>q]),#[#[n.keep,n.there,n.roots,λa z=>.inl (n.sub a z),λa z=>?_]]]
 .have(v,g,h):=b.sl i k u e;have d:Mv c.S c.H (λa=>c.S a\/a=r) c.H:=.up λa=>.inl;show#[v,g,h.mv d (.up λa z=>z.imp id .inl) λhk w l=>#[?_,λo q=>q]];have(x,m,t,_):=h.rt hk;rw[l]at m;cases m;rintro(z|rfl)
  .show t z
  .show f (.inl #[i,k,u,hk,e,by rw[g,l]])
 .rcases z with z|rfl
  .show n.new a z
  .show .inr (.inr h0)
def Ok.Bn(d:Ok C c)(n:Nx c0 c)(g:c.st[j]?≈bD (.own,u))(h:c.σ[j]?≈bD (.ref r)):
  Ok C {c with S:=λa=>c.S a\/a=r,st:=c.st.set j (bD (.loc,u))}/\Nx c0 {c with S:=λa=>c.S a\/a=r,st:=c.st.set j (bD (.loc,u))}/\Rep C (λa=>c.S a\/a=r) c.H u (.ref r):=by
 have(Q,f,l,m,T,Y,D,x):=d.sl j _ _ g;rw[h]at f;cases f;cases m;have y:Rep C (λa=>c.S a\/a=r) c.H u (.ref r):=x.rep (λa=>.inl) (.inr rfl);have(o,ho,_):=x.some;have s:j<⇑c.st:=(eH.mp g).1;have t:∀(i:Nat) k u',(c.st.set j (bD (.loc,u)))[i]?≈bD (k,u')->i≠j->c.st[i]?≈bD (k,u'):=λi k u' e ne=>by rw[hQ (mh ne)]at e;show e
 have G:c.R1 r:=#[j,.own,u,rfl,g,h]
 have A:∀(i:Nat) (u':U),(c.st.set j (bD (.loc,u)))[i]?≈bD (.A',u')->c.st[i]?≈bD (.A',u'):=λi u' e=>by
  by_cases b:i=j
  .subst b;rw[fx s]at e;cases e
  .show t i .A' u' e b
 have b1:∀a,({c with S:=λa=>c.S a\/a=r,st:=c.st.set j (bD (.loc,u))}:Cf).R1 a->c.R1 a:=λa I=>by
  have(i,k,u',hk,e,J):=I;by_cases b:i=j
  .subst b;rw[fx s]at e;cases e;cases hk
  .show#[i,k,u',hk,t i k u' e b,J]
 have L:QJ C {c with S:=λa=>c.S a\/a=r,st:=c.st.set j (bD (.loc,u))}:=d.dd.of rfl (λi u' e=>#[A i u' e,rfl]) (λa z=>.inl (b1 a z)) (.up λa=>.inl) λi a z=>#[λq=>q.elim (d.root (.inr #[i,z])).1 λe=>d.dd.d1 i a z (e▸G),λo q=>q]
 show#[d.share (st':=c.st.set j (bD (.loc,u))) D #[o,ho] ⋯ (λi k u' e=>?_) L,#[#[n.keep,n.there,λa z=>?_,λa z=>.inl (n.sub a z),λa z=>?_]],y]
 .by_cases b:i=j
  .subst b;rw[fx s]at e;cases e;show#[#[.ref r,h,y],λz=>nomatch z]
  .have w:=t i k u' e b;have(v,f,p):=d.sl i k u' w;show#[#[v,f,p.mv (.up λa=>.inl) (.up λa z=>z.imp id .inl) λhk l m=>#[?_,λo q=>q]],λ_=>w];have(W',B,N,_):=p.rt hk;rw[m]at B;cases B;rintro(z|rfl)
   .show N z
   .show b (d.inj i j k .own u' u l hk rfl w g (by rw[f,m]) h)
 .rcases z with z|⟨i,u',l,f,p,O⟩
  .show n.roots a (.inl (b1 a z))
  .show n.roots a (.inr #[i,u',l,A i u' f,p,O])
 .rcases z with z|rfl
  .show n.new a z
  .rcases n.roots a (.inl #[j,.own,u,rfl,g,h]) with z|z
   .show .inr (.inl z)
   .show .inr (.inr z)
inductive LfO(C:Ct)(c0 c:Cf)(r:Kd×U)(v:V)(Nq:U->au->Prop):Prop
 |mk:∀(S':hH->Prop) (st':au) (u:U),(∀a,c.S a->S' a)->Ok C {c with S:=S',st:=st' }->Nx c0 {c with S:=S',st:=st' }->Rep C S' c.H u v->Nq u st'->(∀a,S' a->c.S a\/v=.ref a/\(r.1=.own\/c.R a))->(∀a,({c with S:=S',st:=st' }:Cf).R a->c.R a)->LfO C c0 c r v Nq
def f9(B:Ok C c0)(b:Ok C c)(n:Nx c0 c)(d:gR C c0 c r.1 r.2 v)(h:W (lift r) c.st D):LfO C c0 c r v D:=by
 have(k,u):=r;cases k with
 |own =>
  rw[show lift (.own,u)=pure u from rfl,ao]at h;have(r,e,G,N,H,t):=d;have(l,m):=Ok.Ir B b n G H t;show#[_,c.st,u,λa=>.inl,l,m,by rw[e];show t.rep (λa=>.inl) (.inr rfl),h,λa z=>?_,λa z=>z];rcases z with z|rfl
  .show .inl z
  .show .inr #[e,.inl rfl]
 |loc =>
  rw[show lift (.loc,u)=pure u from rfl,ao]at h;show#[c.S,c.st,u,λa=>id,b,n,d,h,λa z=>.inl z,λa z=>z]
 |any =>
  rw[show lift (.any,u)=if NT u=b6 then pure u else M.fail from rfl]at h;split at h
  .rw[ao]at h;show#[c.S,c.st,u,λa=>id,b,n,Rep.NT ⋯ d,h,λa z=>.inl z,λa z=>z]
  .show(bf.mp h).elim
 |bor j =>
  have(x,st',e,I):=h;rw[show lift (.bor j,u) c.st=match c.st[j]? with|some (bD (.own,u))=>bD _|_=>cb from rfl]at e;split at e
  .rename_i w f;cases e;have(O,y,r,J,_):=b.sl j _ _ f;have o:=d;rw[o]at y;cases y;subst J;have(l,m,p):=b.Bn n f o;show#[_,_,_,λa=>.inl,l,m,p,I,λa z=>?_,λa z=>?_]
   .rcases z with z|rfl
    .show .inl z
    .show .inr #[rfl,.inr (.inl #[j,.own,_,rfl,f,o])]
   .rcases z with⟨i,k,u',hk,e,q⟩|⟨i,u',L,e,q,s⟩
    rotate_left 1
    .by_cases g:i=j
     .subst g;have A:i<⇑c.st:=(eH.mp f).1;simp_all
     .rw[hQ (mh g)]at e;show .inr #[i,u',L,e,q,s]
    by_cases g:i=j
    .subst g;have A:i<⇑c.st:=(eH.mp f).1;rw[fx A]at e;cases e;cases hk
    .rw[hQ (mh g)]at e;show .inl #[i,k,u',hk,e,q]
  .cases e
 |_=>show d.elim
inductive LfS(C:Ct)(c0 c:Cf)(vs:↑V)(Nq:↑U->au->Prop):Prop
 |mk:∀(S':hH->Prop) (st':au) (us:↑U),(∀a,c.S a->S' a)->Ok C {c with S:=S',st:=st' }->Nx c0 {c with S:=S',st:=st' }->aq C S' c.H us vs->Nq us st'->LfS C c0 c vs Nq
theorem g9:∀{rs}{vs}{c}{f},Ok C c0->Ok C c->Nx c0 c->eu C c0 c rs vs->W (cj rs) c.st f->LfS C c0 c vs f
 |[],vs,c,f,m,p,n,s,h=>by
  rw[show cj []=pure [] from rfl,ao]at h;show#[c.S,c.st,[],λa=>id,p,n,s,h]
 |r::rs,vs,c,f,m,p,n,s,h=>by
  have(v,t,rfl,J,L,N):=s;rw[show cj (r::rs)=lift r >>= λu=>cj rs >>= λus=>pure _ from rfl,ag]at h;have(O,st1,u,s1,Q,T,b,y,Y,QP):=f9 m p n J h;rw[ag]at y;have V2:=by
   have x:∀(l:↑(Kd×U)) (w:↑V),eu C c0 c l w->(r.1=.own->∀(i:Nat) g j,l[i]?≈g->w[i]?≈j->g.1=.own->j≠v)->eu C c0 {c with S:=O,st:=st1} l w:=by
    intro l;induction l with
    |nil=>intro w q _;show q
    |cons r2 l ih =>
     intro w q A;have(B,D,rfl,k,q2,q3):=q;show#[B,D,rfl,?_,ih D q2 (λhk i g j e1 e2 OP=>A hk (i+1) g j (by assumption) (by assumption) OP),q3];have(k2,u2):=r2;cases k2 with
     |own =>
      have(a,e,p1,p2,G,p4):=k;show#[a,e,p1,λz=>?_,λz=>G (QP a z),p4.mv (.up s1) λo q=>q];rcases Y a z with z|⟨z,z'|z'⟩
      .show p2 z
      .show A z' 0 _ B rfl rfl rfl (e.trans z.symm)
      .show G z'
     |loc=>show Rep.mv (.up s1) k
     |any=>show Rep.mv (.up λa z=>z.imp id (s1 a)) k
     |_=>show k
   show x rs t L N
  have(S2,st2,us,H,N0,n2,d,I):=g9  m Q T V2 y;rw[ao]at I;show#[S2,st2,u::us,λa z=>H a (s1 a z),N0,n2,#[v,t,rfl,b.mv (.up H),d],I]
def EC(i:PA X es (OQ C ms)):PE X (.Tuple es p pos) (NF C (ms >>= λrs=>az rs >>= λ_=>cj rs >>= λus=>if ⇑us<=c8 then pure (.loc,.tup us) else M.fail)):=by
 rintro pins s σ H Q I ⟨c0,rfl,rfl,f,h⟩;show X8 (Ny (args i I f h pos) λus s1 j=>?_);have(rs,c,vs,t,g,rv,w):=j;rw[ag]at w;have(S',st',ws,k,l,m,a,d):=g9 f t.ok t.nx t.rep w;split at d
 .rename_i hz;rw[ao]at d;have hl:⇑vs<=c8:=by rw[<-a.len];show hz
  show#[by rw[<-⇑rv];show hl,?_];have n:=g.Nr.fresh (hY _);have o:Inv X pins c0.σ c.H s1:=by rw[<-t.hσ];show g
  show#[.ref _,upd c.H _ (.tup vs),o.laid  (λb u e=>dt _ e) (hY _) ⟨hl,us,rv,Wq _ _⟩,rfl,?_];show cZ.tup (c:={c with S:=S',st:=st' }) d t.hσ l m a _ n
 .show(bf.mp d).elim
def ED(i:PA X es (OQ C ms)):PE X (.List es pos) (NF C (ms >>= λrs=>az rs >>= λ_=>cj rs >>= λus=>if ⇑us<=c8 then pure (.own,.lst us) else M.fail)):=by
 rintro pins s σ H Q I ⟨c0,rfl,rfl,f,h⟩;show Ć (Ny (args i I f h pos) λus s1 j=>?_);have(rs,c,vs,t,g,rv,w):=j;rw[ag]at w;have(S',st',ws,k,l,m,a,d):=g9 f t.ok t.nx t.rep w;split at d
 .rename_i hz;rw[ao]at d;have hl:⇑vs<=c8:=by rw[<-a.len];show hz
  show#[by rw[<-⇑rv];show hl,?_];have n:=g.Nr.fresh (hY _);have o:Inv X pins c0.σ c.H s1:=by rw[<-t.hσ];show g
  show#[.ref _,upd c.H _ (.lst vs),o.laid  (λb u e=>dt _ e) (hY _) ⟨hl,us,0,rv,gj _ rfl⟩,rfl,?_];show cZ.list (c:={c with S:=S',st:=st' }) d t.hσ l m a _ n
 .show(bf.mp d).elim
def l_(d:X.N[i]?≈x)(f:Ow X.env.scope x)(g:(x==("__debug__":Str))=cK)(l:(x==("__classdict__":Str))=cK):PE X (.Name x pos) (NF C (dG i)):=by
 show PE.weak (a9 d f g l) ?_;rintro σ H Q ⟨c0,rfl,rfl,b,r,st',e,h⟩;unfold dG at e;split at e
 .cases e
 .rename_i k u m hs;cases e;have(v,c,a):=b.sl i k u hs;show#[v,c,h c0 v rfl rfl b (Nx.refl c0) ?_];by_cases hk:k.root=b6
  .rw[ř hk];show#[#[k,hk,hs],c]
  .cases k with
   |loc=>show a
   |any=>show a
   |bor j=>show a.elim
   |A'=>show(m rfl).elim
   |_=>show absurd rfl hk
 .cases e
def jV(h:PE X e (tC v))(r:∀S H,Rep C S H u v):PE X e (NF C (pure (.loc,u))):=by
 show PE.weak h ?_;rintro σ H Q ⟨c0,rfl,rfl,a,h⟩;rw[ao]at h;show h c0 v rfl rfl a (Nx.refl c0) (r _ _)
def cZ.root(h:cZ C c0 Q (.own,u) c.st)(d:c.σ=c0.σ)(b:Ok C c)(n:Nx c0 c)(p)(a:c.H p=cb)(r:eE C c.S (upd c.H p o) p u):Q (.ref p) (upd c.H p o):=by
 have(e,f):=b.lay  a;have(h0,g,j,k,i):=b.jP a;show h {c with H:=upd c.H p o} _ d rfl e (n.trans f) ⟨p,rfl,n.none a,g,i,r⟩
def Bo(c:C.P=X.prog)(d:C.w=X.w)(r:Bool):PE X (.Dict [] [] pos) (NF C (pure (.own,.Nu [] []))):=by
 show PE.weak sf ?_;rintro σ H Q ⟨c0,rfl,rfl,a,h⟩ p b;rw[ao]at h;show cZ.root h rfl a (Nx.refl c0) p b #[[],aj,rfl,rfl]
def aq.N_{S:hH->Prop}(h:aq C S H us vs)(e:N_ us i≈u):∃v,L2.N_ vs i≈v/\Rep C S H u v:=by
 unfold L2.N_ at e ⊢;rw[h.len]at e;cases q:QU _ i with
 |none=>simp_all
 |some j =>
  rw[q]at e;show h.get e
def Iu(G:C.K=X.K)(J:X.A.units+60<C0)(hs:lY b)(t:U9 C c0 c x y f g)(I:Inv X pins c.σ c.H s)(l:RelV f v)(m:RelV g u)(h:lV x y.2≈r)(q:cZ C c0 Q r c.st):
  ‹X› (subscriptTail a b v u) (EP X pins c.σ Q) X.xe s:=by
 obtain⟨o,d,n,p,ty,-⟩:=t;have(L,N):=y
 dsimp only at h ty
 unfold lV at h;split at h
 .rename_i k xs i;rw[g7]at h;have(w,e,rfl):=h;have(a',vs,ex,j,z):=p.list d;have(vw,B,D):=z.N_ e;show DW a b pins s c.σ c.H f g v u Q I l m #[a',vs,i,vw,ex,ty.int d,G▸j,B,q c vw o rfl d n (aM.item D)] (hs _ _)
 .rename_i k xs i;rw[g7]at h;have(w,e,rfl):=h;have(a',vs,ex,j,z):=p.tuple d;have(vw,B,D):=z.N_ e;rw[G]at j;show kn a b pins s c.σ c.H f g v u Q I l m #[a',vs,i,vw,ex,ty.int d,j,B,q c vw o rfl d n (aM.item D)] (hs _ _)
 .split at h
  .rw[g7]at h;have(w,e,rfl):=h;show mT a b pins s c.σ c.H f g v u Q I l m #[_,_,w,p.str d,ty.int d,by assumption,e,q c _ o rfl d n rfl] (hs _ _)
  .cases h
 .cases h
def EF(d:C.K=X.K)(f:X.A.units+60<C0)(hs:lY b)(g:PE X a (NF C i))(j:PE X b (NF C k)):PE X (.Subscript a b pos) (NF C (i >>= λx=>k >>= λy=>az [x,y] >>= λ_=>M.NV (lV x y.2))):=by
 rintro pins s σ H Q I ⟨c0,rfl,rfl,l,h⟩;show ZQ (two g j I l h λx y c p B v u D t m n o w=>?_);have(r,e,q):=cv.mp w;show Ny (Iu d f hs t m n o e q) λ_ _ z=>by rw[t.hσ]at z;show z
def aq.cut{S}(h:aq C S H us vs)(lo hi):aq C S H (TM.cut us lo hi) (uS vs lo hi):=by
 unfold TM.cut uS;rw[h.len];show(h.drop _).take _
def yV{lo hi}(h:HT.NP ⇑xs 0 lo=0/\HT.NP ⇑xs ⇑xs hi=⇑xs):cut xs lo hi=xs:=by
 unfold cut;rw[h.1,h.2];simp
section
variable{prog:sd}{w:wk}{A:Ui}{E:g8->i4->Prop}{s:i4}
def iT{lo hi}(b:Yc s.heap t a)(hs:s.heap.IsSliceOf c e f .none)(g:XT e lo)(i:XT f hi)
  (d:HT.NP a.size 0 lo=0/\HT.NP a.size a.size hi=a.size) (h:Q (.ref t) s):f6 (gs prog w) A (UQ (.ref t) (.ref c)) Q E s:=by
 have(os,j,k,n):=id hs;have l:s.TypeIs (.ref c) "slice":=#[os,j,k]
 unfold UQ
 try with_reducible show tv ?_
 first|show cL (dV ?_)|skip
 show cL (Ė b.typeIs ⋯ ?_);show cL (tp (name:=Uv "__getitem__") b.typeIs sP
  (tj sP b.typeIs entry_tuple_getitem ?_ (ď _ _)))
 change f6 _ _ (Xy (.ref t) >>= _) _ _ s;show cL (tupleItemsOf_ b ?_);show cL (UO l ?_);rw[ř ⋯];show cL (HT.fB hs g i ?_);have m:(((HT.NP a.size 0 lo:Nat):Int)==0&&(1:Int)==1&&(HT.NP a.size a.size hi - HT.NP a.size 0 lo)==a.size)=b6:=by
  rw[d.1,d.2];simp
 change f6 _ _ (if (((HT.NP a.size 0 lo:Nat):Int)==0&&(1:Int)==1&&(HT.NP a.size a.size hi - HT.NP a.size 0 lo)==a.size)=b6 then _ else _) _ _ s;rw[ř m];change f6 (gs prog w) A.in1 ((Zq (ku t) >>= λx=>pure (x==.type "tuple")) >>= _) _ _ s;show cL (cL (UO b.typeIs (dV ?_)));rw[ř ⋯];show cL (P5 (dV #[_,rfl,dV h]))
end
section
variable{X:Cx}{C:Ct}{pins:List (hH×Obj)}{s:i4}{c0 c c1:Cf}
variable{a b d e:jw}{es:List jw}{m ma mb md:M (Kd×U)}{ms:M (List (Kd×U))}{ta tb:M Bool}{pos p p2:Pos}
def EG:RF X (λx lo hi H Q=>∃a xs,x=.ref a/\Oc X.K H a xs/\(HT.NP ⇑xs 0 lo=0/\HT.NP ⇑xs ⇑xs hi=⇑xs)/\Q (.ref a) H):=by
 intro pins s σ H x v t u lo hi w Q I i hs j k h;have(a,xs,rfl,l,n,q):=h;cases i;have(o,r,g,hz):=I.tuple l;have f:o.toArray.size=⇑xs:=by rw[mu];show r.length.symm
 show#["tuple",_,sP.lookup,g.typeIs,iT g hs j k (by rw[f];show n) #[.ref a,H,I,rfl,q]]
abbrev tO(C:Ct)(m:M (Option Int)):TO:=λσ H Q=>∃c0:Cf,c0.σ=σ/\c0.H=H/\Ok C c0/\W m c0.st λi st'=>∀c,c.σ=σ->c.st=st'->Ok C c->Nx c0 c->Q i c.H
def iG:PO X cb (tO C (pure cb)):=by
 rintro pins s σ H Q I ⟨c0,rfl,rfl,f,h⟩;rw[ao]at h;show DT pins s _ c0.H Q I (h c0 rfl rfl f (Nx.refl c0))
def yW(f:PE X a (NF C ma)):PO X (bD a) (tO C (ma >>= Ig)):=by
 rintro pins s σ H Q I ⟨c0,rfl,rfl,g,h⟩;show DU f pins s _ c0.H Q I (aU g h λx c v t w=>?_);have(k,u):=x;unfold Ig at w;split at w
 .rename_i i e;subst e;rw[ao]at w;show#[i,t.rx.int t.ok,w c t.hσ rfl t.ok t.nx]
 .show(bf.mp w).elim
def Iv{lo hi}(v:C.K=X.K)(i:c.σ=c0.σ)(f:Ok C c)(n:Nx c0 c)(l:aM C c0 c x.1 x.2 j)(h:jQ x lo hi≈r)(q:cZ C c0 Q r c.st):
  ((KG X.K j lo hi c.H Q\/Kx X.K j lo hi c.H Q)\/(∃a xs,j=.ref a/\Oc X.K c.H a xs/\(HT.NP ⇑xs 0 lo=0/\HT.NP ⇑xs ⇑xs hi=⇑xs)/\Q (.ref a) c.H))\/KO j lo hi c.H Q:=by
 unfold jQ at h;split at h
 .split at h
  .rename_i w;cases h;have(a',vs,ex,k,g):=l.list f;show .inl (.inl (.inl #[a',vs,ex,v▸k,λp o=>q.list i f n ((gW w g).cut lo hi) p o]))
  .cases h
 .cases h;have(a',vs,ex,k,g):=l.tuple f;have t:=k;rw[v]at t;by_cases u:HT.NP ⇑vs 0 lo=0/\HT.NP ⇑vs ⇑vs hi=⇑vs
  .show .inl (.inr #[a',vs,ex,t,u,?_]);show q c (.ref a') i rfl f n (aM.item #[a',vs,rfl,k,?_]);rw[yV (by rw[g.len];show u)];show g
  .show .inl (.inl (.inr #[a',vs,ex,t,u,λp o=>q.tupK i f n (g.cut lo hi) p o]))
 .split at h
  .cases h;show .inr #[_,l.str f,by assumption,q.flat i f n rfl]
  .cases h
 .cases h
def EH{lo hi}(k:C.K=X.K)(n:PE X a (NF C ma))(hl:PO X lo (tO C ml))(o:PO X hi (tO C u)):
  PE X (.Subscript a (.Slice lo hi cb p2) pos) (NF C (ma >>= λx=>ml >>= λl=>u >>= λh=>az [x] >>= λ_=>M.NV (jQ x l h))):=by
 show PE.weak (Ax (((RF.or DX Hy).or EG).or HL) n hl o) ?_;rintro σ H Q ⟨c0,rfl,rfl,y,h⟩;show aU y h λx c v t w=>?_;rw[ag]at w;show#[c,t.hσ,rfl,t.ok,w.mono λl st2 i c2 z A B D=>?_];subst A;rw[ag]at i;show#[c2,z,rfl,B,i.mono λN O g G j I J L=>?_];subst I;rw[ag,bT]at g;have(r,e,q):=cv.mp g.2;have f:Nx c G:=D.trans L;show Iv k j J (t.nx.trans f) ((t.rx.w.on t.ok f (j.trans t.hσ.symm)).t g.1) e q
end
section
variable{X:Cx}{C:Ct}{pins:List (hH×Obj)}{s:i4}{c0 c c1:Cf}
variable{a b d e:jw}{es:List jw}{m ma mb md:M (Kd×U)}{ms:M (List (Kd×U))}{ta tb:M Bool}{pos p p2:Pos}
abbrev Bf.val:Bf->g8
 |.len=>.builtin "len"|.sorted=>.builtin "sorted"|.repr=>.builtin "repr"|.max=>.builtin "max"|.min=>.builtin "min"|.all=>.builtin "all"|.any=>.builtin "any"
 |.list=>.type "list"|.tuple=>.type "tuple"|.str=>.type "str"|.int=>.type "int"
abbrev Bf.name:Bf->Str
 |.len=>"len"|.sorted=>"sorted"|.repr=>"repr"|.max=>"max"|.min=>"min"|.all=>"all"|.any=>"any"
 |.list=>"list"|.tuple=>"tuple"|.str=>"str"|.int=>"int"
def call_of(g:gD X f r)(I:Inv X pins c.σ c.H s)(rv:Vals vs us)(h:r vs c.H Q):‹X› (Qo f us) (EP X pins c.σ Q) X.xe s:=g pins s c.σ c.H vs us Q I rv h
def bW(h:iR f rs≈r):∃x,rs=[x]/\f x≈r:=by
 unfold iR at h;split at h
 .show#[_,rfl,h]
 .cases h
def Gu(D:X.calm=b6)(y:C.K=X.K)(N:X.A.guards≈[])(O:X.A.units+60<C0)(t:OL C c0 c rs vs)(I:Inv X pins c.σ c.H s)(rv:Vals vs us)(h:PV f rs≈r)(q:cZ C c0 Q r c.st):
  ‹X› (Qo f.val us) (EP X pins c.σ Q) X.xe s:=by
 have o:=t.hσ;have g:=t.ok;have n:=t.nx;cases f with
 |len =>
  have(x,rfl,hz):=bW  h;clear h;have h:=hz;clear hz;rw[g7]at h;have(k,e,rfl):=h;have(v,rfl,i):=t.one;have(T,G):=x;unfold KS at e;split at e
  .rename_i xs u;have u:G=.lst xs:=u;subst u;cases e;have(a',ws,ex,j,l):=i.list g;rw[l.len]at q;show call_of fU I rv #[a',ws,by rw[ex],.inl (y▸j),q.flat o g n rfl]
  .rename_i xs u;have u:G=.tup xs:=u;subst u;cases e;have(a',ws,ex,j,l):=i.tuple g;rw[y]at j;rw[l.len]at q;show call_of fU I rv #[a',ws,by rw[ex],.inr j,q.flat o g n rfl]
  .rename_i xs u;subst u;split at e
   .cases e;show call_of qk I rv #[_,by rw[i.str g],by assumption,q.flat o g n rfl]
   .cases e
  .cases e
 |sorted =>
  have(x,rfl,hz):=bW (f:=H9) h;clear h;have h:=hz;clear hz;have(v,rfl,i):=t.one;unfold H9 at h;split at h
  .rw[ki]at h;have(ss,e,h):=h;have B:=cJ e;subst B;have(a',ws,ex,j,l):=i.list g;rw[aq.strs]at l;subst l;split at h
   .cases h;show call_of lj I rv #[a',ss,by rw[ex],.inl (y▸j),by assumption,λp z=>q.list o g n (aq.strs.mpr rfl) p z]
   .cases h
  .have(a',kvs,ex,j,l,_):=i.dict g;split at h
   .cases h;show call_of (kD D) I rv #[a',kvs,_,by rw[ex],Rd.of j,l,by assumption,λp z=>q.list o g n (aq.strs.mpr rfl) p z]
   .cases h
  .rw[ki]at h;have(ss,e,h):=h;have B:=cJ e;subst B;have(a',ws,ex,j,l):=i.tuple g;rw[y]at j;rw[aq.strs]at l;subst l;split at h
   .cases h;show call_of lj I rv #[a',ss,by rw[ex],.inr j,by assumption,λp z=>q.list o g n (aq.strs.mpr rfl) p z]
   .cases h
  .cases h
 |tuple =>
  have(x,rfl,hz):=bW (f:=H_) h;clear h;have h:=hz;clear hz;have(v,rfl,i):=t.one;unfold H_ at h;split at h
  .have(a',ws,ex,j,l):=i.list g;cases h;show call_of iX I rv #[a',ws,by rw[ex],.inl #[y▸j,λp z=>q.tupK o g n l p z]]
  .have(a',ws,ex,j,l):=i.tuple g;have J:=j;rw[y]at J;cases h;show call_of iX I rv #[a',ws,by rw[ex],.inr #[J,q c (.ref a') o rfl g n (aM.item #[a',ws,rfl,j,l])]]
  .cases h
 |str =>
  have(x,rfl,hz):=bW (f:=A8) h;clear h;have h:=hz;clear hz;have(v,rfl,i):=t.one;unfold A8 at h;split at h
  .split at h
   .cases h;show call_of qb I rv #[_,by rw[i.int g],⋯,q.flat o g n rfl]
   .cases h
  .cases h
 |int =>
  have(x,rfl,hz):=bW (f:=Ib) h;clear h;have(v,rfl,i):=t.one;unfold Ib at hz;split at hz
  .cases hz;show call_of yw I rv (.inr #[_,by rw[i.bl g],q.flat o g n rfl])
  .cases hz
 |max =>
  have h:yP cK rs≈r:=h;unfold yP at h;split at h
  .have(v,L,rfl,i,ty):=t.two;cases h;show call_of (yt D) I rv #[_,_,by rw[i.int g,ty.int g],q.flat o g n rfl]
  .cases h
 |min =>
  have h:yP b6 rs≈r:=h;unfold yP at h;split at h
  .have(v,L,rfl,i,ty):=t.two;cases h;show call_of (yu D) I rv #[_,_,by rw[i.int g,ty.int g],q.flat o g n rfl]
  .cases h
 |all =>
  have(x,rfl,hz):=bW (f:=Ia) h;clear h;have h:=hz;clear hz;have(v,rfl,i):=t.one;unfold Ia at h;split at h
  .rw[g7]at h;have(bs,e,rfl):=h;have B:=nA e;subst B;have(a',ws,ex,j,l):=i.list g;have:=l.bls;subst this;show call_of (AL D) I rv #[a',bs,by rw[ex],y▸j,q.flat o g n rfl]
  .cases h
 |_=>cases h
def EI{id}(g:X.calm=b6)(i:C.K=X.K)(j:X.A.guards≈[])(k:X.A.units+60<C0)(l:f.val=.builtin id)(n:Gl X x)(o:X.mg x=cb)(u:sx x≈.builtin id)(hn:x≠"__name__")(v:(x==("__debug__":Str))=cK)
  (y:PA X (e::es) (OQ C ms)) (B:i0 (e::es) X.env=(cK,p8 e X.env)::i0 es X.env) (D:(vl pos (i0 es X.env)).any (·.1)=cK) :
  PE X (.Call (.Name x p) (e::es) [] pos) (NF C (ms >>= λrs=>az rs >>= λ_=>M.NV (PV f rs))):=by
 rintro pins s σ H Q I ⟨c0,rfl,rfl,G,h⟩;show nS (dB I n o u ?_ hn v);show uu (Ny (args y I G h pos) λus s1 ⟨rs,c,vs,t,J,rv,w⟩=>?_) B D;have(r,e,q):=cv.mp w;have z:=Gu g i j k t J rv e q;rw[l,t.hσ]at z;show z
def EJ(g:X.calm=b6)(i:C.K=X.K)(j:X.A.guards≈[])(k:X.A.units+60<C0)(l:f.val=.type T)(n:Gl X x)(o:X.mg x=cb)(u:sx x≈.type T)(hn:x≠"__name__")(v:(x==("__debug__":Str))=cK)
  (y:PA X (e::es) (OQ C ms)) (B:i0 (e::es) X.env=(cK,p8 e X.env)::i0 es X.env) (D:(vl pos (i0 es X.env)).any (·.1)=cK) :
  PE X (.Call (.Name x p) (e::es) [] pos) (NF C (ms >>= λrs=>az rs >>= λ_=>M.NV (PV f rs))):=by
 rintro pins s σ H Q I ⟨c0,rfl,rfl,G,h⟩;show nS (dB I n o u ?_ hn v);show x8 (Ny (args y I G h pos) λus s1 ⟨rs,c,vs,t,J,rv,w⟩=>?_) B D;have(r,e,q):=cv.mp w;have z:=Gu g i j k t J rv e q;rw[l,t.hσ]at z;show z
abbrev Sj.name(_:Sj):Str:="str"
abbrev Sj.nm(_:Sj):String:="str"
def EK(T:Sj):sx T.name≈.type T.nm/\T.name≠"__name__"/\(T.name==("__debug__":Str))=cK:=by
 cases T<;>show#[by decide +kernel,by decide +kernel,by rfl]
def iI(T:Sj):Zq (.type T.nm)=pure (.type "type"):=by rfl
def Iw{b}(l:C.K=X.K)(t:RN C c0 c x v)(I:Inv X pins c.σ c.H s)(rv:RelV v val)(h:sU x.2 T≈b)(q:∀tk,Q (.bool b) {s with toks:=tk}):
  ‹X› (Qo (.builtin "isinstance") [val,.type T.nm]) Q X.xe s:=by
 have(k,u):=x;have(L,f,n,r):=t;have z:Q (.bool b) s:=q s.toks
 dsimp only at h r
 have i:∀{y:String},b=b6->s.TypeIs val y->U1 (.type y) (.type T.nm)=pure b6->‹X› (Qo (.builtin "isinstance") [val,.type T.nm]) Q X.xe s:=λe B hs=>by
  subst e;show Ń B (iI T) hs z
 unfold sU at h;split at h
 .cases h;have e:v=_:=r.str f;subst e;have(tk,rfl):=rv;show i rfl (Q' s _ tk) (by rfl)
 .cases h;have e:v=_:=r.int f;subst e;have(tk,rfl):=rv;show UG (isinstance_false_int (by rfl) (iI T) (by rfl)) (q _)
 .cases h;have e:v=_:=r.bl f;subst e;cases rv;show UG (isinstance_false_bool (by rfl) (iI T) (by rfl)) (q _)
 .cases h;have e:v=_:=r.Nt f;subst e;cases rv;show UG (isinstance_false_none (by rfl) (iI T) (by rfl)) (q _)
 .cases h;have(a',ws,rfl,g,D):=r.list f;cases rv;rw[l]at g;have(G,_,J,_):=I.list g;have(o,ho,j,_):=J.isList;show UG (isinstance_false_list (by cases T;decide +kernel) (iI T) (by rfl)) ⟨⟨o,ho,j⟩,q _⟩
 .cases h;have(a',ws,rfl,g,D):=r.tuple f;cases rv;rw[l]at g;have(G,_,(o,ho,j,_),_):=I.tuple g;show UG (isinstance_false_tuple (by rfl) (iI T) (by rfl)) #[#[o,ho,j],q _]
 .cases h
def xv(g:C.K=X.K)(i:Gl X "isinstance")(j:X.mg "isinstance"=cb)(k:Gl X T.name)(l:X.mg T.name=cb)(n:PE X a (NF C ma))(hs:i0 [a,.Name T.name p2] X.env=(cK,p8 a X.env)::i0 [.Name T.name p2] X.env):
  PE X (.Call (.Name "isinstance" p) [a,.Name T.name p2] [] pos) (NF C (ma >>= λx=>M.NV (sU x.2 T) >>= λb=>pure (.loc,.bl b))):=by
 rintro pins s σ H Q I ⟨c0,rfl,rfl,o,h⟩;have(q,r,u):=EK T;show nS (dB I i j (show sx "isinstance"≈_ by rfl) ?_ (by decide +kernel) (by decide +kernel));show uu (Ny (bA n (bA (wL (v:=.ty T.nm) k l q rfl r u) cB) hs pos pins s c0.σ c0.H (λvs H'=>∃x c v b,RN C c0 c x v/\c.H=H'/\vs=[v,.ty T.nm]/\sU x.2 T≈b/\cZ C c0 Q (.loc,.bl b) c.st) I ?_) λus s1 ⟨vs,L,f,y,x,c,v,b,t,e,A,B,w⟩=>?_) hs (by rfl)
 .show aU o h λx c v t w=>?_;rw[ag]at w;have(b,e,w):=cv.mp w;rw[ao]at w;show#[x,c,v,b,t,rfl,rfl,e,w]
 .subst e A;have(N,O,rfl,D,G):=vals2 y;cases G;have J:Inv X pins c.σ c.H s1:=by rw[t.hσ];show f
  have z:=Iw (Q:=EP X pins c0.σ Q) g t J D B λtk=>#[.bl b,c.H,f.tok tk,rfl,w c (.bl b) t.hσ rfl t.ok t.nx rfl]
  show z
@[reducible]noncomputable def U_(P:sd)(w:wk)(K:W.Frag)(H:Hp)(f:hH->Prop):Ct:=#[P,w,K,H,f,λ_=>False,λ_ _=>False]
structure Back(C:Ct)(H H':Hp)(S':hH->Prop)(k:Kd)(u:U)(v:V):Prop where
 same:fV H H'
 new:∀a,S' a->H a=cb/\∃o,H' a≈o
 own:k=.own->∃r,v=.ref r/\H r=cb/\¬S' r/\eE C S' H' r u
 loc:k=.loc->Rep C S' H' u v
 any:k=.any->Rep C (PS C S') H' u v
abbrev spT(P:sd)(w:wk)(K:W.Frag)(F:↑U->Option (Ex (Kd×U)))(g:Nat):Sp:=λvs H Q E=>⇑vs=g/\∃us r f,F us≈r/\(∀a,f a->PL H a)/\aq (U_ P w K H f) f H us vs/\match r with
 |.ok (k,u)=>(k=.own\/k=.loc\/k=.any)/\∀v H' S',Back (U_ P w K H f) H H' S' k u v->Q v H'
 |.exc c=>∀C H',W.nsIn K i5 c≈bD (.ref C)->fV H H'->E (.ref C) cb H'
def OL.read(t:OL C c0 c rs vs):aq C (PL c.H) c.H (rs.map (·.2)) vs:=by
 have f:∀(l:↑_) (w:↑V),eu C c0 c l w->bg l c.st->aq C (PL c.H) c.H (l.map (·.2)) w:=by
  intro l;induction l with
  |nil=>intro w h _;show h
  |cons r l g =>
   intro w h hs;have(v,t',rfl,i,j,_):=h;rw[eO]at hs;show#[v,t',rfl,(i.t hs.1).read t.ok,g t' j hs.2]
 show f rs vs t.rep t.RO
def Back.here(hk:k=.own\/k=.loc)(i:c.σ=c0.σ)(f:Ok C c)(n:Nx c0 c)(q:j.Eqv C)(h:Back j c.H H' S' k u v)(w:cZ C c0 Q (k,u) c.st):Q v H':=by
 have(l,t):=f.grow (S':=λa=>c.S a\/S' a) h.same (λa z=>z.imp id λz=>h.new a z) λa=>.inl;have hn:=n.trans t;show w {c with H:=H',S:=λa=>c.S a\/S' a} v i rfl l hn ?_;rcases hk with rfl|rfl
 .have(r,e,g,x,y):=h.own rfl;have(B,z1,z2,D,A):=f.jP g;show#[r,e,n.none g,λz=>z.elim z1 x,A,(y.cg q).mv (.up λa=>.inr) λo q=>q]
 .show((h.loc rfl).cg q).mv (.up λa=>.inr)
def xx(n:C.P=X.prog)(o:C.w=X.w)(x:C.K=X.K)(D:Γ f=F)(hk:∀us k u,F us≈.ok (k,u)->(k=.own\/k=.loc\/k=.any)/\⇑us=y)
  (G:dE X.prog X.w X.K X.mg X.base (Pw X.prog X.w) k fa J ps (spT X.prog X.w X.K F y)) (L:cW k X.A) (i:Binds X.K J ps []) (t:OL C c0 c rs vs) (I:Inv X pins c.σ c.H s) (rv:Vals vs us) (w:W (i_ Γ f (rs.map (·.2))) c.st (cZ C c0 Q)) :
  ‹X› (Qo (.ref fa) us) (EP X pins c0.σ Q) X.xe s:=by
 have(r,st',g,q):=w;unfold i_ at g;rw[D]at g;cases h:F (rs.map (·.2)) with
 |none=>rw[h]at g;cases g
 |some r' =>
  rw[h]at g;split at g
  .cases g
  .rename_i z;cases z
  rename_i N O;cases O;cases g;have(j,u):=r;have(k0,k2):=hk _ _ _ h;have k1:j=.own\/j=.loc:=by
   rcases k0 with z|z|z
   .show .inl z
   .show .inr z
   .subst z;show(N u rfl).elim
  have l:C.Eqv (U_ X.prog X.w X.K c.H (PL c.H)):=#[n,o,x]
  have T:(U_ X.prog X.w X.K c.H (PL c.H)).Eqv C:=#[n.symm,o.symm,x.symm]
  have B:=t.read;have Y:spT X.prog X.w X.K F y vs c.H (λv H'=>Q v H') E0:=#[by rw[<-B.len];show k2,rs.map (·.2),.ok (j,u),PL c.H,h,λ_ z=>z,B.cg l,k0,λv H' S' i=>i.here k1 t.hσ t.ok t.nx T q]
  have z:=Ar (Q:=Q) G L i .nil Gm I rv (by rw[tP];show Y);rw[t.hσ]at z;show z
def Bp(i:C.P=X.prog)(j:C.w=X.w)(l:C.K=X.K)(n:Γ f=F)(hk:∀us k u,F us≈.ok (k,u)->(k=.own\/k=.loc\/k=.any)/\⇑us=o)
  (G:dE X.prog X.w X.K X.mg X.base (Pw X.prog X.w) k fa q ps (spT X.prog X.w X.K F o)) (r:cW k X.A) (v:Gl X f) (x:X.mg f≈.ref fa) (y:W.keepIn X.K (.ref fa)=b6) (z:Binds X.K q ps [])
  (B:(f==("__debug__":Str))=cK) (D:PA X (e::es) (OQ C ms)) (J:i0 (e::es) X.env=(cK,p8 e X.env)::i0 es X.env) (L:(vl pos (i0 es X.env)).any (·.1)=cK) :
  PE X (.Call (.Name f p) (e::es) [] pos) (NF C (ms >>= λrs=>az rs >>= λ_=>i_ Γ f (rs.map (·.2)))):=by
 rintro pins s σ H Q I ⟨c0,rfl,rfl,ok,h⟩;show nS (eD I v x ?_ B);show W.callWith_K (h₀:=X.base) I.ok.mod.SJ y (Ny (args D I ok h pos) λus s1 ⟨rs,c,vs,t,g,rv,w⟩=>#[g.Pb,xx i j l n hk G r z t g rv w]) J L
end
abbrev Mf.id:Mf->String
 |.split=>"str.split"|.join=>"str.join"|.partition=>"str.partition"|.endswith=>"str.endswith"
abbrev Mf.name:Mf->Str
 |.split=>"split"|.join=>"join"|.partition=>"partition"|.endswith=>"endswith"
def Bq(h:jR f u rs≈r):∃x,u=.str x:=by
 obtain⟨b,e,-⟩:=gS h;show#[b,e]
def Iy(L:C.K=X.K)(t:OL C c0 c (x::rs) (l::vs))(I:Inv X pins c.σ c.H s)(m:RelV l v)(rv:Vals vs us)(h:jR f x.2 rs≈r)(q:cZ C c0 Q r c.st):
  ‹X› (Qo (.builtin f.id) (v::us)) (EP X pins c.σ Q) X.xe s:=by
 have o:=t.hσ;have d:=t.ok;have n:=t.nx;have(kx,ux):=x;have hs:=eO.mp t.RO;obtain⟨v0,Xb,N,y,z,-⟩:=t.rep;cases N;have O:=y.t hs.1;have one:∀{r:Kd×U},eu C c0 c [r] vs->bg [r] c.st->∃v,vs=[v]/\aM C c0 c r.1 r.2 v:=λ{r} h s=>by
  have(v,t',rfl,y,z,_):=h;cases z;show#[v,rfl,y.t s]
 have(a,ea,g):=gS h;subst ea;have((ky,T),Y,k):=bW g;subst Y;have(w,rfl,ty):=one z hs.2;have ex:=O.str d
 dsimp only at k ty
 cases f with
 |split =>
  have(b,rfl,i):=gS k;have(j,e):=O_.mp i;cases e;show AK pins s c.σ c.H l [w] v us Q I m rv #[_,_,ex,by rw[ty.str d],j.1,j.2,λp B=>q.list o d n (aq.strs.mpr rfl) p B]
 |join =>
  cases T with
  |lst xs =>
   have(ss,e,i):=ki.mp k;have D:=cJ e;subst D;have(j,e):=O_.mp i;cases e;have(a',ws,G,J,u):=ty.list d;rw[aq.strs]at u;subst u;show D5 pins s c.σ c.H l [w] v us Q I m rv #[_,a',ss,ex,by rw[G],L▸J,j,q.flat o d n rfl]
  |tup xs =>
   have(ss,e,i):=ki.mp k;have D:=cJ e;subst D;have(j,e):=O_.mp i;cases e;have(a',ws,G,J,u):=ty.tuple d;rw[aq.strs]at u;subst u;show AZ pins s c.σ c.H l [w] v us Q I m rv #[_,a',ss,ex,by rw[G],L▸J,j,q.flat o d n rfl]
  |_=>cases k
 |endswith =>
  have(b,rfl,i):=gS k;cases i;show sA pins s c.σ c.H l [w] v us Q I m rv #[_,_,ex,by rw[ty.str d],q.flat o d n rfl]
 |partition =>
  have(b,rfl,i):=gS k;have(j,e):=O_.mp i;cases e;show qy pins s c.σ c.H l [w] v us Q I m rv #[_,_,ex,by rw[ty.str d],j.1,j.2,λp B=>?_];show q.tup o d n #[_,_,rfl,rfl,_,_,rfl,rfl,_,_,rfl,rfl,rfl] p B
def EL(G:C.K=X.K)(slot:ı "str" name f.id)(J:Zq (.builtin f.id)=pure (.type "method_descriptor"))(ho:PE X o (NF C m))(L:PA X (e::es) (OQ C ms))
  (N:LF o name X.env (p8 o X.env)=p8 o X.env)
  (O:((vl a (i0 (e::es) X.env)).all (λx=>!x.1)&&(Ut a (PK [] X.env)).all (λx=>x.1.isSome)
   && df (⇑(e::es)+⇑([]:↑QF)+(if ([]:↑QF).isEmpty then 0 else 1)<30))=b6)
  (T:(b.endLine==a.line)=b6) (hs:i0 (e::es) X.env=(cK,p8 e X.env)::i0 es X.env) (TQ:(vl a (i0 es X.env)).any (·.1)=cK) :
  PE X (.Call (.Attribute o name b) (e::es) [] a) (NF C (m >>= λx=>ms >>= λrs=>az (x::rs) >>= λ_=>M.NV (jR f x.2 rs))):=by
 rintro pins s σ H Q I ⟨c0,rfl,rfl,Y,h⟩;show Ws N O T rfl (Ny (ho pins s c0.σ c0.H (λd l=>∃x c1,c1.H=l/\RN C c0 c1 x d/\W (ms >>= λrs=>az (x::rs) >>= λ_=>M.NV (jR f x.2 rs)) c1.st (cZ C c0 Q)) I (aU Y h λx c v t w=>#[x,c,rfl,t,w])) ?_);rintro v s1 ⟨d,l,n,p,x,c1,rfl,t,w⟩;have Uh:∃z,x.2=.str z:=by
  rw[ag]at w;have(rs,st2,_,w):=w;rw[ag]at w;have(_,N7,_,w):=w;have(r,e,_):=cv.mp w;show Bq e
 have(z,hz):=Uh;have u:=t.rx;rw[hz]at u;have ev:=u.str t.ok;have ty:WQ X.K "str" d c1.H:=by rw[ev];rfl
 have(h1,h2):=ql n p ty;show#["str",f.id,F.plainAttrs_str,slot,J,h1,h2,?_];rw[ag]at w;have y:=L a pins s1 c0.σ c1.H (λvs A=>∃rs c2,c2.H=A/\OL C c0 c2 (x::rs) _/\W (M.NV (jR f x.2 rs)) c2.st _) n ⟨c1,t.hσ,rfl,t.ok,w.mono λrs st2 j c2 vs B e4 N0 D g=>by
  rw[ag,bT]at j;subst e4;show#[rs,c2,rfl,#[B,N0,t.nx.trans D,#[d,vs,rfl,t.rx.w.on t.ok D (B.trans t.hσ.symm),g.from t.nx,λhk i r' v' e5 e6 OP=>nz t.rx.w (g.get e5 e6) hk OP],j.1],j.2]⟩
 rw[hs]at y ⊢;show ur (by assumption) (w6 ?_);show Ny y ?_;rintro us s2 ⟨vs,A,I2,g,rs,c2,rfl,k,w2⟩;have(r,e,q):=cv.mp w2;have z:=Iy G k (by rw[k.hσ];show I2) p g e q;rw[k.hσ]at z;show z
section
variable{X:Cx}{C:Ct}{pins:List (hH×Obj)}{s:i4}{c0 c c1:Cf}
variable{e:jw}{es:List jw}{ms:M (List (Kd×U))}{pos p p2 pos2:Pos}
abbrev B2.out:B2->g8
 |.PM=>.type "tuple"|.Rj=>.type "list"|.sset=>.builtin "sorted"|.jg=>.builtin "len"
abbrev B2.Xc:B2->g8
 |.PM=>.type "reversed"|.Rj=>.type "reversed"|.sset=>.type "set"|.jg=>.type "set"
abbrev B2.qO:B2->Str
 |.PM=>"tuple"|.Rj=>"list"|.sset=>"sorted"|.jg=>"len"
abbrev B2.jW:B2->Str
 |.PM=>"reversed"|.Rj=>"reversed"|.sset=>"set"|.jg=>"set"
theorem aq.rev{S}:∀{us}{vs},aq C S H us vs->aq C S H us.reverse vs.reverse
 |[],vs,h=>by cases h;rfl
 |u::us,vs,h=>by
  have(v,r,rfl,a,b):=h;rw[UZ,UZ];show(aq.rev b).append #[v,[],rfl,a,rfl]
def yX(g:C.K=X.K)(i:Ok C c)(j:aM C c0 c k u v)(h:yQ u≈ss):∃a ys,v=.ref a/\(N5 X.K c.H a (ys.map V.str)\/Oc X.K c.H a (ys.map V.str))/\⇑ys+1<SM/\ss=bV ys:=by
 unfold yQ at h;split at h
 .rw[ki]at h;have(ys,e,h):=h;have f:=cJ e;subst f;have(a',ws,ex,d,b):=j.list i;rw[aq.strs]at b;subst b;split at h
  .cases h;show#[a',ys,ex,.inl (g▸d),⋯,rfl]
  .cases h
 .rw[ki]at h;have(ys,e,h):=h;have f:=cJ e;subst f;have(a',ws,ex,d,b):=j.tuple i;rw[aq.strs]at b;subst b;rw[g]at d;split at h
  .cases h;show#[a',ys,ex,.inr d,by assumption,rfl]
  .cases h
 .cases h
def Iz(j:X.calm=b6)(k:C.K=X.K)(t:OL C c0 c rs vs)(I:Inv X pins c.σ c.H s)(rv:Vals vs us)(h:vt f rs≈r)(q:cZ C c0 Q r c.st):
  ‹X› (Qo f.Xc us) (λv s1=>‹X› (Qo f.out [v]) (EP X pins c.σ Q) X.xe s1) X.xe s:=by
 have m:=t.hσ;have a:=t.ok;have n:=t.nx;cases f with
 |PM =>
  have(x,rfl,hz):=bW (f:=Ic) h;clear h;have h:=hz;clear hz;have(v,rfl,d):=t.one;unfold Ic at h;split at h
  .cases h;have(a',ws,ex,b,g):=d.tuple a;rw[k]at b;subst ex;have(u,rfl,i):=vals1 rv;cases i;show yL j I b λl hl=>q.tupK m a n g.rev l hl
  .cases h
 |jg =>
  have(x,rfl,hz):=bW (f:=λx:Kd×U=>(yQ x.2).map λss:↑Str=>(Kd.loc,U.int (⇑ss:Int))) h;clear h;have h:=hz;clear hz;have(ss,e,rfl):=g7.mp h;have(v,rfl,d):=t.one;have(a',ys,rfl,b,g,rfl):=yX k a d e;have(u,rfl,i):=vals1 rv;cases i;show qE j I b g λS h' tk o y=>vc y o (q.flat m a n rfl)
 |_=>cases h
def xy:∀f:B2,sx f.qO≈f.out/\sx f.jW≈f.Xc/\f.qO≠"__name__"/\f.jW≠"__name__"/\(f.qO==("__debug__":Str))=cK/\(f.jW==("__debug__":Str))=cK:=by
 intro f;cases f<;>show#[by decide +kernel,by decide +kernel,by decide +kernel,by decide +kernel,by decide +kernel,by rfl]
def IA(f:B2):∃T,f.Xc=.type T:=by cases f<;>show#[_,rfl]
def IB(f:B2):(∃T,f.out=.type T)\/∃T,f.out=.builtin T:=by cases f<;>first|show .inl ⟨_,rfl⟩|show .inr ⟨_,rfl⟩
def EM{M}{E}(h:f6 M A t (λv a=>f6 M A (Qo (.type T) [v]) Q E a) E s):f6 M A (ŋ pos (.type T) [] [(cK,t)] []) Q E s :=
 PySem.callWith_type rfl (w6 (so (lg h (λ_ _ b=>y8 b) λ_ _ e=>e)))
def Br{M}{E}(h:f6 M A t (λv a=>f6 M A (Qo (.builtin T) [v]) Q E a) E s):f6 M A (ŋ pos (.builtin T) [] [(cK,t)] []) Q E s :=
 ur rfl (w6 (so (lg h (λ_ _ b=>y8 b) λ_ _ e=>e)))
def Bs(b:X.calm=b6)(d:C.K=X.K)(g:Gl X f.jW)(i:X.mg f.jW=cb)
  (j:PA X (e::es) (OQ C ms)) (k:i0 (e::es) X.env=(cK,p8 e X.env)::i0 es X.env) (l:(vl pos2 (i0 es X.env)).any (·.1)=cK)
  (I:Inv X pins c0.σ c0.H s) (m:Ok C c0) (h:W (ms >>= λrs=>az rs >>= λ_=>M.NV (vt f rs)) c0.st (cZ C c0 Q)) :
  ‹X› (p8 (.Call (.Name f.jW p2) (e::es) [] pos2) X.env) (λv s1=>‹X› (Qo f.out [v]) (EP X pins c0.σ Q) X.xe s1) X.xe s:=by
 have(b1,n,b3,b4,B,o):=xy f;show nS (dB I g i n ?_ b4 o);have a:‹X› (ę (vl pos2 (i0 (e::es) X.env))) (λus s1=>‹X› (Qo f.Xc us) (λv s1=>‹X› (Qo f.out [v]) (EP X pins c0.σ Q) X.xe s1) X.xe s1) X.xe s :=
  Ny (args j I m h pos2) λus s1 u=>by
   have(rs,c,vs,t,x,rv,w):=u;have(r,e,q):=cv.mp w;have z:=Iz b d t x rv e q;rw[t.hσ]at z;show z
 have(T,y):=IA f;rw[y]at a ⊢;show x8 a k l
def EN(d:X.calm=b6)(g:C.K=X.K)(i:Gl X f.qO)(j:X.mg f.qO=cb)(k:Gl X f.jW)(l:X.mg f.jW=cb)
  (m:PA X (e::es) (OQ C ms)) (n:i0 (e::es) X.env=(cK,p8 e X.env)::i0 es X.env) (o:(vl pos2 (i0 es X.env)).any (·.1)=cK) :
  PE X (.Call (.Name f.qO p) [.Call (.Name f.jW p2) (e::es) [] pos2] [] pos) (NF C (ms >>= λrs=>az rs >>= λ_=>M.NV (vt f rs))):=by
 rintro pins s σ H Q I ⟨c0,rfl,rfl,q,h⟩;have(b1,v,b3,b4,r,w):=xy f;show nS (dB I i j b1 ?_ b3 r);have a:=Bs (p2:=p2) (pos2:=pos2) d g k l m n o I q h;have t:vl pos (i0 [.Call (.Name f.jW p2) (e::es) [] pos2] X.env)=[(cK,p8 (.Call (.Name f.jW p2) (e::es) [] pos2) X.env)]:=rfl;have u:Ut pos (PK [] X.env)=[]:=rfl;rw[t,u];rcases IB f with⟨T,b⟩|⟨T,b⟩
 .rw[b]at a ⊢;show EM a
 .rw[b]at a ⊢;show Br a
end
section
variable{X:Cx}{C:Ct}{pins:List (hH×Obj)}{s:i4}{c0 c c1:Cf}
variable{a b d e o tg:jw}{es:List jw}{m ma mb md:M (Kd×U)}{ms:M (List (Kd×U))}{ta tb:M Bool}{pos p p2 apos Nn:Pos}
abbrev nB(rs:↑(Kd×U))(c f:Cf):Prop:=∀j u,(Kd.bor j,u)∈rs->f.σ[j]?=c.σ[j]?
abbrev Walk(C:Ct)(c:Cf)(rs:↑(Kd×U))(xs:↑(Kd×U))(J:It):Prop:=∀f,Ok C f->Ns c f->nB rs c f->bg rs f.st ->
 (∀(i:Nat) r,xs[i]?≈r->(r.1=.loc\/r.1=.any)/\J.go i f.H/\∀x H',J.UM i f.H x H'->∃g:Cf,g.H=H'/\g.σ=f.σ/\g.st=f.st/\Ok C g/\Nx f g/\aM C f g r.1 r.2 x) /\
 ∀i:Nat,⇑xs<=i->J.stop i f.H
abbrev Rn(C:Ct)(f:Ik)(ms:M (↑(Kd×U))):TI:=λσ H R=>∃c0:Cf,c0.σ=σ/\c0.H=H/\Ok C c0/\W (ms >>= λrs=>az rs >>= λ_=>M.NV (PX f rs) >>= λxs=>pure (rs,xs)) c0.st λq st' =>
 ∀c J,c.σ=σ->c.st=st'->Ok C c->Nx c0 c->bg q.1 c.st->Walk C c q.1 q.2 J->R J c.H
def aM.walk(g:Ok C c)(n:Ns c f)(i:nB [r] c f)(hs:bg [r] f.st)(h:aM C c0 c r.1 r.2 v):aM C c0 f r.1 r.2 v :=
 (h.w.on' g n λj e=>i j r.2 (by rw[<-e];simp)).t hs
def Bt(k):kE k=.loc\/kE k=.any:=by cases k<;>simp[kE]
def yY(z:C.K=X.K)(A:Ok C c)(h:aM C c0 c k (.lst us) (.ref a')):Walk C c [(k,.lst us)] (us.map λu=>(kE k,u)) (UN X.K a'):=by
 intro l q n B hs;have h':=aM.walk  A n B hs h;have(G,vs,e,f,t):=h'.list q;cases e;rw[z]at f;show#[λi r w=>?_,λi hi=>#[vs,f,by rw[<-t.len];simp_all]];rw[sg,g7]at w;have(u,D,rfl):=w;have(v,y,g):=t.get D;show#[Bt k,#[vs,v,f,y],λx H' j=>?_];have(e,j):=j;subst e;have:=j vs f;rw[y]at this;cases this;show#[l,rfl,rfl,rfl,q,Nx.refl l,aM.item g]
def vC(z:C.K=X.K)(A:Ok C c)(h:aM C c0 c k (.tup us) (.ref a')):Walk C c [(k,.tup us)] (us.map λu=>(kE k,u)) (XS X.K a'):=by
 intro l q n B hs;have h':=aM.walk  A n B hs h;have(G,vs,e,f,t):=h'.tuple q;cases e;rw[z]at f;show#[λi r w=>?_,λi hi=>#[vs,f,by rw[<-t.len];simp_all]];rw[sg,g7]at w;have(u,D,rfl):=w;have(v,y,g):=t.get D;show#[Bt k,#[vs,v,f,y],λx H' j=>?_];have(e,j):=j;subst e;have:=j vs f;rw[y]at this;cases this;show#[l,rfl,rfl,rfl,q,Nx.refl l,aM.item g]
def Bu:Walk C c [(k,.str x)] (x.cps.toList.map λch=>(.loc,.str #[#v[ch]])) (Yx x):=by
 intro f l n t hs;show#[λi r g=>?_,λi hi=>by change ⇑x.cps.toList<=i;simp_all];rw[sg,g7]at g;have(ch,h,rfl):=g;show#[.inl rfl,(eH.mp h).1,λy H' q=>?_];have(e,c2,j,rfl):=q;subst e;rw[h]at j;cases j;show#[f,rfl,rfl,rfl,l,Nx.refl f,rfl]
def nE{lo}:Walk C c rs ((ib n).map λi:Nat=>(Kd.loc,U.int (lo+(i:Int)))) (Vu lo n):=by
 intro g k nx q hs;show#[λi r h=>?_,λi hi=>by change n<=i;simp_all];rw[sg,g7]at h;have(j,f,rfl):=h;have hi:=by simpa using(eH.mp f).1
 rw[Xx hi]at f;cases f;show#[.inl rfl,hi,λy H' l=>?_];have(e,rfl):=l;subst e;show#[g,rfl,rfl,rfl,k,Nx.refl g,rfl]
def IC(j:C.K=X.K)(q:PE X a (NF C ma)):PI X tg a (Rn C .seq (ma >>= λr=>pure [] >>= λrs=>pure (r::rs))):=by
 rintro pins s σ H R I ⟨c0,rfl,rfl,t,h⟩;rw[ag,ag]at h;have(r,st1,w,h):=h;rw[ag,ao,ao,ag,bT,ag]at h;have(y,h):=h;have(xs,l,h):=cv.mp h;rw[ao]at h;have(k,u):=r;cases u with
 |lst us =>
  cases l;show DG q pins s _ c0.H R I #[c0,rfl,rfl,t,_,st1,w,λc v i hs g n f=>?_];have(a',vs,rfl,z,B):=f.list g;subst hs;show#[a',rfl,#[vs,j▸z],h c _ i rfl g n y (yY j g f)]
 |tup us =>
  cases l;show Hl q pins s _ c0.H R I #[c0,rfl,rfl,t,_,st1,w,λc v i hs g n f=>?_];have(a',vs,rfl,z,B):=f.tuple g;subst hs;have A:=z;rw[j]at A;show#[a',rfl,#[vs,A],h c _ i rfl g n y (vC j g f)]
 |str x =>
  cases l;show HK q pins s _ c0.H R I #[c0,rfl,rfl,t,_,st1,w,λc v i hs g n f=>?_];subst hs;show#[_,f.str g,h c _ i rfl g n y Bu]
 |_=>cases l
def vE{k:↑(Kd×U)->M β}{g}(i:Ok C c0)(h:W (ms >>= λrs=>az rs >>= λ_=>k rs) c0.st g)
  (hz:∀rs c vs,OL C c0 c rs vs->W (k rs) c.st g->Z vs c.H):OQ C ms c0.σ c0.H Z:=by
 rw[ag]at h;show#[c0,rfl,rfl,i,h.mono λrs st1 f c1 vs j l n q r=>?_];rw[ag,bT]at f;subst l;show hz rs c1 vs #[j,n,q,r,f.1] f.2
def EO(g:Gl X "range")(i:X.mg "range"=cb)(hs:i0 [a] X.env=[(cK,p8 a X.env)])(j:PA X [a] (OQ C ms)):PI X tg (.Call (.Name "range" p) [a] [] pos) (Rn C .Of ms):=by
 rintro pins s σ H R I ⟨c0,rfl,rfl,k,h⟩;show yo g i j hs pins s _ c0.H R I (vE k h λrs c vs t w=>?_);rw[ag]at w;have(xs,f,w):=cv.mp w;rw[ao]at w;have(x,rfl,hz):=bW  f;clear f;have f:=hz;clear hz;have(v,rfl,l):=t.one;unfold A9 at f;split at f
 .split at f
  .cases f;show#[_,by rw[l.int t.ok],⋯,⋯,w c _ t.hσ rfl t.ok t.nx t.RO nE]
  .cases f
 .cases f
def ER(g:Gl X "range")(i:X.mg "range"=cb)(hs:i0 [a,b] X.env=[(cK,p8 a X.env),(cK,p8 b X.env)])(j:i0 [b] X.env=[(cK,p8 b X.env)])(k:PA X [a,b] (OQ C ms)):PI X tg (.Call (.Name "range" p) [a,b] [] pos) (Rn C .Sk ms):=by
 rintro pins s σ H R I ⟨c0,rfl,rfl,l,h⟩;show yp g i k hs j pins s _ c0.H R I (vE l h λrs c vs t w=>?_);rw[ag]at w;have(xs,f,w):=cv.mp w;rw[ao]at w;have f:Ie rs≈xs:=f;unfold Ie at f;split at f
 .split at f
  .cases f;have(v,q,rfl,n,ty):=t.two;show#[_,_,by rw[n.int t.ok,ty.int t.ok],⋯,w c _ t.hσ rfl t.ok t.nx t.RO nE]
  .cases f
 .cases f
def sV{k}{us}{u0}{a':hH}{t}(D:∀f,Ok C f->Ns c f->nB [(k,u0)] c f->bg [(k,u0)] f.st->∃vs,t f.H vs/\aq C (SK C f k) f.H us vs):Walk C c [(k,u0)] (us.zipIdx.map λp=>(kE k,.tup [.int p.2,p.1])) (UU t):=by
 intro f g n G hs;have(vs,h,w):=D f g n G hs;show#[λi r y=>?_,λi hi=>#[vs,h,by rw[<-w.len];simp_all]];rw[sg,g7]at y;have(p,z,rfl):=y;rw[Z8,g7]at z;have(u,I,rfl):=z;have(v,A,j):=w.get I;show#[Bt k,#[vs,v,h,A],λx H' l=>?_];have(p,J,rfl,l):=l;have L:=l vs v h A;subst L;have(N,q):=g.lay  J;show#[{f with H:=upd f.H p _},rfl,rfl,rfl,N,q,aM.item ?_];have B:aq C (SK C f k) f.H [.int (0+i:Nat),u] [.int i,v]:=by
  rw[ķ];show#[_,_,rfl,rfl,_,_,rfl,j,rfl]
 cases k<;>show#[p,_,rfl,Oc.of aj,by first|show B.mv (g.Si q)|show B.mv (g.mv q)]
def ID{es}{y}{ps}(j:C.K=X.K)(z:Gl X "enumerate")(A:X.mg "enumerate"=cb)(hs:i0 [a] X.env=[(cK,p8 a X.env)])(B:PA X [a] (OQ C ms)):PI X (.Tuple es y ps) (.Call (.Name "enumerate" p) [a] [] pos) (Rn C .Te ms):=by
 rintro pins s σ H R I ⟨c0,rfl,rfl,D,h⟩;show D7 z A B hs pins s _ c0.H R I (vE D h λrs c vs t w=>?_);rw[ag]at w;have(xs,g,w):=cv.mp w;rw[ao]at w;have(x,rfl,hz):=bW  g;clear g;have g:=hz;clear hz;have(v,rfl,k):=t.one;unfold KW at g;split at g
 .cases g;have(a',ws,l,f,i):=k.list t.ok;subst l;show#[a',rfl,.inl #[#[ws,j▸f],w c _ t.hσ rfl t.ok t.nx t.RO ?_]];show sV (a':=a') λG q n r u=>?_;have(J,vs,e,f,i):=(aM.walk t.ok n r u k).list q;cases e;show#[vs,j▸f,i]
 .cases g;have(a',ws,l,f,i):=k.tuple t.ok;subst l;rw[j]at f;show#[a',rfl,.inr #[#[ws,f],w c _ t.hσ rfl t.ok t.nx t.RO ?_]];show sV (a':=a') λG q n r u=>?_;have(J,vs,e,f,i):=(aM.walk t.ok n r u k).tuple q;cases e;rw[j]at f;show#[vs,f,i]
 .cases g
def Ok.put(t:Ok C c)(n:Nx c0 c)(hi:i<⇑c.σ)(hk:k=.own\/k=.loc\/k=.any)(OV:Ok C c0)(h:aM C c0 c k u v):
  Ok C {c with σ:=c.σ.set i (bD v),st:=c.st.set i (bD (k,u))}/\Nx c0 {c with σ:=c.σ.set i (bD v),st:=c.st.set i (bD (k,u))}:=by
 have O:i<⇑c.st:=by rw[t.len];show hi
 have Q:∀(j:Nat) k' u',(c.st.set i (bD (k,u)))[j]?≈bD (k',u')->j≠i->c.st[j]?≈bD (k',u'):=λj k' u' e ne=>by rw[hQ (mh ne)]at e;show e
 have OI:∀(j:Nat) B,(c.σ.set i (bD v))[j]?≈bD B->j≠i->c.σ[j]?≈bD B:=λj B e ne=>by rw[hQ (mh ne)]at e;show e
 have sl:jq C c.S c.H k u v:=by
  rcases hk with rfl|rfl|rfl
  .have(r,e,D,J,y,L):=h;have(z0,z1,z2,z3,z4):=OV.jP D;show#[r,e,J,z2,z0,L]
  .show h
  .show h
 have T:∀(j:Nat) k' u' r,k'.root=b6->(c.st.set i (bD (k,u)))[j]?≈bD (k',u')->(c.σ.set i (bD v))[j]?≈bD (.ref r)->j=i/\k=.own/\v=.ref r\/j≠i/\c.st[j]?≈bD (k',u')/\c.σ[j]?≈bD (.ref r):=λj k' u' r G g l=>by
  by_cases f:j=i
  .subst f;rw[fx O]at g;rw[fx hi]at l;cases g;cases l;rcases hk with rfl|rfl|rfl
   .show .inl #[rfl,rfl,rfl]
   .cases G
   .cases G
  .show .inr #[f,Q j k' u' g f,OI j _ l f]
 have dD:∀(j:Nat) (u':U),(c.st.set i (bD (k,u)))[j]?≈bD (.A',u')->c.st[j]?≈bD (.A',u')/\(c.σ.set i (bD v))[j]?=c.σ[j]?:=λj u' e=>by
  by_cases f:j=i
  .subst f;rw[fx O]at e;cases e;rcases hk with hk|hk|hk<;>cases hk
  .show#[Q j .A' u' e f,hQ (mh f)]
 have b1:∀a,({c with σ:=c.σ.set i (bD v),st:=c.st.set i (bD (k,u))}:Cf).R1 a->c.R1 a\/k=.own/\v=.ref a:=λa N1=>by
  have(j,k',u',G,g,l):=N1;rcases T j k' u' a G g l with⟨N,w,x⟩|⟨N,w,x⟩
  .show .inr #[w,x]
  .show .inl #[j,k',u',G,w,x]
 have Sv:QJ C {c with σ:=c.σ.set i (bD v),st:=c.st.set i (bD (k,u))}:=t.dd.of rfl dD (λa z=>(b1 a z).imp id λ⟨Y,q2⟩ j z'=>by
  subst Y;have(I,e,_,_,y,_):=h;rw[q2]at e;cases e;show y (.inr #[j,z'])) (.up λ_ z=>z) λj a z=>#[(t.root (.inr #[j,z])).1,λo q=>q]
 show#[#[t.same,t.O3,t.par,t.io,by simp[t.len],λj k' u' e=>?_,λj1 j2 k1 k2 u1 u2 r Zl V2 g l e3 e4=>?_,Sv],#[#[n.keep,n.there,λa z=>?_,n.sub,n.new]]]
 .by_cases f:j=i
  .subst f;rw[fx O]at e;cases e;show#[v,by rw[fx hi],sl]
  .have(B,g,l):=t.sl j k' u' (Q j k' u' e f);show#[B,by rw[hQ (mh f)];show g,l]
 .have z1:=T j1 k1 u1 r Zl g e3;have z2:=T j2 k2 u2 r V2 l e4;rcases z1 with⟨N,w,x⟩|⟨N,w,x⟩
  .rcases z2 with⟨b1,A,b3⟩|⟨b1,A,b3⟩
   .show N.trans b1.symm
   .subst w;have(I,e,D,J,y,L):=h;rw[x]at e;cases e;show(y (.inl #[j2,k2,u2,V2,A,b3])).elim
  .rcases z2 with⟨b1,A,b3⟩|⟨b1,A,b3⟩
   .subst A;have(I,e,D,J,y,L):=h;rw[b3]at e;cases e;show(y (.inl #[j1,k1,u1,Zl,w,x])).elim
   .show t.inj j1 j2 k1 k2 u1 u2 r Zl V2 w A x b3
 .rcases z with z|⟨j,u',I,g,l,e3⟩
  .rcases b1 a z with z|⟨w,x⟩
   .show n.roots a (.inl z)
   .subst w;have(I,e,D,J,y,L):=h;rw[x]at e;cases e;show .inr D
  .have(Y,q2):=dD j u' g;show n.roots a (.inr #[j,u',I,Y,q2▸l,e3])
def qP(z:Ok C c0)(q:Ok C c)(n:Nx c0 c)(hi:i<⇑c.σ)(t:aM C c0 c r.1 r.2 v)(h:W (eX i r) c.st I):
  ∃y,y.σ=c.σ.set i (bD v)/\y.H=c.H/\Ok C y/\Nx c0 y/\I () y.st:=by
 have(k,u):=r;cases k with
 |own =>
  have(x,st',e,f):=h;cases e;have(g,l):=q.put n hi (.inl rfl) z t;show#[{c with σ:=c.σ.set i (bD v),st:=c.st.set i _},rfl,rfl,g,l,f]
 |loc =>
  have(x,st',e,f):=h;cases e;have(g,l):=q.put n hi (.inr (.inl rfl)) z t;show#[{c with σ:=c.σ.set i (bD v),st:=c.st.set i _},rfl,rfl,g,l,f]
 |any =>
  have(x,st',e,f):=h;cases e;have(g,l):=q.put n hi (.inr (.inr rfl)) z t;show#[{c with σ:=c.σ.set i (bD v),st:=c.st.set i _},rfl,rfl,g,l,f]
 |bor j =>
  have(x,st',e,f):=h;rw[show eX i (.bor j,u) c.st=match c.st[j]? with|some (bD (.own,u))=>bD _|_=>cb from rfl]at e;split at e
  .rename_i w B;cases e;have(O,D,r,J,_):=q.sl j _ _ B;have G:=t.2;rw[G]at D;cases D;subst J;have(L,N,A):=q.Bn n B G;have(g,l):=Ok.put  L N  (u:=w)  hi (.inr (.inl rfl)) z A;show#[{S:=λa=>c.S a\/a=r,H:=c.H,σ:=c.σ.set i _,st:=(c.st.set j _).set i _,kid:=c.kid},rfl,rfl,g,l,f]
  .cases e
 |_=>show t.elim
end
abbrev tG(C:Ct)(t:Bool)(is:↑Nat):TG:=λv σ H Q=>∃c0 c r,c.σ=σ/\c.H=H/\Ok C c0/\Ok C c/\Nx c0 c/\aM C c0 c r.1 r.2 v/\W (d8 t is r) c.st λ_ st' =>
 ∀a,a.st=st'->Ok C a->Nx c0 a->(∀j,j∉is->a.σ[j]?=c.σ[j]?)->⇑a.σ=⇑c.σ->Q a.σ a.H
structure vF(X:Cx)(e:jw)(i:Nat):Prop where
 is:∃x pos,e=.Name x pos/\X.N[i]?≈x/\Loc X.env.scope x/\(X.fn x=b6\/X.env.scope.names.lookup x≈.local)
def IE(f:X.N.Nodup)(h:vF X e i):PG X e (tG C cK [i]):=by
 have(x,pos,rfl,b,g,k):=h.is;rintro pins s σ H v u Q I rv ⟨c0,c,r,rfl,rfl,l,m,n,a,w⟩;have hi:i<⇑c.σ:=by rw[I.len];show(eH.mp b).1
 have(o,d,p,t,y,q):=qP (r:=r) l m n hi a w;show pY f b g k pins s c.σ c.H v u Q I rv ?_;have z:=q o rfl t y (λj A=>by rw[d,hQ (by intro z;simp_all)]) ⋯;rw[d,p]at z;show z
abbrev Zm:↑Nat->UL
 |[]=>Kg
 |i::is=>Gf (kU i) (Zm is)
inductive f_(X:Cx):↑jw->↑Nat->Prop where
 |nil:f_ X [] []
 |cons {e:jw} {es:↑jw} {i:Nat} {is:↑Nat} (h:vF X e i) (t:f_ X es is):f_ X (e::es) (i::is)
def yZ(a:X.N.Nodup)(h:f_ X es is):Vs X es (Zm is):=by
 induction h with
 |nil=>show DC
 |cons h t b =>
  have(x,pos,rfl,c,d,e):=h.is;show Ak (pY a c d e) b rfl
def vG(h:f_ X es is):⇑(Se es X.env)=⇑is/\(Se es X.env).findIdx? (·.1)=cb:=by
 induction h with
 |nil=>show#[rfl,rfl]
 |cons h t a =>
  have(x,pos,rfl,b,c,d):=h.is;show#[?_,?_]
  .change(_::_).length=_;simp[a.1]
  .change Ē _ (_::_)=cb;rw[List.findIdx?_cons,a.2];rfl
theorem xA(hk:kE k=k)(g:Ok C c0):∀{is}{us}{vs}{c}{d}{Q},Ok C c->Nx c0 c->(∀i∈is,i<⇑c.σ)->aq C (SK C c k) c.H us vs->W (sets is (us.map λu=>(k,u))) c.st d ->
  (∀b,d () b.st->Ok C b->Nx c0 b->(∀j,j∉is->b.σ[j]?=c.σ[j]?)->⇑b.σ=⇑c.σ->Q b.σ b.H)->Zm is vs c.σ c.H Q
 |[],[],vs,c,d,Q,ok,n,hi,a,w,q=>by
  rw[show sets [] _=pure () from rfl,ao]at w;show#[a,q c w ok n (λ_ _=>rfl) rfl]
 |[],u::us,vs,c,d,Q,ok,n,hi,a,w,q=>(bf.mp w).elim
 |i::is,[],vs,c,d,Q,ok,n,hi,a,w,q=>(bf.mp w).elim
 |i::is,u::us,vs,c,d,Q,ok,n,hi,a,w,q=>by
  rw[show sets _ _=eX i (k,u) >>= λ_=>sets is _ from rfl,ag]at w;have(v,r,rfl,h,A):=a;have l:k=.own\/k=.loc\/k=.any:=by cases k<;>simp[kE]at hk<;>simp
  have rt:aM C c0 c k u v:=by rw[<-hk];show aM.item h
  have(m,o):=ok.put n (hi i ⋯) l g rt;have es:eX i (k,u)=λst=>bD (.ok (),st.set i (bD (k,u))):=by cases k<;>simp[kE]at hk<;>rfl
  have(_,st',e,s):=w;rw[es]at e;cases e;show#[v,r,rfl,xA  hk g m o (λj f=>by exists hi j (by simp[f])) (by assumption) s λb p t x y hl=>?_];show q b p t x (λj f=>?_) ⋯;rw[y j (λz=>f (by simp[z])),hQ (λz=>f (by simp[z]))]
def K9(j:X.calm=b6)(m:C.K=X.K)(o:X.N.Nodup)(h:f_ X es is)(hl:∀i∈is,i<⇑X.N):PG X (.Tuple es O pos) (tG C b6 is):=by
 rintro pins s σ H v u Q I rv ⟨c0,c,r,rfl,rfl,q,e,n,b,w⟩;have(t,y):=vG h;show Hh j (yZ o h) t y pins s c.σ c.H v u Q I rv ?_;have(k,z):=r;cases z with
 |tup us =>
  have(a',vs,rfl,f,g):=b.tuple e;rw[m]at f;have a:=by
   have d:∀(is:↑Nat) (l:↑_) (st:au) (P:Unit->au->Prop),W (sets is l) st P->⇑l=⇑is:=by
    intro is;induction is with
    |nil=>intro l st P w;cases l with
     |nil=>rfl
     |cons _ _=>show(bf.mp w).elim
    |cons i is A=>intro l st P w;cases l with
     |nil=>show(bf.mp w).elim
     |cons x l =>
      rw[show sets _ _=eX i x >>= λ_=>sets is l from rfl,ag]at w;have(_,_,_,w):=w;rw[k9,k9,A l _ _ w]
   exists d _ _ _ _ w
  show#[a',vs,rfl,f,by rw[<-g.len,a],?_];show xA  (by cases k<;>rfl) q e n (λi hi=>by rw[I.len];show hl i hi) (by cases k<;>show g) w λB p D G J L=>p B rfl D G J L
 |_=>cases is<;>show(bf.mp w).elim
section
variable{X:Cx}{C:Ct}{pins:List (hH×Obj)}{s:i4}{c0 c c1:Cf}
variable{a b d e o tg iter elt:jw}{es ifs:List jw}{m ma mb md me:M (Kd×U)}{ms:M (List (Kd×U))}{ta tb tc:M Bool}{pos p p2 apos Nn:Pos}
def y7{m:M α}{st}{Q}:W (inScope k m) st Q↔W m (kb k cb++st) λa st'=>Q a (st'.drop k):=by
 constructor
 .rintro⟨a,st',e,h⟩;unfold inScope at e;cases q:m (kb k cb++st) with
  |none=>simp_all
  |some r=>have(g,f):=r;rw[q]at e;cases e;show#[a,f,q,h]
 .rintro⟨a,st',e,h⟩;show#[a,_,by unfold inScope;rw[e],h]
abbrev Cf.ext(k:Nat)(c:Cf):Cf:={c with σ:=kb k cb++c.σ,st:=kb k cb++c.st,kid:=λj=>c.kid (j - k)}
abbrev Cf.cut(k:Nat)(c:Cf):Cf:={c with σ:=c.σ.drop k,st:=c.st.drop k,kid:=λj=>c.kid (k+j)}
def iJ(h:(kb k cb++l)[j]?≈bD x):∃i,j=k+i/\l[i]?≈bD x:=by
 by_cases f:j<k
 .rw[qs ⋯]at h;simp_all
 .show#[j - k,⋯,?_];rw[pe ⋯]at h;exists h
def gc:(kb k cb++l)[k+i]?=l[i]?:=by
 rw[pe ⋯];simp
def Bv:(c.ext k).R1 r↔c.R1 r:=by
 constructor
 .rintro⟨j,g,u,h,l,f⟩;have(i,rfl,e):=iJ l;rw[Cf.ext,gc]at f;show#[i,g,u,h,e,f]
 .rintro⟨i,g,u,h,l,f⟩;show#[_,g,u,h,by rw[Cf.ext,gc];show l,by rw[Cf.ext,gc];show f]
def qQ{a}(h:(c.ext k).RD j a):∃i,j=k+i/\c.RD i a:=by
 have(u,r,g,f,l):=h;have(i,rfl,e):=iJ g;rw[Cf.ext,gc]at f;show#[i,rfl,u,r,e,f,?_];have:(c.ext k).kid (k+i)=c.kid i:=by change c.kid _=_;simp
 simp_all
def K_(h:(c.ext k).R r):c.R r:=by
 rcases h with h|⟨j,h⟩
 .show .inl (Bv.mp h)
 .have(i,_,h):=qQ h;show .inr #[i,h]
def Ok.ext(k)(f:Ok C c):Ok C (c.ext k)/\Nx c (c.ext k):=by
 show#[#[f.same,f.O3,f.par,f.io,by simp[Cf.ext,f.len],λj y u e=>?_,λi j k1 k2 u u' r z A l g w x=>?_,#[λj u r l g=>?_,λi j a z1 z2=>?_,λj a z1 z2=>?_]],#[#[λ_ _ h _=>h,λ_ o h=>#[o,h],λa h=>.inl (K_ h),λ_ h=>h,λ_ h=>.inl h]]]
 .have(i,rfl,B):=iJ e;have(v,l,g):=f.sl i y u B;show#[v,by rw[Cf.ext,gc];show l,g]
 .have(n,rfl,D):=iJ l;have(q,rfl,G):=iJ g;rw[Cf.ext,gc]at w x;rw[f.inj n q k1 k2 u u' r z A D G w x]
 .have(i,rfl,e):=iJ l;rw[Cf.ext,gc]at g;have:(c.ext k).kid (k+i)=c.kid i:=by change c.kid (k+i - k)=_;rw[Nat.add_sub_cancel_left]
  rw[this];show f.dd.kd i u r e g
 .have(n,rfl,t):=qQ z1;have(q,rfl,H):=qQ z2;rw[f.dd.dj n q a t H]
 .have(i,rfl,t):=qQ z1;show f.dd.d1 i a t (Bv.mp z2)
def Bw{a}(h:(c.cut k).R1 a):c.R1 a:=by
 have(j,i,u,l,f,g):=h;rw[Cf.cut,KD]at f g;show#[_,i,u,l,f,g]
def qR{a}(h:(c.cut k).RD j a):c.RD (k+j) a:=by
 have(u,r,f,g,i):=h;rw[Cf.cut,KD]at f g;show#[u,r,f,g,i]
def Ok.cut(k)(f:Ok C c):Ok C (c.cut k)/\Nx c (c.cut k):=by
 show#[#[f.same,f.O3,f.par,f.io,by simp[Cf.cut,f.len],λj t u e=>?_,λi j k1 k2 u u' r w x g l n q=>?_,#[λj u r g l=>?_,λi j a z1 z2=>?_,λj a z1 z2=>f.dd.d1 _ a (qR z1) (Bw z2)]],#[#[λ_ _ h _=>h,λ_ o h=>#[o,h],λa h=>.inl (h.elim (λz=>.inl (Bw z)) λ⟨j,z⟩=>.inr #[k+j,qR z]),λ_ h=>h,λ_ h=>.inl h]]]
 .rw[Cf.cut,KD]at e;have(v,g,l):=f.sl _ t u e;show#[v,by rw[Cf.cut,KD];show g,l]
 .rw[Cf.cut,KD]at g l n q;have:=f.inj _ _ k1 k2 u u' r w x g l n q;lia
 .rw[Cf.cut,KD]at g l;show f.dd.kd _ u r g l
 .have:=f.dd.dj _ _ a (qR z1) (qR z2);lia
def ES(h:∀j,j∉ib k->g[j]?=(kb k cb++σ)[j]?)(hl:⇑g=⇑(kb k (cb:Option V)++σ)):∃f,⇑f=k/\g=f++σ:=by
 show#[g.take k,by simp_all,?_];apply ä;intro j;by_cases i:j<k
 .rw[qs ⋯,List.getElem?_take,ř i]
 .rw[h j ⋯,pe ⋯,pe ⋯];simp_all
def y_(e1:c1.σ=c0.σ)(NC:Ok C c1)(n1:Nx c0 c1)(hw:Walk C c1 rs xs J)(h3:W (cm k t tc me rs xs []) c1.st λus st'=>W (pure (Kd.own,U.lst us)) st' (cZ C c0 Q)):
  sr k J (tG C t (ib k)) (OT C tc) (NF C me) Q c0.σ c1.H:=by
 show#[λi m ys H=>∃c f,c.H=H/\c.σ=c0.σ/\Ok C c/\Nx c1 c/\m=⇑xs - i/\i<=⇑xs/\aq C c.S c.H f ys/\⇑f<=c8/\W (cm k t tc me rs (xs.drop i) f) c.st λus st'=>W (pure (Kd.own,U.lst us)) st' (cZ C c0 Q),#[⇑xs,c1,[],rfl,e1,NC,Nx.refl c1,by simp,kj _,rfl,kj _,by assumption],?_];rintro i m ys H ⟨c,f,rfl,G,n,q,rfl,hi,h,y,w⟩;show#[by rw[<-h.len];lia,?_];have g:nB rs c1 c:=λj u _=>by rw[G,e1]
 by_cases Oa:i<⇑xs
 .right
  rw[UI Oa]at w;rw[show cm k t tc me rs (xs[i]::xs.drop (i+1)) f=az rs >>= λ_=>inScope k (d8 t (ib k) xs[i] >>= λ_=>tc >>= λb=>if b=b6 then(me >>= λr=>lift r >>= λu=>pure (bD u)) else pure cb) >>= λr=>match r with|some u=>if ⇑f<c8 then cm k t tc me rs (xs.drop (i+1)) (f++[u]) else M.fail|none=>cm k t tc me rs (xs.drop (i+1)) f from rfl,ag,bT]at w;have(Ro,w):=w;have(I,_):=hw c n q g Ro;have(V4,Zn,Xe):=I i xs[i] ⋯;show#[Zn,λPc H'=>∃c f,c.H=H'/\c.σ=c0.σ/\Ok C c/\Nx c1 c/\aq C c.S c.H f Pc/\⇑f<=c8/\W (cm k t tc me rs (xs.drop (i+1)) f) c.st λus st'=>W (pure (Kd.own,U.lst us)) st' (cZ C c0 Q),λPc H' ⟨c',Pf,z1,z2,z3,z4,z5,z6,z7⟩=>#[⇑xs - (i+1),⋯,c',Pf,z1,z2,z3,z4,rfl,Oa,z5,z6,z7],λx H' hy=>?_];have(c2,rfl,e4,e5,N0,n2,rt):=Xe x H' hy;rw[ag,y7,ag]at w;have(Xf,nx):=N0.ext k;have L:aM C (c2.ext k) (c2.ext k) xs[i].1 xs[i].2 x:=by
   rcases V4 with z|z
   .rw[z]at rt ⊢;show rt
   .rw[z]at rt ⊢;show rt
  have eσ:(c2.ext k).σ=kb k cb++c0.σ:=by rw[Cf.ext];change kb k cb++c2.σ=_;rw[e4,G]
  show#[c2.ext k,c2.ext k,xs[i],eσ,rfl,Xf,Xf,Nx.refl _,L,?_];have N:(c2.ext k).st=kb k cb++c.st:=by rw[Cf.ext];change kb k cb++c2.st=_;rw[e5]
  rw[N];show w.mono λ_ N7 w3 c3 e6 PY n3 V5 UE=>?_;subst e6;rw[eσ]at V5 UE;have(O,T,Y):=ES V5 UE;show#[O,T,Y,?_];have A:Nx c c3:=(n2.trans nx).trans n3;rw[ag]at w3;show#[c3,rfl,rfl,PY,w3.mono λb US l D e7 e8 Sx n4=>?_];subst e8;cases b with
  |false =>
   rw[Ś ke]at l ⊢;rw[ao]at l;have(Zo,nk):=Sx.cut k;have nn:Nx c (D.cut k):=(A.trans n4).trans nk;show#[D.cut k,f,rfl,?_,Zo,q.trans nn,h.mv (n.mv nn),y,l];change D.σ.drop k=_;rw[e7,Y,Wb T]
  |true =>
   rw[ř rfl]at l ⊢;rw[ag]at l;show#[D,e7,rfl,Sx,l.mono λr QT w5 c5 v e9 ab ac n5 al=>?_];subst ab;rw[ag]at w5;have(S',st',u,sS,am,n6,Zp,B,_,_):=f9 Sx ac n5 al.w w5;rw[ao]at B
   dsimp only at B
   split at B
   .rename_i hz;have(Zo,nk):=am.cut k;have nn:Nx c (Cf.cut k {c5 with S:=S',st:=st' }):=((A.trans n4).trans n6).trans nk;show#[Cf.cut k {c5 with S:=S',st:=st' },f++[u],rfl,?_,Zo,q.trans nn,(h.mv (n.mv nn)).snoc Zp,by rw[mx];show hz,B];change c5.σ.drop k=_;rw[e9,Y,Wb T]
   .show(bf.mp B).elim
 .left
  have PJ:i=⇑xs:=⋯
  subst PJ;rw[ë,show cm k t tc me rs [] f=az rs >>= λ_=>pure f from rfl,ag,bT,ao,ao]at w;have(_,I):=hw c n q g w.1;show#[I _ (hY _),λp hp=>cZ.list w.2 G n (n1.trans q) h p hp]
def pA(j:Ok C c0)
  (h:W (ms >>= λrs=>az rs >>= λ_=>M.NV (PX l rs) >>= λxs=>cm k t tc me rs xs [] >>= λus=>pure (Kd.own,U.lst us)) c0.st (cZ C c0 Q)) :
  sv k (Rn C l ms) (tG C t (ib k)) (OT C tc) (NF C me) c0.σ c0.H Q:=by
 rw[ag]at h;show#[c0,rfl,rfl,j,?_];rw[ag];show h.mono λrs st1 f=>?_;rw[ag,bT]at f ⊢;show#[f.1,?_];have g:=f.2;rw[ag]at g ⊢;show g.mono λxs st2 i=>?_;rw[ao];intro c1 J n q r u w v;rw[ag]at i;subst q;show y_ n r u v i
def Bx(S:de X N own scope)(f:X.calm=b6)(hi:PI X tg iter (Rn C g ms))
  (i:∀D s H ex,PG (Ou X N scope D s H ex) tg (tG C t (ib ⇑own))) (j:∀D s H ex,RH (Ou X N scope D s H ex) ifs (OT C tc)) (k:∀D s H ex,PE (Ou X N scope D s H ex) elt (NF C me))
  (hs:∀x,Cd iter X.env x=pure x) :
  PE X (.ListComp elt [⟨tg,iter,ifs,0⟩] scope pos) (NF C (ms >>= λrs=>az rs >>= λ_=>M.NV (PX g rs) >>= λxs=>cm ⇑own t tc me rs xs [] >>= λus=>pure (.own,.lst us))):=by
 show PE.weak (D3 S f hi i j k hs) ?_;rintro σ H Q ⟨c0,rfl,rfl,l,h⟩;show pA l h
end
section
variable{a b d e o tg iter elt:jw}{es ifs:List jw}{m ma mb md me:M (Kd×U)}{ms:M (List (Kd×U))}{ta tb tc:M Bool}{pos p p2 apos Nn:Pos}{st:ve}{rest body:List ve}{f g mm:M Fl}{ns Xg:Nat->Bool}
def IF(C:Ct)(c:Cf):Kd->U->V->Prop
 |.own,u,v=>∃r,v=.ref r/\C.H₀ r=cb/\¬c.S r/\¬c.R r/\eE C c.S c.H r u
 |.loc,u,v=>Rep C c.S c.H u v
 |.any,u,v=>Rep C (PS C c.S) c.H u v
 |_,_,_=>False
def M0(C:Ct)(Q:VK)(c:Cf):Kd->U->Prop
 |.io,u=>C.xw u c.H
 |k,u=>∀v,IF C c k u v->Q v c.H
abbrev Fin(C:Ct)(D:Ends)(f:Fl)(c:Cf):Prop:=match f with
 |.nx=>D.nx c.σ c.H
 |.bk=>D.bk c.σ c.H
 |.ct=>D.ct c.σ c.H
 |.rt k u=>M0 C D.rt c k u
abbrev Kept(ns:Nat->Bool)(c h:Cf):Prop:=(∀j,ns j=b6->h.σ[j]?=c.σ[j]?)/\⇑h.σ=⇑c.σ
def Kept.refl:Kept ns c c:=#[λ_ _=>rfl,rfl]
def Kept.trans(h:Kept ns c i)(h':Kept ns i k):Kept ns c k:=#[λj z=>(h'.1 j z).trans (h.1 j z),h'.2.trans h.2]
def Kept.le(i:∀j,Xg j=b6->ns j=b6)(h:Kept ns c k):Kept Xg c k:=#[λj z=>h.1 j (i j z),h.2]
def Kept.of(h:i.σ=c.σ):Kept ns c i:=#[λj z=>by rw[h],by rw[h]]
abbrev ja(C:Ct)(c0:Cf)(ns:Nat->Bool)(D:Ends)(f:Fl)(st':au):Prop:=∀c,c.st=st'->Ok C c->Ns c0 c->Kept ns c0 c->Fin C D f c
inductive Oh(C:Ct)(ns:Nat->Bool)(m:M Fl)(D:Ends)(σ:L2.St)(H:Hp):Prop
 |mk:∀c0:Cf,c0.σ=σ->c0.H=H->Ok C c0->W m c0.st (ja C c0 ns D)->Oh C ns m D σ H
def By(c:Ok C c1)(n:Ns c0 c1)(k:Kept ns c0 c1)(h:W mm c1.st (ja C c0 ns D)):Oh C ns mm D c1.σ c1.H :=
 #[c1,rfl,rfl,c,h.mono λf st i c2 e j l k2=>i c2 e j (n.trans l) (k.trans k2)]
def PS.weak(h:L2.PS X st t)(i:∀D σ H,t' D σ H->t D σ H):L2.PS X st t':=λpins s σ H D I q=>h pins s σ H D I (i D σ H q)
def OO.weak(h:OO X rest t)(i:∀D σ H,t' D σ H->t D σ H):OO X rest t':=λpins s σ H D I q=>h pins s σ H D I (i D σ H q)
def qT(i:∀j,Xg j=b6->ns j=b6)(h:Oh C Xg mm D σ H):Oh C ns mm D σ H :=
 let ⟨c0,c,k,l,w⟩:=h;⟨c0,c,k,l,w.mono λf st n c2 e q r k2=>n c2 e q r (k2.le i)⟩
def La:OO X [] (Oh C ns (pure .nx)):=by
 show OO.weak iD ?_;rintro D σ H ⟨c0,rfl,rfl,c,h⟩;rw[ao]at h;show h c0 rfl c (Ns.refl c0) Kept.refl
abbrev ET(m:M Fl)(f:Fl):M Fl:=match f with
 |.nx=>m
 |f=>pure f
def IG(j:L2.PS X st (Oh C ns f))(l:OO X rest (Oh C ns g)):OO X (st::rest) (Oh C ns (f >>= ET g)):=by
 show OO.weak (dw j l) ?_;rintro D σ H ⟨c0,rfl,rfl,n,h⟩;rw[ag]at h;show#[c0,rfl,rfl,n,h.mono λq st1 w c1 e c i k1=>?_];subst e;cases q with
 |nx=>show By c i k1 w
 |bk=>rw[show ET g .bk=pure .bk from rfl,ao]at w;show w c1 rfl c i k1
 |ct=>rw[show ET g .ct=pure .ct from rfl,ao]at w;show w c1 rfl c i k1
 |rt k u=>rw[show ET g _=pure _ from rfl,ao]at w;show w c1 rfl c i k1
def Lb(i:PE X a (NF C ma))(hs:Qv a cb pos.line X.env=pure cK):L2.PS X (.Expr a pos) (Oh C ns (ma >>= λ_=>pure .nx)):=by
 show PS.weak (iE i hs) ?_;rintro D σ H ⟨c0,rfl,rfl,j,h⟩;show aU j h λx c v t w=>?_;rw[ao]at w;have:=w c rfl t.ok t.nx (Kept.of t.hσ);rw[<-t.hσ];show this
def sW(ok:Ok C c0)(t:RN C c0 c x v)(w:W (retS x) c.st (ja C c0 ns D)):D.rt v c.H:=by
 have(k,u):=x;have(G,l,n,r):=t;cases k with
 |own =>
  rw[show retS (.own,u)=pure (.rt .own u) from rfl,ao]at w;have(B,e,h1,h2,h3,h4):=r;show w c rfl l n (Kept.of G) v #[B,e,(ok.jP h1).1,h2,h3,h4]
 |loc =>
  rw[show retS (.loc,u)=pure (.rt .loc u) from rfl,ao]at w;show w c rfl l n (Kept.of G) v r
 |any =>
  rw[show retS (.any,u)=if NT u=b6 then pure (.rt .loc u) else pure (.rt .any u) from rfl]at w;split at w
  .rw[ao]at w;show w c rfl l n (Kept.of G) v (Rep.NT ⋯ r)
  .rw[ao]at w;show w c rfl l n (Kept.of G) v r
 |bor j =>
  have(fl,st',e,w):=w;rw[show retS (.bor j,u) c.st=match c.st[j]? with|some (bD (.own,u))=>bD _|_=>cb from rfl]at e;split at e
  .rename_i u' J;cases e;have Sw:j<⇑c.st:=(eH.mp J).1;have A:∀(i:Nat) k u',(c.st.set j cb)[i]?≈bD (k,u')->i≠j/\c.st[i]?≈bD (k,u'):=λi k u' e=>by
    by_cases Q:i=j
    .simp_all
    .rw[hQ (mh Q)]at e;show#[Q,e]
   have(v',s,B,er,q1,q2,q3,q4):=l.sl j _ _ J;have L:c.σ[j]?≈bD v:=r.2;rw[L]at s;cases s;subst er;have T:∀a,({c with st:=c.st.set j cb}:Cf).R1 a->c.R1 a:=λa ⟨i,k,h,hk,s,y⟩=>#[i,k,h,hk,(A i k h s).2,y]
   have hR:∀a,({c with st:=c.st.set j cb}:Cf).R a->c.R a:=λa z=>z.elim (λz=>.inl (T a z)) λ⟨i,h,N,s,y,I⟩=>.inr #[i,h,N,(A i .A' h s).2,y,I];have Sv:QJ C {c with st:=c.st.set j cb}:=l.dd.of rfl (λi h e=>#[(A i .A' h e).2,rfl]) (λa z=>.inl (T a z)) (.up λ_ z=>z) λi a z=>#[(l.root (.inr #[i,z])).1,λo q=>q]
   have O:Ok C {c with st:=c.st.set j cb}:=#[l.same,l.O3,l.par,l.io,by simp[l.len],λi k h e=>l.sl i k h (A i k h e).2,λi Y k k' u1 h r hk OP s y I e4=>l.inj i Y k k' u1 h r hk OP (A i k u1 s).2 (A Y k' h y).2 I e4,Sv]
   have nn:Ns c0 {c with st:=c.st.set j cb}:=#[n.keep,n.there,λa z=>n.roots a (hR a z),n.sub,n.new]
   show w _ rfl O nn (Kept.of G) (.ref B) #[B,rfl,q3,q1,λz=>?_,q4]
   .rcases z with⟨i,k,h,hk,s,y⟩|⟨i,h,N,s,y,I⟩
    .have(ne,OD):=A i k h s;show ne (l.inj i j k .own h _ B hk rfl OD J y L)
    .show l.dd.d1 i B #[h,N,(A i .A' h s).2,y,I] #[j,.own,_,rfl,J,L]
  .cases e
 |_=>show r.elim
def Lc(j:PE X a (NF C ma)):L2.PS X (.Return (bD a) pos) (Oh C ns (ma >>= retS)):=by
 show PS.weak (He j) ?_;rintro D σ H ⟨c0,rfl,rfl,i,h⟩;show aU i h λx c v t w=>sW i t w
end
def nF(e:∀j,ns j=b6->j≠i)(f:Ok C c0)(t:RN C c0 c r v)(hi:i<⇑c.σ)(w:W (eX i r >>= λ_=>(pure .nx:M Fl)) c.st (ja C c0 ns D)):D.nx (c0.σ.set i (bD v)) c.H:=by
 rw[ag]at w;have(b,a,g,h,k,q):=qP  f t.ok t.nx hi t.rx w;rw[ao]at q;have z:=q b rfl h k #[λj l=>by rw[a,t.hσ,hQ (mh (e j l))],by rw[a,t.hσ];simp];have d:D.nx _ b.H:=z;rw[a,g,t.hσ]at d;show d
def Gv(e:∀j,ns j=b6->j≠i)(f:X.N.Nodup)(hi:X.N[i]?≈x)(g:Loc X.env.scope x)(k:X.fn x=b6\/X.env.scope.names.lookup x≈.local)(l:PE X a (NF C m))
  (hs:Qv a (bD (.Name x b)) pos.line X.env=pure cK):L2.PS X (.Assign [.Name x b] a pos) (Oh C ns (m >>= λr=>eX i r >>= λ_=>pure .nx)):=by
 rintro pins s σ H D I ⟨c0,rfl,rfl,d,h⟩;have n:i<⇑c0.σ:=by rw[I.len];show(eH.mp hi).1
 show mO f hi g l hs k pins s _ c0.H D I (aU d h λr c v t w=>nF e d t (by rw[t.hσ];lia) w)
def IH(e:∀j,ns j=b6->j≠i)(S:de X N own scope)(f:X.calm=b6)(g:X.N.Nodup)(b:X.N[i]?≈y)(k:X.env.scope.names.lookup y≈.local)
  (hi:PI X tg a (Rn C l ms)) (m:∀D s H ex,PG (Ou X N scope D s H ex) tg (tG C t (ib ⇑own))) (o:∀D s H ex,RH (Ou X N scope D s H ex) ifs (OT C p)) (q:∀D s H ex,PE (Ou X N scope D s H ex) elt (NF C u))
  (z:Qv (.ListComp elt [⟨tg,a,ifs,0⟩] scope pos) (bD (.Name y A)) B.line X.env=pure b6) (hs:∀x,Cd a X.env x=pure x) :
  L2.PS X (.Assign [.Name y A] (.ListComp elt [⟨tg,a,ifs,0⟩] scope pos) B)
   (Oh C ns ((ms >>= λrs=>az rs >>= λ_=>M.NV (PX l rs) >>= λxs=>cm ⇑own t p u rs xs [] >>= λus=>pure (.own,.lst us)) >>= λr=>eX i r >>= λ_=>pure .nx)):=by
 rintro pins s σ H D I ⟨c0,rfl,rfl,d,h⟩;have O:i<⇑c0.σ:=by rw[I.len];show(eH.mp b).1
 show D4 S f g b k hi m o q z hs pins s _ c0.H D I ?_;rw[ag]at h;show pA d (h.mono λr st1 w c v G J L n rt=>?_);subst J;show nF e d #[G,L,n,rt] ⋯ w
def II(f:∀j,ns j=b6->j∉is)(g:PE X a (NF C i))(k:PG X tg (tG C b6 is))(hs:V3 [tg] a pos.line X.env=pure cK)(l:Ya [tg] a X.env=pure cb)(m:(Se [tg] X.env).map (·.2)=[Vj tg X.env]):
  L2.PS X (.Assign [tg] a pos) (Oh C ns (i >>= λr=>d8 b6 is r >>= λ_=>pure .nx)):=by
 show PS.weak (uB g k hs l m) ?_;rintro D σ H ⟨c0,rfl,rfl,b,h⟩;show aU b h λr c v t w=>?_;rw[ag]at w;show#[c0,c,r,t.hσ,rfl,b,t.ok,t.nx,t.rx,w.mono λ_ st1 d n e o p q hl=>?_];subst e;rw[ao]at d;show d n rfl o p #[λj s=>by rw[q j (f j s),t.hσ],by rw[hl,t.hσ]]
def Le(d:PT X a (OT C i))(j:OO X ca (Oh C ns f))(k:OO X l (Oh C ns g)):L2.PS X (.If a ca l pos) (Oh C ns (i >>= λp=>if p=b6 then f else g)):=by
 show PS.weak (Ge d j k) ?_;rintro D σ H ⟨c0,rfl,rfl,m,h⟩;show gZ m h λp c b o n w=>?_;have e:=b.symm;rw[e];cases p with
 |_=>show By o n (Kept.of b) w
def Lf(y:YY (gs X.prog X.w) X.A X.env X.xe)(B:PT X a (OT C o))(G:OO X body (Oh C ns f)):L2.PS X (.While a body [] pos) (Oh C ns (ny o f n)):=by
 show PS.weak (Am y B G) ?_;rintro D σ H ⟨c0,rfl,rfl,I,h⟩;show#[λm q H'=>∃c,c.H=H'/\c.σ=q/\Ok C c/\Ns c0 c/\Kept ns c0 c/\W (ny o f m) c.st _,#[n,c0,rfl,rfl,I,Ns.refl c0,Kept.refl,h],?_];rintro m q H' ⟨c,rfl,rfl,J,r,s,w⟩;cases m with
 |zero=>show(bf.mp w).elim
 |succ m =>
  show gZ J w λp c2 t u v b=>?_;have k2:Kept ns c c2:=Kept.of t;rw[<-t];cases p with
  |false =>
   rw[Ś ke]at b ⊢;rw[ao]at b;show b c2 rfl u (r.trans v) (s.trans k2)
  |true =>
   rw[ř rfl]at b ⊢;show#[λd x=>∃c,c.H=x/\c.σ=d/\Ok C c/\Ns c0 c/\Kept ns c0 c/\W _ c.st _,λd x z=>#[m,TB m,z],?_];rw[ag]at b;show#[c2,rfl,rfl,u,b.mono λL O g i e j N k3=>?_];subst e;have k:=(r.trans v).trans N;have l:=(s.trans k2).trans k3;cases L with
   |nx=>show#[i,rfl,rfl,j,k,l,g]
   |ct=>show#[i,rfl,rfl,j,k,l,g]
   |_=>rw[ao]at g;show g i rfl j k l
def Lg(hp:YY (gs X.prog X.w) X.A X.env X.xe)(hc:X.calm=b6)(hi:PI X tg a (Rn C ik ms))(hg:PG X tg (tG C t is))(hb:OO X body (Oh C (Pd r) f))(hs:∀x,Cd a X.env x=pure x)
  (OB:∀j,ns j=b6->j∉is/\Pd r j=b6) :
  L2.PS X (.For tg a body [] pos) (Oh C ns (ms >>= λrs=>az rs >>= λ_=>M.NV (PX ik rs) >>= λxs=>if xp rs is r=b6 then forM t is f rs xs else M.fail)):=by
 show PS.weak (Hm hp hc hi hg hb hs) ?_;rintro D σ H ⟨c0,rfl,rfl,ok,h⟩;rw[ag]at h;show#[c0,rfl,rfl,ok,?_];rw[ag];show h.mono λrs st1 s=>?_;rw[ag,bT]at s ⊢;show#[s.1,?_];have h2:=s.2;rw[ag]at h2 ⊢;show h2.mono λxs st2 h3=>?_;rw[ao];intro c1 J e1 e2 NC n1 Nz v;subst e2
 dsimp only at Nz v
 split at h3
 .rename_i Uj;have Zs:∀j u,(Kd.bor j,u)∈rs->j∉is/\Pd r j=b6:=λj u n=>by
   have:=lx.mp Uj _ n;exists this
  show#[λi m d H'=>∃c,c.H=H'/\c.σ=d/\Ok C c/\Ns c1 c/\Kept ns c0 c/\nB rs c1 c/\m=⇑xs - i/\i<=⇑xs/\W (forM t is f rs (xs.drop i)) c.st (ja C c0 ns D),
   #[⇑xs,c1,rfl,e1,NC,Ns.refl c1,Kept.of e1,λ_ _ _=>rfl,by simp,kj _,by assumption],?_]
  rintro i m d H' ⟨c,rfl,rfl,y,o,kc,B,rfl,PJ,w⟩;by_cases Oa:i<⇑xs
  .right
   rw[UI Oa,show forM t is f rs (xs[i]::xs.drop (i+1))=az rs >>= λ_=>d8 t is xs[i] >>= λ_=>f >>= λf'=>match f' with|.nx=>forM t is f rs (xs.drop (i+1))|.ct=>forM t is f rs (xs.drop (i+1))|.bk=>pure .nx|.rt k u=>pure (.rt k u) from rfl,ag,bT]at w;have(Ro,w):=w;have(G,_):=v c y o B Ro;have(V4,Zn,Xe):=G i xs[i] ⋯;show#[Zn,λd H'=>∃c,c.H=H'/\c.σ=d/\Ok C c/\Ns c1 c/\Kept ns c0 c/\nB rs c1 c/\W _ c.st (ja C c0 ns D),λd H' ⟨c',z1,z2,z3,z4,z5,z6,z7⟩=>#[⇑xs - (i+1),⋯,c',z1,z2,z3,z4,z5,z6,rfl,Oa,z7],λx H' hy=>?_];have(c2,rfl,p,e5,N0,n2,rt):=Xe x H' hy;rw[ag]at w;have I:aM C c2 c2 xs[i].1 xs[i].2 x:=by
    rcases V4 with z|z
    .rw[z]at rt ⊢;show rt
    .rw[z]at rt ⊢;show rt
   show#[c2,c2,xs[i],p,rfl,N0,N0,Nx.refl c2,I,?_];rw[e5];show w.mono λ_ N7 w3 c3 e6 PY n3 g UE=>?_;subst e6;rw[ag]at w3;show#[c3,rfl,rfl,PY,w3.mono λfl US q b e L n4 N=>?_];subst e;have O:Ns c1 b:=((o.trans n2.toNs).trans n3.toNs).trans n4;have Q:Kept ns c0 b:=by
    show kc.trans #[λj hj=>?_,by rw[N.2,UE,p]];have(T,Y):=OB j hj;rw[N.1 j Y,g j T,p]
   have l:nB rs c1 b:=λj u n=>by
    have(T,Y):=Zs j u n;rw[N.1 j Y,g j T,p];show B j u n
   cases fl with
   |nx=>show#[b,rfl,rfl,L,O,Q,l,q]
   |ct=>show#[b,rfl,rfl,L,O,Q,l,q]
   |_=>rw[ao]at q;show q b rfl L (n1.toNs.trans O) Q
  .left
   have ab:i=⇑xs:=⋯
   subst ab;rw[ë,show forM t is f rs []=az rs >>= λ_=>pure .nx from rfl,ag,bT,ao]at w;have(_,G):=v c y o B w.1;show#[G _ (hY _),w.2 c rfl y (n1.toNs.trans o) kc]
 .show(bf.mp h3).elim
def Ok.mod(d:Ok C c)(n:Ns c0 c)(hk:k.root=b6)(hi:c.st[i]?≈bD (k,u))(B:c.σ[i]?≈bD (.ref r))(N3:∀a,a≠r->H' a=c.H a)(T:∃o,H' r≈o)
  (new:Mv c.S c.H c.S H'->eE C c.S H' r u'):Ok C {c with H:=H',st:=c.st.set i (bD (k,u'))}/\Ns c0 {c with H:=H',st:=c.st.set i (bD (k,u'))}:=by
 have Y:c.R1 r:=#[i,k,u,hk,hi,B]
 have hR:c.R r:=.inl Y;have(G,q2,q3,o,ho,ab):=d.root hR;have OR:i<⇑c.st:=(eH.mp hi).1;have m:∀{a:hH} {b:HO},a≠r->c.H a≈b->H' a≈b:=λne e=>by rw[N3 _ ne];show e
 have D:Mv c.S c.H c.S H':=#[λ_ z=>z,λa b e t=>m (λz=>by simp_all) e,λa b z e=>m (λp=>G (p▸z)) e]
 have Si:Mv (PS C c.S) c.H (PS C c.S) H':=#[λ_ z=>z,D.U3,λa b z e=>m (λp=>by subst p;show z.elim q2 G) e]
 have I:∀(j:Nat) k' w,(c.st.set i (bD (k,u')))[j]?≈bD (k',w)->j≠i->c.st[j]?≈bD (k',w):=λj k' w e ne=>by rw[hQ (mh ne)]at e;show e
 have f:∀(j:Nat) k' w,k'.root=b6->(c.st.set i (bD (k,u')))[j]?≈bD (k',w)->∃J,c.st[j]?≈bD (k',J):=λj k' w _ e=>by
  by_cases q:j=i
  .simp_all
  .show#[w,I j k' w e q]
 have b1:∀a,({c with H:=H',st:=c.st.set i (bD (k,u'))}:Cf).R1 a->c.R1 a:=λa N1=>by
  have(j,k',w,g,h,l):=N1;have(J,L):=f j k' w g h;show#[j,k',J,g,L,l]
 have dD:∀(j:Nat) (w:U),(c.st.set i (bD (k,u')))[j]?≈bD (.A',w)->c.st[j]?≈bD (.A',w):=λj w e=>by
  by_cases q:j=i
  .subst q;rw[fx OR]at e;cases e;cases hk
  .show I j .A' w e q
 have Sv:QJ C {c with H:=H',st:=c.st.set i (bD (k,u'))}:=d.dd.of rfl (λj w e=>#[dD j w e,rfl]) (λa z=>.inl (b1 a z)) D λj a z=>#[(d.root (.inr #[j,z])).1,λb e=>m (λp=>d.dd.d1 j a z (p▸Y)) e]
 show#[#[λa b e z=>?_,λa z=>?_,d.par,λa z=>?_,by simp[d.len],λj k' w e=>?_,λj1 j2 k1 k2 w1 w2 s g x h l N e4=>?_,Sv],n.trans #[λa b e z=>m (λp=>z (p▸hR)) e,λa b e=>?_,λa z=>?_,λ_ z=>z,λ_ z=>.inl z]]
 .have g:=d.same a b e z;show m (λp=>?_) g;simp_all
 .have(g,b,x):=d.O3 a z;show#[g,b,m (λp=>G (p▸z)) x]
 .have(g,b,x):=d.io a z;show#[g,?_];by_cases A:a=r
  .subst A;show T
  .show#[b,m A x]
 .by_cases q:j=i
  .subst q;rw[fx OR]at e;cases e;have(v,h,l):=d.sl j _ _ hi;rw[B]at h;cases h;show#[.ref r,B,?_];have nr:=new D;cases k with
   |own=>have(s,y,z1,z2,O,_):=l;cases y;show#[r,rfl,z1,z2,O,nr]
   |io=>have(s,y,z1,z2,O,_):=l;cases y;show#[r,rfl,z1,z2,O,nr]
   |_=>cases hk
  .have e0:=I j k' w e q;have(v,h,l):=d.sl j k' w e0;show#[v,h,l.mv D Si λOP s y=>?_];have(W',Pp,z1,_):=l.rt OP;rw[y]at Pp;cases Pp;show#[z1,λb e=>m (λz=>?_) e];subst z;show q (d.inj j i k' k w u s OP hk e0 hi (by rw[h,y]) B)
 .have(Xh,L):=f j1 k1 w1 g h;have(Q,a2):=f j2 k2 w2 x l;show d.inj j1 j2 k1 k2 Xh Q s g x L a2 N e4
 .by_cases A:a=r
  .subst A;show T
  .show#[b,m A e]
 .rcases z with z|⟨j,w,s,h,l,N⟩
  .show .inl (.inl (b1 a z))
  .show .inl (.inr #[j,w,s,dD j w h,l,N])
inductive MdS(i:Nat)(f:U->Option U)(st:au)(Q:Unit->au->Prop):Prop
 |mk:∀k u u',k.root=b6->st[i]?≈bD (k,u)->f u≈u'->Q () (st.set i (bD (k,u')))->MdS i f st Q
def iK{f}{st}(h:W (modS i f) st Q):MdS i f st Q:=by
 have(_,st',e,q):=h;unfold modS at e;split at e
 .rename_i k u hs;split at e
  .rename_i hk;cases a:f u with
   |none=>simp_all
   |some u'=>rw[a]at e;cases e;show#[k,u,u',hk,hs,a,q]
  .cases e
 .cases e
inductive GtS(i:Nat)(st:au)(Q:Kd×U->au->Prop):Prop
 |mk:∀k u,k≠.A'->st[i]?≈bD (k,u)->Q (if k.root=b6 then .bor i else k,u) st->GtS i st Q
def eR{st}(h:W (dG i) st Q):GtS i st Q:=by
 have(r,st',e,q):=h;unfold dG at e;split at e
 .cases e
 .rename_i k u a hs;cases e;show#[k,u,λz=>a z,hs,q]
 .cases e
def Lh(L:C.K=X.K)(O:X.N[i]?≈x)(Q:Ow X.env.scope x)(T:(x==("__debug__":Str))=cK)(Y:(x==("__classdict__":Str))=cK)(ha:PE X a (NF C ma))
  (OH:((vl g (i0 [a] X.env)).all (λx=>!x.1)&&(Ut g (PK [] X.env)).all (λx=>x.1.isSome)
   && df ([a].length+⇑([]:↑QF)+(if ([]:↑QF).isEmpty then 0 else 1)<30))=b6)
  (NK:(b.endLine==g.line)=b6) (n:i0 [a] X.env=[(cK,p8 a X.env)]) :
  L2.PS X (.Expr (.Call (.Attribute (.Name x px) "append" b) [a] [] g) pos) (Oh C ns (dG i >>= λx=>W9 x.2 >>= λ_=>ma >>= λr=>lift r >>= λu=>modS i (Eo u) >>= λ_=>pure .nx)):=by
 show PS.weak (iE (o_ F.plainAttrs_list F.slot_list_append F.type_list_append iF (a9 O Q T Y) (bA ha cB n) rfl OH NK n rfl)) ?_;rintro D σ H ⟨c0,rfl,rfl,f,h⟩;rw[ag]at h;have(k0,u0,Sy,o,h):=eR h;have(p,l,m):=f.sl i k0 u0 o;show#[p,l,?_];cases u0 with
 |lst Zv =>
  have Zw:aM C c0 c0 (if k0.root=b6 then .bor i else k0) (.lst Zv) p:=by
   by_cases hk:k0.root=b6
   .rw[ř hk];show#[#[k0,hk,o],l]
   .cases k0 with
    |loc=>show m
    |any=>show m
    |bor j=>show m.elim
    |A'=>show(Sy rfl).elim
    |_=>show absurd rfl hk
  have(s,Xb,ea,SV,_):=Zw.list f;show#[by rw[ea];show .inl #[rfl,Xb,L▸SV],?_];show aU f h λr c v t w=>?_;rw[ag]at w;have(S',st',u,sS,y,n1,d,A,_,_):=f9 f t.ok t.nx t.rx.w w;rw[ag]at A;have(k,u1,u2,hk,hs,e,q):=iK A;have B:c.σ[i]?≈bD (.ref s):=by rw[t.hσ,l,ea]
  cases u1 with
  |lst ys =>
   erw[Eo]at e;split at e
   .rename_i hz;cases e;have(v',e1,e2):=y.sl i k (.lst ys) hs;have G:=e1;rw[B]at G;cases G;have(r',er,_,_,_,ws,hw,I):=e2.rt hk;cases er;have U':=hw;show#[s,ws,v,ea,rfl,U',by rw[<-I.len];show hz,?_];rw[ao]at q;have(N0,n2):=Ok.mod   (u':=.lst (ys++[u])) y n1.toNs hk hs B (λa ne=>ai ne) ⟨_,aj⟩ λJ=>#[ws++[v],aj,(I.mv J).snoc (d.mv J)]
    have z:=q _ rfl N0 n2 (Kept.of t.hσ);rw[<-t.hσ];show z
   .cases e
  |_=>cases e
 |_=>rw[ag]at h;show(bf.mp h).elim
def Li(s:C.K=X.K)(O:X.N[i]?≈x)(Q:Ow X.env.scope x)(T:(x==("__debug__":Str))=cK)(Y:(x==("__classdict__":Str))=cK)(ha:PE X a (NF C ma))
  (OH:((vl f (i0 [a] X.env)).all (λx=>!x.1)&&(Ut f (PK [] X.env)).all (λx=>x.1.isSome)
   && df ([a].length+⇑([]:↑QF)+(if ([]:↑QF).isEmpty then 0 else 1)<30))=b6)
  (NK:(e.endLine==f.line)=b6) (u:i0 [a] X.env=[(cK,p8 a X.env)]) :
  L2.PS X (.Expr (.Call (.Attribute (.Name x px) "extend" e) [a] [] f) pos) (Oh C ns (dG i >>= λx=>W9 x.2 >>= λ_=>ma >>= λr=>modS i (qM r) >>= λ_=>pure .nx)):=by
 show PS.weak (iE (o_ F.plainAttrs_list F.slot_list_extend F.type_list_extend vf (a9 O Q T Y) (bA ha cB u) rfl OH NK u rfl)) ?_;rintro D σ H ⟨c0,rfl,rfl,g,h⟩;rw[ag]at h;have(k0,u0,Sy,y,h):=eR h;have(A,l,m):=g.sl i k0 u0 y;show#[A,l,?_];cases u0 with
 |lst Zv =>
  have Zw:aM C c0 c0 (if k0.root=b6 then .bor i else k0) (.lst Zv) A:=by
   by_cases hk:k0.root=b6
   .rw[ř hk];show#[#[k0,hk,y],l]
   .cases k0 with
    |loc=>show m
    |any=>show m
    |bor j=>show m.elim
    |A'=>show(Sy rfl).elim
    |_=>show absurd rfl hk
  have(B,Xb,ea,SV,_):=Zw.list g;show#[by rw[ea];show .inl #[rfl,Xb,s▸SV],?_];show aU g h λr c v t w=>?_;rw[ag]at w;have(k,n,u2,hk,hs,d,q):=iK w;have G:c.σ[i]?≈bD (.ref B):=by rw[t.hσ,l,ea]
  have(rk,ru):=r;have key:∃ys zs b vs,n=.lst ys/\v=.ref b/\(N5 C.K c.H b vs\/Oc C.K c.H b vs)/\aq C c.S c.H zs vs/\⇑ys+⇑zs<=c8/\u2=.lst (ys++zs):=by
   cases ru with
   |lst zs =>
    cases n with
    |lst ys =>
     erw[qM]at d;split at d
     .rename_i hz;cases d;have(b,vs,ev,o,p):=t.rx.list t.ok;show#[_,_,b,vs,rfl,ev,.inl o,gW hz.2 p,hz.1,rfl]
     .cases d
    |_=>simp[qM]at d
   |tup zs =>
    cases n with
    |lst ys =>
     erw[qM]at d;split at d
     .rename_i hz;cases d;have(b,vs,ev,o,p):=t.rx.tuple t.ok;show#[_,_,b,vs,rfl,ev,.inr o,gW hz.2 p,hz.1,rfl]
     .cases d
    |_=>simp[qM]at d
   |_=>simp[qM]at d
  have(ys,zs,b,vs,rfl,rfl,hB,hz,hl,rfl):=key;have(v',I,e2):=t.ok.sl i k (.lst ys) hs;rw[G]at I;cases I;have(r',er,_,_,_,ws,hw,J):=e2.rt hk;cases er;show#[B,b,ws,vs,ea,rfl,hw,s▸hB,by rw[<-J.len,<-hz.len];show hl,?_];rw[ao]at q;have(N0,n2):=Ok.mod (c:=c)  (u':=.lst _) t.ok t.nx.toNs hk hs G (λa ne=>ai ne) ⟨_,aj⟩ λL=>#[ws++vs,aj,(J.mv L).append (hz.mv L)]
  have z:=q _ rfl N0 n2 (Kept.of t.hσ);rw[<-t.hσ];show z
 |_=>show(bf.mp h).elim
def pX.or(h:pX X t)(h':pX X t'):pX X (λo i v H Q=>t o i v H Q\/t' o i v H Q):=λpins s σ H o i v a b u Q I c d e q =>
 q.elim (h pins s σ H o i v a b u Q I c d e) (h' pins s σ H o i v a b u Q I c d e)
def set_dict(b:X.A.units+1<C0):pX X (λo i v H Q=>∃a H',o=.ref a/\yC H a i v H'/\Q H'):=by
 rintro pins s σ H o i v f h u Q I c d rv ⟨a,H',rfl,g,q⟩;cases c;show yE b I g d rv λj e=>#[H',e,q]
def Bz{S}{kvs:↑(Key×V)}(a:kvs.map (·.1)=ks.map nc)(c:aq C S H us (kvs.map (·.2)))(f:Rep C S H u v):
  (putK kvs (nc y) v).map (·.1)=(dput ks us y u).1.map nc/\aq C S H (dput ks us y u).2 ((putK kvs (nc y) v).map (·.2)):=by
 have d:(kvs.any λkv=>df (kv.1=(nc y:Key)))=df (y∈ks):=by
  rw[jG];show(eQ (x:=y) a c).2
 unfold putK dput;rw[d];by_cases b:y∈ks
 .rw[ř (by exists b),ř b];constructor
  .rw[i8];rw[<-a];apply O0;intro p _;change(if p.1=nc y then(p.1,v) else p).1=p.1;split<;>rfl
  .clear d b;induction kvs generalizing ks us with
   |nil =>
    have:ks=[]:=by exists a.symm
    subst this;simp[aq]
   |cons p kvs g =>
    cases ks with
    |nil=>simp at a
    |cons k ks =>
     cases us with
     |nil=>simp[aq]at c
     |cons u0 us =>
      rw[i6,i6,SO]at a;have(i,j,e,l,h):=c;rw[i6]at e;cases e;rw[i6,XG,i6,i6];show#[_,_,rfl,?_,g a.2 h];by_cases hk:k=y
      .simp_all
      simp_all
 .rw[Ś (by exists b),Ś b];show#[by simp_all,by rw[mn];show c.snoc f]
def Lj(hP:C.P=X.prog)(hw:C.w=X.w)(hK:C.K=X.K)(hu:X.A.units+60<C0)(hN:X.N[i]?≈x)(hv:Ow X.env.scope x)(hd:(x==("__debug__":Str))=cK)(NO:(x==("__classdict__":Str))=cK)
  (ha:PE X a (NF C ma)) (hb:PE X b (NF C mb)) (hs:V3 [.Subscript (.Name x I) b p] a pos.line X.env=pure cK) (Sz:Ya [.Subscript (.Name x I) b p] a X.env=pure cb)
  (T:∀v,Vj (.Subscript (.Name x I) b p) X.env v=(do
   let J <-KX [v] (p8 (.Name x I) X.env)
   let Y <-KX [v,J] (p8 b X.env)
   Wx p
   KX [v,J,Y] (WB J Y v)
   YE [v,J,Y] [])) :
  L2.PS X (.Assign [.Subscript (.Name x I) b p] a pos) (Oh C ns (ma >>= λr=>dG i >>= λ_=>mb >>= λx=>cj [r,x] >>= λus=>modS i (Bg us) >>= λ_=>pure .nx)):=by
 show PS.weak (uB ha (Al (a9 hN hv hd NO) hb (pX.or set_list (set_dict (X:=X) ⋯)) T) hs Sz rfl) ?_;rintro D σ H ⟨c0,rfl,rfl,ok,h⟩;show aU ok h λr c v t w=>?_;rw[ag]at w;have(k0,u0,Sy,OC,w):=eR w;have(v0,e0,QB):=t.ok.sl i k0 u0 OC;show#[v0,by rw[<-t.hσ];show e0,?_];rw[ag]at w;show#[c,t.hσ,rfl,t.ok,w.mono λy st2 w2 c2 l L e4 N0 n2 r2=>?_];subst e4;rw[ag]at w2;have Zx:=t.nx.trans n2;have rws:eu C c0 c2 [r,y] [v,l]:=#[v,[l],rfl,t.rx.w.on t.ok n2 (L.trans t.hσ.symm),#[l,[],rfl,(r2.w).from t.nx,rfl,λ_ i r' v' e _=>by simp at e],λhk i r' v' e5 e6 OP=>by
  cases i with
  |zero=>simp at e5 e6;subst e5 e6;show nz t.rx.w r2.w hk OP
  |succ i=>simp at e5]
 have(S',st',us,sS,NC,n1,f,w1):=g9 ok N0 Zx rws w2;rw[ag]at w1;have(k,O,u2,hk,Pt,d,q):=iK w1;rw[ao]at q;have hσ:c2.σ[i]?≈bD v0:=by rw[L,<-t.hσ];show e0
 have(v',e1,e2):=NC.sl i k O Pt;have OD:c2.σ[i]?≈bD v':=e1;rw[hσ]at OD;cases OD;have(m,er,z1,z2,z3,g):=e2.rt hk;subst er;have ab:({c2 with S:=S',st:=st' }:Cf).σ[i]?≈bD (.ref m):=hσ;obtain⟨Xh,ws,ew,n,al,am,an,s,ac⟩:∃u ws,us=[u,ws]/\Rep C S' c2.H u v/\∃(_:Unit) (_:Unit),True/\Rep C S' c2.H ws l/\True:=by
  cases us with
  |nil=>simp[aq]at f
  |cons u us =>
   have(_,_,e,q1,q2):=f;cases e;cases us with
   |nil=>simp[aq]at q2
   |cons u' us =>
    have(_,_,e,q3,q4):=q2;cases e;cases us with
    |nil=>show#[u,u',rfl,q1,(),(),ttt,q3,ttt]
    |cons _ _=>have(_,_,e,_):=q4;cases e
 subst ew;rw[show Bg [Xh,ws] O=gU ws Xh O from rfl]at d;have B:∀{H':Hp} ,(∀a,a≠m->H' a=c2.H a)->(∃o,H' m≈o)->(Mv S' c2.H S' H'->eE C S' H' m u2)->D.nx c0.σ H':=λ{H'} N3 hr new=>by
  have(PY,n3):=Ok.mod (c:={c2 with S:=S',st:=st' }) (H':=H') (u':=u2) NC n1.toNs hk Pt ab N3 hr new;have z:=q _ rfl PY n3 (Kept.of L);rw[<-L];show z
 cases O with
 |lst xs =>
  cases ws with
  |int j =>
   erw[gU,g7]at d;have(j',hj,rfl):=d;have(vs,h1,G):=g;have ey:l=.int j:=s;show .inl #[m,vs,j,j',rfl,ey,h1,by rw[<-G.len];show hj,?_];show B (λa ne=>ai ne) ⟨_,aj⟩ λQ=>#[vs.set j' v,aj,(G.mv Q).set j' (n.mv Q)]
  |_=>simp[gU]at d
 |Nu ks vs =>
  cases ws with
  |str y' =>
   erw[gU]at d;split at d
   .rename_i hz;cases d;have(kvs,h1,G,h3):=g;have ey:l=.str y':=s;subst ey;have hl:⇑kvs=⇑ks:=by have:=ş NX G;exists this
    show .inr #[m,_,rfl,yC.k (k:=nc y') h1 (by rw[hl];show hz),?_];show B (λa ne=>ai ne) ⟨_,aj⟩ λQ=>?_;have(g1,g2):=Bz (y:=y') G h3 n;show#[_,aj,g1,g2.mv Q]
   .cases d
  |_=>simp[gU]at d
 |_=>simp[gU]at d
def Ok.slot(d:Ok C c)(hn:k≠.A')(hs:c.st[i]?≈bD (k,u)):∃v,c.σ[i]?≈bD v/\aM C c c (if k.root=b6 then .bor i else k) u v:=by
 have(e,b,a):=d.sl i k u hs;show#[e,b,?_];by_cases hk:k.root=b6
 .rw[ř hk];show#[#[k,hk,hs],b]
 .cases k with
  |loc=>show a
  |any=>show a
  |bor j=>show a.elim
  |A'=>show(hn rfl).elim
  |_=>show absurd rfl hk
end TM
namespace TM
open PySem L2 PyProof.Rows PySem.W
def Ll(d:X.calm=b6)(f:Gl X x)(g:X.mg x≈.ref c)(i:(x==("__debug__":Str))=cK)(j:excIn X.K c U0 "ValueError.__new__"=b6)(k:PE X a (NF C l))(m:i0 [a] X.env=[(cK,p8 a X.env)])
  (n:∀H',C.xw (.str x) H'->∀pins σ s e b,Inv X pins σ H' s->cu X.prog X.w X.stack H' s e c cb .none H' b->X.xe (.ref e) b):L2.PS X (.Raise (bD (.Call (.Name x p) [a] [] r)) cb pos) (Oh C ns (l >>= λ_=>pure (.rt .io (.str x)))):=by
 show PS.weak (A1 d f g i j k m) ?_;rintro D σ H ⟨c0,rfl,rfl,o,h⟩;show aU o h λx q v t w=>?_;rw[ao]at w;show λpins s e b I F=>n _ (w q rfl t.ok t.nx (Kept.of t.hσ)) pins _ s e b I F
def Ok.kill(v)(b:Ok C c)(t:c.st[j]?≈cb):Ok C {c with σ:=c.σ.set j v}/\Nx c {c with σ:=c.σ.set j v}:=by
 have ne:∀(i:Nat) (r:Kd×U),c.st[i]?≈bD r->(c.σ.set j v)[i]?=c.σ[i]?:=λi r e=>hQ λz=>by simp_all
 have l:∀a,{c with σ:=c.σ.set j v}.R1 a->c.R1 a:=λa ⟨i,k,u,hk,d,f⟩=>#[i,k,u,hk,d,(ne i _ d)▸f]
 have n:QJ C {c with σ:=c.σ.set j v}:=b.dd.of rfl (λi u e=>#[e,ne i _ e]) (λa z=>.inl (l a z)) (.up λ_ z=>z) λi a z=>#[(b.root (.inr #[i,z])).1,λo q=>q]
 show#[#[b.same,b.O3,b.par,b.io,by simp[b.len],λi k u e=>?_,λi m k k' u u' r hk p d f g s=>?_,n],#[λ_ _ h _=>h,λ_ o h=>#[o,h],λa z=>.inl ?_,λ_ h=>h,λ_ h=>.inl h]]
 .have(v,q,z):=b.sl i k u e;show#[v,(ne i _ e).trans q,z]
 .show b.inj i m k k' u u' r hk p d f ((ne i _ d)▸g) ((ne m _ f)▸s)
 .show z.imp (l a) λ⟨i,u,r,d,f,g⟩=>#[i,u,r,d,(ne i _ d)▸f,g]
end TM
namespace TM
open PySem L2 PyProof.Rows
def Ok.EU(d:Ok C c)(n:Ns c0 c)(hi:c.st[i]?≈bD (.A',u))(B:c.σ[i]?≈bD (.ref r))(N3:∀a,¬c.RD i a->H' a=c.H a)(N:∀a o,c.H a≈o->∃J,H' a≈J)
  (new:Mv c.S c.H c.S H'->ba C c.S H' r as' u') (O:∀a∈as',a∈c.kid i\/(¬c.R a/\c0.H a=cb)) :
  Ok C {c with H:=H',st:=c.st.set i (bD (.A',u')),kid:=λj=>if j=i then as' else c.kid j}/\Ns c0 {c with H:=H',st:=c.st.set i (bD (.A',u')),kid:=λj=>if j=i then as' else c.kid j}:=by
 have Q:i<⇑c.st:=(eH.mp hi).1;have rt:∀{a},c.RD i a->¬c.S a/\¬C.O2 a/\(C.H₀ a=cb\/C.IO a)/\∃o,c.H a≈o/\¬Tp o:=λz=>d.root (.inr #[i,z]);have h0:∀{a},c.RD i a->C.H₀ a=cb\/C.IO a:=λ⟨u1,r1,g,b,e3⟩=>(ba.fr (d.dd.kd i u1 r1 g b) _ (eT.mpr e3)).2.2;have q:∀{a:hH} {o:HO},¬c.RD i a->c.H a≈o->H' a≈o:=λz e=>by rw[N3 _ z];show e
 have L:Mv c.S c.H c.S H':=#[λ_ z=>z,λa o e t=>q (λz=>by
  have(_,_,_,J,l,nt):=rt z;rw[e]at l;cases l;show nt t) e,λa o z e=>q (λm=>(rt m).1 z) e]
 have Si:Mv (PS C c.S) c.H (PS C c.S) H':=#[λ_ z=>z,L.U3,λa o z e=>q (λm=>z.elim (rt m).2.1 (rt m).1) e]
 have D:∀(j:Nat) k w,(c.st.set i (bD (.A',u')))[j]?≈bD (k,w)->j≠i->c.st[j]?≈bD (k,w):=λj k w e ne=>by rw[hQ (mh ne)]at e;show e
 have T:∀(j:Nat) k w,k.root=b6->(c.st.set i (bD (.A',u')))[j]?≈bD (k,w)->c.st[j]?≈bD (k,w):=λj k w hk e=>by
  by_cases f:j=i
  .subst f;rw[fx Q]at e;cases e;cases hk
  .show D j k w e f
 have b1:∀a,({c with H:=H',st:=c.st.set i (bD (.A',u')),kid:=λj=>if j=i then as' else c.kid j}:Cf).R1 a->c.R1 a:=λa ⟨j,k,w,hk,g,b⟩=>#[j,k,w,hk,T j k w hk g,b]
 have G:∀j a,({c with H:=H',st:=c.st.set i (bD (.A',u')),kid:=λj=>if j=i then as' else c.kid j}:Cf).RD j a->c.RD j a\/(j=i/\¬c.R a/\c0.H a=cb):=λj a N1=>by
  have(w,h,g,b,e3):=N1;by_cases f:j=i
  .subst f;have I:c.σ[j]?≈bD (.ref h):=b;rw[B]at I;cases I;rcases e3 with rfl|e3
   .show .inl #[u,_,hi,B,.inl rfl]
   .have Y:a∈as':=by exists e3
    rcases O a Y with z|z
    .show .inl #[u,_,hi,B,.inr z]
    .show .inr #[rfl,z]
  .have Y:a=h\/a∈c.kid j:=by simpa[f] using e3
   show .inl #[w,h,D j _ w g f,b,Y]
 show#[#[λa o e z=>q (λm=>(h0 m).elim (λy=>by rw[y]at e;cases e) z) (d.same a o e z),λa z=>?_,d.par,λa z=>?_,by simp[d.len],λj k w e=>?_,λx s k1 k2 w1 w2 h h1 h2 g b e3 e4=>d.inj x s k1 k2 w1 w2 h h1 h2 (T x k1 w1 h1 g) (T s k2 w2 h2 b) e3 e4,#[λj w h g b=>?_,λx s a z1 z2=>?_,λj a z1 z2=>?_]],#[λa o e z=>?_,λa o e=>?_,λa z=>?_,n.sub,n.new]]
 .have(q1,o,q2):=d.O3 a z;show#[q1,N a o q2]
 .have(q1,o,q2):=d.io a z;show#[q1,N a o q2]
 .by_cases f:j=i
  .subst f;rw[fx Q]at e;cases e;show#[.ref r,B,r,rfl]
  .have(v,g,b):=d.sl j k w (D j k w e f);show#[v,g,b.mv L Si λhk h er=>?_];have(W',Pp,z1,_):=b.rt hk;rw[er]at Pp;cases Pp;show#[z1,λo l=>q (λz=>d.dd.d1 i h z #[j,k,w,hk,D j k w e f,by rw[g,er]]) l]
 .by_cases f:j=i
  .subst f;rw[fx Q]at g;cases g;have I:c.σ[j]?≈bD (.ref h):=b;rw[B]at I;cases I;have z:=new L;exists z
  .have OD:=D j _ w g f;have OP:(if j=i then as' else c.kid j)=c.kid j:=Ś f;change ba C c.S H' h (if j=i then as' else c.kid j) w;rw[OP];show ba.mv L (λa ha=>#[(d.root (.inr #[j,w,h,OD,b,eT.mp ha])).1,λo l=>q (λz=>f (d.dd.dj j i a #[w,h,OD,b,eT.mp ha] z)) l]) (d.dd.kd j w h OD b)
 .rcases G x a z1 with p|⟨rfl,p,_⟩
  .rcases G s a z2 with A|⟨rfl,A,_⟩
   .show d.dd.dj x s a p A
   .show(A (.inr #[x,p])).elim
  .rcases G s a z2 with A|⟨rfl,A,_⟩
   .show(p (.inr #[s,A])).elim
   .rfl
 .rcases G j a z1 with p|⟨rfl,p,_⟩
  .show d.dd.d1 j a p (b1 a z2)
  .show p (.inl (b1 a z2))
 .show q (λm=>by
   rcases n.roots a (.inr #[i,m]) with y|y
   .show z y
   .rw[e]at y;cases y) (n.keep a o e z)
 .have(J,l):=n.there a o e;show N a J l
 .rcases z with z|⟨j,z⟩
  .show n.roots a (.inl (b1 a z))
  .rcases G j a z with y|⟨_,_,y⟩
   .show n.roots a (.inr #[j,y])
   .show .inr y
def Ok.newD(l:Ok C c)(x:c.H p=cb)(hi:i<⇑c.σ):
  Ok C {c with H:=upd c.H p (.dK []),σ:=c.σ.set i (bD (.ref p)),st:=c.st.set i (bD (.A',.Nu [] [])),kid:=λj=>if j=i then [] else c.kid j}/\Ns c {c with H:=upd c.H p (.dK []),σ:=c.σ.set i (bD (.ref p)),st:=c.st.set i (bD (.A',.Nu [] [])),kid:=λj=>if j=i then [] else c.kid j}:=by
 have(n,L):=l.lay (o:=.dK []) x;have(Y,q2,q3,q4,A):=l.jP x;have B:i<⇑c.st:=by rw[l.len];show hi
 have t:∀(j:Nat) k w,(c.st.set i (bD (.A',.Nu [] [])))[j]?≈bD (k,w)->j≠i->c.st[j]?≈bD (k,w):=λj k w e ne=>by rw[hQ (mh ne)]at e;show e
 have q:∀(j:Nat),j≠i->(c.σ.set i (bD (.ref p)))[j]?=c.σ[j]?:=λj ne=>hQ (mh ne);have D:∀(j:Nat) k w,k.root=b6->(c.st.set i (bD (.A',.Nu [] [])))[j]?≈bD (k,w)->j≠i/\c.st[j]?≈bD (k,w):=λj k w hk e=>by
  by_cases b:j=i
  .subst b;rw[fx B]at e;cases e;cases hk
  .show#[b,t j k w e b]
 have b1:∀a,({c with H:=upd c.H p (.dK []),σ:=c.σ.set i (bD (.ref p)),st:=c.st.set i (bD (.A',.Nu [] [])),kid:=λj=>if j=i then [] else c.kid j}:Cf).R1 a->c.R1 a:=λa G=>by
  have(j,k,w,hk,d,f):=G;have(b,I):=D j k w hk d;show#[j,k,w,hk,I,by rw[<-q j b];show f]
 have r:∀j a,({c with H:=upd c.H p (.dK []),σ:=c.σ.set i (bD (.ref p)),st:=c.st.set i (bD (.A',.Nu [] [])),kid:=λj=>if j=i then [] else c.kid j}:Cf).RD j a->(j≠i/\c.RD j a)\/(j=i/\a=p):=λj a G=>by
  have(w,g,d,f,e3):=G;by_cases b:j=i
  .subst b;have s:(c.σ.set j (bD (.ref p)))[j]?≈bD (.ref g):=f;rw[fx hi]at s;cases s;rcases e3 with rfl|e3
   .show .inr #[rfl,rfl]
   .simp at e3
  .have RQ:a=g\/a∈c.kid j:=by simpa[b] using e3
   show .inl #[b,w,g,t j _ w d b,by rw[<-q j b];show f,RQ]
 show#[#[n.same,n.O3,n.par,n.io,by simp[l.len],λj k w e=>?_,λm h k1 k2 N O g Q T d f e3 e4=>?_,#[λj w g d f=>?_,λm h a z1 z2=>?_,λj a z1 z2=>?_]],#[L.keep,L.there,λa z=>?_,λ_ z=>z,λ_ z=>.inl z]]
 .by_cases b:j=i
  .subst b;rw[fx B]at e;cases e;show#[.ref p,fx hi,p,rfl]
  .have(v,d,f):=n.sl j k w (t j k w e b);show#[v,(q j b).trans d,f]
 .have(Rf,a1):=D m k1 N Q d;have(Rg,a2):=D h k2 O T f;show l.inj m h k1 k2 N O g Q T a1 a2 ((q m Rf).symm.trans e3) ((q h Rg).symm.trans e4)
 .by_cases b:j=i
  .subst b;rw[fx B]at d;cases d;have s:(c.σ.set j (bD (.ref p)))[j]?≈bD (.ref g):=f;rw[fx hi]at s;cases s;change ba C c.S (upd c.H p (.dK [])) p (if j=j then [] else c.kid j) (.Nu [] []);rw[ř rfl];show#[[],aj,rfl,rfl,by simp,λa ha=>by rw[kr.mp ha];show#[q2,q3,Y],rfl]
  .have I:=t j _ w d b;have z:=n.dd.kd j w g I ((q j b).symm.trans f);change ba C c.S (upd c.H p (.dK [])) g (if j=i then [] else c.kid j) w;rw[Ś b];show z
 .rcases r m a z1 with⟨_,u⟩|⟨rfl,rfl⟩
  .rcases r h a z2 with⟨_,J⟩|⟨rfl,rfl⟩
   .show l.dd.dj m h a u J
   .show(A (.inr #[m,u])).elim
  .rcases r h a z2 with⟨_,J⟩|⟨rfl,_⟩
   .show(A (.inr #[h,J])).elim
   .rfl
 .rcases r j a z1 with⟨_,u⟩|⟨rfl,rfl⟩
  .show l.dd.d1 j a u (b1 a z2)
  .show A (.inl (b1 a z2))
 .rcases z with z|⟨j,z⟩
  .show .inl (.inl (b1 a z))
  .rcases r j a z with⟨_,y⟩|⟨_,rfl⟩
   .show .inl (.inr #[j,y])
   .show .inr x
theorem d7.rep{S S'}(hs:∀a,S a->S' a):∀{us}{as},(∀a∈as,S' a)->d7 C S H us as->aq C S' H us (as.map V.ref)
 |[],as,_,h=>by cases h;rfl
 |u::us,as,c,h=>by
  have(a,as',ys,vs,rfl,rfl,d,e,f):=h;show#[_,_,rfl,#[a,vs,rfl,.inl #[c a ⋯,.inl d],e.mv (.up hs)],d7.rep hs (λb g=>c b (by simp[g])) f]
def Ok.M1(b:Ok C c)(n:Nx c0 c)(B:∃ks us,u=.Nu ks us)(hi:c.st[i]?≈bD (.A',u))(s:c.σ[i]?≈bD (.ref r)):
  Ok C {c with S:=λa=>c.S a\/a∈c.kid i,st:=c.st.set i (bD (.own,u))}/\Nx c0 {c with S:=λa=>c.S a\/a∈c.kid i,st:=c.st.set i (bD (.own,u))}:=by
 have Q:i<⇑c.st:=(eH.mp hi).1;have(ks,us,B):=B;have T:=b.dd.kd i u r hi s;have fr:=ba.Y7 (B▸T);have mem:∀a,(a=r\/a∈c.kid i)->c.RD i a:=λa z=>#[u,r,hi,s,z]
 have up:Mv c.S c.H (λa=>c.S a\/a∈c.kid i) c.H:=.up λa=>.inl;have Y:Mv (PS C c.S) c.H (PS C λa=>c.S a\/a∈c.kid i) c.H:=.up λa z=>z.imp id .inl;have Zz:r∉c.kid i/\eE C (λa=>c.S a\/a∈c.kid i) c.H r u:=by
  subst B;have(kvs,D,G,h3,h4,h5,h6):=T;show#[(nC.mp h4).1,kvs,D,G,?_];rw[h3];show h6.rep (λa=>.inl) λa I=>.inr I
 have p:∀(j:Nat) k w,(c.st.set i (bD (.own,u)))[j]?≈bD (k,w)->j≠i->c.st[j]?≈bD (k,w):=λj k w e ne=>by rw[hQ (mh ne)]at e;show e
 have b1:∀a,({c with S:=λa=>c.S a\/a∈c.kid i,st:=c.st.set i (bD (.own,u))}:Cf).R1 a->c.R1 a\/a=r:=λa N1=>by
  have(j,k,w,hk,f,g):=N1;by_cases d:j=i
  .subst d;have O1:c.σ[j]?≈bD (.ref a):=g;rw[s]at O1;cases O1;show .inr rfl
  .show .inl #[j,k,w,hk,p j k w f d,g]
 have J:∀j a,({c with S:=λa=>c.S a\/a∈c.kid i,st:=c.st.set i (bD (.own,u))}:Cf).RD j a->j≠i/\c.RD j a:=λj a N1=>by
  have(w,h,f,g,t):=N1;by_cases d:j=i
  .subst d;rw[fx Q]at f;cases f
  .show#[d,w,h,p j _ w f d,g,t]
 show#[#[b.same,λa z=>?_,b.par,b.io,by simp[b.len],λj k w e=>?_,λm l k1 k2 L N h D G f g t e4=>?_,#[λj w h f g=>?_,λm l a z1 z2=>b.dd.dj m l a (J m a z1).2 (J l a z2).2,λj a z1 z2=>?_]],#[#[n.keep,n.there,λa z=>?_,λa z=>.inl (n.sub a z),λa z=>?_]]]
 .rcases z with z|z
  .show b.O3 a z
  .have(o,ho,_):=ba.there T a (f7 _ z);show#[(fr a (f7 _ z)).2.2,o,ho]
 .by_cases d:j=i
  .subst d;rw[fx Q]at e;cases e;have(q1,q2,q3):=fr r (il ..);show#[.ref r,s,r,rfl,λz=>z.elim q1 Zz.1,q2,q3,Zz.2]
  .have(v,f,g):=b.sl j k w (p j k w e d);show#[v,f,g.mv up Y λhk h er=>?_];have(W',Pp,z1,_):=g.rt hk;rw[er]at Pp;cases Pp;show#[λz=>z.elim z1 λz=>b.dd.d1 i h (mem h (.inr z)) #[j,k,w,hk,p j k w e d,by rw[f,er]],λo q=>q]
 .by_cases O:m=i
  .by_cases x:l=i
   .rw[O,x]
   .subst O;have RQ:c.σ[m]?≈bD (.ref h):=t;rw[s]at RQ;cases RQ;show(b.dd.d1 m r (mem r (.inl rfl)) #[l,k2,N,G,p l k2 N g x,e4]).elim
  .by_cases x:l=i
   .subst x;have A:c.σ[l]?≈bD (.ref h):=e4;rw[s]at A;cases A;show(b.dd.d1 l r (mem r (.inl rfl)) #[m,k1,L,D,p m k1 L f O,t]).elim
   .show b.inj m l k1 k2 L N h D G (p m k1 L f O) (p l k2 N g x) t e4
 .by_cases d:j=i
  .subst d;rw[fx Q]at f;cases f
  .have OD:=p j _ w f d;show ba.mv up (λa I=>#[λz=>z.elim (b.root (.inr #[j,w,h,OD,g,eT.mp I])).1 λz=>d (b.dd.dj j i a #[w,h,OD,g,eT.mp I] (mem a (.inr z))),λo q=>q]) (b.dd.kd j w h OD g)
 .have(d,y):=J j a z1;rcases b1 a z2 with z|z
  .show b.dd.d1 j a y z
  .subst z;show d (b.dd.dj j i a y (mem a (.inl rfl)))
 .rcases z with z|⟨j,z⟩
  .rcases b1 a z with z|rfl
   .show n.roots a (.inl z)
   .show n.roots a (.inr #[i,mem a (.inl rfl)])
  .show n.roots a (.inr #[j,(J j a z).2])
 .rcases z with z|z
  .show n.new a z
  .rcases n.roots a (.inr #[i,mem a (.inr z)]) with y|y
   .show .inr (.inl y)
   .show .inr (.inr y)
def EV(d:X.N[i]?≈x)(f:Ow X.env.scope x)(g:(x==("__debug__":Str))=cK)(j:(x==("__classdict__":Str))=cK):PE X (.Name x pos) (NF C (Bc i)):=by
 have k:=l_ (C:=C) (pos:=pos) d f g j;rintro pins s σ H Q I ⟨c0,rfl,rfl,b,r,st',e,h⟩;unfold Bc at e;split at e
 .rename_i ks us hs;cases e;have(v,c,o,rfl):=b.sl i _ _ hs;have(l,m):=b.M1 (Nx.refl c0) #[_,_,rfl] hs c;have n:=(eH.mp hs).1;show a9 d f g j pins s _ c0.H Q I #[_,c,h {c0 with S:=λa=>c0.S a\/a∈c0.kid i,st:=c0.st.set i _} _ rfl rfl l m ⟨⟨.own,rfl,fx n⟩,c⟩]
 .show k pins s _ c0.H Q I #[c0,rfl,rfl,b,r,st',e,h]
def iL{st}(h:W (jS i) st Q):∃ks us,st[i]?≈bD (.A',.Nu ks us)/\Q (ks,us) st:=by
 have(r,st',e,q):=h;unfold jS at e;split at e
 .rename_i ks us hs;cases e;show#[ks,us,hs,q]
 .cases e
def iM{st}(h:W (gK x) st Q):∃y,x.2=.str y/\Q y st:=by
 unfold gK at h;split at h
 .rename_i y e;rw[ao]at h;show#[y,e,h]
 .show(bf.mp h).elim
inductive DcO(C:Ct)(c:Cf)(i:Nat)(ks:↑Str)(us:↑U):Prop
 |mk:∀(r:hH) (kvs:↑(Key×V)),c.σ[i]?≈bD (.ref r)->c.H r≈.dK kvs->kvs.map (·.1)=ks.map nc->kvs.map (·.2)=(c.kid i).map V.ref->(r::c.kid i).Nodup->d7 C c.S c.H us (c.kid i)->(∀y:Str,(eU kvs (nc y)).isSome=df (y∈ks))->(∀(y:Str) (u:U),eW ks us y≈u->∃v,eU kvs (nc y)≈v/\Rep C (λa=>c.S a\/a∈c.kid i) c.H u v)->DcO C c i ks us
def Ok.Nu(d:Ok C c)(hi:c.st[i]?≈bD (.A',.Nu ks us)):DcO C c i ks us:=by
 have(v,e,r,rfl):=d.sl i _ _ hi;have(kvs,j,b,f,k,m,g):=d.dd.kd i _ r hi e;have h:aq C (λa=>c.S a\/a∈c.kid i) c.H us (kvs.map (·.2)):=by rw[f];show g.rep (λa=>.inl) λa l=>.inr l
 show#[r,kvs,e,j,b,f,k,g,λy=>(eQ  b h).2,λy=>(eQ  b h).1]
def sX{k:Str->↑Str×↑U->M β}{b}{Z:V->V->Hp->Prop}(l:Ok C c0)(h:W (m >>= λx=>gK x >>= λy=>jS i >>= λd=>k y d) c0.st b)
  (hz:∀c y ks us r kvs,c.σ=c0.σ->Ok C c->Nx c0 c->c.H r≈.dK kvs->(eU kvs (nc y)).isSome=df (y∈ks)->W (k y (ks,us)) c.st b->Z (.str y) (.ref r) c.H) :
  NF C m c0.σ c0.H λv o=>∃f,c0.σ[i]?≈bD f/\Z v f o:=by
 show#[c0,rfl,rfl,l,?_];rw[ag]at h;show W.mono h λx st' w c v g hs a n r=>?_;subst hs;have(u,z):=x;rw[ag]at w;have(y,e,j):=iM w;clear w;subst e;have ev:=r.str a;subst ev;rw[ag]at j;have(ks,us,hs,w):=iL j;have(p,kvs,q,s,_,_,_,_,t,_):=a.Nu hs;show#[_,by rw[<-g];show q,hz c y ks us p kvs g a n s (t y) w]
abbrev IJ(neg:Bool):Ħ:=if neg=b6 then .NotIn else .In
def IK(b:∀j,ns j=b6->j≠i)(c:X.N.Nodup)(hi:X.N[i]?≈x)(d:Loc X.env.scope x)(f:X.fn x=b6\/X.env.scope.names.lookup x≈.local)
  (hs:Qv (.Dict [] [] p) (bD (.Name x a)) pos.line X.env=pure cK):L2.PS X (.Assign [.Name x a] (.Dict [] [] p) pos) (Oh C ns (Gn i >>= λ_=>pure .nx)):=by
 rintro pins s σ H D I ⟨c0,rfl,rfl,g,h⟩;have k:i<⇑c0.σ:=by rw[I.len];show(eH.mp hi).1
 show mO c hi d sf hs f pins s _ c0.H D I λq l=>?_;have(m,n):=g.newD l k;rw[ag]at h;have(_,st',e,w):=h;cases e;rw[ao]at w;show w _ rfl m n #[λj o=>hQ (mh (b j o)),by simp]
def EW(v:X.A.units+60<C0)(j:X.N[i]?≈x)(l:Ow X.env.scope x)(m:(x==("__debug__":Str))=cK)(o:(x==("__classdict__":Str))=cK)(p:PE X a (NF C u))(q:RW (IJ neg) (.Name x p2)=cK):
  PT X (.Compare a [IJ neg] [.Name x p2] pos) (OT C (u >>= λx=>gK x >>= λy=>jS i >>= λd=>pure (Y_ neg y d.1))):=by
 rintro pins s σ H Q I ⟨c0,rfl,rfl,t,h⟩;cases neg with
 |false =>
  show Af (HF ⋯ p (a9 j l m o)) q pins s _ c0.H Q I (sX  t h λc y ks us r kvs b e n f g w=>?_);rw[ao]at w;show#[r,_,rfl,gN.k (k:=nc y) f,?_];rw[g];show#[_,rfl,w c b rfl e n]
 |true =>
  show Af (yF ⋯ p (a9 j l m o)) q pins s _ c0.H Q I (sX  t h λc y ks us r kvs b e n f g w=>?_);rw[ao]at w;show#[r,_,rfl,gN.k (k:=nc y) f,?_];rw[g];show#[_,rfl,w c b rfl e n]
theorem d7.snoc{S}{a}(b:H a≈.lst vs)(c:aq C S H ys vs):∀{us}{as},d7 C S H us as->d7 C S H (us++[.lst ys]) (as++[a])
 |[],as,h=>by cases h;show#[a,[],ys,vs,rfl,rfl,b,c,rfl]
 |u::us,as,h=>by
  have(a',as',d,f,rfl,e,g,i,j):=h;show#[a',_,d,f,rfl,e,g,i,d7.snoc b c j]
def vH{st}(h:W (nu i y r) st Q):∃us ks vs,r=(.own,.lst us)/\st[i]?≈bD (.A',.Nu ks vs)/\y∉ks/\⇑ks<c8/\Q () (st.set i (bD (.A',.Nu (ks++[y]) (vs++[.lst us])))):=by
 have(k,u):=r;cases k<;>cases u<;>first|show(bf.mp h).elim|skip
 rename_i us;have(_,st',e,q):=h;unfold nu at e
 dsimp only at e
 split at e
 .rename_i ks vs hs;split at e
  .rename_i hz;cases e;show#[us,ks,vs,rfl,hs,hz.1,hz.2,q]
  .cases e
 .cases e
def IL{i}{x}{j}(hu:X.A.units+60<C0)(hN:X.N[i]?≈x)(hv:Ow X.env.scope x)(hd:(x==("__debug__":Str))=cK)(NO:(x==("__classdict__":Str))=cK)
  (ha:PE X a (NF C ma)) (B:PE X b (NF C mb)) (hs:V3 [.Subscript (.Name x j) b p] a pos.line X.env=pure cK) (Sz:Ya [.Subscript (.Name x j) b p] a X.env=pure cb)
  (G:∀v,Vj (.Subscript (.Name x j) b p) X.env v=(do
   let n <-KX [v] (p8 (.Name x j) X.env)
   let I <-KX [v,n] (p8 b X.env)
   Wx p
   KX [v,n,I] (WB n I v)
   YE [v,n,I] [])) :
  L2.PS X (.Assign [.Subscript (.Name x j) b p] a pos) (Oh C ns (ma >>= λr=>jS i >>= λ_=>mb >>= λx=>gK x >>= λy=>nu i y r >>= λ_=>pure .nx)):=by
 show PS.weak (uB ha (Al (a9 hN hv hd NO) B (set_dict (X:=X) ⋯) G) hs Sz rfl) ?_;rintro D σ H ⟨c0,rfl,rfl,Q,h⟩;show aU Q h λr c v t w=>?_;rw[ag]at w;have(ab,us0,OC,w):=iL w;have(T,Uk,Y,g0,_):=t.ok.Nu OC;show#[.ref T,by rw[<-t.hσ];show Y,?_];rw[ag]at w;show#[c,t.hσ,rfl,t.ok,w.mono λy st2 w2 c2 vy s e4 u n2 r2=>?_];subst e4;rw[ag]at w2;have(ky,uy):=y;have(y,ey,w3):=iM w2
 dsimp only at ey r2
 subst ey;have ev:vy=.str y:=r2.str u;subst ev;rw[ag]at w3;have(us,ks,vs,J,f,L,l,q):=vH w3;subst J;rw[ao]at q;have(m,kvs,d,g1,g2,g3,g4,g5,g6,_):=u.Nu f;have J:m=T:=by rw[s,<-t.hσ,Y]at d;cases d;rfl
 subst J;have(g,rfl,k1,k2,k3,NZ,k4,k5):=t.rx.w.on t.ok n2.toNs (s.trans t.hσ.symm);have Zx:=t.nx.trans n2;have hl:⇑kvs=⇑ks:=by have:=ş NX g2;exists this
 have Rq:eU kvs (nc y)=cb:=by
  have:=g6 y;rw[ś L]at this;cases hq:eU kvs (nc y) with
  |none=>rfl
  |some _=>rw[hq]at this;cases this
 show#[m,_,rfl,yC.k (k:=nc y) g1 (by rw[hl];show l),?_];rw[AD _ Rq];have Zz:g∉c2.kid i:=λz=>k3 (.inr #[i,_,_,f,d,.inr z]);have O:g≠m:=λz=>k3 (.inr #[i,_,_,f,d,.inl z]);have rd:=u.dd.kd i _ _ f d;have fr:=ba.Y7 rd;have(PY,n3):=Ok.EU (H':=upd c2.H m (.dK (kvs++[(nc y,.ref g)]))) (u':=.Nu (ks++[y]) (vs++[.lst us])) (as':=c2.kid i++[g]) u Zx.toNs f d
  (λa ne=>ai λz=>ne #[_,_,f,d,.inl z]) (λa o e=>by
   by_cases hz:a=m
   .subst hz;show#[_,aj]
   .rw[ai hz];show#[o,e])
  (λmv=>by
   show#[_,aj,by simp_all,by rw[mn,g3,mn];rfl,?_,λa ha=>?_,?_]
   .rw[<-ì,my];show#[g4,by simp,λa ha b B=>by
     have:b=g:=by exists B
     subst this;rintro rfl;simp_all]
   .rw[<-ì]at ha;rcases i7.mp ha with ha|ha
    .show fr a ha
    .have:a=g:=by exists ha
     subst this;have(z1,_,z3,_):=Q.jP k1;show#[k2,z3,z1]
   .show d7.snoc (by rw[ai O];show k4) (k5.mv mv) (d7.mv mv (λa ha o e=>by
     rw[ai (λz=>(nC.mp g4).1 (by rw[<-z];show ha))];show e) g5))
  (λa ha=>by
   rcases i7.mp ha with ha|ha
   .show .inl ha
   simp_all)
 have z:=q _ rfl PY n3 (Kept.of s);rw[<-s];show z
theorem d7.at{S}:∀{ks}{us}{as}{kvs:↑(Key×V)}{u},kvs.map (·.1)=ks.map nc->kvs.map (·.2)=as.map V.ref->as.Nodup->d7 C S H us as->eW ks us y≈u ->
  ∃a ws ys,eU kvs (nc y)≈.ref a/\a∈as/\u=.lst ys/\H a≈.lst ws/\aq C S H ys ws/\∀H' c d,Mv S H S H'->H' a≈.lst d->aq C S H' c d->(∀b∈as,b≠a->H' b=H b)->d7 C S H' (lX ks us y (.lst c)) as
 |[],us,as,kvs,u,_,_,_,_,h=>by cases us<;>cases h
 |k::ks,[],as,kvs,u,_,_,_,_,h=>by cases h
 |k::ks,u0::us,as,kvs,u,f,l,hn,hk,h=>by
  have(a,as',ys,ws,rfl,rfl,t,v,w):=hk;cases kvs with
  |nil=>simp at f
  |cons p kvs =>
   rw[i6,i6,SO]at f l;rw[nC]at hn;by_cases m:k=y
   .subst m;erw[eW]at h;cases h;show#[a,ws,ys,by rw[fC f.1,l.1],by simp,rfl,t,v,λH' c d g n q i=>?_];erw[lX];show#[a,as',c,d,rfl,rfl,n,q,d7.mv g (λb j o e=>by rw[i b (by simp[j]) (λz=>hn.1 (z▸j))];show e) w]
   .simp only[eW,Ś m]at h;have(x,r,s,B,A,D,G,I,J):=d7.at f.2 l.2 hn.2 w h;show#[x,r,s,?_,by simp[A],D,G,I,λH' c d g n q i=>?_]
    .rw[fD ⋯];show B
    .simp only[lX,Ś m];have L:a≠x:=λz=>hn.1 (z▸A);show#[a,as',ys,ws,rfl,rfl,by rw[i a ⋯ L];show t,v.mv g,J H' c d g n q λb j=>i b (by simp[j])]
def vI{st}(h:W (nv i y u) st Q):∃ks vs xs,st[i]?≈bD (.A',.Nu ks vs)/\eW ks vs y≈.lst xs/\⇑xs<c8/\Q () (st.set i (bD (.A',.Nu ks (lX ks vs y (.lst (xs++[u])))))):=by
 have(_,st',e,q):=h;unfold nv at e;split at e
 .rename_i ks vs hs;split at e
  .rename_i xs a;split at e
   .rename_i hz;cases e;show#[ks,vs,xs,hs,a,hz,q]
   .cases e
  .cases e
 .cases e
abbrev za(C:Ct)(m:M (Kd×U)):TE:=λσ H Q=>∃c0:Cf,c0.σ=σ/\c0.H=H/\Ok C c0/\W m c0.st λr st'=>∀c v,c.σ=σ->c.st=st'->Ok C c->Nx c0 c->(∀a o,c0.H a≈o->c.H a≈o)->aM C c0 c r.1 r.2 v->Q v c.H
def pB(b:Ok C c0)(h:W (d >>= k) c0.st e)
  (hz:∀x c v,RN C c0 c x v->(∀a o,c0.H a≈o->c.H a≈o)->W (k x) c.st e->Z v c.H):za C d c0.σ c0.H Z:=by
 rw[ag]at h;show#[c0,rfl,rfl,b,h.mono λx st1 n c1 f g p i j l m=>hz x c1 f #[g,i,j,m] l ⋯]
def BA(d:X.N[i]?≈x)(f:Ow X.env.scope x)(g:(x==("__debug__":Str))=cK)(l:(x==("__classdict__":Str))=cK):PE X (.Name x pos) (za C (dG i)):=by
 show PE.weak (a9 d f g l) ?_;rintro σ H Q ⟨c0,rfl,rfl,b,r,st',e,h⟩;unfold dG at e;split at e
 .cases e
 .rename_i k u m hs;cases e;have(v,c,a):=b.sl i k u hs;show#[v,c,h c0 v rfl rfl b (Nx.refl c0) (λ_ _ z=>z) ?_];by_cases hk:k.root=b6
  .rw[ř hk];show#[#[k,hk,hs],c]
  .cases k with
   |loc=>show a
   |any=>show a
   |bor j=>show a.elim
   |A'=>show(m rfl).elim
   |_=>show absurd rfl hk
 .cases e
def jX(h:PE X e (tC v))(r:∀S H,Rep C S H u v):PE X e (za C (pure (.loc,u))):=by
 show PE.weak h ?_;rintro σ H Q ⟨c0,rfl,rfl,a,h⟩;rw[ao]at h;show h c0 v rfl rfl a (Nx.refl c0) (λ_ _ z=>z) (r _ _)
def IM(hK:C.K=X.K)(hu:X.A.units+60<C0)(hN:X.N[i]?≈x)(hv:Ow X.env.scope x)(hd:(x==("__debug__":Str))=cK)(NO:(x==("__classdict__":Str))=cK)(J:PE X a (za C ma))(hb:PE X b (NF C mb))(V7:HE b)
  (OH:((vl L (i0 [a] X.env)).all (λx=>!x.1)&&(Ut L (PK [] X.env)).all (λx=>x.1.isSome)
   && df ([a].length+⇑([]:↑QF)+(if ([]:↑QF).isEmpty then 0 else 1)<30))=b6)
  (NK:(j.endLine==L.line)=b6) (Nz:i0 [a] X.env=[(cK,p8 a X.env)]) :
  L2.PS X (.Expr (.Call (.Attribute (.Subscript (.Name x px) b p) "append" j) [a] [] L) pos) (Oh C ns (jS i >>= λ_=>mb >>= λx=>gK x >>= λy=>jS i >>= λd=>if y∈d.1 then(ma >>= λr=>lift r >>= λu=>nv i y u >>= λ_=>pure .nx) else M.fail)):=by
 show PS.weak (iE (o_ F.plainAttrs_list F.slot_list_append F.type_list_append iF (D2 ⋯ (a9 hN hv hd NO) hb V7) (bA J cB Nz) rfl OH NK Nz rfl)) ?_;rintro D σ H ⟨c0,rfl,rfl,ok,h⟩;rw[ag]at h;have(am,us0,OC,h):=iL h;have(r0,Uk,O,g0,_):=ok.Nu OC;show#[.ref r0,O,?_];show aU ok h λry c vy t w=>?_;rw[ag]at w;have(ky,uy):=ry;have(y,ey,w1):=iM w
 dsimp only at ey
 subst ey;have ev:vy=.str y:=t.rx.str t.ok;subst ev;rw[ag]at w1;have(ks,us,hs,l):=iL w1
 dsimp only at l
 by_cases Q:y∈ks
 case neg=>rw[Ś Q]at l;show(bf.mp l).elim
 rw[ř Q]at l;have(T,kvs,f1,g1,g2,g3,g4,g5,g6,_):=t.ok.Nu hs;have Y:T=r0:=by rw[t.hσ,O]at f1;cases f1;rfl
 subst Y;have Tj:=g6 y;rw[ŝ Q]at Tj;have(v0,B):=vr.mp Tj;have Oz:v0∈(c.kid i).map V.ref:=by
  rw[<-g3];unfold eU at B;have(q,hq,rfl):=g7.mp B;show B' (List.mem_of_find?_eq_some hq)
 have(f,ab,rfl):=j0.mp Oz;have(RS,ZC):=g5.mem ab;show#[T,.ref f,rfl,by rw[<-B];show gN.k (k:=nc y) g1,Or.inl #[rfl,RS,.inl (.inl ZC)],?_];rw[<-t.hσ];show pB t.ok l λr g v t' yU w3=>?_;rw[ag]at w3;have(S',st',u,sS,NC,n1,m,w4,_,_):=f9 t.ok t'.ok t'.nx t'.rx.w w3;rw[ag]at w4;have(n,NZ,xs,G,hx,hz,q):=vI w4;rw[ao]at q;have(I,Ul,k1,k2,k3,k4,k5,k6,_,_):=NC.Nu G;have s:g.σ[i]?≈bD (.ref I):=k1;have Y:I=T:=by rw[t'.hσ,t.hσ,O]at s;cases s;rfl
 subst Y;have ac:g.H I≈.dK Ul:=k2;have ZD:Ul=kvs:=by have:=yU _ _ g1;rw[ac]at this;cases this;rfl
 subst ZD;have nd:=(nC.mp k5).2;have(a2,ws,ys,l1,l2,l3,l4,l5,l6):=d7.at k3 k4 nd k6 hx;cases l3;rw[B]at l1;cases l1;have al:g.H f≈.lst ws:=l4;show#[f,ws,v,rfl,rfl,al,by rw[<-l5.len];show hz,?_];have N3:f≠I:=λz=>(nC.mp k5).1 (z▸l2);have(N0,n2):=Ok.EU (c:={g with S:=S',st:=st' }) (H':=upd g.H f (.lst (ws++[v]))) (u':=.Nu n (lX n NZ y (.lst (xs++[u])))) (as':=g.kid i) NC (t.nx.trans n1).toNs G k1
  (λa ne=>ai λz=>ne #[_,_,G,k1,.inr (z▸l2)]) (λa o e=>by
   by_cases hz:a=f
   .subst hz;show#[_,aj]
   .rw[ai hz];show#[o,e])
  (λmv=>#[Ul,by rw[ai (mh N3)];show k2,k3,k4,k5,ba.Y7 (NC.dd.kd i _ _ G k1),l6 _ _ _ mv aj ((l5.mv mv).snoc (m.mv mv)) λb _ ne=>ai ne])
  (λa J=>.inl J)
 have z:=q _ rfl N0 n2 (Kept.of (t'.hσ.trans t.hσ));rw[<-t'.hσ];show z
def BB{st}(h:W (Y' u) st Q):∃ks us,u=.Nu ks us/\Q () st:=by
 cases u<;>first|show(bf.mp h).elim|skip
 show#[_,_,rfl,ao.mp h]
def pC{st}(h:W (yS x) st Q):∃j,x.2=.int j/\Q j st:=by
 unfold yS at h;split at h
 .rename_i y e;rw[ao]at h;show#[y,e,h]
 .show(bf.mp h).elim
def pD{st}(h:W (sR i) st Q):∃k us,k.root=b6/\st[i]?≈bD (k,.lst us)/\Q us st:=by
 have(r,st',e,q):=h;unfold sR at e;split at e
 .rename_i k us hs;split at e
  .rename_i hk;cases e;show#[k,_,hk,hs,q]
  .cases e
 .cases e
theorem sY:∀{ks}{us},y∈ks->⇑ks=⇑us->eW ks us y=cb->False
 |[],us,h,_,_=>by cases h
 |k::ks,[],_,h,_=>by simp at h
 |k::ks,u::us,h,hl,e=>by
  by_cases hk:k=y
  .simp[eW,hk]at e
  .simp only[eW,Ś hk]at e;rcases eT.mp h with h|h
   .show hk h.symm
   .show sY h (by exists hl) e
def BC{i}{x}{G}(hu:X.A.units+60<C0)(hN:X.N[i]?≈x)(hv:Ow X.env.scope x)(hd:(x==("__debug__":Str))=cK)(NO:(x==("__classdict__":Str))=cK)
  (ha:PE X a (NF C ma)) (hb:PE X b (NF C mb)) (hm:M2 X (.Name x G) "get" e a b Nn) :
  PE X (.Call (.Attribute (.Name x G) "get" e) [a,b] [] Nn) (NF C (dG i >>= λx=>Y' x.2 >>= λ_=>ma >>= λy=>gK y >>= λy=>mb >>= λz=>lift z >>= λu=>dG i >>= λx=>M.NV (El x y u))):=by
 rintro pins s σ H Q I ⟨c0,rfl,rfl,o,h⟩;show AF ⋯ (a9 hN hv hd NO) ha hb hm pins s c0.σ c0.H Q I ?_;rw[ag]at h;have(k0,u0,ZE,OC,h):=eR h;have(v0,J,t0):=o.slot ZE OC;rw[ag]at h;have(ab,us0,f,h'):=BB h
 dsimp only at f
 subst f;have(p,Uk,rfl,g0,_):=t0.dict o;show#[.ref p,J,p,rfl,.inl #[Uk,.inl g0],?_];show aU o h' λry c vy t w=>?_;rw[ag]at w;have(ky,uy):=ry;have(y,L,w1):=iM w
 dsimp only at L
 subst L;have ev:vy=.str y:=t.rx.str t.ok;subst ev;rw[<-t.hσ];show aU t.ok w1 λz c2 vz g O=>?_;rw[ag]at O;have(S',st',u,sS,B,n1,j,T,_,_):=f9 t.ok g.ok g.nx g.rx.w O;rw[ag]at T;have(k,u1,D,Pt,w5):=eR T;have(r,d,q):=cv.mp w5;have(v1,e1,t1):=B.slot D Pt;have Y:c2.σ[i]?≈bD v1:=e1;rw[g.hσ,t.hσ,J]at Y;cases Y;cases u1<;>first|(erw[El]at d;cases d;done)|skip
 rename_i ks us;have(a1,kvs,ea,g1,g2,g3):=t1.dict B;cases ea;have Xi:c2.H p≈.dK kvs:=g1;show#[_,gN.k (k:=nc y) Xi,?_];erw[El]at d;have(l1,l2):=eQ (x:=y) g2 g3;have l:∀v:V,aM C c0 {c2 with S:=S',st:=st' } r.1 r.2 v->Q v c2.H:=λv z=>q {c2 with S:=S',st:=st' } v (g.hσ.trans t.hσ) rfl B (t.nx.trans n1) z;cases n:eW ks us y with
 |some w =>
  rw[n]at d;cases d;have(v,ev,rv):=l1 w n;rw[ev];show l v ?_;show aM.item (k:=if k.root=b6 then .bor i else k) rv
 |none =>
  rw[n]at d;cases d;have Rq:eU kvs (nc y)=cb:=by
   cases hq:eU kvs (nc y) with
   |none=>rfl
   |some v =>
    exfalso
    rw[hq]at l2;have hy:y∈ks:=⋯
    have m:⇑ks=⇑us:=by have h1:=ş NX g2;have h2:=g3.len;simp at h1 h2;lia
    show sY hy m n
  rw[Rq];show l vz j
def BD:Ki X (λo i H Q=>∃p xs j v,o=.ref p/\i=.int j/\H p≈.lst xs/\0<=j/\xs[j.toNat]?≈v/\Q v H):=by
 rintro pins s σ H o i h k Q I b c ⟨p,xs,j,v,rfl,rfl,d,h0,a,q⟩;cases b;have(t,rfl):=c;have(l,r,e,hz):=I.list (.inl (.inl d));have(w,f,g):=r.get a;have hn:=gM;have m:=(eH.mp a).1;show wpAny_getItem_list e.isList h0 ⋯ (by exists f) #[v,H,I,g,q]
def EX:WJ X (if sub=b6 then .Sub else .Add) (XO (Bd sub)):=by
 cases sub with
 |true=>show Hj
 |false=>show Hi
def Lm(hN:X.N[i]?≈x)(hv:Ow X.env.scope x)(hd:(x==("__debug__":Str))=cK)(NO:(x==("__classdict__":Str))=cK)
  (ha:PE X a (za C ma)) (hb:PE X b (NF C mb))
  (n:∀f g new,Ŏ b f g new=(do KX [new,f,g] (WB f g new);YE [new,f,g] [];pure .next)) :
  L2.PS X (.AugAssign (.Subscript (.Name x px) b p) (if sub=b6 then .Sub else .Add) a pos) (Oh C ns (sR i >>= λ_=>mb >>= λy=>yS y >>= λj=>sR i >>= λus=>M.NV (sT us j) >>= λo=>ma >>= λz=>yS z >>= λw=>modS i (gU (.int j) (.int (Bd sub o w))) >>= λ_=>pure .nx)):=by
 show PS.weak (DF (a9 hN hv hd NO) hb BD ha EX set_list n) ?_;rintro D σ H ⟨c0,rfl,rfl,J,h⟩;rw[ag]at h;have(k0,us0,V8,OC,h):=pD h;have(v0,r,QB):=J.sl i _ _ OC;have(e,rfl,_,_,_,_):=QB.rt V8;show#[.ref e,r,?_];show aU J h λry c vy t w=>?_;rw[ag]at w;have(ky,uy):=ry;have(j,L,O):=pC w
 dsimp only at L
 subst L;have ev:vy=.int j:=t.rx.int t.ok;subst ev;rw[ag]at O;have(k1,Xj,VT,Pt,Q):=pD O;rw[ag]at Q;have(o,ho,w3):=cv.mp Q;have(v1,T,s):=t.ok.sl i _ _ Pt;have(a1,rfl,_,_,_,V9):=s.rt VT;rw[t.hσ,r]at T;cases T;have(vs,Y,g2):=V9;unfold sT at ho;split at ho
 case isFalse=>cases ho
 rename_i u;split at ho
 case h_2=>cases ho
 rename_i o' ZF;cases ho;have(vo,v,A):=g2.get ZF;have B:vo=.int o:=A;subst B;show#[e,vs,j,_,rfl,rfl,Y,u,v,?_];rw[<-t.hσ];show pB t.ok w3 λz c2 vz d all2 w4=>?_;rw[ag]at w4;have(kz,uz):=z;have(w,ez,w5):=pC w4
 dsimp only at ez
 subst ez;have ev:vz=.int w:=d.rx.int d.ok;subst ev;show#[o,w,rfl,rfl,?_];rw[ag]at w5;have(k,u1,u2,hk,Qa,l,q):=iK w5;rw[ao]at q;have(v2,G,SS):=d.ok.sl i _ _ Qa;have(a2,rfl,_,_,_,V_):=SS.rt hk;have I:=G;rw[d.hσ,t.hσ,r]at G;cases G;have Xi:c2.H e≈.lst vs:=all2 _ _ Y;cases u1 with
 |lst xs =>
  erw[gU,g7]at l;have(m,R7,rfl):=l;have(ab,l1,l2):=V_;rw[Xi]at l1;cases l1;show#[e,vs,j,m,rfl,rfl,Xi,by rw[<-l2.len];show R7,?_];have(PY,n3):=Ok.mod (c:=c2) (H':=upd c2.H e (.lst (vs.set m (.int (Bd sub o w))))) (u':=.lst (xs.set m (.int (Bd sub o w)))) d.ok (t.nx.trans d.nx).toNs hk Qa I (λa ne=>ai ne) ⟨_,aj⟩ λmv=>#[_,aj,(l2.mv mv).set m rfl]
  have z:=q _ rfl PY n3 (Kept.of (d.hσ.trans t.hσ));rw[<-d.hσ];show z
 |Nu ks vs=>simp[gU]at l
 |_=>simp[gU]at l
def EY{ks:↑Str}(c:kvs.map (·.1)=ks.map nc)(d:kvs.map (·.2)=ns.map V.int):kvs=(ks.zip ns).map λp=>((nc p.1:Key),V.int p.2):=by
 induction kvs generalizing ks ns with
 |nil =>
  simp_all
 |cons kv kvs e =>
  cases ks with
  |nil=>cases c
  |cons k ks =>
   cases ns with
   |nil=>cases d
   |cons n ns =>
    have(a,b):=kv;erw[i6,SO]at c d;have(rfl,c):=c;have(rfl,d):=d;rw[e c d];rfl
theorem aq.of_map{S:hH->Prop}{f:α->U}{g:α->V}:∀{l:↑α},(∀x∈l,Rep C S H (f x) (g x))->aq C S H (l.map f) (l.map g)
 |[],_=>rfl
 |x::l,h=>#[g x,_,rfl,h x ⋯,aq.of_map λy a=>h y (by simp[a])]
def EZ(hc:X.calm=b6)(hK:C.K=X.K)(hg:Gl X "sorted")(hm:X.mg "sorted"=cb)(hN:X.N[i]?≈x)(hv:Ow X.env.scope x)(hd:(x==("__debug__":Str))=cK)(NO:(x==("__classdict__":Str))=cK)(NK:(b.endLine==l.line)=b6):
  PE X (.Call (.Name "sorted" p) [.Call (.Attribute (.Name x n) "items" b) [] [] l] [] pos) (NF C (dG i >>= λx=>M.NV (A_ x.2))):=by
 rintro pins s σ H Q I ⟨c0,rfl,rfl,m,h⟩;show nS (dB I hg hm (show sx "sorted"≈.builtin "sorted" by decide +kernel) ?_ (by decide +kernel) (by decide +kernel));rw[ag]at h;have(k0,u0,ZE,OC,h):=eR h;have(v0,e0,t0):=m.slot ZE OC;have(r,c,g):=cv.mp h
 dsimp only at c
 unfold A_ at c;split at c
 rotate_left
 .cases c
 rename_i ks us;rw[ki]at c;have(ns,en,c):=c;split at c
 rotate_left
 .cases c
 rename_i ZG;cases c;have(R9,NI,G):=ZG;have(d,kvs,rfl,k,V8,J):=t0.dict m;rw[ll en]at J;have ZD:=EY V8 (aq.ints J);subst ZD;have ek:((ks.zip ns).map (·.1))=ks:=é ⋯;have f:‹X› (p8 (.Call (.Attribute (.Name x n) "items" b) [] [] l) X.env) (λv s1=>‹X› (Qo (.builtin "sorted") [v]) (EP X pins c0.σ Q) X.xe s1) X.xe s:=by
  show Ë rfl NK (Ny (a9 hN hv hd NO pins s c0.σ c0.H (λv O=>v=.ref d/\O=c0.H) I ⟨_,e0,rfl,rfl⟩) λv s1 ZH=>?_);have(x1,O,Y,r1,z1,z2):=ZH;subst z1 z2;cases(show v=ku d from r1);have(h1,h2):=ql (T:="dict") Y (x:=.ref d) rfl (.inr (.inr (.inl #[rfl,.inl #[_,k]])));show#["dict","dict.items",F.plainAttrs_dict,F.slot_dict_items,F.type_dict_items,h1,h2,ur rfl (PySem.evalArgs_none (qI hc Y k (by rw[ek];show NI) (by rw[Yw];lia) λas L hl nd SU hL=>?_))];have q:c0.H L=cb:=SU L ⋯;have t:(as.zip ((ks.zip ns).map RL)).map (·.1)=as:=é (by rw[ei];lia);have u:∀p∈as.zip ((ks.zip ns).map RL),p.1∈as:=λp B=>(TU B).1;have same:fV c0.H (upd (lU c0.H (as.zip ((ks.zip ns).map RL))) L (.lst ((lR ((ks.zip ns).map (·.1))).map λi=>V.ref (as.getD i 0)))):=λa o e=>by
   have n1:a≠L:=λy=>by rw[y,q]at e;cases e
   rw[ai n1,ni λp B y=>?_]
   .show e
   .have:=SU p.1 (by simp[u p B]);rw[y,e]at this;cases this
  have(NM,n'):=m.grow (S':=c0.S) same (λa z=>.inl z) λa z=>z;have(q1,q2,q3,q4,q5):=m.jP q;show g {c0 with H:=upd (lU c0.H (as.zip ((ks.zip ns).map RL))) L (.lst ((lR ((ks.zip ns).map (·.1))).map λi=>V.ref (as.getD i 0))),S:=c0.S} _ rfl rfl NM n' ⟨L,rfl,q,q2,q5,_,aj,?_⟩;change aq C c0.S _ ((Eh (ks.zip ns)).map yR) _;unfold Eh;rw[i8];show aq.of_map λj hj=>?_;have R7:j<⇑(ks.zip ns):=by
   have:=uv.mp ((iH _).mem_iff.mp hj);rw[ei]at this;show this
  have YT:j<⇑as:=⋯
  have e1:(ks.zip ns).getD j (nH,0)=(ks.zip ns)[j]:=(List.getElem_eq_getD _).symm;have e2:as.getD j 0=as[j]:=by simp[S3,YT]
  change Rep C c0.S _ (yR ((ks.zip ns).getD j (nH,0))) (V.ref (as.getD j 0));rw[e1,e2];show#[as[j],RL (ks.zip ns)[j],rfl,Oc.of ?_,#[_,_,rfl,rfl,_,_,rfl,rfl,rfl]];have N3:as[j]≠L:=λy=>hL (by rw[<-y];simp);show(ai N3).trans (xg (by rw[t];show nd) (vs:=RL (ks.zip ns)[j]) ?_);show Wr.mpr #[j,by rw[Yw,ei];lia,?_];simp
 have eb:vl pos (i0 [.Call (.Attribute (.Name x n) "items" b) [] [] l] X.env)=[(cK,p8 (.Call (.Attribute (.Name x n) "items" b) [] [] l) X.env)]:=rfl;have D:Ut pos (PK [] X.env)=[]:=rfl;rw[eb,D];show Br f
@[reducible]noncomputable def RT(P:sd)(w:wk)(K:W.Frag)(H:Hp)(a IO:hH->Prop):Ct:=#[P,w,K,H,a,IO,λ_ _=>False]
def OL.nth(t:OL C c0 c rs vs){i:Nat}(h:rs[i]?≈r):∃v,vs[i]?≈v/\aM C c0 c r.1 r.2 v:=by
 have d:∀(l:↑(Kd×U)) (w:↑V),eu C c0 c l w->bg l c.st->∀(i:Nat) (r:Kd×U),l[i]?≈r->∃v,w[i]?≈v/\aM C c0 c r.1 r.2 v:=by
  intro l;induction l with
  |nil=>intro w _ _ i r e;simp at e
  |cons x l f =>
   intro w h hs i r e;have(v,t',rfl,g,j,_):=h;rw[eO]at hs;cases i with
   |zero=>simp at e;subst e;show#[v,rfl,g.t hs.1]
   |succ i=>have(k,a,b):=f t' j hs.2 i r (by exists e);show#[k,by simpa using a,b]
 show d rs vs t.rep t.RO i r h
def OL.len(t:OL C c0 c rs vs):⇑rs=⇑vs:=by
 have:=t.read.len;rw[ei]at this;show this
section
variable{X:Cx}{C:Ct}{a:jw}{ma:M (Kd×U)}{apos Nn:Pos}{i:Nat}{x:Str}{px:Pos}
def Ok.Ln(b:Ok C c)(hk:k.root=b6)(hs:c.st[i]?≈bD (k,.lst us)):∃a vs,c.σ[i]?≈bD (.ref a)/\c.H a≈.lst vs/\aq C c.S c.H us vs:=by
 have(v,d,e):=b.sl i k _ hs;have(r,rfl,_,_,_,vs,f,g):=e.rt hk;show#[r,vs,d,f,g]
def Ok.out(f:Ok C c)(n:Nx c0 c)(j:c.σ=c0.σ)(hk:k.root=b6)(hs:c.st[i]?≈bD (k,.lst us))(g:c.σ[i]?≈bD (.ref r))(l:aq C c.S c.H h b)(m:Rep C c.S c.H u v)(w:cZ C c0 Q (.loc,u) (c.st.set i (bD (k,.lst h)))):Q v (upd c.H r (.lst b)):=by
 have d:Mv c.S c.H c.S (upd c.H r (.lst b)):=by
  have(I,p,q):=f.sl i k _ hs;rw[g]at p;have(J,L,N,_,_,s):=q.rt hk;have(o,ho,y):=s.some;show#[λ_ z=>z,λa A e t=>by rw[ai (λz=>by simp_all)];show e,λa A z e=>by rw[ai (λO=>by simp_all)];show e]
 have(B,D):=f.mod  (u':=.lst h) n.toNs hk hs g (λa ne=>ai ne) ⟨_,aj⟩ λG=>#[b,aj,l.mv G]
 show w {c with H:=upd c.H r _,st:=c.st.set i _} v j rfl B ⟨D⟩ (m.mv d)
def E1(g:X.N[i]?≈x)(j:Ow X.env.scope x)(l:(x==("__debug__":Str))=cK)(m:(x==("__classdict__":Str))=cK)(n:(apos.endLine==Nn.line)=b6)(o:C.K=X.K):
  PE X (.Call (.Attribute (.Name x px) "pop" apos) [] [] Nn) (NF C (Ba i)):=by
 show PE.weak (Ay F.plainAttrs_list F.slot_list_pop F.type_list_pop AA (a9 g j l m) rfl n) ?_;rintro σ H Q ⟨c0,rfl,rfl,c,h⟩;have(r,st',e,w):=h;unfold Ba at e;split at e
 .rename_i k us hs;split at e
  .rename_i hk;split at e
   .rename_i u q;cases e;have(p,vs,d,f,b):=c.Ln hk hs;have(v,s,t):=b.get q;have hl:=b.len;show#[_,d,.inl #[rfl,vs,o▸N5.of f],p,vs,v,rfl,rfl,f,by rw[<-hl];show s,?_];show c.out (Nx.refl c0) rfl hk hs d ?_ t w;rw[SN,SN,hl];show b.take _
   .cases e
  .cases e
 .cases e
end
structure PZ(K:W.Frag)(d:Bool)(cl:hH):Prop where
 hc:Ri K d cl
 cls:RC K cl
 na:∀x∈(["rows","earlier","shelf"]:↑Str),jf K cl x
theorem sZ:∀{us},d6 us=b6↔∀u∈us,NT u=b6
 |[]=>by simp[d6]
 |u::us=>by rw[d6,cc,sZ];simp
section
variable{X:Cx}{C:Ct}{pins:List (hH×Obj)}{s:i4}{c0 c c1:Cf}{i:Nat}{x:Str}{px apos p1 p2 pos Nn:Pos}{u:U}{us:List U}
def Ok.BE(d:Ok C c)(hs:c.st[i]?≈bD (.A',.ob cK u us)):∃r cl b v a vs,c.σ[i]?≈bD (.ref r)/\c.kid i=[a]/\QI C c.S c.H r a u us cl b v vs:=by
 have(h,e,r,rfl):=d.sl i _ _ hs;have(cl,b,v,a,vs,f,g):=d.dd.kd i _ r hs e;show#[r,cl,b,v,a,vs,e,f,g]
def Ri.one{K}(h:Ri K d cl)(h':Ri K d a):cl=a:=by
 rw[Ri,h']at h;simp_all
def s9{st}(h:W (Ss i) st Q):∃u us,st[i]?≈bD (.A',.ob cK u us)/\Q (u,us) st:=by
 have(p,st',e,h):=h;unfold Ss at e;split at e
 .rename_i u us hs;cases e;show#[u,us,hs,h]
 .cases e
def s_{st}(h:W (Su i f) st Q):∃u us w ws,st[i]?≈bD (.A',.ob cK u us)/\f u us≈(w,ws)/\NT w=b6/\d6 ws=b6/\Q () (st.set i (bD (.A',.ob cK w ws))):=by
 have(p,st',e,h):=h;unfold Su at e;split at e
 .rename_i u us hs;split at e
  .rename_i w ws a;split at e
   .rename_i z;cases e;show#[u,us,w,ws,hs,a,z.1,z.2,h]
   .cases e
  .cases e
 .cases e
def BF(K:PZ X.K cK cl)(d:C.K=X.K)(e:X.N[i]?≈x)(f:Ow X.env.scope x)(g:(x==("__debug__":Str))=cK)(j:(x==("__classdict__":Str))=cK):
  PE X (.Attribute (.Name x px) "rows" pos) (NF C (Ss i >>= λp=>pure (.loc,p.1))):=by
 show PE.weak (qd (a9 e f g j) rfl) ?_;rintro σ H Q ⟨c0,rfl,rfl,b,h⟩;rw[ag]at h;have(u,us,hs,h):=s9 h;have(r,m,k,v,a,vs,l,_,o):=b.BE hs;cases(K.hc).one (d▸o.hc);rw[ao]at h;show#[_,l,r,cl,k,_,v,rfl,o.ins,K.cls,(K.na _ ⋯),rfl,h c0 v rfl rfl b (Nx.refl c0) o.rep]
def vJ(a:X.N[i]?≈x)(b:Ow X.env.scope x)(d:(x==("__debug__":Str))=cK)(e:(x==("__classdict__":Str))=cK):PE X (.Attribute (.Name x px) "earlier" pos) (Hu X.K (lP i) "earlier"):=qd (a9 a b d e) rfl
def QI.ZI{S}(K:PZ X.K cK cl)(b:C.K=X.K)(o:QI C S H r a u us f d v vs)(e:σ[i]?≈bD (V.ref r))(q:Q (.ref a) H):Hu X.K (lP i) "earlier" σ H Q:=by
 cases(K.hc).one (b▸o.hc);show#[_,e,r,cl,d,_,_,rfl,o.ins,K.cls,(K.na _ ⋯),rfl,q]
def BG(K:PZ X.K cK cl)(d:C.K=X.K)(hu:X.A.units+60<C0)(k:X.N[i]?≈x)(m:Ow X.env.scope x)(n:(x==("__debug__":Str))=cK)(q:(x==("__classdict__":Str))=cK):
  PT X (.Compare (.Attribute (.Name x px) "earlier" p1) [.Eq] [.List [] p2] pos) (OT C (Ss i >>= λp=>if Og 50 (.lst p.2)=b6 then pure p.2.isEmpty else M.fail)):=by
 rintro pins s σ H Q I ⟨c0,rfl,rfl,b,h⟩;rw[ag]at h;have(u,us,hs,h):=s9 h;have(r,SA,dx,v,a,vs,t,_,o):=b.BE hs
 dsimp only at h
 split at h
 rotate_left
 .show(bf.mp h).elim
 rename_i w;rw[ao]at h;show Qz (bin (R:=λx y j=>x=.ref a/\∃l,y=.ref l/\c0.H l=cb/\j=upd c0.H l (.lst [])) (vJ k m n q) (uO cB) I (o.ZI K d t #[kj _,λl hl=>#[rfl,l,rfl,hl,rfl]]) λv' u' s2 x y j f B D ⟨G,l,J,hl,L⟩=>?_) rfl;subst G J L;have(O,g):=b.lay  hl;have T:a≠l:=λz=>by have:=o.lst;simp_all
 have Y:Rep C (λy=>c0.S y\/y=a\/y=l) (upd c0.H l (.lst [])) (.lst us) (.ref a):=#[a,vs,rfl,.inl #[.inr (.inl rfl),.inl (by rw[ai T];show o.lst)],o.Px.mv #[λy z=>.inl z,(b.mv g.toNs).U3,(b.mv g.toNs).W3]]
 have r2:Rep C (λy=>c0.S y\/y=a\/y=l) (upd c0.H l (.lst [])) (.lst []) (.ref l):=#[l,[],rfl,.inl #[.inr (.inr rfl),.inl aj],rfl]
 have z:=(Ij (A:=X.A)  (.of f d _ _ _ _ w Y B) (.of f d _ _ _ _ (by rfl) r2 D) ⋯).1;show z _ _ _ _ (q9 #[_,f,?_]);have e:bZ (.lst us) (.lst [])=us.isEmpty:=by cases us<;>rfl
 rw[e];show h {c0 with H:=upd c0.H l (.lst [])} rfl rfl O g
def Ok.BH(y:Ok C c)(n:Ns c0 c)(hs:c.st[i]?≈bD (.A',.ob cK u us))(f:c.σ[i]?≈bD (.ref r))(hk:c.kid i=[a])(o:QI C c.S c.H r a u us cl k v vs)
 (l:∀b,b≠r->b≠a->H' b=c.H b) (A:H' r≈.ins cl k (Td m a)) (B:H' a≈.lst p) (D:NT w=b6) (g:d6 ws=b6) (h:Rep C c.S c.H w m) (rws:aq C c.S c.H ws p) :
    ∃d,d.H=H'/\d.σ=c.σ/\d.S=c.S/\d.st=c.st.set i (bD (.A',.ob cK w ws))/\Ok C d/\Ns c0 d:=by
  have(G,I):=y.EU  (u':=.ob cK w ws)  n hs f (λb z=>l b (λq=>z #[_,_,hs,f,.inl q]) λq=>z #[_,_,hs,f,.inr ⋯]) (λb J e=>by
      by_cases L:b=r
      . simp_all
      . by_cases N:b=a
        . simp_all
        . show#[J,by rw[l b L N];show e])
    (λt=>#[cl,k,m,a,p,rfl,o.hc,A,o.ne,o.fr,D,h.mv t,B,g,rws.mv t]) (λb O=>.inl (by rw[hk];show O))
  show#[{c with H:=H',st:=c.st.set i _,kid:=λj=>if j=i then [a] else c.kid j},rfl,rfl,rfl,rfl,G,I]
def BI(K:PZ X.K cK cl)(j:C.K=X.K)(k:X.N[i]?≈x)(l:Ow X.env.scope x)(m:(x==("__debug__":Str))=cK)(n:(x==("__classdict__":Str))=cK)(p:(apos.endLine==Nn.line)=b6):
  PE X (.Call (.Attribute (.Attribute (.Name x px) "earlier" p1) "pop" apos) [] [] Nn) (NF C (lW i)):=by
 show PE.weak (Ay F.plainAttrs_list F.slot_list_pop F.type_list_pop AA (vJ k l m n) rfl p) ?_;rintro σ H Q ⟨c0,rfl,rfl,d,Y,st',e,h⟩;unfold lW at e;split at e
 .rename_i u us hs;split at e
  .rename_i w q;cases e;have(r,SA,dx,v,a,vs,f,hk,o):=d.BE hs;have(y,t,z):=o.Px.get q;have hl:=o.Px.len;show o.ZI K j f #[.inl #[rfl,vs,N5.of o.lst],a,vs,y,rfl,rfl,o.lst,by rw[<-hl];show t,?_];have A:aq C c0.S c0.H us.dropLast vs.dropLast:=by
    rw[SN,SN,hl];show o.Px.take _
   have B:d6 us.dropLast=b6:=by
    have:=o.VZ;rw[sZ]at this ⊢;show λx D=>this x (List.dropLast_subset _ D)
   have(G,I,J,h3,L,O,g):=d.BH (Ns.refl c0) hs f hk o (H':=upd c0.H a _) (λb z1 z2=>ai z2) (by rw[ai o.ne];show o.ins) aj o.im B o.rep A;have T:=d.mv g;rw[<-I];show h G y J L O #[g] (z.mv T)
  .cases e
 .cases e
end
def Ok.M3(f:Ok C c)(n:Ns c0 c)(hi:i<⇑c.σ)(Q:ba C c.S c.H r as u)(A:∀b∈r::as,¬c.R b/\c0.H b=cb):
  Ok C {c with σ:=c.σ.set i (bD (.ref r)),st:=c.st.set i (bD (.A',u)),kid:=λj=>if j=i then as else c.kid j}/\Ns c0 {c with σ:=c.σ.set i (bD (.ref r)),st:=c.st.set i (bD (.A',u)),kid:=λj=>if j=i then as else c.kid j}:=by
 have D:i<⇑c.st:=by rw[f.len];show hi
 have B:∀(j:Nat) k w,(c.st.set i (bD (.A',u)))[j]?≈bD (k,w)->j≠i->c.st[j]?≈bD (k,w):=λj k w e ne=>by rw[hQ (mh ne)]at e;show e
 have q:∀(j:Nat),j≠i->(c.σ.set i (bD (.ref r)))[j]?=c.σ[j]?:=λj ne=>hQ (mh ne);have G:∀(j:Nat) k w,k.root=b6->(c.st.set i (bD (.A',u)))[j]?≈bD (k,w)->j≠i/\c.st[j]?≈bD (k,w):=λj k w hk e=>by
  by_cases d:j=i
  .subst d;rw[fx D]at e;cases e;cases hk
  .show#[d,B j k w e d]
 have b1:∀a,({c with σ:=c.σ.set i (bD (.ref r)),st:=c.st.set i (bD (.A',u)),kid:=λj=>if j=i then as else c.kid j}:Cf).R1 a->c.R1 a:=λa I=>by
  have(j,k,w,hk,g,h):=I;have(d,T):=G j k w hk g;show#[j,k,w,hk,T,by rw[<-q j d];show h]
 have s:∀j a,({c with σ:=c.σ.set i (bD (.ref r)),st:=c.st.set i (bD (.A',u)),kid:=λj=>if j=i then as else c.kid j}:Cf).RD j a->(j≠i/\c.RD j a)\/(j=i/\a∈r::as):=λj a I=>by
  have(w,l,g,h,e3):=I;by_cases d:j=i
  .subst d;have t:(c.σ.set j (bD (.ref r)))[j]?≈bD (.ref l):=h;rw[fx hi]at t;cases t;rcases e3 with rfl|e3
   .show .inr #[rfl,by simp]
   .show .inr #[rfl,f7 _ (by exists e3)]
  .have Y:a=l\/a∈c.kid j:=by simpa[d] using e3
   show .inl #[d,w,l,B j _ w g d,by rw[<-q j d];show h,Y]
 show#[#[f.same,f.O3,f.par,f.io,by simp[f.len],λj k w e=>?_,λp m k1 k2 J L l N O g h e3 e4=>?_,#[λj w l g h=>?_,λp m a z1 z2=>?_,λj a z1 z2=>?_]],#[n.keep,n.there,λa z=>?_,n.sub,n.new]]
 .by_cases d:j=i
  .subst d;rw[fx D]at e;cases e;show#[.ref r,fx hi,r,rfl]
  .have(v,g,h):=f.sl j k w (B j k w e d);show#[v,(q j d).trans g,h]
 .have(Rf,a1):=G p k1 J N g;have(Rg,a2):=G m k2 L O h;show f.inj p m k1 k2 J L l N O a1 a2 ((q p Rf).symm.trans e3) ((q m Rg).symm.trans e4)
 .by_cases d:j=i
  .subst d;rw[fx D]at g;cases g;have t:(c.σ.set j (bD (.ref r)))[j]?≈bD (.ref l):=h;rw[fx hi]at t;cases t;change ba C c.S c.H r (if j=j then as else c.kid j) u;rw[ř rfl];show Q
  .have z:=f.dd.kd j w l (B j _ w g d) ((q j d).symm.trans h);change ba C c.S c.H l (if j=i then as else c.kid j) w;rw[Ś d];show z
 .rcases s p a z1 with⟨_,o⟩|⟨rfl,o⟩
  .rcases s m a z2 with⟨_,x⟩|⟨rfl,x⟩
   .show f.dd.dj p m a o x
   .show((A a x).1 (.inr #[p,o])).elim
  .rcases s m a z2 with⟨_,x⟩|⟨rfl,_⟩
   .show((A a o).1 (.inr #[m,x])).elim
   .rfl
 .rcases s j a z1 with⟨_,o⟩|⟨rfl,o⟩
  .show f.dd.d1 j a o (b1 a z2)
  .show(A a o).1 (.inl (b1 a z2))
 .rcases z with z|⟨j,z⟩
  .show n.roots a (.inl (b1 a z))
  .rcases s j a z with⟨_,y⟩|⟨_,y⟩
   .show n.roots a (.inr #[j,y])
   .show .inr (A a y).2
def IQ(K:PZ X.K cK cl)(y:C.K=X.K)(A:X.N[i]?≈x)(B:Ow X.env.scope x)(G:(x==("__debug__":Str))=cK)(I:(x==("__classdict__":Str))=cK)(J:PE X e (NF C m))(hs:Qv e (bD (.Attribute (.Name x L) "rows" O)) pos.line X.env=pure cK):
  L2.PS X (.Assign [.Attribute (.Name x L) "rows" O] e pos) (Oh C ns (m >>= λr=>lift r >>= λu=>Su i (λ_ us=>bD (u,us)) >>= λ_=>pure .nx)):=by
 show PS.weak (qe (a9 A B G I) J hs) ?_;rintro D σ H ⟨c0,rfl,rfl,j,h⟩;show aU j h λr c v t w=>?_;rw[ag]at w;have(S',st',u,sS,k,Q,d,l,_,_):=f9 j t.ok t.nx t.rx.w w;rw[ag]at l;have(u0,us,w',ws,hs,T,Y,i2,q):=s_ l;cases T;rw[ao]at q;have(f,SA,n,v0,a,vs,p,hk,o):=k.BE hs;cases(K.hc).one (y▸o.hc);have OD:c0.σ[i]?≈bD (.ref f):=by rw[<-t.hσ];show p
 show#[_,OD,f,cl,n,_,rfl,o.ins,K.cls,(K.na _ ⋯),by change 2<1000;lia,?_];have(g,h1,s,h3,h4,NM,n'):=k.BH  Q.toNs hs p hk o (H':=upd c.H f (.ins cl n (fu "rows" v (Td v0 a))))   (λb z1 z2=>ai z1) (by rw[aj];rfl) (by rw[ai (mh o.ne)];show o.lst) Y o.VZ d o.Px;have z:=q g h4 NM n' (Kept.of (s.trans t.hσ));rw[show Fin C D .nx g=D.nx _ g.H from rfl,h1,s]at z;rw[<-t.hσ];show z
def IS(K:PZ X.K cK cl)(g:C.K=X.K)(j:X.N[i]?≈x)(k:Ow X.env.scope x)(l:(x==("__debug__":Str))=cK)(m:(x==("__classdict__":Str))=cK)(s:(c.endLine==t.line)=b6):
  L2.PS X (.Expr (.Call (.Attribute (.Attribute (.Name x L) "earlier" O) "append" c) [.Attribute (.Name x p2) "rows" Q] [] t) pos) (Oh C ns (Su i Ek >>= λ_=>pure .nx)):=by
 show PS.weak (iE (o_ F.plainAttrs_list F.slot_list_append F.type_list_append iF (vJ j k l m) (bA (qd  (a9 j k l m) rfl) cB) rfl rfl s rfl rfl)) ?_;rintro D σ H ⟨c0,rfl,rfl,n,h⟩;rw[ag]at h;have(u,us,w,ws,hs,d,T,y,q):=s_ h;unfold Ek at d;split at d
 rotate_left
 .cases d
 cases d;rw[ao]at q;have(r,Y,A,v,a,vs,e,hk,o):=n.BE hs;have hl:=o.Px.len;unfold Aj VB;show o.ZI K g e #[.inl #[rfl,vs,N5.of o.lst],?_];cases(K.hc).one (g▸o.hc);show#[_,e,r,cl,A,_,v,rfl,o.ins,K.cls,(K.na _ ⋯),rfl,a,vs,v,rfl,rfl,o.lst,⋯,?_];have(f,B,p,h3,G,I,J):=n.BH  (Ns.refl c0) hs e hk o  (λb z1 z2=>ai z2) (by rw[ai o.ne];show o.ins) aj o.im y o.rep (o.Px.snoc o.rep);have z:=q f G I J (Kept.of p);rw[show Fin C D .nx f=D.nx _ f.H from rfl,B,p]at z;show z
abbrev spN(cl:hH):Sp:=λvs H Q _=>∃x a,vs=[.ref x]/\H x≈.ins cl a []/\∀t l,H t=cb->H l=cb->t≠l->Q .Nt (upd (upd (upd H t (.tup [])) l (.lst [])) x (.ins cl a (Td (.ref t) l)))
abbrev nmA:jw->Bool
 |.Name a _=>df (a="self")
 |_=>cK
abbrev atA(n:Str):jw->Bool
 |.Attribute o b _=>nmA o&&df (b=n)
 |_=>cK
abbrev Um(n:Str)(k:jw->Bool):ve->Bool
 |.Assign ts e _=>(df (⇑ts=1)&&ts.all (atA n))&&k e
 |_=>cK
abbrev IT:jw->Bool
 |.Tuple es _ _=>es.isEmpty
 |_=>cK
abbrev IU:jw->Bool
 |.List es _=>es.isEmpty
 |_=>cK
abbrev ZK:↑ve->Bool
 |[a,b]=>Um "rows" IT a&&Um "earlier" IU b
 |_=>cK
def BJ(h:ZK b=b6):∃s1 a,b=[s1,a]/\Um "rows" IT s1=b6/\Um "earlier" IU a=b6:=by
 cases b with
 |nil=>cases h
 |cons s1 b =>
  cases b with
  |nil=>cases h
  |cons a b =>
   cases b with
   |nil=>show#[s1,a,rfl,n7.mp (h)]
   |cons _ _=>cases h
def BK(h:atA n t=b6):∃c p2,t=.Attribute (.Name "self" c) n p2:=by
 cases t with
 |Attribute o b p2 =>
  have(d,e):=n7.mp (h);cases Ŝ e;cases o with
  |Name a c=>cases Ŝ (d);show#[c,p2,rfl]
  |_=>cases d
 |_=>cases h
def nG(h:Um n k s=b6):∃a p2 b e,s=.Assign [.Attribute (.Name "self" a) n p2] e b/\k e=b6:=by
 cases s with
 |Assign ts e b =>
  have h:((decide _&&ts.all _)&&k e)=b6:=h;erw[cc,Ř]at h;have((c,d),f):=h;have(t,rfl):=VW.mp c;have(a,p2,rfl):=BK (lx.mp d t ⋯);show#[a,p2,b,e,rfl,f]
 |_=>cases h
def zb(h:IT e=b6):∃p q,e=.Tuple [] p q:=by
 cases e with
 |Tuple es p q=>cases oa.mp (h);show#[p,q,rfl]
 |_=>cases h
def zc(h:IU e=b6):∃p,e=.List [] p:=by
 cases e<;>first|(cases oa.mp h;show#[_,rfl])|cases h
def E2{K}{st}(F:QV K "__init__" o st f u)(S:da ["self"] ["self"] (aD st))(v:ZK (bO st)=b6)(p:Ow (aD st) "self")(E:PZ K cK cl):
  dE P w K mg base SW (k+1) f u ["self"] (spN cl):=by
 show F.ok S (λvs H Q E h=>by have(x,a,rfl,_):=h;rfl) λD A outer s H vs Q G I h=>?_;have(s1,J,B,C,d):=BJ v;have(_,_,_,L,rfl,k1):=nG C;have(_,_,_,N,rfl,k2):=nG d;have(_,_,rfl):=zb k1;have(_,rfl):=zc k2;rw[B];have(x,a,rfl,b,q):=h;show#[_,dw (qe (a9 (i:=0) rfl p) (uN cB) rfl) (dw (qe (a9 (i:=0) rfl p) (uO cB) rfl) iD),?_];show#[kj _,λt g=>#[_,rfl,x,cl,a,[],rfl,?_,E.cls,(E.na _ ⋯),by decide,?_]]
 .rw[ai (λz=>by rw[z,g]at b;cases b)];show b
 .have j:x≠t:=λz=>by rw[z,g]at b;cases b
  show#[kj _,λl hl=>#[_,rfl,x,cl,a,fu "rows" (.ref t) [],rfl,?_,E.cls,(E.na _ ⋯),by change 1<1000;decide,?_]]
  .have m:x≠l:=λz=>by rw[<-z,aj]at hl;cases hl
   rw[ai m,aj]
  .have m:x≠l:=λz=>by rw[<-z,aj]at hl;cases hl
   have r:t≠l:=λz=>by rw[<-z,ai (mh j),aj]at hl;cases hl
   have z:=q t l g (by rw[ai (mh m),ai (mh r)]at hl;show hl) r;have e:upd (upd (upd (upd H t (.tup [])) x (.ins cl a (fu "rows" (.ref t) []))) l (.lst [])) x (.ins cl a (fu "earlier" (.ref l) (fu "rows" (.ref t) [])))=upd (upd (upd H t (.tup [])) l (.lst [])) x (.ins cl a (Td (.ref t) l)):=by
    funext y
    by_cases c:y=x
    .subst c;rw[aj,aj];rfl
    .rw[ai c,ai c];by_cases n:y=l
     .subst n;rw[aj,aj]
     .rw[ai n,ai n,ai c]
   change Q .Nt _;simp_all
abbrev IW:jw->Bool
 |.Call f as ks _=>(match f with|.Name a _=>df (a="Shelf")|_=>cK)&&(as.isEmpty&&ks.isEmpty)
 |_=>cK
def zd(h:IW e=b6):∃p q,e=.Call (.Name "Shelf" p) [] [] q:=by
 cases e with
 |Call f as ks q =>
  cases f with
  |Name a p =>
   have h:(decide _&&(as.isEmpty&&ks.isEmpty))=b6:=h;simp_all
  |_=>cases h
 |_=>cases h
abbrev IX:↑ve->Bool
 |[a]=>Um "shelf" IW a
 |_=>cK
def ze(h:IX b=b6):∃s,b=[s]/\Um "shelf" IW s=b6:=by
 cases b with
 |nil=>cases h
 |cons s b =>
  cases b with
  |nil=>show#[s,rfl,h]
  |cons _ _=>cases h
structure NwD(cl cd x dd:hH)(H H':Hp)(r t l dx:hH):Prop where
 old:∀y o,y≠x->H y≈o->H' y≈o
 hr:H r=cb
 hl:H l=cb
 ne:r≠l
 dk:H' x≈.ins cd dd [("shelf",.ref r)]
 sh:H' r≈.ins cl dx (Td (.ref t) l)
 ls:H' l≈.lst []
 tu:H' t≈.tup []
abbrev ZM(cl a:hH):Sp:=λvs H Q _=>∃x dd,vs=[.ref x]/\H x≈.ins a dd []/\∀H' r t l b,NwD cl a x dd H H' r t l b->Q .Nt H'
def BL{K}{st}(F:QV K "__init__" p st f B)(S:da ["self"] ["self"] (aD st))(C:IX (bO st)=b6)(D:Ow (aD st) "self")(I:∀X,X.env.scope=aD st->Gl X "Shelf")(E:PZ K b6 u)
  (M:Mk K cl J) (G:dE P w K mg base SW 1 J j ["self"] (spN cl)) (k:Binds K j ["self"] []) (L:mg "Shelf"≈.ref cl):dE P w K mg base SW 3 f B ["self"] (ZM cl u):=by
 show F.ok S (λvs H Q E h=>by have(x,a,rfl,_):=h;rfl) λOJ A outer s H vs Q E' N h=>?_;have(s1,O,T):=ze C;have(_,_,_,e1,rfl,k1):=nG T;have(_,_,rfl):=zd k1;rw[O];have(x,dd,rfl,d,q):=h;show#[_,dw (qe (a9 (i:=0) rfl D) (r6 M G N (I _ rfl) L k .nil Gh) rfl) iD,?_];intro r a g Y N3;show#[r,a,rfl,aj,λt l b hl SD=>#[rfl,?_]];have v:t≠r:=λz=>by rw[z,aj]at b;cases b
 have m:l≠r:=λz=>by rw[z,aj]at hl;cases hl
 rw[ai v]at b;rw[ai m]at hl;have ZN:t≠a:=λz=>by rw[z,aj]at b;cases b
 have n:l≠a:=λz=>by rw[z,aj]at hl;cases hl
 rw[ai ZN]at b;rw[ai n]at hl;have c:∀y o,H y≈o->upd (upd (upd (upd (upd H a (.own r)) r (.ins cl a [])) t (.tup [])) l (.lst [])) r (.ins cl a (Td (.ref t) l)) y≈o:=λy o e=>by
  rw[ai (av e g),ai (av e hl),ai (av e b),ai (av e g),ai (av e Y)];show e
 show#[_,rfl,x,u,dd,[],rfl,c x _ d,E.cls,E.na _ ⋯,by decide,?_];show q _ r t l a #[λy o z e=>by rw[ai z];show c y o e,g,hl,mh m,aj,by rw[ai (mh (av d g)),aj],by rw[ai (mh (av d hl)),ai m,aj],by rw[ai (mh (av d b)),ai v,ai SD,aj]]
structure IY(C:Ct)(H:Hp)(r:hH)(as:↑hH)(o:U)(us:↑U)(vs:↑V):Prop where
 par:∀x,C.O2 x->PL H x/\¬C.IO x
 iod:∀x,C.IO x↔x∈r::as
 ob:ba C (λ_=>False) H r as o
 any:aq C C.O2 H us vs
structure tf(C:Ct)(H H':Hp)(S':hH->Prop)(r:hH)(o:U)(k:Kd)(u:U)(v:V):Prop where
 same:∀x y,H x≈y->¬C.IO x->H' x≈y
 there:∀x y,H x≈y->∃y',H' x≈y'
 new:∀x,S' x->H x=cb/\∃y,H' x≈y
 ob:∃as',(∀a∈as',C.IO a\/H a=cb)/\ba C S' H' r as' o
 loc:k=.loc->Rep C S' H' u v
abbrev Tn(P:sd)(w:wk)(K:W.Frag)(F:↑U->Option (Ex (Kd×U)))(f:Nat):Sp:=λvs H Q E=>⇑vs=f/\∃r b us d u0 us0 k u o as a IO,vs=.ref r::b/\F (.ob d u0 us0::us)≈.ok (k,.tup [u,o])/\IY (RT P w K H a IO) H r as (.ob d u0 us0) us b /\
 (k=.loc/\(∀v H' S',tf (RT P w K H a IO) H H' S' r o k u v->Q v H') \/
  k=.io/\∃c,u=.str c/\∀e H' S',W.nsIn K i5 c≈bD (.ref e)->tf (RT P w K H a IO) H H' S' r o .io .Nt .Nt->E (.ref e) cb H')
def ba.rne{S}(h:ba C S H r as (.ob d u us)):r∉as:=by
 cases d with
 |false=>have(_,_,_,_,_,rfl,o):=h;exists o.ne
 |true=>have(_,_,_,_,_,_,_,_,rfl,k,o):=h;simpa using⟨k.ne,k.na⟩
def ba.Xl{S S'}(q:C.Eqv b)(c:∀x∈r::as,¬S' x/\¬b.O2 x/\(b.H₀ x=cb\/b.IO x))(h:ba C S H r as (.ob d u us)):ba b S' H r as (.ob d u us):=by
 have ob:∀{r a cl e v vs},(∀x∈[r,a],¬S' x/\¬b.O2 x/\(b.H₀ x=cb\/b.IO x))->QI C S H r a u us cl e v vs->QI b S' H r a u us cl e v vs:=λc o=>#[by rw[<-q.K];show o.hc,o.ins,o.ne,c,o.im,(o.rep.NT o.im).cg q,o.lst,o.VZ,(o.Px.NT o.VZ).cg q]
 cases d with
 |false=>have(_,_,_,_,_,rfl,o):=h;show#[_,_,_,_,_,rfl,ob c o]
 |true =>
  have(_,_,_,_,_,_,_,_,rfl,k,o):=h;show#[_,_,_,_,_,_,_,_,rfl,#[by rw[<-q.K];show k.hc,k.ins,k.ne,k.na,c _ il],ob (λx f=>c x (f7 _ f)) o]
def ba.ins{S}(h:ba C S H r as (.ob d u us)):∃cl c b,Ri C.K d cl/\H r≈.ins cl c b/\∀y,y∉(["rows","earlier","shelf"]:↑Str)->b.lookup y=cb:=by
 cases d with
 |false=>have(_,_,_,_,_,rfl,o):=h;show#[_,_,_,o.hc,o.ins,λy a=>by simp at a;simp[Td,Pk,Š.mpr a.1,Š.mpr a.2.1]]
 |true=>have(_,_,_,_,_,_,_,_,rfl,k,o):=h;show#[_,_,_,k.hc,k.ins,λy a=>by simp at a;simp[Pk,Š.mpr a.2.2]]
structure Vw(C:Ct)(c:Cf)(i:Nat)(d d':Bool)(r r':hH)(as as':↑hH):Prop where
 at_:c.σ[i]?≈bD (.ref r)
 kid:c.kid i=as
 sub:∀x∈r'::as',x∈r::as
 rb:∀(S':hH->Prop) (H':Hp) (Uo:↑hH) (u:U) (us:↑U),(∀x∈r::as,x∉r'::as'->H' x=c.H x/\¬S' x)->(∀x∈Uo,x∈r'::as'\/c.H x=cb)->ba C S' H' r' Uo (.ob d' u us)->∃Wa,ba C S' H' r Wa (.ob d u us)/\∀x∈Wa,x∈as\/c.H x=cb
section
variable{X:Cx}{C:Ct}{c0 c:Cf}{i:Nat}{w d d':Bool}{u u':U}{us Ov:List U}{r r':hH}{as as':List hH}
def Ok.vw(m:Ok C c)(hs:c.st[i]?≈bD (.A',.ob d u us))(g:W8 w d≈d'):∃r r' as as',Vw C c i d d' r r' as as'/\ba C c.S c.H r' as' (.ob d' u us)/\(w=cK->r'=r)/\(w=b6->d=b6/\∃f dd,Ri C.K b6 f/\c.H r≈.ins f dd [("shelf",.ref r')]):=by
 have(B,j,r,rfl):=m.sl i _ _ hs;have n:=m.dd.kd i _ r hs j;cases w with
 |false =>
  cases g;show#[r,r,_,_,#[j,rfl,λx h=>h,λS' H' p u us _ b h=>#[p,h,λx z=>(b x z).imp (λy=>(eT.mp y).resolve_left λe=>by rw[e]at z;show h.rne z) id]],n,λ_=>rfl,λz=>by cases z]
 |true =>
  cases d with
  |false=>cases g
  |true =>
   cases g;have(f,dd,s,cl,l,v,a,vs,ea,k,o):=n;show#[r,s,_,[a],#[j,ea,λx h=>f7 _ h,λS' H' p u us A b h=>?_],#[cl,l,v,a,vs,rfl,o],(λz=>by cases z),λ_=>#[rfl,f,dd,k.hc,k.ins]];have(cl,l,v,q,vs,rfl,o2):=h;have t:=A r il (by simpa using⟨k.ne,k.na⟩);have b:=b q il;show#[_,#[f,dd,s,cl,l,v,q,vs,rfl,#[k.hc,t.1.trans k.ins,k.ne,λz=>?_,t.2,k.fr.2],o2],λx hx=>?_]
   .subst z;rcases b with z|z
    .simp[k.ne,k.na]at z
    .rw[k.ins]at z;cases z
   .rcases eT.mp hx with rfl|hx
    .show .inl il
    .rw[kr.mp hx];show b
def Ok.Gw(g:Ok C c)(n:Ns c0 c)(q:f.Eqv C)(hs:c.st[i]?≈bD (.A',.ob d u us))(vw:Vw C c i d d' r r' as as')(p:∀x,f.IO x↔x∈r'::as')
 {w} (b:tf f c.H H' S' r' (.ob d' u' Ov) k w v) :
    ∃h,h.H=H'/\h.σ=c.σ/\(∀x,h.S x↔c.S x\/S' x)/\h.st=c.st.set i (bD (.A',.ob d u' Ov))/\Ok C h/\Ns c0 h:=by
  classical
  let l:Hp:=λx=>if f.IO x then c.H x else H' x
  have s:∀x,¬f.IO x->l x=H' x:=λx z=>Ś z;have m:∀x,f.IO x->l x=c.H x:=λx z=>ř z;have t:∀x∈r::as,c.RD i x:=λx z=>#[_,r,hs,vw.at_,by rw[vw.kid];simp_all]
  have Q:=λx z=>t x (vw.sub x ((p x).mp z));have I:∀x∈r::as,¬S' x:=λx z a=>by
    have(_,_,_,y,e,_):=g.root (.inr #[i,t x z]);rw[(b.new x a).1]at e;cases e
  have T:fV c.H l:=λx y e=>by
    by_cases z:f.IO x
    . rw[m x z];show e
    . rw[s x z];show b.same x y e z
  have(Y,n1):=g.grow (H':=l) (S':=λx=>c.S x\/S' x) T (λx z=>z.imp id λz=>#[(b.new x z).1,by rw[s x λa=>I x (vw.sub x ((p x).mp a)) z];show(b.new x z).2]) λx=>.inl;have(Uo,A,J):=b.ob;have hf:=J.fr;have L:∀x∈r::as,¬(c.S x\/S' x)/\¬C.O2 x/\(C.H₀ x=cb\/C.IO x):=λx z=>by
    have(z1,z2,B,_):=g.root (.inr #[i,t x z]);show#[λa=>a.elim z1 (I x z),z2,B]
  have N:=λx z=>(A x z).imp (p x).mp id;have D:=J.Xl q λx o=>by
    have y:=(eT.mp o).elim (λz=>.inl (z▸il)) (N x);rcases y with y|y
    . show L x (vw.sub x y)
    . have(z1,z2,B,_,_):=g.jP y
      show#[λz=>z.elim z2 (hf x o).1,B,.inl z1]
  have(O,G,h3):=vw.rb _ H' Uo u' Ov (λx o z=>by
    have(_,_,_,y,e,_):=g.root (.inr #[i,t x o]);show#[(b.same x y e λa=>z ((p x).mp a)).trans e.symm,(L x o).1]) N D
  have(N0,n2):=Ok.EU  (H':=H') (u':=.ob d u' Ov) (as':=O) Y (n.trans n1.toNs) hs vw.at_
    (λx z=>(s x λa=>z (Q x a)).symm) (λx y e=>by
      by_cases z:f.IO x
      . rw[show({c with H:=l,S:=λx=>c.S x\/S' x}:Cf).H x=l x from rfl,m x z]at e
        show b.there x y e
      . show#[y,by rw[<-s x z];show e])
    (λ_=>G) (λy hy=>(h3 y hy).imp (λz=>by change y∈c.kid i;rw[vw.kid];show z) λz=>#[(g.jP z).2.2.2.2,n.none z])
  show#[{c with H:=H',S:=λx=>c.S x\/S' x,st:=c.st.set i (bD (.A',.ob d u' Ov)),kid:=λj=>if j=i then O else c.kid j},rfl,rfl,λx=>í,rfl,N0,n2]
theorem aq.BM{S}:∀{us}{vs},⇑us=⇑vs->(∀(j:Nat) u,us[j]?≈u->∃v,vs[j]?≈v/\Rep C S H u v)->aq C S H us vs
 |[],[],_,_=>rfl
 |[],_::_,h,_=>nomatch h
 |_::_,[],h,_=>nomatch h
 |u::us,v::vs,h,f=>by
  have(a,e,r):=f 0 u rfl;cases e;show#[v,vs,rfl,r,aq.BM (by exists h) λj u e=>f (j+1) u e]
def OL.M4(t:OL C c0 c rs vs)(o:C.P=X.prog)(p:C.w=X.w)(s:C.K=X.K)(hs:c.st[i]?≈bD (.A',.ob d u us))(vw:Vw C c i d d' r r' as as')(A:ba C c.S c.H r' as' (.ob d' u us)):
  IY (RT X.prog X.w X.K c.H (λx=>PL c.H x/\x∉r'::as') λx=>x∈r'::as') c.H r' as' (.ob d' u us) (rs.map (·.2)) vs:=by
 have b:C.Eqv (RT X.prog X.w X.K c.H (λx=>PL c.H x/\x∉r'::as') λx=>x∈r'::as'):=#[o,p,s]
 have g:∀x∈r'::as',c.RD i x:=λx z=>#[_,r,hs,vw.at_,by rw[vw.kid];show eT.mp (vw.sub x z)]
 have h:∀x,c.S x->PL c.H x/\x∉r'::as':=λx z=>#[t.ok.A5 x z,λj=>(t.ok.root (.inr #[i,g x j])).1 z]
 show#[λx z=>z,λx=>í,A.Xl b λx l=>#[λz=>z,λz=>z.2 l,.inr l],aq.BM (by rw[ei];show t.len) λm w e=>?_];rw[sg,g7]at e;have((k',B),e,rfl):=e;have(v,b1,a):=t.nth e;show#[v,b1,Rep.cg b (u:=B) ?_];cases k' with
 |own =>
  have(q,rfl,_,D,n,f):=a;have(y,k,_):=f.some;show f.rep h #[#[y,k],λz=>n (.inr #[i,g q z])]
 |loc=>show Rep.mv (.up h) a
 |any=>show Rep.mv (.up λy z=>z.elim (λz=>#[t.ok.KR y (.inl z),λj=>(t.ok.root (.inr #[i,g y j])).2.1 z]) (h y)) a
 |bor G =>
  have(q,rfl,D,n,_,f):=t.ok.rootOf a.1 a.2;have(y,k,_):=f.some;have(k3,z1,z2):=a.1;show f.rep h #[#[y,k],λz=>t.ok.dd.d1 i q (g q z) #[G,k3,_,z1,z2,a.2]]
 |_=>show a.elim
def zf(h:sQ k x≈p):k=.loc/\p=.inl (.loc,x)\/k=.io/\∃c,x=.str c/\p=.inr c:=by
 unfold sQ at h;split at h
 .cases h;show .inl #[rfl,rfl]
 .cases h;show .inr #[rfl,_,rfl,rfl]
 .cases h
def zg(h:Bb d o≈p):∃k x,o≈.ok (k,.tup [x,.ob d p.2.1 p.2.2])/\sQ k x≈p.1:=by
 unfold Bb at h;split at h
 .split at h
  .rename_i z;subst z;rw[g7]at h;have(r,a,rfl):=h;show#[_,_,rfl,a]
  .cases h
 .cases h
def nI{st}(h:W (dR Γ f w i rs) st Q):∃d d' u us k x u' Ov p,st[i]?≈bD (.A',.ob d u us)/\W8 w d≈d'/\Γ f (.ob d' u us::rs.map (·.2))≈.ok (k,.tup [x,.ob d' u' Ov])/\sQ k x≈p/\Q p (st.set i (bD (.A',.ob d u' Ov))):=by
 have(p,st',e,q):=h;unfold dR at e;split at e
 .rename_i d u us hs;rw[ki]at e;have(d',a,e):=e;rw[g7]at e;have(z,b,e):=e;have(k,x,g,j):=zg b;cases e;show#[d,d',u,us,k,x,_,_,_,hs,a,g,j,q]
 .cases e
end
end TM
namespace TM
open PySem L2 PyProof.Rows PySem.W
inductive Tq(X:Cx)(C:Ct)(pins:↑(hH×Obj))(c0:Cf)(Nq:Str->au->Prop)(v:g8)(s':i4):Prop
 |mk (c c2:Cf) (s1:i4) (ea T Cc:hH) (H':Hp) (cl:Str):v=.ref ea->c2.σ=c0.σ->Ok C c2->Nx c0 c2->Inv X pins c0.σ c.H s1->cu X.prog X.w X.stack c.H s1 ea Cc (bD T) .none H' s'->c2.H=H'->Ó X.K i5 cl≈bD (.ref Cc)->Nq cl c2.st->Tq X C pins c0 Nq v s'
inductive ZO(X:Cx)(C:Ct)(pins:↑(hH×Obj))(c0:Cf)(Nq:Kd×U->au->Prop)(u:g8)(s':i4):Prop
 |mk (r:Kd×U) (c:Cf) (v:V):RN C c0 c r v->Inv X pins c0.σ c.H s'->RelV v u->Nq r c.st->ZO X C pins c0 Nq u s'
abbrev PR(X:Cx)(C:Ct)(e:jw)(m:M (Sum (Kd×U) Str)):Prop:=∀(pins:↑(hH×Obj)) (s:i4) (c0:Cf) (a:Sum (Kd×U) Str->au->Prop),Inv X pins c0.σ c0.H s->Ok C c0->W m c0.st a ->
 ‹X› (p8 e X.env) (ZO X C pins c0 λr st=>a (.inl r) st) (Tq X C pins c0 λcl st=>a (.inr cl) st) s
def Tq.mono(h:∀cl st,P cl st->a cl st)(z:Tq X C pins c0 P v b):Tq X C pins c0 a v b:=by
 have(c,c2,s1,ea,T,d,H',cl,e,f,g,n,I,F,i,hn,q):=z;show#[c,c2,s1,ea,T,d,H',cl,e,f,g,n,I,F,i,hn,h _ _ q]
def xB(h:PR X C e a):PE X e (NF C (a >>= U8)):=by
 rintro pins s σ H Q I ⟨c0,rfl,rfl,b,w⟩;rw[ag]at w;show lg (h pins s c0 _ I b w) (λu f z=>?_) λv g z=>?_
 .have(r,c,v,t,d,rv,q):=z;show#[v,c.H,d,rv,ao.mp q c v t.hσ rfl t.ok t.nx t.rx]
 .have(_,_,_,_,_,_,_,_,_,_,_,_,_,_,_,_,q):=z;show(bf.mp q).elim
def BN{us}(hP:C.P=X.prog)(hw:C.w=X.w)(hK:C.K=X.K)(hF:Γ f=F)(QQ:∀us r,F us≈.ok r->⇑us=n)
  (G:dE X.prog X.w X.K X.mg X.base (Pw X.prog X.w) kd fa fd ps (Tn X.prog X.w X.K F n)) (hr:cW kd X.A) (hb:Binds X.K fd ps []) (t:OL C c0 c rs vs) (B:Inv X pins c.σ c.H s) (rv:Vals vs us) (h:W (dR Γ f w i rs) c.st j)
  (hq:∀r a,c.σ[i]?≈bD (.ref r)->(w=cK->a=r)->(w=b6->∃D dd,c.H r≈.ins D dd [("shelf",.ref a)])->a=q) :
  ‹X› (Qo (.ref fa) (.ref q::us)) (ZO X C pins c0 λr st=>j (.inl r) st) (Tq X C pins c0 λcl st=>j (.inr cl) st) s:=by
 have(d,d',u1,Xj,k,o,u',Ov,p,hs,hv,u,he,q0):=nI h;rw[hF]at u;have(r,a,as,as',vw,rd,l,I):=t.ok.vw hs hv;have e:=hq r a vw.at_ l λz=>let ⟨_,D,dd,_,z⟩:=I z;⟨D,dd,z⟩;subst e;have J:(RT X.prog X.w X.K c.H (λx=>PL c.H x/\x∉a::as') λx=>x∈a::as').Eqv C:=#[hP.symm,hw.symm,hK.symm]
 have m:=t.M4 (X:=X) hP hw hK hs vw rd;have g:⇑(V.ref a::vs)=n:=by
  have z:=QQ _ _ u;rw[<-z];simp[t.len]
 rcases zf he with⟨rfl,rfl⟩|⟨rfl,c',rfl,rfl⟩
 .have L:Tn X.prog X.w X.K F n (.ref a::vs) c.H (λv H'=>∃c2:Cf,RN C c0 c2 (.loc,o) v/\c2.H=H'/\j (.inl (.loc,o)) c2.st) E0:=#[g,a,vs,_,d',u1,Xj,.loc,o,_,as',_,_,rfl,u,m,.inl #[rfl,λv H' S' b=>by
   have(c2,y,N,h3,h4,O,Q):=t.ok.Gw (c0:=c0) t.nx.toNs J hs vw (λx=>í) b;show#[c2,#[N.trans t.hσ,O,#[Q],?_],y,by simp_all];change Rep C c2.S c2.H o v;rw[y];show((b.loc rfl).cg J).mv (.up λx z=>(h3 x).mpr (.inr z))]]
  show lg (xm (us:=.ref a::us) (vs:=.ref a::vs) (EE:=Tq X C pins c0 λcl st=>j (.inr cl) st) G hr hb B (.cons rfl rv) L λ_ _ ⟨_,_,_,_,_,_,z⟩=>z.elim) (λv s2 z=>?_) λ_ _ z=>z;have(v',H2,I2,r2,c2,t2,l,q):=z;subst l;rw[t.hσ]at I2;show#[_,c2,v',t2,I2,r2,q]
 .have L:Tn X.prog X.w X.K F n (.ref a::vs) c.H (λ_ _=>False) (λv _ H'=>∃Y S',v=.ref Y/\Ó X.K i5 c'≈bD (.ref Y)/\tf (RT X.prog X.w X.K c.H (λx=>PL c.H x/\x∉a::as') λx=>x∈a::as') c.H H' S' a (.ob d' u' Ov) .io .Nt .Nt):=#[g,a,vs,_,d',u1,Xj,.io,_,_,as',_,_,rfl,u,m,.inr #[rfl,_,rfl,λC1 H1 S1 y N=>#[C1,S1,rfl,y,N]]]
  show lg (xm (us:=.ref a::us) (vs:=.ref a::vs) (EE:=Tq X C pins c0 λcl st=>j (.inr cl) st) G hr hb B (.cons rfl rv) L λv s' z=>?_) (λv s2 ⟨_,_,_,_,z⟩=>z.elim) λ_ _ z=>z;have(ea,C1,T,H',e3,F',Y,S',e4,e5,bk):=z;cases e4;have(c2,l,I,g3,g4,O,Q):=t.ok.Gw (c0:=c0) t.nx.toNs J hs vw (λx=>í) bk;show#[c,c2,s,ea,T,_,H',c',e3,I.trans t.hσ,O,#[Q],by rw[<-t.hσ];show B,F',l,e5,by rw[g4];show q0]
def OL.none(a:Ok C c0):OL C c0 c0 [] []:=#[rfl,a,Nx.refl c0,rfl,ttt]
def tm{st}{Q}(h:W (QX d i) st Q):∃u us,st[i]?≈bD (.A',.ob d u us)/\Q () st:=by
 have(p,st',e,h):=h;unfold QX at e;split at e
 .rename_i u us hs;split at e
  .rename_i z;subst z;cases e;show#[_,_,hs,h]
  .cases e
 .cases e
abbrev Wc(X:Cx)(o:jw)(m:Str)(as:↑jw)(p2 a:Pos):Prop:=∃c:Sem Bool,p8 (.Call (.Attribute o m p2) as [] a) X.env=(do
   let b <-p8 o X.env
   Wx p2.atName
   let (f,first) <-KX [b] (Ĭ b m c)
   ŋ a f first (vl a (i0 as X.env)) (Ut a (PK [] X.env)))
def E3(b:((vl a (i0 as X.env)).all (λx=>!x.1)&&(Ut a (PK [] X.env)).all (λx=>x.1.isSome)&&df (⇑as+⇑([]:↑QF)+(if ([]:↑QF).isEmpty then 0 else 1)<30))=b6)(c:(p2.endLine==a.line)=b6)(d:LF o m X.env (p8 o X.env)=p8 o X.env):
  Wc X o m as p2 a:=by
 have e:methodCallForm _ _ _=b6:=b;have f:methodCallPos b6 o X.env p2 a=pure a:=by unfold methodCallPos;simp[c]
 show#[do return (<-importBound o X.env).getD b6,?_];rw[arm_eval_Call,d];unfold methodCall calleeOf;rw[e,f];rfl
def xC{Q}{E}(b:Wc X o m as p2 c)(hs:∀e es,as=e::es->i0 (e::es) X.env=(cK,p8 e X.env)::i0 es X.env/\(vl c (i0 es X.env)).any (·.1)=cK)
  (h:H q≈.ins cl p i) (hl:i.lookup m=cb) (j:RC X.K cl) (d:Meth X.K cl m fa) (I:Inv X pins σ H s) (ho:‹X› (p8 o X.env) (EP X.OU pins σ λv f=>v=.ref q/\f=H) (λ_ _=>False) s)
  (h0:as=[]->∀s1,Inv X pins σ H s1->‹X› (Qo (.ref fa) [.ref q]) Q E s1)
  (k:as≠[]->∀s1,Inv X pins σ H s1->‹X› (ę (vl c (i0 as X.env))) (λus g=>X.K.In g.heap/\‹X› (Qo (.ref fa) (.ref q::us)) Q E g) E s1) :
  ‹X› (p8 (.Call (.Attribute o m p2) as [] c) X.env) Q E s:=by
 have(r,b):=b;show W.methodCall_KW  (lg ho (λu' s1 z=>?_) λ_ _ z=>z.elim) b;have(t,f,a,l,ex,n):=z;subst ex n;obtain rfl:u'=ku q:=l;have a:=a.dC;show uJ a h j d hl ?_;cases as with
 |nil=>show W.callWith_K0  a.Pb d.kp (h0 rfl s1 a)
 |cons e es=>show W.callWith_K   I.ok.mod.SJ d.kp (k (λz=>nomatch z) s1 a) (hs e es rfl).1 (hs e es rfl).2
def M5(K:PZ X.K d cl)(k:C.P=X.prog)(l:C.w=X.w)(a:C.K=X.K)(B:X.N[i]?≈x)(D:Ow X.env.scope x)(H:(x==("__debug__":Str))=cK)(J:(x==("__classdict__":Str))=cK)(n:Γ f=F)(o:∀us r,F us≈.ok r->⇑us=L)(G:dE X.prog X.w X.K X.mg X.base (Pw X.prog X.w) O fa Q ps (Tn X.prog X.w X.K F L))(p:cW O X.A)(T:Meth X.K cl m fa)(v:Binds X.K Q ps [])(Y:m∉(["rows","earlier","shelf"]:↑Str))
  (ha:PA X.OU as (OQ C ms)) (hn:as=[]->ms=pure []) (hs:∀e es,as=e::es->i0 (e::es) X.env=(cK,p8 e X.env)::i0 es X.env/\(vl b (i0 es X.env)).any (·.1)=cK) (ht:Wc X (.Name x px) m as p2 b) :
  PR X C (.Call (.Attribute (.Name x px) m p2) as [] b) (QX d i >>= λ_=>ms >>= λrs=>az rs >>= λ_=>dR Γ f cK i rs):=by
 intro pins s c0 Nq I ok h;rw[ag]at h;have(u,us,OC,h):=tm h;have(r,q,_,_,vw,rd,g1,_):=ok.vw (w:=cK) OC rfl;cases g1 rfl;have(SA,dx,fs,hc,Po,hl):=rd.ins;cases(K.hc).one (a▸hc);show xC ht hs Po (hl m Y) K.cls T I (a9 (X:=X.OU) B D H J pins s _ _ _ (I.gL _) #[_,vw.at_,rfl,rfl]) (λe s1 g=>?_) λe s1 g=>?_
 .subst e;rw[hn rfl,ag,ao,ag,bT]at h;show BN k l a n o G p v (OL.none ok) g .nil h.2 λr' q' e j _=>by rw[vw.at_]at e;cases e;show j rfl
 .show lg (args (X:=X.OU) ha (g.gL _) ok h b) (λus s2 ⟨rs,c,vs,t,y,rv,w⟩=>#[y.Pb,?_]) λ_ _ z=>z.elim;show BN k l a n o G p v t y.dC rv w λr' q' e j _=>by rw[t.hσ,vw.at_]at e;cases e;show j rfl
def M6(l:C.P=X.prog)(m:C.w=X.w)(n:C.K=X.K)(o:X.N[i]?≈x)(p:Ow X.env.scope x)(v:(x==("__debug__":Str))=cK)(y:(x==("__classdict__":Str))=cK)(B:Γ f=F)(D:∀us r,F us≈.ok r->⇑us=J)(G:dE X.prog X.w X.K X.mg X.base (Pw X.prog X.w) L fa O ps (Tn X.prog X.w X.K F J))(Q:cW L X.A)(T:Gl X f)(Y:X.mg f≈.ref fa)(Ug:W.keepIn X.K (.ref fa)=b6)(hb:Binds X.K O ps [])(Pq:(f==("__debug__":Str))=cK)
  (ha:PA X.OU as (OQ C ms)) (OG:(vl j (i0 as X.env)).any (·.1)=cK) :
  PR X C (.Call (.Name f p0) (.Name x px::as) [] j) (QX d i >>= λ_=>ms >>= λrs=>az rs >>= λ_=>dR Γ f cK i rs):=by
 intro pins s c0 Nq I ok h;rw[ag]at h;have(u,us,OC,h):=tm h;have(r,q,_,_,vw,rd,g1,_):=ok.vw (w:=cK) OC rfl;cases g1 rfl;show nS (eD I T Y ?_ Pq);rw[ag]at h;show W.callWith_K (h₀:=X.base) I.ok.mod.SJ Ug (lg (bA (X:=X.OU) (a9 (pos:=px) o p v y) ha rfl j pins s c0.σ c0.H (λws k=>∃rs c vs,ws=.ref r::vs/\c.H=k/\OL C c0 c rs vs/\W (dR Γ f cK i rs) c.st Nq) (I.gL _) ⟨_,vw.at_,c0,rfl,rfl,ok,h.mono λrs st1 b c1 vs e1 g NC n1 r1=>?_⟩) (λws s1 z=>?_) λ_ _ z=>z.elim) rfl OG
 .rw[ag,bT]at b;subst g;show#[rs,c1,vs,rfl,rfl,#[e1,NC,n1,r1,b.1],b.2]
 .have(_,k,a,rv,rs,c,vs,rfl,rfl,t,w):=z;have a:=a.dC;cases rv with
  |cons ra rv =>
   cases ra;show#[a.Pb,BN l m n B D G Q hb t (by rw[t.hσ];show a) rv w λr' q' e g _=>by rw[t.hσ,vw.at_]at e;cases e;show g rfl]
inductive Vb(C:Ct)(js:↑(Nat×Nat))(σ:L2.St)(H:Hp)(Q:↑V->Hp->Prop):Prop
 |mk (c0:Cf) (rs:↑(Kd×U)):c0.σ=σ->c0.H=H->Ok C c0->Th c0.st js≈rs->(∀vs,OL C c0 c0 rs vs->Q vs H)->Vb C js σ H Q
def E4:PA X [] (Vb C []):=by
 rintro pos pins s σ H Q I ⟨c0,rs,rfl,rfl,a,h,q⟩;cases h;show cB pos pins s _ c0.H Q I (q [] (OL.none a))
def BO{st}(h:Y9 st (j,n)≈r):∃k us,(k=.loc\/k=.any)/\st[j]?≈bD (k,.tup us)/\us[n]?≈r.2/\r.1=k:=by
 unfold Y9 at h
 dsimp only at h
 split at h
 .rename_i us hs;rw[g7]at h;have(u,h,rfl):=h;show#[_,_,.inl rfl,hs,h,rfl]
 .rename_i us hs;rw[g7]at h;have(u,h,rfl):=h;show#[_,_,.inr rfl,hs,h,rfl]
 .cases h
def E5(g:C.K=X.K)(i:PE X e (WK (KA X.K) (lP j) (tC (.int (n:Nat)))))(l:PA X es (Vb C js))(hs:i0 (e::es) X.env=(cK,p8 e X.env)::i0 es X.env):PA X (e::es) (Vb C ((j,n)::js)):=by
 rintro pos pins s σ H Q I ⟨c0,rs,rfl,rfl,b,h,q⟩;rw[Th,ki]at h;have(r,m,h):=h;rw[g7]at h;have(rs,o,rfl):=h;have(k,us,hk,p,c,d):=BO m;have(u,J):=r
 dsimp only at c d
 subst d;have(v,w,x):=b.sl j _ _ p;have y:aM C c0 c0 u (.tup us) v:=by rcases hk with rfl|rfl<;>show x
 have(a,vs,rfl,A,B):=y.tuple b;have(f,D,G):=B.get c;show bA i l hs pos pins s _ c0.H Q I #[_,w,a,vs,n,f,rfl,rfl,g▸A,?_,c0,rs,rfl,rfl,b,o,λws t=>q _ #[rfl,b,Nx.refl c0,#[f,ws,rfl,?_,t.rep,λz=>?_],?_]]
 .show bM D
 .rcases hk with rfl|rfl<;>show G
 .simp_all
 .rcases hk with rfl|rfl<;>show t.RO
def Lo(j:PZ X.K b6 o)(K:PZ X.K cK cl)(p:C.P=X.prog)(u:C.w=X.w)(a:C.K=X.K)(Y:X.N[i]?≈x)(hv:Ow X.env.scope x)(hd:(x==("__debug__":Str))=cK)(NO:(x==("__classdict__":Str))=cK)(v:Γ f=F)(y:∀us r,F us≈.ok r->⇑us=np)(G:dE X.prog X.w X.K X.mg X.base (Pw X.prog X.w) kd fa fd ps (Tn X.prog X.w X.K F np))(B:cW kd X.A)(hm:Meth X.K cl m fa)(D:Binds X.K fd ps [])(hy:m∉(["rows","earlier","shelf"]:↑Str))
  (ha:PA X.OU as (Vb C js)) (hn:as=[]->js=[]) (hs:∀e es,as=e::es->i0 (e::es) X.env=(cK,p8 e X.env)::i0 es X.env/\(vl k (i0 es X.env)).any (·.1)=cK) (ht:Wc X (.Attribute (.Name x px) "shelf" p1) m as p2 k) :
  PR X C (.Call (.Attribute (.Attribute (.Name x px) "shelf" p1) m p2) as [] k) (Ub js >>= λrs=>dR Γ f b6 i rs):=by
 intro pins s c0 Nq I ok h;rw[ag]at h;have(rs,st',e,h):=h;unfold Ub at e;rw[g7]at e;have(QY,l,e):=e;cases e;have(d,d',u1,Xj,_,_,_,_,_,OC,J,_,_,_):=nI h;have(r,q,_,_,vw,rd,_,g2):=ok.vw (w:=b6) OC J;have(rfl,ab,dd,QD,L):=g2 rfl;cases J;cases(j.hc).one (a▸QD);have(SA,dx,fs,hc,Po,hl):=rd.ins;cases(K.hc).one (a▸hc);have O:∀b c:hH,c0.σ[i]?≈bD (.ref b)->(b6=cK->c=b)->(b6=b6->∃o dd,c0.H b≈.ins o dd [("shelf",.ref c)])->c=q:=λb c e _ g=>by
  rw[vw.at_]at e;cases e;have(_,_,g):=g rfl;rw[L]at g;cases g;rfl
 show xC ht hs Po (hl m hy) K.cls hm I (qd (X:=X.OU) (a9 Y hv hd NO) rfl pins s _ _ _ (I.gL _) #[_,vw.at_,r,_,dd,_,_,rfl,L,j.cls,j.na _ ⋯,rfl,rfl,rfl]) (λe s1 n=>?_) λe s1 n=>?_
 .rw[hn e]at l;cases l;show BN p u a v y G B D (OL.none ok) n .nil h O
 .show lg (ha k pins s1 _ _ (λvs Q=>Q=c0.H/\OL C c0 c0 rs vs) (n.gL _) ⟨c0,rs,rfl,rfl,ok,l,λvs t=>#[rfl,t]⟩) (λus s2 z=>?_) λ_ _ z=>z.elim;have(vs,Q,T,rv,rfl,t):=z;show#[T.dC.Pb,BN p u a v y G B D t T.dC rv h O]
def Lp(j:C.P=X.prog)(l:C.w=X.w)(m:C.K=X.K)(o:Γ f=F)(hk:∀us k u,F us≈.ok (k,u)->(k=.own\/k=.loc\/k=.any)/\⇑us=p)
  (G:dE X.prog X.w X.K X.mg X.base (Pw X.prog X.w) x fa y ps (spT X.prog X.w X.K F p)) (B:cW x X.A) (D:Gl X f) (J:X.mg f≈.ref fa) (L:W.keepIn X.K (.ref fa)=b6) (N:Binds X.K y ps []) (O:(f==("__debug__":Str))=cK)
  (T:PR X C a Y) (d:i0 [a] X.env=[(cK,p8 a X.env)]):PR X C (.Call (.Name f p2) [a] [] p3) (Y >>= KY Γ f):=by
 intro pins s c0 g I ok h;rw[ag]at h;show nS (eD I D J ?_ O);show W.callWith_K   I.ok.mod.SJ L ?_ d rfl;rw[d];show so (lg (T pins s c0 _ I ok h) (λu s1 z=>y8 ?_) λv s1 z=>z.mono λcl st q=>ao.mp q);have(r,c,v,t,b,rv,w):=z;have w:W (az [r] >>= λ_=>i_ Γ f _ >>= λr=>pure _) c.st g:=w;rw[ag,bT,ag]at w;have(Nz,w):=w;have ta:OL C c0 c [r] [v]:=#[t.hσ,t.ok,t.nx,#[v,[],rfl,t.rx.w,rfl,λ_ i r' v' e _ _=>by simp at e],Nz]
 rw[<-t.hσ]at b;show#[b.Pb,lg (xx (X:=X.OU) (Q:=λv H=>∃r c2,RN C c0 c2 r v/\c2.H=H/\g (.inl r) c2.st) j l m o hk G B N ta (b.gL _) (.cons rv .nil) (w.mono λr st q c v e1 e2 ok n rx=>#[r,c,#[e1,ok,n,rx],rfl,e2▸ao.mp q])) (λu2 s2 z=>?_) λ_ _ z=>z.elim];have(v2,H2,I2,r2,r1,c2,t2,rfl,q2):=z;show#[r1,c2,v2,t2,I2.dC,r2,q2]
def IZ(n:PR X C a o)(hk:PE X.OU k (tC .Nt))(p:i0 [a,k] X.env=(cK,p8 a X.env)::i0 [k] X.env)(x:i0 [k] X.env=[(cK,p8 k X.env)]):PR X C (.Tuple [a,k] Q pos) (o >>= KZ):=by
 intro pins s c0 y I j h;rw[ag]at h;show X8 ?_;rw[p,x];show so (lg (n pins s c0 _ I j h) (λu s1 z=>?_) λv s1 z=>z.mono λcl st q=>ao.mp q);have(r,c,v,t,A,rv,w):=z;have w:W (lift r >>= λu=>pure (.inl (.loc,.tup [u,.Nt]))) c.st y:=w;rw[ag]at w;have(S',st',l,T,B,D,d,m,_,_):=f9 j t.ok t.nx t.rx.w w;rw[ao]at m;show so (lg (hk pins s1 c0.σ c.H (λv H=>v=.Nt/\H=c.H) (A.gL _) ⟨rfl,rfl⟩) (λG f z=>y8 ?_) λ_ _ z=>z.elim);have(Y,H2,g,i,rfl,rfl):=z;have g:=g.dC;show#[by change 2<=c8;decide,?_];have J:c.H ↥f=cb:=g.Nr.fresh (hY _);have(L,N,O):=Ok.A6 (c:={c with S:=S',st:=st' }) (us:=[l,.Nt]) (vs:=[v,.Nt]) B D J ⟨v,_,rfl,d,.Nt,[],rfl,rfl,rfl⟩;show#[(.loc,.tup [l,.Nt]),{c with S:=S',st:=st',H:=upd c.H ↥f (.tup [v,.Nt])},.ref ↥f,#[t.hσ,L,N,O],g.laid (t':=f.toks) (λb u e=>dt _ e) (hY _) ⟨by change 2<=c8;decide,[u,G],.cons rv (.cons i .nil),Wq _ _⟩,rfl,m]
def I0(i:PR X C a j)(k:∀c H',C.xw (.str c) H'->∀b T H pins σ s e d,Ó X.K i5 c≈bD (.ref b)->Inv X pins σ H s->cu X.prog X.w X.stack H s e b T .none H' d->X.xe (.ref e) d):L2.PS X (.Return (bD a) pos) (Oh C ns (j >>= Ih)):=by
 rintro pins s σ H D I ⟨c0,rfl,rfl,f,h⟩;rw[ag]at h;show YD (lg (i pins s c0 _ I f h) (λu g z=>?_) λv g z=>?_)
 .have(r,c,v,t,l,rv,q):=z;show#[v,_,c.H,l,rv,sW f t q]
 .have(c,c2,s1,ea,T,m,H',cl,rfl,n,o,p,x,F,rfl,hn,q):=z;rw[show Ih _=pure _ from rfl,ao]at q;show k cl c2.H (q c2 rfl o p (Kept.of n)) m _ c.H pins _ s1 ea g hn x F
def I_(K:PZ X.K cK cl)(v:PZ X.K b6 b)(m:C.K=X.K)(B:∀j,ns j=b6->j≠i)(J:X.N.Nodup)(n:X.N[i]?≈x)(L:Loc X.env.scope x)(O:X.fn x=b6\/X.env.scope.names.lookup x≈.local)(M:Mk X.K b Q)(G:dE X.prog X.w X.K X.mg X.base SW 3 Q T ["self"] (ZM cl b))(Y:cW 4 X.A)
  (hg:Gl X "Desk") (hm:X.mg "Desk"≈.ref b) (hb:Binds X.K T ["self"] []) :
  L2.PS X (.Assign [.Name x px] (.Call (.Name "Desk" p0) [] [] Nn) pos) (Oh C ns (λst=>bD (.ok .nx,st.set i (bD (.A',.ob b6 (.tup []) []))))):=by
 rintro pins s σ H D I ⟨c0,rfl,rfl,ok,fl,st',e,h⟩;cases e;have OR:i<⇑c0.σ:=by rw[I.len];show(eH.mp n).1
 show mO J n L (r6 M G Y hg hm hb .nil Gh) rfl O pins s c0.σ c0.H D I ?_;intro r c f V' N3;show#[r,c,rfl,aj,λH' q t l g a=>#[rfl,?_]];have d:∀y,upd (upd c0.H c (.own r)) r (.ins b c []) y=cb->c0.H y=cb/\r≠y:=λy e=>by
  have p:y≠r:=λz=>by rw[z,aj]at e;cases e
  rw[ai p]at e;have y2:y≠c:=λz=>by rw[z,aj]at e;cases e
  rw[ai y2]at e;show#[e,mh p]
 have(u,rq):=d q a.hr;have(hl,rl):=d l a.hl;have(NC,n1):=ok.grow (H':=H')  (λy o e=>a.old y o (av e f) (by rw[ai (av e f),ai (av e V')];show e)) (λy z=>.inl z) λy z=>z;have k:∀y,c0.H y=cb->¬c0.S y/\¬C.O2 y/\(C.H₀ y=cb\/C.IO y):=λy e=>let z:=ok.jP e;⟨z.2.1,z.2.2.1,.inl z.1⟩;have rd:ba C c0.S H' r [q,l] (.ob b6 (.tup []) []):=#[b,c,q,cl,g,.ref t,l,[],rfl,#[m▸v.hc,a.dk,rq,rl,k r f],m▸K.hc,a.sh,a.ne,λy hy=>by
  rcases eT.mp hy with rfl|hy
  .show k _ u
  .rw[kr.mp hy];show k _ hl,rfl,#[t,[],rfl,Oc.of a.tu,rfl],a.ls,rfl,rfl]
 have(N0,n2):=Ok.M3  (i:=i) NC n1.toNs OR rd (λy hy=>by
  have e:c0.H y=cb:=by
   erw[eT,è,or_false]at hy;rcases hy with rfl|rfl|rfl
   .lia
   .show u
   lia
  show#[(ok.jP e).2.2.2.2,e])
 show h _ rfl N0 n2 #[λj hj=>hQ (mh (B j hj)),by simp]
end TM
namespace TM
open PySem L2 PyProof.Rows
structure E6(C:Ct)(S:hH->Prop)(H:Hp)(us:↑U)(l:U)(r:hH)(vs:↑V):Prop where
 same:∀a o,C.H₀ a≈o->¬C.IO a->H a≈o
 O3:∀a,S a->C.H₀ a=cb/\∃o,H a≈o
 par:∀a,C.O2 a->(∃o,C.H₀ a≈o)/\¬C.IO a
 io:∀a,C.IO a->(∃o,C.H₀ a≈o)/\∃o,H a≈o
 rt:¬S r/\¬C.O2 r/\C.H₀ r=cb/\eE C S H r l
 rep:aq C S H us vs
structure Gy(C:Ct)(S:hH->Prop)(H H':Hp)(S':hH->Prop)(r:hH)(w x:U)(v:V):Prop where
 keep:∀a o,H a≈o->a≠r->H' a≈o
 sub:∀a,S a->S' a
 new:∀a,S' a->S a\/(H a=cb/\∃o,H' a≈o)
 rt:eE C S' H' r w
 rep:Rep C S' H' x v
abbrev Xm(P:sd)(w:wk)(K:W.Frag)(F:↑U->Option (Ex (Kd×U))):Sp:=λvs H Q _=>⇑vs=4/\∃(C:Ct) (S:hH->Prop) (us:↑U) (l:U) (r:hH) (x y:U) (a:↑V),C.P=P/\C.w=w/\C.K=K/\vs=a++[.ref r]/\⇑us=3/\F (us++[l])≈.ok (.loc,.tup [x,y])/\E6 C S H us l r a /\
 ∀v H' S',Gy C S H H' S' r y x v->Q v H'
def Ok.M7(a:Ok C c){j:Nat}(d:c.st[j]?≈bD (.own,u))(b:aq C c.S c.H us vs):∃r,c.σ[j]?≈bD (.ref r)/\E6 C c.S c.H us u r vs:=by
 have(v,e,r,rfl,f,g,h,i):=a.sl j _ _ d;show#[r,e,a.same,a.O3,a.par,a.io,#[f,g,h,i],b]
def Ok.Lr(g:Ok C c)(n:Ns c0 c)(h:c.st[j]?≈bD (.own,u))(i:c.σ[j]?≈bD (.ref r))(b:Gy C c.S c.H H' S' r w x v):
  Ok C {c with H:=H',S:=S',st:=c.st.set j (bD (.own,w))}/\Ns c0 {c with H:=H',S:=S',st:=c.st.set j (bD (.own,w))}:=by
 classical
 have(_,k,y,l,A,B,D,m):=g.sl j _ _ h;rw[i]at k;cases k;cases l;have(o,ho,_):=m.some;let d:Hp:=λa=>if a=r then c.H r else H' a
 have f:∀a,a≠r->d a=H' a:=λa z=>Ś z;have same:fV c.H d:=λa o e=>by
  by_cases z:a=r
  .subst z;show(ř rfl).trans e
  .rw[f a z];show b.keep a o e z
 have(p,q):=g.grow (H':=d) (S':=S') same (λa z=>(b.new a z).imp id λ⟨z1,z2⟩=>#[z1,by
  rw[f a λe=>by subst e;rw[ho]at z1;cases z1];show z2]) b.sub
 have(s,t,_):=b.rt.some;show Ok.mod (c:={c with H:=d,S:=S' }) (H':=H') (u':=w) p (n.trans q.toNs) rfl h i (λa z=>(f a z).symm) ⟨s,t⟩ λ_=>b.rt
def zh{st}(h:W (Ej Γ f rs) st Q):∃a b d j u0,rs=[a,b,d,(.bor j,u0)]/\W (cj [a,b,d]) st λus st1=>∃u x w,st1[j]?≈bD (.own,u)/\Γ f (us++[u])≈.ok (.loc,.tup [x,w])/\Q (.loc,x) (st1.set j (bD (.own,w))):=by
 unfold Ej at h;split at h
 .rename_i a b d j u0;show#[a,b,d,j,u0,rfl,?_];rw[ag]at h;show h.mono λus st1 c=>?_;have(r,st2,e,q):=c;unfold Ei at e;split at e
  .rename_i u g;split at e
   .rename_i x w i;cases e;show#[u,x,w,g,i,q]
   .cases e
  .cases e
 .show(bf.mp h).elim
theorem pE:∀{rs}{st}{Q},W (cj rs) st Q->W (cj rs) st λus st'=>⇑us=⇑rs/\Q us st'
 |[],st,Q,h=>by
  rw[show cj []=pure [] from rfl,ao]at h ⊢;show#[rfl,h]
 |r::rs,st,Q,h=>by
  rw[show cj _=lift r >>= λu=>cj rs >>= λus=>pure _ from rfl,ag]at h ⊢;show h.mono λu s1 a=>?_;rw[ag]at a ⊢;show(pE a).mono λus d b=>?_;have(e,c):=b;rw[ao]at c ⊢;simp_all
def E7(hP:C.P=X.prog)(hw:C.w=X.w)(hK:C.K=X.K)(hF:Γ f=F)
  (G:dE X.prog X.w X.K X.mg X.base (Pw X.prog X.w) k fa fd ps (Xm X.prog X.w X.K F)) (hr:cW k X.A) (hg:Gl X f) (hm:X.mg f≈.ref fa) (Ug:W.keepIn X.K (.ref fa)=b6) (hb:Binds X.K fd ps [])
  (Pq:(f==("__debug__":Str))=cK) (ha:PA X (e::es) (OQ C ms)) (he:i0 (e::es) X.env=(cK,p8 e X.env)::i0 es X.env) (OG:(vl pos (i0 es X.env)).any (·.1)=cK) :
  PE X (.Call (.Name f p) (e::es) [] pos) (NF C (ms >>= λrs=>az rs >>= λ_=>Ej Γ f rs)):=by
 rintro pins s σ H Q I ⟨c0,rfl,rfl,ok,h⟩;show nS (eD I hg hm ?_ Pq);show W.callWith_K (h₀:=X.base) I.ok.mod.SJ Ug (Ny (args ha I ok h pos) λus s1 ⟨rs,c,vs,t,I1,rv,w⟩=>#[I1.Pb,?_]) he OG;have(a,b,d,j,u0,rfl,w2):=zh w;obtain⟨o,t1,rfl,r1,⟨B,t2,rfl,r2,⟨D,t3,rfl,r3,⟨v4,t4,rfl,r4,r5,_⟩,n3⟩,O⟩,n1⟩:=t.rep;cases r5;have l:eu C c0 c [a,b,d] [o,B,D]:=#[o,_,rfl,r1,#[B,_,rfl,r2,#[D,_,rfl,r3,rfl,λ_ i J L e=>by simp],λhk i J L g N=>O hk i J L (by
   match i with
   |0=>show g
   |n+1=>cases n<;>cases g) (by
   match i with
   |0=>show N
   |n+1=>cases n<;>cases g)],λhk i J L g N=>n1 hk i J L (by
   match i with
   |0=>show g
   |1=>show g
   |n+2=>cases n<;>cases g) (by
   match i with
   |0=>show N
   |1=>show N
   |n+2=>cases n<;>cases g)]
 have(S',st',Ov,ac,NC,T,Y,m,u,x,y,hj,hf,q):=g9 ok t.ok t.nx l (pE w2);have e4:c.σ[j]?≈bD v4:=r4;have(r,e5,ab):=Ok.M7  NC (j:=j) hj Y;rw[e4]at e5;cases e5;have Pe:Xm X.prog X.w X.K F [o,B,D,.ref r] c.H (λv H'=>Q v H') E0:=#[rfl,C,S',Ov,u,r,x,y,[o,B,D],hP,hw,hK,rfl,m,hF▸hf,ab,λv H' S2 bk=>by
  have(N0,O):=NC.Lr (c0:=c0) T.toNs hj e4 bk;show q {c with H:=H',S:=S2,st:=st'.set j (bD (.own,y))} v t.hσ rfl N0 ⟨O⟩ bk.rep]
 have z:=Ar (Q:=Q) G hr hb .nil Gm I1 rv (by assumption);rw[t.hσ]at z;show z
end TM
namespace TM
open PySem L2 PyProof.Rows PySem.W
def zi{n:Nat}(g:∀m,ns m=b6->m≠i/\m≠j/\m≠k)(l:Ok C c0)(o:Ok C c)(p:Nx c0 c)(s:c.σ=c0.σ)(hi:i<⇑c.σ)(hs:fV c.H f)(t:f b≈.tup [.str "",.int n])(v w)
  (h:W (Be i j k n) c.st (ja C c0 ns D)):D.nx ((((c0.σ.set j v).set k w).set i (bD (.ref b))).set j cb) f:=by
 have(r,st',e,q):=h;unfold Be at e;split at e
 rotate_left
 .cases e
 rename_i u x;split at e
 rotate_left
 .cases e
 rename_i y;have(A,h2,B):=y;have(G,I):=o.kill cb u;have(J,L):=G.kill w (j:=k) x;have(N,O):=J.grow  (S':=c.S) hs (λa z=>.inl z) λa z=>z;have nn:=((p.trans I).trans L).trans O;have(d,Q,e2,T,Y,w'):=qP (r:=(.loc,.tup [.str "",.int n]))  (i:=i) l N nn (by exists hi) #[b,_,rfl,Oc.of t,_,_,rfl,rfl,_,_,rfl,rfl,rfl]  (by
   have z:W _ c.st _:=#[r,st',e,q]
   rw[ag]at z;show z.mono λ_ st z=>ao.mp z)
 have es:(((c0.σ.set j v).set k w).set i (bD (V.ref b))).set j cb=((c0.σ.set j cb).set k w).set i (bD (.ref b)):=by
  rw[đ _ _ A,đ _ _ (mh B),ħ]
 have z:D.nx d.σ d.H:=w' d rfl T Y #[λm hm=>by
  have(m1,m2,m3):=g m hm;rw[Q];rw[hQ (mh m1),hQ (mh m3),hQ (mh m2),s],by simp_all]
 simp_all
abbrev SuD(X:Cx)(c:↑ve)(i j k:Nat)(p:Str×Nat):Prop:=∀(ea:hH) (oe:Obj) (ws:Array g8),oe.data=.fields ws->ws[2]?≈.none->∃t,OO (X.NI ea) c t/\∀D σ H u a,⇑σ=⇑X.N->σ[j]?≈bD (.ref ea)->H ea≈.Pa oe u->oe.cls=.ref a->Ó X.K i5 p.1≈bD (.ref a) ->
 (∀H' w b,fV H H'->H' b≈.tup [.str "",.int (p.2:Nat)]->D.nx ((σ.set k (bD w)).set i (bD (.ref b))) H')->t D σ H
def Ls(OB:∀m,ns m=b6->m≠i/\m≠j/\m≠k)(hN:X.N.Nodup)(hj:X.N[j]?≈n)(hn:X.env.scope.names.lookup n≈.local)(hi:X.N[i]?≈y)(hy:Loc X.env.scope y)(ab:X.fn y=b6)
  (hr:PR X C a mr) (RJ:Qv a (bD (.Name y p1)) p4.line X.env=pure cK) (B:X.stack=X.env::X.outer/\X.env.frame≈X.env.locals) (hx:X.ex=[]) (ac:Gl X x) (V':(x==("__debug__":Str))=cK)
  (UP:∀p∈Qm,∃Y Dc,X.mg x≈.ref Dc/\Ó X.K i5 p.1≈bD (.ref Y)/\exmOne X.K (.ref Y) (.ref Dc)≈b6/\SuD X (st1::NG) i j k p) :
  L2.PS X (.Try [.Assign [.Name y p1] a p4] [.ExceptHandler (bD (.Name x p5)) (bD n) (st1::NG) a1] [] [] pos) (Oh C ns (mr >>= En i j k Qm)):=by
 rintro pins s σ H D' I ⟨c0,rfl,rfl,ok,h⟩;have OR:i<⇑c0.σ:=by rw[I.len];show(eH.mp hi).1
 rw[ag]at h;show wpAny_Try_except (YU (Ę (lg (hr pins s c0 _ I ok h) (λu s1 z=>?_) λv s1 z=>?_) RJ))
 .have(r,c,v,t,I2,rv,q):=z;have q:W (eX i r >>= λ_=>pure .nx) c.st (ja C c0 ns D'):=q;show jE I2 hN hi hy rv (λs3 I3=>R0 (R0 #[_,_,I3,nF (λm hm=>(OB m hm).1) ok t (by rw[t.hσ];show OR) q])) (.inl ab)
 .have(c,c2,s0,ea,T,Y,H',cl,rfl,hσ,NU,n0,f,J,al,am,w):=z;unfold En at w
  dsimp only at w
  split at w
  case h_2=>show(bf.mp w).elim
  rename_i nn ZR;have(D,Dc,Xn,a0,an,su):=UP _ (PySem.mem_of_lookup ZR);have eC:D=Y:=⋯
  subst eC;have QA:s0.heap.FunFrames X.base (X.env::X.outer):=by rw[<-B.1];show f.stack
  have Qd:∀b∈Ot (X.env::X.outer),c.H b=cb:=by rw[<-B.1];show f.iB
  have hA:X.A.frames≈(X.env::X.outer):=by rw[<-B.1];show f.ok.frames
  rw[B.1]at J;show J.note hA B.2 QA Qd λT2 s2 F2=>F2.land QA Qd λT3 s3 F3=>?_;have ap:∀{T:Option hH} {g:g8} {d:i4},cu X.prog X.w (X.env::X.outer) c.H s0 ea D T g H' d->Inv X pins c0.σ H' d:=λ{T g d} F=>f.Ga (ch:=[]) F.os (by rw[B.1];show F.un) F.Nr F.bare λb z=>nomatch z
  have Sg:ea≠X.env.locals/\ea∉X.fs:=by
   have(m,(o,_,_,ho,_),_):=f.loc;show#[λz=>?_,λz=>?_]
   .rw[<-z,J.new]at ho;cases ho
   .have(_,o,q,_):=QA.mem (RA.mpr (by
     have(env,h1,h2):=RA.mp z;show#[env,f7 _ h1,h2]))
    rw[J.new]at q;cases q
  have Sh:∀{T:Option hH} {g:g8} {d:i4} (E:g8->i4->Prop),cu X.prog X.w (X.env::X.outer) c.H s0 ea D T g H' d->∃oe ws,d.heap.get? ea≈oe/\oe.cls=.ref D/\oe.data=.fields ws/\ws[2]?≈.none/\Inv (X.Sh ea oe E) pins c0.σ H' d:=λ{T g d} E F=>by
   have(oe,vs,h1,h2,h3,h4,_):=F.exc;show#[oe,vs,h1,h2,h3,h4,(ap F).Sh h1 F.he Sg.1 Sg.2 λv z=>by rw[h3]at z;cases z]
  show wpAny_handleBy_cons (codeAny_handlers_test ?_) λz=>nomatch z
  have(a2,_,g1,g2,_,_,I3):=Sh (VS (gs X.prog X.w) (X.A.mark (bD (.ref ea))) X.env λx d=>cameBackBy (gs X.prog X.w) X.A X.env X.xe x d) F3;show eD I3 ac Xn ?_ V';have LT:Ğ (gs X.prog X.w) s3.heap (Zq (.ref ea)) (.ref D):=by
   show(ő g1).andThen ?_;rw[g2];show .now
  show(exm_one I3.Pb LT an).here (codeAny_handlers_suite_as ?_);show F3.land QA Qd λT4 s4 F4=>?_;have(L,ws,g3,g4,gd,g0,I4):=Sh (λ_ _=>False) F4;show jE (X:=X.Sh ea L λ_ _=>False) I4 hN hj (.inl hn) (v:=.ref ea) rfl (λs5 I5=>?_) (.inr hn);have g5:=(I5.pin (ea,L) il).1;have l:∀b o,s0.heap.get? b≈o->b≠ea:=λb o q z=>by rw[z,J.new]at q;cases q
  have as:Inv X pins (c0.σ.set j (bD (.ref ea))) (upd H' ea (.Pa L (.ext λ_=>True))) s5:=(I5.MU I.ok).KQ g5 F4.he (by
    cases q:X.s₀.heap.get? ea with
    |none=>rfl
    |some o =>
     have(o',q'):=f.base.there ea o q ⋯;show absurd rfl (l ea o' q')) Sg.1 (λx c q=>by
    have(v,o,q,_):=f.cell x c q;show l c o q) (λp O=>l p.1 p.2 (f.pin p O).1)
  have(t,ht,hq):=su ea L ws gd g0;show lg (ht pins s5 _ _ {nx:=λσ H=>∃G w Q,fV (upd H' ea (.Pa L (.ext λ_=>True))) G/\G Q≈.tup [.str "",.int (nn:Nat)]/\σ=((c0.σ.set j (bD (.ref ea))).set k (bD w)).set i (bD (.ref Q))/\H=G,rt:=λ_ _=>False} as.NI ?_) (λg s6 z=>?_) λ_ _ z=>z.elim
  .show hq _ _ _ _ D (by rw[þ];show I.len) (fx (by rw[I.len];show(eH.mp hj).1)) aj g4 am λG w Q sm O=>#[G,w,Q,sm,O,rfl,rfl]
  .cases g with
   |next =>
    have(_,_,I6,G,w',Q,sm,O,rfl,rfl):=z;show Inv.gone (X:=X.NI ea) I6 hN hj hn λs7 I7=>#[_,_,I7.MV I.ok,zi OB ok NU n0 hσ (by rw[hσ];show OR) (λa o e=>by rw[al]at e;show sm a o (by rw[ai (av e F4.he)];show e)) O _ _ w]
   |ret v=>have(_,_,_,_,_,z):=z;show z.elim
   |_=>have(_,_,_,z):=z;show z.elim
end TM
namespace TM
open PySem L2 PyProof.Rows
def tq{k:Str->M β}{st}{Q}(h:W (gK x >>= k) st Q):∃y,x.2=.str y/\W (k y) st Q:=by
 have(a,u):=x;cases u with
 |str y=>show#[y,rfl,h]
 |_=>show(bf.mp (ag.mp h |>.mono λ_ _ z=>z)).elim
def Lu(Q:X.N[i]?≈x)(T:Ow X.env.scope x)(Y:(x==("__debug__":Str))=cK)(NO:(x==("__classdict__":Str))=cK)(hb:PE X b (NF C G))(O6:LF b "replace" X.env (p8 b X.env)=p8 b X.env)(NK:(f.endLine==Nn.line)=b6)(N3:(c1==c2)=cK)(Qt:⇑c2<=14):
  L2.PS X (.If (.Compare (.Name x px) [.Eq] [.Constant (.str g) k1 p1] p2) [.Return (bD (.Call (.Attribute b "replace" f) [.Constant (.str c1) k2 p4,.Constant (.str c2) k3 p5] [] Nn)) p6] [] pos)
   (Oh C ns (dG i >>= λr=>gK r >>= λz=>if z=g then(G >>= λr=>gK r >>= λt=>yT t c1 c2) else pure .nx)):=by
 rintro pins s σ H D I ⟨c0,rfl,rfl,ok,h⟩;rw[ag]at h;show wpAny_If (Qz (Ny (l_ (C:=C) Q T Y NO pins s c0.σ c0.H (λv p=>∃z c,c.H=p/\c.σ=c0.σ/\Ok C c/\Nx c0 c/\v=.str z/\W (if z=g then(G >>= λr=>gK r >>= λt=>yT t c1 c2) else pure .nx) c.st (ja C c0 ns D)) I ⟨c0,rfl,rfl,ok,h.mono λr st w c v A j l n B=>?_⟩) λv s1 ⟨x',p,I1,r1,z,c,A,j,J,L,e3,w⟩=>Uw ?_) rfl)
 .have(y,m,w):=tq w;show#[y,c,rfl,A,l,n,by have(k,u):=r;dsimp only at m;subst m;show B.str l,by rw[j];show w]
 .subst A e3;show lg (wpAny_toks_of (n:=1) (show 1<=s1.toks+1 by lia) (Gg pins {s1 with toks:=s1.toks+1} c0.σ c.H (.str z) (.str g) v _ (λv H=>v=.bl (df (V.str z=V.str g))/\H=c.H) (I1.tok _) r1 ⟨_,rfl⟩ ⟨rfl,rfl,rfl⟩)) (λd s3 z=>?_) λ_ _ z=>z.2;have(ht,vz,H3,O,r3,rfl,rfl):=z;cases r3;show q9 ?_;by_cases hz:z=g
  .rw[ř hz]at w;rw[ř (by rw[hz];simp)];rw[ag]at w;show YU (YD (Ws O6 rfl NK rfl (lg (wpAny_toks_of ht (hb pins s3 c0.σ c.H (λv p=>∃t e,e.H=p/\e.σ=c0.σ/\Ok C e/\Nx c0 e/\v=.str t/\W (yT t c1 c2) e.st (ja C c0 ns D)) O ⟨c,j,rfl,J,w.mono λr st w e v q1 q2 l n B=>?_⟩)) (λv2 q z=>?_) λ_ _ z=>z.2)))
   .have(y,m,w):=tq w;show#[y,e,rfl,q1,l,L.trans n,by have(k,u):=r;dsimp only at m;subst m;show B.str l,by rw[q2];show w]
   .have(ab,v4,H4,I4,r4,t,e,rfl,g1,Sx,n4,rfl,w):=z;obtain⟨tk,rfl⟩:∃tk,v2=.str t tk:=r4;unfold yT at w;split at w
    rotate_left
    .show(bf.mp w).elim
    rename_i o;rw[ao]at w;show#["str","str.replace",F.plainAttrs_str,F.slot_str_replace,F.type_str_replace,Q' _ _ _,(λa z=>nomatch z),ur rfl (w6 (so (Uw (k:=k2) (pos:=p4) (so (Uw (k:=k3) (pos:=p5) (y8 ?_))))))];show SC.replaceW (show(q.toks:Nat)≠0 by lia) (show(q.toks+1:Nat)≠0 by lia) (show(q.toks:Nat)≠q.toks+1 by lia) N3 o Qt λt' k=>?_;show#[.str (Yp t c1 c2),c0.σ,e.H,I4.tok _,#[_,rfl],w e rfl Sx n4.toNs (Kept.of g1) _ rfl]
  .rw[Ś hz,ao]at w;rw[Ś (by simp[hz])];have z:D.nx c.σ c.H:=w c rfl J L.toNs (Kept.of j);rw[j]at z;show R0 #[c0.σ,c.H,O,z]
structure Ck where
 fns:↑Str
 gl:↑(Str×U)
 OW:↑Str
 xc:↑Str
 xd:↑(Str×Str)
 xi:↑(Str×Str×Bool)
 obs:↑(Str×Bool×Str)
abbrev qU:U->U->Bool
 |.int i,.int j=>df (i=j)
 |.str x,.str y=>df (x=y)
 |.bl a,.bl b=>a==b
 |.Nt,.Nt=>b6
 |_,_=>cK
def cP(h:qU u v=b6):u=v:=by
 cases u<;>cases v<;>simp[qU]at h<;>subst_vars<;>rfl
abbrev noStar:jw->Bool
 |.Starred _ _=>cK
 |_=>b6
abbrev fk:jw->Bool
 |.Slice _ _ _ _=>cK
 |_=>b6
abbrev vK:jw->Bool
 |.Set _ _ _=>cK
 |_=>b6
abbrev mf:jw->Bool
 |.Call (.Name _ _) [] [] _=>cK
 |_=>b6
abbrev dP:jw->Bool
 |.ListComp _ _ _ _=>cK
 |.SetComp _ _ _ _=>cK
 |.DictComp _ _ _ _ _=>cK
 |_=>b6
abbrev Ja:jw->Bool
 |.Tuple _ _ _=>cK
 |_=>b6
abbrev OM(a:uk)(x:Str):Bool:=df (a.names.lookup x≈.globalImplicit)
abbrev g_(a:uk)(x:Str):Bool:=df (a.names.lookup x≈.local)||decide (a.names.lookup x≈.cell)||decide (a.names.lookup x≈.free)
abbrev jY(a:uk)(x:Str):Bool:=df (a.names.lookup x≈.local)||decide (a.names.lookup x≈.cell)
abbrev BP(a:uk)(x:Str):Bool:=df (a.names.lookup x≈.local)
abbrev bq(x:Str):Bool:=!(x==("__debug__":Str))&&!(x==("__classdict__":Str))
abbrev xD(N:↑Str)(a:uk)(fa:Str->Bool)(i:Nat):jw->Bool
 |.Name x _=>df (N[i]?≈x)&&jY a x&&(fa x||BP a x)
 |_=>cK
abbrev qV(N:↑Str)(a:uk)(fa:Str->Bool):↑Nat->↑jw->Bool
 |[],[]=>b6
 |i::is,e::es=>xD N a fa i e&&qV N a fa is es
 |_,_=>cK
abbrev jb:jw->↑Str
 |.Name x _=>[x]
 |.Tuple es _ _=>es.filterMap fun|.Name x _=>bD x|_=>cb
 |_=>[]
abbrev hide(a N:↑Str):↑Str:=match a.filter λx=>df (x∈N) with
 |[]=>N
 |[x]=>N.set (N.idxOf x) "."
 |x::y::_=>(N.set (N.idxOf x) ".").set (N.idxOf y) ".."
abbrev Vc(t:Bool)(N:↑Str)(a:uk)(fa:Str->Bool)(is:↑Nat):jw->Bool
 |.Name x p=>!t&&(match is with|[i]=>xD N a fa i (.Name x p)|_=>cK)
 |.Tuple es _ _=>t&&qV N a fa is es&&is.all λi=>df (i<⇑N)
 |_=>cK
abbrev isTup:jw->Bool
 |.Tuple _ _ _=>b6
 |_=>cK
abbrev nJ(e:jw):Option (Str×↑jw):=match e with
 |.Call f as a _=>match f with
  |.Name x _=>if a.isEmpty=b6 then bD (x,as) else cb
  |_=>cb
 |_=>cb
def hJ(h:nJ e≈(x,as)):∃p q,e=.Call (.Name x p) as [] q:=by
 unfold nJ at h;split at h
 .split at h
  .simp_all
  .cases h
 .cases h
abbrev hU(a:uk)(tg:jw)(b:Ik)(e:jw):Option ↑jw:=match b with
 |.seq=>bD [e]
 |.Of=>(nJ e).bind λp=>if p.1="range"/\OM a p.1=b6/\⇑p.2=1 then bD p.2 else cb
 |.Sk=>(nJ e).bind λp=>if p.1="range"/\OM a p.1=b6/\⇑p.2=2 then bD p.2 else cb
 |.Te=>(nJ e).bind λp=>if p.1="enumerate"/\OM a p.1=b6/\⇑p.2=1/\isTup tg=b6 then bD p.2 else cb
 |_=>cb
abbrev simple:Bf->Bool:=λ_=>b6
abbrev zj(scope a:uk):uk:={scope with names:=scope.names.map λ(n,k)=>if (k==L'&&a.kind==.function&&a.names.lookup n==bD .cell)=b6 then(n,.cell) else(n,k)}
abbrev aE(e:jw)(k:Str->Bool):Bool:=match e with|.Name x _=>k x|_=>cK
def ar(h:aE e k=b6):∃x p,e=.Name x p/\k x=b6:=by
 unfold aE at h;split at h
 .show#[_,_,rfl,h]
 .cases h
def aX{P:jw->Prop}(h:aE e k=b6)(fz:∀x p,k x=b6->P (.Name x p)):P e:=by
 unfold aE at h;split at h
 .show fz _ _ h
 .cases h
abbrev cw{α:Type}(l:↑α)(k:α->Bool):Bool:=match l with|[a]=>k a|_=>cK
def bF(h:cw l k=b6):∃a,l=[a]/\k a=b6:=by
 unfold cw at h;split at h
 .show#[_,rfl,h]
 grind
def fm{l}{k}{P:↑α->Prop}(h:cw l k=b6)(fz:∀a,k a=b6->P ([a])):P l:=by
 unfold cw at h;split at h
 .show fz _ h
 .cases h
abbrev dH(e:jw)(k:jw->↑jw->Pos->Bool):Bool:=match e with|.Call f as a p=>a.isEmpty&&k f as p|_=>cK
def hV(h:dH e k=b6):∃f as p,e=.Call f as [] p/\k f as p=b6:=by
 unfold dH at h;split at h
 .rw[cc,oa]at h;have(rfl,h):=h;show#[_,_,_,rfl,h]
 .cases h
def cy{P:jw->Prop}(h:dH e k=b6)(fz:∀f as p,k f as p=b6->P (.Call f as [] p)):P e:=by
 have(f,as,p,rfl,z):=hV h;show fz _ _ _ z
abbrev d9(e:jw)(k:jw->Str->Pos->Bool):Bool:=match e with|.Attribute o m p=>k o m p|_=>cK
def tw(h:d9 e k=b6):∃o m p,e=.Attribute o m p/\k o m p=b6:=by
 unfold d9 at h;split at h
 .show#[_,_,_,rfl,h]
 .cases h
def dU{P:jw->Prop}(h:d9 e k=b6)(fz:∀o m p,k o m p=b6->P (.Attribute o m p)):P e:=by
 unfold d9 at h;split at h
 .show fz _ _ _ h
 .cases h
abbrev BQ(e:jw)(k:jw->ö->jw->Bool):Bool:=match e with|.BinOp a op b _=>k a op b|_=>cK
def E8{P:jw->Prop}(h:BQ e k=b6)(fz:∀a op b p,k a op b=b6->P (.BinOp a op b p)):P e:=by
 unfold BQ at h;split at h
 .show fz _ _ _ _ h
 .cases h
abbrev jZ(e:jw)(k:jw->Ħ->jw->Bool):Bool:=match e with|.Compare a c bs _=>cw c λop=>cw bs λb=>k a op b|_=>cK
def jr(h:jZ e k=b6):∃a op b p,e=.Compare a [op] [b] p/\k a op b=b6:=by
 unfold jZ at h;split at h
 .have(op,rfl,z1):=bF h;have(b,rfl,z2):=bF z1;show#[_,_,_,_,rfl,z2]
 .cases h
def mj{P:jw->Prop}(h:jZ e k=b6)(fz:∀a op b p,k a op b=b6->P (.Compare a [op] [b] p)):P e:=by
 have(a,op,b,p,rfl,z):=jr h;show fz _ _ _ _ z
abbrev cT(e:jw)(k:jw->Str->Pos->↑jw->Pos->Bool):Bool:=dH e λf as b=>d9 f λo m a=>k o m a as b
def hZ(h:cT e k=b6):∃o m a as b,e=.Call (.Attribute o m a) as [] b/\k o m a as b=b6:=by
 have(f,as,p,rfl,h):=hV h;have(o,m,q,rfl,h):=tw h;show#[_,_,_,_,_,rfl,h]
def cM{P:jw->Prop}(h:cT e k=b6)(fz:∀o m a as b,k o m a as b=b6->P (.Call (.Attribute o m a) as [] b)):P e:=by
 apply cy h;intro f as p h;apply dU h;intro o m q h;show fz _ _ _ _ _ h
abbrev j3(e:jw)(k:jw->jw->Bool):Bool:=match e with|.Subscript a b _=>k a b|_=>cK
def gf{P:jw->Prop}(h:j3 e k=b6)(fz:∀a b p,k a b=b6->P (.Subscript a b p)):P e:=by
 unfold j3 at h;split at h
 .show fz _ _ _ h
 .cases h
abbrev ZS:E->Bool
 |.var _=>b6
 |.cst _=>b6
 |_=>cK
abbrev fJ{α:Type}(l:↑α)(k:α->α->Bool):Bool:=match l with|[a,b]=>k a b|_=>cK
def di(h:fJ l k=b6):∃a b,l=[a,b]/\k a b=b6:=by
 unfold fJ at h;split at h
 .show#[_,_,rfl,h]
 grind
def qW{l}{k}{P:↑α->Prop}(h:fJ l k=b6)(fz:∀a b,k a b=b6->P ([a,b])):P l:=by
 unfold fJ at h;split at h
 .show fz _ _ h
 .cases h
abbrev BR(e:jw)(k:Const->Bool):Bool:=match e with|.Constant c _ _=>k c|_=>cK
def xE{P:jw->Prop}(h:BR e k=b6)(fz:∀c q p,k c=b6->P (.Constant c q p)):P e:=by
 unfold BR at h;split at h
 .show fz _ _ _ h
 .cases h
abbrev M8:Const->Option U
 |.int j=>bD (.int j)
 |.str y=>bD (.str y)
 |.bool y=>bD (.bl y)
 |.none=>bD .Nt
 |_=>cb
abbrev M9(u:U)(c:Const):Bool:=match M8 c with|some v=>qU u v|none=>cK
abbrev zk(e:jw)(op:BoolOp)(k:↑jw->Bool):Bool:=match e with|.BoolOp o es _=>df (o=op)&&k es|_=>cK
def pF(h:zk e op k=b6):∃es p,e=.BoolOp op es p/\k es=b6:=by
 unfold zk at h;split at h
 .rw[cc,Ř]at h;have(rfl,h):=h;show#[_,_,rfl,h]
 .cases h
def vL{P:jw->Prop}(h:zk e op k=b6)(fz:∀es p,k es=b6->P (.BoolOp op es p)):P e:=by
 have(es,p,rfl,z):=pF h;show fz _ _ z
abbrev BS(e:jw)(op:UnaryOp)(k:jw->Bool):Bool:=match e with|.UnaryOp o a _=>df (o=op)&&k a|_=>cK
def zm(h:BS e op k=b6):∃a p,e=.UnaryOp op a p/\k a=b6:=by
 unfold BS at h;split at h
 .rw[cc,Ř]at h;have(rfl,h):=h;show#[_,_,rfl,h]
 .cases h
def vM{P:jw->Prop}(h:BS e op k=b6)(fz:∀a p,k a=b6->P (.UnaryOp op a p)):P e:=by
 have(a,p,rfl,z):=zm h;show fz _ _ z
abbrev jc(e:jw)(k:↑jw->Bool):Bool:=match e with|.Tuple l _ _=>k l|_=>cK
def gh(h:jc e k=b6):∃l q p,e=.Tuple l q p/\k l=b6:=by
 unfold jc at h;split at h
 .show#[_,_,_,rfl,h]
 .cases h
def E9{P:jw->Prop}(h:jc e k=b6)(fz:∀l q p,k l=b6->P (.Tuple l q p)):P e:=by
 unfold jc at h;split at h
 .show fz _ _ _ h
 .cases h
abbrev BU(e:jw)(k:↑jw->Bool):Bool:=match e with|.List l _=>k l|_=>cK
def E_{P:jw->Prop}(h:BU e k=b6)(fz:∀l p,k l=b6->P (.List l p)):P e:=by
 unfold BU at h;split at h
 .show fz _ _ h
 .cases h
abbrev BV(e:jw):Bool:=match e with|.Dict a b _=>a.isEmpty&&b.isEmpty|_=>cK
def pG(h:BV e=b6):∃p,e=.Dict [] [] p:=by
 unfold BV at h;split at h
 .simp_all
 .cases h
def Jb{P:jw->Prop}(h:BV e=b6)(fz:∀p,P (.Dict [] [] p)):P e:=by
 have(p,rfl):=pG h;show fz _
abbrev xF(e:jw)(k:Option jw->Option jw->Bool):Bool:=match e with|.Slice a b c _=>c.isNone&&k a b|_=>cK
def vN(h:xF e k=b6):∃a b p,e=.Slice a b cb p/\k a b=b6:=by
 unfold xF at h;split at h
 .rw[cc,UA]at h;have(rfl,h):=h;show#[_,_,_,rfl,h]
 .cases h
def Fb{P:jw->Prop}(h:xF e k=b6)(fz:∀a b p,k a b=b6->P (.Slice a b cb p)):P e:=by
 have(a,b,p,rfl,z):=vN h;show fz _ _ _ z
abbrev BW(e:jw)(k:jw->jw->jw->↑jw->uk->Bool):Bool:=match e with|.ListComp elt a b _=>cw a λg=>df (g.is_async=0)&&k elt g.target g.iter g.ifs b|_=>cK
def fK(h:BW e k=b6):∃elt tg a ifs b p,e=.ListComp elt [⟨tg,a,ifs,0⟩] b p/\k elt tg a ifs b=b6:=by
 unfold BW at h;split at h
 .have((tg,a,ifs,z),rfl,z1):=bF h;rw[cc,Ř]at z1;have(rfl,z1):=z1;show#[_,_,_,_,_,_,rfl,z1]
 .cases h
def Jc{P:jw->Prop}(h:BW e k=b6)(fz:∀elt tg a ifs b p,k elt tg a ifs b=b6->P (.ListComp elt [⟨tg,a,ifs,0⟩] b p)):P e:=by
 have(elt,tg,a,ifs,b,p,rfl,z):=fK h;show fz _ _ _ _ _ _ z
abbrev xG(e:jw)(k:jw->Ħ->Ħ->jw->jw->Bool):Bool:=match e with|.Compare a d f _=>fJ d λp q=>fJ f λb c=>k a p q b c|_=>cK
def vO(h:xG e k=b6):∃a p q b c r,e=.Compare a [p,q] [b,c] r/\k a p q b c=b6:=by
 unfold xG at h;split at h
 .have(p,q,rfl,z1):=di h;have(b,c,rfl,z2):=di z1;show#[_,_,_,_,_,_,rfl,z2]
 .cases h
def Fc{P:jw->Prop}(h:xG e k=b6)(fz:∀a p q b c r,k a p q b c=b6->P (.Compare a [p,q] [b,c] r)):P e:=by
 have(a,p,q,b,c,r,rfl,z):=vO h;show fz _ _ _ _ _ _ z
abbrev isNm(e:jw)(n:Str):Bool:=aE e λx=>df (x=n)
def iN(h:isNm e n=b6):∃p,e=.Name n p:=by
 have(x,p,e,z):=ar h;show#[p,Ŝ z▸e]
abbrev nK(v:jw)(f:Str)(k:↑jw->Bool):Bool:=dH v λg as _=>isNm g f&&k as
def eS(h:nK v f k=b6):∃as p q,v=.Call (.Name f p) as [] q/\k as=b6:=by
 have(g,as,q,rfl,z):=hV h;rw[cc]at z;have(p,rfl):=iN z.1;show#[as,p,q,rfl,z.2]
def BX{P:jw->Prop}(h:nK v f k=b6)(fz:∀as p q,k as=b6->P (.Call (.Name f p) as [] q)):P v:=by
 have(as,p,q,rfl,z):=eS h;show fz _ _ _ z
abbrev Qn(N:↑Str)(a:uk)(i:Nat)(x:Str):Bool:=df (N[i]?≈x)&&g_ a x&&bq x
abbrev Jd:jw->Bool
 |.List [] _=>b6
 |_=>cK
def Je{P:jw->Prop}(h:Jd e=b6)(fz:∀p,P (.List [] p)):P e:=by
 unfold Jd at h;split at h
 .show fz _
 .cases h
abbrev vP(l:↑jw)(k:jw->↑jw->Bool):Bool:=match l with|a::as=>k a as|[]=>cK
def lp(h:vP l k=b6):∃a as,l=a::as/\k a as=b6:=by
 cases l with
 |nil=>cases h
 |cons a as=>show#[a,as,rfl,h]
abbrev Xo(m:Str):Bool:=df (m∉(["","rows","earlier","shelf"]:↑Str))
abbrev Vd(n:Nat):jw->Bool
 |.Constant (.int i) _ _=>df (i=(n:Int))
 |_=>cK
def nL(h:Vd n e=b6):∃j p,e=.Constant (.int n) j p:=by
 unfold Vd at h;split at h
 .rw[Ŝ h];show#[_,_,rfl]
 .cases h
abbrev Jf(N:↑Str)(a:uk):↑(Nat×Nat)->↑jw->Bool
 |[],as=>as.isEmpty
 |p::js,as=>vP as λe es=>(j3 e λo b=>aE o λx=>Qn N a p.1 x&&Vd p.2 b)&&Jf N a js es
abbrev ZT(k:Ck)(d:Bool)(f m:Str)(i:Nat)(N:↑Str)(b:uk)(q:↑jw->Bool)(e:jw):Bool:=cT e λo y a as c=>aE o λx=>df (y=m)&&df ((f,d,m)∈k.obs)&&Xo m&&Qn N b i x&&(a.endLine==c.line)&&df (⇑as<20)&&q as
abbrev ZU(k:Ck)(f m:Str)(i:Nat)(js:↑(Nat×Nat))(N:↑Str)(c:uk)(e:jw):Bool:=cT e λo y b as d=>d9 o λo1 a _=>aE o1 λx=>df (y=m)&&df (a="shelf")&&df ((f,cK,m)∈k.obs)&&Xo m&&Qn N c i x&&(b.endLine==d.line)&&df (⇑as<20)&&Jf N c js as
abbrev foB(k:Ck)(f:Str)(i:Nat)(N:↑Str)(b:uk)(q:↑jw->Bool)(e:jw):Bool:=dH e λc as _=>aE c λy=>vP as λa as'=>aE a λx=>df (y=f)&&df ((f,b6,("":Str))∈k.obs)&&OM b y&&bq y&&Qn N b i x&&q as'
mutual
noncomputable def bK(k:Ck):E->↑Str->uk->jw->Bool
 |.var i,N,g,h=>aE h λx=>df (N[i]?≈x)&&g_ g x&&bq x
 |.cst u,N,g,h=>BR h λc=>M9 u c
 |.PF x u,N,g,h=>aE h λy=>df (x=y)&&OM g x&&bq x&&k.gl.any λp=>df (p.1=x)&&qU p.2 u
 |.bin op a b,N,g,h=>BQ h λa' z r=>df (op.op=z)&&bK k a N g a'&&bK k b N g r
 |.cmp op a b,N,g,h=>jZ h λa' z r=>df (op.op=z)&&!RW z r&&bK k a N g a'&&bK k b N g r
 |.Qi o1 o2 a b c,N,g,h=>xG h λa' p q r B=>df (o1.op=p)&&df (o2.op=q)&&!lastMarks [p,q] [r,B]&&bK k a N g a'&&bK k b N g r&&bK k c N g B
 |.and es,N,g,h=>zk h .And λl=>aO k es N g l
 |.or es,N,g,h=>zk h .Or λl=>aO k es N g l
 |.not a,N,g,h=>BS h .Not λa'=>bK k a N g a'
 |.ite _ _ _,_,_,_=>cK
 |.neg a,N,g,h=>BS h .USub λa'=>bK k a N g a'
 |.bad,_,_,_=>b6
 |.Oy i,N,g,h=>d9 h λo m _=>aE o λx=>df (m="rows")&&Qn N g i x
 |.PQ i,N,g,h=>jZ h λa' op r=>d9 a' λo m _=>aE o λx=>Jd r&&df (op=.Eq)&&df (m="earlier")&&Qn N g i x
 |.lW i,N,g,h=>cT h λo m j as v=>d9 o λo2 m2 _=>aE o2 λx=>as.isEmpty&&df (m="pop")&&df (m2="earlier")&&(j.endLine==v.line)&&Qn N g i x
 |.O8 f i es,N,g,h=>foB k f i N g (λas=>aO k es N g as) h
 |.QK d f m i es,N,g,h=>ZT k d f m i N g (λas=>aO k es N g as) h
 |.P7 f m i js,N,g,h=>ZU k f m i js N g h
 |.pop i,N,g,h=>cT h λo m j as v=>aE o λx=>as.isEmpty&&df (m="pop")&&df (N[i]?≈x)&&g_ g x&&bq x&&(j.endLine==v.line)
 |.Sn _ _,_,_,_=>cK
 |.Tg f es,N,g,h=>dH h λs l _=>aE s λx=>df (x=f)&&df (f∈k.OW)&&OM g x&&bq x&&!l.isEmpty&&aO k es N g l
 |.inD neg a i,N,g,h=>jZ h λa' z r=>aE r λx=>df (IJ neg=z)&&!RW z r&&df (N[i]?≈x)&&g_ g x&&bq x&&bK k a N g a'
 |.U4 i,N,g,h=>aE h λx=>df (N[i]?≈x)&&g_ g x&&bq x
 |.Qj i a b,N,g,h=>cT h λo m j as v=>aE o λx=>fJ as λa' r=>df (m="get")&&df (N[i]?≈x)&&g_ g x&&bq x&&(j.endLine==v.line)&&noStar a'&&noStar r&&bK k a N g a'&&bK k b N g r
 |.U5 i,N,g,h=>dH h λs as _=>aE s λf=>cw as λc=>cT c λo m j bs v=>aE o λx=>bs.isEmpty&&df (f="sorted")&&OM g f&&df (m="items")&&df (N[i]?≈x)&&g_ g x&&bq x&&(j.endLine==v.line)
 |.W5 _ _ _,_,_,_=>cK
 |.fst es,N,g,h=>cK
 |.Tf a T,N,g,h=>dH h λs as _=>aE s λx=>fJ as λa' r=>aE r λy=>df (x="isinstance")&&df (y=T.name)&&OM g x&&OM g y&&noStar a'&&bK k a N g a'
 |.tup es,N,g,h=>jc h λl=>aO k es N g l
 |.lst es,N,g,h=>BU h λl=>aO k es N g l
 |.PN _,N,g,h=>BV h
 |.idx a b,N,g,h=>j3 h λa' r=>fk r&&bK k a N g a'&&bK k b N g r
 |.Ph a lo hi,N,g,h=>j3 h λa' r=>xF r λA C=>bK k a N g a'&&vQ k lo N g A&&vQ k hi N g C
 |.bi f es,N,g,h=>dH h λs l _=>aE s λx=>df (x=f.name)&&simple f&&OM g x&&!l.isEmpty&&aO k es N g l
 |.Rk f es,N,g,h=>dH h λs as _=>aE s λx=>cw as λc=>dH c λg' l _=>aE g' λy=>df (x=f.qO)&&df (y=f.jW)&&OM g x&&OM g y&&!l.isEmpty&&aO k es N g l
 |.OS m a es,N,g,h=>cT h λo name j l v=>df (name=m.name)&&mf o&&(j.endLine==v.line)&&!l.isEmpty&&df (⇑l<20)&&bK k a N g o&&aO k es N g l
 |.call f es,N,g,h=>dH h λs l _=>aE s λx=>df (x=f)&&df (f∈k.fns)&&OM g x&&bq x&&!l.isEmpty&&aO k es N g l
 |.comp n t D src cond e,N,g,h=>BW h λelt tg w ifs scope =>
   df (⇑(jb tg)=n)&&D6 (jb tg++hide (jb tg) N) (jb tg) scope g.names&&Vc t (jb tg++hide (jb tg) N) (zj scope g) (λx=>df (scope.names.lookup x≈.cell)) (ib n) tg&&vK w &&
   (match hU g tg D w with
    |some as=>aO k src N g as
    |none=>cK) &&
   df (⇑ifs<=1)&&aO k cond (jb tg++hide (jb tg) N) (zj scope g) ifs&&bK k e (jb tg++hide (jb tg) N) (zj scope g) elt
noncomputable def aO(k:Ck):↑E->↑Str->uk->↑jw->Bool
 |[],_,_,a=>a.isEmpty
 |e::es,N,b,a=>match a with
  |e'::a=>noStar e'&&bK k e N b e'&&aO k es N b a
  |[]=>cK
noncomputable def vQ(k:Ck):↑E->↑Str->uk->Option jw->Bool
 |[],_,_,o=>o.isNone
 |[e],N,a,o=>match o with
  |some b=>bK k e N a b
  |none=>cK
 |_::_::_,_,_,_=>cK
end
abbrev bP:↑Str:=["len","sorted","repr","max","min","all","any","list","tuple","str","int","range","enumerate","zip","reversed","set","dict","sum","isinstance","bool"]
abbrev vR(ck:Ck)(K:W.Frag)(mg:Str->Option g8):Prop:=∀D,(∃p∈ck.xi,p.2.1=D)->∃a,((∃b,a=.ref b/\mg D≈.ref b)\/(D="ValueError"/\a=.type "ValueError"/\mg D=cb))/\∀p∈ck.xi,p.2.1=D->∀C,W.nsIn K i5 p.1≈bD (.ref C)->gG K C=b6/\W.kitOne K (.ref C) a≈p.2.2
abbrev Xp(a:↑(Str×Str×Bool))(c:Str)(G:↑Str)(b:Bool):Prop:=(∃D,G=[D]/\(c,D,b)∈a)\/(b=cK/\2<=⇑G/\∀D∈G,(c,D,cK)∈a)
structure Up(ck:Ck)(K:W.Frag)(mg:Str->Option g8):Prop where
 xc:∀x∈ck.xc,∃C,mg x≈.ref C/\W.nsIn K i5 x≈bD (.ref C)/\W.excIn K C U0 "ValueError.__new__"=b6
 xd:∀p∈ck.xd,∃C D,mg p.1≈.ref C/\W.nsIn K i5 p.1≈bD (.ref C)/\mg p.2≈.ref D/\W.exmOne K (.ref C) (.ref D)≈b6
 xi:vR ck K mg
inductive zo(P:sd)(w:wk)(K:W.Frag)(mg:Str->Option g8)(base:K2)(d:Nat)(F:↑U->Option (Ex (Kd×U)))(f:Str):Prop
 |mk (np:Nat) (fa:hH) (fd:Vo) (ps:↑Str):dE P w K mg base (Pw P w) d fa fd ps (spT P w K F np)->mg f≈.ref fa->W.keepIn K (.ref fa)=b6->Binds K fd ps []->(∀us k u,F us≈.ok (k,u)->(k=.own\/k=.loc\/k=.any)/\⇑us=np)->(∀us c,F us≈.exc c->⇑us=np)->zo P w K mg base d F f
inductive Lv(P:sd)(w:wk)(K:W.Frag)(mg:Str->Option g8)(base:K2)(d:Nat)(F:↑U->Option (Ex (Kd×U)))(f:Str)(b:Bool)(m:Str):Prop
 |mk (np:Nat) (fa:hH) (fd:Vo) (ps:↑Str):dE P w K mg base (Pw P w) d fa fd ps (Tn P w K F np)->(m=""->mg f≈.ref fa)->W.keepIn K (.ref fa)=b6->(m≠""->∀cl,Ri K b cl->Meth K cl m fa)->Binds K fd ps []->(∀us r,F us≈.ok r->⇑us=np)->Lv P w K mg base d F f b m
inductive Lw(P:sd)(w:wk)(K:W.Frag)(mg:Str->Option g8)(base:K2)(d:Nat)(F:↑U->Option (Ex (Kd×U)))(f:Str):Prop
 |mk (fa:hH) (fd:Vo) (ps:↑Str):dE P w K mg base (Pw P w) d fa fd ps (Xm P w K F)->mg f≈.ref fa->W.keepIn K (.ref fa)=b6->Binds K fd ps []->Lw P w K mg base d F f
inductive Wh(P:sd)(w:wk)(K:W.Frag)(mg:Str->Option g8)(base:K2):Prop
 |mk (cl cd fi fd:_):PZ K cK cl->PZ K b6 cd->Mk K cd fi->dE P w K mg base SW 3 fi fd ["self"] (ZM cl cd)->Binds K fd ["self"] []->mg "Desk"≈.ref cd->Wh P w K mg base
structure Wi(ck:Ck)(Γ:Tab)(P:sd)(w:wk)(K:W.Frag)(mg:Str->Option g8)(base:K2)(d:Nat):Prop where
 o:∀q∈ck.obs,Lv P w K mg base d (Γ q.1) q.1 q.2.1 q.2.2
 sh:Wh P w K mg base
 lv:4<=d
 n:∀f∈ck.OW,Lw P w K mg base d (Γ f) f
structure Gd(ck:Ck)(Γ:Tab)(C:Ct)(d:Nat)(X:Cx):Prop where
 P:C.P=X.prog
 w:C.w=X.w
 K:C.K=X.K
 u:X.A.units+60<C0
 calm:X.calm=b6
 room:cW d X.A
 blt:∀x∈bP,X.mg x=cb
 fns:∀f∈ck.fns,zo X.prog X.w X.K X.mg X.base d (Γ f) f
 P0:∀p∈ck.gl,∃val v,X.mg p.1≈val/\RelV v val/\∀S H,Rep C S H p.2 v
 OW:Wi ck Γ X.prog X.w X.K X.mg X.base d
def Gd.cx(g:Gd ck Γ C d X)(N)(a)(D)(s)(H)(ex):Gd ck Γ C d (Ou X N a D s H ex) :=
 #[g.P,g.w,g.K,g.u,g.calm,g.room,g.blt,g.fns,g.P0,g.OW]
def cD(h:g_ a x=b6):Ow a x:=by
 unfold g_ at h;erw[Rv,Ř]at h;rcases h with(h|h)|h
 .show .inl h
 .show .inr (.inl h)
 .show .inr (.inr h)
def aF(h:bq x=b6):(x==("__debug__":Str))=cK/\(x==("__classdict__":Str))=cK:=by
 unfold bq at h;exists h
def a_(h:noStar e=b6):i0 (e::es) env=(cK,p8 e env)::i0 es env:=by
 cases e<;>first|rfl|cases h
def tD(h:fk e=b6):lY e:=by
 intro o i;cases e<;>first|rfl|cases h
def vS(h:vK e=b6):∀x,Cd e env x=pure x:=by
 intro x;cases e<;>first|rfl|cases h
def j4(h:mf o=b6):LF o name env a=a:=by
 cases o with
 |Call f as ks p =>
  cases f with
  |Name x q=>cases as with
   |nil=>cases ks with
    |nil=>cases h
    |cons _ _=>rfl
   |cons _ _=>rfl
  |_=>rfl
 |_=>rfl
def bj(h:∀e∈es,noStar e=b6):(vl pos (i0 es env)).any (·.1)=cK/\(vl pos (i0 es env)).all (λx=>!x.1)=b6:=by
 induction es with
 |nil=>show#[rfl,rfl]
 |cons e es a =>
  rw[a_ (h e ⋯)];have:=a λb c=>h b (by simp[c])
  assumption
def bX(h:aO k es N c a=b6):∀e∈a,noStar e=b6:=by
 induction es generalizing a with
 |nil =>
  cases a with
  |nil=>intro e he;cases he
  |cons _ _=>simp[aO]at h
 |cons x es b =>
  cases a with
  |nil=>intro e he;cases he
  |cons d a =>
   erw[aO,cc]at h;intro e he;rcases eT.mp he with rfl|he
   .show h.1.1
   .show b h.2 e he
def pH(a:∀x,fa x=b6->X.fn x=b6)(h:xD X.N X.env.scope fa i e=b6):vF X e i:=by
 cases e with
 |Name x p =>
  erw[xD,cc,Ř,jY,Rv,BP]at h;show#[x,p,rfl,h.1.1,?_,?_]
  .rcases h.1.2 with z|z
   .show .inl z
   .show .inr z
  .rcases h.2 with z|z
   .show .inl (a x z)
   .show .inr z
 |_=>cases h
theorem nM(a:∀x,fa x=b6->X.fn x=b6):∀{is}{es},qV X.N X.env.scope fa is es=b6->f_ X es is
 |[],[],_=>.nil
 |[],_::_,h=>by cases h
 |_::_,[],h=>by cases h
 |i::is,e::es,h=>by
  erw[qV,cc]at h;show .cons (pH a h.1) (nM a h.2)
def xH(c:X.calm=b6)(d:C.K=X.K)(a:X.N.Nodup)(b:∀x,fa x=b6->X.fn x=b6)(h:Vc t X.N X.env.scope fa is tg=b6):PG X tg (tG C t is):=by
 cases tg with
 |Name x p =>
  erw[Vc,cc,mN]at h;have(rfl,h):=h;cases is with
  |nil=>cases h
  |cons i is=>cases is with
   |nil=>show IE a (pH b h)
   |cons _ _=>cases h
 |Tuple es k p =>
  erw[Vc,cc,lx,Ř]at h;have((rfl,e),f):=h;show K9 c d a (nM b e) f
 |_=>cases h
def kH(a N):fw ((a++hide a N).drop ⇑a) N:=by
 rw[Wb rfl];unfold hide;split
 .show .refl N
 .show(fw.refl N).set _ (.inl rfl)
 .show((fw.refl N).set _ (.inl rfl)).set _ (.inr rfl)
abbrev Bf.isB:Bf->Bool
 |.len=>b6|.sorted=>b6|.repr=>b6|.max=>b6|.min=>b6|.all=>b6|.any=>b6|_=>cK
abbrev Bf.id:Bf->String
 |.len=>"len"|.sorted=>"sorted"|.repr=>"repr"|.max=>"max"|.min=>"min"|.all=>"all"|.any=>"any"
 |.list=>"list"|.tuple=>"tuple"|.str=>"str"|.int=>"int"
def Fd:∀f,simple f=b6->sx f.name≈f.val/\f.name∈bP/\f.name≠"__name__"/\(f.name==("__debug__":Str))=cK:=by
 intro f h;cases f<;>first|show⟨by decide +kernel,by decide +kernel,by decide +kernel,by rfl⟩|(done)
def Jg:∀f,simple f=b6->(f.val=.builtin f.id\/f.val=.type f.id):=by
 intro f h;cases f<;>first|show .inl rfl|show .inr rfl|(done)
def Jh:∀f:B2,f.qO∈bP/\f.jW∈bP:=by
 intro f;cases f<;>show#[by decide +kernel,by decide +kernel]
def Fe:∀f:Mf,ı "str" f.name f.id/\Zq (.builtin f.id)=pure (.type "method_descriptor"):=by
 intro f;cases f with
 |split=>show#[F.slot_str_split,F.type_str_split]
 |join=>show#[F.slot_str_join,F.type_str_join]
 |partition=>show#[F.slot_str_partition,F.type_str_partition]
 |endswith=>show#[F.slot_str_endswith,F.type_str_endswith]
def cn(h:OM X.env.scope x=b6):Gl X x:=by
 change X.env.kindOf x≈_;show Ŝ h
def Ff:("enumerate":Str)∈bP:=by decide +kernel
def j5:("isinstance":Str)∈bP:=by decide +kernel
def BY(T:Sj):T.name∈bP:=by cases T<;>decide +kernel
def xI:("range":Str)∈bP:=by decide +kernel
def Gz(g:Gd ck Γ C d X)(h:hU X.env.scope tg o i≈as)(n:PA X as (OQ C (bG Γ src)))(r:∀a,as=[a]->∃e,src=[e]/\PE X a (NF C (ev Γ e)))(l:∀e∈as,noStar e=b6):PI X tg i (Rn C o (bG Γ src)):=by
 unfold hU at h;split at h
 .cases h;have(e,rfl,s):=r _ rfl;show IC g.K s
 .rw[ki]at h;have((x,bs),j,h):=h;split at h
  .rename_i k;cases h;have(c,f,hl):=k
   dsimp only at c f hl
   subst c;have(p,q,rfl):=hJ j;have(b,rfl):=VW.mp hl;show EO (cn f) (g.blt _ xI) (a_ (l _ ⋯)) n
  .cases h
 .rw[ki]at h;have((x,bs),j,h):=h;split at h
  .rename_i k;cases h;have(c,f,hl):=k
   dsimp only at c f hl
   subst c;have(p,q,rfl):=hJ j;obtain⟨b,m,rfl⟩:∃b m,bs=[b,m]:=by match bs,hl with|[b,m],_=>show#[b,m,rfl]
   have s1:=a_ (env:=X.env) (es:=[]) (l _ (f7 _ il));show ER (cn f) (g.blt _ xI) (by rw[a_ (l _ il),s1];rfl) s1 n
  .cases h
 .rw[ki]at h;have((x,bs),j,h):=h;split at h
  .rename_i k;cases h;have(c,f,hl,t):=k
   dsimp only at c f hl
   subst c;have(p,q,rfl):=hJ j;have(b,rfl):=VW.mp hl;cases tg with
   |Tuple es u ps=>show ID g.K (cn f) (g.blt _ Ff) (a_ (l _ ⋯)) n
   |_=>cases t
  .cases h
 .cases h
def Gd.OU(g:Gd ck Γ C d X):Gd ck Γ C d X.OU :=
 #[g.P,g.w,g.K,g.u,g.calm,g.room,g.blt,g.fns,g.P0,g.OW]
def GA{a:M α}{b:α->M β}{c:α->M γ}{g:γ->M δ}{st}{Q}(w:W (a >>= λx=>b x >>= λ_=>c x >>= g) st Q):W ((a >>= λx=>b x >>= λ_=>c x) >>= g) st Q:=by
 erw[ag]at w ⊢;show w
def bw:PT X e (OT C M.fail):=λpins s σ H Q I ⟨_,_,_,_,w⟩=>(bf.mp w).elim
def h_:PE X e (NF C M.fail):=λpins s σ H Q I ⟨_,_,_,_,w⟩=>(bf.mp w).elim
def PT.eqv(h:PT X e (OT C m))(i:∀st Q,W a st Q->W m st Q):PT X e (OT C a):=PT.weak h λσ H Q ⟨c0,b,c,d,w⟩=>#[c0,b,c,d,i _ _ w]
def Lx(g:Gd ck Γ C d X)(b:PA X a (OQ C (bG Γ es)))
  (h:(df (x=f.name)&&simple f&&OM X.env.scope x&&!a.isEmpty&&aO ck es X.N X.env.scope a)=b6):PE X (.Call (.Name x p) a [] pos) (NF C (ev Γ (.bi f es))):=by
 erw[cc,Ř]at h;obtain⟨⟨⟨⟨rfl,c⟩,i⟩,m⟩,n⟩:=h;have(b1,j,b3,b4):=Fd f c;have k:=bX n;cases a with
 |nil=>cases m
 |cons o l =>
  have st:=a_ (env:=X.env) (es:=l) (k o ⋯);have sn:=(bj (pos:=pos) (env:=X.env) (es:=l) λe q=>k e (by simp[q])).1;rcases Jg f c with hv|hv
  .show EI g.calm g.K g.room.gd g.u hv (cn i) (g.blt _ j) (by rw[b1,hv]) b3 b4 b st sn
  .show EJ g.calm g.K g.room.gd g.u hv (cn i) (g.blt _ j) (by rw[b1,hv]) b3 b4 b st sn
def Ly(g:Gd ck Γ C d X)(i:PA X a (OQ C (bG Γ es)))
  (h:(df (x=f.qO)&&df (y=f.jW)&&OM X.env.scope x&&OM X.env.scope y&&!a.isEmpty&&aO ck es X.N X.env.scope a)=b6):PE X (.Call (.Name x p) [.Call (.Name y p2) a [] pos2] [] pos) (NF C (ev Γ (.Rk f es))):=by
 erw[cc,Ř]at h;obtain⟨⟨⟨⟨⟨rfl,rfl⟩,j⟩,k⟩,l⟩,m⟩:=h;have(b1,n):=Jh f;have b:=bX m;cases a with
 |nil=>cases l
 |cons o c =>
  have st:=a_ (env:=X.env) (es:=c) (b o ⋯);have sn:=(bj (pos:=pos2) (env:=X.env) (es:=c) λe q=>b e (by simp[q])).1;show EN g.calm g.K (cn j) (g.blt _ b1) (cn k) (g.blt _ n) i st sn
def Lz(g:Gd ck Γ C d X)(l:PE X o (NF C (ev Γ a)))(n:PA X b (OQ C (bG Γ es)))
  (h:(df (name=m.name)&&mf o&&(c.endLine==f.line)&&!b.isEmpty&&df (⇑b<20)&&bK ck a X.N X.env.scope o&&aO ck es X.N X.env.scope b)=b6):PE X (.Call (.Attribute o name c) b [] f) (NF C (ev Γ (.OS m a es))):=by
 erw[cc,Ř]at h;obtain⟨⟨⟨⟨⟨⟨rfl,p⟩,q⟩,r⟩,s⟩,x⟩,t⟩:=h;have i:=bX t;have(s1,u):=Fe m;cases b with
 |nil=>cases r
 |cons k j =>
  have st:=a_ (env:=X.env) (es:=j) (i k ⋯);have sn:=(bj (pos:=f) (env:=X.env) (es:=j) λe v=>i e (by simp[v])).1;have w:=(bj (pos:=f) (env:=X.env)  i).2;show EL g.K s1 u l n (j4 p) ?_ q st sn;rw[w];have:⇑(k::j)+⇑([]:↑QF)+(if ([]:↑QF).isEmpty=b6 then 0 else 1)<30:=by simp at s ⊢;lia
  erw[ŝ this];rfl
def BZ(g:Gd ck Γ C d X)(i:PA X a (OQ C (bG Γ es)))
  (h:(df (x=f)&&df (f∈ck.fns)&&OM X.env.scope x&&bq x&&!a.isEmpty&&aO ck es X.N X.env.scope a)=b6):PE X (.Call (.Name x p) a [] pos) (NF C (ev Γ (.call f es))):=by
 erw[cc,Ř,mN]at h;obtain⟨⟨⟨⟨⟨rfl,j⟩,k⟩,l⟩,m⟩,n⟩:=h;have b:=bX n;have(y,fa,z,ps,o,q,r,s,t,_):=(g.fns _ j)
 cases a with
 |nil=>cases m
 |cons u c =>
  have st:=a_ (env:=X.env) (es:=c) (b u ⋯);have sn:=(bj (pos:=pos) (env:=X.env) (es:=c) λe v=>b e (by simp[v])).1;show Bp g.P g.w g.K rfl t o g.room (cn k) q r s (aF l).1 i st sn
def LA(g:Gd ck Γ C d X)(i:PA X a (OQ C (bG Γ es)))
  (h:(df (x=f)&&df (f∈ck.OW)&&OM X.env.scope x&&bq x&&!a.isEmpty&&aO ck es X.N X.env.scope a)=b6):PE X (.Call (.Name x p) a [] pos) (NF C (ev Γ (.Tg f es))):=by
 erw[cc,Ř,mN]at h;obtain⟨⟨⟨⟨⟨rfl,j⟩,k⟩,l⟩,m⟩,o⟩:=h;have b:=bX o;have(fa,y,ps,q,r,s,t):=(g.OW.n _ j)
 cases a with
 |nil=>cases m
 |cons u c =>
  have st:=a_ (env:=X.env) (es:=c) (b u ⋯);have sn:=(bj (pos:=pos) (env:=X.env) (es:=c) λe v=>b e (by simp[v])).1;show E7 g.P g.w g.K rfl q g.room (cn k) r s t (aF l).1 i st sn
def dI{X:Cx}(h:Qn X.N X.env.scope i x=b6):X.N[i]?≈x/\Ow X.env.scope x/\(x==("__debug__":Str))=cK/\(x==("__classdict__":Str))=cK:=by
 erw[Qn,cc,Ř]at h;have(a,b):=aF h.2;show#[h.1.1,cD h.1.2,a,b]
def GB{X:Cx}(a:∀e∈as,noStar e=b6):∀e es,as=e::es->i0 (e::es) X.env=(cK,p8 e X.env)::i0 es X.env/\(vl pos (i0 es X.env)).any (·.1)=cK:=λe es z=>by
 subst z;show#[a_ (a e ⋯),(bj λe b=>a e (by simp[b])).1]
def GC(b:∀e∈as,noStar e=b6)(f:⇑as<20)(c:(a.endLine==pos.line)=b6)(d:LF o m X.env (p8 o X.env)=p8 o X.env):Wc X o m as a pos :=
 E3 (by rw[(bj b).2];change(b6&&b6&&df (⇑as+0+0<30))=b6;grind) c d
def B0(h:Xo m=b6):m≠""/\m∉(["rows","earlier","shelf"]:↑Str):=by
 simpa[Xo] using h
def LB(g:Gd ck Γ C d X)(h:ZT ck b f m i X.N X.env.scope q j=b6)(k:∀as,q as=b6->PA X.OU as (OQ C (bG Γ es))/\(∀e∈as,noStar e=b6)/\(as=[]->es=[])):PR X C j (Pj Γ (.mt b f m i es)):=by
 apply cM h;intro o y a as Y z1;apply aX z1;intro x px z2;erw[cc,Ř]at z2;obtain⟨⟨⟨⟨⟨⟨rfl,l⟩,n⟩,p⟩,r⟩,s⟩,t⟩:=z2;have(np,fa,fd,ps,u,_,q3,v,A,B):=(g.OW.o _ l)
 have(D,c,G):=k as t;have(H,I,J,L):=dI p;have(O,Q):=B0 n;obtain⟨cl,K⟩:∃cl,PZ X.K b cl:=by
  have(cl,cd,_,_,K,T,_,_,_,_):=g.OW.sh;cases b with
  |false=>show#[_,K]
  |true=>show#[_,T]
 show M5 K g.P g.w g.K H I J L rfl B u g.room (v O cl K.hc) A Q D (λz=>by rw[G z];rfl) (GB c) (GC c s r rfl)
theorem GD(c:C.K=X.K):∀{js}{as},Jf X.N X.env.scope js as=b6->PA X as (Vb C js)/\(∀e∈as,noStar e=b6)/\(as=[]->js=[])
 |[],as,h=>by
  cases oa.mp (h);show#[E4,(λe a=>nomatch a),λ_=>rfl]
 |p::js,as,h=>by
  have(e,es,rfl,z):=lp (h);rw[cc]at z;have h:=z;have(d,f,_):=GD c h.2;apply gf h.1;intro o b q z1;apply aX z1;intro x l z2;rw[cc]at z2;have(g,i,j,k):=dI z2.1;have(_,_,rfl):=nL z2.2;show#[E5 c (Kz kn (a9 g i j k) mL λ_ _=>rfl) d rfl,λe a=>(eT.mp a).elim (λz=>by rw[z];rfl) (f e),λz=>nomatch z]
def LC(g:Gd ck Γ C d X)(h:ZU ck f m i js X.N X.env.scope e=b6):PR X C e (Pj Γ (.P7 f m i js)):=by
 apply cM h;intro o y b as L z1;apply dU z1;intro o1 a O z1;apply aX z1;intro x Q z2;erw[cc,Ř]at z2;obtain⟨⟨⟨⟨⟨⟨⟨rfl,rfl⟩,j⟩,k⟩,l⟩,n⟩,p⟩,q⟩:=z2;have(T,fa,Y,ps,r,_,q3,s,t,u):=(g.OW.o _ j)
 have(v,c,z):=GD (X:=X.OU) g.K q;have(A,B,D,G):=dI l;have(H,I):=B0 k;have(cl,cd,_,_,K,J,_,_,_,_):=g.OW.sh;show Lo J K g.P g.w g.K A B D G rfl u r g.room (s H cl K.hc) t I v z (GB c) (GC c p n rfl)
def LD(g:Gd ck Γ C d X)(h:foB ck f i X.N X.env.scope q c=b6)(j:∀as,q as=b6->PA X.OU as (OQ C (bG Γ es))/\(∀e∈as,noStar e=b6)/\(as=[]->es=[])):PR X C c (QX b6 i >>= λ_=>bG Γ es >>= λrs=>az rs >>= λ_=>dR Γ f cK i rs)/\∀b,isTrue c X.env b=(do let v <-b;Wx c.pos;KX [v] (ć v)):=by
 apply cy h;intro J as pos z1;apply aX z1;intro y L z1;have(a,as,rfl,z1):=lp z1;apply aX z1;intro x O z2;erw[cc,Ř]at z2;obtain⟨⟨⟨⟨⟨rfl,k⟩,l⟩,m⟩,n⟩,p⟩:=z2;have(Q,fa,T,ps,r,s,t,_,u,z):=(g.OW.o _ k)
 have(A,B,_):=j as p;have(D,G,H,I):=dI n;show#[M6 g.P g.w g.K D G H I rfl z r g.room (cn l) (s rfl) t u (aF m).1 A (bj B).1,λ_=>rfl]
def eZ(h:(b&&aO k es N a c)=b6):aO k es N a c=b6:=(n7.mp h).2
mutual
theorem bQ:∀(e:E) (X:Cx) (k:jw),Gd ck Γ C d X->bK ck e X.N X.env.scope k=b6->PE X k (NF C (ev Γ e))
 |.var i,X,k,g,h=>by
  apply aX h;intro x B A;clear h;have h:=A;erw[cc,Ř]at h;have(Y,h4):=aF h.2;show l_ h.1.1 (cD h.1.2) Y h4
 |.cst u,X,k,g,h=>by
  apply xE h;intro c q0 B A;cases c with
  |int j=>have:=cP A;subst this;show jV mL λ_ _=>rfl
  |str y=>have:=cP A;subst this;show jV uA λ_ _=>rfl
  |bool y=>have:=cP A;subst this;show jV Ae λ_ _=>rfl
  |none=>have:=cP A;subst this;show jV uw λ_ _=>rfl
  |_=>cases A
 |.PF x u,X,k,g,h=>by
  apply aX h;intro y B A;clear h;have h:=A;erw[cc,Ř,S7]at h;obtain⟨⟨⟨rfl,G⟩,J⟩,p,hp,e1,e2⟩:=h;have:=cP e2;subst this e1;have(val,v,q1,q2,q3):=g.P0 p hp;show jV (DB (cn G) q1 q2 (aF J).1) q3
 |.bin op a b,X,k,g,h=>by
  apply E8 h;intro a' QZ b' B A;clear h;have h:=A;erw[cc,Ř]at h;have((rfl,G),J):=h;show Es g.K (bQ a X _ g G) (bQ b X _ g J)
 |.cmp op a b,X,k,g,h=>by
  apply mj h;intro a' QZ b' B z1;have h:=z1;erw[cc,Ř,mN]at h;obtain⟨⟨⟨rfl,h0⟩,G⟩,J⟩:=h;show Et g.P g.w g.K g.u (bQ a X _ g G) (bQ b X _ g J) h0
 |.Qi o1 o2 a b c,X,k,g,h=>h_
 |.and es,X,k,g,h=>by
  apply vL h;intro Nw B A;clear h;have h:=A;show B1 es X _ g h
 |.or es,X,k,g,h=>h_
 |.not a,X,k,g,h=>by
  apply vM h;intro a' B A;clear h;have h:=A;show Ew (bQ a X _ g h)
 |.neg a,X,k,g,h=>by
  apply vM h;intro a' B A;clear h;have h:=A;show Ey (bQ a X _ g h)
 |.bad,X,k,g,h=>h_
 |.Oy i,X,k,g,h=>by
  apply dU h;intro o m q z1;apply aX z1;intro x px z2;erw[cc,Ř]at z2;have(rfl,G):=z2;have(w1,w2,w3,w4):=dI G;have(cl,_,_,_,K,_,_,_,_,_):=g.OW.sh;show BF K g.K w1 w2 w3 w4
 |.PQ i,X,k,g,h=>h_
 |.lW i,X,k,g,h=>by
  apply cM h;intro o m O as Nn z1;apply dU z1;intro o2 m2 q z2;apply aX z2;intro x px z3;erw[cc,Ř,oa]at z3;obtain⟨⟨⟨⟨rfl,rfl⟩,rfl⟩,G⟩,J⟩:=z3;have(w1,w2,w3,w4):=dI J;have(cl,_,_,_,K,_,_,_,_,_):=g.OW.sh;show BI K g.K w1 w2 w3 w4 G
 |.O8 f i es,X,k,g,h=>xB (LD (es:=es) g h λas L=>#[iU es X.OU as g.OU L,bX L,λz=>by subst z;cases es with|nil=>rfl|cons _ _=>simp[aO]at L]).1
 |.QK b f m i es,X,k,g,h=>xB (LB (es:=es) g h λas L=>#[iU es X.OU as g.OU L,bX L,λz=>by subst z;cases es with|nil=>rfl|cons _ _=>simp[aO]at L])
 |.P7 f m i js,X,k,g,h=>xB (LC g h)
 |.pop i,X,k,g,h=>by
  apply cM h;intro o m O as Nn z1;apply aX z1;intro x px z2;erw[cc,Ř,oa]at z2;obtain⟨⟨⟨⟨⟨rfl,rfl⟩,G⟩,J⟩,Y⟩,h4⟩:=z2;have(q1,q2):=aF Y;show E1 G (cD J) q1 q2 h4 g.K
 |.Sn i a,X,k,g,h=>absurd (show cK=b6 from h) ke
 |.Tg f es,X,k,g,h=>by
  apply cy h;intro f' as B z1;have(x,p1,rfl,z2):=ar z1;have h:=z2;show LA g (iU es X _ g (eZ h)) h
 |.inD neg a i,X,k,g,h=>h_
 |.U4 i,X,k,g,h=>by
  have(x,B,rfl,A):=ar h;clear h;have h:=A;erw[cc,Ř]at h;have(Y,h4):=aF h.2;show EV h.1.1 (cD h.1.2) Y h4
 |.Qj i a b,X,k,g,h=>by
  apply cM h;intro o m O as Nn z1;have(x,px,rfl,z2):=ar z1;apply qW z2;intro a' b' z3;clear h z1;have z2:=z3;erw[cc,Ř]at z2;obtain⟨⟨⟨⟨⟨⟨⟨⟨rfl,G⟩,J⟩,Y⟩,h4⟩,h5⟩,h6⟩,L⟩,h8⟩:=z2;have(q1,q2):=aF Y;have sa:=bj (pos:=Nn) (env:=X.env) (es:=[a',b']) λe he=>by
   rcases eT.mp he with rfl|he
   .show h5
   .simp at he;subst he;show h6
  show BC g.u G (cD J) q1 q2 (bQ a X _ g L) (bQ b X _ g h8) #[rfl,by rw[sa.2];rfl,h4,by rw[a_ h5,a_ h6];rfl]
 |.U5 i,X,k,g,h=>by
  apply cy h;intro f' as _ z1;have(f,_,rfl,z2):=ar z1;apply fm z2;intro c z3;apply cM z3;intro o m O bs Nn z4;have(x,px,rfl,z5):=ar z4;erw[cc,Ř,oa]at z5;obtain⟨⟨⟨⟨⟨⟨⟨rfl,rfl⟩,G⟩,rfl⟩,Y⟩,h4⟩,h5⟩,h6⟩:=z5;have(q1,q2):=aF h5;show EZ g.calm g.K (cn G) (g.blt _ (by decide +kernel)) Y (cD h4) q1 q2 h6
 |.W5 ln a b,X,k,g,h=>h_
 |.fst es,X,k,g,h=>h_
 |.Tf a T,X,k,g,h=>by
  apply cy h;intro f' as B z1;have(x,p1,rfl,z2):=ar z1;clear h z1;apply qW z2;intro a' b' z4;have(y,p2,rfl,z3):=ar z4;have h:=z3;erw[cc,Ř]at h;obtain⟨⟨⟨⟨⟨rfl,rfl⟩,G⟩,J⟩,Y⟩,h4⟩:=h;show xv g.K (cn G) (g.blt _ j5) (cn J) (g.blt _ (BY T)) (bQ a X _ g h4) (a_ Y)
 |.ite c a b,X,k,g,h=>absurd (show cK=b6 from h) ke
 |.tup es,X,k,g,h=>by
  apply E9 h;intro l q0 B A;clear h;have h:=A;show EC (iU es X _ g h)
 |.lst es,X,k,g,h=>by
  apply E_ h;intro l B A;clear h;have h:=A;show ED (iU es X _ g h)
 |.PN r,X,k,g,h=>by
  apply Jb h;intro B;show Bo g.P g.w r
 |.idx a b,X,k,g,h=>by
  apply gf h;intro a' b' B A;clear h;have h:=A;erw[cc]at h;show EF g.K g.u (tD h.1.1) (bQ a X _ g h.1.2) (bQ b X _ g h.2)
 |.Ph a lo hi,X,k,g,h=>by
  apply gf h;intro a' b' B z1;apply Fb z1;intro al PJ p1 A;clear h z1;erw[cc]at A;show EH g.K (bQ a X _ g A.1.1) (LG lo X _ g A.1.2) (LG hi X _ g A.2)
 |.bi f es,X,k,g,h=>by
  apply cy h;intro f' as B z1;have(x,p1,rfl,z2):=ar z1;have h:=z2;show Lx g (iU es X _ g (eZ h)) h
 |.Rk f es,X,k,g,h=>by
  apply cy h;intro f' as B z1;have(x,p1,rfl,z2):=ar z1;apply fm z2;intro c z3;apply cy z3;intro g' as' p2 z4;have(y,p3,rfl,z5):=ar z4;have h:=z5;show Ly g (iU es X _ g (eZ h)) h
 |.OS m a es,X,k,g,h=>by
  apply cM h;intro o name O as Nn z1;have h:=z1;have h':=h;erw[cc]at h';show Lz g (bQ a X _ g h'.1.2) (iU es X _ g (eZ h)) h
 |.call f es,X,k,g,h=>by
  apply cy h;intro f' as B z1;have(x,p1,rfl,z2):=ar z1;have h:=z2;show BZ g (iU es X _ g (eZ h)) h
 |.comp n t ik src cond e,X,k,g,h=>by
  apply Jc h;intro elt tg ab ifs scope B A;clear h;have h:=A;erw[cc,Ř]at h;obtain⟨⟨⟨⟨⟨⟨⟨G,J⟩,Y⟩,h4⟩,h5⟩,h6⟩,L⟩,h8⟩:=h;subst G;have S:=uY (X:=X) rfl (kH _ _) J;split at h5
  .rename_i as ac;have Nz:=bX h5;have hI:PI X tg ab (Rn C ik (bG Γ src)):=Gz g ac (iU src X _ g h5) (λa e=>by
    subst e;cases src with
    |nil=>simp[aO]at h5
    |cons e1 Ox =>
     cases Ox with
     |nil =>
      erw[aO,cc]at h5;show#[e1,rfl,bQ e1 X _ g h5.1.2]
     |cons _ _=>simp[aO]at h5) Nz
   show Bx S g.calm hI (λD s H ex=>xH (fa:=λx=>df (scope.names.lookup x≈.cell)) g.calm g.K S.nd (λ_ z=>z) Y)
    (λD s H ex=>by
     cases ifs with
     |nil =>
      cases cond with
      |nil=>show λpins s σ H Q I ⟨c0,e1,e2,ok,w⟩=>wW pins s σ H Q I (by subst e1 e2;rw[show aT Γ []=pure b6 from rfl,ao]at w;show w c0 rfl rfl ok (Nx.refl c0))
      |cons _ _=>simp[aO]at L
     |cons c1 cs =>
      cases cs with
      |nil =>
       cases cond with
       |nil=>simp[aO]at L
       |cons e1 Ox =>
        cases Ox with
        |nil =>
         erw[aO,cc]at L;show qw (qX e1 (Ou X _ scope D s H ex) c1 (g.cx _ _ _ _ _ _) L.1.2)
        |cons _ _=>simp[aO]at L
      |cons _ _=>simp at h6)
    (λD s H ex=>bQ e (Ou X _ scope D s H ex) elt (g.cx _ _ _ _ _ _) h8) (vS h4)
  .cases h5
theorem iU:∀(es:↑E) (X:Cx) (a:↑jw),Gd ck Γ C d X->aO ck es X.N X.env.scope a=b6->PA X a (OQ C (bG Γ es))
 |[],X,a,g,h=>by
  cases a with
  |nil=>show EB
  |cons _ _=>simp[aO]at h
 |e::es,X,a,g,h=>by
  cases a with
  |nil=>simp[aO]at h
  |cons b a =>
   erw[aO,cc]at h;show Bm (bQ e X b g h.1.2) (iU es X a g h.2) (a_ h.1.1)
theorem LG:∀(es:↑E) (X:Cx) (o:Option jw),Gd ck Γ C d X->vQ ck es X.N X.env.scope o=b6->PO X o (tO C (Uc Γ es))
 |[],X,o,g,h=>by
  cases o with
  |none=>show iG
  |some _=>simp[vQ]at h
 |[e],X,o,g,h=>by
  cases o with
  |none=>simp[vQ]at h
  |some a=>erw[vQ]at h;show yW (bQ e X a g h)
 |_::_::_,X,o,g,h=>by simp[vQ]at h
theorem B1:∀(es:↑E) (X:Cx) (a:↑jw),Gd ck Γ C d X->aO ck es X.N X.env.scope a=b6->∀{pos},PE X (.BoolOp .And a pos) (NF C (jT Γ es))
 |[],X,a,g,h,pos=>h_
 |[e],X,a,g,h,pos=>by
  cases a with
  |nil=>simp[aO]at h
  |cons b a =>
   cases a with
   |nil=>erw[aO,cc]at h;show Ha (bQ e X b g h.1.2)
   |cons _ _=>simp[aO]at h
 |e::c::es,X,a,g,h,pos=>by
  cases a with
  |nil=>simp[aO]at h
  |cons b a =>
   have h':noStar b=b6/\bK ck e X.N X.env.scope b=b6/\aO ck (c::es) X.N X.env.scope a=b6:=by
    rw[aO]at h;erw[cc]at h;show#[h.1.1,h.1.2,h.2]
   cases a with
   |nil=>have:=h'.2.2;simp[aO]at this
   |cons f i=>show snd_and (bQ e X b g h'.2.1) (B1 (c::es) X _ g h'.2.2)
theorem qX:∀(e:E) (X:Cx) (j:jw),Gd ck Γ C d X->bK ck e X.N X.env.scope j=b6->PT X j (OT C (NJ Γ e))
 |.and es,X,j,g,h=>by
  apply vL h;intro Y s k;clear h;have h:=k;show(xJ es X _ g h).pt
 |.or es,X,j,g,h=>by
  apply vL h;intro Y s k;clear h;have h:=k;show(B3 es X _ g h).pt
 |.not a,X,j,g,h=>by
  apply vM h;intro a' s k;clear h;have h:=k;show Ez (qX a X _ g h)
 |.cmp op a b,X,j,g,h=>by
  apply mj h;intro a' L B s z1;have h:=z1;erw[cc,Ř,mN]at h;obtain⟨⟨⟨rfl,h0⟩,l⟩,p⟩:=h;show Eu g.P g.w g.K g.u (bQ a X _ g l) (bQ b X _ g p) h0
 |.Qi o1 o2 a b c,X,j,g,h=>by
  apply Fc h;intro a' ab ac B c' s k;clear h;have h:=k;erw[cc,Ř,mN]at h;obtain⟨⟨⟨⟨⟨rfl,rfl⟩,h0⟩,l⟩,p⟩,v⟩:=h;show Bl g.P g.w g.K g.u (bQ a X _ g l) (bQ b X _ g p) (bQ c X _ g v) h0
 |.var i,X,j,g,h=>by
  have(x,s,rfl,k):=ar h;erw[cc,Ř]at k;have(v,A):=aF k.2;show jU (l_ k.1.1 (cD k.1.2) v A) g.K λ_=>rfl
 |.idx a b,X,j,g,h=>bw
 |.bi f es,X,j,g,h=>by
  apply cy h;intro O as s z1;have(x,G,rfl,z2):=ar z1;have h:=z2;show PT.eqv (jU (Lx g (iU es X _ g (eZ h)) h) g.K λ_=>rfl) λst Q w=>GA w
 |.Rk f es,X,j,g,h=>bw
 |.OS m a es,X,j,g,h=>bw
 |.call f es,X,j,g,h=>by
  apply cy h;intro O as s z1;have(x,G,rfl,z2):=ar z1;have h:=z2;show PT.eqv (jU (BZ g (iU es X _ g (eZ h)) h) g.K λ_=>rfl) λst Q w=>GA w
 |.cst u,X,j,g,h=>bw
 |.fst es,X,j,g,h=>bw
 |.PF x u,X,j,g,h=>bw
 |.neg a,X,j,g,h=>bw
 |.Tf a T,X,j,g,h=>by
  apply cy h;intro O as s z1;have(x,G,rfl,z2):=ar z1;clear h z1;apply qW z2;intro a' B z4;have(y,p2,rfl,D):=ar z4;have h:=D;erw[cc,Ř]at h;obtain⟨⟨⟨⟨⟨rfl,rfl⟩,l⟩,p⟩,v⟩,A⟩:=h;show PT.eqv (jU (xv g.K (cn l) (g.blt _ j5) (cn p) (g.blt _ (BY T)) (bQ a X _ g A) (a_ v)) g.K λ_=>rfl) λst Q w=>?_;have w:W (ev Γ a >>= λx=>M.NV (sU x.2 T)) st Q:=w;erw[ag]at w ⊢;show W.mono w λx s1 H=>?_;have(b,e,I):=cv.mp H;show cv.mpr #[b,e,ao.mpr (cv.mpr #[b,rfl,I])]
 |.bad,X,j,g,h=>bw
 |.Oy i,X,j,g,h=>bw
 |.PQ i,X,j,g,h=>by
  apply mj h;intro a' L B s z1;apply dU z1;intro o m q z2;have(x,px,rfl,D):=ar z2;erw[cc,Ř]at D;obtain⟨⟨⟨l,rfl⟩,rfl⟩,p⟩:=D;apply Je l;intro p2;have(H,I,w3,w4):=dI p;have(cl,_,_,_,K,_,_,_,_,_):=g.OW.sh;show BG K g.K g.u H I w3 w4
 |.lW i,X,j,g,h=>bw
 |.O8 f i es,X,j,g,h=>by
  have(l,p):=LD (es:=es) g h λas J=>#[iU es X.OU as g.OU J,bX J,λz=>by subst z;cases es with|nil=>rfl|cons _ _=>simp[aO]at J]
  show jU (xB l) g.K p
 |.QK _ f m i es,X,j,g,h=>bw
 |.P7 f m i js,X,j,g,h=>bw
 |.pop i,X,j,g,h=>bw
 |.Sn i a,X,j,g,h=>bw
 |.Tg f es,X,j,g,h=>bw
 |.inD neg a i,X,j,g,h=>by
  apply mj h;intro a' L B s z1;have(x,G,rfl,z2):=ar z1;have h:=z2;erw[cc,Ř,mN]at h;obtain⟨⟨⟨⟨⟨rfl,h0⟩,l⟩,p⟩,v⟩,A⟩:=h;have(q1,q2):=aF v;show EW g.u l (cD p) q1 q2 (bQ a X _ g A) h0
 |.U4 i,X,j,g,h=>bw
 |.W5 ln a b,X,j,g,h=>bw
 |.U5 i,X,j,g,h=>bw
 |.Qj i a b,X,j,g,h=>bw
 |.bin op a b,X,j,g,h=>bw
 |.ite c a b,X,j,g,h=>bw
 |.tup es,X,j,g,h=>bw
 |.lst es,X,j,g,h=>bw
 |.PN r,X,j,g,h=>bw
 |.Ph a lo hi,X,j,g,h=>bw
 |.comp n t ik src cond e,X,j,g,h=>bw
theorem xJ:∀(es:↑E) (X:Cx) (a:↑jw),Gd ck Γ C d X->aO ck es X.N X.env.scope a=b6->∀{pos},PW X (.BoolOp .And a pos) (OT C (aT Γ es))
 |[],X,a,g,h,pos=>by
  cases a with
  |nil =>
   rintro i pins s σ H Q I ⟨c0,rfl,rfl,f,w⟩;rw[show aT Γ []=pure b6 from rfl,ao]at w;show ŕ #[c0.H,I,w c0 rfl rfl f (Nx.refl c0)]
  |cons _ _=>simp[aO]at h
 |[e],X,a,g,h,pos=>by
  cases a with
  |nil=>simp[aO]at h
  |cons b a =>
   cases a with
   |nil=>erw[aO,cc]at h;show wM (qX e X b g h.1.2)
   |cons _ _=>simp[aO]at h
 |e::c::es,X,a,g,h,pos=>by
  cases a with
  |nil=>simp[aO]at h
  |cons b a =>
   have h':noStar b=b6/\bK ck e X.N X.env.scope b=b6/\aO ck (c::es) X.N X.env.scope a=b6:=by
    rw[aO]at h;erw[cc]at h;show#[h.1.1,h.1.2,h.2]
   cases a with
   |nil=>have:=h'.2.2;simp[aO]at this
   |cons j k=>show EA (qX e X b g h'.2.1) (xJ (c::es) X _ g h'.2.2)
theorem B3:∀(es:↑E) (X:Cx) (a:↑jw),Gd ck Γ C d X->aO ck es X.N X.env.scope a=b6->∀{pos},PW X (.BoolOp .Or a pos) (OT C (gT Γ es))
 |[],X,a,g,h,pos=>by
  cases a with
  |nil =>
   rintro i pins s σ H Q I ⟨c0,rfl,rfl,f,w⟩;rw[show gT Γ []=pure cK from rfl,ao]at w;show isTrue_or_nil #[c0.H,I,w c0 rfl rfl f (Nx.refl c0)]
  |cons _ _=>simp[aO]at h
 |[e],X,a,g,h,pos=>by
  cases a with
  |nil=>simp[aO]at h
  |cons b a =>
   cases a with
   |nil=>erw[aO,cc]at h;show G9 (qX e X b g h.1.2)
   |cons _ _=>simp[aO]at h
 |e::c::es,X,a,g,h,pos=>by
  cases a with
  |nil=>simp[aO]at h
  |cons b a =>
   have h':noStar b=b6/\bK ck e X.N X.env.scope b=b6/\aO ck (c::es) X.N X.env.scope a=b6:=by
    rw[aO]at h;erw[cc]at h;show#[h.1.1,h.1.2,h.2]
   cases a with
   |nil=>have:=h'.2.2;simp[aO]at this
   |cons j k=>show Iq (qX e X b g h'.2.1) (B3 (c::es) X _ g h'.2.2)
end
def LH(g:Gd ck Γ C d X)(b:ZS e=b6)(h:bK ck e X.N X.env.scope f=b6):PE X f (za C (ev Γ e)):=by
 cases e with
 |var i =>
  apply aX h;intro x k a;erw[cc,Ř]at a;have(l,m):=aF a.2;show BA a.1.1 (cD a.1.2) l m
 |cst u =>
  apply xE h;intro c n k a;cases c with
  |int j=>have:=cP a;subst this;show jX mL λ_ _=>rfl
  |str y=>have:=cP a;subst this;show jX uA λ_ _=>rfl
  |bool y=>have:=cP a;subst this;show jX Ae λ_ _=>rfl
  |none=>have:=cP a;subst this;show jX uw λ_ _=>rfl
  |_=>cases a
 |_=>cases b
abbrev Wj(a:uk)(x:Str)(line:Nat):jw->Bool
 |.ListComp elt gens s pos=>df (a.names.lookup x≈.local)&&(line==pos.line)&&!(s.names.any λ(n,k)=>n==x&&(k==.local||k==.cell))
 |_=>cK
abbrev jd(s:ve)(k:jw->Bool):Bool:=match s with|.Expr e _=>k e|_=>cK
def vT(h:jd s k=b6):∃e p,s=.Expr e p/\k e=b6:=by
 unfold jd at h;split at h
 .show#[_,_,rfl,h]
 .cases h
def j6{P:ve->Prop}(h:jd s k=b6)(fz:∀e p,k e=b6->P (.Expr e p)):P s:=by
 unfold jd at h;split at h
 .show fz _ _ h
 .cases h
abbrev ia(s:ve)(k:jw->jw->Bool):Bool:=match s with|.Assign ts v _=>cw ts λt=>k t v|_=>cK
def nN(h:ia s k=b6):∃t v p,s=.Assign [t] v p/\k t v=b6:=by
 unfold ia at h;split at h
 .have(t,rfl,z1):=bF h;show#[_,_,_,rfl,h]
 .cases h
def gk{P:ve->Prop}(h:ia s k=b6)(fz:∀t v p,k t v=b6->P (.Assign [t] v p)):P s:=by
 have(t,v,p,rfl,z):=nN h;show fz _ _ _ z
abbrev B4(s:ve)(k:jw->Bool):Bool:=match s with|.Raise (bD e) cb _=>k e|_=>cK
def Fg{P:ve->Prop}(h:B4 s k=b6)(fz:∀e p,k e=b6->P (.Raise (bD e) cb p)):P s:=by
 unfold B4 at h;split at h
 .show fz _ _ h
 .cases h
abbrev B5(s:ve)(k:ve->ExceptHandler->Bool):Bool:=match s with|.Try b hs [] [] _=>cw b λb=>cw hs λh=>k b h|_=>cK
def vU(h:B5 s k=b6):∃b a p,s=.Try [b] [a] [] [] p/\k b a=b6:=by
 unfold B5 at h;split at h
 .have(b,rfl,z1):=bF h;apply fm z1;intro a z2;show#[_,_,_,rfl,z2]
 .cases h
abbrev B6(s:ExceptHandler)(k:jw->Str->ve->↑ve->Bool):Bool:=match s with|.ExceptHandler (bD t) (bD n) (b::bs) _=>k t n b bs|_=>cK
def vV(h:B6 s k=b6):∃t n b bs p,s=.ExceptHandler (bD t) (bD n) (b::bs) p/\k t n b bs=b6:=by
 unfold B6 at h;split at h
 .show#[_,_,_,_,_,rfl,h]
 .cases h
abbrev Ji:jw->Bool
 |.Constant .none _ _=>b6
 |_=>cK
def zp(h:Ji e=b6):∃j p,e=.Constant .none j p:=by
 unfold Ji at h;split at h
 .show#[_,_,rfl]
 .cases h
abbrev B7(s:ve)(k:Str->jw->Bool):Bool:=ia s λt v=>aE t λy=>k y v
def kI(h:B7 s k=b6):∃y p v a,s=.Assign [.Name y p] v a/\k y v=b6:=by
 apply gk h;intro t v a z;apply aX z;intro y p z;show#[y,p,v,a,rfl,z]
def Jj{P:ve->Prop}(h:B7 s k=b6)(fz:∀y p v a,k y v=b6->P (.Assign [.Name y p] v a)):P s:=by
 have(y,p,v,a,rfl,z):=kI h;show fz _ _ _ _ z
abbrev Jk(e:jw)(k:Str->Pos->Bool):Bool:=match e with|.Name x p=>k x p|_=>cK
def Jl{P:jw->Prop}(h:Jk e k=b6)(fz:∀x p,k x p=b6->P (.Name x p)):P e:=by
 unfold Jk at h;split at h
 .show fz _ _ h
 .cases h
abbrev B8(s:ve)(k:jw->ö->jw->Bool):Bool:=match s with|.AugAssign t op b _=>k t op b|_=>cK
def Fh{P:ve->Prop}(h:B8 s k=b6)(fz:∀t op b p,k t op b=b6->P (.AugAssign t op b p)):P s:=by
 unfold B8 at h;split at h
 .show fz _ _ _ _ h
 .cases h
abbrev lq(s:ve)(k:Option jw->Bool):Bool:=match s with|.Return v _=>k v|_=>cK
def nO(h:lq s k=b6):∃v p,s=.Return v p/\k v=b6:=by
 unfold lq at h;split at h
 .show#[_,_,rfl,h]
 .cases h
def Fi{P:ve->Prop}(h:lq s k=b6)(fz:∀v p,k v=b6->P (.Return v p)):P s:=by
 unfold lq at h;split at h
 .show fz _ _ h
 .cases h
abbrev B9(v:Option jw)(k:jw->Bool):Bool:=match v with|some e=>k e|none=>cK
def kJ(h:B9 v k=b6):∃e,v≈e/\k e=b6:=by
 cases v with
 |none=>cases h
 |some e=>show#[e,rfl,h]
def Jm{P:Option jw->Prop}(h:B9 v k=b6)(fz:∀e,k e=b6->P (bD e)):P v:=by
 have(e,rfl,z):=kJ h;show fz _ z
abbrev lr(s:ve)(k:jw->↑ve->↑ve->Bool):Bool:=match s with|.If c a b _=>k c a b|_=>cK
def nP(h:lr s k=b6):∃c a b p,s=.If c a b p/\k c a b=b6:=by
 unfold lr at h;split at h
 .show#[_,_,_,_,rfl,h]
 .cases h
def Fj{P:ve->Prop}(h:lr s k=b6)(fz:∀c a b p,k c a b=b6->P (.If c a b p)):P s:=by
 unfold lr at h;split at h
 .show fz _ _ _ _ h
 .cases h
abbrev xK(s:ve)(k:jw->jw->↑ve->Bool):Bool:=match s with|.For t i b o _=>o.isEmpty&&k t i b|_=>cK
def vW(h:xK s k=b6):∃t i b p,s=.For t i b [] p/\k t i b=b6:=by
 unfold xK at h;split at h
 .rw[cc,oa]at h;have(rfl,h):=h;show#[_,_,_,_,rfl,h]
 .cases h
def Fm{P:ve->Prop}(h:xK s k=b6)(fz:∀t i b p,k t i b=b6->P (.For t i b [] p)):P s:=by
 have(t,i,b,p,rfl,z):=vW h;show fz _ _ _ _ z
abbrev Fo(s:ve)(k:jw->↑ve->Bool):Bool:=match s with|.While c b o _=>o.isEmpty&&k c b|_=>cK
def zq(h:Fo s k=b6):∃c b p,s=.While c b [] p/\k c b=b6:=by
 unfold Fo at h;split at h
 .rw[cc,oa]at h;have(rfl,h):=h;show#[_,_,_,rfl,h]
 .cases h
def Jn{P:ve->Prop}(h:Fo s k=b6)(fz:∀c b p,k c b=b6->P (.While c b [] p)):P s:=by
 have(c,b,p,rfl,z):=zq h;show fz _ _ _ z
abbrev nQ(a:uk):↑jw->↑Str->Bool
 |[],[]=>b6
 |e::es,D::b=>isNm e D&&OM a D&&bq D&&nQ a es b
 |_,_=>cK
abbrev Wk(a:uk)(n:Str)(e:jw)(G:↑Str):Bool:=nK e "isinstance" λas=>fJ as λx y=>isNm x n&&if ⇑G=1 then nQ a [y] G else jc y λl=>nQ a l G&&df (⇑G<100)
abbrev Ve(a:uk)(n:Str):↑jw->List ↑Str->Bool
 |[],[]=>b6
 |e::es,G::Gs=>Wk a n e G&&Ve a n es Gs
 |_,_=>cK
abbrev Jo(v:jw)(k:↑jw->Bool):Bool:=match v with|.List es _=>k es|_=>cK
def zr(h:Jo v k=b6):∃es p,v=.List es p/\k es=b6:=by
 unfold Jo at h;split at h
 .show#[_,_,rfl,h]
 .cases h
abbrev Vf(a:↑(Str×Str×Bool))(c:Str)(G:↑Str)(b:Bool):Bool:=if ⇑G=1 then G.all λD=>df ((c,D,b)∈a) else !b&&df (2<=⇑G)&&G.all λD=>df ((c,D,cK)∈a)
abbrev Jp:jw->Bool
 |.Constant (.str x) _ _=>df (x="")
 |_=>cK
def zt(h:Jp e=b6):∃j p,e=.Constant (.str "") j p:=by
 unfold Jp at h;split at h
 .rw[Ŝ h];show#[_,_,rfl]
 .cases h
abbrev Wl(c:Str):jw->Bool
 |.Constant (.str x) _ _=>df (x=c)
 |_=>cK
def nR(h:Wl c e=b6):∃j p,e=.Constant (.str c) j p:=by
 unfold Wl at h;split at h
 .rw[Ŝ h];show#[_,_,rfl]
 .cases h
abbrev Jq:jw->Bool
 |.Constant (.bool b) _ _=>b
 |_=>cK
def zu(h:Jq e=b6):∃j p,e=.Constant (.bool b6) j p:=by
 unfold Jq at h;split at h
 .subst h;show#[_,_,rfl]
 .cases h
abbrev allB(N:↑Str)(a:uk)(k:Nat)(e:jw):Bool:=BW e λelt tg b ifs scope=>aE elt λx=>aE tg λy=>aE b λz=>cw ifs λc=>aE c λv=>df (y=x)&&df (v=x)&&Qn N a k z&&D6 ([x]++hide [x] N) [x] scope a.names&&(jY (zj scope a) x&&BP (zj scope a) x&&g_ (zj scope a) x&&bq x)
abbrev ZV(N:↑Str)(c:uk)(i:Nat)(q:jw->Bool)(s:ve):Bool:=B7 s λy v=>jc v λl=>fJ l λa b=>df (N[i]?≈y)&&jY c y&&Jp a&&q b
abbrev LJ(N:↑Str)(c:uk)(k:Nat)(e:jw):Bool:=cT e λo m b as d=>aE o λz=>cw as λa=>df (m="index")&&Qn N c k z&&Jq a&&(b.endLine==d.line)
abbrev s1B(N:↑Str)(a:uk)(k:Nat)(n:Str)(b:List ↑Str)(s:ve):Bool:=B7 s λz v=>Jo v λes=>df (N[k]?≈z)&&jY a z&&Ve a n es b
abbrev s2B(N:↑Str)(d:uk)(k:Nat)(n:Str)(G:↑Str)(s:ve):Bool:=jd s λc=>cT c λo m b as e=>aE o λz=>cw as λa=>df (m="append")&&Qn N d k z&&(b.endLine==e.line)&&noStar a&&Wk d n a G
abbrev s4B(N:↑Str)(d:uk)(i k:Nat)(n:Str)(s:ve):Bool:=lr s λc a b=>zk c .And λes=>fJ es λe f=>cw a λs1=>b.isEmpty&&Wk d n e ["ValueError"]&&ZV N d i (LJ N d k) s1&&jZ f λl op r=>df (op=.Eq)&&Vd 1 r&&nK l "len" λas=>cw as λa=>allB N d k a&&OM d "len"
abbrev ZW(N:↑Str)(a:uk)(i k:Nat)(n:Str)(b:List ↑Str)(G:↑Str)(s1:ve)(ss:↑ve):Bool:=match ss with
 |[c,d,e]=>s1B N a k n b s1&&s2B N a k n G c&&ZV N a i (Vd 9) d&&s4B N a i k n e
 |_=>cK
abbrev Qp(n:Nat):↑Bool:=[n==0,n==1,n==2]
abbrev Xq(k:Ck)(x:Str)(a:List ↑Str)(G:↑Str)(p:Str×Nat):Bool:=df ((p.1,x)∈k.xd)&&df ((p.1,("ValueError":Str),b6)∈k.xi)&&df (p.2<4)&&df (⇑a=3)&&(a.zip (Qp p.2)).all (λr=>Vf k.xi p.1 r.1 r.2)&&Vf k.xi p.1 G (p.2==3)
abbrev B_(k:Ck):RE->↑Str->uk->jw->Bool
 |.mt d f m i es,N,c,e=>ZT k d f m i N c (λas=>aO k es N c as) e
 |.P7 f m i js,N,c,e=>ZU k f m i js N c e
 |.arg f r,N,c,e=>nK e f λas=>cw as λa=>df (f∈k.fns)&&OM c f&&bq f&&noStar a&&B_ k r N c a
 |.QL r,N,c,e=>jc e λl=>fJ l λa b=>Ji b&&noStar a&&B_ k r N c a
mutual
noncomputable def zw(k:Ck):S->↑Str->uk->ve->Bool
 |.set i e,N,d,s=>ia s λt v=>Jk t λx p=>df (N[i]?≈x)&&jY d x&&df (d.kind=.function)&&bK k e N d v&&(dP v||Wj d x p.line v||(match v with|.ListComp _ _ _ _=>b6|_=>cK))&&(match e with|.comp _ _ _ _ _ _=>b6|_=>dP v)
 |.Qk is e,N,d,s=>ia s λt v=>jc t λ_=>Vc b6 N d (λ_=>b6) is t&&dP v&&Ja v&&bK k e N d v
 |.put i a b,N,d,s=>ia s λt g=>j3 t λo a'=>aE o λx=>df (N[i]?≈x)&&g_ d x&&bq x&&dP g&&fk a'&&bK k a N d a'&&bK k b N d g
 |.app i e,N,d,s=>jd s λc=>cT c λo m f as h=>aE o λx=>cw as λa=>df (m="append")&&df (N[i]?≈x)&&g_ d x&&bq x&&(f.endLine==h.line)&&noStar a&&bK k e N d a
 |.Ql,_,_,_=>cK
 |.Py i,N,d,s=>B7 s λy v=>nK v "Desk" λas=>as.isEmpty&&df (N[i]?≈y)&&jY d y&&OM d "Desk"
 |.QM i e,N,d,s=>ia s λt v=>d9 t λo m _=>aE o λx=>aE v λ_=>df (m="rows")&&Qn N d i x&&bK k e N d v
 |.QN i,N,d,s=>jd s λc=>cT c λo m f as h=>d9 o λo1 m1 _=>aE o1 λx=>cw as λa=>d9 a λo2 m2 _=>aE o2 λB=>df (m="append")&&df (m1="earlier")&&df (m2="rows")&&df (B=x)&&(f.endLine==h.line)&&Qn N d i x
 |.ext i e,N,d,s=>jd s λc=>cT c λo m f as h=>aE o λx=>cw as λa=>df (m="extend")&&df (N[i]?≈x)&&g_ d x&&bq x&&(f.endLine==h.line)&&noStar a&&bK k e N d a
 |.bad,_,_,_=>b6
 |.newD i,N,d,s=>ia s λt v=>aE t λx=>BV v&&df (N[i]?≈x)&&jY d x
 |.putD i a b,N,d,s=>ia s λt g=>j3 t λo a'=>aE o λx=>df (N[i]?≈x)&&g_ d x&&bq x&&dP g&&fk a'&&bK k a N d a'&&bK k b N d g
 |.PU i a e,N,d,s=>jd s λc=>cT c λo m f as h=>j3 o λC a'=>aE C λx=>cw as λb=>df (m="append")&&df (N[i]?≈x)&&g_ d x&&bq x&&fk a'&&(f.endLine==h.line)&&noStar b&&bK k a N d a'&&bK k e N d b&&ZS e
 |.aug sub i a e,N,d,s=>B8 s λt op b=>j3 t λo a'=>aE o λx=>df (op=if sub=b6 then .Sub else .Add)&&df (N[i]?≈x)&&g_ d x&&bq x&&fk a'&&bK k a N d a'&&bK k e N d b&&ZS e
 |.W6 _,_,_,_=>cK
 |.exp e,N,d,s=>jd s λu=>dP u&&bK k e N d u
 |.ret e,N,d,s=>lq s λv=>B9 v λu=>bK k e N d u
 |.So,_,_,_=>cK
 |.ite c a b,N,d,s=>lr s λw a' g=>bK k c N d w&&eB k a N d a'&&eB k b N d g
 |.Ob t is D src body,N,d,s=>xK s λtg q z=>Vc t N d (λ_=>b6) is tg&&vK q&&(match hU d tg D q with
    |some as=>aO k src N d as
    |none=>cK)&&eB k body N d z
 |.T_ c body,N,d,s=>Fo s λw z=>bK k c N d w&&eB k body N d z
 |.brk,_,_,_=>cK
 |.cnt,_,_,_=>cK
 |.U6 _,_,_,_=>cK
 |.Rm c e,N,d,s=>B4 s λr=>nK r c λas=>cw as λa=>df (c∈k.xc)&&OM d c&&bq c&&noStar a&&bK k e N d a
 |.OZ r,N,d,s=>lq s λv=>B9 v λe=>B_ k r N d e
 |.Sr i c b c1 c2,N,d,s=>lr s λt a o=>jZ t λl op r=>aE l λx=>cw a λs1=>lq s1 λv=>B9 v λe=>cT e λg m f as h=>fJ as λH I=>o.isEmpty&&df (op=.Eq)&&Wl c r&&Qn N d i x&&df (m="replace")&&Wl c1 H&&Wl c2 I&&mf g&&(f.endLine==h.line)&&!(c1==c2)&&df (⇑c2<=14)&&bK k b N d g
 |.RM r i x J j l A G,N,d,s=>B5 s λb L=>ia b λty v=>aE ty λy=>B6 L λO n s1 ss=>(B_ k r N d v&&dP v&&df (N[i]?≈y)&&jY d y)&&(isNm O x&&OM d x&&bq x&&J.all (Xq k x A G))&&(df (N[j]?≈n)&&BP d n&&bq n&&OM d "isinstance")&&(ZW N d i l n A G s1 ss&&df (i≠l/\j≠l/\i≠j)&&df (⇑A<100)&&df (d.kind=.function))
 |.W7,_,_,_=>cK
noncomputable def eB(k:Ck):↑S->↑Str->uk->↑ve->Bool
 |[],_,_,a=>a.isEmpty
 |s::ss,N,b,a=>match a with
  |s'::a=>zw k s N b s'&&eB k ss N b a
  |[]=>cK
end
section
variable{ck:Ck}{Γ:Tab}{C:Ct}{d:Nat}{X:Cx}
def ic(h:jY a x=b6):Loc a x:=by
 unfold jY at h;erw[Rv,Ř]at h;show h
def ie(h:dP v=b6):Qv v t line env=pure cK:=by
 cases v<;>first|rfl|cases h
def qY(h:dP v=b6):V3 [t] v line env=pure cK:=by
 show ie h
def Fp(h:fk i=b6):∀a b new,Ŏ i a b new=(do KX [new,a,b] (WB a b new);YE [new,a,b] [];pure .next):=by
 intro a b new;cases i<;>first|rfl|cases h
def xM(h:fk i=b6):∀v,Vj (.Subscript o i p) env v=(do
   let a <-KX [v] (p8 o env)
   let b <-KX [v,a] (p8 i env)
   Wx p
   KX [v,a,b] (WB a b v)
   YE [v,a,b] []):=by
 intro v;cases i<;>first|rfl|cases h
structure Gs(ck:Ck)(Γ:Tab)(C:Ct)(d:Nat)(X:Cx):Prop where
 gd:Gd ck Γ C d X
 nd:X.N.Nodup
 fn:∀x,X.fn x=b6
 po:YY (gs X.prog X.w) X.A X.env X.xe
 kd:X.env.scope.kind=.function
 xs:Up ck X.K X.mg
 xl:∀c H',C.xw (.str c) H'->∀C' T H pins σ s e s',W.nsIn X.K i5 c≈bD (.ref C')->Inv X pins σ H s->cu X.prog X.w X.stack H s e C' T .none H' s'->X.xe (.ref e) s'
 sk:X.stack=X.env::X.outer/\X.env.frame≈X.env.locals
 ex:X.ex=[]
def xN(g:Gd ck Γ C d X)(h:(match hU X.env.scope tg i b with|some as=>aO ck src X.N X.env.scope as|none=>cK)=b6):PI X tg b (Rn C i (bG Γ src)):=by
 split at h
 .rename_i as c;show Gz g c (iU src X _ g h) (λa e=>by
   subst e;cases src with
   |nil=>simp[aO]at h
   |cons f j =>
    cases j with
    |nil =>
     erw[aO,cc]at h;show#[f,rfl,bQ f X _ g h.1.2]
    |cons _ _=>simp[aO]at h) (bX h)
 .cases h
def nU{pos p a:Pos}(hk:X.env.scope.kind=.function):Qv (.ListComp elt gens s pos) (bD (.Name x p)) a.line X.env=pure (Wj X.env.scope x p.line (.ListComp elt gens s pos)):=by
 have b:X.env.blockKind=.function:=by
  unfold Env.blockKind;rw[hk];rfl
 change pure (X.env.blockKind==.function&&X.env.kindOf x==bD _&&p.line==pos.line&&!(s.names.any λ(n,k)=>n==x&&(k==.local||k==.cell)))=_;unfold Wj;have:(X.env.kindOf x==bD NameKind.local)=df (X.env.scope.names.lookup x≈.local):=by
  unfold Env.kindOf;rw[rD];simp
 simp_all
def Jr{src cond}(G:Gs ck Γ C d X)(hi:X.N[i]?≈x)(u:jY X.env.scope x=b6)
  (h:bK ck (.comp n t v src cond e) X.N X.env.scope (.ListComp elt [⟨tg,a,ifs,0⟩] scope pos)=b6) (ns) (l:∀j,ns j=b6->j≠i) :
  L2.PS X (.Assign [.Name x p] (.ListComp elt [⟨tg,a,ifs,0⟩] scope pos) QG) (Oh C ns (ev Γ (.comp n t v src cond e) >>= λr=>eX i r >>= λ_=>pure .nx)):=by
 have g:=G.gd;have m:=bQ _ X _ g h;cases c:Wj _ x _ _ with
 |false=>show Gv l G.nd hi (ic u) (.inl (G.fn x)) m (by rw[nU G.kd,c])
 |true =>
  have hl:=by
   erw[Wj,cc,Ř]at c;show c.1.1
  have(o,y,f,q,ZX,p',A,h0):=fK h;cases A;clear h m;erw[cc,Ř]at h0;obtain⟨⟨⟨⟨⟨⟨⟨B,J⟩,L⟩,O⟩,T⟩,Y⟩,b⟩,h8⟩:=h0;subst B;have S:=uY  rfl (kH _ _) J;show IH l S g.calm G.nd hi hl (xN g T) (λD s H ex=>xH  g.calm g.K S.nd (λ_ z=>z) L)
   (λD s H ex=>by
    cases ifs with
    |nil =>
     cases cond with
     |nil=>show λpins s σ H Q I ⟨c0,k,e2,ok,w⟩=>wW pins s σ H Q I (by subst k e2;rw[show aT Γ []=pure b6 from rfl,ao]at w;show w c0 rfl rfl ok (Nx.refl c0))
     |cons _ _=>simp[aO]at b
    |cons c1 cs =>
     cases cs with
     |nil =>
      cases cond with
      |nil=>simp[aO]at b
      |cons k Ox =>
       cases Ox with
       |nil =>
        erw[aO,cc]at b;show qw (qX k _ c1 (g.cx _ _ _ _ _ _) b.1.2)
       |cons _ _=>simp[aO]at b
     |cons _ _=>simp at Y)
   (λD s H ex=>bQ e _ elt (g.cx _ _ _ _ _ _) h8) (by rw[nU G.kd,c]) (vS O)
def Fq(G:Gs ck Γ C d X)(h:zw ck (.Rm c e) X.N X.env.scope b=b6):L2.PS X b (Oh C (Ud (.Rm c e)) (exec Γ (.Rm c e))):=by
 apply Fg h;intro r t g;apply BX g;intro as u p2 z1;apply fm z1;intro a f;erw[cc,Ř]at f;obtain⟨⟨⟨⟨i,j⟩,k⟩,l⟩,m⟩:=f;have(n,o,p,q):=G.xs.xc _ i;show Ll G.gd.calm (cn j) o (aF k).1 q (bQ e X a G.gd m) (a_  l) λH' w pins σ s e b I F=>G.xl _ H' w n cb H' pins σ s e b p I F
def Ca(h:Vf a c G b=b6):Xp a c G b:=by
 unfold Vf at h;split at h
 .rename_i e
  match G,e with
  |[D],_=>show .inl #[D,rfl,by simp_all]
 .simp only[cc,mN,Ř]at h;show .inr #[h.1.1,h.1.2,λD f=>Ŝ (lx.mp h.2 D f)]
def GF(m:vR ck X.K X.mg)(h:nQ X.env.scope [e] [D]=b6)(f:(c,D,b)∈ck.xi):∃p j g,e=.Name D p/\PE X (.Name D p) (tC j)/\(∀u,RelV j u->u=g)/\∀a,W.nsIn X.K i5 c≈bD (.ref a)->gG X.K a=b6/\W.kitOne X.K (.ref a) g≈b:=by
 erw[nQ,cc]at h;obtain⟨⟨⟨n,k⟩,o⟩,_⟩:=h;have(p,rfl):=iN n;have(g,q,l):=m D #[_,f,rfl];rcases q with⟨r,rfl,i⟩|⟨rfl,rfl,i⟩
 .show#[p,_,_,rfl,λpins s σ H Q I z=>eD I (cn k) i #[.ref r,H,I,rfl,z] (aF o).1,λu z=>z,λa hn=>l _ f rfl a hn]
 .show#[p,.ty _,_,rfl,wL (cn k) i (show sx _≈_ by decide +kernel) rfl (by decide +kernel) (by rfl),λu z=>z,λa hn=>l _ f rfl a hn]
theorem Cb(a:vR ck X.K X.mg):∀{es}{G},nQ X.env.scope es G=b6->(∀D∈G,(c,D,cK)∈ck.xi)->(∃ds,nj X c es ds)/\⇑es=⇑G
 |[],[],_,_=>#[#[[],.nil],rfl]
 |[],_::_,h,_=>by simp[nQ]at h
 |_::_,[],h,_=>by simp[nQ]at h
 |e::es,D::G,h,b=>by
  have f:nQ X.env.scope [e] [D]=b6:=by
   erw[nQ,cc]at h ⊢;show#[h.1,ttt]
  have g:=by
   erw[nQ,cc]at h;show h.2
  have(p,k,l,rfl,k1,k2,k3):=GF a f (b D il);have((ds,i),k5):=Cb a g λD j=>b D (f7 _ j);show#[#[_,.cons k1 k2 k3 i],by simp[k5]]
def GG(hi:X.N[j]?≈n)(g:Ow X.env.scope n)(i:(n==("__debug__":Str))=cK)(k:(n==("__classdict__":Str))=cK)(m:Gl X "isinstance")(o:X.mg "isinstance"=cb)(q:vR ck X.K X.mg)(h:Wk X.env.scope n e G=b6)(t:Xp ck.xi c G b):PE X e (vn X.K j c b):=by
 have(as,p,A,rfl,u):=eS (show nK e "isinstance" _=b6 from h);have(x,y,rfl,a):=di u;rw[cc]at a;have(B,rfl):=iN a.1;rcases t with⟨D,rfl,f⟩|⟨rfl,Qt,f⟩
 .have(p2,H,I,rfl,k1,k2,k3):=GF q (a.2) f;show HX hi g i k m o k1 k2 k3
 .have r:=a.2;rw[Ś ⋯]at r;have(l,J,p2,rfl,s):=gh r;rw[cc,Ř]at s;have((v,w),k5):=Cb q s.1 f;show HY hi g i k m o w (λz=>by rw[z]at k5;simp at k5;lia) ⋯
theorem Ce(hi:X.N[j]?≈n)(f:Ow X.env.scope n)(g:(n==("__debug__":Str))=cK)(i:(n==("__classdict__":Str))=cK)(k:Gl X "isinstance")(l:X.mg "isinstance"=cb)(m:vR ck X.K X.mg):
  ∀{es} {a} {bs},Ve X.env.scope n es a=b6->⇑a=⇑bs->(∀r∈a.zip bs,Xp ck.xi c r.1 r.2)->PA X es (xn X.K j c bs)
 |[],[],[],_,_,_=>cB
 |[],[],_::_,_,h,_=>by simp at h
 |[],_::_,_,h,_,_=>by simp[Ve]at h
 |_::_,[],_,h,_,_=>by simp[Ve]at h
 |_::_,_::_,[],_,h,_=>by simp at h
 |e::es,G::a,b::bs,h,hl,o=>by
  erw[Ve,cc]at h;have hs:i0 (e::es) X.env=(cK,p8 e X.env)::i0 es X.env:=by
   have(_,_,_,rfl,_):=eS (h.1);rfl
  show bA (GG hi f g i k l m h.1 (o _ il)) (Ce hi f g i k l m h.2 (by exists hl) λr p=>o r (f7 _ p)) hs
def Js(h:n<4):(Qp n++[n==3]).filter id=[b6]/\(Qp n++[n==3])[n]?≈b6/\∀m,m<n->(Qp n++[n==3])[m]?≠bD b6:=by
 match n,h with
 |0,_=>decide
 |1,_=>decide
 |2,_=>decide
 |3,_=>decide
abbrev ZZ(X:Cx)(ck:Ck)(j:Nat)(n c:Str)(ea:hH):Prop:=∀{e:jw}{a:↑Str}{b:Bool},Wk X.env.scope n e a=b6->Xp ck.xi c a b->PE (X.NI ea) e (vn X.K j c b)
def M_(G:Gs ck Γ C d X)(e:X.N[j]?≈n)(f:Ow X.env.scope n)(o:(n=="__debug__")=cK/\(n=="__classdict__")=cK)(g:OM X.env.scope "isinstance"=b6)(i:⇑b=3)(l:(b.zip (Qp m)).all (λr=>Vf ck.xi c r.1 r.2)=b6)(h:s1B X.N X.env.scope k n b s=b6):L2.PS (X.NI ea) s (ym (Hv (xn X.K j c (Qp m))) (kU k))/\k<⇑X.N:=by
 have(z,t,v,u,rfl,p):=kI h;have(es,w,rfl,a):=zr p;erw[cc,Ř]at a;show#[mO (X:=X.NI ea) G.nd a.1.1 (ic a.1.2) (uO (Ce (X:=X.NI ea) (bs:=Qp m) e f o.1 o.2 (cn g) (G.gd.blt _ j5) G.xs.xi a.2 i λr q=>Ca (lx.mp l r q))) rfl (.inl (G.fn _)),(eH.mp a.1.1).1]
def Na(i:ZZ X ck j n c ea)(l:Vf ck.xi c m b=b6)(h:s2B X.N X.env.scope k n m s=b6):L2.PS (X.NI ea) s (Aj (VB X.K "list" wR (lP k) (kY (vn X.K j c b) rZ))):=by
 have(D,G,rfl,p):=vT h;have(o,H,f,as,I,rfl,q):=hZ p;have(J,r,rfl,t):=ar q;have(L,rfl,g):=bF t;erw[cc,Ř]at g;obtain⟨⟨⟨⟨rfl,u⟩,v⟩,a⟩,w⟩:=g;have(x,y,z,A):=dI u;show iE (o_ (X:=X.NI ea) F.plainAttrs_list F.slot_list_append F.type_list_append iF (a9 x y z A) (bA (i w (Ca l)) cB (a_ a)) rfl (by rw[(bj (λe B=>by rw[kr.mp B];show a)).2];rfl) v (a_ a) rfl) rfl
abbrev tPr(a:TE)(i:Nat):TS:=ym (Ku (kY (tC (.str "")) (kY a rZ))) (kU i)
def LK(G:Gs ck Γ C d X)(h:ZV X.N X.env.scope i q s=b6)(f:∀e,q e=b6->PE (X.NI ea) e g/\noStar e=b6):L2.PS (X.NI ea) s (tPr g i):=by
 have(y,u,v,w,rfl,j):=kI h;have(l,x,z,rfl,k):=gh j;have(a,b,rfl,c):=di k;erw[cc,Ř]at c;obtain⟨⟨⟨m,n⟩,o⟩,p⟩:=c;have(_,_,rfl):=zt o;have(r,t):=f b p;show mO (X:=X.NI ea) G.nd m (ic n) (uN (bA uA (bA r cB (a_ t)))) rfl (.inl (G.fn _))
def Nb(c:LJ X.N X.env.scope k e=b6):PE (X.NI ea) e (VB X.K "list" vj (lP k) (kY (tC (.bl b6)) rZ))/\noStar e=b6:=by
 have(o,r,a,as,s,rfl,f):=hZ c;have(t,g,rfl,h):=ar f;have(u,rfl,b):=bF h;erw[cc,Ř]at b;obtain⟨⟨⟨rfl,i⟩,j⟩,l⟩:=b;have(m,n,p,q):=dI i;have(_,_,rfl):=zu j;show#[o_ (X:=X.NI ea) F.plainAttrs_list F.slot_list_index F.type_list_index A0 (a9 m n p q) (bA Ae cB) rfl rfl l rfl rfl,rfl]
abbrev Jt(X:Cx)(k:Nat)(ea:hH)(oe:Obj):TE:=sv 1 (A2 X.K (lP k) ea oe) (kU 0) (tB (lP 0)) (lP 0)
def Nc(l:oe.data=.fields ws)(m:ws[2]?≈.none)(h:allB X.N X.env.scope k e=b6):PE (X.NI ea) e (Jt X k ea oe)/\noStar e=b6:=by
 have(elt,tg,c,ifs,a,n,rfl,o):=fK h;have(J,p,rfl,q):=ar o;have(L,r,rfl,t):=ar q;have(O,u,rfl,v):=ar t;have(Q,rfl,w):=bF v;have(b,x,rfl,f):=ar w;erw[cc,Ř]at f;obtain⟨⟨⟨⟨rfl,rfl⟩,y⟩,z⟩,⟨⟨A,B⟩,g⟩,G⟩:=f;have(k1,k2,k3,I):=dI y;have(k5,j):=aF G;have S:=uY (X:=X.NI ea) rfl (kH _ _) z;show#[A3 (X:=X.NI ea) (pos:=n) (tg:=.Name b r) (elt:=.Name b p) (ifs:=[.Name b x]) S rfl l m (a9 (pos:=u) k1 k2 k3 I) (λD s H ex=>pY (X:=Ou (X.NI ea) _ a D s H ex) (i:=0) S.nd rfl (ic A) (.inr (Ŝ B))) (λD s H ex=>qw (Ag (a9 (X:=Ou (X.NI ea) _ a D s H ex) (i:=0) rfl (cD g) k5 j))) (λD s H ex=>a9 (X:=Ou (X.NI ea) _ a D s H ex) (i:=0) rfl (cD g) k5 j) λ_=>rfl,rfl]
abbrev tLn(a:TE):TE:=WK rEq (tCB (λxs H Q=>∃p ys,xs=[V.ref p]/\(N5 X.K H p ys\/Oc X.K H p ys)/\Q (V.int ⇑ys) H) (kY a rZ)) (tC (.int ((1:Nat):Int)))
def Nd(G:Gs ck Γ C d X)(n:oe.data=.fields ws)(o:ws[2]?≈.none)(h:(jZ e λl op r=>df (op=.Eq)&&Vd 1 r&&nK l "len" λas=>cw as λa=>allB X.N X.env.scope k a&&OM X.env.scope "len")=b6):PT (X.NI ea) e (An (tLn (X:=X) (Jt X k ea oe))):=by
 have(l,op,r,q,rfl,m):=jr h;erw[cc,Ř]at m;have((rfl,c),f):=m;have(s,t,rfl):=nL c;have(u,v,w,rfl,x):=eS f;have(y,rfl,b):=bF x;rw[cc]at b;have(b,g):=b;have(PC,sn):=Nc (ea:=ea) n o b;have(_,_,_,_,_,_,rfl,_):=fK b;show DN (pos:=q) Gg (Au (X:=X.NI ea) (p:=v) (pos:=w) fU (cn g) (G.gd.blt _ ⋯) PySem.boot_len (bA PC cB)) (mL (i:=((1:Nat):Int)) (j:=s) (pos:=t)) rfl
def Nf(G:Gs ck Γ C d X)(g:ZZ X ck j n c ea)(c2:(c,("ValueError":Str),b6)∈ck.xi)(l:oe.data=.fields ws)(m:ws[2]?≈.none)(h:s4B X.N X.env.scope i k n s=b6):L2.PS (X.NI ea) s (Kf (Ka (tB (vn X.K j c b6)) (An (tLn (X:=X) (Jt X k ea oe)))) (Hd (tPr (VB X.K "list" vj (lP k) (kY (tC (.bl b6)) rZ)) i) Ai) Ai):=by
 have(c0,x,b0,o,rfl,p):=nP h;have(q,r,rfl,t):=pF p;have(a,u,rfl,v):=di t;have(y,rfl,e):=bF v;erw[cc,oa]at e;obtain⟨⟨⟨rfl,f⟩,w⟩,b⟩:=e;show Ge (X:=X.NI ea) (pos:=o) (PW.pt (Ah (pos:=r) (Ag (g f (.inl #[_,rfl,c2])) (by have(_,_,_,rfl,_):=eS (show nK a "isinstance" _=b6 from f);intro _;rfl)) (wM (Nd G l m b)))) (dw (LK G w λ_=>Nb) iD) iD
def LL(G:Gs ck Γ C d X)(hj:X.N[j]?≈n)(Xs:BP X.env.scope n=b6)(Nr:bq n=b6)(Xr:OM X.env.scope "isinstance"=b6)(B:i≠k/\j≠k/\i≠j)(hp:Xq ck x Ds Z1 p=b6)(h:ZW X.N X.env.scope i k n Ds Z1 s1 ss=b6):SuD X (s1::ss) i j k p:=by
 intro ea oe ws hd I;have(c,m):=p;erw[Xq,cc,Ř]at hp;obtain⟨⟨⟨⟨⟨_,c2⟩,c3⟩,c4⟩,c5⟩,c6⟩:=hp;have(b1,b2,b3):=Js c3;unfold ZW at h;split at h
 rotate_left
 .cases h
 rename_i s2 s3 s4;erw[cc]at h;obtain⟨⟨⟨z1,z2⟩,z3⟩,z4⟩:=h;have hv:Ow X.env.scope n:=.inl (Ŝ Xs);have(o1,o2):=aF Nr;have kd:ZZ X ck j n c ea:=λh1 I=>GG (X:=X.NI ea) hj hv o1 o2 (cn Xr) (G.gd.blt _ j5) G.xs.xi h1 I;have(P1,w1):=M_ (ea:=ea) G hj hv #[o1,o2] Xr c4 c5 z1;show#[_,dw P1 (dw (Na kd c6 z2) (dw (LK G z3 λe he=>by have(_,_,rfl):=nL he;show#[mL (i:=(9:Nat)),rfl]) (dw (Nf G kd c2 hd I z4) iD))),λD σ H u Cc hl hσ w J hn q=>?_];have S9:k < ⇑σ:=by rw[hl];show w1
 have hsz:(1000:Nat)<=c8:=⋯
 unfold Hd ym Hv;show sO hσ J hn (Qp m) H _ w λH1 g=>#[by rw[ei];change 3<=c8;lia,λa S4=>?_]
 have g1:(σ.set k (bD (V.ref a)))[k]?≈bD (.ref a):=fx S9;have g2:(σ.set k (bD (V.ref a)))[j]?≈bD (.ref ea):=by rw[hQ (mh B.2.1)];show hσ
 have e1:=g _ _ w;show#[.ref a,g1,.inl #[rfl,_,N5.of aj],ea,oe,u,Cc,g2,by rw[ai (av e1 S4)];show e1,J,hn,λL l=>#[a,_,_,rfl,rfl,l _ _ aj,by rw[ei];change 3<c8;lia,?_]];have o:fV H (upd L a (.lst ((Qp m).map V.bl++[.bl (m==3)]))):=λy f b=>by
  have y1:=g _ _ b;have r:=av y1 S4;rw[ai r];show l _ _ (by rw[ai r];show y1)
 show#[by change 2<=c8;lia,λp2 Yj=>?_];have g3:((σ.set k (bD (V.ref a))).set i (bD (V.ref p2)))[k]?≈bD (.ref a):=by rw[hQ B.1];show g1
 have g4:((σ.set k (bD (V.ref a))).set i (bD (V.ref p2)))[j]?≈bD (.ref ea):=by rw[hQ B.2.2];show g2
 have O:∀y f,upd L a (.lst ((Qp m).map V.bl++[.bl (m==3)])) y≈f->upd (upd L a (.lst ((Qp m).map V.bl++[.bl (m==3)]))) p2 (.tup [.str "",.int (9:Nat)]) y≈f:=λy f b=>by rw[ai (av b Yj)];show b
 show#[ea,oe,u,Cc,g4,O _ _ (o _ _ w),J,hn,λs t=>#[b6,rfl,?_]];have v:fV H s:=λy f b=>t _ _ (O _ _ (o _ _ b));have A:s a≈.lst ((Qp m++[m==3]).map V.bl):=by rw[mn];show t _ _ (O _ _ aj)
 change(if b6=b6 then _ else _);rw[ř rfl];show#[.ref a,g3,a,rfl,#[_,N5.of A],A4 (by simp[Qp]) A #[u,v _ _ w] λQ T=>#[Q,_,rfl,.inl (N5.of aj),rfl,b6,?_,?_]]
 .rw[b1];rfl
 have Y:∀y f,s y≈f->upd s Q (.lst (((Qp m++[m==3]).filter id).map V.bl)) y≈f:=λy f b=>by rw[ai (av b T)];show b
 change(if b6=b6 then _ else _);rw[ř rfl];show#[.ref a,g3,.inl #[rfl,_,N5.of (Y _ _ A)],a,_,b6,m,rfl,rfl,Y _ _ A,b2,b3,by change 2<=c8;lia,λp4 ab=>?_];have z:=q (upd (upd s Q (.lst (((Qp m++[m==3]).filter id).map V.bl))) p4 (.tup [.str "",.int m])) (.ref a) p4 (λy f b=>by have r:=Y _ _ (v _ _ b);rw[ai (av r ab)];show r) aj;change D.nx _ _;rw[ħ];show z
theorem Fs(G:Gd ck Γ C d X):∀r e,B_ ck r X.N X.env.scope e=b6->PR X C e (Pj Γ r)
 |.mt b f m i es,e,h=>LB (es:=es) G h λas g=>#[iU es X.OU as G.OU g,bX g,λz=>by subst z;cases es with|nil=>rfl|cons _ _=>simp[aO]at g]
 |.P7 f m i js,e,h=>LC G h
 |.arg f r,e,h=>by
  have(as,p,A,rfl,z):=eS (show nK e f _=b6 from h);clear h;have(a,rfl,c):=bF z;erw[cc,Ř]at c;obtain⟨⟨⟨⟨j,k⟩,n⟩,o⟩,s⟩:=c;have(B,fa,D,ps,t,u,v,x,y,H):=(G.fns _ j)
  show Lp G.P G.w G.K rfl y t G.room (cn k) u v x (aF n).1 (Fs G r a s) (a_ (es:=[]) o)
 |.QL r,e,h=>by
  have(l,q,p,rfl,z):=gh (show jc e _=b6 from h);clear h;have(a,b,rfl,c):=di z;erw[cc]at c;have(_,_,rfl):=zp c.1.1;show IZ (Fs G r a c.2) uw (a_ c.1.2) rfl
def Ft(G:Gs ck Γ C d X)(h:zw ck (.Sr i c b c1 c2) X.N X.env.scope f=b6):L2.PS X f (Oh C (Ud (.Sr i c b c1 c2)) (exec Γ (.Sr i c b c1 c2))):=by
 have(t,a,o,p,rfl,z1):=nP (show lr f _=b6 from h);have(l,op,r,p2,rfl,z2):=jr z1;have(x,px,rfl,g):=ar z2;have(s1,rfl,j):=bF g;have(v,p6,rfl,k):=nO j;have(e,rfl,n):=kJ k;have(w,m,q,as,Nn,rfl,s):=hZ n;have(a1,a2,rfl,u):=di s;clear h z1 z2 g j k n s;erw[cc,Ř,oa,mN]at u;obtain⟨⟨⟨⟨⟨⟨⟨⟨⟨⟨⟨rfl,rfl⟩,y⟩,z⟩,rfl⟩,A⟩,B⟩,D⟩,H⟩,I⟩,J⟩,L⟩:=u;have(_,_,rfl):=nR y;have(_,_,rfl):=nR A;have(_,_,rfl):=nR B;have(O,Q,T,Y):=dI z;show Lu O Q T Y (bQ b X w G.gd L) (j4 D) H I J
def Fu(G:Gs ck Γ C d X)(h:zw ck (.RM r i x c j l e f) X.N X.env.scope o=b6):L2.PS X o (Oh C (Ud (.RM r i x c j l e f)) (exec Γ (.RM r i x c j l e f))):=by
 have(b,hd,p,rfl,z1):=vU (h);have(ty,v,p4,rfl,z2):=nN z1;have(y,p1,rfl,g):=ar z2;have(tx,n,s1,ss,q,rfl,z):=vV g;clear h z1 z2 g;erw[cc,Ř]at z;obtain⟨⟨⟨⟨⟨⟨s,t⟩,u⟩,w⟩,⟨⟨b1,A⟩,b3⟩,b4⟩,⟨⟨c1,c2⟩,B⟩,D⟩,⟨⟨H,I⟩,d3⟩,d4⟩:=z;have(p5,rfl):=iN b1;show Ls (λm a=>by have a:(df (m≠i)&&(df (m≠j)&&df (m≠l)))=b6:=a;exists a) G.nd c1 (Ŝ c2) u (ic w) (G.fn _) (Fs G.gd r v s) (ie t) G.sk G.ex (cn A) (aF b3).1 λp J=>?_;have z:=lx.mp b4 p J;have k:=z;erw[Xq,cc,Ř]at k;have(L,O,r1,Q,T,Y):=G.xs.xd _ k.1.1.1.1.1;show#[L,O,T,Q,Y,LL G c1 c2 B D I z H]
def Cg(G:Gs ck Γ C d X)(h:zw ck (.Py i) X.N X.env.scope b=b6):L2.PS X b (Oh C (Ud (.Py i)) (exec Γ (.Py i))):=by
 apply Jj h;intro y p v m z1;apply BX z1;intro as p2 n z2;erw[cc,Ř,oa]at z2;obtain⟨⟨⟨rfl,c⟩,e⟩,f⟩:=z2;have(cl,o,q,r,K,g,M,F,k,l):=G.gd.OW.sh;show I_ K g G.gd.K (λj a=>by have a:df (j≠i)=b6:=a;exists a) G.nd c (ic e) (.inl (G.fn _)) M F (G.gd.room.mono G.gd.OW.lv) (cn f) l k
mutual
theorem Ng:∀(s:S) (X:Cx) (f:ve),Gs ck Γ C d X->zw ck s X.N X.env.scope f=b6->L2.PS X f (Oh C (Ud s) (exec Γ s))
 |.set i e,X,f,G,h=>by
  apply gk h;intro t v p1 z1;apply Jl z1;intro x p z2;clear h z1;have h:=z2;erw[cc,Ř]at h;obtain⟨⟨⟨⟨⟨g,k⟩,J⟩,A⟩,L⟩,O⟩:=h;have OB:∀j,Ud (.set i e) j=b6->j≠i:=λj Q=>Ŝ (show df (j≠i)=b6 from Q);by_cases hc:dP v=b6
  .show Gv OB G.nd g (ic k) (.inl (G.fn x)) (bQ e X v G.gd A) (ie hc)
  .cases e with
   |comp n t ik src cond e =>
    have(elt,tg,ac,ifs,scope,p3,rfl,_):=fK A;show Jr G g k A _ OB
   |_=>show absurd O hc
 |.Qk is e,X,f,G,h=>by
  apply gk h;intro t v p1 z1;have(es,kk,p,rfl,z2):=gh z1;clear h z1;have h:=z2;erw[cc]at h;obtain⟨⟨⟨g,k⟩,J⟩,A⟩:=h;show II (λj Q=>Ŝ (show df (j∉is)=b6 from Q)) (bQ e X v G.gd A) (xH (fa:=λ_=>b6) G.gd.calm G.gd.K G.nd (λx _=>G.fn x) g) (qY k) ?_ rfl;cases v<;>first|rfl|cases J
 |.put i a b,X,f,G,h=>by
  apply gk h;intro t v p z1;apply gf z1;intro o a' p1 z2;apply aX z2;intro x px B;erw[cc,Ř]at B;obtain⟨⟨⟨⟨⟨⟨g,k⟩,J⟩,A⟩,L⟩,O⟩,h7⟩:=B;have(T,Y):=aF J;show Lj G.gd.P G.gd.w G.gd.K G.gd.u g (cD k) T Y (bQ b X _ G.gd h7) (bQ a X _ G.gd O) (qY A) rfl (xM L)
 |.Ql,X,f,G,h=>by cases h
 |.Py i,X,f,G,h=>Cg G h
 |.QM i e,X,f,G,h=>by
  apply gk h;intro t v p1 z1;apply dU z1;intro o m q z2;apply aX z2;intro x px B;have(y,py,rfl,z4):=ar B;erw[cc,Ř]at z4;have((rfl,g),k):=z4;have(w1,w2,w3,w4):=dI g;have(cl,_,_,_,K,_,_,_,_,_):=G.gd.OW.sh;show IQ K G.gd.K w1 w2 w3 w4 (bQ e X _ G.gd k) rfl
 |.QN i,X,f,G,h=>by
  apply j6 h;intro c p0 z1;apply cM z1;intro o m ab as Nn z2;apply dU z2;intro o1 m1 T B;apply aX B;intro x px z4;apply fm z4;intro a z5;apply dU z5;intro o2 m2 Y z6;apply aX z6;intro x2 al z7;erw[cc,Ř]at z7;obtain⟨⟨⟨⟨⟨rfl,rfl⟩,rfl⟩,rfl⟩,g⟩,k⟩:=z7;have(w1,w2,w3,w4):=dI k;have(cl,_,_,_,K,_,_,_,_,_):=G.gd.OW.sh;show IS K G.gd.K w1 w2 w3 w4 g
 |.app i e,X,f,G,h=>by
  apply j6 h;intro c p0 z1;apply cM z1;intro o m ab as Nn z2;apply aX z2;intro x px B;apply fm B;intro a z4;erw[cc,Ř]at z4;obtain⟨⟨⟨⟨⟨⟨rfl,g⟩,k⟩,J⟩,A⟩,L⟩,O⟩:=z4;have(T,Y):=aF J;have st:=a_ (env:=X.env) (es:=[]) L;have sa:=(bj (pos:=Nn) (env:=X.env) (es:=[a]) λe he=>by simp at he;subst he;show L).2;show Lh G.gd.K g (cD k) T Y (bQ e X _ G.gd O) ?_ A st;rw[sa];rfl
 |.ext i e,X,f,G,h=>by
  apply j6 h;intro c p0 z1;apply cM z1;intro o m ab as Nn z2;apply aX z2;intro x px B;apply fm B;intro a z4;erw[cc,Ř]at z4;obtain⟨⟨⟨⟨⟨⟨rfl,g⟩,k⟩,J⟩,A⟩,L⟩,O⟩:=z4;have(T,Y):=aF J;have st:=a_ (env:=X.env) (es:=[]) L;have sa:=(bj (pos:=Nn) (env:=X.env) (es:=[a]) λe he=>by simp at he;subst he;show L).2;show Li G.gd.K g (cD k) T Y (bQ e X _ G.gd O) ?_ A st;rw[sa];rfl
 |.bad,X,f,G,h=>λpins sh σ H D I ⟨_,_,_,_,w⟩=>(bf.mp w).elim
 |.newD i,X,f,G,h=>by
  apply gk h;intro t v p1 z1;apply aX z1;intro x p z2;clear h z1;have h:=z2;erw[cc,Ř]at h;have(p2,rfl):=pG h.1.1;show IK (λj Q=>Ŝ (show df (j≠i)=b6 from Q)) G.nd h.1.2 (ic h.2) (.inl (G.fn _)) (ie rfl)
 |.putD i a b,X,f,G,h=>by
  apply gk h;intro t v p z1;apply gf z1;intro o a' p1 z2;apply aX z2;intro x px B;erw[cc,Ř]at B;obtain⟨⟨⟨⟨⟨⟨g,k⟩,J⟩,A⟩,L⟩,O⟩,h7⟩:=B;have(T,Y):=aF J;show IL G.gd.u g (cD k) T Y (bQ b X _ G.gd h7) (bQ a X _ G.gd O) (qY A) rfl (xM L)
 |.PU i a e,X,f,G,h=>by
  apply j6 h;intro c p0 z1;apply cM z1;intro o m ab as Nn z2;apply gf z2;intro o' a' p1 B;apply aX B;intro x px z4;apply fm z4;intro b z5;erw[cc,Ř]at z5;obtain⟨⟨⟨⟨⟨⟨⟨⟨⟨rfl,g⟩,k⟩,J⟩,A⟩,L⟩,O⟩,h7⟩,h8⟩,h9⟩:=z5;have ha:=LH (C:=C) (Γ:=Γ) (d:=d) (ck:=ck) G.gd h9 h8;have(T,Y):=aF J;have st:=a_ (env:=X.env) (es:=[]) O;have sa:=(bj (pos:=Nn) (env:=X.env) (es:=[b]) λe he=>by simp at he;subst he;show O).2;show IM G.gd.K G.gd.u g (cD k) T Y ha (bQ a X _ G.gd h7) (tD A) ?_ L st;rw[sa];rfl
 |.aug sub i a e,X,f,G,h=>by
  apply Fh h;intro t op b p z0;clear h;have h:=z0;apply gf h;intro o a' p1 z1;apply aX z1;intro x px z2;erw[cc,Ř]at z2;obtain⟨⟨⟨⟨⟨⟨⟨rfl,g⟩,k⟩,J⟩,A⟩,L⟩,O⟩,h7⟩:=z2;have ha:=LH (C:=C) (Γ:=Γ) (d:=d) (ck:=ck) G.gd h7 O;have(T,Y):=aF J;show Lm g (cD k) T Y ha (bQ a X _ G.gd L) (Fp A)
 |.W6 i,X,f,G,h=>absurd (show cK=b6 from h) ke
 |.exp e,X,f,G,h=>by
  apply j6 h;intro e' p z0;clear h;have h:=z0;erw[cc]at h;show Lb (bQ e X _ G.gd h.2) (ie h.1)
 |.ret e,X,f,G,h=>by
  apply Fi h;intro v p z0;apply Jm z0;intro e' z1;clear h z0;have h:=z1;show Lc (bQ e X _ G.gd h)
 |.So,X,f,G,h=>absurd (show cK=b6 from h) ke
 |.ite c a b,X,f,G,h=>by
  apply Fj h;intro c' a' b' p z0;clear h;have h:=z0;erw[cc]at h;have ha:=lu a X _ G h.1.2;have hb:=lu b X _ G h.2;show Le (qX c X _ G.gd h.1.1) (OO.weak ha λD σ H z=>qT (λj Q=>(n7.mp (show(Pd a j&&Pd b j)=b6 from Q)).1) z) (OO.weak hb λD σ H z=>qT (λj Q=>(n7.mp (show(Pd a j&&Pd b j)=b6 from Q)).2) z)
 |.Ob t is ik src body,X,f,G,h=>by
  apply Fm h;intro tg ac P2 p z0;clear h;have h:=z0;rw[cc,cc,cc]at h;show Lg G.po G.gd.calm (xN G.gd h.1.2) (xH (fa:=λ_=>b6) G.gd.calm G.gd.K G.nd (λx _=>G.fn x) h.1.1.1) (lu body X _ G h.2) (vS h.1.1.2) λj Q=>by have Q:(df (j∉is)&&Pd body j)=b6:=Q;exists Q
 |.T_ c body,X,f,G,h=>by
  apply Jn h;intro c' P2 p z0;clear h;have h:=z0;erw[cc]at h;show Lf G.po (qX c X _ G.gd h.1) (lu body X _ G h.2)
 |.brk,X,f,G,h=>absurd (show cK=b6 from h) ke
 |.cnt,X,f,G,h=>absurd (show cK=b6 from h) ke
 |.U6 is,X,f,G,h=>absurd (show cK=b6 from h) ke
 |.Rm c e,X,f,G,h=>Fq G h
 |.RM r i x Qm j l Ds Gp,X,f,G,h=>Fu G h
 |.Sr i c b c1 c2,X,f,G,h=>Ft G h
 |.OZ r,X,f,G,h=>by
  have(v,p,rfl,z):=nO (show lq f _=b6 from h);have(e,rfl,z):=kJ z;show I0 (Fs G.gd r e z) G.xl
 |.W7,X,f,G,h=>absurd (show cK=b6 from h) ke
theorem lu:∀(ss:↑S) (X:Cx) (a:↑ve),Gs ck Γ C d X->eB ck ss X.N X.env.scope a=b6->OO X a (Oh C (Pd ss) (execs Γ ss))
 |[],X,a,G,h=>by
  cases a with
  |nil=>show La
  |cons _ _=>simp[eB]at h
 |s::ss,X,a,G,h=>by
  cases a with
  |nil=>simp[eB]at h
  |cons c a =>
   erw[eB,cc]at h;have e:=Ng s X c G h.1;have f:=lu ss X a G h.2;show IG (PS.weak e λD σ H z=>qT (λj b=>by erw[Pd,cc]at b;show b.1) z) (OO.weak f λD σ H z=>qT (λj b=>by erw[Pd,cc]at b;show b.2) z)
end
end
section
variable{ck:Ck}{Γ:Tab}{d:Nat}{P:sd}{w:wk}{K:PySem.W.Frag}{mg:Str->Option g8}{base:K2}
def iO{n i:Nat}(h:(start us n)[i]?≈bD (k,u)):us[i]?≈u/\k=if NT u=b6 then .loc else .any:=by
 unfold start at h;by_cases hi:i<⇑us
 .rw[qs ⋯,sg]at h;rw[Rp hi]at h ⊢;erw[ß,Y2,Prod.mk.injEq]at h;have(a,b):=h;subst b;show#[rfl,a.symm]
 .rw[pe ⋯,O7]at h;simp_all
def dm{i:Nat}(h:vs[i]?≈v):(L2.start N vs)[i]?≈bD v:=by
 unfold L2.start;have hi:=(eH.mp h).1;rw[qs ⋯,sg,h];rfl
def Ci(p:∀a,c a->PL H a)(h:aq #[P,w,K,H,c,λ_=>False,q] c H us vs)(hn:⇑N=n):Ok ⟨P,w,K,H,c,λ_=>False,q⟩ ⟨λ_=>False,H,L2.start N vs,start us n,λ_=>[]⟩:=by
 have f:∀(j:Nat) (u:U),(start us n)[j]?≠bD (bD (.A',u)):=λj u e=>by
  have:=(iO e).2;split at this<;>cases this
 show#[λa o e _=>e,λa z=>z.elim,λa z=>#[p a z,λz=>z],λa z=>z.elim,?_,λi k u e=>?_,λi j k k' u u' r hk t g m x y=>?_,#[λj u r e _=>(f j u e).elim,λi j a ⟨u,_,e,_,_⟩=>(f i u e).elim,λj a ⟨u,_,e,_,_⟩=>(f j u e).elim]]
 .have:=h.len;simp[start,L2.start,hn];lia
 .have(g,m):=iO e;have(v,ev,b):=h.get g;show#[v,dm ev,?_];subst m;by_cases l:NT u=b6
  .rw[ř l];show Rep.NT l b
  .rw[Ś l];show Rep.mv (.up λa z=>.inl z) b
 .have(_,s):=iO g;subst s;split at hk<;>cases hk
def qZ(h:bJ Γ fn us≈.ok (k,u)):⇑us=fn.np/\((k=.own\/k=.loc\/k=.any)/\(∃st',execs Γ fn.body (start us fn.ns)≈(.ok (.rt k u),st'))\/(k=.loc/\u=.Nt/\∃st',execs Γ fn.body (start us fn.ns)≈(.ok .nx,st'))):=by
 unfold bJ at h;split at h
 .rename_i hl;show#[hl,?_];split at h
  .rename_i e;cases h;show .inl #[.inl rfl,_,e]
  .rename_i e;cases h;show .inl #[.inr (.inl rfl),_,e]
  .rename_i e;cases h;show .inl #[.inr (.inr rfl),_,e]
  .rename_i e;cases h;show .inr #[rfl,rfl,_,e]
  .cases h
  .cases h
 .cases h
def tF(h:bJ Γ fn us≈.exc c):⇑us=fn.np/\∃st',execs Γ fn.body (start us fn.ns)≈(.ok (.rt .io (.str c)),st'):=by
 unfold bJ at h;split at h
 .rename_i hl;show#[hl,?_];split at h
  .cases h
  .cases h
  .cases h
  .cases h
  .rename_i e;cases h;show#[_,e]
  .cases h
 .cases h
def GH{st}(F:QV K fn.name j st f fd)(S:da N ps (aD st))(hN:⇑N=fn.ns)(Pz:⇑ps=fn.np)
  (Rx:eB ck fn.body N (aD st) (bO st)=b6) (q:∀x∈bP,mg x=cb) (t:∀g∈ck.fns,zo P w K mg base d (Γ g) g)
  (P0:∀p∈ck.gl,∃val v,mg p.1≈val/\RelV v val/\∀C S H,Rep C S H p.2 v) (OW:Wi ck Γ P w K mg base d) (xs:Up ck K mg):dE P w K mg base (Pw P w) (d+1) f fd ps (spT P w K (bJ Γ fn) fn.np):=by
 have(oc,od,kV,ab,pm,an,OJ,ct,R5,rfl,lk,NO):=F.ex;show wN lk NO S (λvs H Q E h=>h.1.trans Pz.symm) λA outer s H vs Q E L h=>?_;have(hl,us,r,y,O,B,D,b):=h;have Ue:=L.un;let l:Ct:=#[P,w,K,H,y,λ_=>False,λu H'=>∃c,u=.str c/\∀i,W.nsIn K i5 c≈bD (.ref i)->E (.ref i) cb H']
 have J:(U_ P w K H y).Eqv l:=#[rfl,rfl,rfl]
 have m:l.Eqv (U_ P w K H y):=#[rfl,rfl,rfl]
 have G:Gs ck Γ l d (qf (Pw P w) P w K mg base N j _ f OJ A outer s H E) :=
  #[#[rfl,rfl,rfl,by change(A.deeper _).units+60<C0;lia,rfl,L,q,t,λp hp=>let ⟨val,v,J,m,q3⟩:=P0 p hp;⟨val,v,J,m,q3 _⟩,OW],S.nd,λ_=>rfl,WS,S.kind,xs,
   λc H' ⟨c',e1,hE⟩ i T H2 pins σ s2 e s' hm I F=>by
    cases e1;show F.leave I.ok.frames rfl I.stack I.iB λT' PD F'=>#[e,i,T',H',rfl,F'.down I rfl rfl rfl,hE i hm],
   #[rfl,rfl]
   ,rfl
   ]
 show#[_,lu _ _ _ G Rx,_,rfl,rfl,Ci B (D.cg J) hN,?_];cases r with
 |exc c =>
  have(_,st',e):=tF O;show#[_,st',e,λcf Y ok n kp=>#[c,rfl,λi hC=>b i cf.H hC λa o z=>ok.same a o z λz=>z]]
 |ok x =>
 have(k,u):=x;have(hk,b):=b;have(_,Z'):=qZ O;have mk:∀(c:Cf),Ok l c->∀v,IF l c k u v->Back _ H c.H c.S k u v:=λc ok v r=>by
  show#[λa o e=>ok.same a o e λz=>z,λa z=>ok.O3 a z,λe=>?_,λe=>?_,λe=>?_]
  .subst e;have(r0,e,h1,h2,h3,h4):=r;show#[r0,e,h1,h2,h4.cg m]
  .subst e;show Rep.cg m r
  .subst e;show Rep.cg m r
 rcases Z' with⟨_,st',e⟩|⟨rfl,rfl,st',e⟩
 .rcases hk with rfl|rfl|rfl<;>show#[_,st',e,λc Y ok n kp v r=>b v c.H c.S (mk c ok v r)]
 .show#[_,st',e,λc Y ok n kp=>b .Nt c.H c.S (mk c ok .Nt rfl)]
def zx{d}(q:c.Eqv C)(g:c.O2=C.O2)(t:c.H₀=C.H₀)(h:c.IO=C.IO)(a:IY c C.H₀ r as (.ob d u0 us0) us vs)(hn:⇑N=n)(hl:⇑us<n):Ok C #[λ_=>False,C.H₀,L2.start N (.ref r::vs),cC (.ob d u0 us0::us) n,λ_=>as]:=by
 have l:∀(j:Nat) (k:Kd) (u:U),(cC (.ob d u0 us0::us) n)[j]?≈bD (k,u)->(j=0/\k=.A'/\u=.ob d u0 us0)\/∃i,j=i+1/\us[i]?≈u/\k=if NT u=b6 then .loc else .any:=λj k u e=>by
  cases j with
  |zero=>cases e;show .inl #[rfl,rfl,rfl]
  |succ i=>show .inr #[i,rfl,iO (n:=n - 1) (by assumption)]
 have rt:∀(j:Nat) (k:Kd) (u:U),k.root=b6->(cC (.ob d u0 us0::us) n)[j]?≠bD (bD (k,u)):=λj k u hk e=>by
  rcases l j k u e with⟨_,rfl,_⟩|⟨_,_,_,rfl⟩
  .cases hk
  .split at hk<;>cases hk
 have b:∀(j:Nat) (u:U),(cC (.ob d u0 us0::us) n)[j]?≈bD (.A',u)->j=0/\u=.ob d u0 us0:=λj u e=>by
  rcases l j _ u e with⟨z,_,z2⟩|⟨_,_,_,z⟩
  .show#[z,z2]
  .split at z<;>cases z
 show#[λa o e _=>e,λa z=>z.elim,λx z=>by have:=a.par x (g▸z);show#[this.1,h▸this.2],λx z=>?_,?_,λj k u e=>?_,λi j k k' u u' r hk D m s G H=>(rt i k u hk m).elim,#[λj u I e s=>?_,λi j x ⟨u,_,e,_,_⟩ ⟨u',_,y,_,_⟩=>(b i u e).1.trans (b j u' y).1.symm,λj x _ ⟨i,k,u,hk,e,_⟩=>rt i k u hk e]]
 .have(o,ho,_):=ba.there a.ob x ((a.iod x).mp (h▸z));show#[#[o,ho],o,ho]
 .have:=a.any.len;simp[cC,start,L2.start,hn];lia
 .rcases l j k u e with⟨rfl,rfl,rfl⟩|⟨i,rfl,m,rfl⟩
  .show#[_,dm rfl,r,rfl]
  .have(v,b1,f):=a.any.get m;have f:=f.cg q;show#[v,dm (by exists b1),?_];by_cases p:NT u=b6
   .rw[ř p];show Rep.NT p f
   .rw[Ś p];show Rep.mv (.up λa z=>.inl (g▸z)) f
 .have(rfl,rfl):=b j u e;cases s;show a.ob.Xl q λx A=>by
   have(z1,z2,B):=a.ob.fr x A;show#[z1,g▸z2,t▸h▸B]
def xO(h:eY Γ fn body us≈.ok r):⇑us=fn.np/\∃f st k u o,execs Γ body (cC us fn.ns)≈(.ok f,st)/\Ti f≈(k,u)/\W_ st≈o/\r=(k,.tup [u,o]):=by
 unfold eY at h;split at h
 .rename_i hl;show#[hl,?_];split at h
  .rename_i f st e;rw[ki]at h;have(a,b,h):=h;rw[g7]at h;have(o,c,h):=h;cases h;show#[f,st,a.1,a.2,o,e,b,c,rfl]
  .cases h
 .cases h
def Cj{st}(h:W_ st≈o):∃d u us,o=.ob d u us/\st[0]?≈bD (.A',.ob d u us):=by
 unfold W_ at h;split at h
 .cases h;show#[_,_,_,rfl,rfl]
 .cases h
def Cm(h:Ti f≈(k,u)):f=.nx/\k=.loc/\u=.Nt\/k=.loc/\f=.rt .loc u\/∃c,k=.io/\u=.str c/\f=.rt .io (.str c):=by
 unfold Ti at h;split at h
 .cases h;show .inr (.inl #[rfl,rfl])
 .cases h;show .inr (.inr #[_,rfl,rfl,rfl])
 .cases h;show .inl #[rfl,rfl,rfl]
 .cases h
def Ju{st}(F:QV K x m st f fd)(S:da N ps (aD st))(hN:⇑N=fn.ns)(Pz:⇑ps=fn.np)(SE:fn.np<=fn.ns)(OB:Pd body 0=b6)
  (Rx:eB ck body N (aD st) (bO st)=b6) (D:∀x∈bP,mg x=cb) (J:∀g∈ck.fns,zo P w K mg base d (Γ g) g)
  (P0:∀p∈ck.gl,∃val v,mg p.1≈val/\RelV v val/\∀C S H,Rep C S H p.2 v) (OW:Wi ck Γ P w K mg base d) (xs:Up ck K mg):dE P w K mg base (Pw P w) (d+1) f fd ps (Tn P w K (eY Γ fn body) fn.np):=by
 have(oc,od,kV,ac,pm,an,OJ,ct,R5,rfl,lk,NO):=F.ex;show wN lk NO S (λvs H Q E h=>h.1.trans Pz.symm) λA outer s H vs Q E hr h=>?_;have(hl,r,NZ,us,d0,u0,us0,k,u,o,as,t,IO,rfl,NY,L,b):=h;have Ue:=hr.un;let l:Ct:=#[P,w,K,H,t,IO,λu H'=>∃c,u=.str c/\∀j,W.nsIn K i5 c≈bD (.ref j)->E (.ref j) cb H']
 have O:(RT P w K H t IO).Eqv l:=#[rfl,rfl,rfl]
 have B:l.Eqv (RT P w K H t IO):=#[rfl,rfl,rfl]
 have G:Gs ck Γ l d (qf (Pw P w) P w K mg base N m (aD st) f OJ A outer s H E) :=
  #[#[rfl,rfl,rfl,by change(A.deeper _).units+60<C0;lia,rfl,hr,D,J,λp hp=>let ⟨val,v,O,B,q3⟩:=P0 p hp;⟨val,v,O,B,q3 _⟩,OW],S.nd,λ_=>rfl,WS,S.kind,xs,
   λc H' ⟨c',Y,hE⟩ j T H2 pins σ s2 e s' hm I F=>by
    cases Y;show F.leave I.ok.frames rfl I.stack I.iB λT' PD F'=>#[e,j,T',H',rfl,F'.down I rfl rfl rfl,hE j hm],
   #[rfl,rfl],rfl]
 have(S6,fl,st',k',u',o',e,Y,e2,e3):=xO NY;show#[_,lu body _ _ G Rx,_,rfl,rfl,zx (C:=l) O rfl rfl rfl L hN (by grind),?_];cases e3;have(d2,u2,ab,rfl,Nz):=Cj e2;have q:∀(c:Cf),c.st=st'->Ok l c->Kept (Pd body) #[λ_=>False,H,L2.start N (.ref r::NZ),cC (.ob d0 u0 us0::us) fn.ns,λ_=>as] c->∀(k:Kd) (u:U) v,(k=.loc->IF l c .loc u v)->tf (RT P w K H t IO) H c.H c.S r (.ob d2 u2 ab) k u v:=λc ec i kp k u v r2=>by
  rw[<-ec]at Nz;have(v0,y1,r',y2):=i.sl 0 _ _ Nz;subst y2;have Wu:=y1;rw[kp.1 0 OB]at Wu;cases Wu;have rd:=i.dd.kd 0 _ _ Nz y1;show#[λx y z1 z2=>i.same x y z1 z2,λx y z1=>?_,λx z=>i.O3 x z,#[_,λa ha=>(rd.fr a (f7 _ ha)).2.2.symm,rd.Xl B rd.fr],λhk=>Rep.cg B (r2 hk)];by_cases z:IO x
  .show(i.io x z).2
  .show#[y,i.same x y z1 z]
 show#[fl,st',e,λc ec i n kp=>?_];have q:=q c ec i kp;rcases Cm Y with⟨rfl,rfl,rfl⟩|⟨rfl,rfl⟩|⟨c',rfl,rfl,rfl⟩
 .rcases b with⟨_,b⟩|⟨z,_⟩
  .show b .Nt c.H c.S (q .loc .Nt .Nt λ_=>rfl)
  .cases z
 .rcases b with⟨_,b⟩|⟨z,_⟩
  .show λv r=>b v c.H c.S (q .loc _ v λ_=>r)
  .cases z
 .rcases b with⟨z,_⟩|⟨_,c2,e5,b⟩
  .cases z
  .cases e5;show#[c',rfl,λj hC=>b j c.H c.S hC (q .io .Nt .Nt λz=>by rfl)]
def Fv(h:runN Γ fn body us≈.ok (.loc,.tup [x,y])):∃st,execs Γ body (fA us fn.ns)≈(.ok (.rt .loc x),st)/\st[3]?≈bD (.own,y):=by
 unfold runN at h;split at h
 .unfold Ii at h;split at h
  .rename_i u st e;split at h
   .rename_i w a;cases h;show#[st,e,a]
   .cases h
  .cases h
 .cases h
def zy{S}(a:E6 C S H [x,y,z] l r [c,f,g])(v:⇑N=n)(hn:4<=n):Ok C #[S,H,L2.start N [c,f,g,.ref r],fA [x,y,z,l] n,λ_=>[]]/\∀b,Cf.R #[S,H,L2.start N [c,f,g,.ref r],fA [x,y,z,l] n,λ_=>[]] b->b=r:=by
 have o:∀(j:Nat) (k:Kd) (u:U),(fA [x,y,z,l] n)[j]?≈bD (k,u)->(k=.loc/\(j=0/\u=x\/j=1/\u=y\/j=2/\u=z))\/(j=3/\k=.own/\u=l):=λj k u e=>by
  match j with
  |0=>cases e;show .inl #[rfl,.inl #[rfl,rfl]]
  |1=>cases e;show .inl #[rfl,.inr (.inl #[rfl,rfl])]
  |2=>cases e;show .inl #[rfl,.inr (.inr #[rfl,rfl])]
  |3=>cases e;show .inr #[rfl,rfl,rfl]
  |j+4 =>
   have e:(kb (n - 4) (cb:Option (Kd×U)))[j]?≈bD (k,u):=e;rw[O7]at e;split at e<;>cases e
 have s:(L2.start N [c,f,g,.ref r])[3]?≈bD (.ref r):=dm rfl;have(L,_,p,A,O,_,q,B,Q,_,t,D,G):=a.rep;cases p;cases q;cases t;have rt:∀(j:Nat) (k:Kd) (u:U),k.root=b6->(fA [x,y,z,l] n)[j]?≈bD (k,u)->j=3:=λj k u hk e=>by
  rcases o j k u e with⟨rfl,_⟩|⟨z,_⟩
  .cases hk
  .show z
 have h:∀(j:Nat) (u:U),(fA [x,y,z,l] n)[j]?≠bD (bD (.A',u)):=λj u e=>by
  rcases o j _ u e with⟨z,_⟩|⟨_,z,_⟩<;>cases z
 show#[#[a.same,a.O3,a.par,a.io,?_,λi k u e=>?_,λi j k k' u u' T hk I p q t G=>(rt i k u hk p).trans (rt j k' u' I q).symm,#[λj u r e _=>(h j u e).elim,λi j a ⟨u,_,e,_,_⟩=>(h i u e).elim,λj a ⟨u,_,e,_,_⟩=>(h j u e).elim]],λb J=>?_]
 .simp[fA,L2.start,v]
 .rcases o i k u e with⟨rfl,⟨rfl,rfl⟩|⟨rfl,rfl⟩|⟨rfl,rfl⟩⟩|⟨rfl,rfl,rfl⟩
  .show#[_,dm rfl,A]
  .show#[_,dm rfl,B]
  .show#[_,dm rfl,D]
  .show#[_,s,r,rfl,a.rt.1,a.rt.2.1,a.rt.2.2.1,a.rt.2.2.2]
 .rcases J with⟨j,k,u,hk,e,m⟩|⟨j,u,_,e,_,_⟩
  .have e:(fA [x,y,z,l] n)[j]?≈bD (k,u):=e;have m:(L2.start N [c,f,g,.ref r])[j]?≈bD (.ref b):=m;rw[rt j k u hk e,s]at m;cases m;rfl
  .show(h j u e).elim
def Jv{st}(F:QV K x i st f fd)(S:da N ps (aD st))(hN:⇑N=fn.ns)(Pz:⇑ps=fn.np)(SE:4<=fn.ns)(QQ:fn.np=4)(OB:Pd body 3=b6)
  (Rx:eB ck body N (aD st) (bO st)=b6) (D:∀x∈bP,mg x=cb) (J:∀g∈ck.fns,zo P w K mg base d (Γ g) g)
  (P0:∀p∈ck.gl,∃val v,mg p.1≈val/\RelV v val/\∀C S H,Rep C S H p.2 v) (OW:Wi ck Γ P w K mg base d) (xs:Up ck K mg):dE P w K mg base (Pw P w) (d+1) f fd ps (Xm P w K (runN Γ fn body)):=by
 have(oc,od,kV,ab,pm,an,OJ,ct,R5,rfl,lk,NO):=F.ex;show wN lk NO S (λvs H Q E h=>h.1.trans (QQ▸Pz.symm)) λA outer s H vs Q E L h=>?_;have(hl,C,S0,us,l,r,u,y,NZ,O,Y,hK,rfl,hu,NY,b,j):=h;have Ue:=L.un;let q:Ct:=#[P,w,K,C.H₀,C.O2,C.IO,λu H'=>∃c,u=.str c/\∀k,W.nsIn K i5 c≈bD (.ref k)->E (.ref k) cb H']
 have t:C.Eqv q:=#[O,Y,hK]
 have B:q.Eqv C:=#[O.symm,Y.symm,hK.symm]
 have G:Gs ck Γ q d (qf (Pw P w) P w K mg base N i _ f OJ A outer s H E) :=
  #[#[rfl,rfl,rfl,by change(A.deeper _).units+60<C0;lia,rfl,L,D,J,λp hp=>let ⟨val,v,t,B,q3⟩:=P0 p hp;⟨val,v,t,B,q3 _⟩,OW],S.nd,λ_=>rfl,WS,S.kind,xs,
   λc H' ⟨c',e1,hE⟩ k T H2 pins σ s2 e s' hm I F=>by
    cases e1;show F.leave I.ok.frames rfl I.stack I.iB λT' PD F'=>#[e,k,T',H',rfl,F'.down I rfl rfl rfl,hE k hm],
   #[rfl,rfl],rfl]
 have(st',e,e2):=Fv NY
 match us,hu with
 |[u1,u2,u3],_ =>
  match NZ,b.rep.len with
  |[v1,v2,v3],_ =>
   have m:E6 q S0 H [u1,u2,u3] l r _:=#[b.same,b.O3,b.par,b.io,#[b.rt.1,b.rt.2.1,b.rt.2.2.1,b.rt.2.2.2.cg t],b.rep.cg t]
   have(OV,hR):=zy (N:=N)  m hN SE;show#[_,lu body _ _ G Rx,_,rfl,rfl,OV,_,st',e,λc ec ok n kp v rv=>?_];rw[<-ec]at e2;have(v0,y1,r',rfl,y2,y3,y4,y5):=ok.sl 3 _ _ e2;have Wu:=y1;rw[kp.1 3 OB]at Wu;cases Wu;show j v c.H c.S #[λa o z1 z2=>n.keep a o z1 λz=>z2 (hR a z),n.sub,λa z=>?_,y5.cg B,Rep.cg B rv];rcases n.new a z with z'|z'|z'
   .show .inl z'
   .rw[hR a z']at z;show(y2 z).elim
   .show .inr #[z',(ok.O3 a z).2]
abbrev Fn.bd(fn:Fn):↑S:=match fn.ob with|some b=>b|none=>match fn.io with|some p=>p.2|none=>fn.body
abbrev Vg(fn:Fn):Bool:=match fn.ob with|some b=>Pd b 0|none=>match fn.io with|some p=>Pd p.2 3&&df (fn.np=4)|none=>b6
inductive Ld(ck:Ck)(K:W.Frag)(mg:Str->Option g8)(fn:Fn)(b:Bool)(m:Str):Prop
 |mk (x qual:Str) (st:ve) (f:hH) (fd:Vo) (N ps:↑Str):QV K x qual st f fd->(m=""->x=fn.name/\mg fn.name≈.ref f)->(m≠""->∀cl,Ri K b cl->Meth K cl m f)->Binds K fd ps []->da N ps (aD st)->⇑N=fn.ns->⇑ps=fn.np->eB ck fn.bd N (aD st) (bO st)=b6->Vg fn=b6->fn.np<=fn.ns->Ld ck K mg fn b m
def Fw{Pg:↑Fn}(a:(Pg.map (·.name)).Nodup)(h:fn∈Pg):Pg.find? (λg=>df (g.name=fn.name))≈fn:=by
 induction Pg with
 |nil=>cases h
 |cons g Pg b =>
  rw[i6,nC]at a;rcases eT.mp h with rfl|h
  .simp
  .rw[List.find?_cons];have:df (g.name=fn.name)=cK:=by
    apply ś;intro z;show a.1 (z▸B' h)
   rw[this];show b a.2 h
def q_(a:(Pg.map (·.name)).Nodup)(h:fn∈Pg):N2 Pg (d+1) fn.name=iS (N2 Pg d) fn:=by
 funext us
 change(match Pg.find? λg=>decide _ with|some fn=>iS _ fn us|none=>cb)=_;rw[Fw a h]
def pI(h:fn.ob=cb)(a:fn.io=cb):iS Γ fn=bJ Γ fn:=by unfold iS;rw[h,a]
def Fx(h:fn.ob≈b):iS Γ fn=eY Γ fn b:=by unfold iS;rw[h]
def Fy(h:fn.ob=cb)(a:fn.io≈p):iS Γ fn=runN Γ fn p.2:=by unfold iS;rw[h,a]
abbrev Lq(ck:Ck)(Pg:↑Fn)(K:W.Frag)(mg:Str->Option g8):Prop:=∀g∈ck.OW,∃fn∈Pg,fn.name=g/\fn.ob=cb/\(∃p,fn.io≈p)/\Ld ck K mg fn b6 ""
def xP(NI:(Pg.map (·.name)).Nodup)(P6:Lq ck Pg K mg)(L:∀x∈bP,mg x=cb)(P0:∀p∈ck.gl,∃val v,mg p.1≈val/\RelV v val/\∀C S H,Rep C S H p.2 v)
  (ld:∀g∈ck.fns,∃fn∈Pg,fn.name=g/\fn.ob=cb/\fn.io=cb/\Ld ck K mg fn b6 "") (lo:∀q∈ck.obs,∃fn∈Pg,fn.name=q.1/\(∃b,fn.ob≈b)/\Ld ck K mg fn q.2.1 q.2.2) (sh:Wh P w K mg base) (xs:Up ck K mg):∀d,(∀g∈ck.fns,zo P w K mg base (d+4) (N2 Pg d g) g)/\Wi ck (N2 Pg d) P w K mg base (d+4):=by
 intro d;induction d with
 |zero =>
  show#[λg O=>?_,λq hq=>?_,sh,hY _,λg O=>?_]
  .have(fn,I,rfl,j,n,l):=ld g O;have(x,a,st,f,o,N,ps,F,t,_,B,S,J,D,_,_,_):=l;show#[fn.np,f,o,ps,#[λvs H Q E h=>h.1.trans D.symm,λA outer s H args us vs Q E _ _ _ _ h=>by have(_,us,r,_,e,_):=h;cases e],(t rfl).2,F.kp,B,λus k u e=>(by cases e),λus c e=>by cases e]
  .have(fn,I,e,_,l):=lo q hq;have(x,a,st,f,o,N,ps,F,t,RP,B,S,J,D,_,_,_):=l;show#[fn.np,f,o,ps,#[λvs H Q E h=>h.1.trans D.symm,λA outer s H args us vs Q E _ _ _ _ h=>by have(_,_,_,_,_,_,_,_,_,_,_,_,_,_,e,_):=h;cases e],λz=>e▸(t z).2,F.kp,RP,B,λus k e=>by cases e]
  .have(fn,I,rfl,j,(p,n),l):=P6 g O;have(x,a,st,f,o,N,ps,F,t,_,B,S,J,D,G,i,Y):=l;unfold Vg at i;rw[j,n]at i;erw[cc,Ř]at i;show#[f,o,ps,#[λvs H Q E h=>h.1.trans (i.2▸D.symm),λA outer s H args us vs Q E _ _ _ _ h=>by have(_,_,_,_,_,_,_,_,_,_,_,_,_,_,e,_):=h;cases e],(t rfl).2,F.kp,B]
 |succ d T =>
  show#[λg O=>?_,λq hq=>?_,sh,⋯,λg O=>?_]
  .have(fn,I,rfl,j,n,l):=ld g O;have(x,a,st,f,o,N,ps,F,t,_,B,S,J,D,G,_,_):=l;have(rfl,ab):=t rfl;rw[q_ NI I,pI j n];rw[show fn.bd=fn.body by unfold Fn.bd;rw[j,n]]at G;show#[fn.np,f,o,ps,GH F S J D G L T.1 P0 T.2 xs,ab,F.kp,B,λus k u e=>?_,λus c e=>(tF e).1];have(j,n):=qZ e;show#[?_,j];rcases n with⟨z,_⟩|⟨z,_⟩
   .show z
   .show .inr (.inl z)
  .have(fn,I,e,(b,Q0),l):=lo q hq;have(y,bb,m):=q
   dsimp only at e Q0 l
   subst e;have(x,a,st,f,o,N,ps,F,t,RP,B,S,J,D,G,i,Y):=l;rw[q_ NI I,Fx Q0];rw[show fn.bd=b by unfold Fn.bd;rw[Q0]]at G;unfold Vg at i;rw[Q0]at i;show#[fn.np,f,o,ps,Ju F S J D Y i G L T.1 P0 T.2 xs,λz=>(t z).2,F.kp,RP,B,λus r e=>(xO e).1]
  .have(fn,I,rfl,j,(p,n),l):=P6 g O;have(x,a,st,f,o,N,ps,F,t,_,B,S,J,D,G,i,Y):=l;rw[q_ NI I,Fy j n];rw[show fn.bd=p.2 by unfold Fn.bd;rw[j,n]]at G;unfold Vg at i;rw[j,n]at i;erw[cc,Ř]at i;show#[f,o,ps,Jv F S J D (i.2▸Y) i.2 i.1 G L T.1 P0 T.2 xs,(t rfl).2,F.kp,B]
end
abbrev Fz(ns:↑Int):U:=.lst (ns.map .int)
theorem pJ{S}:∀(ns:↑Int),aq C S H (ns.map .int) (ns.map V.int)
 |[]=>rfl
 |n::ns=>#[_,_,rfl,rfl,pJ ns]
def vX(h:N5 C.K H a (ns.map V.int)):Rep C (PL H) H (Fz ns) (.ref a):=by
 show#[a,_,rfl,?_,pJ ns];rcases h with(h|⟨o,h⟩)|h
 .show .inl #[#[_,h],.inl h]
 .show .inl #[#[_,h],.inr #[o,h]]
 .show .inr h
theorem tH:∀{l:↑α},(∀a∈l,f a=g a)->l.filterMap f=l.filterMap g
 |[],_=>rfl
 |a::l,h=>by rw[O5,O5,h a ⋯,tH λb c=>h b (by simp[c])]
theorem xQ:∀(l:↑Str) (us:↑g8),l.Nodup->⇑us=⇑l->l.filterMap (λn=>((l.zip us).lookup n).map (n,·))=l.zip us
 |[],_,_,_=>rfl
 |a::l,[],_,h=>nomatch h
 |a::l,u::us,b,h=>by
  rw[nC]at b;have c:=xQ l us b.2 (by exists h);erw[XG,O5,sL,beq_self_eq_true,ß];congr 1
  conv=>rhs;rw[<-c]
  show tH λn hn=>?_;have:(n==a)=cK:=by
   rw[Š];rintro rfl;simp_all
  rw[this]
def Cn(l:↑Str)(us:↑g8)(h:⇑us=⇑l):l.filter (λn=>((l.zip us).lookup n).isNone)=[]:=by
 rw[Pn];intro n hn;induction l generalizing us with
 |nil=>cases hn
 |cons a l b =>
  cases us with
  |nil=>cases h
  |cons u us =>
   erw[XG,sL];cases e:n==a with
   |true=>simp
   |false =>
    rcases eT.mp hn with rfl|hn
    .simp at e
    .show b us (by exists h) hn
def Co{kV a pm b ct}(c:(as.map (·.arg)).Nodup)(hl:⇑us=⇑(as.map (·.arg))):
  ō (W.fnOf x q #[[],as,cb,[],[],cb,[]] body scope .none kV a pm g b ct) #[us,[]]=pure ((as.map (·.arg)).zip us):=by
 have d:=xQ _ us c hl;have e:=Cn _ us hl;change(if _ then _ else _)=_;rw[Ś (by simp[hl])];have f:∀k:Nat,¬(!(((as.map (·.arg)).take k).filter λn=>(((as.map (·.arg)).zip us).lookup n).isNone).isEmpty)=b6:=λk=>by
  rw[Pn.mpr λn hn=>Pn.mp e n (Z6 hn)];show ke
 show(Ś (f _)).trans ?_;have hz:∀(l:↑Str) (i j:Nat),(l.drop i).zip ((cb.getD #v[]:Array g8).toList.drop j)=[]:=λl i j=>by simp
 show Eq.trans (ş (λz=>Bind.bind (forIn z _ _) _) (hz _ _ _)) ?_;show ş (pure:↑(Str×g8)->Sem (↑(Str×g8))) ((ş (List.filterMap _) (tP _)).trans d)
structure Me where
 fn:Fn
 x:Str
 i:Nat
 N:↑Str
 a:hH
 c:hH
 m:g8
 cr:Obj
abbrev Me.fd(top:Nat->ve)(m:Me):Vo:=W.fnOf m.x m.fn.name (fS (top m.i)) (bO (top m.i)) (aD (top m.i)) .none .none .none m.m cb (.ref m.c) .none
abbrev Me.fo(top:Nat->ve)(m:Me):Obj:=#[.type "function",cb,.func (m.fd top),#v[]]
abbrev adr(ms:↑Me)(xa:↑hH):↑hH:=3::(ms.flatMap (λm=>[m.c,m.a])++xa)
abbrev Om(top:Nat->ve)(g:Gx)(ms:↑Me):W.Frag:=(3,g.1)::(ms.flatMap (λm=>[(m.c,m.cr),(m.a,m.fo top)])++g.2)
def xR(top)(g:Gx)(ms)(xa)(h:g.2.map (·.1)=xa):adr ms xa=(Om top g ms).map (·.1):=by
 unfold adr Om;rw[i6,mn,List.map_flatMap,h];rfl
abbrev Cp(v:Option (Option g8))(a:hH):Bool:=match v with|some (bD (.ref b))=>df (b=a)|_=>cK
def mq(h:Cp v a=b6):v≈bD (.ref a):=by
 unfold Cp at h;split at h
 .rw[Ŝ h]
 .cases h
abbrev nn(o:Option (Option g8)):Bool:=match o with|some cb=>b6|_=>cK
def GI(h:nn o=b6):o≈cb:=by
 unfold nn at h;split at h
 .rfl
 .cases h
abbrev LM(p:Arguments)(ps:↑Str):Bool:=p.posonlyargs.isEmpty&&p.vararg.isNone&&p.kwonlyargs.isEmpty&&p.kw_defaults.isEmpty&&p.kwarg.isNone&&p.defaults.isEmpty&&df (p.args.map (·.arg)=ps)
abbrev scB(N:↑Str)(b:Nat)(a:uk):Bool:=df (a.kind=.function)&&df (a.isCoroutine=cK)&&df (a.isGenerator=cK)&&decide N.Nodup&&(N.take b).all (jY a)&&a.names.all (λy=>df (y.2≠.free))
abbrev RV(K:W.Frag)(d:Bool):Option hH:=match W.nsIn K i5 (if d=b6 then "Desk" else "Shelf") with|some (bD (.ref C))=>bD C|_=>cb
abbrev N'(K:W.Frag)(C:hH)(x:Str)(a:hH):Bool:=Cp (W.findIn K (.ref C) x) a&&W.isFn K (.ref a)
abbrev Wv(m:Me):Bool:=df (m.fn.name∈(["Desk.__init__","Desk.say","Desk.say_deed"]:↑Str))
abbrev Xt(K:W.Frag)(d:Bool)(x:Str)(a:hH):Bool:=match RV K d with|some C=>N' K C x a|none=>cK
abbrev mOk(ck:Ck)(top:Nat->ve)(K:W.Frag)(m:Me):Bool:=W.codeIn K (.ref m.c) m.fn.name&&W.keepIn K (.ref m.a)&&(if m.x=m.fn.name then Cp (W.nsIn K i5 m.fn.name) m.a else Xt K (Wv m) m.x m.a)&&LM (fS (top m.i)) (m.N.take m.fn.np) &&
 scB m.N m.fn.np (aD (top m.i))&&df (⇑m.N=m.fn.ns)&&df (m.fn.np<=m.fn.ns)&&(eB ck m.fn.bd m.N (aD (top m.i)) (bO (top m.i))&&Vg m.fn)
abbrev glK(K:W.Frag)(p:Str×U):Bool:=match p.2,W.nsIn K i5 p.1 with
 |.int i,bD (bD (.int j _))=>df (i=j)
 |.str i,bD (bD (.str j _))=>df (i=j)
 |_,_=>cK
abbrev Ry(ck:Ck)(top:Nat->ve)(K:W.Frag)(ms:↑Me):Bool:=ms.all (mOk ck top K)&&bP.all (λy=>nn (W.nsIn K i5 y))&&ck.gl.all (glK K)&&df (K.map (·.1)).Nodup
def LN{K:W.Frag}(b:(K.map (·.1)).Nodup)(h:(a,o)∈K):K.lookup a≈o:=by
 induction K with
 |nil=>cases h
 |cons p K c =>
  rw[i6,nC]at b;rw[sL];rcases eT.mp h with rfl|h
  .simp
  .have:(a==p.1)=cK:=by
    rw[Š];rintro rfl;show b.1 (j0.mpr #[_,h,rfl])
   rw[this];show c b.2 h
def Cq(c:Ry ck top (Om top g ms) ms=b6)(h:m∈ms):QV (Om top g ms) m.x m.fn.name (top m.i) m.a (m.fd top)/\(if m.x=m.fn.name then Cp (W.nsIn (Om top g ms) i5 m.fn.name) m.a else Xt (Om top g ms) (Wv m) m.x m.a)=b6 /\
  (∀us,⇑us=⇑(m.N.take m.fn.np)->ō (m.fd top) #[us,[]]=pure ((m.N.take m.fn.np).zip us))/\da m.N (m.N.take m.fn.np) (aD (top m.i))/\⇑m.N=m.fn.ns/\⇑(m.N.take m.fn.np)=m.fn.np/\(eB ck m.fn.bd m.N (aD (top m.i)) (bO (top m.i))=b6/\Vg m.fn=b6/\m.fn.np<=m.fn.ns):=by
 erw[Ry,cc,Ř]at c;have z:=lx.mp c.1.1.1 m h;erw[mOk,cc,Ř]at z;obtain⟨⟨⟨⟨⟨⟨⟨z1,z2⟩,l⟩,b⟩,d⟩,n⟩,o⟩,f⟩:=z;erw[scB,cc,Ř]at d;obtain⟨⟨⟨⟨⟨s1,p⟩,q⟩,j⟩,r⟩,s⟩:=d;have t:(Om top g ms).lookup m.a≈m.fo top:=LN c.2 (eT.mpr (.inr (TN _ (List.mem_flatMap.mpr #[m,h,by simp]))));have hl:⇑(m.N.take m.fn.np)=m.fn.np:=⋯
 show#[HB t z1 z2,l,λus k=>?_,#[s1,p,q,j,by rw[hl],λx u=>?_,λy v=>?_],n,hl,f.1,f.2,o]
 .unfold Me.fd;revert b;cases fS _ with
  |mk w as A B C D G =>
   intro b;erw[LM,cc,oa,UA,Ř]at b;obtain⟨⟨⟨⟨⟨⟨rfl,rfl⟩,rfl⟩,rfl⟩,rfl⟩,rfl⟩,e⟩:=b;rw[<-e]at k ⊢;show Co (by rw[e];show(à _ _).nodup j) k
 .have:=lx.mp r x u;simpa[jY] using this
 .have:=lx.mp s y v;exists this
abbrev ckM(ck:Ck)(ms:↑Me):Bool:=ck.fns.all (λg=>ms.any λm=>df (m.fn.name=g)&&df (m.x=g)&&m.fn.ob.isNone&&m.fn.io.isNone) &&
 ck.obs.all (λq=>ms.any λm=>df (m.fn.name=q.1)&&m.fn.ob.isSome&&(if q.2.2="" then df (m.x=m.fn.name) else df (m.x=q.2.2)&&df (m.x≠m.fn.name)&&df (Wv m=q.2.1)))
 && ck.OW.all (λg=>ms.any λm=>df (m.fn.name=g)&&df (m.x=g)&&m.fn.ob.isNone&&m.fn.io.isSome)
def Cr{h}{mg}(j:Ry ck top (Om top g ms) ms=b6)(X:(Om top g ms).In h)(G:h.Ns i5 mg){m}(hi:m∈ms){b}{n:Str}(i:if n="" then m.x=m.fn.name else(m.x=n/\m.x≠m.fn.name)/\Wv m=b):Ld ck (Om top g ms) mg m.fn b n:=by
 have(a,b,c,d,e,f,k):=Cq j hi;show#[_,_,_,_,_,_,_,a,λz=>?_,λz cl l=>?_,.all c,d,e,f,k.1,k.2.1,k.2.2]
 .rw[ř z]at i;rw[ř i]at b;show#[i,W.mg_of X G (mq b)]
 .rw[Ś z]at i;rw[Ś i.1.2]at b;unfold Xt RV at b;rw[i.2,show W.nsIn (Om top g ms) i5 _=_ from l]at b;erw[N',cc]at b;rw[<-i.1.1];show#[mq b.1,b.2,a.kp]
def Jw(f:Ry ck top (Om top g ms) ms=b6)(k:ckM ck ms=b6)(X:(Om top g ms).In h)(G:h.Ns i5 mg):(∀g'∈ck.fns,∃fn∈ms.map (·.fn),fn.name=g'/\fn.ob=cb/\fn.io=cb/\Ld ck (Om top g ms) mg fn b6 "")/\(∀q∈ck.obs,∃fn∈ms.map (·.fn),fn.name=q.1/\(∃b,fn.ob≈b)/\Ld ck (Om top g ms) mg fn q.2.1 q.2.2)/\Lq ck (ms.map (·.fn)) (Om top g ms) mg:=by
 erw[ckM,cc,lx,S7,Ř,UA]at k;have((l,n),o):=k;show#[λg' i=>?_,λq p=>?_,λg' i=>?_]
 .obtain⟨m,a,⟨⟨c,d⟩,e⟩,j⟩:=l g' i;show#[m.fn,B' a,c,e,j,Cr f X G a (by rw[ř rfl,c,d])]
 .have(m,a,(c,d),e):=n q p;show#[m.fn,B' a,c,vr.mp d,Cr f X G a ?_];simp_all
 .obtain⟨m,a,⟨⟨c,d⟩,e⟩,j⟩:=o g' i;show#[m.fn,B' a,c,e,vr.mp j,Cr f X G a (by rw[ř rfl,c,d])]
abbrev Xu(top:Nat->ve)(K:W.Frag)(ms:↑Me)(d:Bool)(a:ve->Bool):Bool:=match RV K d with
 |none=>cK
 |some C=>W.plainGet K C nH&&W.hasDictIn K C&&W.plainOver K C&&(W.findIn K (.ref C) "__setattr__"==bD (bD (.builtin "object.__setattr__")))&&(["rows","earlier","shelf"]:↑Str).all (λx=>nn (W.findIn K (.ref C) x))&&W.makesIn K C&&W.keepIn K (.ref C) &&
  ms.any λm=>df (m.x="__init__")&&df (m.x≠m.fn.name)&&df (m.fn.np=1)&&df (m.N=(["self"]:↑Str))&&a (top m.i)&&g_ (aD (top m.i)) "self"&&df (Wv m=d)
abbrev shB(top:Nat->ve)(K:W.Frag)(ms:↑Me):Bool:=Xu top K ms cK (λst=>ZK (bO st))&&Xu top K ms b6 λst=>IX (bO st)&&OM (aD st) "Shelf"
def Cs(f:Ry ck top (Om top g ms) ms=b6)(hs:Xu top (Om top g ms) ms d j=b6)(X:(Om top g ms).In h)(G:h.Ns i5 mg):∃(C:hH) (m:Me),PZ (Om top g ms) d C/\Mk (Om top g ms) C m.a/\QV (Om top g ms) "__init__" m.fn.name (top m.i) m.a (m.fd top)/\da ["self"] ["self"] (aD (top m.i))/\Binds (Om top g ms) (m.fd top) ["self"] []/\j (top m.i)=b6/\Ow (aD (top m.i)) "self"/\mg (if d=b6 then "Desk" else "Shelf")≈.ref C:=by
 unfold Xu at hs;split at hs
 .cases hs
 .rename_i C b;have c:=by
   unfold RV at b;split at b
   .rename_i e;cases b;show e
   .cases b
  erw[cc,S7,Ř]at hs;obtain⟨⟨⟨⟨⟨⟨⟨k,l⟩,n⟩,o⟩,p⟩,q⟩,r⟩,m,s,⟨⟨⟨⟨⟨⟨b1,t⟩,b3⟩,b4⟩,u⟩,v⟩,w⟩⟩:=hs;have(F,c1,c2,S,_,_,_):=Cq f s;rw[Ś t]at c1;unfold Xt at c1;rw[w,b]at c1;erw[N',cc]at c1;rw[b3,b4]at c2 S;rw[b1]at F c1;show#[C,m,#[c,#[k,l,n,beq_iff_eq.mp o],λx y=>GI (lx.mp p x y)],#[q,mq c1.1,c1.2,r],F,S,.all c2,u,cD v,W.mg_of X G c]
def Jx(b:Ry ck top (Om top g ms) ms=b6)(hs:shB top (Om top g ms) ms=b6)(X:(Om top g ms).In h)(G:h.Ns i5 mg):Wh P w (Om top g ms) mg base:=by
 have(d,f):=n7.mp hs;have(C,m,K,M,F,S,B,i,j,k):=Cs b d X G;have(l,s,c,n,o,S',p,a,q,r):=Cs b f X G;rw[cc]at a;show#[C,l,_,_,K,c,n,BL o S' a.1 q (λX e=>cn (by rw[e];show a.2)) c M (E2  F S i j K) B k,p,r]
def Jy(c:Ry ck top (Om top g ms) ms=b6)(X:(Om top g ms).In h)(G:h.Ns i5 mg):∀p∈ck.gl,∃val v,mg p.1≈val/\RelV v val/\∀C S H,Rep C S H p.2 v:=by
 intro p d;erw[Ry,cc]at c;have z:=lx.mp c.1.2 p d;unfold glK at z;split at z
 .rename_i i j k a b;obtain rfl:=Ŝ z;show#[_,.int i,W.mg_of X G b,#[_,rfl],λ_ _ _=>by rw[a];rfl]
 .rename_i i j k a b;obtain rfl:=Ŝ z;show#[_,.str i,W.mg_of X G b,#[_,rfl],λ_ _ _=>by rw[a];rfl]
 .cases z
abbrev gX(ck:Ck)(K:W.Frag):Bool:=ck.xc.all (λx=>match W.nsIn K i5 x with|some (bD (.ref C))=>W.excIn K C U0 "ValueError.__new__"|_=>cK)&&ck.xd.all λp=>match W.nsIn K i5 p.1,W.nsIn K i5 p.2 with
 |some (bD (.ref C)),bD (bD (.ref D))=>W.exmOne K (.ref C) (.ref D)==bD b6
 |_,_=>cK
abbrev Jz(K:W.Frag)(x:Str):Option hH:=match W.nsIn K i5 x with|some (bD (.ref C))=>bD C|_=>cb
abbrev clV(K:W.Frag)(D:Str):Option g8:=match W.nsIn K i5 D with|some (bD (.ref C))=>bD (.ref C)|some cb=>if D="ValueError" then bD (.type "ValueError") else cb|_=>cb
abbrev gY(ck:Ck)(K:W.Frag):Bool:=ck.xi.all (λp=>match Jz K p.1,clV K p.2.1 with|some C,bD a=>gG K C&&(W.kitOne K (.ref C) a==bD p.2.2)|_,_=>cK)
def zA{K}(h:Jz K x≈C):W.nsIn K i5 x≈bD (.ref C):=by
 unfold Jz at h;split at h
 .simp_all
 .cases h
def LO{K}(z:gY ck K=b6)(X:K.In h)(G:h.Ns i5 mg):vR ck K mg:=by
 intro D f;rw[gY,lx]at z;have(g,b,rfl):=f;have d:=z g b;split at d
 .rename_i l i m a;show#[i,?_,λp j e C hn=>?_]
  .unfold clV at a;split at a
   .rename_i e;cases a;show .inl #[_,rfl,W.mg_of X G e]
   .rename_i e;split at a
    .rename_i c;cases a;show .inr #[c,rfl,W.mg_none_of X G e]
    .cases a
   .cases a
  .have z1:=z p j;rw[e,a]at z1;split at z1
   .rename_i n k c o;have:=zA c;simp_all
   .cases z1
 .cases d
def JA{K}(z:gX ck K=b6)(X:K.In h)(G:h.Ns i5 mg)(a:vR ck K mg):Up ck K mg:=by
 rw[gX,cc,lx,lx]at z;show#[λx c=>?_,λp d=>?_,a]
 .have:=z.1 x c;split at this
  .rename_i e;show#[_,W.mg_of X G e,e,this]
  simp_all
 .have:=z.2 p d;split at this
  .rename_i b f;show#[_,_,W.mg_of X G b,b,W.mg_of X G f,beq_iff_eq.mp this]
  simp_all
def walk{l:W.OpenLaw}{K:Yl->W.Frag}
  (hn:l.most≈63) (o:d.params.defaults=[]) (r:cW (dp+5) WN) (A:∀w h,B w h->(K w.params).In h)
  (j:(Pg.map (·.name)).Nodup) (D:fn.ob=cb) (I:fn.io=cb) (J:fn∈Pg) (Rz:fn.name=d.name)
  (F:∀w mg fa h,(K w.params).In h->h.Ns i5 mg->mg d.name≈.ref fa ->
   (∀y∈bP,mg y=cb)/\(∀p∈ck.gl,∃val v,mg p.1≈val/\RelV v val/\∀C S H,Rep C S H p.2 v)/\((∀g∈ck.fns,∃fn∈Pg,fn.name=g/\fn.ob=cb/\fn.io=cb/\Ld ck (K w.params) mg fn b6 "")/\(∀q∈ck.obs,∃fn∈Pg,fn.name=q.1/\(∃b,fn.ob≈b)/\Ld ck (K w.params) mg fn q.2.1 q.2.2)/\Lq ck Pg (K w.params) mg)/\(∀base,Wh l.prog w (K w.params) mg base)/\Up ck (K w.params) mg /\
   ∃c st i N,QV (K w.params) fn.name c st fa i/\da N [x] (aD st)/\⇑N=fn.ns/\1=fn.np/\eB ck fn.body N (aD st) (bO st)=b6/\∀s u,Û s i #[[u],[]] [(x,u)])
  (T:∀ns,⇑ns<=63->N2 Pg (dp+1) fn.name [Fz ns]≈.ok (.loc,.bl b6)) :
  W.WalkO q k XP B l.row.toRowW d [] (λf vs=>PySem.call f vs) :=
 L2.DZ    (CX:=λw=>Pw l.prog w)  hn ⋯ o r A
  (λw mg fa h L G O=>by
   have(e,m,(ld,lo,hi),n,xs,c,st,i,N,Q,S,Y,Pz,hc,hb):=F w mg fa h L G O;show#[i,hb,λbase _ _=>GH Q S Y Pz hc e (xP j hi e m ld lo (n base) xs dp).1 m (xP j hi e m ld lo (n base) xs dp).2 xs])
  (λw H a ns hl _ hS=>by
   have t:=T ns hl;rw[q_ j J,pI D I]at t;have QQ:=(qZ t).1.symm;show#[QQ.symm,_,_,_,t,λ_ z=>z,#[_,_,rfl,vX hS,rfl],.inr (.inl rfl),λv H' S' b=>b.loc rfl])
  λ_ _ _ _ _ ⟨_,_,_,_,_,_,z⟩=>z
def walk2{l:W.OpenLaw}{g:Yl->Gx}
  (hn:l.most≈63) (z:d.params.defaults=[]) (A:cW (dp+5) WN) (o:ms.map (·.fn)=Pg) (B:(Pg.map (·.name)).Nodup) (i:ckM ck ms=b6) (C:m.fn.ob=cb) (D:m.fn.io=cb) (p:m∈ms) (r:m.fn.name=d.name) (t:m.x=m.fn.name) (H:m.N.take m.fn.np=[x])
  (ok:∀P,Ry ck top (Om top (g P) ms) ms=b6) (I:∀P,((gX ck (Om top (g P) ms)&&gY ck (Om top (g P) ms))&&shB top (Om top (g P) ms) ms)=b6) (J:∀P,(g P).2.map (·.1)=xa) (T:∀ns,⇑ns<=63->N2 Pg (dp+1) m.fn.name [Fz ns]≈.ok (.loc,.bl b6)) :
  W.WalkO q j O (W.kHook (λP=>Om top (g P) ms) (adr ms xa) λP=>xR top (g P) ms xa (J P)).says l.row.toRowW d [] (λf vs=>PySem.call f vs) :=
 walk hn z A (λw h Y=>W.kIn_of Y) B C D (o▸j0.mpr #[m,p,rfl]) r (λw mg fa h X G v=>by
  have hk:=ok w.params;have hz:=n7.mp (I w.params);have(a,b,c,e,f,k,n):=Cq hk p;rw[ř t]at b;rw[<-r,W.mg_of X G (mq b)]at v;cases v;rw[H]at c e k;rw[t]at a;show#[λy L=>W.mg_none_of X G (GI ?_),Jy hk X G,o▸Jw hk i X G,λbase=>Jx hk hz.2 X G,JA (n7.mp hz.1).1 X G (LO (n7.mp hz.1).2 X G),_,_,_,_,a,e,f,k,by have:=n.1;rw[show m.fn.bd=m.fn.body by unfold Fn.bd;simp_all]at this;lia,λs u=>.of_eq (c [u] rfl)];erw[Ry,cc]at hk;show lx.mp hk.1.1.2 y L) T
end TM
namespace TM
open PySem L2
@[reducible]noncomputable def oL(xs:↑U):Kd×U:=(Kd.own,U.lst xs)
@[reducible]noncomputable def lI(i:Int):Kd×U:=(Kd.loc,U.int i)
@[reducible]noncomputable def zS(x:Str):Kd×U:=(Kd.loc,U.str x)
@[reducible]noncomputable def lT(xs:↑U):Kd×U:=(Kd.loc,U.tup xs)
@[reducible]noncomputable def aL(xs:↑U):Kd×U:=(Kd.any,U.lst xs)
@[reducible]noncomputable def bL(b:Bool):Kd×U:=(Kd.loc,U.bl b)
@[reducible]noncomputable def Sl:=Option (Kd×U)
@[reducible]noncomputable def cI(i:Int):E:=E.cst (U.int i)
@[reducible]noncomputable def cO:E:=cI 0
@[reducible]noncomputable def cA:E:=cI 1
@[reducible]noncomputable def cQ(x:Str):E:=E.cst (U.str x)
@[reducible]noncomputable def Np:E:=E.var 0
@[reducible]noncomputable def NA:E:=E.var 1
@[reducible]noncomputable def NH:E:=E.var 2
@[reducible]noncomputable def ND:E:=E.var 3
@[reducible]noncomputable def N9:E:=E.var 4
@[reducible]noncomputable def Oi:E:=E.var 5
abbrev Run(m:M α)(st:au)(a:α)(st':au):Prop:=m st≈(.ok a,st')
def ae(c:Run m st a st1)(d:Run (f a) st1 b st2):Run (m >>= f) st b st2:=by
 change M.bind m f st=_;unfold M.bind;rw[c];show d
def aK:Run (pure a:M α) st a st:=rfl
def c7(h:o≈a):Run (M.NV o) st a st:=by subst h;rfl
def bc(h:bg rs st):Run (az rs) st () st:=by change az rs st=_;unfold az;simp_all
abbrev kv(i:Nat)(k:Kd):Kd:=if k.root=b6 then .bor i else k
def ig(h:st[i]?≈bD (k,u))(hk:k≠.A':=by intro z;cases z):Run (dG i) st (kv i k,u) st:=by
 change dG i st=_;unfold dG;rw[h];cases k<;>first|rfl|show absurd rfl hk
def af(h:st[i]?≈bD (.loc,u)):Run (ev Γ (.var i)) st (.loc,u) st:=ig h
def aB(h:st[i]?≈bD (.any,u)):Run (ev Γ (.var i)) st (.any,u) st:=ig h
def aC(h:st[i]?≈bD (.own,u)):Run (ev Γ (.var i)) st (.bor i,u) st:=ig h
def ak:Run (ev Γ (.cst u)) st (.loc,u) st:=rfl
def ly:Run (ev Γ (.PF x u)) st (.loc,u) st:=rfl
def bu(c:Run (ev Γ a) st x st1)(d:Run (ev Γ b) st1 y st2)(e:bg [x,y] st2)(f:P8 op x y≈r):Run (ev Γ (.bin op a b)) st r st2 :=
 ae c (ae d (ae (bc e) (c7 f)))
def lz(d:Run (ev Γ a) st x st1)(e:Run (ev Γ b) st1 y st2)(f:bg [x,y] st2)(g:bN op x.2 y.2≈c):Run (ev Γ (.cmp op a b)) st (bL c) st2 :=
 ae d (ae e (ae (bc f) (ae (c7 g) aK)))
def aV(c:Run (ev Γ a) st x st1)(d:Run (ev Γ b) st1 y st2)(e:bg [x,y] st2)(f:lV x y.2≈r):Run (ev Γ (.idx a b)) st r st2 :=
 ae c (ae d (ae (bc e) (c7 f)))
def lA:Run (Uc Γ []) st cb st:=rfl
def lC(h:Run (ev Γ e) st (k,.int i) st1):Run (Uc Γ [e]) st (bD i) st1:=ae h rfl
def lD(c:Run (ev Γ a) st x st1)(d:Run (Uc Γ lo) st1 l st2)(e:Run (Uc Γ hi) st2 h b)(f:bg [x] b)(g:jQ x l h≈r):Run (ev Γ (.Ph a lo hi)) st r b :=
 ae c (ae d (ae e (ae (bc f) (c7 g))))
def ah:Run (bG Γ []) st [] st:=rfl
def aa(a:Run (ev Γ e) st r st1)(b:Run (bG Γ es) st1 rs st2):Run (bG Γ (e::es)) st (r::rs) st2:=ae a (ae b aK)
def dW(a:Run (bG Γ es) st rs st1)(b:bg rs st1)(c:PV f rs≈r):Run (ev Γ (.bi f es)) st r st1:=ae a (ae (bc b) (c7 c))
def Cu(a:Run (bG Γ es) st rs st1)(b:bg rs st1)(c:vt f rs≈r):Run (ev Γ (.Rk f es)) st r st1:=ae a (ae (bc b) (c7 c))
def fL(h0:Run (ev Γ a) st x st1)(b:Run (bG Γ es) st1 rs st2)(c:bg (x::rs) st2)(d:jR m x.2 rs≈r):Run (ev Γ (.OS m a es)) st r st2:=ae h0 (ae b (ae (bc c) (c7 d)))
def rf(h:Γ f us≈.ok r)(a:isAny r.1=cK):Run (i_ Γ f us) st r st:=by
 have(k,u):=r;unfold i_;rw[h];cases k<;>first|rfl|cases a
def aG(a:Run (bG Γ es) st rs st1)(b:bg rs st1)(c:Γ f (rs.map (·.2))≈.ok r)(d:isAny r.1=cK:=by show rfl):Run (ev Γ (.call f es)) st r st1:=ae a (ae (bc b) (rf c d))
def dy(a:Run (bG Γ es) st rs st1)(b:bg rs st1)(c:Run (cj rs) st1 us st2)(d:⇑us<=c8):Run (ev Γ (.tup es)) st (lT us) st2:=by
 show ae a (ae (bc b) (ae c ?_));rw[ř d];rfl
def dX(a:Run (bG Γ es) st rs st1)(b:bg rs st1)(c:Run (cj rs) st1 us st2)(d:⇑us<=c8):Run (ev Γ (.lst es)) st (oL us) st2:=by
 show ae a (ae (bc b) (ae c ?_));rw[ř d];rfl
def vY:Run (ev Γ (.PN r)) st (.own,.Nu [] []) st:=rfl
def xS:Run (lift (.own,u)) st u st:=rfl
def aH:Run (lift (.loc,u)) st u st:=rfl
def nV(h:NT u=b6):Run (lift (.any,u)) st u st:=by
 change(if NT u=b6 then pure u else M.fail) st=_;rw[ř h];rfl
def aP:Run (cj []) st [] st:=rfl
def aA(a:Run (lift r) st u st1)(b:Run (cj rs) st1 us st2):Run (cj (r::rs)) st (u::us) st2:=ae a (ae b aK)
def vZ(h:Run (ev Γ e) st r st1):Run (jT Γ [e]) st r st1:=h
def JB(h:Run (ev Γ e) st (k,.bl p) st1)(a:if p=b6 then Run (jT Γ (b::es)) st1 r st2 else st2=st1/\r=(bL cK)):Run (jT Γ (e::b::es)) st r st2:=by
 show ae h ?_;cases p with
 |true=>show a
 |false=>have(rfl,rfl):=a;show aK
def Cv(h:Run (jT Γ es) st r st1):Run (ev Γ (.and es)) st r st1:=h
def aN(d:Run (ev Γ a) st x st1)(e:Run (ev Γ b) st1 y st2)(f:bg [x,y] st2)(g:bN op x.2 y.2≈c):Run (NJ Γ (.cmp op a b)) st c st2:=ae d (ae e (ae (bc f) (c7 g)))
def tI(h:Run (NJ Γ a) st c st1):Run (NJ Γ (.not a)) st (!c) st1:=ae h aK
def je(h:Run (aT Γ es) st c st1):Run (NJ Γ (.and es)) st c st1:=h
def rg(h:Run (gT Γ es) st c st1):Run (NJ Γ (.or es)) st c st1:=h
def fM:Run (aT Γ []) st b6 st:=rfl
def cU(h:Run (NJ Γ e) st c st1):Run (aT Γ [e]) st c st1:=h
def v5(h:Run (NJ Γ e) st b6 st1)(a:Run (aT Γ (b::es)) st1 c st2):Run (aT Γ (e::b::es)) st c st2:=ae h a
def Cw(h:Run (NJ Γ e) st cK st1):Run (aT Γ (e::a::es)) st cK st1:=ae h aK
def j7(h:Run (NJ Γ e) st c st1):Run (gT Γ [e]) st c st1:=h
def LP(h:Run (NJ Γ e) st b6 st1):Run (gT Γ (e::a::es)) st b6 st1:=ae h aK
def xT(h:Run (NJ Γ e) st cK st1)(a:Run (gT Γ (b::es)) st1 c st2):Run (gT Γ (e::b::es)) st c st2:=ae h a
def bo:Run (eX i (.own,u)) st () (st.set i (bD (.own,u))):=rfl
def aR:Run (eX i (.loc,u)) st () (st.set i (bD (.loc,u))):=rfl
def nW:Run (eX i (.any,u)) st () (st.set i (bD (.any,u))):=rfl
def LQ(a:Run (ev Γ e) st r st1)(b:Run (eX i r) st1 () st2):Run (exec Γ (.set i e)) st .nx st2:=ae a (ae b aK)
def LR(h0:∃k' b,st[i]?≈bD (k',.lst b)/\k'≠.A')(c:Run (ev Γ e) st r st1)(d:Run (lift r) st1 u st2)(f:st2[i]?≈bD (k,.lst us))(hk:k.root=b6)(hl:⇑us<c8):
  Run (exec Γ (.app i e)) st .nx (st2.set i (bD (k,.lst (us++[u])))):=by
 have(k',b,h0,hn):=h0;show ae (ig h0 hn) (ae   rfl (ae c (ae d (ae (a:=()) ?_ aK))));change modS i _ st2=_;unfold modS;rw[f];erw[hk,if_true];have e:Eo u (.lst us)≈.lst (us++[u]):=by change(if ⇑us<c8 then _ else _)=_;simp_all
 rw[e]
def LU(a:Run (ev Γ e) st r st1)(b:Run (retS r) st1 f st2):Run (exec Γ (.ret e)) st f st2:=ae a b
def j8:Run (retS (.own,u)) st (.rt .own u) st:=rfl
def bh:Run (retS (.loc,u)) st (.rt .loc u) st:=rfl
def GJ(h:NT u=b6):Run (retS (.any,u)) st (.rt .loc u) st:=by
 change(if NT u=b6 then(pure _:M Fl) else pure _) st=_;rw[ř h];rfl
def tJ(h:st[j]?≈bD (.own,u)):Run (retS (.bor j,u0)) st (.rt .own u) (st.set j cb):=by
 change(match st[j]? with|some (bD (.own,u))=>bD _|_=>cb)=_;rw[h]
def rh(d:Run (NJ Γ c) st b6 st1)(e:Run (execs Γ a) st1 f st2):Run (exec Γ (.ite c a b)) st f st2:=ae d e
def v7(d:Run (NJ Γ c) st cK st1)(e:Run (execs Γ b) st1 f st2):Run (exec Γ (.ite c a b)) st f st2:=ae d e
def bB:Run (execs Γ []) st .nx st:=rfl
def e_(a:Run (exec Γ s) st .nx st1)(b:Run (execs Γ ss) st1 f st2):Run (execs Γ (s::ss)) st f st2:=ae a b
def v8(a:Run (exec Γ s) st (.rt k u) st1):Run (execs Γ (s::ss)) st (.rt k u) st1:=ae a aK
def aw(a:Run (ev Γ e) st r st1)(b:Run (eX i r) st1 () st2)(c:Run (execs Γ ss) st2 f d):Run (execs Γ (.set i e::ss)) st f d:=e_ (LQ a b) c
def tK(h0:st[i]?≈bD (k',.lst h))(a:Run (ev Γ e) st r st1)(b:Run (lift r) st1 u st2)(c:st2[i]?≈bD (k,.lst us))(hk:k.root=b6)(hl:⇑us<c8)
  (d:Run (execs Γ ss) (st2.set i (bD (k,.lst (us++[u])))) f g) (hn:k'≠.A':=by intro z;cases z):Run (execs Γ (.app i e::ss)) st f g:=e_ (LR #[_,_,h0,hn] a b c hk hl) d
def aS(a:Run (ev Γ e) st r st1)(b:Run (retS r) st1 (.rt k u) st2):Run (execs Γ (.ret e::ss)) st (.rt k u) st2:=v8 (LU a b)
def jt(d:Run (NJ Γ c) st b6 st1)(e:Run (execs Γ a) st1 .nx st2)(g:Run (execs Γ ss) st2 f h):Run (execs Γ (.ite c a b::ss)) st f h:=e_ (rh d e) g
def d_(d:Run (NJ Γ c) st cK st1)(e:Run (execs Γ b) st1 .nx st2)(g:Run (execs Γ ss) st2 f h):Run (execs Γ (.ite c a b::ss)) st f h:=e_ (v7 d e) g
def kK(d:Run (NJ Γ c) st b6 st1)(e:Run (execs Γ a) st1 (.rt k u) st2):Run (execs Γ (.ite c a b::ss)) st (.rt k u) st2:=v8 (rh d e)
def LV(a:Run (bG Γ src) st rs st1)(b:bg rs st1)(c:PX d rs≈xs)(e:xp rs is body=b6)(g:Run (forM t is (execs Γ body) rs xs) st1 f st2):
  Run (exec Γ (.Ob t is d src body)) st f st2:=by
 show ae a (ae (bc b) (ae (c7 c) ?_));rw[ř e];show g
def ij(a:Run (bG Γ src) st rs st1)(b:bg rs st1)(c:PX d rs≈xs)(e:xp rs is body=b6)(g:Run (forM t is (execs Γ body) rs xs) st1 .nx st2)(h:Run (execs Γ ss) st2 f i):
  Run (execs Γ (.Ob t is d src body::ss)) st f i:=e_ (LV a b c e g) h
def GK(h:bg rs st):Run (forM t is body rs []) st .nx st:=ae (bc h) aK
def LW(h:bg rs st)(a:Run (d8 t is x) st () st1)(b:Run body st1 .nx st2)(c:Run (forM t is body rs xs) st2 f d):Run (forM t is body rs (x::xs)) st f d:=ae (bc h) (ae a (ae b c))
theorem xU(I:↑(Kd×U)->au->Prop)(hs:∀xs st,I xs st->bg rs st)(ï:∀x xs st,I (x::xs) st->∃st1 st2,Run (d8 t is x) st () st1/\Run body st1 .nx st2/\I xs st2):
  ∀xs st,I xs st->∃st',Run (forM t is body rs xs) st .nx st'/\I [] st'
 |[],st,h=>#[st,GK (hs _ _ h),h]
 |x::xs,st,h=>by
  have(s1,a,b,c,d):=ï x xs st h;have(e,f,g):=xU I hs ï xs a d;show#[e,LW (hs _ _ h) b c f,g]
def ip(h:Run (eX i r) st () st1):Run (d8 cK [i] r) st () st1:=h
def ay(hn:⇑us=fn.np)(hk:k=.own\/k=.loc)(hs:start us fn.ns=st0)(h:Run (execs Γ fn.body) st0 (.rt k u) st):bJ Γ fn us≈.ok (k,u):=by
 subst hs;unfold bJ;rw[ř hn,h];rcases hk with rfl|rfl<;>rfl
def tL{cond}(h:bg src st):Run (cm k t cond elt src [] a) st a st:=ae (bc h) aK
def nX{cond}(h:bg src st)(e:Run (d8 t (ib k) x) (kb k cb++st) () s1)(f:Run cond s1 b6 g)(i:Run elt g r j)(l:Run (lift r) j u d)
  (hl:⇑c<c8) (n:Run (cm k t cond elt src xs (c++[u])) (d.drop k) us st2):Run (cm k t cond elt src (x::xs) c) st us st2:=by
 show ae (bc h) (ae (a:=bD u) (st1:=d.drop k) ?_ ?_)
 .change inScope k _ st=_;unfold inScope;have m:Run (d8 t _ x >>= λ_=>cond >>= λb=>if b=b6 then(elt >>= λr=>lift r >>= λu=>pure (bD u)) else pure cb) _ _ d :=
   ae e (ae f (ae i (ae  l rfl)))
  rw[m]
 simp_all
def v9{cond}(h:bg src st)(e:Run (d8 t (ib k) x) (kb k cb++st) () s1)(f:Run cond s1 cK d)
  (g:Run (cm k t cond elt src xs c) (d.drop k) us st2):Run (cm k t cond elt src (x::xs) c) st us st2:=by
 show ae (bc h) (ae (a:=cb)  ?_ g);change inScope k _ st=_;unfold inScope;have i:Run (d8 t _ x >>= λ_=>cond >>= λb=>if b=b6 then(elt >>= λr=>lift r >>= λu=>pure (bD u)) else pure cb) _ cb d :=
  ae e (ae f (rfl))
 rw[i]
def bY{src cond}(a:Run (bG Γ src) st rs st1)(b:bg rs st1)(c:PX d rs≈xs)(f:Run (cm k t (aT Γ cond) (ev Γ e) rs xs []) st1 us st2):Run (ev Γ (.comp k t d src cond e)) st (oL us) st2 :=
 ae a (ae (bc b) (ae (c7 c) (ae f aK)))
theorem Cy{cond}(h:bg src st)(g)(b:Kd×U->Kd):∀xs a,⇑a+⇑xs<=c8 ->
  (∀x∈xs,x.1=.loc\/x.1=.any)->(∀x∈xs,Run cond (bD x::st) b6 (bD x::st)/\Run elt (bD x::st) (b x,g x) (bD x::st)/\Run (lift (b x,g x)) (bD x::st) (g x) (bD x::st))->Run (cm 1 cK cond elt src xs a) st (a++xs.map g) st
 |[],a,_,_,_=>by rw[Q1,tP];show tL h
 |x::xs,a,hl,hk,d=>by
  have(e,f,i):=d x ⋯;rw[k9]at hl;show nX     h ?_ e f i ⋯ ?_
  .have(k,u):=x;rcases hk _ (il ..) with z|z<;>(cases z;rfl)
  .have:=Cy h g b xs (a++[g x]) (by grind) (λy c=>hk y (by simp[c])) λy c=>d y (by simp[c]);simp_all
theorem nY{cond}(h:bg src st)(p)(g)(c:Kd×U->Kd):∀xs a,⇑a+⇑xs<=c8 ->
  (∀x∈xs,x.1=.loc\/x.1=.any)->(∀x∈xs,Run cond (bD x::st) (p x) (bD x::st)/\Run elt (bD x::st) (c x,g x) (bD x::st)/\Run (lift (c x,g x)) (bD x::st) (g x) (bD x::st))->Run (cm 1 cK cond elt src xs a) st (a++(xs.filter p).map g) st
 |[],a,_,_,_=>by rw[Yz,Q1,tP];show tL h
 |x::xs,a,hl,hk,e=>by
  have(d,j,l):=e x ⋯;rw[k9]at hl;have f:Run (d8 cK (ib 1) x) (kb 1 cb++st) () (bD x::st):=by
   have(k,u):=x;rcases hk _ (il ..) with z|z<;>(cases z;rfl)
  cases i:p x with
  |true =>
   rw[i]at d;show nX     h f d j l ⋯ ?_;have:=nY h p g c xs (a++[g x]) (by grind) (λy b=>hk y (by simp[b])) λy b=>e y (by simp[b]);simp_all
  |false =>
   rw[i]at d;show v9   h f d ?_;have:=nY h p g c xs a ⋯ (λy b=>hk y (by simp[b])) λy b=>e y (by simp[b]);simp_all
def LX(h:st[i]?≈bD (k,.lst us))(hk:k.root=b6)(a:us[⇑us - 1]?≈u):Run (ev Γ (.pop i)) st (.loc,u) (st.set i (bD (k,.lst us.dropLast))):=by
 change Ba i st=_;unfold Ba;simp_all
abbrev NQ(Pg:↑Fn)(f:Str)(fn:Fn):Prop:=(Pg.find? λg=>df (g.name=f))≈fn
def xV(h:NQ Pg f fn)(us):N2 Pg (d+1) f us=iS (N2 Pg d) fn us:=by
 change(match Pg.find? λg=>decide _ with|some fn=>iS _ fn us|none=>cb)=_;rw[h]
def ax(h:NQ Pg f fn)(us)(a:fn.io=cb:=by rfl)(b:fn.ob=cb:=by rfl):N2 Pg (d+1) f us=bJ (N2 Pg d) fn us:=by
 rw[xV h];unfold iS;rw[b,a]
def br(h:NQ Pg f fn)(us)(a:fn.ob≈b):N2 Pg (d+1) f us=eY (N2 Pg d) fn b us:=by
 rw[xV h];unfold iS;rw[a]
def cp(h:0<j):P8 .mod (k,.int i) (k',.int j)≈lI (i % j):=by change(Ee i j).map _=_;rw[Ee,ř h];rfl
def Cz(h:0<j/\j<1073741824):P8 .Qh (k,.int i) (k',.int j)≈lI (i / j):=by change(Ed i j).map _=_;rw[Ed,ř h];rfl
def p_(h:(-(2 ^ 64)<i/\i<2 ^ 64)\/(-(2 ^ 64)<j/\j<2 ^ 64)):P8 .mul (k,.int i) (k',.int j)≈lI (i * j):=by change(Ec i j).map _=_;rw[Ec,ř h];rfl
def qa(h:0<=j/\j<=1000000/\i.natAbs<2 ^ 64):P8 .pow (k,.int i) (k',.int j)≈lI (i ^ j.toNat):=by change(Ef i j).map _=_;rw[Ef,ř h];rfl
def d5:P8 .add (k,.int i) (k',.int j)≈lI (i+j):=rfl
def aJ(h:N_ xs i≈u):lV (k,.lst xs) (.int i)≈(kE k,u):=by change(N_ xs i).map _=_;rw[h];rfl
def kn(h:N_ xs i≈u):lV (k,.tup xs) (.int i)≈(kE k,u):=by change(N_ xs i).map _=_;rw[h];rfl
def xW:Kd.own≠Kd.A':=⋯
local macro_rules
 |`(tactic| sizeOf_list_dec)=>`(tactic| first|exact bB|apply aw|apply tK|apply aS|exact ak|exact af rfl|exact aB rfl|exact aC rfl|apply bu|apply lz|apply aV|apply dW|apply aG|apply fL|apply aN|exact ah|apply aa|apply dy|apply dX|exact aP|apply aA|exact aH|exact xS|(first|exact trivial|exact⟨⟨_,rfl,rfl⟩,trivial⟩|exact#[#[_,rfl,rfl],#[_,rfl,rfl],trivial])|exact d5|exact uE|exact cp (by first|lia|decide)|exact Cz (by first|lia|decide)|exact p_ (by first|lia|decide)|exact qa (by decide)|exact aR|exact bo|exact nW|exact bh|exact j8|exact tJ rfl|exact kj _|exact rfl|exact xW)
abbrev v_(c k:Int):Int:=((c % 10 ^ 15+1) * 48271+k * k * 16807+k * 7919) % 2147483647 * 69621 % 2147483629
abbrev zB:Fn:=#["_law_mix",2,3,[.set 2 (.bin .add (.bin .add (.bin .mul (.bin .add (.bin .mod Np (.bin .pow (cI 10) (cI 15))) cA) (cI 48271)) (.bin .mul (.bin .mul NA NA) (cI 16807))) (.bin .mul NA (cI 7919))),.ret (.bin .mod (.bin .mul (.bin .mod NH (cI 2147483647)) (cI 69621)) (cI 2147483629))]]
def FA(h0:0<=k)(a:k<2 ^ 63):bJ Γ zB [.int c,.int k]≈.ok (lI (v_ c k)):=by
 apply ay  rfl (.inr rfl) rfl
 repeat' sizeOf_list_dec
abbrev xX:Fn:=#["_law_cell",2,3,[.ite (.cmp .lt NA (.bi .len [Np])) [.ret (.idx Np NA)] [],.set 2 cO,.ite (.cmp .gt (.bi .len [Np]) cO) [.set 2 (.idx Np (.bin .mod NA (.bi .len [Np])))] [],.ret (.bin .add (.bin .mul (cI 2) (.call "_law_mix" [NH,NA])) cA)]]
abbrev CA(Γ:Tab):Prop:=∀c k:Int,0<=k->k<2 ^ 63->Γ "_law_mix" [.int c,.int k]≈.ok (lI (v_ c k))
def nZ(h:df (i<j)=c):bN .lt (.int i) (.int j)≈c:=by subst h;rfl
def j9(h:df (j<i)=c):bN .gt (.int i) (.int j)≈c:=by subst h;rfl
def gm(h:(i==j)=c):bN .eq (.int i) (.int j)≈c:=by subst h;rfl
def mw:PV .len [(k,.lst xs)]≈lI (⇑xs:Nat):=rfl
def j_:PV .len [(k,.tup xs)]≈lI (⇑xs:Nat):=rfl
abbrev GL(ns:↑Int)(k:Nat):Int:=if k<⇑ns then(ns[k]?).getD 0 else 2 * v_ ((ns[k % ⇑ns]?).getD 0) k+1
def CB(f:CA Γ){k:Nat}(hk:k<2 ^ 62):bJ Γ xX [.lst (ns.map .int),.int k]≈.ok (lI (GL ns k)):=by
 have b:∀c,Γ "_law_mix" [.int c,.int k]≈.ok (lI (v_ c k)):=λc=>f c k ⋯ ⋯;unfold GL;by_cases h:k<⇑ns
 .rw[ř h];have a:N_ (ns.map U.int) (k:Int)≈.int ((ns[k]?).getD 0):=bM (by simp[h]);apply ay (st0:=[bD (aL (ns.map .int)),bD (lI k),cb]) rfl (.inr rfl) rfl;apply kK
  all_goals repeat' (first|show nZ (by simp[h])|show aJ a|show GJ rfl|sizeOf_list_dec)
 .rw[Ś h];have d:bN .lt (.int k) (.int (⇑(ns.map U.int):Nat))≈cK:=nZ ⋯;by_cases hz:0<⇑ns
  .have hi:k % ⇑ns<⇑ns:=ŗ _ hz;have a:N_ (ns.map U.int) ((k:Int) % (⇑(ns.map U.int):Nat))≈.int ((ns[k % ⇑ns]?).getD 0):=by
    show bM (by simp[hi])
   have g:(0:Int)<(⇑(ns.map U.int):Nat):=⋯
   apply ay (st0:=[bD (aL (ns.map .int)),bD (lI k),cb]) rfl (.inr rfl) rfl;apply d_
   all_goals repeat' (first|show d|sizeOf_list_dec)
   apply jt
   all_goals repeat' (first|show j9 ⋯|show cp g|show aJ a|show b _|sizeOf_list_dec)
  .have e:ns=[]:=TR ⋯;subst e;apply ay (st0:=[bD (aL ([].map .int)),bD (lI k),cb]) rfl (.inr rfl) rfl;apply d_
   all_goals repeat' (first|show d|sizeOf_list_dec)
   apply d_
   all_goals repeat' (first|show b _|sizeOf_list_dec)
abbrev rj:Fn:=#["_law_drawn",2,5,[.set 2 (.lst []),.set 3 (.bin .Qh Np (cI 2)),.Ob cK [4] .Of [NA] [.ite (.cmp .eq (.bin .mod Np (cI 2)) cO) [.app 2 (.bin .mod ND (cI 64)),.set 3 (.bin .Qh ND (cI 64))] [.app 2 (.bin .mod (.bin .Qh (.call "_law_mix" [Np,N9]) (cI 7)) (cI 4096))]],.ret NH]]
def tM(x):PX .Of [x]=A9 x:=rfl
def wa(h:n<2 ^ 62):PX .Of [(k,.int (n:Nat))]≈((ib n).map λi:Nat=>(lI (0+(i:Int)))):=by
 rw[tM,A9,ř ⋯,Sq]
abbrev iq(n:Nat)(xs:↑(Kd×U)):Prop:=∃i,i<=n/\xs=((ib n).drop i).map λi:Nat=>(lI (0+(i:Int)))
def iq.cons(h:iq n (x::xs)):∃i,i<n/\x=(lI (i:Nat))/\iq n xs/\i+⇑xs+1=n:=by
 have(i,hi,e):=h;by_cases a:i<n
 .rw[UI (by exists a)]at e;cases e;show#[i,a,by simp,#[_,a,rfl],by simp;lia]
 .rw[List.drop_eq_nil_of_le (by grind)]at e;cases e
def iq.all(n):iq n ((ib n).map λi:Nat=>(lI (0+(i:Int)))):=#[0,kj _,rfl]
def zC(p:CA Γ)(hn:n<1000):∃ds:↑Int,⇑ds=n/\(∀d∈ds,0<=d)/\bJ Γ rj [.int c,.int n]≈.ok (oL (ds.map .int)):=by
 have hsz:(1000:Nat)<=c8:=⋯
 let I:↑(Kd×U)->au->Prop:=λxs st=>∃(ds:↑Int) (us:↑U) (left:Int) (o:Sl),st=[bD (lI c),bD (lI n),bD (oL us),bD (lI left),o]/\us=ds.map .int/\(∀d∈ds,0<=d)/\⇑ds+⇑xs=n/\iq n xs;have a:=xU (t:=cK) (is:=[4]) (body:=execs Γ [.ite (.cmp .eq (.bin .mod Np (cI 2)) cO)
    [.app 2 (.bin .mod ND (cI 64)),
    .set 3 (.bin .Qh ND (cI 64))]
    [.app 2 (.bin .mod (.bin .Qh (.call "_law_mix" [Np,N9]) (cI 7)) (cI 4096))]]) (rs:=[(lI n)]) I (λ_ _ _=>ttt) (λx xs st q=>by
  have(ds,us,left,o,e,b,h0,hl,r):=q;subst e;have f:⇑us=⇑ds:=by rw[b];simp
  have(i,hi,rfl,j,l):=r.cons;have s:Γ "_law_mix" [.int c,.int i]≈.ok (lI (v_ c i)):=p c i ⋯ ⋯;rw[k9]at hl;by_cases m:c % 2=0
  .show#[[bD (lI c),bD (lI n),bD (oL us),bD (lI left),bD (lI i)],[bD (lI c),bD (lI n),bD (oL (us++[.int (left % 64)])),bD (lI (left / 64)),bD (lI i)],aR,?_,#[ds++[left % 64],_,left / 64,_,rfl,by simp[b],?_,by simp;lia,j]]
   .apply jt
    all_goals repeat' (first|show gm (by simp[m])|show(by rw[f];lia)|sizeOf_list_dec)
   .intro d g;rcases i7.mp g with z|z
    .show h0 d z
    .rw[kr.mp z];lia
  .show#[[bD (lI c),bD (lI n),bD (oL us),bD (lI left),bD (lI i)],[bD (lI c),bD (lI n),bD (oL (us++[.int (v_ c i / 7 % 4096)])),bD (lI left),bD (lI i)],aR,?_,#[ds++[v_ c i / 7 % 4096],_,left,_,rfl,by simp[b],?_,by simp;lia,j]]
   .apply d_
    all_goals repeat' (first|show gm (by simp[m])|show s|show(by rw[f];lia)|sizeOf_list_dec)
   .intro d g;rcases i7.mp g with z|z
    .show h0 d z
    .rw[kr.mp z];lia)
 have(st',u,ds,us,left,o,e,b,h0,hl,_):=a ((ib n).map λi:Nat=>(lI (0+(i:Int)))) [bD (lI c),bD (lI n),bD (oL []),bD (lI (c / 2)),cb] ⟨[],[],c / 2,cb,rfl,rfl,by simp,by simp,iq.all n⟩;subst e b;show#[ds,by simpa using hl,h0,?_];apply ay (st0:=[bD (lI c),bD (lI n),cb,cb,cb]) rfl (.inl rfl) rfl
 repeat' sizeOf_list_dec
 have h:=wa (k:=.loc) (n:=n) ⋯;refine' ij (rs:=[(lI n)]) (st1:=[bD (lI c),bD (lI n),bD (oL []),bD (lI (c / 2)),cb]) _ ttt h rfl u _
 all_goals repeat' sizeOf_list_dec
end TM
local macro_rules
 |`(tactic| sizeOf_list_dec)=>`(tactic| first|exact TM.bB|apply TM.aw|apply TM.tK|apply TM.aS|exact TM.ak|exact TM.af rfl|exact TM.aB rfl|exact TM.aC rfl|apply TM.bu|apply TM.lz|apply TM.aV|apply TM.dW|apply TM.aG|apply TM.fL|apply TM.aN|exact TM.ah|apply TM.aa|apply TM.dy|apply TM.dX|exact TM.aP|apply TM.aA|exact TM.aH|exact TM.xS|(first|exact trivial|exact⟨⟨_,rfl,rfl⟩,trivial⟩|exact#[#[_,rfl,rfl],#[_,rfl,rfl],trivial])|exact TM.d5|exact TM.uE|exact TM.cp (by first|lia|decide)|exact TM.Cz (by first|lia|decide)|exact TM.p_ (by first|lia|decide)|exact TM.qa (by decide)|exact TM.aR|exact TM.bo|exact TM.nW|exact TM.bh|exact TM.j8|exact TM.tJ rfl|exact kj _|exact rfl|exact TM.xW)
namespace NR
open PySem L2
abbrev bC(l:↑Nat):Prop:=cS l=b6\/∃a b k,l=a++47::b/\cS a=b6/\2<=k/\k<=99/\(~~~(qp k))=b
def len_list(x:Str):⇑x=⇑x.cps.toList:=by rfl
def pK(h0:0<=k)(a:k<=99):⇑(qp k)<=2:=by
 have(m,rfl):=VC h0;have b:m<100:=⋯
 clear h0 a;revert m;decide +kernel
def bC.len(h:bC l):1<=⇑l/\⇑l<=11:=by
 rcases h with h|⟨a,b,k,rfl,h,e,c,d⟩
 .have:=(cN l).mp h;lia
 .have:=(cN a).mp h;have hl:=pK  ⋯ c;rw[len_list,d]at hl;simp;lia
def bC.Nh(h:bC (~~~x)):∃y r,G' x Gk=y::r/\cS (~~~y)=b6:=by
 rcases h with h|⟨a,b,k,e,h,_⟩
 .show#[x,[],uV (jH h),h]
 .have(r,c):=AH e (jH h) ⋯;show#[_,r,c,⋯]
theorem gH:∀(ps:↑Str) a,(ps.foldl (λa p=>a++nH.cps++p.cps) a).toList=a.toList++(ps.map λp=>(~~~p)).flatten
 |[],a=>by simp
 |p::ps,a=>by
  rw[Yy,gH ps];have:nH.cps=#v[]:=rfl;simp[this]
def join_list(ts):(~~~(ri nH ts))=(ts.map λp=>(~~~p)).flatten:=by
 cases ts with
 |nil=>rfl
 |cons t ts =>
  change(ts.foldl _ t.cps).toList=_;rw[gH];simp
abbrev one(c:Nat):Str:=#[#v[c]]
def join_ones(a):(~~~(ri nH (a.map one)))=a:=by
 rw[join_list,i8];induction a with
 |nil=>rfl
 |cons c a b=>rw[i6,ã,b];rfl
def tQ(a:↑Nat)(h:⇑a<=100):Vn nH (a.map one)=b6:=by
 unfold Vn;have e:=PySem.StrLaws.joinTotal nH (a.map one);have b:⇑nH=0:=rfl;have es:((a.map one).map (·.length)).sum=⇑a:=by
  rw[i8];clear h e;induction a with
  |nil=>rfl
  |cons c a d=>rw[i6,Đ,d];change 1+⇑a=⇑a+1;lia
 rw[e,b,es];have f:⇑a+⇑(a.map one) * 0<=100:=⋯
 revert f;generalize ⇑a+⇑(a.map one) * 0=m;revert m;decide
def JC(x)(j:Nat):(~~~(PySem.StrLaws.sliceText x cb (bD (j:Int))))=x.cps.toList.take j:=by
 by_cases h:j<=⇑x.cps.toList
 .rw[PySem.StrLaws.sliceText_to  ⟨⋯,⋯⟩];simp
 .have e:PySem.StrLaws.sliceText x cb (bD j)=PySem.StrLaws.sliceText x cb (bD ⇑x):=by
   unfold PySem.StrLaws.sliceText;have hl:=len_list x;have:PySem.Builtin.Str.strSliceIndices cb (bD j) 1 ⇑x=PySem.Builtin.Str.strSliceIndices cb (bD ⇑x) 1 ⇑x:=by
    have a:¬((j:Int)<0):=⋯
    have b:¬((⇑x:Int)<0):=⋯
    have c:min (j:Int) ⇑x=⇑x:=⋯
    simp[PySem.Builtin.Str.strSliceIndices,a,b,c]
   rw[this]
  have hl:=len_list x;rw[e,PySem.StrLaws.sliceText_to  ⟨⋯,⋯⟩,List.drop_zero,R_   ⋯];rw[R_ ⋯]
def zD(d:cS a=b6)(e:∀c∈b,low c=b6):cS ((a++b).take 8)=b6:=by
 have h:=(cN a).mp d;show(cN _).mpr #[by grind,by grind,λc f=>?_];have g:=Z6 f;rcases i7.mp g with m|m
 .show h.2.2 c m
 .have:=e c m;simp[low]at this;lia
def lE(a:∀c∈b,low c=b6)(d:1<=⇑b)(e:⇑b<=8):cS b=b6 :=
 (cN b).mpr #[d,e,λc f=>by have:=a c f;simp[low]at this;lia]
abbrev small:Str:="abcdefghijklmnopqrstuvwxyz"
def wc:(~~~small)=(ib 26).map (97+·):=by rfl
def n9(h0:0<=k)(a:k<26):N_ (~~~small) k≈(97+k.toNat):=by
 have(j,rfl):=VC h0;show bM ?_;rw[wc,sg,Xx ⋯];rfl
def we(h:j<26):low (97+j)=b6:=by simp[low];lia
abbrev tS(k:Nat):Str:=#[#v[97+k / 26,97+k % 26]]
def wg(h:k<40):cS (~~~(tS k))=b6:=by
 show lE (λc a=>?_) (by change 1<=2;decide) (by change 2<=8;decide);have b:=by simpa[tS] using a
 rcases b with rfl|rfl
 .show we ⋯
 .show we ⋯
theorem n_ [DecidableEq α]:∀{l m:↑α},l.Nodup->(∀x∈l,x∈m)->⇑l<=⇑m
 |[],_,_,_=>kj _
 |x::l,m,hn,h=>by
  have(b,c):=nC.mp hn;have d:=h x il;have e:=n_   c λy a=>(Z7 (by rintro rfl;show b a)).mpr (h y (f7 _ a))
  grind
abbrev dJ:↑Str:=(ib 40).map tS
def rm:dJ.Nodup:=by
 decide +kernel
def wj(names:↑Str)(h:⇑names<40):∃x∈dJ,x∉names:=by
 apply Yk;intro a;have:=λx b=>Yk λhn=>a #[x,b,hn];have:=n_ rm this;simp[dJ]at this;lia
end NR
namespace TM
open PySem L2 NR
def mB(h0:0<=z)(h:z<2 ^ 62):PX .Of [(k,.int z)]≈((ib z.toNat).map λi:Nat=>(lI (0+(i:Int)))):=by
 rw[tM,A9,ř ⋯]
def mT(a:⇑x<=c8)(h:N_ (~~~x) i≈c):lV (k,.str x) (.int i)≈zS (NR.one c):=by
 erw[lV];rw[ř a,h];rfl
def og:⇑small<=c8:=⋯
def bR{ds:↑Int}{i}(h:i<⇑ds):N_ (ds.map U.int) (i:Int)≈.int ((ds[i]?).getD 0):=bM (by simp[h])
theorem fN:∀ss,strsOf (ss.map U.str)≈ss
 |[]=>rfl
 |s::ss=>by change(strsOf _).map _=_;rw[fN ss];rfl
abbrev rn(a:E):Fn:=#["_law_name",2,6,[.set 2 (cQ "abcdefghijklmnopqrstuvwxyz"),.set 3 (.OS .join (cQ "") [.comp 1 cK .Of [.bin .add cA (.bin .mod (.idx Np cO) (cI 8))] [] (.idx ND (.bin .mod (.idx NA (.bin .add (cI 4) Np)) (cI 26)))]),.ite (.cmp .gt (.bi .len [NA]) cO) [.set 4 (.idx (.OS .split (.idx NA (.bin .mod (.idx Np cA) (.bi .len [NA]))) [(cQ "/")]) cO),.ite (.cmp .eq (.bin .mod (.idx Np (cI 2)) (cI 4)) cA) [.set 3 (.Ph (.bin .add N9 ND) [] [(cI 8)])] [],.ite (.cmp .eq (.bin .mod (.idx Np (cI 2)) (cI 4)) (cI 2)) [.set 3 (.bin .add (.bin .add N9 (cQ "/")) (.bi .str [.bin .add (cI 2) (.bin .mod (.idx Np (cI 3)) a)]))] []] [],.set 5 (.bin .add (.lst [ND]) (.comp 1 cK .Of [(cI 40)] [] (.bin .add (.idx ND (.bin .Qh Np (cI 26))) (.idx ND (.bin .mod Np (cI 26)))))),.ret (.idx (.comp 1 cK .seq [Oi] [.cmp .NB Np NH] Np) cO)]]
abbrev FC(a:E):Prop:=∀(Γ:Tab) (ds:↑Int),12<=⇑ds->(∀d∈ds,0<=d)->∃m:Int,0<m/\m<=98/\∀o1 o2 o3 o4 o5,Run (ev Γ a) [bD (aL (ds.map .int)),o1,o2,o3,o4,o5] (lI m) [bD (aL (ds.map .int)),o1,o2,o3,o4,o5]
@[reducible]noncomputable def LY:E:=cI 98
def FD:FC LY:=λ_ _ _ _=>#[98,by decide,by decide,λ_ _ _ _ _=>ak]
section
variable{Γ:Tab}{ds:List Int}
abbrev dd(ds:↑Int)(i:Nat):Int:=(ds[i]?).getD 0
def fO(h0:∀d∈ds,0<=d)(i):0<=dd ds i:=by
 unfold dd;cases e:ds[i]? with
 |none=>simp
 |some d=>show h0 d (nT e)
def rp(m:12<=⇑ds)(h0:∀d∈ds,0<=d):∃b:↑Nat,(∀c∈b,low c=b6)/\1<=⇑b/\⇑b<=8 /\
  Run (ev Γ (.comp 1 cK .Of [.bin .add cA (.bin .mod (.idx Np cO) (cI 8))] [] (.idx ND (.bin .mod (.idx NA (.bin .add (cI 4) Np)) (cI 26)))))
   [bD (aL (ds.map .int)),o1,bD (zS small),o3,o4,o5] (oL ((b.map NR.one).map .str)) [bD (aL (ds.map .int)),o1,bD (zS small),o3,o4,o5]:=by
 have hz:=fO h0 0;let n:=(1+dd ds 0 % 8).toNat;have hn:n<=8/\1<=n:=by change(1+dd ds 0 % 8).toNat<=8/\1<=(1+dd ds 0 % 8).toNat;lia
 let f:Nat->Nat:=λi=>97+(dd ds (4+i) % 26).toNat;show#[(ib n).map f,?_,by simp;show hn.2,by simp;show hn.1,?_]
 .intro c h;have(i,_,rfl):=j0.mp h;have:=fO h0 (4+i);show we ⋯
 .have a:Run (cm 1 cK (aT Γ []) (ev Γ (.idx ND (.bin .mod (.idx NA (.bin .add (cI 4) Np)) (cI 26)))) [(lI (1+dd ds 0 % 8))] ((ib n).map λi:Nat=>(lI (0+(i:Int)))) [])
    [bD (aL (ds.map .int)),o1,bD (zS small),o3,o4,o5] ([]++((ib n).map λi:Nat=>(lI (0+(i:Int)))).map λx=>match x.2 with|.int j=>.str (NR.one (97+(dd ds (4+j.toNat) % 26).toNat))|u=>u) [bD (aL (ds.map .int)),o1,bD (zS small),o3,o4,o5]:=by
   have o:(8:Nat)<=c8:=⋯
   show Cy (by show ttt) _ (λ_=>.loc) _ _ ⋯ (λx a=>?_) (λx a=>?_)
   .have(i,_,rfl):=j0.mp a;show .inl rfl
   .have(i,hi,rfl):=j0.mp a;have p:i<n:=by exists hi
    have g:N_ (ds.map U.int) (4+(0+(i:Int)))≈.int (dd ds (4+i)):=by
     rw[show(4+(0+(i:Int)))=((4+i:Nat):Int) by lia];show bR ⋯
    have q:=fO h0 (4+i);have hs:=n9 (k:=dd ds (4+i) % 26) ⋯ ⋯;show#[fM,?_,aH];erw[Ļ,Sq];rw[Ļ]at g
    repeat' (first|show aJ g|show mT og hs|sizeOf_list_dec)
  have e:((ib n).map f).map NR.one=(ib n).map λi=>NR.one (97+(dd ds (4+i) % 26).toNat):=by rw[i8];rfl
  rw[e];have l:([]++((ib n).map λi:Nat=>(lI (0+(i:Int)))).map λx=>match x.2 with|.int j=>U.str (NR.one (97+(dd ds (4+j.toNat) % 26).toNat))|u=>u)=((ib n).map λi=>NR.one (97+(dd ds (4+i) % 26).toNat)).map U.str:=by
   simp
  rw[l]at a;show bY (rs:=[(lI (1+dd ds 0 % 8))]) ?_ ttt (mB ⋯ ⋯) a
  repeat' (first|show aJ (bR (i:=0) ⋯)|sizeOf_list_dec)
def fq(h:⇑x+⇑y<=c8):P8 .add (k,.str x) (k',.str y)≈zS (x++y):=by
 erw[P8,A7];simp_all
theorem fP:∀(ss:↑Str) n,dQ n (ss.map U.str)=b6
 |[],n=>by rfl
 |s::ss,n=>by erw[i6,dQ,fP ss n];rfl
theorem tT(x):∀(ss:↑Str),((ss.map U.str).any λy=>bZ y (.str x))=df (x∈ss)
 |[]=>by simp
 |s::ss=>by
  rw[i6,ē,tT x ss];have:bZ (.str s) (.str x)=df (x=s):=by
   erw[bZ]
   grind
  simp_all
def FE(x)(ss:↑Str):Ua (.str x) (ss.map U.str)≈df (x∈ss):=by
 unfold Ua;rw[ř #[by rfl,fP ss 50],tT]
def ir{ss:↑Str}:bN .NB (.str x) (.lst (ss.map U.str))≈df (x∉ss):=by
 change(Ua _ _).map _=_;rw[FE];simp
def tU:Run (ev Γ (.comp 1 cK .Of [(cI 40)] [] (.bin .add (.idx ND (.bin .Qh Np (cI 26))) (.idx ND (.bin .mod Np (cI 26))))))
   [o0,o1,bD (zS small),o3,o4,o5] (oL (dJ.map .str)) [o0,o1,bD (zS small),o3,o4,o5]:=by
 have f:(100:Nat)<=c8:=⋯
 have a:Run (cm 1 cK (aT Γ []) (ev Γ (.bin .add (.idx ND (.bin .Qh Np (cI 26))) (.idx ND (.bin .mod Np (cI 26))))) [(lI 40)] ((ib 40).map λi:Nat=>(lI (0+(i:Int)))) [])
   [o0,o1,bD (zS small),o3,o4,o5] ([]++((ib 40).map λi:Nat=>(lI (0+(i:Int)))).map λx=>match x.2 with|.int j=>.str (tS j.toNat)|u=>u) [o0,o1,bD (zS small),o3,o4,o5]:=by
  show Cy (by show ttt) _ (λ_=>.loc) _ _ ⋯ (λx a=>?_) (λx a=>?_)
  .have(i,_,rfl):=j0.mp a;show .inl rfl
  .have(i,hi,rfl):=j0.mp a;have g:i<40:=⋯
   show#[fM,?_,aH];simp;have b:=n9 (k:=(i:Int) / 26) ⋯ ⋯;have c:=n9 (k:=(i:Int) % 26) ⋯ ⋯;have d:((i:Int) / 26).toNat=i / 26:=⋯
   rw[d]at b
   repeat' (first|show mT og b|show mT og c|show ad|sizeOf_list_dec)
 have e:([]++((ib 40).map λi:Nat=>(lI (0+(i:Int)))).map λx=>match x.2 with|.int j=>U.str (tS j.toNat)|u=>u)=dJ.map U.str:=by
  rfl
 rw[e]at a;show bY (rs:=[(lI 40)]) (by repeat' sizeOf_list_dec) ttt (mB ⋯ ⋯) a
def zE{names ts:↑Str}(hl:⇑ts<=1000):Run (ev Γ (.comp 1 cK .seq [Oi] [.cmp .NB Np NH] Np))
   [o0,bD (aL (names.map .str)),o2,o3,o4,bD (oL (ts.map .str))] (oL ((ts.filter λx=>df (x∉names)).map .str)) [o0,bD (aL (names.map .str)),o2,o3,o4,bD (oL (ts.map .str))]:=by
 have c:1000<=c8:=⋯
 have a:=nY (cond:=aT Γ [.cmp .NB Np NH]) (elt:=ev Γ Np) (src:=[(.bor 5,.lst (ts.map .str))]) (st:=[o0,bD (aL _),o2,o3,o4,bD _]) #[#[.own,rfl,rfl],ttt]
  (λx=>match x.2 with|.str y=>df (y∉names)|_=>cK) (λx=>x.2) (λ_=>.loc) ((ts.map U.str).map λu=>(kE (.bor 5),u)) [] (by grind) (λx a=>by have(u,_,rfl):=j0.mp a;show .inl rfl) (λx a=>by
   have(u,b,rfl):=j0.mp a;have(y,_,rfl):=j0.mp b;show#[cU ?_,af rfl,aH]
   repeat' (first|show ir|sizeOf_list_dec))
 have e:([]++(((ts.map U.str).map λu=>(kE (.bor 5),u)).filter λx=>match x.2 with|.str y=>df (y∉names)|_=>cK).map λx=>x.2)=(ts.filter λx=>df (x∉names)).map U.str:=by
  rw[ÿ,ÿ,i8,i8];rfl
 rw[e]at a;show bY (rs:=[(.bor 5,.lst _)]) (by repeat' sizeOf_list_dec) #[#[.own,rfl,rfl],ttt] rfl a
end
section
variable{Γ:Tab}{ds:List Int}
def zF{names:↑Str}(hn:⇑names<40)(l:bC (~~~a)):∃x st',bC (~~~x)/\x∉names /\
  Run (execs Γ [.set 5 (.bin .add (.lst [ND]) (.comp 1 cK .Of [(cI 40)] [] (.bin .add (.idx ND (.bin .Qh Np (cI 26))) (.idx ND (.bin .mod Np (cI 26)))))),
  .ret (.idx (.comp 1 cK .seq [Oi] [(.cmp .NB Np NH)] Np) cO)]) [o0,bD (aL (names.map .str)),bD (zS small),bD (zS a),o4,cb] (.rt .loc (.str x)) st':=by
 have m:1000<=c8:=⋯
 have(y,n,f):=wj names hn;have g:(a::dJ).filter (λx=>df (x∉names))≠[]:=λz=>by
  simp_all
 cases e:(a::dJ).filter _ with
 |nil=>show absurd e g
 |cons x c =>
  have i:x∈(a::dJ).filter (λx=>df (x∉names)):=by rw[e];simp
  have(b,j):=M'.mp i;have d:=zE (Γ:=Γ) (names:=names) (ts:=a::dJ) (by simp[dJ]) (o0:=o0) (o2:=bD (zS small)) (o3:=bD (zS a)) (o4:=o4);rw[e]at d;have ad:P8 .add (oL [.str a]) (oL (dJ.map U.str))≈oL ((a::dJ).map U.str):=by
   rfl
  show#[x,[o0,bD (aL (names.map .str)),bD (zS small),bD (zS a),o4,bD (oL ((a::dJ).map .str))],?_,by simpa using j,?_]
  .rcases eT.mp b with rfl|h
   .lia
   .have(k,hk,rfl):=j0.mp h;show .inl (wg ⋯)
  .show aw  (bu  (dX (aa (af rfl) ah) (by(first|show ttt|show⟨⟨_,rfl,rfl⟩,ttt⟩|show#[#[_,rfl,rfl],#[_,rfl,rfl],ttt])) (aA aH aP) (by grind)) tU ttt ad) bo ?_;show aS (aV d ak ttt (aJ (by show bM rfl))) bh
def CC(Ww:FC o)(L:12<=⇑ds)(h0:∀d∈ds,0<=d){names:↑Str}(hn:⇑names<40)(hw:∀x∈names,bC (~~~x)):
  ∃x,bC (~~~x)/\x∉names/\bJ Γ (rn o) [.lst (ds.map .int),.lst (names.map .str)]≈.ok (zS x):=by
 have(m,N,al,p):=Ww Γ ds L h0;have h8:(1000:Nat)<=c8:=⋯
 have(b,O,q,j,Wy):=rp (Γ:=Γ) L h0 (o1:=bD (aL (names.map .str))) (o3:=cb) (o4:=cb) (o5:=cb);have Wz:jR .join (.str "") [(oL ((b.map NR.one).map U.str))]≈zS (ri nH (b.map NR.one)):=by
  change(strsOf ((b.map NR.one).map U.str)).bind _=_;rw[fN];change(if Vn nH (b.map NR.one)=b6 then _ else _)=_;rw[ř (tQ b ⋯)];rfl
 let a:Str:=ri nH (b.map NR.one);have s:(~~~a)=b:=join_ones b;have Q:cS (~~~a)=b6:=by rw[s];show lE O q j
 have t:⇑a<=8:=by rw[len_list,s];show j
 have e:∀{f:Fl} {st':au} (ss:↑S),Run (execs Γ ss) [bD (aL (ds.map .int)),bD (aL (names.map .str)),bD (zS small),bD (zS a),cb,cb] f st' ->
   Run (execs Γ (.set 2 (cQ "abcdefghijklmnopqrstuvwxyz")::.set 3 (.OS .join (cQ "") [.comp 1 cK .Of [.bin .add cA (.bin .mod (.idx Np cO) (cI 8))] [] (.idx ND (.bin .mod (.idx NA (.bin .add (cI 4) Np)) (cI 26)))])::ss))
    [bD (aL (ds.map .int)),bD (aL (names.map .str)),cb,cb,cb,cb] f st':=λss h=>aw (r:=(zS small)) ak aR (aw (fL ak (aa Wy ah) (by(first|show ttt|show⟨⟨_,rfl,rfl⟩,ttt⟩|show#[#[_,rfl,rfl],#[_,rfl,rfl],ttt])) Wz) aR h)
 have k:∀(g:Str) (o4:Sl),bC (~~~g)->∃x st',bC (~~~x)/\x∉names/\Run (execs Γ [.set 5 (.bin .add (.lst [ND]) (.comp 1 cK .Of [(cI 40)] [] (.bin .add (.idx ND (.bin .Qh Np (cI 26))) (.idx ND (.bin .mod Np (cI 26)))))),
  .ret (.idx (.comp 1 cK .seq [Oi] [(.cmp .NB Np NH)] Np) cO)]) [bD (aL (ds.map .int)),bD (aL (names.map .str)),bD (zS small),bD (zS g),o4,cb] (.rt .loc (.str x)) st':=λg o4 u=>zF hn u
 by_cases hz:0<⇑names
 .
  have hi:(dd ds 1).toNat % ⇑names<⇑names:=ŗ _ hz;let nm:=names[(dd ds 1).toNat % ⇑names]'hi;have T:bC (~~~nm):=hw _ (F1 hi);have(y,r,Pe,v):=T.Nh;have Xe:⇑y<=8:=by rw[len_list];show((cN _).mp v).2.1
  have Xs:⇑nm<=11:=by rw[len_list];show T.len.2
  have w:=fO h0 1;have OK:N_ (names.map U.str) (dd ds 1 % (⇑(names.map U.str):Nat))≈.str nm:=by
   rw[ei,show dd ds 1 % (⇑names:Nat)=(((dd ds 1).toNat % ⇑names:Nat):Int) by rw[Int.natCast_emod,XB w]];show bM (by simp[hi];rfl)
  have Qg:jR .split (.str nm) [(zS "/")]≈oL ((y::r).map U.str):=by
   change(if (XQ "/"==0)=cK/\⇑nm+2<=c8 then bD (oL ((G' nm "/").map .str)) else cb)=_;rw[ř #[by decide,⋯],show("/":Str)=Gk from rfl,Pe]
  have hp:(0:Int)<(⇑(names.map U.str):Nat):=⋯
  have z:lV (oL ((y::r).map U.str)) (.int 0)≈zS y:=aJ (by change N_ _ ((0:Nat):Int)=_;show bM rfl);have am:=fO h0 2;have an:=fO h0 3;have i1:N_ (ds.map U.int) 1≈.int (dd ds 1):=bR (i:=1) ⋯;have Y:N_ (ds.map U.int) 2≈.int (dd ds 2):=bR (i:=2) ⋯;have i3:N_ (ds.map U.int) 3≈.int (dd ds 3):=bR (i:=3) ⋯;have go:∀g:Str,bC (~~~g)->Run (execs Γ [.ite (.cmp .eq (.bin .mod (.idx Np (cI 2)) (cI 4)) cA)
    [.set 3 (.Ph (.bin .add N9 ND) [] [(cI 8)])]
    [],
   .ite (.cmp .eq (.bin .mod (.idx Np (cI 2)) (cI 4)) (cI 2))
    [.set 3 (.bin .add (.bin .add N9 (cQ "/")) (.bi .str [.bin .add (cI 2) (.bin .mod (.idx Np (cI 3)) o)]))]
    []]) [bD (aL (ds.map .int)),bD (aL (names.map .str)),bD (zS small),bD (zS a),bD (zS y),cb] .nx [bD (aL (ds.map .int)),bD (aL (names.map .str)),bD (zS small),bD (zS g),bD (zS y),cb] ->
    ∃x,bC (~~~x)/\x∉names/\bJ Γ (rn o) [.lst (ds.map .int),.lst (names.map .str)]≈.ok (zS x):=λg u hr=>by
   have(x,st',A,B,C):=k g (bD (zS y)) u;show#[x,A,B,ay (st0:=[bD (aL (ds.map .int)),bD (aL (names.map .str)),cb,cb,cb,cb]) rfl (.inr rfl) rfl (e _ (jt (st1:=[bD (aL (ds.map .int)),bD (aL (names.map .str)),bD (zS small),bD (zS a),cb,cb]) ?_ (aw (r:=(zS y)) (st1:=[bD (aL (ds.map .int)),bD (aL (names.map .str)),bD (zS small),bD (zS a),cb,cb]) ?_ aR hr) C))]
   .repeat' (first|show j9 ⋯|sizeOf_list_dec)
   .repeat' (first|show cp hp|show aJ OK|show aJ i1|show Qg|show z|sizeOf_list_dec)
  have D:∀{c:Bool} {o3 o4:Sl},(dd ds 2 % 4==1)=c->Run (NJ Γ (.cmp .eq (.bin .mod (.idx Np (cI 2)) (cI 4)) cA)) [bD (aL (ds.map .int)),bD (aL (names.map .str)),bD (zS small),o3,o4,cb] c [bD (aL (ds.map .int)),bD (aL (names.map .str)),bD (zS small),o3,o4,cb]:=λG=>by
   repeat' (first|show aJ Y|show gm G|sizeOf_list_dec)
  have H:∀{c:Bool} {o3 o4:Sl},(dd ds 2 % 4==2)=c->Run (NJ Γ (.cmp .eq (.bin .mod (.idx Np (cI 2)) (cI 4)) (cI 2))) [bD (aL (ds.map .int)),bD (aL (names.map .str)),bD (zS small),o3,o4,cb] c [bD (aL (ds.map .int)),bD (aL (names.map .str)),bD (zS small),o3,o4,cb]:=λG=>by
   repeat' (first|show aJ Y|show gm G|sizeOf_list_dec)
  by_cases Vh:dd ds 2 % 4=1
  .have I:⇑y+⇑a<=c8:=⋯
   have V7:jQ (zS (y++a)) cb (bD 8)≈zS (PySem.StrLaws.sliceText (y++a) cb (bD 8)):=by
    erw[jQ];rw[ř (by rw[len_list];change(y.cps++a.cps).toList.length<=_;rw[WT,mx,<-len_list,<-len_list];lia)]
   show go (PySem.StrLaws.sliceText (y++a) cb (bD 8)) (.inl ?_) ?_
   .have:=JC (y++a) 8;rw[show((8:Nat):Int)=8 from rfl]at this;rw[this];change cS ((y.cps++a.cps).toList.take 8)=b6;rw[WT];show zD v (by rw[s];show O)
   .show jt (D (by simp[Vh])) (aw (lD (bu (af rfl) (af rfl) ttt (fq I)) lA (lC ak) ttt V7) aR bB) (d_ (H (by simp[Vh])) bB bB)
  .by_cases J:dd ds 2 % 4=2
   .have Zk:=Ur (dd ds 3) (show m≠0 by lia);have RP:=XU (dd ds 3) N;have V8:0<=2+dd ds 3 % m:=⋯
    have l:2+dd ds 3 % m<=99:=⋯
    have ab:=pK V8 l;have Uh:PV .str [(lI (2+dd ds 3 % m))]≈zS (qp (2+dd ds 3 % m)):=by
     erw[PV,iR,A8];rw[ř (by
      have:(2+dd ds 3 % m).natAbs<2 ^ 7:=⋯
      have h2:(2+dd ds 3 % m).natAbs≠0:=⋯
      have:=(ń h2).mpr this;lia)]
     rfl
    have ac:⇑(y++("/":Str))=⇑y+1:=by rw[len_list,len_list];change(y.cps++_).toList.length=_;rw[WT,mx];rfl
    have n:Run (ev Γ (.bin .add (cI 2) (.bin .mod (.idx Np (cI 3)) o))) [bD (aL (ds.map .int)),bD (aL (names.map .str)),bD (zS small),bD (zS a),bD (zS y),cb] (lI (2+dd ds 3 % m)) [bD (aL (ds.map .int)),bD (aL (names.map .str)),bD (zS small),bD (zS a),bD (zS y),cb]:=bu ak (bu (aV (aB rfl) ak ttt (aJ i3)) (p _ _ _ _ _) ttt (cp N)) ttt d5;show go (y++"/"++qp (2+dd ds 3 % m)) (.inr #[(~~~y),(~~~(qp (2+dd ds 3 % m))),2+dd ds 3 % m,?_,v,⋯,l,rfl]) ?_
    .change((y.cps++#v[47])++(qp _).cps).toList=_;simp
    .show d_ (D (by simp[J])) bB (jt (H (by simp[J])) (aw (bu (bu (af rfl) ak ttt (fq (by change ⇑y+1<=c8;lia))) (dW (aa n ah) ttt Uh) ttt (fq ⋯)) aR bB) bB)
   .show go a (.inl Q) ?_;show d_ (D (by simp[Vh])) bB (d_ (H (by simp[J])) bB bB)
 .have(x,st',A,B,C):=k a cb (.inl Q);show#[x,A,B,ay (st0:=[bD (aL (ds.map .int)),bD (aL (names.map .str)),cb,cb,cb,cb]) rfl (.inr rfl) rfl (e _ (d_ (st1:=[bD (aL (ds.map .int)),bD (aL (names.map .str)),bD (zS small),bD (zS a),cb,cb]) ?_ bB C))]
  repeat' (first|show j9 (ś (by erw[ei];lia))|sizeOf_list_dec)
end
abbrev rA(Γ:Tab):Prop:=∀(ns:↑Int) (k:Nat),k<2 ^ 62->∃z,Γ "_law_cell" [.lst (ns.map .int),.int (k:Nat)]≈.ok (lI z)
abbrev mC(Γ:Tab):Prop:=∀(c:Int) (n:Nat),n<1000->∃ds:↑Int,⇑ds=n/\(∀d∈ds,0<=d)/\Γ "_law_drawn" [.int c,.int (n:Nat)]≈.ok (oL (ds.map .int))
abbrev CD(Γ:Tab):Prop:=∀(ds:↑Int) (names:↑Str),12<=⇑ds->(∀d∈ds,0<=d)->⇑names<40->(∀x∈names,bC (~~~x))->∃x,bC (~~~x)/\x∉names/\Γ "_law_name" [.lst (ds.map .int),.lst (names.map .str)]≈.ok (zS x)
abbrev fNames:Fn:=#["_law_names",3,5,[.set 3 (.lst []),.Ob cK [4] .Of [NH] [.app 3 (.call "_law_name" [.call "_law_drawn" [.call "_law_cell" [Np,.bin .add NA N9],(cI 12)],ND])],.ret ND]]
theorem zG(hc:rA Γ)(hd:mC Γ)(hn:CD Γ){ns:List Int}(hb:b<1000)(hm:m<40):
    ∃names:List Str,names.length=m/\names.Nodup/\(∀x∈names,bC x.cps.toList)/\bJ Γ fNames [.lst (ns.map .int),.int (b:Nat),.int (m:Nat)]=bD (.ok (oL (names.map .str))):=by
  have hsz:(1000:Nat)<=c8:=by decide
  let I:List (Kd×U)->au->Prop:=λxs st=>∃(names:List Str) (us:List U) (o:Sl),st=[bD (aL (ns.map .int)),bD (lI (b:Nat)),bD (lI (m:Nat)),bD (oL us),o]/\us=names.map .str/\names.Nodup/\(∀x∈names,bC x.cps.toList)/\names.length+xs.length=m/\iq m xs;have loop:=xU (t:=cK) (is:=[4]) (body:=execs Γ [.app 3 (.call "_law_name" [.call "_law_drawn" [.call "_law_cell" [Np,.bin .add NA N9],(cI 12)],ND])]) (rs:=[(lI (m:Nat))]) I (λ_ _ _=>trivial) (λx xs st N1=>by
    obtain⟨names,us,o,e,e2,NI,hw,hl,hr⟩:=N1;subst e;obtain⟨i,hi,rfl,Pl,hlen⟩:=hr.cons;rw[k9]at hl;obtain⟨z,hz⟩:=hc ns (b+i) ⋯;rw[Int.natCast_add]at hz;obtain⟨ds,d1,d2,d3⟩:=hd z 12 ⋯;obtain⟨x,x1,x2,x3⟩:=hn ds names ⋯ d2 ⋯ hw;rw[<-e2]at x3;refine⟨[bD (aL (ns.map .int)),bD (lI (b:Nat)),bD (lI (m:Nat)),bD (oL us),bD (lI (i:Nat))],[bD (aL (ns.map .int)),bD (lI (b:Nat)),bD (lI (m:Nat)),bD (oL (us++[.str x])),bD (lI (i:Nat))],aR,?_,⟨names++[x],_,_,rfl,by simp[e2],?_,?_,by simp;lia,Pl⟩⟩
    · repeat' (first|exact hz|exact d3|exact x3|exact(by rw[e2,ei];lia)|sizeOf_list_dec)
    · rw[my]
      exact ⟨NI, by simp, fun y hy w U' => by have : w = x := by simpa using U'
                                              subst this;rintro rfl;exact x2 hy⟩
    · intro y hy
      rcases i7.mp hy with h|h
      · exact hw y h
      · rw[kr.mp h];exact x1)
  obtain⟨st',NY,names,us,o,e,e2,NI,hw,hl,_⟩:=loop ((ib m).map λi:Nat=>(lI (0+(i:Int)))) [bD (aL (ns.map .int)),bD (lI (b:Nat)),bD (lI (m:Nat)),bD (oL []),cb] ⟨[],[],cb,rfl,rfl,by simp,by simp,by simp,iq.all m⟩;subst e e2;refine⟨names,by simpa using hl,NI,hw,?_⟩;apply ay (st0:=[bD (aL (ns.map .int)),bD (lI (b:Nat)),bD (lI (m:Nat)),cb,cb]) rfl (.inl rfl) rfl
  repeat' sizeOf_list_dec
  have hit:=wa (k:=.loc) (n:=m) ⋯;refine' ij (rs:=[(lI (m:Nat))]) (st1:=[bD (aL (ns.map .int)),bD (lI (b:Nat)),bD (lI (m:Nat)),bD (oL []),cb]) _ trivial hit rfl NY _
  all_goals repeat' sizeOf_list_dec
abbrev lF:Fn:=#["_law_told",2,6,[.set 2 (.bi .len [NA]),.ite (.and [.cmp .gt (.bin .mod (.idx Np (cI 2)) (cI 3)) cO,.cmp .gt (.bin .mod (.idx Np cO) (.bi .len [NA])) cO]) [.set 2 (.bin .mod (.idx Np cO) (.bi .len [NA]))] [],.set 3 (.lst []),.Ob cK [4] .Of [.idx (.lst [cO,cO,cA,cA,cA,(cI 2),(cI 2),(cI 2),(cI 3),(cI 8)]) (.bin .mod (.idx Np cA) (cI 10))] [.set 5 (.idx NA (.bin .mod (.idx Np (.bin .add (cI 3) N9)) NH)),.ite (.cmp .NB Oi ND) [.app 3 Oi] []],.ret (.bi .tuple [ND])]]
theorem Ni:∀j:Nat,j<10->∃q,q<=8/\N_ [U.int 0,.int 0,.int 1,.int 1,.int 1,.int 2,.int 2,.int 2,.int 3,.int 8] (j:Int)≈.int (q:Nat)
 |0,_=>⟨0,⋯,rfl⟩|1,_=>⟨0,⋯,rfl⟩|2,_=>⟨1,⋯,rfl⟩|3,_=>⟨1,⋯,rfl⟩|4,_=>#[1,⋯,rfl]
 |5,_=>⟨2,⋯,rfl⟩|6,_=>⟨2,⋯,rfl⟩|7,_=>⟨2,⋯,rfl⟩|8,_=>⟨3,⋯,rfl⟩|9,_=>#[8,⋯,rfl]
 |n+10,h=>absurd h ⋯
def JD(hz:0<=z)(a:0<t)(hl:t<=⇑xs):∃x∈xs,N_ xs (z % t)≈x:=by
 have b:=Ur z (by lia:t≠0);have e:=XU z a;have(j,c):=VC b;have d:j<⇑xs:=⋯
 show#[_,F1 d,?_];rw[c];show bM ⋯
def rB{xs:↑Str}{z t:Int}(hz:0<=z)(a:0<t)(hl:t<=⇑xs):∃x∈xs,N_ (xs.map U.str) (z % t)≈.str x:=by
 have(u,b,e):=JD (xs:=xs.map _) hz a ⋯;have(x,c,rfl):=j0.mp b;show#[x,c,e]
def CF{Γ}{ds:↑Int}{names:↑Str}(hd:11<=⇑ds)(h0:∀d∈ds,0<=d)(hn:0<⇑names):
  ∃told:↑Str,⇑told<=8/\told.Nodup/\(∀x∈told,x∈names)/\bJ Γ lF [.lst (ds.map .int),.lst (names.map .str)]≈.ok (lT (told.map .str)):=by
 have hsz:(1000:Nat)<=c8:=⋯
 have A:N_ (ds.map U.int) 0≈.int (dd ds 0):=bR (i:=0) ⋯;have Q:N_ (ds.map U.int) 1≈.int (dd ds 1):=bR (i:=1) ⋯;have T:N_ (ds.map U.int) 2≈.int (dd ds 2):=bR (i:=2) ⋯;have n0:=fO h0 0;have n1:=fO h0 1;have n2:=fO h0 2;have j:(0:Int)<(⇑(names.map U.str):Nat):=⋯
 have hL:(⇑(names.map U.str):Int)=⇑names:=⋯
 have VE:=XU (dd ds 0) j;have Zk:=Ur (dd ds 0) (by lia:(⇑(names.map U.str):Int)≠0);let B:=λ(t:Int) (us:↑U) (o4 o5:Sl)=>([bD (aL (ds.map .int)),bD (aL (names.map .str)),bD (lI t),bD (oL us),o4,o5]:au)
 have Y:(dd ds 1 % 10).toNat<10:=⋯
 have(q,hq,C):=Ni _ Y;rw[XB ⋯]at C;have l:∀t:Int,0<t->t<=⇑names->∃told:↑Str,⇑told<=8/\told.Nodup/\(∀x∈told,x∈names)/\∃st',Run (execs Γ (lF.body.drop 2)) [bD (aL (ds.map .int)),bD (aL (names.map .str)),bD (lI t),cb,cb,cb] (.rt .loc (.tup (told.map .str))) st':=λt m p=>by
  let I:↑(Kd×U)->au->Prop:=λxs st=>∃(told:↑Str) (us:↑U) (o4 o5:Sl),st=B t us o4 o5/\us=told.map .str/\told.Nodup/\(∀x∈told,x∈names)/\⇑told+⇑xs<=q/\iq q xs;have o:=xU (t:=cK) (is:=[4]) (body:=execs Γ [.set 5 (.idx NA (.bin .mod (.idx Np (.bin .add (cI 3) N9)) NH)),
   .ite (.cmp .NB Oi ND)
    [.app 3 Oi]
    []]) (rs:=[(lI (q:Nat))]) I (λ_ _ _=>ttt) (λx xs st N1=>by
   have(told,us,o4,o5,e,b,s,u,hl,hr):=N1;subst e;have(i,hi,rfl,D,G):=hr.cons;rw[k9]at hl;have H:N_ (ds.map U.int) (3+(i:Int))≈.int (dd ds (3+i)):=by
    rw[show(3+(i:Int))=((3+i:Nat):Int) by lia];show bR ⋯
   have(x,hx,J):=rB (xs:=names) (fO h0 (3+i)) m p;have L:bN .NB (.str x) (.lst us)≈df (x∉told):=by rw[b];show ir
   by_cases N:x∈told
   .show#[B t us (bD (lI (i:Nat))) o5,B t us (bD (lI (i:Nat))) (bD (.any,.str x)),aR,?_,#[told,us,_,_,rfl,b,s,u,⋯,D]];show aw (r:=(.any,.str x)) (st1:=B t us (bD (lI (i:Nat))) o5) ?_ nW (d_ (st1:=B t us (bD (lI (i:Nat))) (bD (.any,.str x))) ?_ bB bB)
    .repeat' (first|show aJ H|show cp m|show aJ J|sizeOf_list_dec)
    .have:bN .NB (.str x) (.lst us)≈cK:=by rw[L];simp[N]
     repeat' (first|show this|sizeOf_list_dec)
   .show#[B t us (bD (lI (i:Nat))) o5,B t (us++[.str x]) (bD (lI (i:Nat))) (bD (.any,.str x)),aR,?_,#[told++[x],_,_,_,rfl,by simp[b],?_,?_,by simp;lia,D]]
    .show aw (r:=(.any,.str x)) (st1:=B t us (bD (lI (i:Nat))) o5) ?_ nW (jt (st1:=B t us (bD (lI (i:Nat))) (bD (.any,.str x))) (st2:=B t (us++[.str x]) (bD (lI (i:Nat))) (bD (.any,.str x))) ?_ ?_ bB)
     .repeat' (first|show aJ H|show cp m|show aJ J|sizeOf_list_dec)
     .have:bN .NB (.str x) (.lst us)≈b6:=by rw[L];simp[N]
      repeat' (first|show this|sizeOf_list_dec)
     .repeat' (first|show nV rfl|show(by rw[b,ei];lia)|sizeOf_list_dec)
    .rw[my]
     grind
    grind)
  have(st',NY,told,us,o4,o5,e,b,s,u,hl,_):=o ((ib q).map λi:Nat=>(lI (0+(i:Int)))) (B t [] cb cb) ⟨[],[],cb,cb,rfl,rfl,by simp,by simp,by simp,iq.all q⟩;subst e b;show#[told,by simp at hl;lia,s,u,?_];have v:=wa (k:=.loc) (n:=q) ⋯;show#[B t (told.map .str) o4 o5,aw (r:=(oL [])) (dX ah ttt aP (kj _)) bo (ij (rs:=[(lI (q:Nat))]) (st1:=B t [] cb cb) ?_ ttt v rfl NY ?_)]
  .show aa (aV (x:=(oL [U.int 0,.int 0,.int 1,.int 1,.int 1,.int 2,.int 2,.int 2,.int 3,.int 8])) (y:=(lI (dd ds 1 % 10))) (st1:=B t [] cb cb) ?_ ?_ ttt (aJ C)) ah
   .repeat' (first|show(by decide:(10:Nat)<=c8)|sizeOf_list_dec)
   .repeat' (first|show aJ Q|sizeOf_list_dec)
  .repeat' sizeOf_list_dec
 have a:∀t:Int,0<t->t<=⇑names->(∀{f:Fl} {st':au},Run (execs Γ (lF.body.drop 2)) [bD (aL (ds.map .int)),bD (aL (names.map .str)),bD (lI t),cb,cb,cb] f st'->Run (execs Γ lF.body) [bD (aL (ds.map .int)),bD (aL (names.map .str)),cb,cb,cb,cb] f st') ->
   ∃told:↑Str,⇑told<=8/\told.Nodup/\(∀x∈told,x∈names)/\bJ Γ lF [.lst (ds.map .int),.lst (names.map .str)]≈.ok (lT (told.map .str)):=λt m p hh=>by
  have(told,a1,a2,a3,st',a4):=l t m p;show#[told,a1,a2,a3,ay (st0:=[bD (aL (ds.map .int)),bD (aL (names.map .str)),cb,cb,cb,cb]) rfl (.inr rfl) rfl (hh a4)]
 let g:au:=[bD (aL (ds.map .int)),bD (aL (names.map .str)),bD (lI (⇑(names.map U.str):Nat)),cb,cb,cb]
 have w:∀{c:Bool},df (0<dd ds 2 % 3)=c->Run (NJ Γ (.cmp .gt (.bin .mod (.idx Np (cI 2)) (cI 3)) cO)) g c g:=λh=>by repeat' (first|show aJ T|show j9 h|sizeOf_list_dec)
 have O:∀{c:Bool},df (0<dd ds 0 % (⇑(names.map U.str):Nat))=c->Run (NJ Γ (.cmp .gt (.bin .mod (.idx Np cO) (.bi .len [NA])) cO)) g c g:=λh=>by repeat' (first|show aJ A|show cp j|show j9 h|sizeOf_list_dec)
 have z:Run (ev Γ (.bi .len [NA])) [bD (aL (ds.map .int)),bD (aL (names.map .str)),cb,cb,cb,cb] (lI (⇑(names.map U.str):Nat)) [bD (aL (ds.map .int)),bD (aL (names.map .str)),cb,cb,cb,cb]:=by repeat' sizeOf_list_dec
 have s3:Run (ev Γ (.bin .mod (.idx Np cO) (.bi .len [NA]))) g (lI (dd ds 0 % (⇑(names.map U.str):Nat))) g:=by repeat' (first|show aJ A|show cp j|sizeOf_list_dec)
 by_cases c1:0<dd ds 2 % 3
 .by_cases c2:0<dd ds 0 % (⇑(names.map U.str):Nat)
  .show a (dd ds 0 % (⇑(names.map U.str):Nat)) c2 ⋯ λh=>aw z aR (jt (je (v5 (w (ŝ c1)) (cU (O (ŝ c2))))) (aw s3 aR bB) h)
  .show a (⇑(names.map U.str):Nat) j ⋯ λh=>aw z aR (d_ (je (v5 (w (ŝ c1)) (cU (O (ś c2))))) bB h)
 .show a (⇑(names.map U.str):Nat) j ⋯ λh=>aw z aR (d_ (je (Cw (w (ś c1)))) bB h)
def CG(e:Run (ev Γ g) st rv st1)(h:st1[i]?≈bD (k',u'))(j:Run (ev Γ l) st1 rk st2)(m:Run (cj [rv,rk]) st2 [c,d] b)(n:b[i]?≈bD (k,u0))(hk:k.root=b6)(o:gU d c u0≈p)
  (q:Run (execs Γ ss) (b.set i (bD (k,p))) f r) (hn:k'≠.A':=by intro z;cases z):Run (execs Γ (.put i l g::ss)) st f r:=by
 show e_ (ae e (ae (ig h hn) (ae j (ae m (ae (a:=())  ?_ aK))))) q;change modS i _ b=_;unfold modS;rw[n];erw[hk];change(match gU d c u0 with|some u'=>_|none=>cb)=_;rw[o]
@[reducible]noncomputable def Row:=Str×↑Str
abbrev Nv(r:Row):U:=.tup [.str r.1,.tup (r.2.map .str)]
@[reducible]noncomputable def tR(rs:↑Row):U:=U.tup (rs.map Nv)
abbrev keyOf(r:Row):Row:=(r.1,b_ r.2)
def sorted_strs(h:⇑ss<64):PV .sorted [(k,.tup (ss.map .str))]≈oL ((b_ ss).map .str):=by
 change(strsOf _).bind _=_;rw[fN];simp_all
abbrev CH(Γ:Tab):Prop:=∀(ds:↑Int) (names:↑Str),11<=⇑ds->(∀d∈ds,0<=d)->0<⇑names ->
 ∃told:↑Str,⇑told<=8/\told.Nodup/\(∀x∈told,x∈names)/\Γ "_law_told" [.lst (ds.map .int),.lst (names.map .str)]≈.ok (lT (told.map .str))
abbrev xY(Γ:Tab):Prop:=∀(ns:↑Int) (b m:Nat),b<1000->m<40->∃names:↑Str,⇑names=m/\names.Nodup/\(∀x∈names,bC (~~~x))/\Γ "_law_names" [.lst (ns.map .int),.int (b:Nat),.int (m:Nat)]≈.ok (oL (names.map .str))
def GN(h:NQ Pg "_law_mix" zB):CA (N2 Pg (d+1)):=λc k h0 a=>by rw[ax h];show FA h0 a
def oh(h:NQ Pg "_law_mix" zB)(a:NQ Pg "_law_cell" xX):rA (N2 Pg (d+2)):=λns k hk=>#[_,by rw[ax a];show CB (GN h) hk]
def drawnOk(h:NQ Pg "_law_mix" zB)(f:NQ Pg "_law_drawn" rj):mC (N2 Pg (d+2)):=λc n hn=>by
 have(ds,a,b,e):=zC (GN  h)  hn;show#[ds,a,b,by rw[ax f];show e]
def JE(f:FC g)(h:NQ Pg "_law_name" (rn g)):CD (N2 Pg (d+1)):=λds names a b c e=>by
 have(x,p,q,r):=CC  f a b c e;show#[x,p,q,by rw[ax h];show r]
def JF(h:NQ Pg "_law_told" lF):CH (N2 Pg (d+1)):=λds names a b c=>by
 have(x,p,q,r,s):=CF  a b c;show#[x,p,q,r,by rw[ax h];show s]
structure eG(md:E)(Pg:↑Fn):Prop where
 mix:NQ Pg "_law_mix" zB
 cell:NQ Pg "_law_cell" xX
 drawn:NQ Pg "_law_drawn" rj
 name:NQ Pg "_law_name" (rn md)
 names:NQ Pg "_law_names" fNames
 told:NQ Pg "_law_told" lF
def eG.oh(M:eG a Pg):rA (N2 Pg (d+2)):=TM.oh M.mix M.cell
def eG.drawnOk(M:eG a Pg):mC (N2 Pg (d+2)):=TM.drawnOk M.mix M.drawn
def eG.CI(a:FC c)(M:eG c Pg):xY (N2 Pg (d+3)):=λns b m e f=>by
 have(names,p,q,r,s):=zG  M.oh M.drawnOk (TM.JE a M.name)  e f;show#[_,p,q,r,by rw[ax M.names];show s]
@[reducible]noncomputable def CJ(Pg:↑Fn):Prop:=eG LY Pg
def eG.namesOk(M:CJ Pg):xY (N2 Pg (d+3)):=eG.CI FD M
def pL(h:Run (execs Γ (a++ss)) st f st2):(∃s1,Run (execs Γ a) st .nx s1/\Run (execs Γ ss) s1 f st2)\/(Run (execs Γ a) st f st2/\f≠.nx):=by
 induction a generalizing st with
 |nil=>show .inl #[st,bB,h]
 |cons s a i =>
  have h':M.bind _ _ st≈_:=h;unfold M.bind at h';cases e:exec Γ s st with
  |none=>simp_all
  |some p =>
   have(x,s1):=p;rw[e]at h';cases x with
   |exc c=>cases h'
   |ok g =>
    cases g with
    |nx =>
     rcases i h' with⟨j,b,d⟩|⟨b,d⟩
     .show .inl #[j,e_ e b,d]
     .show .inr #[e_ e b,d]
    |rt k u=>cases h';show .inr #[v8 e,λz=>nomatch z]
    |_=>cases h';show .inr #[ae (e) aK,λz=>nomatch z]
def LZ(a:Run (exec Γ s) st f st1)(b:f≠.nx):Run (execs Γ (s::ss)) st f st1:=by
 cases f with
 |nx=>show absurd rfl b
 |rt k u=>show v8 a
 |_=>show ae a aK
def aI(g:Run (NJ Γ c) st p st1)(h:p=b6->Run (execs Γ (a++ss)) st1 f st2)(i:p=cK->Run (execs Γ (b++ss)) st1 f st2):Run (execs Γ (.ite c a b::ss)) st f st2:=by
 cases p with
 |true =>
  rcases pL (h rfl) with⟨s1,d,e⟩|⟨d,e⟩
  .show e_ (rh g d) e
  .show LZ (rh g d) e
 |false =>
  rcases pL (i rfl) with⟨s1,d,e⟩|⟨d,e⟩
  .show e_ (v7 g d) e
  .show LZ (v7 g d) e
def wm(h:Run (ev Γ e) st (k,.bl p) st)(b:p=b6->Run (jT Γ (a::es)) st (bL q) st):Run (jT Γ (e::a::es)) st (bL (p&&q)) st:=by
 show JB h ?_;simp_all
def lG(h:Run (NJ Γ e) st p st)(a:p=cK->Run (gT Γ (b::es)) st q st):Run (gT Γ (e::b::es)) st (p||q) st:=by
 cases p with
 |true=>show LP h
 |false=>show xT h (a rfl)
def ju(h:Run (NJ Γ e) st p st)(a:p=b6->Run (aT Γ (b::es)) st q st):Run (aT Γ (e::b::es)) st (p&&q) st:=by
 cases p with
 |true=>show v5 h (a rfl)
 |false=>show Cw h
theorem fb{cond:M Bool}(h:bg src st)(k:Kd)(hk:k=.loc\/k=.any)(a g:α->U)(c:Kd)(d:∀y,Run cond (bD (k,a y)::st) b6 (bD (k,a y)::st)):∀(ys:↑α) (b:↑U),⇑b+⇑ys<=c8 ->
  (∀y∈ys,Run elt (bD (k,a y)::st) (c,g y) (bD (k,a y)::st)/\Run (lift (c,g y)) (bD (k,a y)::st) (g y) (bD (k,a y)::st))->Run (cm 1 cK cond elt src (ys.map λy=>(k,a y)) b) st (b++ys.map g) st
 |[],b,_,_=>by rw[Q1,Q1,tP];show tL h
 |y::ys,b,hl,e=>by
  have(f,i):=e y ⋯;rw[k9]at hl;show nX     h ?_ (d y) f i ⋯ ?_
  .rcases hk with rfl|rfl
   .show ip aR
   .show ip nW
  .have:=fb h k hk a g c d ys (b++[g y]) ⋯ λz hz=>e z (by simp[hz]);simp_all
theorem kL{cond:M Bool}(h:bg src st)(k:Kd)(hk:k=.loc\/k=.any)(a g:α->U)(p:α->Bool)(c:Kd):∀(ys:↑α) (b:↑U),⇑b+⇑ys<=c8 ->
  (∀y∈ys,Run cond (bD (k,a y)::st) (p y) (bD (k,a y)::st)/\(p y=b6->Run elt (bD (k,a y)::st) (c,g y) (bD (k,a y)::st)/\Run (lift (c,g y)) (bD (k,a y)::st) (g y) (bD (k,a y)::st)))->Run (cm 1 cK cond elt src (ys.map λy=>(k,a y)) b) st (b++(ys.filter p).map g) st
 |[],b,_,_=>by rw[Q1,Yz,Q1,tP];show tL h
 |y::ys,b,hl,e=>by
  have(d,f):=e y ⋯;rw[k9]at hl;have j:Run (d8 cK (ib 1) (k,a y)) (kb 1 cb++st) () (bD (k,a y)::st):=by
   rcases hk with rfl|rfl
   .show ip aR
   .show ip nW
  cases i:p y with
  |true =>
   rw[i]at d;have(l,m):=f i;show nX     h j d l m ⋯ ?_;have:=kL h k hk a g p c ys (b++[g y]) ⋯ λz hz=>e z (by simp[hz]);simp_all
  |false =>
   rw[i]at d;show v9   h j d ?_;have:=kL h k hk a g p c ys b ⋯ λz hz=>e z (by simp[hz]);simp_all
theorem gn(it:α->Kd×U)(I:↑α->↑α->au->Prop)(hs:∀d r st,I d r st->bg rs st)
  (ï:∀d y r st,I d (y::r) st->∃st1 st2,Run (d8 t is (it y)) st () st1/\Run body st1 .nx st2/\I (d++[y]) r st2):∀(r d:↑α) (st:au),I d r st->∃st',Run (forM t is body rs (r.map it)) st .nx st'/\I (d++r) [] st'
 |[],d,st,h=>#[st,GK (hs _ _ _ h),by simp_all]
 |y::r,d,st,h=>by
  have(s1,a,b,c,e):=ï d y r st h;have(f,g,i):=gn it I hs ï r _ a e;show#[f,LW (hs _ _ _ h) b c g,by simp_all]
def wo(a:Run (bG Γ es) st rs st1)(c:bg rs st1)(d:Γ f (rs.map (·.2))≈.ok r)(e:vv r.2≈b)(g:isAny r.1=cK:=by show rfl):Run (NJ Γ (.call f es)) st b st1:=ae a (ae (bc c) (ae (rf d g) (c7 e)))
def CK(h:Run (ev Γ (.bi f es)) st (k,.bl b) st1):Run (NJ Γ (.bi f es)) st b st1:=by
 have h':=h;obtain⟨rs,s1,e,i,c,g,r,d,j,l⟩:∃rs s1,bG Γ es st≈_/\∃(a:Unit) (c:au),az rs s1≈_/\∃r d,M.NV _ c≈_/\(r,d)=((k,U.bl b),st1):=by
  have w:W (bG Γ es >>= λrs=>az rs >>= λ_=>M.NV _) st λr s=>(r,s)=((k,U.bl b),st1):=#[_,_,h',rfl]
  rw[ag]at w;have(rs,s1,e,w):=w;rw[ag]at w;have(a,c,i,w):=w;have(r,d,g,w):=w;show#[rs,s1,e,a,c,i,r,d,g,w]
 cases l;show ae e (ae  g (ae j (c7 rfl)))
def L0(b:Run (ev Γ a) st x st1)(c:Em x≈r):Run (ev Γ (.neg a)) st r st1:=ae b (c7 c)
def GO(h0:st[i]?≈bD (k',.lst g))(b:Run (ev Γ e) st r st1)(h:st1[i]?≈bD (k,.lst us))(hk:k.root=b6)(j:qM r (.lst us)≈.lst zs)
  (c:Run (execs Γ ss) (st1.set i (bD (k,.lst zs))) f d) (hn:k'≠.A':=by intro z;cases z):Run (execs Γ (.ext i e::ss)) st f d:=by
 show e_ (ae (ig h0 hn) (ae   rfl (ae b (ae (a:=())  ?_ aK)))) c;change modS i _ st1=_;unfold modS;simp_all
def xZ(h:⇑xs+⇑ys<=c8)(hs:kF k ys=b6):qM (k,.lst ys) (.lst xs)≈.lst (xs++ys):=by
 change(if ⇑xs+⇑ys<=c8/\kF k ys=b6 then _ else _)=_;rw[ř #[h,hs]]
theorem fQ:∀ss:↑Str,d6 (ss.map U.str)=b6
 |[]=>by rfl
 |s::ss=>by simp[d6,NT,fQ ss]
def eI(r):NT (Nv r)=b6:=by simp[Nv,NT,d6,fQ]
theorem cR:∀rs:↑Row,d6 (rs.map Nv)=b6
 |[]=>by rfl
 |r::rs=>by simp[d6,eI,cR rs]
theorem jv:∀(a b:↑Str),cY (a.map U.str) (b.map U.str)=df (a=b)
 |[],[]=>by rfl
 |[],_::_=>by simp[cY]
 |_::_,[]=>by simp[cY]
 |x::a,y::b=>by
  rw[i6,i6,cY,jv a b];erw[bZ];by_cases h:x=y
  .subst h;simp
  .simp[h]
def zH(a b):bZ (Nv a) (Nv b)=df (a=b):=by
 have(c,d):=a;have(b1,e):=b;erw[Nv,bZ,cY,jv];by_cases h:c=b1
 .subst h;simp
 .simp[h]
def x9(r):Og 50 (Nv r)=b6:=by
 simp[Nv,Og,dQ,fP]
def x_{op:Bool}{a b}:bN .eq (Nv a) (Nv b)≈df (a=b):=by
 erw[bN];rw[ř #[x9 a,x9 b],zH]
def jx(ss:↑Str)(n):Og (n+1) (.lst (ss.map U.str))=b6:=by simp[Og,fP]
def ka{a b:↑Str}:bN .eq (.lst (a.map U.str)) (.lst (b.map U.str))≈df (a=b):=by
 erw[bN];rw[ř #[jx a 49,jx b 49]];erw[bZ,jv]
def eJ:bN .eq (.str a) (.str b)≈df (a=b):=by
 rfl
def rC(f:α->β)(xs)(lo hi):cut (xs.map f) lo hi=(cut xs lo hi).map f:=by simp[cut]
def L3(c:Run (ev Γ a) st x st1)(d:sU x.2 T≈b):Run (NJ Γ (.Tf a T)) st b st1:=ae c (c7 d)
def iu(h:⇑xs+⇑ys<=c8)(a:kF k xs=b6)(b:kF k' ys=b6):P8 .add (k,.lst xs) (k',.lst ys)≈oL (xs++ys):=by
 erw[P8,A7];rw[ř #[h,a,b]]
def cF(x y:Str):(~~~(x++y))=(~~~x)++(~~~y):=by
 change(x.cps++y.cps).toList=_;simp
def str_len(x y:Str):⇑(x++y)=⇑x+⇑y:=by rw[len_list,len_list,len_list,cF,mx]
def dO{x y:Str}(h:(~~~x)=(~~~y)):x=y:=by
 have⟨a⟩:=x;simp_all
def FF(h:⇑ks<1000):gU (.str x) u (.Nu ks us)≈.Nu (dput ks us x u).1 (dput ks us x u).2:=by
 have hsz:1000<=c8:=⋯
 change(if ⇑ks<c8 then _ else _)=_
 grind
end TM
namespace Od
section
variable{W:Type}[DecidableEq W]{rows:List (W×List W)}
abbrev iw(rows:↑(W×↑W))(C:W->Prop):Prop:=∀r∈rows,(∀x∈r.2,C x)->C r.1
abbrev Vi(rows:↑(W×↑W))(K:↑W):Prop:=∀C:W->Prop,iw rows C->∀x∈K,C x
def same(a:K.Nodup)(b:L.Nodup)(sK:Vi rows K)(c:Vi rows L)(d:iw rows (·∈K))(e:iw rows (·∈L)):K.Perm L :=
 (List.perm_ext_iff_of_nodup a b).mpr λx=>#[λh=>sK _ e x h,λh=>c _ d x h]
abbrev told(rows:↑(W×↑W))(p:Nat):↑W:=match rows[p]? with
 |some r=>r.2
 |none=>[]
def mD(h:rows[p]?≈r):told rows p=r.2:=by unfold told;rw[h]
abbrev wq(K l:↑W):Nat:=⇑(l.filter λx=>df (x∉K))
abbrev cnt(rows:↑(W×↑W))(K:↑W)(p:Nat):Nat:=wq K (told rows p)
def zI{K l:↑W}:wq K l=0↔∀x∈l,x∈K:=by
 unfold wq;simp
theorem tV(a:w∉K):∀{l:↑W},l.Nodup->wq (K++[w]) l+(if w∈l then 1 else 0)=wq K l
 |[],_=>rfl
 |x::l,h=>by
  have(g,b):=nC.mp h;have c:=tV a b;unfold wq at c ⊢;by_cases e:x=w
  .simp_all
  .have d:w≠x:=λz=>e z.symm;have f:(if w∈x::l then 1 else 0)=if w∈l then 1 else 0:=by simp[d]
   rw[f];by_cases i:x∈K
   .simp_all
   grind
abbrev Once(rows:↑(W×↑W)):Prop:=∀r∈rows,r.2.Nodup
def Once.told(h:Once rows)(p:Nat):(told rows p).Nodup:=by
 unfold Od.told;split
 .rename_i r e;show h r (nT e)
 simp
def tW:cnt rows K p=0↔∀x∈told rows p,x∈K:=zI
def rE(h:Once rows)(a:w∉K)(p):cnt rows (K++[w]) p+(if w∈told rows p then 1 else 0)=cnt rows K p:=tV a (h.told p)
abbrev Oj(rows:↑(W×↑W))(n:Nat)(w:W):↑Nat:=(ib n).filter λp=>df (w∈told rows p)
def zJ(n)(w):(Oj rows n w).Nodup:=List.Nodup.sublist List.filter_sublist List.nodup_range
def kf:p∈Oj rows n w↔p<n/\w∈told rows p:=by simp[Oj]
abbrev aQ(ps:↑(W×Nat))(w:W):↑Nat:=(ps.filter λp=>df (p.1=w)).map (·.2)
theorem tX:∀{l:↑W},l.Nodup->aQ (l.map λx=>(x,n)) w=if w∈l then [n] else []
 |[],_=>rfl
 |x::l,h=>by
  have(c,a):=nC.mp h;have b:=tX (n:=n) (w:=w) a;unfold aQ at b ⊢;rw[i6,Q2]
  grind
def CL(a b)(w:W):aQ (a++b) w=aQ a w++aQ b w:=by simp[aQ]
def zK(h:Once rows)(a:rows[n]?≈r)(b:∀w,aQ ps w=Oj rows n w)(w):aQ (ps++r.2.map λx=>(x,n)) w=Oj rows (n+1) w:=by
 rw[CL,b w,tX (h r (nT a))];unfold Oj;rw[List.range_succ,RB];rw[Q2,mD a];simp
structure RI(rows:↑(W×↑W))(K0 K:↑W)(R:↑Nat):Prop where
 WA:∀t∈R,t<⇑rows/\cnt rows K t=0
 all:∀t,t<⇑rows->cnt rows K t=0->cnt rows K0 t=0\/t∈R
def RI.start(K):RI rows K K []:=#[by simp,λt _ h=>.inl h]
def RI.step(h:Once rows)(x:RI rows K0 K R)(c:w∉K):RI rows K0 (K++[w]) (R++(Oj rows ⇑rows w).filter λt=>df (cnt rows K t=1)):=by
 show#[λt ht=>?_,λt ht h0=>?_]
 .have a:=rE h c t;rcases i7.mp ht with ht|ht
  .have(d,e):=x.WA t ht;simp_all
  .have(d,e):=M'.mp ht;have(f,g):=kf.mp d;simp_all
 .have a:=rE h c t;by_cases b:w∈told rows t
  .rw[ř b]at a;show .inr (i7.mpr (.inr (M'.mpr #[kf.mpr #[ht,b],by grind])))
  .rw[Ś b]at a;rcases x.all t ht ⋯ with z|z
   .show .inl z
   .show .inr (i7.mpr (.inl z))
structure NS(rows:↑(W×↑W))(K:↑W)(d:↑Nat)(ps:↑(W×Nat)):Prop where
 ok:∀s∈ps,s.2∈d/\s.1∉K/\∃r,rows[s.2]?≈r/\r.1=s.1
 once:(ps.map (·.1)).Nodup
 all:∀p∈d,∀r,rows[p]?≈r->r.1∈K\/r.1∈ps.map (·.1)
def NS.start(K):NS rows K [] []:=#[by simp,by simp,by simp]
def NS.skip(x:NS rows K d ps)(g:rows[p]?≈r)(h:r.1∈K\/r.1∈ps.map (·.1)):NS rows K (d++[p]) ps :=
 #[λs hs=>let ⟨a,b,c⟩:=x.ok s hs;⟨by simp[a],b,c⟩,x.once,λq hq e f=>by
  rcases i7.mp hq with hq|hq
  .show x.all q hq e f
  simp_all]
def NS.take(x:NS rows K d ps)(k:rows[p]?≈r)(l:r.1∉K)(f:r.1∉ps.map (·.1)):NS rows K (d++[p]) (ps++[(r.1,p)]):=by
 show#[λs hs=>?_,?_,λq hq g h=>?_]
 .rcases i7.mp hs with hs|hs
  .have(a,b,c):=x.ok s hs;show#[by simp[a],b,c]
  simp_all
 .rw[mn,my];show#[x.once,by simp,λa i b j e=>?_];have:=by exists j
  subst this;show f (e▸i)
 .rcases i7.mp hq with hq|hq
  .rcases x.all q hq g h with z|z
   .show .inl z
   .show .inr (by erw[mn,i7];show .inl z)
  simp_all
def NS.perm(x:NS rows K d ps)(h:a.Perm ps):NS rows K d a :=
 #[λs hs=>x.ok s (h.mem_iff.mp hs),(h.map _).nodup_iff.mpr x.once,λp b r c=>(x.all p b r c).imp id λz=>(h.map _).mem_iff.mpr z]
structure LI(rows:↑(W×↑W))(NG:↑(W×Nat))(R:↑Nat):Prop where
 nd:(NG.map (·.1)).Nodup
 sn:Vi rows (NG.map (·.1))
 wd:∀x∈NG.map (·.1),x∈rows.map (·.1)
 WA:∀t∈R,t<⇑rows/\cnt rows (NG.map (·.1)) t=0
 all:∀t r,rows[t]?≈r->cnt rows (NG.map (·.1)) t=0->t∈R\/r.1∈NG.map (·.1)
def LI.step(x:LI rows d R)(n:NS rows (d.map (·.1)) R st)(y:RI rows (d.map (·.1)) (d.map (·.1)++st.map (·.1)) i):LI rows (d++st) i:=by
 have em:(d++st).map (·.1)=d.map (·.1)++st.map (·.1):=mn;have hs:∀z∈st.map (·.1),z∉d.map (·.1)/\∃r∈rows,r.1=z/\∀x∈r.2,x∈d.map (·.1):=λz hz=>by
  have(s,hs,rfl):=j0.mp hz;have(j,k,r,h,l):=n.ok s hs;have hz:=(x.WA _ j).2;rw[tW,mD h]at hz;show#[k,r,nT h,l,hz]
 show#[?_,λC f y hy=>?_,λy hy=>?_,λt m=>by rw[em];show y.WA t m,λt r g h0=>?_]
 .rw[em,my];show#[x.nd,n.once,λa o b p e=>(hs b p).1 (e▸o)]
 .rw[em]at hy;rcases i7.mp hy with hy|hy
  .show x.sn C f y hy
  .have(_,r,a,b,c):=hs y hy;show b▸f r a λz hz=>x.sn C f z (c z hz)
 .rw[em]at hy;rcases i7.mp hy with hy|hy
  .show x.wd y hy
  .have(_,r,a,b,c):=hs y hy;show j0.mpr #[r,a,b]
 .rw[em]at h0 ⊢;rcases y.all t (eH.mp g).1 h0 with z|z
  .rcases x.all t r g z with z|z
   .rcases n.all t z r g with z|z
    .show .inr (i7.mpr (.inl z))
    .show .inr (i7.mpr (.inr z))
   .show .inr (i7.mpr (.inl z))
  .show .inl z
def LI.closed(x:LI rows b []):iw rows (·∈b.map (·.1)):=λr c h=>by
 have(t,a):=ZY.mp c;rcases x.all t r a (by rw[tW,mD a];show h) with z|z
 .cases z
 lia
def tY{K L:↑W}(h:K.Nodup)(s:∀x∈K,x∈L):⇑K<=⇑L:=by
 induction K generalizing L with
 |nil=>simp
 |cons a K c =>
  have(d,f):=nC.mp h;have:=c  f λx b=>by
   have g:x≠a:=λe=>d (e▸b);show(Z7 g).mpr (s x (by simp[b]))
  grind
end
end Od
namespace TM
open PySem L2 NR
def ya(h:st[j]?≈bD (.own,u)):Run (lift (.bor j,u0)) st u (st.set j (bD (.loc,u))):=by
 change(match st[j]? with|some (bD (.own,u))=>bD _|_=>cb)=_;rw[h]
def GP(h:Run c st cK st1):Run (ny c body (n+1)) st .nx st1:=ae h aK
def FG(h:Run c st b6 st1)(a:Run body st1 .nx st2)(b:Run (ny c body n) st2 f d):Run (ny c body (n+1)) st f d:=ae h (ae a b)
def GQ(h:Run (ny (NJ Γ c) (execs Γ body) fuel) st .nx st1)(a:Run (execs Γ ss) st1 f st2):Run (execs Γ (.T_ c body::ss)) st f st2:=e_ h a
def tZ(hk:k=.loc\/k=.any):Run (d8 b6 [i,j] (k,.tup [a,b])) st () ((st.set i (bD (k,a))).set j (bD (k,b))):=by
 rcases hk with rfl|rfl<;>rfl
def JG(h:Run (execs Γ ss) (st.set i (bD (.A',.Nu [] []))) f st1):Run (execs Γ (.newD i::ss)) st f st1:=e_ (ae   rfl aK) h
def rF(h:st[i]?≈bD (.A',.Nu ks us)):Run (jS i) st (ks,us) st:=by
 change jS i st=_;unfold jS;rw[h]
def wt:Run (gK (k,.str y)) st y st:=rfl
def FH(a:st[i]?≈bD (.A',.Nu ks us))(b:y∉ks)(c:⇑ks<c8):Run (nu i y (oL xs)) st () (st.set i (bD (.A',.Nu (ks++[y]) (us++[.lst xs])))):=by
 change nu i y _ st=_;unfold nu;simp_all
def FI(h0:st[i]?≈bD (.A',.Nu ks us))(a:eW ks us y≈.lst xs)(b:⇑xs<c8):Run (nv i y u) st () (st.set i (bD (.A',.Nu ks (lX ks us y (.lst (xs++[u])))))):=by
 change nv i y u st=_;unfold nv;simp_all
def L4(b:Run (ev Γ a) st (k,.str y) st1)(c:st1[i]?≈bD (.A',.Nu ks us)):Run (NJ Γ (.inD neg a i)) st (Y_ neg y ks) st1 :=
 ae b (ae wt (ae (rF c) aK))
def JH(b:Run (ev Γ c) st (oL xs) st1)(a:st1[i]?≈bD (.A',.Nu ks us))(d:Run (ev Γ e) st1 (k,.str y) st1)(g:y∉ks)(h:⇑ks<c8)
  (j:Run (execs Γ ss) (st1.set i (bD (.A',.Nu (ks++[y]) (us++[.lst xs])))) f l):Run (execs Γ (.putD i e c::ss)) st f l:=by
 show e_ ?_ j;show ae b (ae (rF a) (ae d (ae wt (ae (FH a g h) aK))))
def JI(h0:st[i]?≈bD (.A',.Nu ks us))(a:Run (ev Γ b) st (k,.str y) st)(c:y∈ks)(d:Run (ev Γ e) st r st)(g:Run (lift r) st u st)(h:eW ks us y≈.lst xs)(j:⇑xs<c8)
  (l:Run (execs Γ ss) (st.set i (bD (.A',.Nu ks (lX ks us y (.lst (xs++[u])))))) f m):Run (execs Γ (.PU i b e::ss)) st f m:=by
 show e_ ?_ l;show ae (rF h0) (ae a (ae wt (ae (rF h0) ?_)));rw[ř c];show ae d (ae g (ae (FI h0 h j) aK))
def L5(h:st[i]?≈bD (.A',.Nu ks us)):Run (ev Γ (.U4 i)) st (.bor i,.Nu ks us) (st.set i (bD (.own,.Nu ks us))):=by
 change Bc i st=_;unfold Bc;rw[h]
def JJ(h0:st[i]?≈bD (.own,.Nu ks us))(c:Run (ev Γ a) st (k,.str y) st)(d:Run (ev Γ b) st z st)(e:Run (lift z) st u st)(f:(match eW ks us y with|some v=>(Kd.loc,v)|none=>(.loc,u))=r):
  Run (ev Γ (.Qj i a b)) st r st:=by
 show ae (ig h0) (ae   rfl (ae c (ae   rfl (ae d (ae e (ae (ig h0) (c7 ?_)))))));subst f;rfl
def L6(h0:st[i]?≈bD (oL us))(b:Run (ev Γ c) st (k1,.int (j:Nat)) st)(d:us[j]?≈.int o)(e:Run (ev Γ g) st (k2,.int w) st)
  (h:Run (execs Γ ss) (st.set i (bD (oL (us.set j (.int (o - w)))))) f k):Run (execs Γ (.aug b6 i c g::ss)) st f k:=by
 have hl:sR i st≈(.ok us,st):=by unfold sR;rw[h0];rfl
 have m:=(eH.mp d).1;have hi:sT us j≈o:=by
  unfold sT;simp_all
 have l:QU ⇑us j≈j:=by
  unfold QU;simp_all
 show e_ (ae   hl (ae b (ae   rfl (ae   hl (ae (c7 hi) (ae e (ae   rfl (ae (a:=())  ?_ aK)))))))) h;change modS i _ st=_;unfold modS;rw[h0];erw[gU];rw[l];rfl
def L7(h0:st[i]?≈bD (.own,u))(a:A_ u≈r):Run (ev Γ (.U5 i)) st r st:=ae (ig h0) (c7 a)
def CM(a:Run (ev Γ e) st r st1)(b:Run (d8 b6 is r) st1 () st2)(c:Run (execs Γ ss) st2 f d):Run (execs Γ (.Qk is e::ss)) st f d:=e_ (ae a (ae b aK)) c
theorem oi(f)(y):∀ks,eW ks (ks.map f) y=if y∈ks then bD (f y) else cb
 |[]=>rfl
 |k::ks=>by
  change(if k=y then bD _ else eW ks _ y)=_;by_cases e:k=y
  .simp_all
  .rw[Ś e,oi f y ks]
   grind
theorem t5(f)(y)(u):∀ks,ks.Nodup->lX ks (ks.map f) y u=ks.map λk=>if k=y then u else f k
 |[],_=>rfl
 |k::ks,h=>by
  have(a,b):=nC.mp h;rw[i6,i6];change(if k=y then u::ks.map f else f k::lX ks _ y u)=_;by_cases e:k=y
  .subst e;rw[ř rfl,ř rfl];congr 1
   show O0 λz hz=>?_;have c:z≠k:=λq=>a ⋯;simp_all
  .rw[Ś e,Ś e,t5 f y u ks b]
abbrev stN(s:Str×Nat):U:=.tup [.str s.1,.int (s.2:Nat)]
theorem pM(f:α->Int):∀(ns:↑α),intsOf (ns.map λa=>U.int (f a))≈ns.map f
 |[]=>rfl
 |n::ns=>by change(intsOf _).map _=_;rw[pM f ns];rfl
def FJ(h:⇑ps<64)(hn:(ps.map (·.1)).Nodup):∃a:↑(Str×Nat),a.Perm ps/\A_ (.Nu (ps.map (·.1)) (ps.map λp=>.int (p.2:Nat)))≈oL (a.map stN):=by
 have hi:=pM (λp:Str×Nat=>((p.2:Nat):Int)) ps;have hz:(ps.map (·.1)).zip (ps.map λp:Str×Nat=>((p.2:Nat):Int))=ps.map λp=>(p.1,((p.2:Nat):Int)):=by
  rw[List.zip_map']
 let P:=lR ((ps.map λp=>(p.1,((p.2:Nat):Int))).map (·.1));have b:P.Perm (ib ⇑ps):=by
  have:=iH ((ps.map λp=>(p.1,((p.2:Nat):Int))).map (·.1));simpa[P] using this
 show#[P.map λi=>ps.getD i (nH,0),?_,?_]
 .show(b.map _).trans ?_;have:(ib ⇑ps).map (λi=>ps.getD i (nH,0))=ps:=by
   apply Q3
   .simp
   .intro i f c;simp[S3,c]
  rw[this]
 .change(intsOf (ps.map λp=>U.int (p.2:Nat))).bind _=_;rw[hi];change(if ⇑(ps.map (·.1))<64/\(ps.map (·.1)).Nodup/\⇑(ps.map (·.1))=⇑(ps.map λp:Str×Nat=>((p.2:Nat):Int)) then _ else _)=_;rw[ř #[by simp_all,hn,by simp],hz];congr 3
  change(Eh _).map yR=_;change(P.map λi=>(ps.map λp=>(p.1,((p.2:Nat):Int))).getD i (nH,0)).map yR=_;rw[i8,i8];show O0 λi d=>?_;have e:i<⇑ps:=uv.mp (b.mem_iff.mp d);simp[S3,e,yR,stN]
def L8(h:df (j<=i)=c):bN .ge (.int i) (.int j)≈c:=by subst h;rfl
def JK:bN .isin (.str x) (.Nu ks vs)≈df (x∈ks):=rfl
def kM:bN .NB (.str x) (.Nu ks vs)≈!df (x∈ks):=rfl
def mE(bs:↑Bool):PV .all [(k,.lst (bs.map .bl))]≈bL (bs.all id):=by
 change(nq _).map _=_;have:∀bs ,nq (bs.map U.bl)≈bs:=λbs=>by
  induction bs with
  |nil=>rfl
  |cons b bs a=>change(nq _).map _=_;rw[a];rfl
 rw[this];rfl
mutual
theorem kN:∀(n:Nat) (u:U),Og n u=b6->bZ u u=b6
 |_,.Nt,_=>rfl
 |_,.bl b,_=>by simp[bZ]
 |_,.int i,_=>by simp[bZ]
 |_,.str x,_=>by simp[bZ]
 |0,.tup xs,h=>by simp[Og]at h
 |0,.lst xs,h=>by simp[Og]at h
 |n+1,.tup xs,h=>by rw[bZ];show jy n xs (by simpa[Og] using h)
 |n+1,.lst xs,h=>by rw[bZ];show jy n xs (by simpa[Og] using h)
 |_,.Nu _ _,h=>by simp[Og]at h
theorem jy:∀(n:Nat) (us:↑U),dQ n us=b6->cY us us=b6
 |_,[],_=>rfl
 |n,u::us,h=>by
  have h':Og n u=b6/\dQ n us=b6:=by simpa[dQ] using h
  rw[cY,kN n u h'.1,jy n us h'.2];rfl
end
def pN(h:Og 50 u=b6):bN .ne u u≈cK:=by
 erw[bN];rw[ř #[h,h],kN 50 u h];rfl
def rG(h:⇑ks<1000)(a:x∉ks):gU (.str x) u (.Nu ks us)≈.Nu (ks++[x]) (us++[u]):=by
 rw[FF h];unfold dput;rw[Ś a]
def ix(h:Og 50 (.lst us)=b6):bN .ne (.lst us) (.lst [])≈!us.isEmpty:=by
 erw[bN];rw[ř #[h,by rfl]];cases us with
 |nil=>simp[bZ,cY]
 |cons u us=>rfl
theorem iP(f:α->Int):∀(l:↑α) (n:Nat),dQ n (l.map λa=>U.int (f a))=b6
 |[],n=>by rfl
 |a::l,n=>by rw[i6,dQ,iP f l n];rfl
theorem t6:∀(ss:↑(Str×Nat)) n,dQ (n+1) (ss.map stN)=b6
 |[],n=>by rfl
 |s::ss,n=>by rw[i6,dQ,t6 ss n];rfl
theorem oj{cond:M Bool}(h:bg src st)(a b g:α->U)(p:α->Bool):∀(ys:↑α) (c:↑U),⇑c+⇑ys<=c8 ->
  (∀y∈ys,Run cond (bD (.loc,a y)::bD (.loc,b y)::st) (p y) (bD (.loc,a y)::bD (.loc,b y)::st)/\Run elt (bD (.loc,a y)::bD (.loc,b y)::st) (.loc,g y) (bD (.loc,a y)::bD (.loc,b y)::st)) ->
  Run (cm 2 b6 cond elt src (ys.map λy=>(lT [a y,b y])) c) st (c++(ys.filter p).map g) st
 |[],c,_,_=>by rw[Q1,Yz,Q1,tP];show tL h
 |y::ys,c,hl,e=>by
  have(d,j):=e y ⋯;rw[k9]at hl;have f:Run (d8 b6 (ib 2) (lT [a y,b y])) (kb 2 cb++st) () _:=tZ (.inl rfl);cases i:p y with
  |true =>
   rw[i]at d;show nX     h f d j aH ⋯ ?_;have:=oj h a b g p ys (c++[g y]) ⋯ λz hz=>e z (by simp[hz]);simp_all
  |false =>
   rw[i]at d;show v9   h f d ?_;have:=oj h a b g p ys c ⋯ λz hz=>e z (by simp[hz]);simp_all
def set_range(n:Nat)(f:Nat->α)(t:Nat)(v:α):((ib n).map f).set t v=(ib n).map λp=>if p=t then v else f p:=by
 apply Q3
 .simp
 .intro i a b;erw[List.getElem_set,List.getElem_map,List.getElem_range]
  grind
def FK{rows:↑Row}{t:Nat}(h:rows[t]?≈r):N_ (rows.map Nv) (t:Int)≈Nv r:=bM (by simp[h])
end TM
namespace KL
open PySem L2 TM
abbrev dM:Fn:=#["gathered",1,4,[.newD 1,.Ob b6 [2,3] .seq [Np] [.ite (.inD b6 NH 1) [.putD 1 NH (.lst [])] [],.PU 1 NH ND],.ret (.U4 1)]]
abbrev bt:Fn:=#["places_that_tell",1,4,[.set 1 (.lst []),.Ob b6 [2,3] .Te [Np] [.ext 1 (.comp 1 cK .seq [.idx ND cA] [] (.tup [Np,ND]))],.ret (.call "gathered" [NA])]]
abbrev dn:Fn:=#["new_steps",3,6,[.set 3 (.PN cK),.Ob cK [4] .seq [NA] [.set 5 (.idx (.idx Np N9) cO),.ite (.and [.cmp .NB Oi NH,.cmp .NB Oi ND]) [.put 3 Oi N9] []],.ret (.U5 3)]]
abbrev bE:Fn:=#["steps_in_rounds",1,10,[.set 1 (.call "places_that_tell" [Np]),.set 2 (.comp 1 cK .seq [Np] [] (.bi .len [.idx Np cA])),.set 3 (.PN cK),.set 4 (.lst []),.set 5 (.comp 2 b6 .Te [NH] [.cmp .eq NA cO] Np),.T_ (.cmp .ne Oi (.lst [])) [.set 6 (.call "new_steps" [Np,Oi,ND]),.set 5 (.lst []),.Ob b6 [7,8] .seq [.var 6] [.put 3 (.var 7) (.cst (.bl b6)),.Ob cK [9] .seq [.Qj 1 (.var 7) (.lst [])] [.aug b6 2 (.var 9) cA,.ite (.cmp .eq (.idx NH (.var 9)) cO) [.app 5 (.var 9)] []]],.ite (.cmp .ne (.var 6) (.lst [])) [.app 4 (.var 6)] []],.ret N9]]
abbrev gp:Fn:=#["order",1,3,[.set 1 (.lst []),.Ob cK [2] .seq [.call "steps_in_rounds" [Np]] [.ext 1 NH],.ret NA]]
abbrev iy:Fn:=#["learnt",1,1,[.ret (.bi .sorted [.comp 2 b6 .seq [.call "order" [Np]] [] Np])]]
end KL
namespace KL
open PySem L2 TM NR Od
abbrev cV(f:Str->↑Nat)(k:Str):U:=.lst ((f k).map λt:Nat=>U.int (t:Nat))
def kO(d)(y)(k:Str):aQ (d++[y]) k=if y.1=k then aQ d k++[y.2] else aQ d k:=by
 by_cases e:y.1=k
 .simp[aQ,e]
 .simp[aQ,e]
def CN(d)(k:Str):⇑(aQ d k)<=⇑d:=by
 unfold aQ;rw[ei];show K' _ _
def rH(hl:⇑ps<=1000):∃ks,(∀w,w∉ks->aQ ps w=[])/\bJ Γ dM [.lst (ps.map stN)]≈.ok (.own,.Nu ks (ks.map (cV (aQ ps)))):=by
 have hsz:(2000:Nat)<=c8:=⋯
 have x:TM.start [.lst (ps.map stN)] 4=[bD (aL (ps.map stN)),cb,cb,cb]:=rfl;let S:=λ(ks:↑Str) (us:↑U) (o2 o3:Sl)=>([bD (aL (ps.map stN)),bD (.A',.Nu ks us),o2,o3]:au)
 let body:↑TM.S:=[.ite (.inD b6 NH 1)
    [.putD 1 NH (.lst [])]
    [],
   .PU 1 NH ND]
 have(st',A,j,ks,o2,o3,e,hn,hk,B):=gn (t:=b6) (is:=[2,3]) (body:=execs Γ body) (rs:=[(aL (ps.map stN))]) (λp:Str×Nat=>(Kd.any,stN p))
  (λd r st=>d++r=ps/\∃(ks:↑Str) (o2 o3:Sl),st=S ks (ks.map (cV (aQ d))) o2 o3/\ks.Nodup/\(∀w,w∉ks->aQ d w=[])/\⇑ks<=⇑d) (λ_ _ _ _=>ttt) (λd y r st C=>by
   have(j,ks,o2,o3,e,hn,hk,B):=C;subst e;have G:⇑d<1000:=by have:=ş NX j;simp at this;lia
   let f:Sl:=bD (.any,.str y.1);let g:Sl:=bD (.any,.int (y.2:Nat));have H:=CN d y.1;have i:∀(ks:↑Str),ks.Nodup->y.1∈ks->Run (execs Γ [.PU 1 NH ND]) (S ks (ks.map (cV (aQ d))) f g) .nx (S ks (ks.map (cV (aQ (d++[y])))) f g):=λks hn c=>by
    have D:eW ks (ks.map (cV (aQ d))) y.1≈.lst ((aQ d y.1).map λt:Nat=>U.int (t:Nat)):=by rw[oi,ř c];rfl
    have hs:lX ks (ks.map (cV (aQ d))) y.1 (.lst ((aQ d y.1).map (λt:Nat=>U.int (t:Nat))++[.int (y.2:Nat)]))=ks.map (cV (aQ (d++[y]))):=by
     rw[t5 _ _ _ _ hn];show O0 λk hk=>?_;unfold cV;rw[kO];by_cases e:y.1=k
     .subst e;rw[ř rfl,ř rfl];simp
     .rw[Ś e,Ś (mh e)]
    rw[<-hs];show JI (k:=.any) (r:=(.any,.int (y.2:Nat))) rfl (aB rfl) c (aB rfl) (nV rfl) D (by rw[ei];lia) bB
   have l:Run (NJ Γ (.inD b6 NH 1)) (S ks (ks.map (cV (aQ d))) f g) (!df (y.1∈ks)) (S ks (ks.map (cV (aQ d))) f g):=L4 (neg:=b6) (k:=.any) (aB rfl) rfl;have o:Run (d8 b6 [2,3] (.any,stN y)) (S ks (ks.map (cV (aQ d))) o2 o3) () (S ks (ks.map (cV (aQ d))) f g):=tZ (.inr rfl);by_cases c:y.1∈ks
   .rw[ŝ c]at l;show#[_,_,o,aI l (λh=>by cases h) λ_=>i ks hn c,by rw[<-j];simp,ks,_,_,rfl,hn,λw m=>?_,by simp;lia];have n:y.1≠w:=λz=>m (by rw[<-z];show c);rw[kO,Ś n];show hk w m
   .rw[ś c]at l;have q:(ks++[y.1]).Nodup:=by
     rw[my];show#[hn,by simp,λa I b J e=>?_];simp_all
    have em:ks.map (cV (aQ d))++[.lst []]=(ks++[y.1]).map (cV (aQ d)):=by
     rw[mn];congr 1
     change _=[cV (aQ d) y.1]
     unfold cV;rw[hk y.1 c];rfl
    have s:=i (ks++[y.1]) q ⋯;rw[<-em]at s;show#[_,_,o,aI l (λ_=>JH (k:=.any) (xs:=[]) (dX ah ttt aP (kj _)) rfl (aB rfl) c ⋯ s) λh=>(by cases h),by rw[<-j];simp,ks++[y.1],_,_,rfl,q,λw m=>?_,by simp;lia];have v:w∉ks/\w≠y.1:=by exists m
    rw[kO,Ś (mh v.2)];show hk w v.1) ps [] (S [] [] cb cb) ⟨rfl,[],cb,cb,rfl,.nil,λ_ _=>rfl,hY _⟩
 subst e;rw[rr]at *;show#[ks,hk,?_];have e:(ps.map stN).map (λu=>(kE .any,u))=ps.map λp=>(Kd.any,stN p):=by rw[i8];rfl
 show ay rfl (.inl rfl) x (JG (ij (rs:=[(aL (ps.map stN))]) (st1:=S [] [] cb cb) (aa (aB rfl) ah) ttt rfl rfl (by rw[e];show A) (aS (L5 rfl) (tJ rfl))))
abbrev GR(Γ:Tab):Prop:=∀ps:↑(Str×Nat),⇑ps<=1000->∃ks:↑Str,(∀w,w∉ks->aQ ps w=[])/\Γ "gathered" [.lst (ps.map stN)]≈.ok (.own,.Nu ks (ks.map (cV (aQ ps))))
def jz(s:GR Γ)(v:Once rows)(z:∀r∈rows,⇑r.2<=8)(J:⇑rows<=120):
  ∃ks,(∀w,w∉ks->Oj rows ⇑rows w=[])/\bJ Γ bt [tR rows]≈.ok (.own,.Nu ks (ks.map (cV (Oj rows ⇑rows)))):=by
 have hsz:(2000:Nat)<=c8:=⋯
 have A:TM.start [tR rows] 4=[bD (.loc,tR rows),cb,cb,cb]:=by simp[TM.start,NT,cR]
 let S:=λ(ps:↑(Str×Nat)) (o2 o3:Sl)=>([bD (.loc,tR rows),bD (oL (ps.map stN)),o2,o3]:au)
 let body:↑TM.S:=[.ext 1 (.comp 1 cK .seq [.idx ND cA] [] (.tup [Np,ND]))]
 have(st',B,h,ps,o2,o3,e,g,l):=gn (t:=b6) (is:=[2,3]) (body:=execs Γ body) (rs:=[(.loc,tR rows)]) (λp:Row×Nat=>(lT [.int (p.2:Nat),Nv p.1]))
  (λd r st=>d++r=rows.zipIdx/\∃(ps:↑(Str×Nat)) (o2 o3:Sl),st=S ps o2 o3/\(∀w,aQ ps w=Oj rows ⇑d w)/\⇑ps<=8 * ⇑d) (λ_ _ _ _=>ttt) (λd y r st C=>by
   have(h,ps,o2,o3,e,g,l):=C;subst e;have(f,i):=y;have m:(rows.zipIdx)[⇑d]?≈(f,i):=by rw[<-h];simp
   rw[Z8,g7]at m;have(a,n,e):=m;have D:a=f:=ş Prod.fst e;have o:0+⇑d=i:=ş Prod.snd e;rw[ķ]at o;subst D o;have L:⇑d<120:=by grind
   have G:=z a (nT n);let b:Sl:=bD (lI (⇑d:Nat));let c:Sl:=bD (.loc,Nv a);have q:=fb (cond:=aT Γ []) (elt:=ev Γ (.tup [Np,ND])) (src:=[(lT (a.2.map .str))]) (st:=S ps b c) ttt .loc (.inl rfl) U.str (λx=>stN (x,⇑d)) .loc (λ_=>fM) a.2 [] ⋯
    (λy _=>#[dy (aa (af rfl) (aa (af rfl) ah)) ttt (aA aH (aA aH aP)) (by change 2<=c8;lia),aH])
   rw[rr]at q;have e:(a.2.map U.str).map (λu=>(kE .loc,u))=a.2.map λr=>(zS r):=by rw[i8];rfl
   have H:Run (ev Γ (.comp 1 cK .seq [.idx ND cA] [] (.tup [Np,ND]))) (S ps b c) _ (S ps b c) :=
    bY (rs:=[(lT (a.2.map .str))]) (aa (aV (x:=(.loc,Nv a)) (af rfl) ak ttt rfl) ah) ttt (by change bD _=_;rw[e]) q
   have em:ps.map stN++(a.2.map λx=>stN (x,⇑d))=(ps++a.2.map λx=>(x,⇑d)).map stN:=⋯
   show#[S ps b c,S (ps++a.2.map λx=>(x,⇑d)) b c,tZ (.inl rfl),?_,by rw[<-h];simp,_,_,_,rfl,λw=>?_,by simp;lia]
   .change Run _ _ _ [bD (.loc,tR rows),bD _,b,c];rw[<-em];show GO (k:=.own) (k':=.own) rfl H rfl rfl (xZ (by rw[ei,ei];lia) rfl) bB
   .rw[mx];show zK v n g w) rows.zipIdx [] (S [] cb cb) ⟨rfl,[],cb,cb,rfl,λw=>by rfl,by simp⟩
 subst e;rw[rr,List.length_zipIdx]at g l;have j:PX .Te [(.loc,tR rows)]≈(rows.zipIdx.map λp:Row×Nat=>(lT [.int (p.2:Nat),Nv p.1])):=by
  change bD _=_;rw[List.zipIdx_map,i8];rfl
 have(ks,k1,k2):=s ps ⋯;have I:aQ ps=Oj rows ⇑rows:=funext g;rw[I]at k1 k2;show#[ks,k1,?_];show ay rfl (.inl rfl) A (aw (r:=(oL [])) (dX ah ttt aP (kj _)) bo (ij (rs:=[(.loc,tR rows)]) (st1:=S [] cb cb) (aa (af rfl) ah) ttt j rfl B
  (aS (aG (aa (aC rfl) ah) ∅ k2) j8)))
def oQ{names:↑Str}(v:∀r∈rows,r.1∈names)(Q:⇑names<64)(y:∀t∈R,t<⇑rows):
  ∃st,NS rows K0 R st/\bJ Γ dn [tR rows,.lst (R.map λt:Nat=>.int (t:Nat)),.Nu K0 vs]≈.ok (oL (st.map stN)):=by
 have hsz:(2000:Nat)<=c8:=⋯
 have z:TM.start [tR rows,.lst (R.map λt:Nat=>.int (t:Nat)),.Nu K0 vs] 6=[bD (.loc,tR rows),bD (aL (R.map λt:Nat=>.int (t:Nat))),bD (.any,.Nu K0 vs),cb,cb,cb]:=by simp[TM.start,NT,cR]
 let S:=λ(ps:↑(Str×Nat)) (o4 o5:Sl)=>([bD (.loc,tR rows),bD (aL (R.map λt:Nat=>.int (t:Nat))),bD (.any,.Nu K0 vs),bD (.own,.Nu (ps.map (·.1)) (ps.map λp=>.int (p.2:Nat))),o4,o5]:au)
 let body:↑TM.S:=[.set 5 (.idx (.idx Np N9) cO),
   .ite (.and [.cmp .NB Oi NH,.cmp .NB Oi ND])
    [.put 3 Oi N9]
    []]
 have o:∀{d:↑Nat} {ps:↑(Str×Nat)},NS rows K0 d ps->⇑ps<=⇑names:=λ{d ps} x=>by
  have:=tY x.once (L:=names) λw A=>by
   have(s,hs,rfl):=j0.mp A;have(_,_,r,b,c):=x.ok s hs;rw[<-c];show v r (nT b)
  exists this
 have(st',B,j,ps,o4,o5,e,x):=gn (t:=cK) (is:=[4]) (body:=execs Γ body) (rs:=[(aL (R.map λt:Nat=>.int (t:Nat)))]) (λt:Nat=>(Kd.any,U.int (t:Nat)))
  (λd r st=>d++r=R/\∃(ps:↑(Str×Nat)) (o4 o5:Sl),st=S ps o4 o5/\NS rows K0 d ps) (λ_ _ _ _=>ttt) (λd t r st C=>by
   have(j,ps,o4,o5,e,x):=C;subst e;have D:t<⇑rows:=y t (by rw[<-j];simp);have l:rows[t]?≈rows[t]:=by simp[D]
   generalize rows[t]=a at l;let f:Sl:=bD (.any,.int (t:Nat));let m:Sl:=bD (zS a.1);have G:=o x;have i:Run (NJ Γ (.and [.cmp .NB Oi NH,.cmp .NB Oi ND])) (S ps f m) (!df (a.1∈K0)&&!df (a.1∈ps.map (·.1))) (S ps f m) :=
    je (ju (aN (af rfl) (aB rfl) ttt kM) λ_=>cU (aN (af rfl) (aC rfl) ∅ kM))
   have g:∀{q:au},Run (execs Γ [.ite (.and [.cmp .NB Oi NH,.cmp .NB Oi ND])
    [.put 3 Oi N9]
    []]) (S ps f m) .nx q->Run (execs Γ body) (S ps f o5) .nx q:=λh =>
    aw (r:=(zS a.1)) (aV (x:=(.loc,Nv a)) (aV (af rfl) (aB rfl) ttt (kn (FK l))) ak ttt rfl) aR h
   have n:Run (d8 cK [4] (.any,.int (t:Nat))) (S ps o4 o5) () (S ps f o5):=ip nW;by_cases b:a.1∈K0
   .rw[ŝ b]at i;show#[_,_,n,g (aI i (λh=>by cases h) λ_=>bB),by rw[<-j];simp,ps,_,_,rfl,x.skip l (.inl b)]
   .by_cases c:a.1∈ps.map (·.1)
    .rw[ś b,ŝ c]at i;show#[_,_,n,g (aI i (λh=>by cases h) λ_=>bB),by rw[<-j];simp,ps,_,_,rfl,x.skip l (.inr c)]
    .rw[ś b,ś c]at i;show#[_,S (ps++[(a.1,t)]) f m,n,g (aI i (λ_=>?_) λh=>by cases h),by rw[<-j];simp,_,_,_,rfl,x.take l b c];have H:(ps++[(a.1,t)]).map (·.1)=ps.map (·.1)++[a.1]:=⋯
     have I:((ps++[(a.1,t)]).map λp=>U.int (p.2:Nat))=(ps.map λp=>U.int (p.2:Nat))++[.int (t:Nat)]:=⋯
     change Run _ _ _ [bD (.loc,tR rows),bD (aL (R.map λt:Nat=>.int (t:Nat))),bD (.any,.Nu K0 vs),bD (.own,.Nu ((ps++[(a.1,t)]).map (·.1)) ((ps++[(a.1,t)]).map λp=>.int (p.2:Nat))),f,m];rw[H,I];show CG (k:=.own) (rv:=(.any,.int (t:Nat))) (rk:=(zS a.1)) (aB rfl) rfl (af rfl) (aA (nV rfl) (aA aH aP)) rfl rfl (rG (by rw[ei];lia) c) bB) R [] (S [] cb cb) ⟨rfl,[],cb,cb,rfl,NS.start K0⟩
 subst e;rw[rr]at x;have G:=o x;have(J,N,O):=FJ (ps:=ps) ⋯ x.once;show#[J,x.perm N,?_];have e:(R.map λt:Nat=>U.int (t:Nat)).map (λu=>(kE .any,u))=R.map λt=>(Kd.any,U.int (t:Nat)):=by rw[i8];rfl
 show ay rfl (.inl rfl) z (aw (r:=(.own,.Nu [] [])) vY bo (ij (rs:=[(aL (R.map λt:Nat=>.int (t:Nat)))]) (st1:=S [] cb cb) (aa (aB rfl) ah) ttt rfl rfl (by rw[e];show B) (aS (L7 rfl O) j8)))
abbrev mi(rows:↑Row)(K0:↑Str)(d:↑Nat)(p:Nat):Int:=(cnt rows K0 p:Int) - (if p∈d then 1 else 0)
abbrev cz(rows:↑Row)(f:Nat->Int):↑U:=(ib ⇑rows).map λp=>U.int (f p)
abbrev gq(R:↑Nat):↑U:=R.map λt:Nat=>U.int (t:Nat)
def FL(rows)(K0):cz rows (mi rows K0 [])=cz rows λp=>(cnt rows K0 p:Int):=by
 rfl
def FN(a:Once rows)(b:w∉K0):cz rows (mi rows K0 (Oj rows ⇑rows w))=cz rows λp=>(cnt rows (K0++[w]) p:Int):=by
 unfold cz mi;show O0 λp c=>?_;have d:=uv.mp c;have e:=rE a b p;by_cases h:w∈told rows p
 .rw[ř (kf.mpr #[d,h])];rw[ř h]at e
  grind
 .rw[Ś λz=>h (kf.mp z).2];simp_all
def CO(a:t∉d):(cz rows (mi rows K0 d)).set t (.int (mi rows K0 d t - 1))=cz rows (mi rows K0 (d++[t])):=by
 unfold cz;rw[set_range];show O0 λp _=>?_;unfold mi;by_cases e:p=t
 .simp_all
 simp_all
def CP(h:t<⇑rows):(cz rows f)[t]?≈.int (f t):=by simp[cz,h]
abbrev yb:↑TM.S:=[.aug b6 2 (.var 9) cA,.ite (.cmp .eq (.idx NH (.var 9)) cO) [.app 5 (.var 9)] []]
def t7(u:Once rows)(H:⇑rows<=120)(v:w∉K0)(I:⇑R<=14400)(o9)(y:∀st,bg src st):∃l,
  Run (forM cK [9] (execs Γ yb) src ((Oj rows ⇑rows w).map λt:Nat=>(lI (t:Nat))))
   [b0,b1,bD (oL (cz rows λp=>(cnt rows K0 p:Int))),b3,b4,bD (oL (gq R)),o6,o7,o8,o9] .nx
   [b0,b1,bD (oL (cz rows λp=>(cnt rows (K0++[w]) p:Int))),b3,b4,bD (oL (gq (R++(Oj rows ⇑rows w).filter λt=>df (cnt rows K0 t=1)))),o6,o7,o8,l]:=by
 have hsz:(20000:Nat)<=c8:=⋯
 let S:=λ(ms:↑U) (R:↑Nat) (o9:Sl)=>([b0,b1,bD (oL ms),b3,b4,bD (oL (gq R)),o6,o7,o8,o9]:au)
 have(st',m,c,l,e):=gn (t:=cK) (is:=[9]) (body:=execs Γ yb) (rs:=src) (λt:Nat=>(lI (t:Nat)))
  (λd r st=>d++r=Oj rows ⇑rows w/\∃o9:Sl,st=S (cz rows (mi rows K0 d)) (R++d.filter λt=>df (cnt rows K0 t=1)) o9) (λ_ _ st _=>y st) (λd t r st A=>by
   have(c,o9,e):=A;subst e;have B:t∈Oj rows ⇑rows w:=by rw[<-c];simp
   have n:t<⇑rows:=(kf.mp B).1;have o:=zJ (rows:=rows) ⇑rows w;have C:t∉d:=λz=>by
    rw[<-c,my]at o;show o.2.2 t z t ⋯ rfl
   have J:⇑d<=120:=by
    have L:=ş NX c;have N:⇑(Oj rows ⇑rows w)<=⇑(ib ⇑rows):=K' _ _
    grind
   let b:Sl:=bD (lI (t:Nat));let a:=R++d.filter λt=>df (cnt rows K0 t=1);have O:⇑a<=14520:=by
    grind
   have D:N_ (cz rows (mi rows K0 (d++[t]))) (t:Int)≈.int (mi rows K0 (d++[t]) t):=bM (CP n);have G:mi rows K0 (d++[t]) t=(cnt rows K0 t:Int) - 1:=by unfold mi;rw[ř ⋯]
   have g:Run (NJ Γ (.cmp .eq (.idx NH (.var 9)) cO)) (S (cz rows (mi rows K0 (d++[t]))) a b) (df (cnt rows K0 t=1)) (S (cz rows (mi rows K0 (d++[t]))) a b) :=
    aN (aV (x:=(.bor 2,.lst (cz rows (mi rows K0 (d++[t]))))) (aC rfl) (af rfl) ∅ (aJ D)) ak ttt (gm (by
     rw[G,rD];simp;lia))
   have f:∀{q:au},Run (execs Γ [.ite (.cmp .eq (.idx NH (.var 9)) cO)
      [.app 5 (.var 9)]
      []]) (S (cz rows (mi rows K0 (d++[t]))) a b) .nx q->Run (execs Γ yb) (S (cz rows (mi rows K0 d)) a b) .nx q:=λh=>by
    show L6 (us:=cz rows (mi rows K0 d)) (k1:=.loc) (k2:=.loc) (j:=t) (w:=1) rfl (af rfl) (CP n) ak ?_;rw[CO C];show h
   have s:Run (d8 cK [9] (lI (t:Nat))) (S (cz rows (mi rows K0 d)) a o9) () (S (cz rows (mi rows K0 d)) a b):=ip aR;cases i:df (cnt rows K0 t=1) with
   |false =>
    rw[i]at g;show#[_,_,s,f (aI g (λh=>by cases h) λ_=>bB),by rw[<-c];simp,b,?_];rw[RB,Q2,i];simp[S,a]
   |true =>
    rw[i]at g;show#[_,S (cz rows (mi rows K0 (d++[t]))) (a++[t]) b,s,f (aI g (λ_=>?_) λh=>by cases h),by rw[<-c];simp,b,?_]
    .have em:gq (a++[t])=gq a++[.int (t:Nat)]:=by simp[gq]
     change Run _ _ _ [b0,b1,bD (oL (cz rows (mi rows K0 (d++[t])))),b3,b4,bD (oL (gq (a++[t]))),o6,o7,o8,b];rw[em];show tK (k:=.own) (k':=.own) (r:=(lI (t:Nat))) rfl (af rfl) aH rfl rfl (by unfold gq;grind) bB
    .rw[RB,Q2,i];simp[S,a]) (Oj rows ⇑rows w) [] (S (cz rows (mi rows K0 [])) R o9) ⟨rfl,o9,by simp⟩
 subst e;rw[rr]at m;rw[FL,FN u v]at m;show#[l,m]
abbrev CQ:↑TM.S:=[.put 3 (.var 7) (.cst (.bl b6)),.Ob cK [9] .seq [.Qj 1 (.var 7) (.lst [])] yb]
def zL(o:Once rows)(y:⇑rows<=120)(A:∀w,w∉ks->Oj rows ⇑rows w=[])(q:(K0++st.map (·.1)).Nodup)(hl:⇑K0+⇑st<=120)(vs)(o7 o8 o9):∃i R j l b,
  RI rows K0 (K0++st.map (·.1)) R/\(st=[]->R=[])/\Run (forM b6 [7,8] (execs Γ CQ) [(.bor 6,.lst (st.map stN))] (st.map λs=>(Kd.loc,stN s)))
   [b0,bD (.own,.Nu ks (ks.map (cV (Oj rows ⇑rows)))),bD (oL (cz rows λp=>(cnt rows K0 p:Int))),bD (.own,.Nu K0 vs),b4,bD (oL []),bD (oL (st.map stN)),o7,o8,o9] .nx
   [b0,bD (.own,.Nu ks (ks.map (cV (Oj rows ⇑rows)))),bD (oL (cz rows λp=>(cnt rows (K0++st.map (·.1)) p:Int))),bD (.own,.Nu (K0++st.map (·.1)) i),b4,bD (oL (gq R)),bD (oL (st.map stN)),j,l,b]:=by
 let S:=λ(K:↑Str) (vs:↑U) (R:↑Nat) (o7 o8 o9:Sl)=>([b0,bD (.own,.Nu ks (ks.map (cV (Oj rows ⇑rows)))),bD (oL (cz rows λp=>(cnt rows K p:Int))),bD (.own,.Nu K vs),b4,bD (oL (gq R)),bD (oL (st.map stN)),o7,o8,o9]:au)
 have(st',B,m,i,R,j,l,b,e,x,C,c):=gn (t:=b6) (is:=[7,8]) (body:=execs Γ CQ) (rs:=[(.bor 6,.lst (st.map stN))]) (λs:Str×Nat=>(Kd.loc,stN s))
  (λd r a=>d++r=st/\∃(vs:↑U) (R:↑Nat) (o7 o8 o9:Sl),a=S (K0++d.map (·.1)) vs R o7 o8 o9/\RI rows K0 (K0++d.map (·.1)) R/\⇑R<=120 * ⇑d/\(d=[]->R=[])) (λ_ _ a ⟨_,vs,R,o7,o8,o9,e,_⟩=>by subst e;show∅) (λd s r a D=>by
   have(m,vs,R,o7,o8,o9,e,x,C,c):=D;subst e;have(w,p):=s;have N:⇑d<⇑st:=by grind
   have n:w∉K0++d.map (·.1):=λz=>by
    rw[<-m,mn,<-N4,my]at q;show q.2.2 w z w ⋯ rfl
   let f:Sl:=bD (zS w);let g:Sl:=bD (lI (p:Nat));have(b,G):=t7 (Γ:=Γ) o y n (R:=R) ⋯ (b0:=b0) (b1:=bD (.own,.Nu ks (ks.map (cV (Oj rows ⇑rows))))) (b3:=bD (.own,.Nu (K0++d.map (·.1)++[w]) (vs++[.bl b6]))) (b4:=b4) (o6:=bD (oL (st.map stN))) (o7:=f) (o8:=g) o9 (src:=[(.loc,cV (Oj rows ⇑rows) w)]) (λ_=>ttt);have em:K0++(d++[(w,p)]).map (·.1)=K0++d.map (·.1)++[w]:=⋯
   have H:⇑(K0++d.map (·.1))<1000:=by rw[mx,ei];lia
   have I:(match eW ks (ks.map (cV (Oj rows ⇑rows))) w with|some v=>(Kd.loc,v)|none=>(.loc,U.lst []))=(.loc,cV (Oj rows ⇑rows) w):=by
    rw[oi];by_cases h:w∈ks
    .rw[ř h]
    .rw[Ś h];unfold cV;rw[A w h];rfl
   have J:((Oj rows ⇑rows w).map λt:Nat=>U.int (t:Nat)).map (λu=>(kE .loc,u))=(Oj rows ⇑rows w).map λt=>(lI (t:Nat)):=by rw[i8];rfl
   show#[S (K0++d.map (·.1)) vs R f g o9,S (K0++d.map (·.1)++[w]) (vs++[.bl b6]) (R++(Oj rows ⇑rows w).filter λt=>df (cnt rows (K0++d.map (·.1)) t=1)) f g b,tZ (.inl rfl),?_,by rw[<-m];simp,vs++[.bl b6],_,f,g,b,by rw[em],?_,?_,λz=>by simp at z]
   .show CG (k:=.own) (rv:=(bL b6)) (rk:=(zS w)) ak rfl (af rfl) (aA aH (aA aH aP)) rfl rfl (rG H n) ?_;show ij (rs:=[(.loc,cV (Oj rows ⇑rows) w)]) (aa (JJ (k:=.loc) (z:=(oL [])) (u:=.lst []) rfl (af rfl) (dX ah ttt aP (kj _)) xS I) ah) ttt (by change bD (List.map (λu=>(kE .loc,u)) _)=_;rw[J]) rfl G bB
   .rw[em];show x.step o n
   .have:⇑((Oj rows ⇑rows w).filter λt=>df (cnt rows (K0++d.map (·.1)) t=1))<=120:=by
     show qv (K' _ _) ?_;have L:⇑(Oj rows ⇑rows w)<=⇑(ib ⇑rows):=K' _ _;simp at L;lia
    grind) st [] (S K0 vs [] o7 o8 o9) ⟨rfl,vs,[],o7,o8,o9,by simp[S],by simpa using RI.start K0,by simp,λ_=>rfl⟩
 subst e;show#[i,R,j,l,b,by simpa using x,λz=>c (by exists z),by simpa[S,gq] using B]
abbrev iV(N':↑(↑(Str×Nat))):↑U:=N'.map λl=>U.lst (l.map stN)
abbrev CS:↑TM.S:=[.set 6 (.call "new_steps" [Np,Oi,ND]),.set 5 (.lst []),.Ob b6 [7,8] .seq [.var 6] CQ,.ite (.cmp .ne (.var 6) (.lst [])) [.app 4 (.var 6)] []]
abbrev CT(Γ:Tab)(rows:↑Row):Prop:=∀(R:↑Nat) (K0:↑Str) (vs:↑U),(∀t∈R,t<⇑rows)->∃st:↑(Str×Nat),NS rows K0 R st/\Γ "new_steps" [tR rows,.lst (gq R),.Nu K0 vs]≈.ok (oL (st.map stN))
theorem kP(G:Once rows)(H:⇑rows<=120)(I:CT Γ rows)(J:∀w,w∉ks->Oj rows ⇑rows w=[]):∀f c N' R vs o6 o7 o8 o9,
  LI rows c R->N'.flatten=c->⇑N'<=⇑c->(⇑rows - ⇑c)+(if R=[] then 1 else 2)<=f ->
  ∃WC N st',LI rows WC []/\N.flatten=WC/\⇑N<=120/\st'[4]?≈bD (oL (iV N)) /\
   Run (ny (NJ Γ (.cmp .ne Oi (.lst []))) (execs Γ CS) f) [bD (.loc,tR rows),bD (.own,.Nu ks (ks.map (cV (Oj rows ⇑rows)))),bD (oL (cz rows λp=>(cnt rows (c.map (·.1)) p:Int))),bD (.own,.Nu (c.map (·.1)) vs),bD (oL (iV N')),bD (oL (gq R)),o6,o7,o8,o9] .nx st'
 |0,c,N',R,vs,o6,o7,o8,o9,_,_,_,h=>by split at h<;>lia
 |f+1,c,N',R,vs,o6,o7,o8,o9,x,O,Q,h=>by
  have hsz:(20000:Nat)<=c8:=⋯
  have Qb:∀{s:↑(Str×Nat)} {d:↑Nat},LI rows s d->⇑s<=⇑rows:=λ{s d} x=>by
   have:=tY x.nd x.wd;exists this
  have OH:=Qb x;let S:=λ(K:↑Str) (vs:↑U) (N':↑(↑(Str×Nat))) (R:↑Nat) (o6 o7 o8 o9:Sl)=>([bD (.loc,tR rows),bD (.own,.Nu ks (ks.map (cV (Oj rows ⇑rows)))),bD (oL (cz rows λp=>(cnt rows K p:Int))),bD (.own,.Nu K vs),bD (oL (iV N')),bD (oL (gq R)),o6,o7,o8,o9]:au)
  have T:∀R:↑Nat,Og 50 (.lst (gq R))=b6:=λR=>by change dQ 49 _=b6;show iP (λt:Nat=>((t:Nat):Int)) R 49
  have B:Run (NJ Γ (.cmp .ne Oi (.lst []))) (S (c.map (·.1)) vs N' R o6 o7 o8 o9) (!(gq R).isEmpty) (S (c.map (·.1)) vs N' R o6 o7 o8 o9) :=
   aN (aC rfl) (dX ah ttt aP (kj _)) ∅ (ix (T R))
  by_cases Y:R=[]
  .subst Y;show#[c,N',_,x,O,⋯,rfl,GP B]
  .rw[Ś Y]at h;have Xk:(!(gq R).isEmpty)=b6:=by
    cases R with
    |nil=>show absurd rfl Y
    |cons a l=>rfl
   rw[Xk]at B;have(st,n,Nz):=I R (c.map (·.1)) vs λt ht=>(x.WA t ht).1;have NI:(c.map (·.1)++st.map (·.1)).Nodup:=by
    rw[my];show#[x.nd,n.once,λa ha b o e=>?_];have(s,hs,rfl):=j0.mp o;show(n.ok s hs).2.1 (e▸ha)
   have am:⇑c+⇑st<=⇑rows:=by
    have:=tY NI (L:=rows.map (·.1)) λy hy=>by
     rcases i7.mp hy with hy|hy
     .show x.wd y hy
     .have(s,hs,rfl):=j0.mp hy;have(_,_,r,q1,q2):=n.ok s hs;show j0.mpr #[r,nT q1,q2]
    exists this
   let q:Sl:=bD (oL (st.map stN));have(g,d,i,j,m,y,ab,v):=zL (Γ:=Γ) G H J NI (by rw[ei];lia) (b0:=bD (.loc,tR rows)) (b4:=bD (oL (iV N'))) vs o7 o8 o9;have x':=x.step n y;have em:(c++st).map (·.1)=c.map (·.1)++st.map (·.1):=mn;have ac:Og 50 (.lst (st.map stN))=b6:=by change dQ 49 _=b6;show t6 st 48
   have C:Run (NJ Γ (.cmp .ne (.var 6) (.lst []))) (S (c.map (·.1)++st.map (·.1)) g N' d q i j m) (!(st.map stN).isEmpty) (S (c.map (·.1)++st.map (·.1)) g N' d q i j m) :=
    aN (aC rfl) (dX ah ttt aP (kj _)) ∅ (ix ac)
   have e1:(st.map stN).map (λu=>(kE (.bor 6),u))=st.map λs=>(Kd.loc,stN s):=by rw[i8];rfl
   have z:∀{P4:au},Run (execs Γ [.ite (.cmp .ne (.var 6) (.lst []))
    [.app 4 (.var 6)]
    []]) (S (c.map (·.1)++st.map (·.1)) g N' d q i j m) .nx P4->Run (execs Γ CS) (S (c.map (·.1)) vs N' R o6 o7 o8 o9) .nx P4:=λh=>by
    show aw (r:=(oL (st.map stN))) (aG (aa (af rfl) (aa (aC rfl) (aa (aC rfl) ah))) #[#[.own,rfl,rfl],#[.own,rfl,rfl],ttt] Nz) bo ?_;show aw (r:=(oL [])) (dX ah ttt aP (kj _)) bo ?_;show ij (rs:=[(.bor 6,.lst (st.map stN))]) (aa (aC rfl) ah) ∅ (by change bD (List.map (λu=>(kE (.bor 6),u)) _)=_;rw[e1]) rfl v h
   by_cases OC:st=[]
   .have al:=ab OC;subst OC;rw[show(!(([]:↑(Str×Nat)).map stN).isEmpty)=cK from rfl]at C;have ee:c++[]=c:=tP _;rw[ee]at x';have o:=z (aI C (λh=>by cases h) λ_=>bB);have(Uy,Uz,st2,z1,z2,z3,z4,D):=kP G H I J f c N' d g q i j m x' O Q (by rw[ř al];lia);show#[Uy,Uz,st2,z1,z2,z3,z4,FG B o ?_];have e3:c.map (·.1)++([]:↑(Str×Nat)).map (·.1)=c.map (·.1):=⋯
    change Run _ (S (c.map (·.1)++([]:↑(Str×Nat)).map (·.1)) g N' d q i j m) _ _;rw[e3];show D
   .have A:(!(st.map stN).isEmpty)=b6:=by
     simp_all
    rw[A]at C;have We:0<⇑st:=List.length_pos_iff.mpr OC;have ef:iV (N'++[st])=iV N'++[.lst (st.map stN)]:=by simp[iV]
    have o:Run (execs Γ CS) (S (c.map (·.1)) vs N' R o6 o7 o8 o9) .nx (S (c.map (·.1)++st.map (·.1)) g (N'++[st]) d (bD (.loc,.lst (st.map stN))) i j m):=by
     show z (aI C (λ_=>?_) λh=>by cases h);change Run _ _ _ [bD (.loc,tR rows),bD (.own,.Nu ks (ks.map (cV (Oj rows ⇑rows)))),bD (oL (cz rows λp=>(cnt rows (c.map (·.1)++st.map (·.1)) p:Int))),bD (.own,.Nu (c.map (·.1)++st.map (·.1)) g),bD (oL (iV (N'++[st]))),bD (oL (gq d)),bD (.loc,.lst (st.map stN)),i,j,m];rw[ef];show tK (k:=.own) (k':=.own) (r:=(.bor 6,.lst (st.map stN))) (u:=.lst (st.map stN)) rfl (aC rfl) (ya rfl) rfl rfl (by unfold iV;rw[ei];lia) bB
    have(Uy,Uz,st2,z1,z2,z3,z4,D):=kP G H I J f (c++st) (N'++[st]) d g (bD (.loc,.lst (st.map stN))) i j m x' (by rw[É,O];simp) (by grind) (by rw[mx];split<;>lia);show#[Uy,Uz,st2,z1,z2,z3,z4,FG B o ?_];rw[em]at D;show D
abbrev GS(Γ:Tab)(rows:↑Row):Prop:=∃ks:↑Str,(∀w,w∉ks->Oj rows ⇑rows w=[])/\Γ "places_that_tell" [tR rows]≈.ok (.own,.Nu ks (ks.map (cV (Oj rows ⇑rows))))
def iW(q:Once rows)(s:⇑rows<=120)(v:GS Γ rows)(w:CT Γ rows):∃d N',LI rows d []/\N'.flatten=d/\⇑N'<=120/\bJ Γ bE [tR rows]≈.ok (oL (iV N')):=by
 have hsz:(20000:Nat)<=c8:=⋯
 have(ks,z,A):=v;have B:TM.start [tR rows] 10=[bD (.loc,tR rows),cb,cb,cb,cb,cb,cb,cb,cb,cb]:=by simp[TM.start,NT,cR]
 let f:Sl:=bD (.loc,tR rows);let g:Sl:=bD (.own,.Nu ks (ks.map (cV (Oj rows ⇑rows))));let C:Sl:=bD (oL (cz rows λp=>(cnt rows [] p:Int)));have D:Run (ev Γ (.comp 1 cK .seq [Np] [] (.bi .len [.idx Np cA]))) [f,g,cb,cb,cb,cb,cb,cb,cb,cb] (oL (cz rows λp=>(cnt rows [] p:Int))) [f,g,cb,cb,cb,cb,cb,cb,cb,cb]:=by
  have c:=fb (cond:=aT Γ []) (elt:=ev Γ (.bi .len [.idx Np cA])) (src:=[(.loc,tR rows)]) (st:=[f,g,cb,cb,cb,cb,cb,cb,cb,cb]) ttt .loc (.inl rfl) Nv (λr=>.int (⇑r.2:Nat)) .loc (λ_=>fM) rows [] ⋯
   (λy _=>#[dW (aa (aV (x:=(.loc,Nv y)) (af rfl) ak ttt rfl) ah) ttt (by rw[j_,ei]),aH])
  rw[rr]at c;have e:(rows.map Nv).map (λu=>(kE .loc,u))=rows.map λr=>(Kd.loc,Nv r):=by rw[i8];rfl
  have G:(rows.map λr=>U.int (⇑r.2:Nat))=cz rows λp=>(cnt rows [] p:Int):=by
   unfold cz;apply Q3
   .simp
   .intro i j k;have hi:i<⇑rows:=⋯
    have n:told rows i=rows[i].2:=mD ⋯;have H:cnt rows [] i=rows[i].2.length:=by unfold cnt wq;simp_all
    simp[H]
  rw[G]at c;show bY (rs:=[(.loc,tR rows)]) (aa (af rfl) ah) ttt (by change bD _=_;rw[e]) c
 let l:=(ib ⇑rows).filter λp=>df (cnt rows [] p=0);let m:au:=[f,g,C,bD (.own,.Nu [] []),bD (oL []),cb,cb,cb,cb,cb]
 have I:Run (ev Γ (.comp 2 b6 .Te [NH] [.cmp .eq NA cO] Np)) m (oL (gq l)) m:=by
  have c:=oj (st:=m) (cond:=aT Γ [.cmp .eq NA cO]) (elt:=ev Γ Np) (src:=[(.bor 2,.lst (cz rows λp=>(cnt rows [] p:Int)))]) ⟨⟨.own,rfl,rfl⟩,ttt⟩ (λp:Nat=>U.int (p:Nat)) (λp:Nat=>U.int (cnt rows [] p:Int)) (λp:Nat=>U.int (p:Nat)) (λp=>df (cnt rows [] p=0)) (ib ⇑rows) [] ⋯
   (λy _=>#[cU (aN (af rfl) ak ttt (gm (by rw[rD];simp))),af rfl])
  rw[rr]at c;have e:((cz rows λp=>(cnt rows [] p:Int)).zipIdx.map λp=>(kE (.bor 2),U.tup [.int p.2,p.1]))=(ib ⇑rows).map λp:Nat=>(lT [.int (p:Nat),.int (cnt rows [] p:Int)]):=by
   unfold cz;apply Q3
   .simp
   .intro i j k;simp[kE]
  show bY  (aa (aC rfl) ah) ∅ (by change bD _=_;rw[e]) c
 have J:LI rows [] l:=#[.nil,λ_ _ _ h=>(nomatch h),λ_ h=>(nomatch h),λt n=>by
  have(a,b):=M'.mp n;simp_all,λt r j k=>.inl (M'.mpr #[uv.mpr (eH.mp j).1,by exists k])]
 have(d,N',st',z1,z2,L,o,N):=kP q s w z fuel [] [] l [] cb cb cb cb J rfl (hY _) (by unfold fuel;split<;>simp<;>lia);show#[d,N',z1,z2,L,?_];show ay rfl (.inl rfl) B (aw (r:=(.own,.Nu ks (ks.map (cV (Oj rows ⇑rows))))) (aG (aa (af rfl) ah) ttt A) bo (aw D bo (aw (r:=(.own,.Nu [] [])) vY bo (aw (r:=(oL [])) (dX ah ttt aP (kj _)) bo (aw I bo (GQ N (aS (aC o) (tJ o))))))))
def zM{N'}(hs:Γ "steps_in_rounds" [tR rows]≈.ok (oL (iV N')))(b:N'.flatten=c)(hl:⇑c<=120):bJ Γ gp [tR rows]≈.ok (oL (c.map stN)):=by
 have hsz:(20000:Nat)<=c8:=⋯
 have f:TM.start [tR rows] 3=[bD (.loc,tR rows),cb,cb]:=by simp[TM.start,NT,cR]
 let S:=λ(l:↑(Str×Nat)) (o2:Sl)=>([bD (.loc,tR rows),bD (oL (l.map stN)),o2]:au)
 have(st',g,a,o2,e):=gn (t:=cK) (is:=[2]) (body:=execs Γ [.ext 1 NH]) (rs:=[(oL (iV N'))]) (λl:↑(Str×Nat)=>(Kd.loc,U.lst (l.map stN)))
  (λd r st=>d++r=N'/\∃o2:Sl,st=S d.flatten o2) (λ_ _ _ _=>ttt) (λd y r st h=>by
   have(a,o2,e):=h;subst e;have i:⇑d.flatten+⇑y<=120:=by
    have:=ş (λl:↑(↑(Str×Nat))=>⇑l.flatten) a;erw[É,ã,mx,b]at this;lia
   show#[S d.flatten (bD (.loc,.lst (y.map stN))),S (d++[y]).flatten (bD (.loc,.lst (y.map stN))),ip aR,?_,by rw[<-a];simp,_,rfl];have em:(d++[y]).flatten.map stN=d.flatten.map stN++y.map stN:=⋯
   change Run _ _ _ [bD (.loc,tR rows),bD (oL ((d++[y]).flatten.map stN)),bD (.loc,.lst (y.map stN))];rw[em];show GO (k:=.own) (k':=.own) rfl (af rfl) rfl rfl (xZ (by rw[ei,ei];lia) rfl) bB) N' [] (S [] cb) ⟨rfl,cb,rfl⟩
 subst e;have e:(iV N').map (λu=>(kE .own,u))=N'.map λl=>(Kd.loc,U.lst (l.map stN)):=by unfold iV;rw[i8];rfl
 have h0:=ay (Γ:=Γ) (fn:=gp) rfl (.inl rfl) f (aw (r:=(oL [])) (dX ah ttt aP (kj _)) bo (ij (rs:=[(oL (iV N'))]) (st1:=S [] cb) (aa (aG (aa (af rfl) ah) ttt hs) ah) ttt rfl rfl (by rw[e];show g) (aS (aC rfl) (tJ rfl))));rw[rr,b]at h0;show h0
def wu(h:⇑ss<64):PV .sorted [(k,.lst (ss.map .str))]≈oL ((b_ ss).map .str):=by
 change(strsOf (ss.map U.str)).bind _=_;rw[fN];change(if ⇑ss<64 then _ else _)=_;rw[ř h]
def jA{a:↑(Str×Nat)}(hl:⇑a<64)(ho:Γ "order" [tR rows]≈.ok (oL (a.map stN))):bJ Γ iy [tR rows]≈.ok (oL ((b_ (a.map (·.1))).map .str)):=by
 have hsz:20000<=c8:=⋯
 have c:TM.start [tR rows] 1=[bD (.loc,tR rows)]:=by simp[TM.start,NT,cR]
 have b:=oj (st:=[bD (.loc,tR rows)]) (cond:=aT Γ []) (elt:=ev Γ Np) (src:=[(oL (a.map stN))]) ttt _ (λs=>U.int s.2) (λs=>U.str s.1) _ a [] (by grind) (λy _=>#[fM,af rfl]);rw[Ê.mpr (λ_ _=>rfl)]at b;have e:(a.map stN).map (λu=>(kE .own,u))=a.map λs=>(lT [.str s.1,.int s.2]):=by rw[i8];rfl
 have d:(a.map λs=>U.str s.1)=(a.map (·.1)).map U.str:=by rw[i8];rfl
 rw[d]at b;show ay rfl (.inl rfl) c (aS (dW (aa (bY  (aa (aG (aa (af rfl) ah) ttt ho) ah) ttt (by change bD _=_;rw[e]) b) ah) ttt (wu ⋯)) j8)
structure Lrn(prog:↑Fn):Prop where
 g:NQ prog "gathered" dM
 p:NQ prog "places_that_tell" bt
 n:NQ prog "new_steps" dn
 s:NQ prog "steps_in_rounds" bE
 o:NQ prog "order" gp
structure Kn(rows:↑Row)(K:↑Str):Prop where
 nd:K.Nodup
 sn:Vi rows K
 cl:iw rows (·∈K)
def Kn.perm(a:Kn rows K)(b:Kn rows L):K.Perm L:=same a.nd b.nd a.sn b.sn a.cl b.cl
def Kn.of(s:LI rows a []):Kn rows (a.map (·.1)):=#[s.nd,s.sn,s.closed]
def FO(L:Lrn prog)(n)(e:∀r∈rows,⇑r.2<=8)(d:Once rows)(f:⇑rows<=60):∃c,LI rows c []/\⇑c<=60/\N2 prog (n+4) "order" [tR rows]≈.ok (oL (c.map stN)):=by
 have i:∀r∈rows,r.1∈rows.map (·.1):=λr h=>j0.mpr #[r,h,rfl];have w:⇑(rows.map (·.1))<=60:=by rw[ei];show f
 have j:GR (N2 prog (n+1)):=λps hl=>by
  have(ks,a,b):=rH (Γ:=N2 prog n) hl;show#[ks,a,(ax L.g _).trans b]
 have k:GS (N2 prog (n+2)) rows:=by
  have(ks,a,b):=jz j d e ⋯;show#[ks,a,(ax L.p _).trans b]
 have l:CT (N2 prog (n+2)) rows:=λR K0 vs m=>by
  have(st,a,b):=oQ (Γ:=N2 prog (n+1)) i ⋯ m (K0:=K0) (vs:=vs);show#[st,a,(ax L.n _).trans b]
 have(c,N',s1,q,x,t):=iW d ⋯ k l;have u:N2 prog (n+3) "steps_in_rounds" [tR rows]≈.ok (oL (iV N')):=(ax L.s _).trans t;have v:⇑c<=60:=by
  have:=tY (Kn.of s1).nd (L:=rows.map (·.1)) s1.wd;rw[ei]at this;lia
 show#[c,s1,v,(ax L.o _).trans (zM u q ⋯)]
end KL
namespace TM
open PySem L2 NR
def GU(h:st[i]?≈bD (.A',.ob cK u us)):Run (Ss i) st (u,us) st:=by
 change Ss i st=_;unfold Ss;rw[h]
def GV(h:st[i]?≈bD (.A',.ob cK u us))(b:f u us≈(u',a))(c:NT u'=b6)(d:d6 a=b6):Run (Su i f) st () (st.set i (bD (.A',.ob cK u' a))):=by
 change Su i f st=_;unfold Su;simp_all
def gr(h:st[i]?≈bD (.A',.ob cK u us)):Run (ev Γ (.Oy i)) st (.loc,u) st:=ae (GU h) aK
def JL(h:st[i]?≈bD (.A',.ob cK u us))(a:Og 50 (.lst us)=b6):Run (NJ Γ (.PQ i)) st us.isEmpty st:=ae (GU h) (by rw[ř a];rfl)
def JM(h:st[i]?≈bD (.A',.ob cK u us))(a:us[⇑us - 1]?≈w):Run (ev Γ (.lW i)) st (.loc,w) (st.set i (bD (.A',.ob cK u us.dropLast))):=by
 change TM.lW i st=_;unfold TM.lW;simp_all
def L9(h:st[i]?≈bD (.A',.ob d u us)):Run (QX d i) st () st:=by
 change QX d i st=_;unfold QX;simp_all
def yc(h:st[i]?≈bD (.A',.ob d u us))(b:W8 a d≈d')(e:Γ f (.ob d' u us::rs.map (·.2))≈.ok (k,.tup [w,.ob d' u' c]))(g:sQ k w≈p):Run (dR Γ f a i rs) st p (st.set i (bD (.A',.ob d u' c))):=by
 change dR Γ f a i rs st=_;unfold dR;rw[h]
 dsimp only
 rw[b];change(Bb d' _).map _=_;unfold Bb;simp_all
def yd:Run (U8 (.inl r)) st r st:=rfl
def wx(h0:st[i]?≈bD (.A',.ob d u0 us0))(a:Run (bG Γ es) st rs st1)(b:bg rs st1)(h:st1[i]?≈bD (.A',.ob d u us))(c:Γ f (.ob d u us::rs.map (·.2))≈.ok (k,.tup [w,.ob d u' e]))(g:sQ k w≈p):
  Run (Pj Γ (.mt d f m i es)) st p (st1.set i (bD (.A',.ob d u' e))):=ae (L9 h0) (ae a (ae (bc b) (yc h rfl c g)))
def pO(h0:st[i]?≈bD (.A',.ob d u0 us0))(a:Run (bG Γ es) st rs st1)(b:bg rs st1)(h:st1[i]?≈bD (.A',.ob d u us))(c:Γ f (.ob d u us::rs.map (·.2))≈.ok (lT [w,.ob d u' e])):
  Run (ev Γ (.QK d f m i es)) st (.loc,w) (st1.set i (bD (.A',.ob d u' e))):=ae (wx (m:=m) h0 a b h c rfl) yd
def JN(h0:st[i]?≈bD (.A',.ob b6 u0 us0))(a:Run (bG Γ es) st rs st1)(b:bg rs st1)(h:st1[i]?≈bD (.A',.ob b6 u us))(c:Γ f (.ob b6 u us::rs.map (·.2))≈.ok (lT [w,.ob b6 u' d])):
  Run (ev Γ (.O8 f i es)) st (.loc,w) (st1.set i (bD (.A',.ob b6 u' d))):=ae (wx (m:="") h0 a b h c rfl) yd
def JO(h0:st[i]?≈bD (.A',.ob b6 u0 us0))(a:Run (bG Γ es) st rs st1)(c:bg rs st1)(h:st1[i]?≈bD (.A',.ob b6 u us))(d:Γ f (.ob b6 u us::rs.map (·.2))≈.ok (lT [.bl b,.ob b6 u' e])):
  Run (NJ Γ (.O8 f i es)) st b (st1.set i (bD (.A',.ob b6 u' e))):=ae (ae (wx (m:="") h0 a c h d rfl) yd) (c7 rfl)
def L_(h:Th st js≈rs):Run (Ub js) st rs st:=by
 change Ub js st=_;unfold Ub;simp_all
def CU(a:Th st js≈rs)(h:st[i]?≈bD (.A',.ob b6 u us))(b:Γ f (.ob cK u us::rs.map (·.2))≈.ok (k,.tup [w,.ob cK u' c]))(d:sQ k w≈p):
  Run (Pj Γ (.P7 f m i js)) st p (st.set i (bD (.A',.ob b6 u' c))):=ae (L_ a) (yc h rfl b d)
def Ma(a:Th st js≈rs)(h:st[i]?≈bD (.A',.ob b6 u us))(b:Γ f (.ob cK u us::rs.map (·.2))≈.ok (lT [w,.ob cK u' c])):
  Run (ev Γ (.P7 f m i js)) st (.loc,w) (st.set i (bD (.A',.ob b6 u' c))):=ae (CU (m:=m) a h b rfl) yd
def JP(h:Run (Pj Γ r) st (.inr c) st1):Run (Pj Γ (.arg f r)) st (.inr c) st1:=ae h aK
def Mb(h:Run (Pj Γ r) st (.inl x) st1)(a:bg [x] st1)(b:Run (i_ Γ f [x.2]) st1 y st2):Run (Pj Γ (.arg f r)) st (.inl y) st2:=ae h (ae (bc a) (ae b aK))
def JQ(h:Run (Pj Γ r) st (.inr c) st1):Run (Pj Γ (.QL r)) st (.inr c) st1:=ae h aK
def Mc(h:Run (Pj Γ r) st (.inl x) st1)(a:Run (lift x) st1 u st2):Run (Pj Γ (.QL r)) st (.inl (lT [u,.Nt])) st2:=ae h (ae a aK)
def CV(h:Run (Pj Γ r) st (.inr c) st1):Run (execs Γ (.OZ r::ss)) st (.rt .io (.str c)) st1:=v8 (ae h aK)
def CW(h:Run (Pj Γ r) st (.inl x) st1)(a:Run (retS x) st1 (.rt k u) st2):Run (execs Γ (.OZ r::ss)) st (.rt k u) st2:=v8 (ae h a)
def JR(h:Run (execs Γ ss) (st.set i (bD (.A',.ob b6 (.tup []) []))) f st1):Run (execs Γ (.Py i::ss)) st f st1:=e_ rfl h
def JS(a:Run (ev Γ e) st r st1)(b:Run (lift r) st1 u' st2)(h:st2[i]?≈bD (.A',.ob cK u us))(c:NT u'=b6)(d:d6 us=b6)(g:Run (execs Γ ss) (st2.set i (bD (.A',.ob cK u' us))) f j):Run (execs Γ (.QM i e::ss)) st f j :=
 e_ (ae a (ae b (ae (GV h rfl c d) aK))) g
def JT(h:st[i]?≈bD (.A',.ob cK u us))(hl:⇑us<c8)(a:NT u=b6)(b:d6 (us++[u])=b6)(c:Run (execs Γ ss) (st.set i (bD (.A',.ob cK u (us++[u])))) f d):Run (execs Γ (.QN i::ss)) st f d :=
 e_ (ae (GV h (by unfold Ek;simp_all) a b) aK) c
def bH(hn:⇑vs=fn.np)(hs:cC vs fn.ns=st0)(h:Run (execs Γ body) st0 f (bD (.A',.ob d u us)::st'))(a:Ti f≈(k,w)):eY Γ fn body vs≈.ok (k,.tup [w,.ob d u us]):=by
 subst hs;unfold eY;rw[ř hn,h];change(Ti f).bind _=_;rw[a];rfl
end TM
namespace K
open PySem L2 TM
abbrev kQ:Fn:=#["is_stem",1,1,[.ite (.or [.cmp .eq Np (cQ ""),.cmp .gt (.bi .len [Np]) (.PF "LONGEST_STEM" (.int 8))]) [.ret (.cst (.bl cK))] [],.ret (.bi .all [.comp 1 cK .seq [Np] [] (.cmp .isin Np (.PF "LETTERS" (.str "abcdefghijklmnopqrstuvwxyz")))])]]
abbrev dN:Fn:=#["is_later_sense",1,1,[.ret (.cmp .isin Np (.comp 1 cK .Sk [.bin .add (.PF "FIRST_SENSE" (.int 1)) cA,.bin .add (.PF "LAST_SENSE" (.int 99)) cA] [] (.bi .str [Np])))]]
abbrev kR:Fn:=#["is_word",1,1,[.ite (.cmp .NB (cQ "/") Np) [.ret (.call "is_stem" [Np])] [],.ret (.and [.call "is_stem" [.call "stem_of" [Np]],.call "is_later_sense" [.call "number_of" [Np]]])]]
abbrev pP:Fn:=#["stem_of",1,1,[.ret (.idx (.OS .partition Np [(cQ "/")]) cO)]]
abbrev lH:Fn:=#["number_of",1,1,[.ret (.idx (.OS .partition Np [(cQ "/")]) (cI 2))]]
abbrev om:Fn:=#["is_row",1,2,[.set 1 (.idx Np cA),.ite (.or [.cmp .gt (.bi .len [NA]) (.PF "MOST_TOLD" (.int 8)),.cmp .lt (.Rk .jg [NA]) (.bi .len [NA])]) [.ret (.cst (.bl cK))] [],.ret (.and [.call "is_word" [.idx Np cO],.bi .all [.comp 1 cK .seq [NA] [] (.call "is_word" [Np])]])]]
abbrev dz:Fn:=#["in_one_order",1,1,[.ret (.tup [.idx Np cO,.bi .tuple [.bi .sorted [.idx Np cA]]])]]
abbrev mF:Fn:=#["alike",2,2,[.ret (.cmp .eq (.call "in_one_order" [Np]) (.call "in_one_order" [NA]))]]
noncomputable abbrev dM:Fn:=KL.dM
noncomputable abbrev bt:Fn:=KL.bt
noncomputable abbrev dn:Fn:=KL.dn
noncomputable abbrev bE:Fn:=KL.bE
noncomputable abbrev gp:Fn:=KL.gp
noncomputable abbrev iy:Fn:=KL.iy
abbrev jB:Fn:=#["read_row",1,2,[.set 1 (.OS .split Np [(cQ " ")]),.ite (.or [.cmp .lt (.bi .len [NA]) (cI 3),.not (.call "is_word" [.idx NA cO]),.cmp .ne (.idx NA cA) (cQ "=")]) [.bad] [],.ret (.tup [.idx NA cO,.call "read_told" [.Ph NA [(cI 2)] []]])]]
abbrev iz:Fn:=#["read_told",1,1,[.ite (.cmp .eq Np (.lst [.PF "PICTURE_SIGN" (.str "*")])) [.ret (.tup [])] [],.ite (.not (.bi .all [.comp 1 cK .seq [Np] [] (.call "is_word" [Np])])) [.bad] [],.ret (.bi .tuple [Np])]]
abbrev fc:Fn:=#["places_alike",2,2,[.ret (.comp 2 b6 .Te [Np] [.call "alike" [NA,ND]] Np)]]
abbrev dA:Fn:=#["gained_and_lost",2,6,[.set 2 (.call "learnt" [Np]),.set 3 (.call "learnt" [NA]),.set 4 (.comp 1 cK .seq [ND] [.cmp .NB Np ND] Np),.set 5 (.comp 1 cK .seq [NH] [.cmp .NB Np N9] Np),.ret (.tup [N9,Oi])]]
abbrev lJ:Fn:=#["Shelf.__init__",1,1,[.bad,.bad]]
abbrev iQ:Fn:=#["Shelf.book",1,1,[.Ql,.ret (.Oy 0)]]
abbrev dY:Fn:=#["Shelf.put",3,4,[.Ql,.set 3 (.tup [NA,.bi .tuple [NH]]),.ite (.or [.not (.call "is_row" [ND]),.cmp .ne (.call "places_alike" [.Oy 0,ND]) (.lst [])]) [.Rm "Unfit" (cQ "this is no row, or one alike to it stands there")] [],.ite (.cmp .ge (.bi .len [.Oy 0]) (.PF "MOST_ROWS" (.int 60))) [.bad] [],.ret (.QK cK "Shelf.do_deed" "do_deed" 0 [.bin .add (.Oy 0) (.tup [ND])])]]
abbrev dq:Fn:=#["Shelf.take",3,4,[.Ql,.set 3 (.call "places_alike" [.Oy 0,.tup [NA,.bi .tuple [NH]]]),.ite (.cmp .eq ND (.lst [])) [.Rm "NoRow" (cQ "no row alike to this one stands there")] [],.ret (.QK cK "Shelf.do_deed" "do_deed" 0 [.bin .add (.Ph (.Oy 0) [] [.idx ND cO]) (.Ph (.Oy 0) [.bin .add (.idx ND cO) cA] [])])]]
abbrev du:Fn:=#["Shelf.back",1,1,[.Ql,.ite (.PQ 0) [.Rm "NoDeed" (cQ "no deed is left")] [],.ret (.QK cK "Shelf.turn_to" "turn_to" 0 [.lW 0])]]
abbrev eL:Fn:=#["Shelf.do_deed",2,2,[.Ql,.QN 0,.ret (.QK cK "Shelf.turn_to" "turn_to" 0 [NA])]]
abbrev eM:Fn:=#["Shelf.turn_to",2,3,[.Ql,.set 2 (.call "gained_and_lost" [.Oy 0,NA]),.QM 0 NA,.ret NH]]
abbrev mG:Fn:=#["shown",1,1,[.ret (.OS .join (cQ "\n") [.comp 1 cK .seq [Np] [] (.bin .add (.bin .add (.idx Np cO) (cQ " = ")) (.call "shown_told" [.idx Np cA]))])]]
abbrev eN:Fn:=#["shown_told",1,1,[.ite (.cmp .eq Np (.tup [])) [.ret (.PF "PICTURE_SIGN" (.str "*"))] [],.ret (.OS .join (cQ " ") [Np])]]
abbrev kg:Fn:=#["listed",1,1,[.ite (.cmp .eq Np (.lst [])) [.ret (cQ "-")] [],.ret (.OS .join (cQ " ") [Np])]]
abbrev eh:Fn:=#["shown_changes",1,1,[.ret (.OS .join (cQ " ") [.bin .add (.bin .add (.bin .add (.lst [(cQ "+")]) (.idx Np cO)) (.lst [(cQ "-")])) (.idx Np cA)])]]
abbrev aY:Fn:=#["answer_at_large",2,2,[.ite (.cmp .eq NA (cQ "learnt")) [.ret (.call "listed" [.call "learnt" [Np]])] [],.ite (.cmp .eq NA (cQ "lacks")) [.bad] [],.ite (.cmp .eq NA (cQ "need")) [.bad] [],.Sr 1 "book" (.call "shown" [Np]) "\n" ";",.bad]]
abbrev lK:Fn:=#["Desk.__init__",1,1,[.bad]]
abbrev c9:Fn:=#["Desk.say",2,3,[.Ql,.ite (.or [.not (.Tf NA .str),.cmp .isin (cQ "\n") NA]) [.bad] [],.ite (.cmp .eq NA (cQ "back")) [.OZ (.arg "shown_changes" (.P7 "Shelf.back" "back" 0 []))] [],.set 2 (.OS .partition NA [(cQ " ")]),.ite (.cmp .eq (.idx NH cA) (cQ "")) [.ret (.call "answer_at_large" [.P7 "Shelf.book" "book" 0 [],NA])] [],.ite (.or [.cmp .eq (.idx NH cO) (cQ "put"),.cmp .eq (.idx NH cO) (cQ "take")]) [.OZ (.mt b6 "Desk.say_deed" "say_deed" 0 [.idx NH cO,.call "read_row" [.idx NH (cI 2)]])] [],.bad]]
abbrev c_:Fn:=#["Desk.say_deed",3,3,[.Ql,.ite (.cmp .eq NA (cQ "put")) [.OZ (.arg "shown_changes" (.P7 "Shelf.put" "put" 0 [(2,0),(2,1)]))] [],.OZ (.arg "shown_changes" (.P7 "Shelf.take" "take" 0 [(2,0),(2,1)]))]]
noncomputable abbrev pQ:Fn:=TM.zB
noncomputable abbrev oo:Fn:=TM.xX
noncomputable abbrev lL:Fn:=TM.rj
abbrev oq:Fn:=#["_law_name",2,6,[.set 2 (cQ "abcdefghijklmnopqrstuvwxyz"),.set 3 (.OS .join (cQ "") [.comp 1 cK .Of [.bin .add cA (.bin .mod (.idx Np cO) (cI 8))] [] (.idx ND (.bin .mod (.idx NA (.bin .add (cI 4) Np)) (cI 26)))]),.ite (.cmp .gt (.bi .len [NA]) cO) [.set 4 (.idx (.OS .split (.idx NA (.bin .mod (.idx Np cA) (.bi .len [NA]))) [(cQ "/")]) cO),.ite (.cmp .eq (.bin .mod (.idx Np (cI 2)) (cI 4)) cA) [.set 3 (.Ph (.bin .add N9 ND) [] [(cI 8)])] [],.ite (.cmp .eq (.bin .mod (.idx Np (cI 2)) (cI 4)) (cI 2)) [.set 3 (.bin .add (.bin .add N9 (cQ "/")) (.bi .str [.bin .add (cI 2) (.bin .mod (.idx Np (cI 3)) (cI 98))]))] []] [],.set 5 (.bin .add (.lst [ND]) (.comp 1 cK .Of [(cI 40)] [] (.bin .add (.idx ND (.bin .Qh Np (cI 26))) (.idx ND (.bin .mod Np (cI 26)))))),.ret (.idx (.comp 1 cK .seq [Oi] [.cmp .NB Np NH] Np) cO)]]
noncomputable abbrev lM:Fn:=TM.fNames
noncomputable abbrev ot:Fn:=TM.lF
abbrev gu:Fn:=#["_law_learnt",1,5,[.set 1 (.PN cK),.set 2 (.cst (.bl b6)),.T_ NH [.set 2 (.cst (.bl cK)),.Ob b6 [3,4] .seq [Np] [.ite (.and [.cmp .NB ND NA,.bi .all [.comp 1 cK .seq [N9] [] (.cmp .isin Np NH)]]) [.put 1 ND (.cst (.bl b6)),.set 2 (.cst (.bl b6))] []]],.ret (.bi .sorted [NA])]]
abbrev ft:Fn:=#["_law_there",2,2,[.ret (.comp 1 cK .seq [Np] [.and [.cmp .eq (.idx Np cO) (.idx NH cO),.cmp .eq (.bi .sorted [.idx Np cA]) (.bi .sorted [.idx NH cA])]] Np)]]
abbrev fe:Fn:=#["_law_text",1,1,[.ite (.cmp .eq (.idx Np cA) (.tup [])) [.ret (.bin .add (.idx Np cO) (cQ " = *"))] [],.ret (.bin .add (.bin .add (.idx Np cO) (cQ " = ")) (.OS .join (cQ " ") [.idx Np cA]))]]
abbrev gv:Fn:=#["_law_turn",2,4,[.set 2 (.comp 1 cK .seq [NA] [.cmp .NB Np NA] Np),.set 3 (.comp 1 cK .seq [Np] [.cmp .NB Np NH] Np),.ret (.OS .join (cQ " ") [.bin .add (.bin .add (.bin .add (.lst [(cQ "+")]) NH) (.lst [(cQ "-")])) ND])]]
abbrev ff:Fn:=#["_law_deed",3,7,[.set 3 (.tup [.idx NA (.bin .mod (.idx Np cO) (.bi .len [NA])),.call "_law_told" [Np,NA]]),.set 4 (.bin .mod (.idx Np (cI 11)) (cI 12)),.set 5 (.Ph (.Ph NH [.bin .mod (.idx Np (cI 12)) (.bi .max [cA,.bi .len [NH]])] []) [] [cA]),.ite (.and [.Qi .lt .lt (cI 5) N9 (cI 10),.cmp .ne Oi (.lst [])]) [.set 6 (.bin .mod (.idx Np (cI 13)) (.bin .add (.bi .len [.idx (.idx Oi cO) cA]) cA)),.set 3 (.tup [.idx (.idx Oi cO) cO,.Rk .PM [.bin .add (.Ph (.idx (.idx Oi cO) cA) [.var 6] []) (.Ph (.idx (.idx Oi cO) cA) [] [.var 6])]])] [],.ite (.or [.cmp .eq N9 (cI 5),.and [.cmp .eq N9 (cI 11),.cmp .eq (.bin .mod (.idx Np (cI 14)) (cI 3)) cO]]) [.set 3 (.tup [.idx ND cO,.tup [.idx ND cO,.idx ND cO]])] [],.ite (.and [.or [.cmp .eq N9 (cI 4),.cmp .eq N9 (cI 11)],.cmp .eq (.bin .mod (.idx Np (cI 14)) (cI 3)) cA]) [.set 3 (.tup [.idx ND cO,.tup [(cQ "a"),(cQ "b"),(cQ "c"),(cQ "d"),(cQ "e"),(cQ "f"),(cQ "g"),(cQ "h"),(cQ "i")]])] [],.ite (.cmp .eq (.bin .mod (.idx Np (cI 14)) (cI 5)) cO) [.ret (.tup [(cQ "back"),ND])] [],.ret (.tup [.idx (.lst [(cQ "put"),(cQ "take")]) (.bi .int [.cmp .gt N9 (cI 6)]),ND])]]
abbrev bp:Fn:=#["_law_behind",4,5,[.U6 [3],.ite (.cmp .eq Np (cQ "back")) [.ite (.cmp .eq ND (.lst [])) [.ret (.tup [NH,(cI 2)])] [],.ret (.tup [.idx ND (.neg cA),.cst .Nt])] [],.set 4 (.call "_law_there" [NH,NA]),.ite (.cmp .eq Np (cQ "take")) [.ite (.cmp .eq N9 (.lst [])) [.ret (.tup [NH,cA])] [],.ret (.tup [.comp 1 cK .seq [NH] [.cmp .ne Np (.idx Oi cO)] Np,.cst .Nt])] [],.ite (.or [.cmp .ne N9 (.lst []),.cmp .gt (.bi .len [.idx NA cA]) (cI 8),.cmp .lt (.Rk .jg [.idx NA cA]) (.bi .len [.idx NA cA])]) [.ret (.tup [NH,cO])] [],.ret (.tup [.bin .add NH (.lst [NA]),.cst .Nt])]]
abbrev fg:Fn:=#["_law_said",2,5,[.Ql,.set 2 (.tup [(cQ ""),.cst .Nt]),.RM (.QL (.mt b6 "Desk.say" "say" 0 [NA])) 2 "PrimerError" [("NoDeed",2),("NoRow",1),("Unfit",0)] 3 4 [["Unfit"],["NoRow"],["NoDeed"]] ["Lacking","NoText","TooMany","Unknown","Unlearnt"],.ret NH]]
abbrev dZ:Fn:=#["_law_right",2,4,[.Ql,.set 2 (.call "_law_learnt" [NA]),.set 3 (.OS .join (cQ " ") [NH]),.ite (.cmp .eq NH (.lst [])) [.set 3 (cQ "-")] [],.ret (.and [.cmp .eq (.QK b6 "Desk.say" "say" 0 [(cQ "book")]) (.OS .join (cQ ";") [.comp 1 cK .seq [NA] [] (.call "_law_text" [Np])]),.cmp .eq (.QK b6 "Desk.say" "say" 0 [(cQ "learnt")]) ND])]]
abbrev dc:Fn:=#["_law_own_words",2,3,[.set 2 (.lst [(cQ "back"),(cQ "book"),(cQ "need"),(cQ "by"),(cQ "knot"),(cQ "learnt"),(cQ "lacks"),(cQ "put"),(cQ "take"),(cQ "round"),(cQ "price"),(cQ "read"),(cQ "under")]),.set 2 (.bin .add NH (.lst [(cQ "over"),(cQ "musts"),(cQ "why")])),.ret (.comp 1 cK .Of [.bi .len [Np]] [] (.idx ND (.bin .mod (.bin .add NH Np) (cI 16))))]]
abbrev ou:Fn:=#["law",1,13,[.set 1 (.call "_law_drawn" [.call "_law_cell" [Np,cO],(cI 4)]),.set 2 (.call "_law_names" [Np,cA,.bin .add cA (.bin .mod (.idx NA cO) (cI 14))]),.ite (.cmp .eq (.bin .mod (.idx NA (cI 2)) (cI 6)) cA) [.set 2 (.call "_law_own_words" [NH,.idx NA (cI 3)])] [],.Py 3,.set 4 (.lst []),.set 5 (.lst []),.ite (.not (.O8 "_law_right" 3 [N9])) [.ret (.cst (.bl cK))] [],.Ob cK [6] .Of [.bin .mod (.idx NA cA) (cI 31)] [.Qk [7,8] (.call "_law_deed" [.call "_law_drawn" [.call "_law_cell" [Np,.bin .add (cI 20) (.var 6)],(cI 15)],NH,N9]),.Qk [9,10] (.Tg "_law_behind" [.var 7,.var 8,N9,Oi]),.set 11 (.bin .add (.bin .add (.var 7) (cQ " ")) (.call "_law_text" [.var 8])),.ite (.cmp .eq (.var 7) (cQ "back")) [.set 11 (.var 7)] [],.set 12 (.tup [(cQ ""),.var 10]),.ite (.cmp .is (.var 10) (.cst .Nt)) [.set 12 (.tup [.call "_law_turn" [.call "_law_learnt" [N9],.call "_law_learnt" [.var 9]],.cst .Nt])] [],.ite (.cmp .ne (.O8 "_law_said" 3 [.var 11]) (.var 12)) [.ret (.cst (.bl cK))] [],.ite (.and [.cmp .is (.var 10) (.cst .Nt),.cmp .eq (.var 7) (cQ "back")]) [.exp (.pop 5)] [.ite (.cmp .is (.var 10) (.cst .Nt)) [.app 5 N9] []],.set 4 (.var 9),.ite (.not (.O8 "_law_right" 3 [N9])) [.ret (.cst (.bl cK))] []],.ret (.cst (.bl b6))]]
abbrev prog:↑Fn:=[kQ,dN,kR,pP,lH,om,dz,mF,dM,bt,dn,bE,gp,iy,jB,iz,fc,dA,lJ,iQ,dY,dq,du,eL,eM,mG,eN,kg,eh,aY,lK,c9,c_,pQ,oo,lL,oq,lM,ot,gu,ft,fe,gv,ff,bp,fg,dZ,dc,ou]
abbrev ck:Ck:=#[(prog.filter λf=>f.io.isNone&&f.ob.isNone&&df (f.name∉(["Shelf.__init__","Desk.__init__"]:↑Str))).map (·.name),[("DEAREST_READ",(.int 2000)),("FIRST_SENSE",(.int 1)),("LAST_SENSE",(.int 99)),("LETTERS",(.str "abcdefghijklmnopqrstuvwxyz")),("LONGEST_STEM",(.int 8)),("MOST_NOT_LEARNT",(.int 5)),("MOST_ROWS",(.int 60)),("MOST_TOLD",(.int 8)),("PICTURE_SIGN",(.str "*"))],["_law_behind"],["NoDeed","NoRow","Unfit"],[("NoDeed","PrimerError"),("NoRow","PrimerError"),("Unfit","PrimerError")],([("NoDeed","Lacking",cK),("NoDeed","NoDeed",b6),("NoDeed","NoRow",cK),("NoDeed","NoText",cK),("NoDeed","TooMany",cK),("NoDeed","Unfit",cK),("NoDeed","Unknown",cK),("NoDeed","Unlearnt",cK),("NoDeed","ValueError",b6)]:↑(Str×Str×Bool))++([("NoRow","Lacking",cK),("NoRow","NoDeed",cK),("NoRow","NoRow",b6),("NoRow","NoText",cK),("NoRow","TooMany",cK),("NoRow","Unfit",cK),("NoRow","Unknown",cK),("NoRow","Unlearnt",cK),("NoRow","ValueError",b6)]:↑(Str×Str×Bool))++([("Unfit","Lacking",cK),("Unfit","NoDeed",cK),("Unfit","NoRow",cK),("Unfit","NoText",cK),("Unfit","TooMany",cK),("Unfit","Unfit",b6),("Unfit","Unknown",cK),("Unfit","Unlearnt",cK),("Unfit","ValueError",b6)]:↑(Str×Str×Bool)),[("Shelf.book",cK,"book"),("Shelf.put",cK,"put"),("Shelf.take",cK,"take"),("Shelf.back",cK,"back"),("Shelf.do_deed",cK,"do_deed"),("Shelf.turn_to",cK,"turn_to"),("Desk.say",b6,"say"),("Desk.say_deed",b6,"say_deed"),("_law_said",b6,""),("_law_right",b6,"")]]
end K
namespace TM
open PySem L2 NR
def FP(h0:0<=i)(a:i<=99):PV .str [(k,.int i)]≈zS (qp i):=by
 erw[PV,iR,A8];rw[ř (by
  by_cases hz:i.natAbs=0
  .rw[hz];decide
  .have:i.natAbs<2 ^ 7:=⋯
   have:=(ń hz).mpr this;lia)]
 rfl
theorem pR:∀(l D:↑Str),⇑(l.foldl fF D)<=⇑D+⇑l
 |[],D=>by simp
 |x::l,D=>by
  have h:=pR l (fF D x);have:⇑(fF D x)<=⇑D+1:=by unfold fF;split<;>simp
  grind
theorem t8:∀(l D:↑Str),D.Nodup->⇑D+⇑l<=⇑(l.foldl fF D)->(D++l).Nodup
 |[],D,h,_=>by simp_all
 |x::l,D,h,hl=>by
  rw[Yy,k9]at hl;by_cases c:x∈D
  .have e:fF D x=D:=by unfold fF;rw[ř c]
   rw[e]at hl;have:=pR l D;lia
  .have e:fF D x=D++[x]:=by unfold fF;rw[Ś c]
   rw[e]at hl;have d:(D++[x]).Nodup:=by
    rw[my];show#[h,by simp,λa f b g z=>c ?_];simp_all
   have:=t8 l _ d (by rw[mx,Z0];lia);simp_all
def ye(l):df (⇑(bV l)<⇑l)=!decide l.Nodup:=by
 by_cases h:l.Nodup
 .have a:=n_ h λx b=>(u9 l x).mpr b;simp_all
 .have a:¬⇑l<=⇑(bV l):=λz=>h (t8 l [] .nil (by simpa[bV] using z));simp_all
def ox(hl:⇑ss<=100):vt .jg [(k,.tup (ss.map .str))]≈lI (⇑(bV ss):Nat):=by
 have e:yQ (.tup (ss.map U.str))≈bV ss:=by
  change(strsOf _).bind _=_;rw[fN];change(if ⇑ss+1<SM then _ else _)=_;rw[ř (by change ⇑ss+1<4096;lia)]
 change(yQ _).map _=_;rw[e];rfl
def len_str(h:⇑x<=100000):PV .len [(k,.str x)]≈lI (⇑x:Nat):=by
 have hsz:200000<=c8:=⋯
 change(if ⇑x<=c8 then bD _ else cb).map _=_
 grind
def yf(x)(c):U7 #[#v[c]] x=df (c∈(~~~x)):=PySem.StrLaws.found_one x c
abbrev isNum(b:Str):Bool:=(ib 98).any λj:Nat=>df (qp (2+(j:Int))=b)
abbrev wb(x:Str):Bool:=if 47∈(~~~x) then cS (ko x "/").1.cps.toList&&isNum (ko x "/").2.2 else cS (~~~x)
def rJ(h:bC (~~~x)):wb x=b6:=by
 unfold wb;rcases h with h|⟨a,b,k,e,h,k2,d,f⟩
 .rw[Ś (jH h)];show h
 .have c:=NR.qo e (jH h);rw[ř ⋯,show("/":Str)=⟨#v[47]⟩ from rfl,c,cc];show#[⋯,?_];unfold isNum;rw[S7];show#[(k - 2).toNat,uv.mpr ⋯,ŝ ?_];rw[show 2+(k - 2).toNat=k by lia];show TM.dO ⋯
structure Rw(r:Row):Prop where
 ln:⇑r.2<=40
 w:⇑r.1<=100
 ws:∀x∈r.2,⇑x<=100
abbrev fj(r:Row):Bool:=(df (⇑r.2<=8)&&decide r.2.Nodup)&&(wb r.1&&r.2.all wb)
def mH(h:fj r=b6):⇑r.2<=8:=by
 unfold fj at h;simp_all
def CY(h:fj r=b6):r.2.Nodup:=by
 unfold fj at h;simp_all
end TM
namespace K
open PySem L2 TM NR
def CZ(b:⇑x<=100000):bJ Γ kQ [.str x]≈.ok (bL (cS (~~~x))):=by
 have hsz:(200000:Nat)<=c8:=⋯
 have f:=len_list x;let S:au:=[bD (zS x)]
 have d:Run (NJ Γ (.or [.cmp .eq Np (cQ ""),.cmp .gt (.bi .len [Np]) (.PF "LONGEST_STEM" (.int 8))])) S (df (x="")||decide (8<⇑x)) S:=by
  show rg (lG (aN (af rfl) ak ttt eJ) λ_=>j7 (aN (dW (aa (af rfl) ah) ttt (len_str b)) ly ttt (j9 ?_)))
  grind
 have a:=fb (cond:=aT Γ []) (elt:=ev Γ (.cmp .isin Np (.PF "LETTERS" (.str "abcdefghijklmnopqrstuvwxyz")))) (src:=[(zS x)]) (st:=S) ttt .loc (.inl rfl) (λc:Nat=>U.str #[#v[c]]) (λc=>U.bl (low c)) .loc (λ_=>fM) (~~~x) [] (by grind)
  (λc g=>#[lz (c:=low c) (af rfl) ly ttt (by
   change bD _=_;have:=uU "abcdefghijklmnopqrstuvwxyz" (by rfl) c;rw[show U7 #[#v[c]] "abcdefghijklmnopqrstuvwxyz"=low c from this]),aH])
 rw[rr]at a;have e:=by
  have:=mE (k:=.own) (x.cps.toList.map low);rw[i8,X6]at this;show this
 show ay (st:=S) rfl (.inr rfl) (rfl) (aI d (λz=>?_) λz=>?_)
 .have:cS (~~~x)=cK:=by
   rw[Rv,Ř,Ř]at z;unfold cS;rcases z with rfl|z
   .rfl
   grind
  rw[this];show aS ak bh
 .have:cS (~~~x)=x.cps.toList.all low:=by
   rw[Bool.or_eq_false_iff,Ş,Ş]at z;unfold cS;have i:1<=⇑x.cps.toList:=by
    rcases Nat.eq_zero_or_pos ⇑x.cps.toList with h|h
    .show absurd (TM.dO (x:=x) (y:="") (by rw[TR h];rfl)) z.1
    .show h
   simp_all
  rw[this];show aS (dW (aa (bY (rs:=[(zS x)]) (aa (af rfl) ah) ttt rfl a) ah) ttt e) bh
def zN:bJ Γ dN [.str y]≈.ok (bL (isNum y)):=by
 have hsz:200000<=c8:=⋯
 let S:au:=[bD (zS y)]
 have a:=fb (cond:=aT Γ []) (elt:=ev Γ (.bi .str [Np])) (src:=[(lI (1+1)),(lI (99+1))]) (st:=S) ttt .loc (.inl rfl) (λi:Nat=>U.int (2+i)) _ .loc (λ_=>fM) (ib 98) [] (by grind)
  (λi hi=>#[dW (aa (af rfl) ah) ttt (FP ⋯ (by grind)),aH])
 show ay rfl (.inr rfl) (rfl) (aS (lz  (af rfl) (bY  (aa (bu ly ak ttt d5) (aa (bu ly ak ttt d5) ah)) ttt rfl a) ttt ?_) bh);rfl
def C2(a:fn=⟨fn.name,1,1,[.ret (.idx (.OS .partition Np [(cQ "/")]) (cI n))]⟩)(hl:⇑x<=100000)(h:N_ [U.str (ko x "/").1,.str (ko x "/").2.1,.str (ko x "/").2.2] n≈.str y):bJ Γ fn [.str x]≈.ok (zS y):=by
 have hsz:200000<=c8:=⋯
 have b:jR .partition (.str x) [(zS "/")]≈lT [.str (ko x "/").1,.str (ko x "/").2.1,.str (ko x "/").2.2]:=by
  change(if (XQ "/"==0)=cK/\⇑x<=c8 then _ else _)=_;rw[ř #[by decide,⋯]]
 rw[a];show ay  rfl (.inr rfl) rfl (aS (aV (fL (af rfl) (aa ak ah) ttt b) ak ttt (kn h)) bh)
def C3(h:⇑x<=100000):(ko x "/").1.length<=100000:=by
 rw[show("/":Str)=⟨#v[47]⟩ from rfl];by_cases c:47∈(~~~x)
 .have(a,b,e,hn):=sj c;rw[NR.qo e hn,len_list];rw[len_list,e]at h
  grind
 .rw[NR.iG c];show h
def C4(c:∀x,⇑x<=100000->Γ "is_stem" [.str x]≈.ok (bL (cS (~~~x))))(d:∀y,Γ "is_later_sense" [.str y]≈.ok (bL (isNum y)))
    (hs:∀x,⇑x<=100000->Γ "stem_of" [.str x]≈.ok (zS (ko x "/").1)) (hn:∀x,⇑x<=100000->Γ "number_of" [.str x]≈.ok (.loc,.str (ko x "/").2.2))
 (a:⇑x<=100000):bJ Γ kR [.str x]≈.ok (bL (wb x)):=by
  let S:au:=[bD (zS x)]
  have e:Run (NJ Γ (.cmp .NB (cQ "/") Np)) S (!df (47∈(~~~x))) S:=aN ak (af rfl) ttt (by
    change(bD (U7 "/" x)).map _=_;rw[show U7 "/" x=df (47∈(~~~x)) from yf x 47];rfl)
  show ay (st:=S) rfl (.inr rfl) (show TM.start [.str x] 1=S from rfl) (aI e (λz=>?_) λz=>?_)
  . have b:47∉(~~~x):=by exists z
    unfold wb;rw[Ś b];show aS (aG (aa (af rfl) ah) ttt (c x a)) bh
  . have b:47∈(~~~x):=by exists z
    unfold wb;rw[ř b];show aS (Cv (wm (aG (aa (aG (aa (af rfl) ah) ttt (hs x a)) ah) ttt (c _ (C3 a))) λ_=>vZ (aG (aa (aG (aa (af rfl) ah) ttt (hn x a)) ah) ttt (d _)))) bh
abbrev gw(Γ:Tab)(f:Str):Prop:=∀x:Str,⇑x<=100000->Γ f [.str x]≈.ok (bL (wb x))
def zO(d:gw Γ f){ss:↑Str}(hs:∀x∈ss,⇑x<=100000)(hl:⇑ss<=100000)(h:Run (ev Γ e) st (k,u) st)(c:bg [(k,u)] st)(a:PX .seq [(k,u)]≈(ss.map λx=>(zS x))):Run (ev Γ (.bi .all [.comp 1 cK .seq [e] [] (.call f [Np])])) st (bL (ss.all wb)) st:=by
 have hsz:200000<=c8:=⋯
 have b:=fb (cond:=aT Γ []) (elt:=ev Γ (.call f [Np]))   c .loc (.inl rfl) _ _ .loc (λ_=>fM) ss [] (by grind)
  (λx b=>#[aG (aa (af rfl) ah) ttt (d x (hs x b)),aH])
 have g:=by
  have:=mE (k:=.own) (ss.map wb);rw[i8,X6]at this;show this
 show dW (aa (bY  (aa h ah) c a b) ah) ttt g
def FQ(a:gw Γ "is_word")(h:Rw r):bJ Γ om [Nv r]≈.ok (bL (fj r)):=by
 have hsz:(200000:Nat)<=c8:=⋯
 have e:=h.ln;have b:TM.start [Nv r] 2=[bD (.loc,Nv r),cb]:=by simp[TM.start,eI]
 let S:au:=[bD (.loc,Nv r),bD (lT (r.2.map .str))]
 have gl:Run (ev Γ (.bi .len [NA])) S (lI (⇑r.2:Nat)) S:=by
  have h:=dW (Γ:=Γ) (st:=S) (f:=.len) (es:=[NA]) (aa (af rfl) ah) ttt (j_ (xs:=r.2.map U.str));simp_all
 have c:Run (NJ Γ (.or [.cmp .gt (.bi .len [NA]) (.PF "MOST_TOLD" (.int 8)),.cmp .lt (.Rk .jg [NA]) (.bi .len [NA])])) S (df (8<⇑r.2)||!decide r.2.Nodup) S:=by
  show rg (lG (aN gl ly ttt (j9 (by rw[rD];simp;lia))) λ_=>j7 (aN (Cu (aa (af rfl) ah) ttt (ox ⋯)) gl ttt (nZ ?_)));rw[<-ye,rD];simp
 show ay (st:=S) rfl (.inr rfl) b (aw (aV (x:=(.loc,Nv r)) (af rfl) ak ttt rfl) aR (aI c (λz=>?_) λz=>?_))
 .have:fj r=cK:=by
   unfold fj
   grind
  rw[this];show aS ak bh
 .have:fj r=(wb r.1&&r.2.all wb):=by
   unfold fj;simp_all
  rw[this];show aS (Cv (wm (aG (aa (aV (x:=(.loc,Nv r)) (af rfl) ak ttt rfl) ah) ttt (a r.1 (by have:=h.w;lia))) λ_=>vZ (zO a (λx d=>by have:=h.ws x d;lia) ⋯ (af rfl) ttt (by change bD _=_;rw[i8];rfl)))) bh
def FR(h:⇑r.2<64):bJ Γ dz [Nv r]≈.ok (.loc,Nv (keyOf r)):=by
 have a:=sorted_strs (k:=.loc) (ss:=r.2) h;apply ay (st0:=[bD (.loc,Nv r)]) rfl (.inr rfl) (by simp[TM.start,eI,dz])
 repeat' (first|show b|show c|show a|show(by decide:(2:Nat)<=c8)|sizeOf_list_dec)
end K
namespace K
open PySem L2 TM NR Od KL
def C5(h:st[i]?≈bD (bL b)):Run (NJ Γ (.var i)) st b st:=ae (ig h) (c7 rfl)
def wy{told a:↑Str}(hl:⇑told<=1000)(hi:st[i]?≈bD (.any,.tup (told.map .str)))(c:st[j]?≈bD (.own,w))(d:∀x,bN .isin (.str x) w≈df (x∈a)):
  Run (ev Γ (.bi .all [.comp 1 cK .seq [.var i] [] (.cmp .isin Np (.var (j+1)))])) st (bL (told.all λx=>df (x∈a))) st:=by
 have hsz:1000<=c8:=⋯
 have b:=fb (cond:=aT Γ []) (elt:=ev Γ (.cmp _ Np (.var (j+1)))) (src:=[(.any,.tup (told.map .str))])  ttt .any (.inr rfl) _ _ .loc (λ_=>fM) told [] ⋯
  (λy _=>#[lz (aB rfl) (aC (by assumption)) #[#[.own,rfl,by exists c],ttt] (d y),aH])
 have e:(told.map λx=>U.bl (df (x∈a)))=(told.map λx=>df (x∈a)).map U.bl:=by rw[i8];rfl
 rw[e]at b;have f:(told.all λx=>df (x∈a))=((told.map λx=>df (x∈a)).all id):=⋯
 rw[f];show dW (aa (bY  (aa (aB hi) ah) ttt (by change bD _=_;rw[i8];rfl) b) ah) ttt (mE _)
abbrev FT:↑TM.S:=[.ite (.and [.cmp .NB ND NA,.bi .all [.comp 1 cK .seq [N9] [] (.cmp .isin Np NH)]]) [.put 1 ND (.cst (.bl b6)),.set 2 (.cst (.bl b6))] []]
structure Lk(rows:↑Row)(K:↑Str):Prop where
 nd:K.Nodup
 snd:Vi rows K
 wds:∀x∈K,x∈rows.map (·.1)
abbrev lS(rows:↑Row)(K:↑Str)(vs:↑U)(b:Bool)(o3 o4:Sl):au:=[bD (aL (rows.map Nv)),bD (.own,.Nu K vs),bD (bL b),o3,o4]
def Lk.len(x:Lk rows K):⇑K<=⇑rows:=by
 have:=tY x.nd x.wds;simp_all
def Lk.add(x:Lk rows K)(d:r∈rows)(g:r.1∉K)(f:∀y∈r.2,y∈K):Lk rows (K++[r.1]):=by
 show#[?_,λC c y hy=>?_,λy hy=>?_]
 .rw[my];show#[x.nd,by simp,λa h b i e=>?_];simp_all
 .rcases i7.mp hy with hy|hy
  .show x.snd C c y hy
  .have:=by exists hy
   subst this;show c r d λz hz=>x.snd C c z (f z hz)
 .rcases i7.mp hy with hy|hy
  .show x.wds y hy
  .have:=by exists hy
   subst this;show j0.mpr #[r,d,rfl]
def C6(G:∀r∈rows,⇑r.2<=8)(A:⇑rows<=100)(x:Lk rows K0)(vs)(o3 o4):∃c p b q s,Lk rows c/\(b=b6->⇑K0<⇑c)/\(b=cK->c=K0/\iw rows (·∈K0)) /\
  Run (forM b6 [3,4] (execs Γ FT) [(aL (rows.map Nv))] (rows.map λr=>(Kd.any,Nv r))) (lS rows K0 vs cK o3 o4) .nx (lS rows c p b q s):=by
 have hsz:(20000:Nat)<=c8:=⋯
 have(st1,H,_,c,p,b,q,s,e,f,u,g):=gn (t:=b6) (is:=[3,4]) (body:=execs Γ FT) (rs:=[(aL (rows.map Nv))]) (λr:Row=>(Kd.any,Nv r))
  (λd r st=>d++r=rows/\∃(K:↑Str) (vs:↑U) (b:Bool) (o3 o4:Sl),st=lS rows K vs b o3 o4/\Lk rows K/\(b=b6->⇑K0<⇑K)/\(b=cK->K=K0/\∀r∈d,(∀y∈r.2,y∈K0)->r.1∈K0)) (λ_ _ _ _=>ttt) (λd a r st I=>by
   have(v,K,vs,b,o3,o4,e,f,u,g):=I;subst e;have B:a∈rows:=by rw[<-v];simp
   have J:=G a B;have N:=f.len;let l:Sl:=bD (.any,.str a.1);let m:Sl:=bD (.any,.tup (a.2.map .str));have n:Run (NJ Γ (.and [.cmp .NB ND NA,.bi .all [.comp 1 cK .seq [N9] [] (.cmp .isin Np NH)]])) (lS rows K vs b l m) (!df (a.1∈K)&&a.2.all λy=>df (y∈K)) (lS rows K vs b l m) :=
    je (ju (aN (aB rfl) (aC rfl) ∅ kM) λ_=>cU (CK (wy (i:=4) (j:=1) (w:=.Nu K vs) ⋯ rfl rfl λ_=>JK)))
   have C:Run (d8 b6 [3,4] (.any,Nv a)) (lS rows K vs b o3 o4) () (lS rows K vs b l m):=tZ (.inr rfl);cases z:(!df (a.1∈K)&&a.2.all λy=>df (y∈K)) with
   |false =>
    rw[z]at n;show#[_,_,C,aI n (λh=>by cases h) λ_=>bB,by rw[<-v];simp,K,vs,b,_,_,rfl,f,u,λD=>#[(g D).1,λL Pl hz=>?_]];rcases i7.mp Pl with Pl|Pl
    .show(g D).2 L Pl hz
    grind
   |true =>
    rw[z]at n;have o:=z;erw[cc,mN,Ş,lx,Ř]at o;show#[_,lS rows (K++[a.1]) (vs++[.bl b6]) b6 l m,C,aI n (λ_=>?_) (λh=>by cases h),by rw[<-v];simp,K++[a.1],_,b6,_,_,rfl,f.add B o.1 o.2,λ_=>?_,λh=>by cases h]
    .show CG (k:=.own) (rv:=(bL b6)) (rk:=(.any,.str a.1)) ak rfl (aB rfl) (aA aH (aA (nV rfl) aP)) rfl rfl (rG ⋯ o.1) (aw ak aR bB)
    .rw[mx,Z0]
     grind) rows [] (lS rows K0 vs cK o3 o4) ⟨rfl,K0,vs,cK,o3,o4,rfl,x,(λh=>by cases h),λ_=>#[rfl,λr A=>by cases A]⟩
 subst e;rw[rr]at g;show#[c,p,b,q,s,f,u,g,H]
theorem C7(k:∀r∈rows,⇑r.2<=8)(l:⇑rows<=100):∀f K0 vs o3 o4,Lk rows K0->⇑rows - ⇑K0+2<=f ->
  ∃a c d g,Lk rows a/\iw rows (·∈a)/\Run (ny (NJ Γ NH) (execs Γ [.set 2 (.cst (.bl cK)),.Ob b6 [3,4] .seq [Np] FT]) f) (lS rows K0 vs b6 o3 o4) .nx (lS rows a c cK d g)
 |0,_,_,_,_,_,h=>by lia
 |f+1,K0,vs,o3,o4,x,h=>by
  have(a,c,b,d,g,i,n,o,p):=C6  k l x vs o3 o4;have q:(rows.map Nv).map (λu=>(kE .any,u))=rows.map λr=>(Kd.any,Nv r):=by rw[i8];rfl
  have m:Run (execs Γ [.set 2 _,.Ob b6 _ .seq [Np] FT]) (lS rows K0 vs b6 o3 o4) .nx _ :=
   aw ak aR (ij   (aa (aB rfl) ah) ttt (by change bD _=_;rw[q]) rfl p bB)
  cases b with
  |false =>
   have(e,s):=o rfl;subst e;cases f with
   |zero=>lia
   |succ f=>show#[a,c,d,g,i,s,FG (C5 rfl) m (GP (C5 rfl))]
  |true =>
   have:=n rfl;have:=i.len;have(t,j,v,w,z1,z2,y):=C7 k l f a c d g i ⋯;show#[t,j,v,w,z1,z2,FG (C5 rfl) m y]
def jA(c:∀r∈rows,⇑r.2<=8)(g:⇑rows<=60):∃L,⇑L<64/\L.Nodup/\Vi rows L/\iw rows (·∈L)/\bJ Γ gu [.lst (rows.map Nv)]≈.ok (oL ((b_ L).map .str)):=by
 have d:TM.start [.lst (rows.map Nv)] 5=[bD (aL (rows.map Nv)),cb,cb,cb,cb]:=by rfl
 have(L,vs,h,i,a,e,f):=C7  c ⋯ fuel [] [] cb cb #[.nil,(λC _ x b=>by cases b),(λx b=>by cases b)] (by unfold fuel;simp;lia);have hl:⇑L<64:=by
  have:=a.len;lia
 have hs:PV .sorted [(.bor 1,.Nu L vs)]≈oL ((b_ L).map .str):=by
  change(if ⇑L<64 then _ else _)=_;rw[ř hl]
 show#[L,hl,a.nd,a.snd,e,ay rfl (.inl rfl) d (aw  vY bo (aw ak aR (GQ f (aS (dW (aa (aC rfl) ah) ∅ hs) j8))))]
abbrev tb(rs:↑Row):U:=tR rs
abbrev O4(p:List ↑Row):↑U:=p.map tb
abbrev Oe(rs:↑Row)(p:List ↑Row):U:=.ob cK (tb rs) (O4 p)
abbrev Oq(rs:↑Row)(p:List ↑Row):U:=.ob b6 (tb rs) (O4 p)
abbrev lw(rows:↑Row):↑Str:=open Classical in if h:∃L,Kn rows L then b_ h.choose else []
def GW(h:Kn rows L):lw rows=b_ L:=by
 unfold lw;rw[dif_pos #[L,h]];show sC ((Vp #[L,h]).perm h)
abbrev gl(K L:↑Str):↑Str:=L.filter λx=>df (x∉K)
abbrev QR(a b:↑Row):U:=.tup [.lst ((gl (lw a) (lw b)).map .str),.lst ((gl (lw b) (lw a)).map .str)]
structure Bk(rs:↑Row):Prop where
 ok:∀r∈rs,fj r=b6
 ln:⇑rs<=60
def gy(rs):NT (tb rs)=b6:=by simp[tb,NT,cR]
theorem rK:∀p,d6 (O4 p)=b6
 |[]=>rfl
 |r::p=>by rw[O4,i6,d6,gy];show rK p
theorem rL(n):∀rs:↑Row,dQ (n+2) (rs.map Nv)=b6
 |[]=>by rfl
 |r::rs=>by rw[i6,dQ,rL n rs];simp[Nv,Og,dQ];show jx _ _
def JU(n)(rs):Og (n+3) (tb rs)=b6:=by
 show rL n rs
theorem t9(n):∀p,dQ (n+3) (O4 p)=b6
 |[]=>by rfl
 |r::p=>by rw[O4,i6,dQ,JU];show t9 n p
def JV(K L):⇑(gl K L)<=⇑L:=K' _ _
abbrev LOk(Γ:Tab)(f:Str):Prop:=∀rs:↑Row,Bk rs->⇑(lw rs)<64/\Γ f [tb rs]≈.ok (oL ((lw rs).map .str))
def Md(hi:st[i]?≈bD (oL (L.map .str)))(c:st[j]?≈bD (k,.lst (K.map .str)))(hk:k=.own\/k=.any)(hl:⇑L<=1000):Run (ev Γ (.comp 1 cK .seq [.var i] [.cmp .NB Np (.var (j+1))] Np)) st (oL ((gl K L).map .str)) st:=by
 have hsz:1000<=c8:=⋯
 have b:=kL (cond:=aT Γ [.cmp .NB Np (.var (j+1))]) (elt:=ev Γ Np) (src:=[(.bor i,.lst _)])  ⟨⟨.own,rfl,hi⟩,ttt⟩ .loc (.inl rfl) U.str _ (λx=>df (x∉K)) .loc L [] ⋯
  (λx b=>by
   have a:=c;show#[cU ?_,λ_=>#[af rfl,aH]];rcases hk with rfl|rfl
   .show aN (af rfl) (aC a) #[#[.own,rfl,a],ttt] ir
   .show aN (af rfl) (aB a) ttt ir)
 show bY  (aa (aC hi) ah) #[#[.own,rfl,hi],ttt] (by change bD _=_;rw[i8];rfl) b
def JW(a:LOk Γ "learnt")(h:Bk rows)(h':Bk rows'):bJ Γ dA [tb rows,tb rows']≈.ok (.loc,QR rows rows'):=by
 have hsz:(1000:Nat)<=c8:=⋯
 have(g,d):=a rows h;have(l2,e):=a rows' h';let b:Sl:=bD (.loc,tb rows);let c:Sl:=bD (.loc,tb rows');have f:TM.start [tb rows,tb rows'] 6=[b,c,cb,cb,cb,cb]:=by simp[TM.start,gy,b,c]
 show ay rfl (.inr rfl) f (aw (aG (aa (af rfl) ah) ttt d) bo (aw (aG (aa (af rfl) ah) ttt e) bo
  (aw (Md (i:=3)   rfl rfl (.inl rfl) ⋯) bo (aw (Md    rfl rfl (.inl rfl) ⋯) bo
   (aS (dy  (aa (aC   rfl) (aa (aC rfl) ah)) #[#[.own,rfl,rfl],#[.own,rfl,rfl],ttt] (aA (ya rfl) (aA (ya rfl) aP)) (by change 2<=c8;lia)) bh)))))
abbrev ShT(Γ:Tab):Prop:=∀rs a p,Bk rs->Bk a->Γ "Shelf.turn_to" [Oe rs p,tb a]≈.ok (lT [QR rs a,Oe a p])
def C8(d:∀a b,Bk a->Bk b->Γ "gained_and_lost" [tb a,tb b]≈.ok (.loc,QR a b))(h:Bk rows)(h':Bk rows'):eY Γ eM (eM.body.drop 1) [Oe rows past,tb rows']≈.ok (lT [QR rows rows',Oe rows' past]):=by
 let c:Sl:=bD (.loc,tb rows');have e:cC [Oe rows past,tb rows'] 3=[bD (.A',Oe rows past),c,cb]:=by simp[cC,TM.start,gy,c]
 show bH  rfl e (aw (aG (aa (gr rfl) (aa (af rfl) ah)) ttt (d rows _ h h')) aR
  (JS  (af rfl) aH rfl (gy _) (rK _) (aS (af rfl) bh))) rfl
def C9(c:ShT Γ)(h:Bk rows)(h':Bk rows')(f:⇑past<=100):eY Γ eL (eL.body.drop 1) [Oe rows past,tb rows']≈.ok (lT [QR rows rows',Oe rows' (past++[rows])]):=by
 have hsz:1000<=c8:=⋯
 let b:Sl:=bD (.loc,tb rows');have d:cC [Oe rows past,tb rows'] 2=[bD (.A',Oe rows past),b]:=by simp[cC,TM.start,gy,b]
 have e:O4 (past++[rows])=O4 past++[tb rows]:=by simp[O4]
 have a:=c rows _ (past++[rows]) h h';unfold Oe at a ⊢;rw[e]at a ⊢;show bH  rfl d (JT   rfl (by unfold O4;grind) (gy _) (by rw[<-e];show rK _)
  (aS (pO  rfl (aa (af rfl) ah) ttt rfl a) bh)) rfl
def C_:eY Γ iQ (iQ.body.drop 1) [Oe rows past]≈.ok (lT [tb rows,Oe rows past]) :=
 bH  rfl rfl (aS (gr rfl) bh) rfl
def Dd(b:ShT Γ)(h:Bk rows)(h':Bk rows'):eY Γ du (du.body.drop 1) [Oe rows (past++[rows'])]≈.ok (lT [QR rows rows',Oe rows' past]):=by
 have e:O4 (past++[rows'])=O4 past++[tb rows']:=by simp[O4]
 have t:Run (NJ Γ (.PQ 0)) [bD (.A',Oe rows (past++[rows']))] cK [bD (.A',Oe rows (past++[rows']))]:=by
  have:=JL (Γ:=Γ) (i:=0) (st:=[bD (.A',Oe rows (past++[rows']))]) (u:=tb rows) (us:=O4 (past++[rows'])) rfl (by rw[Og];show t9 46 _);rw[e,show(O4 past++[tb rows']).isEmpty=cK by cases O4 past<;>rfl]at this;show this
 have a:=JM (Γ:=Γ) (i:=0) (st:=[bD (.A',Oe rows (past++[rows']))]) (u:=tb rows) (us:=O4 (past++[rows'])) (w:=tb rows') rfl (by rw[e];simp);rw[e,List.dropLast_concat]at a;show bH (st':=[]) rfl rfl (aI t (λz=>by cases z) λ_=>aS (pO rfl (aa a ah) ttt rfl (b rows rows' past h h')) bh) rfl
end K
namespace TM
open PySem L2 NR
def t_:jQ (k,tR rs) lo hi≈(kE k,.tup ((cut rs lo hi).map Nv)):=by
 erw[jQ];rw[rC]
def ua(h:⇑a+⇑b<=c8):P8 .add (k,tR a) (k',tR b)≈(kT k k',.tup ((a++b).map Nv)):=by
 change(if _ then _ else _)=_;simp_all
def GX(h:Run (ev Γ e) st x st1):Run (execs Γ (.Rm c e::ss)) st (.rt .io (.str c)) st1:=ae (ae h aK) aK
def wz(xs:↑α)(k:Nat):cut xs cb (bD (k:Int))=xs.take k:=by
 change(xs.drop 0).take (min k _ - 0)=_;simp
def oy(xs:↑α)(k:Nat):cut xs (bD (k:Int)) cb=xs.drop k:=by
 change(xs.drop (min k _)).take (⇑xs - min k _)=_;rw[R_ ⋯];simp
end TM
namespace K
open PySem L2 TM NR Od KL
abbrev Qr(r s:Row):Bool:=df (keyOf r=keyOf s)
def zP(a:∀r,⇑r.2<64->Γ "in_one_order" [Nv r]≈.ok (.loc,Nv (keyOf r)))(h:⇑r.2<64)(b:⇑s.2<64):bJ Γ mF [Nv r,Nv s]≈.ok (bL (Qr r s)):=by
 apply ay (st0:=[bD (.loc,Nv r),bD (.loc,Nv s)]) rfl (.inr rfl) (by simp[TM.start,eI,mF])
 repeat' (first|show a r h|show a s b|show x_ (op:=b6)|sizeOf_list_dec)
abbrev Q4(rows:↑Row)(r:Row):↑Nat:=(ib ⇑rows).filter λp=>Qr (rows.getD p ("",[])) r
abbrev Vk(Γ:Tab):Prop:=∀(rs:↑Row) (r:Row),Bk rs->⇑r.2<64->Γ "places_alike" [tb rs,Nv r]≈.ok (oL ((Q4 rs r).map λn:Nat=>.int (n:Nat)))
def jz(c:∀r s,⇑r.2<64->⇑s.2<64->Γ "alike" [Nv r,Nv s]≈.ok (bL (Qr r s)))(a:Bk rows)(d:⇑r.2<64):bJ Γ fc [tb rows,Nv r]≈.ok (oL ((Q4 rows r).map λn:Nat=>.int (n:Nat))):=by
 have hsz:(2000:Nat)<=c8:=⋯
 have g:=a.ln;have f:TM.start [tb rows,Nv r] 2=[bD (.loc,tb rows),bD (.loc,Nv r)]:=by simp[TM.start,gy,eI]
 have b:=oj (st:=[bD (.loc,tb rows),bD (.loc,Nv r)]) (cond:=aT Γ [.call "alike" [NA,ND]]) (elt:=ev Γ Np) (src:=[(.loc,tb rows)]) ttt (λp:Nat=>U.int (p:Nat)) (λp:Nat=>Nv (rows.getD p ("",[]))) (λp:Nat=>U.int (p:Nat)) _ (ib ⇑rows) [] (by grind)
  (λy h=>#[cU (wo (aa (af rfl) (aa (af rfl) ah)) ttt (c _ r (by
   have j:y<⇑rows:=⋯
   have e:rows.getD y ("",[])=rows[y]:=⋯
   rw[e];have:=mH (a.ok rows[y] (F1 _));lia) d) rfl),af rfl])
 rw[rr]at b;have e:((rows.map Nv).zipIdx.map λp=>(kE .loc,U.tup [.int p.2,p.1]))=(ib ⇑rows).map λp:Nat=>(lT [.int (p:Nat),Nv (rows.getD p ("",[]))]):=by
  apply Q3
  .simp
  .intro i k l;have hi:i<⇑rows:=⋯
   simp[kE,S3,hi]
 show ay rfl (.inl rfl) f (aS (bY (rs:=[(.loc,tb rows)]) (aa (af rfl) ah) ttt (by change bD _=_;rw[e]) b) j8)
def rM:Q4 rows r=[]↔∀s∈rows,keyOf s≠keyOf r:=by
 unfold Q4;rw[Pn];constructor
 .intro h s hs e;have(i,hi,rfl):=Wr.mp hs;show h i (uv.mpr hi) ?_;have a:rows.getD i ("",[])=rows[i]:=by simp[hi]
  rw[a,Qr,Ř];show e
 .intro h i hi e;have hi:=uv.mp hi;have a:rows.getD i ("",[])=rows[i]:=⋯
  rw[a,Qr,Ř]at e;show h _ (F1 _) e
def De(d:∀x∈a,keyOf x≠keyOf r)(hs:keyOf s=keyOf r):∃l,Q4 (a++s::b) r=⇑a::l:=by
 have h:(Q4 (a++s::b) r).head?≈⇑a:=by
  unfold Q4;rw[List.head?_filter,List.find?_range_eq_some];show#[by simp[Qr,hs],by simp,λj c=>?_];have e:(a++s::b).getD j ("",[])=a[j]:=by simp[qs c,c]
  rw[e];erw[Qr,mN,Ş];show d _ (F1 _)
 cases f:Q4 _ r with
 |nil=>simp_all
 |cons x l=>rw[f]at h;show#[l,by rw[vu h]]
abbrev rN(Γ:Tab):Prop:=∀r:Row,Rw r->Γ "is_row" [Nv r]≈.ok (bL (fj r))
abbrev ShD(Γ:Tab):Prop:=∀rs a p,Bk rs->Bk a->⇑p<=100->Γ "Shelf.do_deed" [Oe rs p,tb a]≈.ok (lT [QR rs a,Oe a (p++[rs])])
def fh:Run (ev Γ (.lst [])) st (oL []) st:=dX   ah ttt aP (kj _)
def ub(c:Vk Γ)(d:rN Γ)(e:Bk rows)(a:Rw r)(h0:st[0]?≈bD (.A',Oe rows past))(b:st[3]?≈bD (.loc,Nv r)):
  Run (NJ Γ (.or [.not (.call "is_row" [ND]),.cmp .ne (.call "places_alike" [.Oy 0,ND]) (.lst [])])) st (!fj r||!(Q4 rows r).isEmpty) st:=by
 show rg (lG (tI (wo (aa (af b) ah) ttt (d r a) rfl)) λ_=>j7 (aN (aG (aa (gr h0) (aa (af b) ah)) ttt (c rows r e (by have:=a.ln;lia))) fh ttt ?_));have:=ix (us:=(Q4 rows r).map λn:Nat=>U.int n) (by show iP _ _ _);simp_all
def FU{ts:↑Str}:cC [Oe rows past,.str w,.tup (ts.map .str)] 4=[bD (.A',Oe rows past),bD (zS w),bD (lT (ts.map .str)),cb]:=by simp[cC,TM.start,NT,fQ]
def mI(a:st[1]?≈bD (zS w))(b:st[2]?≈bD (lT (ts.map .str))):Run (ev Γ (.tup [NA,.bi .tuple [NH]])) st (.loc,Nv (w,ts)) st :=
 dy (aa (af a) (aa (dW (aa (af b) ah) ttt rfl) ah)) ttt (aA aH (aA aH aP)) (by change 2<=c8;decide)
abbrev putSt(rows:↑Row)(past:List ↑Row)(r:Row)(o:Sl):au:=[bD (.A',Oe rows past),bD (zS r.1),bD (lT (r.2.map .str)),o]
def FV(c:Vk Γ)(d:rN Γ)(e:ShD Γ)(a:Bk rows)(f:Rw r)(b:fj r=b6)(hn:∀s∈rows,keyOf s≠keyOf r)(hl:⇑rows<60)(g:⇑past<=100):
  eY Γ dY (dY.body.drop 1) [Oe rows past,.str r.1,.tup (r.2.map .str)]≈.ok (lT [QR rows (rows++[r]),Oe (rows++[r]) (past++[rows])]):=by
 have hsz:(2000:Nat)<=c8:=⋯
 have i:Bk (rows++[r]):=#[λx j=>(i7.mp j).elim (a.ok x) λh=>by rw[kr.mp h];show b,by simp;lia]
 let S:au:=putSt rows past r (bD (.loc,Nv r));have t:=ub (Γ:=Γ) (st:=S)  c d a f rfl rfl;rw[rM.mpr hn,b]at t;have k:Run (NJ Γ (.cmp .ge (.bi .len [.Oy 0]) (.PF "MOST_ROWS" (.int 60)))) S cK S:=aN (dW (aa (gr rfl) ah) ttt (j_)) ly ttt (L8 (by grind));show bH (st':=_) rfl FU (aw (mI rfl rfl) aR
  (aI t (λz=>by cases z) λ_=>aI k (λz=>by cases z) λ_=>aS (pO (st:=S) rfl (aa (bu (gr   rfl) (dy (us:=[r].map Nv) (aa (af rfl) ah) ttt (aA aH aP) (by change 1<=c8;lia)) ttt (ua (by grind))) ah) ttt rfl (e rows _ past a i g)) bh)) rfl
def Df(a:Vk Γ)(b:rN Γ)(c:Bk rows)(d:Rw r)(h:fj r=cK\/∃s∈rows,keyOf s=keyOf r):
  eY Γ dY (dY.body.drop 1) [Oe rows past,.str r.1,.tup (r.2.map .str)]≈.ok (.io,.tup [.str "Unfit",Oe rows past]):=by
 let S:=putSt rows past r (bD (.loc,Nv r));have t:=ub  (st:=S)  a b c d rfl rfl;have e:(!fj r||!(Q4 rows r).isEmpty)=b6:=by
  rcases h with h|⟨s,hs,h⟩
  .rw[h];rfl
  .cases f:(Q4 rows r).isEmpty with
   |false=>simp
   |true=>show absurd h (rM.mp (oa.mp f) s hs)
 rw[e]at t;show bH  rfl FU (aw (mI rfl rfl) aR (aI t (λ_=>GX ak) λz=>by cases z)) rfl
def zQ(b:Vk Γ)(c:Bk rows)(hl:⇑r.2<64)(hn:∀s∈rows,keyOf s≠keyOf r):
  eY Γ dq (dq.body.drop 1) [Oe rows past,.str r.1,.tup (r.2.map .str)]≈.ok (.io,.tup [.str "NoRow",Oe rows past]):=by
 have a:=b rows r c hl;rw[rM.mpr hn]at a;let S:=putSt rows past r (bD (oL []));have t:Run (NJ Γ (.cmp .eq ND _)) S b6 S:=aN (aC rfl) fh ∅ rfl;show bH  rfl FU (aw (aG (aa (gr rfl) (aa (mI rfl rfl) ah)) ttt a) bo (aI t (λ_=>GX ak) λz=>by cases z)) rfl
def zR(rows):eY Γ du (du.body.drop 1) [Oe rows []]≈.ok (.io,.tup [.str "NoDeed",Oe rows []]):=by
 rfl
def Dg(g:Vk Γ)(h:ShD Γ)(c:Bk (a++r::b))(d:Bk (a++b))(hk:keyOf (r.1,ts)=keyOf r)(hl:⇑ts<64)(i:∀x∈a,keyOf x≠keyOf r)(m:⇑past<=100):
  eY Γ dq (dq.body.drop 1) [Oe (a++r::b) past,.str r.1,.tup (ts.map .str)]≈.ok (lT [QR (a++r::b) (a++b),Oe (a++b) (past++[a++r::b])]):=by
 have hsz:(2000:Nat)<=c8:=⋯
 have y:=c.ln;have e:=d.ln;have(l,o):=De (r:=(r.1,ts)) (a:=a) (b:=b) (s:=r) (by rw[hk];show i) hk.symm;let p:Sl:=bD (zS r.1);let q:Sl:=bD (lT (ts.map .str));let u:Sl:=bD (oL ((⇑a::l).map λn:Nat=>.int (n:Nat)));let S:au:=[bD (.A',Oe (a++r::b) past),p,q,u]
 have f:=g (a++r::b) (r.1,ts) c hl;rw[o]at f;have t:Run (NJ Γ (.cmp .eq ND (.lst []))) S cK S:=by
  show aN (aC rfl) fh ∅ ?_;have v:Og 50 (.lst ((⇑a::l).map λn:Nat=>U.int (n:Nat)))=b6:=by rw[Og];show iP _ _ _
  change(if _ then _ else _)=_;rw[ř #[v,rfl]];rfl
 have h0:Run (ev Γ (.idx ND cO)) S _ S:=aV (aC rfl) ak ∅ (aJ (bM (j:=0) rfl));have s1:Run (ev Γ (.Ph (.Oy 0) [] [.idx ND cO])) S (.loc,tR a) S:=by
  have:=t_ (k:=.loc) (rs:=a++r::b) (lo:=cb) (hi:=bD (⇑a:Int));rw[wz,List.take_left'  rfl]at this;show lD (gr rfl) lA (lC h0) ttt this
 have w:Run (ev Γ (.Ph (.Oy 0) [.bin .add (.idx ND cO) cA] [])) S (.loc,tR b) S:=by
  have:=t_ (k:=.loc) (rs:=a++r::b) (lo:=bD ((⇑a+1:Nat):Int)) (hi:=cb);rw[oy,show a++r::b=(a++[r])++b by simp,Wb ⋯,show(a++[r])++b=a++r::b by simp]at this;show lD (gr rfl) (lC (bu h0 ak ttt d5)) lA ttt this
 show bH (st':=_) rfl FU (aw (aG (aa (gr rfl) (aa (mI rfl rfl) ah)) ttt f) bo
  (aI t (λz=>by cases z) λ_=>aS (pO (st:=S) rfl (aa (bu s1 w ttt (ua (by grind))) ah) ttt rfl (h (a++r::b) (a++b) past c d m)) bh)) rfl
end K
namespace TM
open PySem L2 NR
abbrev jl(c:Nat):↑Str->↑Nat
 |[]=>[]
 |[x]=>(~~~x)
 |x::y::r=>(~~~x)++c::jl c (y::r)
def gz(c):∀xs,(~~~(ri #[#v[c]] xs))=jl c xs:=by
 have h:∀xs ,(~~~(Ä _ xs))=jl c xs:=λxs=>by
  match xs with
  |[]=>rfl
  |[x]=>rfl
  |x::y::r =>
   have a:=gz.go c (y::r);change(x++⟨#v[c]⟩++Ä _ _).cps.toList=_;rw[cF,cF,a,N4];rfl
 intro xs;change(Y1 _ xs).cps.toList=_;rw[Vz];show h xs
where go (c:Nat):∀xs ,(~~~(Ä _ xs))=jl c xs
 |[]=>rfl
 |[x]=>rfl
 |x::y::r=>by
  change(x++⟨#v[c]⟩++Ä _ _).cps.toList=_;rw[cF,cF,go c _,N4];rfl
theorem Dh:∀{xs ys},xs≠[]->ys≠[]->(∀x∈xs,c∉(~~~x))->(∀y∈ys,c∉(~~~y))->jl c xs=jl c ys->xs=ys
 |[],_,h,_,_,_,_=>absurd rfl h
 |_::_,[],_,h,_,_,_=>absurd rfl h
 |[x],[y],_,_,_,_,e=>by rw[TM.dO (e)]
 |[x],y::z::r,_,_,a,_,e=>by
  have e:(~~~x)=(~~~y)++c::jl c _:=e;show absurd (by rw[e];simp) (a x ⋯)
 |x::z::r,[y],_,_,_,b,e=>by
  have e:(~~~x)++c::jl c _=(~~~y):=e;show absurd (by rw[<-e];simp) (b y ⋯)
 |x::z::r,y::j::k,_,_,a,b,e=>by
  have(d,f):=qq e (a x ⋯) (b y ⋯);rw[TM.dO d,Dh (Yf _ _) (Yf _ _) (λx g=>a x (f7 _ g)) (λy i=>b y (f7 _ i)) f]
def oz(h:xs≠[])(hn:∀x∈xs,(~~~x)≠[])(a:∀x∈xs,c∉(~~~x)):G' (ri #[#v[c]] xs) ⟨#v[c]⟩=xs:=by
 have b:=StrLaws.join_split (ri #[#v[c]] xs) #[#v[c]];have e:jl c (G' (ri #[#v[c]] xs) #[#v[c]])=jl c xs:=by
  rw[<-gz.go,b,gz]
 show Dh (λz=>?_) h (StrLaws.split_free _ c) a e;rw[z]at e;cases xs with
 |nil=>show h rfl
 |cons x r =>
  cases r with
  |nil=>show hn x ⋯ e.symm
  |cons y r=>show absurd e.symm (by change (~~~x)++c::_≠[];simp)
def rO{x:Str}(h:bC (~~~x)):∀c∈(~~~x),47<=c:=by
 have d:∀n:_root_.Fin 100,∀c∈(~~~(qp n)),47<=c:=by decide +kernel
 rcases h with h|⟨a,b,k,e,h,k2,j,l⟩
 .have(f,g,i):=(cN _).mp h
  grind
 .have(f,g,i):=(cN _).mp h;rw[e];intro c hc;rcases i7.mp hc with hc|hc
  .grind
  .rcases eT.mp hc with rfl|hc
   .decide
   .have:=d #[k.toNat,⋯] c
    grind
theorem yg:∀{ss:↑Str},(∀x∈ss,⇑x<=n)->(ss.map (·.length)).sum<=n * ⇑ss
 |[],_=>kj _
 |x::ss,h=>by
  have:=yg λy a=>h y (f7 _ a);have:=h x il;rw[i6,Đ,k9,Nat.mul_succ];lia
def gA(h:∀x∈ss,⇑x<=n)(hs:⇑sep=1)(hl:(n+1) * ⇑ss<=1000000):Vn sep ss=b6/\⇑(ri sep ss)<=(n+1) * ⇑ss:=by
 have a:=yg h;show#[Ł (by grind),?_];change(Y1 sep ss).length<=_;rw[Vz];have:=StrLaws.join_length_le sep ss
 grind
def iA(h:Vn sep ss=b6):jR .join (.str sep) [(k,.lst (ss.map .str))]≈zS (ri sep ss):=by
 change(strsOf _).bind _=_;simp_all
def uc(h:Vn sep ss=b6):jR .join (.str sep) [(k,.tup (ss.map .str))]≈zS (ri sep ss):=by
 change(strsOf _).bind _=_;simp_all
def zT(hs:⇑sep=1)(hl:⇑x<=1000000)(e:G' x sep=ss):jR .split (.str x) [(k,.str sep)]≈oL (ss.map .str):=by
 change(if (⇑sep==0)=cK/\⇑x+2<=c8 then bD _ else cb)=_;have hz:1000002<=c8:=⋯
 rw[ř #[by rw[hs];rfl,⋯],e]
def pS:bN .eq (.tup (ss.map U.str)) (.tup [])≈df (ss=[]):=by
 erw[bN];rw[ř #[by simp[Og,fP],by rfl]];cases ss<;>simp[bZ,cY]
abbrev tl(r:Row):↑Str:=if r.2=[] then [("*":Str)] else r.2
abbrev aW(r:Row):Str:=r.1++(" = ":Str)++ri " " (tl r)
structure RowW(r:Row):Prop where
 Qb:⇑r.2<=9
 w1:bC (~~~r.1)
 w2:∀x∈r.2,bC (~~~x)
def gB(h:RowW r):1<=⇑(tl r)/\⇑(tl r)<=9:=by
 unfold tl;split
 .simp
 .rename_i z;show#[Nat.pos_of_ne_zero λe=>z (TR e),h.Qb]
def yh(h:RowW r):∀x∈tl r,(~~~x)≠[]/\⇑x<=11/\∀c∈(~~~x),42<=c:=by
 intro x a;unfold tl at a;split at a
 .rw[kr.mp a];show#[by decide +kernel,by decide +kernel,by decide +kernel]
 .have b:=h.w2 x a;have:=b.len;show#[λz=>by simp_all,by show this.2,λc d=>by have:=rO b c d;lia]
def kh(h:RowW r):∀x∈r.1::("=":Str)::tl r,(~~~x)≠[]/\⇑x<=11/\∀c∈(~~~x),42<=c:=by
 intro x hx;rcases eT.mp hx with rfl|hx
 .have:=h.w1.len;show#[λz=>by simp_all,by show this.2,λc a=>by have:=rO h.w1 c a;lia]
 .rcases eT.mp hx with rfl|hx
  .show#[by decide +kernel,by decide +kernel,by decide +kernel]
  .show yh h x hx
def pT(h:RowW r):aW r=ri #[#v[32]] (r.1::("=":Str)::tl r):=by
 show TM.dO ?_;have e:(~~~(ri " " (tl r)))=jl 32 _:=gz 32 _;rw[aW,cF,cF,e,gz];have hl:=(gB h).1;cases q:tl r with
 |nil=>simp_all
 |cons y ys =>
  rw[N4];rfl
def wA(h:RowW r):G' (aW r) #[#v[32]]=r.1::("=":Str)::tl r:=by
 rw[pT h];show oz (Yf _ _) (λx a=>(kh h x a).1) λx a b=>by have:=(kh h x a).2.2 32 b;lia
theorem Di:∀{xs},d∈jl c xs->d=c\/∃x∈xs,d∈(~~~x)
 |[],h=>by cases h
 |[x],h=>.inr #[x,by simp,h]
 |x::y::r,h=>by
  rcases i7.mp h with h|h
  .show .inr #[x,by simp,h]
  .rcases eT.mp h with h|h
   .show .inl h
   .rcases Di h with h|⟨z,a,b⟩
    .show .inl h
    .show .inr #[z,f7 _ a,b]
def gC(h:RowW r):(~~~(aW r))≠[]/\⇑(aW r)<=140/\∀c∈(~~~(aW r)),32<=c:=by
 have e:=gA (sep:=#[#v[32]])   (λx f=>(kh h x f).2.1) rfl (by have:=(gB h).2;grind);rw[pT h];show#[λz=>?_,qv e.2 (by have:=(gB h).2;grind),λc d=>?_]
 .rw[gz]at z;show absurd z (by change (~~~r.1)++32::_≠[];simp)
 .rw[gz]at d;rcases Di d with rfl|⟨x,a,b⟩
  .simp
  .have:=(kh h x a).2.2 c b;lia
abbrev textOf(rows:↑Row):Str:=ri #[#v[10]] (rows.map aW)
def ud(h:∀r∈rows,RowW r)(hl:⇑rows<=60):Vn ⟨#v[10]⟩ (rows.map aW)=b6/\⇑(textOf rows)<=10000:=by
 have a:=gA (sep:=#[#v[10]])   (λx b=>by
  have(r,c,rfl):=j0.mp b;show(gC (h r c)).2.1) rfl (by grind)
 show#[a.1,qv a.2 (by grind)]
def wB(h:∀r∈rows,RowW r)(hn:rows≠[]):G' (textOf rows) ⟨#v[10]⟩=rows.map aW:=by
 show oz (by exists hn) (λx a=>?_) λx a c=>?_
 .have(r,b,rfl):=j0.mp a;show(gC (h r b)).1
 .have(r,b,rfl):=j0.mp a;have:=(gC (h r b)).2.2 10 c;lia
def zU(h:∀r∈rows,RowW r):Yp (textOf rows) "\n" ";"=ri ";" (rows.map aW):=by
 by_cases hn:rows=[]
 .subst hn;decide +kernel
 .rw[show("\n":Str)=⟨#v[10]⟩ from rfl,StrLaws.replace_one,wB h hn];show(Vz _ _).symm
end TM
namespace K
open PySem L2 TM NR Od KL
def Vh(a:gw Γ f)(h:bC (~~~x)):Γ f [.str x]≈.ok (bL b6):=by
 have:=a x (by rw[len_list];have:=h.len;lia);rw[rJ h]at this;lia
def wC(d:gw Γ f){ss:↑Str}(hs:∀x∈ss,bC (~~~x))(hl:⇑ss<=1000)(h:Run (ev Γ e) st (k,u) st)(c:bg [(k,u)] st)(a:PX .seq [(k,u)]≈(ss.map λx=>(.any,U.str x))):Run (ev Γ (.bi .all [.comp 1 cK .seq [e] [] (.call f [Np])])) st (bL b6) st:=by
 have hsz:2000<=c8:=⋯
 have b:=fb (cond:=aT Γ []) (elt:=ev Γ (.call f [Np]))   c .any (.inr rfl) _ _ .loc (λ_=>fM) ss [] (by grind)
  (λx b=>#[aG (aa (aB rfl) ah) ttt (Vh d (hs x b)),aH])
 have g:=by
  have:=mE (k:=.own) (ss.map λ_=>b6);rw[i8,X6,show ss.all _=b6 by simp]at this;show this
 show dW (aa (bY  (aa h ah) c a b) ah) ttt g
def Dj:bN .ne (.str a) (.str a)≈cK:=pN rfl
def ue(ss:↑Str):NT (.tup (ss.map U.str))=b6:=by simp[NT,fQ]
def zV(d:gw Γ "is_word")(h:RowW r):bJ Γ iz [.lst ((tl r).map .str)]≈.ok (lT (r.2.map .str)):=by
 let S:au:=[bD (aL ((tl r).map .str))]
 have c:TM.start [.lst _] 1=S:=rfl;have b:Run (NJ Γ (.cmp .eq Np (.lst [.PF "PICTURE_SIGN" _]))) S _ S :=
  aN (y:=(oL ([("*":Str)].map .str))) (aB rfl) (dX (aa ly ah) ttt (aA aH aP) ⋯) ttt ka
 by_cases e:r.2=[]
 .have a:tl r=[("*":Str)]:=by unfold tl;rw[ř e]
  rw[ŝ a]at b;rw[e];show ay rfl (.inr rfl) c (kK b (aS (dy ah ttt aP (kj _)) bh))
 .have a:tl r=r.2:=by unfold tl;rw[Ś e]
  have f:tl r≠[("*":Str)]:=λz=>by
   have g:("*":Str)∈r.2:=by rw[<-a,z];simp
   show absurd (rO (h.w2 _ g) 42 (by decide +kernel)) ⋯
  rw[ś f]at b;have i:∀x∈tl r,bC (~~~x):=by rw[a];show h.w2
  have j:=wC d (st:=S) (e:=.var 0)   i (by have:=(gB h).2;lia) (aB rfl) ttt (by change bD _=_;rw[i8];rfl);rw[<-a];show ay rfl (.inr rfl) c (aI b (λz=>by cases z) λ_=>aI (tI  (CK j)) (λz=>by cases z) λ_=>aS (dW  (aa (aB rfl) ah) ttt rfl) (GJ (ue (tl r))))
def Dk(b:gw Γ "is_word")(h:RowW r)(d:Γ "read_told" [.lst ((tl r).map .str)]≈.ok (lT (r.2.map .str))):bJ Γ jB [.str (aW r)]≈.ok (.loc,Nv r):=by
 have hsz:(1000:Nat)<=c8:=⋯
 let L:=r.1::("=":Str)::tl r;let S:au:=[bD (zS (aW r)),bD (oL (L.map .str))]
 have e:jR .split (.str (aW r)) [(zS " ")]≈oL (L.map .str):=zT rfl (by have:=(gC h).2.1;lia) (wA h);have f:N_ (L.map U.str) 0≈.str r.1:=by show bM rfl
 have g:N_ (L.map U.str) 1≈.str "=":=by show bM rfl
 have a:Run (ev Γ (.idx NA cO)) S (zS r.1) S:=aV (aC rfl) ak ∅ (aJ f);have i:Run (NJ Γ (.or [.cmp .lt (.bi .len [NA]) (cI 3),.not _,.cmp .ne (.idx NA cA) (cQ "=")])) S cK S :=
  rg (xT (aN (dW (aa (aC rfl) ah) ∅ mw) ak ttt (nZ (ś (by
   have:=(gB h).1;rw[ei]
   grind)))) (xT (tI (c:=b6) (wo (aa a ah) ttt (Vh b h.w1) rfl)) (j7 (aN (aV (aC rfl) ak ∅ (aJ g)) ak ttt Dj))))
 have j:jQ (.bor 1,.lst (L.map .str)) (bD 2) cb≈oL ((tl r).map .str):=by
  change bD (oL (cut (L.map U.str) (bD ((2:Nat):Int)) cb))=_;unfold cut;rw[HT.DR,HT.Av,R_ ⋯];rfl
 show ay rfl (.inr rfl) (rfl) (aw (fL (af rfl) (aa ak ah) ttt e) bo (aI i (λz=>by cases z) λ_ =>
  aS (dy (aa a (aa (aG (aa (lD (aC rfl) (lC ak) lA ∅ j) ah) ttt d) ah)) ttt (aA aH (aA aH aP)) (by change 2<=c8;lia)) bh))
def zW(h:RowW r):bJ Γ eN [.tup (r.2.map .str)]≈.ok (zS (ri " " (tl r))):=by
 let S:au:=[bD (lT (r.2.map .str))]
 have c:TM.start [.tup (r.2.map .str)] 1=S:=by simp[TM.start,ue,S]
 have a:Run (NJ Γ (.cmp .eq Np _)) S _ S:=aN (af rfl) (dy ah ttt aP (kj _)) ttt pS;by_cases e:r.2=[]
 .rw[ŝ e]at a;have b:ri " " (tl r)="*":=by unfold tl;rw[ř e];rfl
  rw[b];show ay rfl (.inr rfl) c (kK a (aS ly bh))
 .rw[ś e]at a;have b:tl r=r.2:=by unfold tl;rw[Ś e]
  have d:=gA (sep:=" ")   (λx f=>(yh h x f).2.1) rfl (by have:=(gB h).2;lia);rw[b]at d ⊢;show ay rfl (.inr rfl) c (aI a (λz=>by cases z) λ_=>aS (fL ak (aa (af rfl) ah) ttt (uc d.1)) bh)
def Mg(h:RowW r)(c:Run (ev Γ a) st (zS r.1) st)(d:Run (ev Γ b) st (zS (ri " " (tl r))) st):Run (ev Γ (.bin .add (.bin .add a (cQ " = ")) b)) st (zS (aW r)) st:=by
 have hsz:1000<=c8:=⋯
 have f:=gA (sep:=" ")   (λx e=>(yh h x e).2.1) rfl (by have:=(gB h).2;lia);have g:=(gB h).2;have i:⇑r.1<=11:=by show h.w1.len.2
 have j:⇑(" = ":Str)=3:=by rfl
 show bu (bu c ak ttt (fq ⋯)) d ttt (fq (by rw[str_len];lia))
def zX(h:∀r∈rows,RowW r)(hl:⇑rows<=60)(c:∀r∈rows,Γ "shown_told" [.tup (r.2.map .str)]≈.ok (zS (ri " " (tl r)))):bJ Γ mG [tR rows]≈.ok (zS (textOf rows)):=by
 have hsz:(1000:Nat)<=c8:=⋯
 let S:au:=[bD (.loc,tR rows)]
 have d:TM.start [tR rows] 1=S:=by simp[TM.start,NT,cR,S]
 have a:=fb (cond:=aT Γ []) (elt:=ev Γ (.bin .add (.bin .add (.idx Np cO) _) (.call _ [.idx Np cA]))) (src:=[(.loc,tR rows)]) (st:=S) ttt .loc (.inl rfl) Nv _ .loc (λ_=>fM) rows [] (by grind)
  (λr b=>#[Mg (h r b) (aV  (af rfl) ak ttt rfl) (aG (aa (aV  (af rfl) ak ttt rfl) ah) ttt (c r b)),aH])
 have e:(rows.map λr=>U.str (aW r))=(rows.map aW).map U.str:=by rw[i8];rfl
 rw[e]at a;have f:PX .seq [(.loc,tR rows)]≈(rows.map λr=>(Kd.loc,Nv r)):=by change bD _=_;rw[i8];rfl
 show ay rfl (.inr rfl) d (aS (fL ak (aa (bY  (aa (af rfl) ah) ttt f a) ah) ttt (iA (ud h hl).1)) bh)
end K
namespace TM
open PySem L2 NR
def JX(h:Run (dG i) st (k,.str c) st)(a:Run (ev Γ b) st (k',.str t) st1)(hl:⇑t<=1048576):Run (execs Γ (.Sr i c b c1 c2::ss)) st (.rt .loc (.str (Yp t c1 c2))) st1 :=
 v8 (ae h (ae (aK) (by rw[ř rfl];show ae a (ae (aK) (by unfold yT;rw[ř hl];rfl)))))
def JY(h:Run (Pj Γ r) st (.inl u) st1)(a:Run (eX i u) st1 () st2)(b:Run (execs Γ ss) st2 f c):Run (execs Γ (.RM r i x d j k e G::ss)) st f c :=
 e_ (ae h (ae a aK)) b
def JZ{r}{i j k n:Nat}{x c}{a}{G}{ss}{f}(h:Run (Pj Γ r) st (.inr c) st1)(hl:b.lookup c≈n)(d:st1[j]?≈cb)(hk:st1[k]?≈cb)(e:i≠j/\i≠k/\j≠k)(g:Run (execs Γ ss) (st1.set i (bD (lT [.str "",.int n]))) f st2):Run (execs Γ (.RM r i x b j k a G::ss)) st f st2:=by
 show e_ (ae h ?_) g;unfold En
 dsimp only
 rw[hl];change Be i j k n st1=_;unfold Be;rw[d,hk];show(ř e).trans rfl
end TM
namespace K
open PySem L2 TM NR Od KL
structure Gb(rows:↑Row):Prop where
 bk:Bk rows
 w:∀r∈rows,RowW r
def GY(h:Gb rows)(a:x∈lw rows):⇑x<=11:=by
 unfold lw at a;split at a
 .rename_i b;have hk:=Vp b;have a:=(dg _).mem_iff.mp a;show hk.sn (λy=>⇑y<=11) (λr c _=>by show(h.w r c).w1.len.2) x a
 grind
abbrev Q5(L:↑Str):Str:=if L=[] then "-" else ri " " L
abbrev pm(a b:↑Str):↑Str:=(([("+":Str)]++a)++[("-":Str)])++b
abbrev chg(K L:↑Str):Str:=ri " " (pm (gl K L) (gl L K))
def wD(hl:⇑L<=200)(h:∀x∈L,⇑x<=11):Vn " " L=b6:=(gA  h rfl ⋯).1
def wF(hl:⇑L<64)(h:∀x∈L,⇑x<=11):bJ Γ kg [.lst (L.map .str)]≈.ok (zS (Q5 L)):=by
 let S:au:=[bD (aL (L.map .str))]
 have a:Run (NJ Γ (.cmp .eq Np _)) S _ S:=aN (aB rfl) fh ttt (ka (b:=[]));show ay (st:=S) rfl (.inr rfl) (rfl) (aI a (λz=>?_) λz=>?_)
 .rw[Ř]at z;unfold Q5;rw[ř z];show aS ak bh
 .rw[Ş]at z;unfold Q5;rw[Ś z];show aS (fL ak (aa (aB rfl) ah) ttt (iA (wD ⋯ h))) bh
def J0(h:x∈gl K L):x∈L:=(M'.mp h).1
def Mh(e:⇑a<64)(f:⇑b<64)(c:∀x∈a,⇑x<=11)(d:∀x∈b,⇑x<=11):Vn " " (pm a b)=b6:=by
 show wD (by simp[pm];lia) λx hx=>?_;erw[pm,i7,kr]at hx;rcases hx with((rfl|hx)|rfl)|hx
 .decide +kernel
 .show c x hx
 .decide +kernel
 .show d x hx
def Mi(g:⇑a<64)(h:⇑b<64)(i:∀x∈a,⇑x<=11)(j:∀x∈b,⇑x<=11)(m:Run (ev Γ n) st (k1,.lst (a.map .str)) st)(o:Run (ev Γ p) st (k2,.lst (b.map .str)) st)(s1:bg [(k1,.lst (a.map .str))] st)(q:bg [(k2,.lst (b.map .str))] st):
  Run (ev Γ (.OS .join (cQ " ") [.bin .add (.bin .add (.bin .add (.lst [(cQ "+")]) n) (.lst [(cQ "-")])) p])) st (zS (ri " " (pm a b))) st:=by
 have hsz:1000<=c8:=⋯
 have c:∀(k:Kd) (l:↑Str),kF k (l.map U.str)=b6:=λk l=>by simp[kF,fQ]
 have one:∀s ,Run (ev Γ _) st (oL ([s].map .str)) st:=λs=>dX (aa ak ah) ttt (aA aH aP) (by change 1<=c8;lia);have d:=bu (one "+") m (s1) (iu ⋯ (c _ _) (c _ _));rw[<-mn]at d;have e:=bu d (one "-") ttt (iu ⋯ (c _ _) (c _ _));rw[<-mn]at e;have f:=bu e o (q) (iu ⋯ (c _ _) (c _ _));rw[<-mn]at f;show fL ak (aa f ah) ttt (iA (Mh g h i j))
structure WL(L:↑Str):Prop where
 ln:⇑L<64
 w:∀x∈L,⇑x<=11
def WL.gl(h:WL L):WL (gl K L):=#[Nat.lt_of_le_of_lt (JV K L) h.ln,λx a=>h.w x (J0 a)]
def uf(e:WL (lw a))(f:WL (lw b)):bJ Γ eh [QR a b]≈.ok (zS (chg (lw a) (lw b))):=by
 have c:=WL.gl (K:=lw a) f;have d:=WL.gl (K:=lw b) e;show ay rfl (.inr rfl) (rfl) (aS (Mi  c.ln d.ln c.w d.w (aV  (aB rfl) ak ttt rfl) (aV  (aB rfl) ak ttt rfl) ttt ttt) bh)
def zY(a:WL K)(b:WL L):bJ Γ gv [.lst (K.map .str),.lst (L.map .str)]≈.ok (zS (chg K L)):=by
 have c:=WL.gl (K:=K) b;have d:=WL.gl (K:=L) a;let g:Sl:=bD (aL (K.map .str));have go:∀(st:au) (i j:Nat) (A B:↑Str),st[i]?≈_->st[j]?≈_->⇑A<64->Run (ev Γ (.comp 1 cK .seq [.var i] _ Np)) st (oL ((gl B A).map .str)) st:=λst i j A B hi f hl=>by
  have hsz:(1000:Nat)<=c8:=⋯
  have e:=kL (cond:=aT Γ [.cmp .NB Np (.var (j+1))]) (elt:=ev Γ Np) (src:=[(aL (A.map .str))]) (st:=st) ttt .any (.inr rfl) U.str U.str (λx=>df (x∉B)) .any A [] ⋯
   (λx e=>#[cU (aN (aB rfl) (aB f) ttt ir),λ_=>#[aB rfl,nV rfl]])
  show bY  (aa (aB hi) ah) ttt (by change bD _=_;rw[i8];rfl) e
 show ay rfl (.inr rfl) (rfl)
  (aw (go _ 1 0 L K rfl rfl b.ln) bo (aw (go _ 0 1 K L rfl rfl a.ln) bo (aS (Mi  c.ln d.ln c.w d.w (aC rfl) (aC rfl) ∅ ∅) bh)))
abbrev Dl(rows:↑Row):Str:=ri ";" (rows.map aW)
def zZ(hs:Γ "shown" [tb rows]≈.ok (zS (textOf rows)))(h:Gb rows):bJ Γ aY [tb rows,.str "book"]≈.ok (zS (Dl rows)):=by
 let S:au:=[bD (.loc,tb rows),bD (zS "book")]
 have d:∀c:Str,c≠"book"->Run (NJ Γ (.cmp .eq NA (.cst (.str c)))) S cK S:=λc f=>by
  have:=aN (Γ:=Γ) (st:=S) (op:=.eq) (a:=.var 1) (b:=.cst (.str c)) (af rfl) ak ttt eJ;rw[ś f.symm]at this;show this
 have e:=JX (Γ:=Γ) (st:=S) (i:=1) (c:="book") (c1:="\n") (c2:=";") (b:=.call "shown" [Np]) (ss:=[.bad]) (ig rfl) (aG (aa (af rfl) ah) ttt hs) (by have:=(ud h.w h.bk.ln).2;lia);rw[zU h.w]at e;show ay rfl (.inr rfl) (by simp[TM.start,gy,S,NT,aY]) (aI (d "learnt" ⋯) (λz=>by cases z) λ_=>aI (d "lacks" ⋯) (λz=>by cases z) λ_=>aI (d "need" ⋯) (λz=>by cases z) λ_=>e)
def wG(c:LOk Γ "learnt")(h:Gb rows)(hl:Γ "listed" [.lst ((lw rows).map .str)]≈.ok (zS (Q5 (lw rows)))):bJ Γ aY [tb rows,.str "learnt"]≈.ok (zS (Q5 (lw rows))):=by
 let S:au:=[bD (.loc,tb rows),bD (zS "learnt")]
 have t:=aN (Γ:=Γ) (st:=S)  (a:=.var 1) (b:=.cst (.str "learnt")) (af rfl) ak ttt eJ;show ay rfl (.inr rfl) (by simp[TM.start,gy,S,NT,aY]) (kK t (aS (aG (aa (aG (aa (af rfl) ah) ttt (c rows h.bk).2) ah) ttt hl) bh))
abbrev RV(o:Option Str)(rows rows':↑Row)(past':List ↑Row):Option (Ex (Kd×U)):=match o with
 |none=>bD (.ok (lT [QR rows rows',Oe rows' past']))
 |some c=>bD (.ok (.io,.tup [.str c,Oe rows' past']))
abbrev RY(o:Option Str)(rows rows':↑Row)(past':List ↑Row):Option (Ex (Kd×U)):=match o with
 |none=>bD (.ok (lT [.str (chg (lw rows) (lw rows')),Oq rows' past']))
 |some c=>bD (.ok (.io,.tup [.str c,Oq rows' past']))
abbrev FW(Γ:Tab):Prop:=∀a b:↑Row,Gb a->Gb b->Γ "shown_changes" [QR a b]≈.ok (zS (chg (lw a) (lw b)))
def Dm(e:FW Γ)(g:Gb rows)(h:Gb rows')(a:Th (bD (.A',Oq rows past)::st') js≈rs)(b:Γ f (Oe rows past::rs.map (·.2))=RV o rows rows' past'):
  ∃d k w,(∀ss,Run (execs Γ (.OZ (.arg "shown_changes" (.P7 f m 0 js))::ss)) (bD (.A',Oq rows past)::st') d (bD (.A',Oq rows' past')::st'))/\Ti d≈(k,w)/\RY o rows rows' past'≈.ok (k,.tup [w,Oq rows' past']):=by
 cases o with
 |none=>show#[_,.loc,_,λss=>CW (Mb (CU    a rfl b rfl) ttt (rf (e rows _ g h) rfl)) bh,rfl,rfl]
 |some c=>show#[_,.io,_,λss=>CV (JP (CU    a rfl b rfl)),rfl,rfl]
def Dn{way:Str}(m:way="put"\/way="take")(f:FW Γ)(g:Gb rows)(h:Gb rows')(i:Γ (if way="put" then "Shelf.put" else "Shelf.take") [Oe rows past,.str r.1,.tup (r.2.map .str)]=RV o rows rows' past'):
  eY Γ c_ (c_.body.drop 1) [Oq rows past,.str way,Nv r]=RY o rows rows' past':=by
 let T:au:=[bD (zS way),bD (.loc,Nv r)]
 have j:cC [Oq rows past,.str way,Nv r] 3≈(.A',Oq rows past)::T:=by simp[cC,TM.start,eI,NT,T]
 have l:=aN (Γ:=Γ) (st:=bD (.A',Oq rows past)::T)  (a:=.var 1) (b:=.cst (.str "put")) (af rfl) ak ttt eJ;rcases m with rfl|rfl
 .have(n,k,w,c,d,e):=Dm   (js:=[(2,0),(2,1)]) (st':=T) f g h rfl i;rw[e];show bH  rfl j (aI l (λ_=>c _) λz=>by cases z) d
 .have(n,k,w,c,d,e):=Dm   (js:=[(2,0),(2,1)]) (st':=T) f g h rfl i;rw[e];show bH  rfl j (aI l (λz=>by cases z) λ_=>c _) d
abbrev cG(way:Str)(r:Row):Str:=way++(" ":Str)++aW r
def Dp{way:Str}(a:way="put"\/way="take"):ko (cG way r) " "=(way,(" ":Str),aW r):=by
 have h:32∉(~~~way):=by rcases a with rfl|rfl<;>decide +kernel
 have e:(~~~(cG way r))=(~~~way)++32::(~~~(aW r)):=by rw[cG,cF,cF,N4];rfl
 rw[show(" ":Str)=⟨#v[32]⟩ from rfl,NR.qo e h]
def Dq{way:Str}(a:way="put"\/way="take")(h:RowW r):⇑(cG way r)<=200/\10∉(~~~(cG way r)):=by
 have hl:=gC h;have e:(~~~(cG way r))=(~~~way)++32::(~~~(aW r)):=by rw[cG,cF,cF,N4];rfl
 have hz:⇑way.cps.toList<=4/\10∉(~~~way):=by rcases a with rfl|rfl<;>decide +kernel
 have b:=hl.2.1;rw[len_list]at b;rw[len_list,e]
 grind
abbrev P9(rows:↑Row)(past:List ↑Row)(line:Str)(x:Sl):au:=[bD (.A',Oq rows past),bD (zS line),x]
def oA(a:10∉(~~~line)):Run (NJ Γ (.or [.not (.Tf NA .str),.cmp .isin (cQ "\n") NA])) (P9 rows past line cb) cK (P9 rows past line cb) :=
 rg (xT (tI (c:=b6) (L3 (af rfl) rfl)) (j7 (aN ak (af rfl) ttt (by
  change bD _=_;rw[show U7 "\n" line=decide _ from TM.yf line 10,ś a]))))
def oB:Run (NJ Γ (.cmp .eq NA (cQ "back"))) (P9 rows past line cb) (df (line="back")) (P9 rows past line cb):=aN (af rfl) ak ttt eJ
abbrev RZ(p:Str×Str×Str):U:=.tup [.str p.1,.str p.2.1,.str p.2.2]
def ug(hl:⇑line<=1000):Run (ev Γ (.OS .partition NA [(cQ " ")])) (P9 rows past line cb) (.loc,RZ (ko line " ")) (P9 rows past line cb):=by
 have hsz:1000<=c8:=⋯
 show fL (af rfl) (aa ak ah) ttt ?_;change(if (XQ " "==0)=cK/\⇑line<=c8 then _ else _)=_;rw[ř #[by rfl,⋯]];rfl
def J1(h:[U.str p.1,.str p.2.1,.str p.2.2][n]?≈.str y):Run (ev Γ (.idx NH (.cst (.int (n:Nat))))) (P9 rows past line (bD (.loc,RZ p))) (zS y) (P9 rows past line (bD (.loc,RZ p))):=aV  (af rfl) ak ttt (kn (bM h))
def FX(h:[U.str p.1,.str p.2.1,.str p.2.2][n]?≈.str y):Run (NJ Γ (.cmp .eq (.idx NH (.cst (.int (n:Nat)))) (.cst (.str c)))) (P9 rows past line (bD (.loc,RZ p))) (df (y=c)) (P9 rows past line (bD (.loc,RZ p))):=aN (J1 h) ak ttt eJ
def FY{way:Str}(d:way="put"\/way="take")(h:RowW r)(e:Γ "read_row" [.str (aW r)]≈.ok (.loc,Nv r))(f:Γ "Desk.say_deed" [Oq rows past,.str way,Nv r]=RY o rows rows' past'):
  eY Γ c9 (c9.body.drop 1) [Oq rows past,.str (cG way r)]=RY o rows rows' past':=by
 have(hl,q):=Dq d h;have g:=Dp (r:=r) d;have i:=oB (Γ:=Γ) (rows:=rows) (past:=past) (line:=cG way r);rw[ś (λz=>by
  have:=ş (λs=>(ko s " ").2.1) z;erw[g]at this;revert this;decide +kernel)]at i
 have j:=ug (Γ:=Γ) (rows:=rows) (past:=past) (line:=cG way r) ⋯;rw[g]at j;let p:=(way,(" ":Str),aW r)
 have t:=FX (Γ:=Γ) (rows:=rows) (past:=past) (line:=cG way r) (c:="") (p:=p) (n:=1) (y:=" ") rfl;have v:Run (NJ Γ (.or [.cmp .eq (.idx NH cO) (cQ "put"),.cmp .eq (.idx NH cO) (cQ "take")])) (P9 rows past (cG way r) (bD (.loc,RZ p))) b6 (P9 rows past (cG way r) (bD (.loc,RZ p))):=by
  have:=rg (lG (FX (Γ:=Γ) (rows:=rows) (past:=past) (line:=cG way r) (c:="put") (p:=p) (n:=0) (y:=way) rfl) λ_=>j7 (FX (c:="take") (n:=0) (y:=way) rfl))
  grind
 have l:=J1 (Γ:=Γ) (rows:=rows) (past:=past) (line:=cG way r) (p:=p) (n:=0) (y:=way) rfl;have m:=J1 (Γ:=Γ) (rows:=rows) (past:=past) (line:=cG way r) (p:=p) (n:=2) (y:=aW r) rfl;have x:cC [Oq rows past,.str (cG way r)] 3=P9 rows past (cG way r) cb:=rfl;have a:∃b k w,(∀ss,Run (execs Γ (.OZ (.mt b6 "Desk.say_deed" "say_deed" 0 [.idx NH cO,.call "read_row" [.idx NH (cI 2)]])::ss)) (P9 rows past (cG way r) (bD (.loc,RZ p))) b (P9 rows' past' (cG way r) (bD (.loc,RZ p))))/\Ti b≈(k,w)/\RY o rows rows' past'≈.ok (k,.tup [w,Oq rows' past']):=by
  cases o with
  |none=>show#[_,.loc,_,λss=>CW (wx (u0:=tb rows) (us0:=O4 past) (u:=tb rows) (us:=O4 past) rfl (aa l (aa (aG (aa m ah) ttt e) ah)) ttt rfl f rfl) bh,rfl,rfl]
  |some c=>show#[_,.io,_,λss=>CV (wx (u0:=tb rows)  (u:=tb rows) (us:=O4 past) rfl (aa l (aa (aG (aa m ah) ttt e) ah)) ttt rfl f rfl),rfl,rfl]
 have(b,k,w,A,B,C):=a;rw[C];show bH  rfl x (aI (oA q) (λz=>by cases z) λ_=>aI i (λz=>by cases z) λ_=>aw j aR (aI t (λz=>by cases z) λ_=>aI v (λ_=>A _) λz=>by cases z)) B
def Dr(a:FW Γ)(b:Gb rows)(c:Gb rows')(d:Γ "Shelf.back" [Oe rows past]=RV o rows rows' past'):eY Γ c9 (c9.body.drop 1) [Oq rows past,.str "back"]=RY o rows rows' past':=by
 have(i,k,w,e,f,g):=Dm   (js:=[])  a b c rfl d;have h:=oB (Γ:=Γ) (rows:=rows) (past:=past) (line:="back");rw[g];show bH  rfl (rfl) (aI (oA (by decide +kernel)) (λz=>by cases z) λ_=>aI h (λ_=>e _) λz=>by cases z) f
def Dt(b:ko line " "=(line,nH,nH))(f:10∉(~~~line))(hl:⇑line<=1000)(g:line≠"back")(hk:Γ "Shelf.book" [Oe rows past]≈.ok (lT [tb rows,Oe rows past]))(h:Γ "answer_at_large" [tb rows,.str line]≈.ok (zS a)):
  eY Γ c9 (c9.body.drop 1) [Oq rows past,.str line]≈.ok (lT [.str a,Oq rows past]):=by
 have d:=oB (Γ:=Γ) (rows:=rows) (past:=past) (line:=line);rw[ś g]at d;have e:=ug (Γ:=Γ) (rows:=rows) (past:=past)  hl;rw[b]at e;let p:=(line,nH,nH)
 let S:=P9 rows past line (bD (.loc,RZ p));have j:=FX (Γ:=Γ) (rows:=rows) (past:=past) (line:=line) (c:="") (p:=p) (n:=1) (y:=nH) rfl;have k:=Ma  (st:=S) (i:=0) (m:="book")  (js:=[])    rfl rfl hk;show bH  rfl (rfl) (aI (oA f) (λz=>by cases z) λ_=>aI d (λz=>by cases z) λ_=>aw e aR (aI j (λ_=>aS (aG (aa k (aa (af rfl) ah)) ttt h) bh) λz=>by cases z)) rfl
abbrev J2:↑(Str×Nat):=[("NoDeed",2),("NoRow",1),("Unfit",0)]
abbrev SG(o:Option Str)(rows rows':↑Row):U:=match o with
 |none=>.tup [.str (chg (lw rows) (lw rows')),.Nt]
 |some c=>.tup [.str "",.int (((J2.lookup c).getD 0:Nat):Int)]
def Du(ho:∀c,o≈c->(J2.lookup c).isSome=b6)(a:Γ "Desk.say" [Oq rows past,.str line]=RY o rows rows' past'):eY Γ fg (fg.body.drop 1) [Oq rows past,.str line]≈.ok (lT [SG o rows rows',Oq rows' past']):=by
 have hsz:(100:Nat)<=c8:=⋯
 have b:Run (ev Γ _) [bD (.A',Oq rows past),bD (zS line),cb,cb,cb] _ _:=dy (us:=[.str "",.Nt]) (aa ak (aa ak ah)) ttt (aA aH (aA aH aP)) (by change 2<=c8;lia);cases o with
 |none=>show bH (st':=_) rfl (rfl) (aw b aR (JY (Mc (wx      rfl (aa (af rfl) ah) ttt rfl a rfl) aH) aR (aS (af rfl) bh))) rfl
 |some c =>
  have(n,hn):=vr.mp (ho c rfl);have e:SG (bD c) rows rows'=.tup [.str "",.int (n:Nat)]:=by change U.tup _=_;rw[hn];rfl
  rw[e];show bH (st':=_) rfl (rfl) (aw b aR (JZ (JQ (wx    (u:=tb rows)  rfl (aa (af rfl) ah) ttt rfl a rfl)) hn rfl rfl ⋯ (aS (af rfl) bh))) rfl
end K
namespace TM
open PySem L2 NR
def fR(h:Run (execs Γ body) (fA [x,y,z,l] fn.ns) (.rt .loc u) st')(a:st'[3]?≈bD (.own,w)):runN Γ fn body [x,y,z,l]≈.ok (lT [u,w]):=by
 show(ř rfl).trans ((ş Ii h).trans ?_);change(match st'[3]? with|some (bD (.own,w))=>bD _|_=>cb)=_;rw[a]
def uh(h:Og 50 (.lst us)=b6):bN .eq (.lst us) (.lst [])≈us.isEmpty:=by
 erw[bN];rw[ř #[h,rfl]];cases us<;>rfl
def Dv:bN .ne (Nv a) (Nv b)≈!df (a=b):=by
 have h:=x_ (op:=b6) (a:=a) (b:=b);erw[bN]at h ⊢;simp_all
def FZ(xs)(x:α):N_ (xs++[x]) (-1)≈x:=by
 unfold N_ QU;rw[Ś ⋯,ř ⋯];change(xs++[x])[_]?=_;rw[show(-1+(⇑(xs++[x]):Nat):Int).toNat=⇑xs by simp;lia];simp
end TM
namespace K
open PySem L2 TM NR Od KL
abbrev lb(rs:↑Row):U:=.lst (rs.map Nv)
def rP(n)(rs):Og (n+3) (lb rs)=b6:=by
 show rL n rs
abbrev pU(p:List ↑Row):U:=.lst (p.map lb)
theorem ui(n):∀p:List ↑Row,dQ (n+3) (p.map lb)=b6
 |[]=>by rfl
 |r::p=>by rw[i6,dQ,rP];show ui n p
def pV(h:RowW r):bJ Γ fe [Nv r]≈.ok (zS (aW r)):=by
 have hsz:(1000:Nat)<=c8:=⋯
 let S:au:=[bD (.loc,Nv r)]
 have c:TM.start [Nv r] 1=S:=by simp[TM.start,eI,S]
 have d:Run (ev Γ (.idx Np cO)) S (zS r.1) S:=aV  (af rfl) ak ttt rfl;have f:Run (ev Γ (.idx Np cA)) S _ S:=aV  (af rfl) ak ttt rfl;have a:=aN f (dy ah ttt aP (kj _)) ttt pS;have k:⇑r.1<=11:=by show h.w1.len.2
 by_cases e:r.2=[]
 .rw[ŝ e]at a;have b:aW r=r.1++(" = *":Str):=by
   show TM.dO ?_;unfold aW tl;rw[ř e,cF,cF,cF,N4];rfl
  rw[b];show ay rfl (.inr rfl) c (kK a (aS (bu d ak ttt (fq (by rw[show(" = *":Str).length=4 by rfl];lia))) bh))
 .rw[ś e]at a;have b:tl r=r.2:=by unfold tl;rw[Ś e]
  have g:=gA (sep:=" ") (n:=11) (ss:=tl r) (λx i=>(yh h x i).2.1) rfl (by have:=(gB h).2;lia);have j:Run (ev Γ (.OS .join (cQ " ") [.idx Np cA])) S (zS (ri " " (tl r))) S:=by
   rw[b]at g ⊢;show fL ak (aa f ah) ttt (uc g.1)
  show ay rfl (.inr rfl) c (aI a (λz=>by cases z) λ_=>aS (Mg h d j) bh)
abbrev UC(rows:↑Row)(r:Row):↑Row:=rows.filter λs=>Qr s r
abbrev Mj(Γ:Tab):Prop:=∀(rs:↑Row) (x:Row),(∀s∈rs,⇑s.2<=8)->⇑rs<=100->⇑x.2<=9->Γ "_law_there" [lb rs,Nv x]≈.ok (.own,lb (UC rs x))
def z9(f:∀s∈rows,⇑s.2<=8)(hl:⇑rows<=100)(i:⇑r.2<=9):bJ Γ ft [lb rows,Nv r]≈.ok (.own,lb (UC rows r)):=by
 have hsz:(1000:Nat)<=c8:=⋯
 let a:Sl:=bD (.any,lb rows);let b:Sl:=bD (.loc,Nv r);have g:TM.start [lb rows,Nv r] 2=[a,b]:=by simp[TM.start,eI,lb,NT,a,b]
 have c:∀(k:Kd) (x:Row),lV (k,Nv x) (.int 0)≈(kE k,.str x.1):=λ_ _=>rfl;have d:∀(k:Kd) (x:Row),lV (k,Nv x) (.int 1)≈_:=λ_ _=>rfl;have h:=kL (cond:=aT Γ [.and [.cmp .eq (.idx Np cO) (.idx NH cO),.cmp .eq (.bi .sorted [.idx Np cA]) (.bi .sorted [.idx NH cA])]]) (elt:=ev Γ Np) (src:=[(.any,lb rows)]) (st:=[a,b]) ttt .any (.inr rfl) Nv Nv (λs=>Qr s r) .any rows [] (by grind)
  (λs hs=>by
   have:=f s hs;have e:Qr s r=(df (s.1=r.1)&&df (b_ s.2=b_ r.2)):=by
    unfold Qr keyOf;simp
   rw[e];show#[cU (je (ju (aN (aV (aB rfl) ak ttt (c _ s)) (aV (af rfl) ak ttt (c _ r)) ttt eJ) λ_=>cU (aN (dW (aa (aV (aB rfl) ak ttt (d _ s)) ah) ttt (sorted_strs ⋯)) (dW (aa (aV (af rfl) ak ttt (d _ r)) ah) ttt (sorted_strs ⋯)) ttt ka))),λ_=>#[aB rfl,nV (eI s)]])
 show ay rfl (.inl rfl) g (aS (bY  (aa (aB rfl) ah) ttt (by change bD _=_;rw[i8];rfl) h) j8)
inductive Qs(r:Row)(rows:↑Row)(past:List ↑Row):Str->Option Str->↑Row->List ↑Row->Prop
 |p:fj r=b6->(∀s∈rows,keyOf s≠keyOf r)->Qs r rows past "put" cb (rows++[r]) (past++[rows])
 |px:(fj r=cK\/∃s∈rows,keyOf s=keyOf r)->Qs r rows past "put" (bD "Unfit") rows past
 |t:∀(a:↑Row) (s:Row) (b:↑Row),rows=a++s::b->keyOf s=keyOf r->(∀x∈a,keyOf x≠keyOf r)->(∀x∈b,keyOf x≠keyOf r)->Qs r rows past "take" cb (a++b) (past++[rows])
 |tx:(∀s∈rows,keyOf s≠keyOf r)->Qs r rows past "take" (bD "NoRow") rows past
 |b:∀(p:List ↑Row) (rs:↑Row),past=p++[rs]->Qs r rows past "back" cb rs p
 |bx:past=[]->Qs r rows past "back" (bD "NoDeed") rows past
abbrev oU(o:Option Str):U:=match o with
 |none=>.Nt
 |some c=>.int (((J2.lookup c).getD 0:Nat):Int)
def rQ:(UC rows r).isEmpty=b6↔∀s∈rows,keyOf s≠keyOf r:=by
 unfold UC;simp[Qr]
abbrev bS(way:Str)(r:Row)(rows:↑Row)(past:List ↑Row)(x:Sl):au:=[bD (zS way),bD (.loc,Nv r),bD (.loc,lb rows),bD (.own,pU past),x]
def GZ:Run (NJ Γ (.cmp .eq Np (.cst (.str c)))) (bS way r rows past x) (df (way=c)) (bS way r rows past x):=aN (af rfl) ak ttt eJ
def F0(a:Mj Γ)(b:∀s∈rows,⇑s.2<=8)(hl:⇑rows<=100)(c:⇑r.2<=9):Run (ev Γ (.call "_law_there" [NH,NA])) (bS way r rows past cb) (.own,lb (UC rows r)) (bS way r rows past cb):=aG (aa (af rfl) (aa (af rfl) ah)) ttt (a rows r b hl c)
def kl(hk:k=.own\/k=.loc)(a:Run (ev Γ c) st (k,u) st)(b:Run (ev Γ d) st (.loc,v) st):Run (execs Γ (.ret (.tup [c,d])::ss)) st (.rt .loc (.tup [u,v])) st:=by
 rcases hk with rfl|rfl
 .show aS (dy  (aa a (aa b ah)) ttt (aA xS (aA aH aP)) (by change 2<=c8;decide)) bh
 .show aS (dy  (aa a (aa b ah)) ttt (aA aH (aA aH aP)) (by change 2<=c8;decide)) bh
def wH(hT:Mj Γ)(L:Bk rows)(C:RowW r)(st:Qs r rows past way o rows' past'):runN Γ bp (bp.body.drop 1) [.str way,Nv r,lb rows,pU past]≈.ok (lT [.tup [lb rows',oU o],pU past]):=by
 have hsz:(1000:Nat)<=c8:=⋯
 have h8:∀s∈rows,⇑s.2<=8:=λs hs=>mH (L.ok s hs);have SF:=L.ln;have v:=F0 (Γ:=Γ) (way:=way) (past:=past) hT h8 ⋯ C.Qb;obtain⟨T,w⟩:∃T,UC rows r=T:=#[_,rfl]
 rw[w]at v;let B:=bS way r rows past (bD (.own,lb T));have D:Run (NJ Γ (.cmp .eq N9 (.lst []))) B T.isEmpty B:=by
  have:=aN (Γ:=Γ) (st:=B) (op:=.eq) (a:=.var 4) (b:=.lst []) (aC rfl) fh ∅ (uh (rP 47 _))
  rwa [Ye]at this
 have tN:Run (NJ Γ (.cmp .ne N9 (.lst []))) B (!T.isEmpty) B:=by
  have:=aN (Γ:=Γ) (st:=B) (op:=.ne) (a:=.var 4) (b:=.lst []) (aC rfl) fh ∅ (ix (rP 47 _))
  rwa [Ye]at this
 have u:=λc=>GZ (Γ:=Γ) (way:=way) (r:=r) (rows:=rows) (past:=past) (c:=c) (x:=cb);have G:=λc=>GZ (Γ:=Γ) (way:=way) (r:=r) (rows:=rows) (past:=past) (c:=c) (x:=bD (.own,lb T));have H:Run (NJ Γ (.cmp .eq ND (.lst []))) (bS way r rows past cb) past.isEmpty (bS way r rows past cb):=by
  have:=aN (Γ:=Γ) (st:=bS way r rows past cb) (op:=.eq) (a:=.var 3) (b:=.lst []) (aC rfl) fh ∅ (uh (us:=past.map lb) (by rw[Og];show ui 46 _))
  rwa [Ye]at this
 have A:Run (ev Γ (.idx NA cA)) B (lT (r.2.map .str)) B:=aV (x:=(.loc,Nv r)) (af rfl) ak ttt rfl;have gl:Run (ev Γ (.bi .len [.idx NA cA])) B (lI (⇑r.2:Nat)) B:=by
  have h:=dW (Γ:=Γ) (st:=B) (f:=.len) (aa A ah) ttt (j_ (xs:=r.2.map U.str));simp_all
 have N:fj r=(df (⇑r.2<=8)&&decide r.2.Nodup):=by
  unfold fj;rw[rJ C.w1,lx.mpr λx n=>rJ (C.w2 x n),Bool.true_and,Ĕ]
 have I:Run (NJ Γ (.or [.cmp .ne N9 (.lst []),.cmp .gt (.bi .len [.idx NA cA]) (cI 8),.cmp .lt (.Rk .jg [.idx NA cA]) (.bi .len [.idx NA cA])])) B (!T.isEmpty||!fj r) B:=by
  have hf:=C.Qb;have:=rg (lG tN λ_=>lG (aN gl ak ttt (j9 (i:=(⇑r.2:Nat)) (j:=8) (c:=df (8<⇑r.2)) (by rw[rD];simp;lia))) λ_=>j7 (aN (Cu (aa A ah) ttt (ox ⋯)) gl ttt (nZ (c:=!decide r.2.Nodup) (by
   rw[<-ye,rD];simp))))
  grind
 cases st with
 |p g J =>
  have e:T=[]:=w▸oa.mp (rQ.mpr J);have d:=u "back";have m:=G "take";rw[ś ⋯]at d m;rw[g,show(!T.isEmpty)=cK by rw[e];rfl]at I;have ad:Run (ev Γ (.bin .add NH (.lst [NA]))) B (.own,lb (rows++[r])) B:=by
   have:=bu (Γ:=Γ) (st:=B) (a:=.var 2) (b:=.lst [NA]) (af rfl) (dX (us:=[r].map Nv) (aa (af rfl) ah) ttt (aA aH aP) (by change 1<=c8;lia)) ttt (iu (k:=.loc) (k':=.own) (xs:=rows.map Nv) (ys:=[r].map Nv) ⋯ rfl rfl)
   rwa [<-mn]at this
  show fR (fn:=bp) (st':=B) (aI d (λz=>by cases z) λ_=>aw v bo (aI m (λz=>by cases z) λ_=>aI I (λz=>by cases z) λ_=>kl (.inl rfl) ad ak)) rfl
 |px g =>
  have d:=u "back";have m:=G "take";rw[ś ⋯]at d m;have e:(!T.isEmpty||!fj r)=b6:=by
   rcases g with h|⟨s,hs,h⟩
   .simp_all
   .cases q:T.isEmpty with
    |false=>rfl
    |true=>show absurd h (rQ.mp (w▸q) s hs)
  rw[e]at I;show fR (fn:=bp) (st':=B) (aI d (λz=>by cases z) λ_=>aw v bo (aI m (λz=>by cases z) λ_=>aI I (λ_=>kl (.inr rfl) (af rfl) ak) λz=>by cases z)) rfl
 |tx g =>
  have e:T.isEmpty=b6:=w▸rQ.mpr g;have d:=u "back";have m:=G "take";rw[ś ⋯]at d;rw[ŝ rfl]at m;rw[e]at D;show fR (fn:=bp) (st':=B) (aI d (λz=>by cases z) λ_=>aw v bo (aI m (λ_=>aI D (λ_=>kl (.inr rfl) (af rfl) ak) λz=>by cases z) λz=>by cases z)) rfl
 |t a s b g J O Q =>
  have Y:∀l:↑Row,(∀x∈l,keyOf x≠keyOf r)->l.filter (λs=>Qr s r)=[]:=λl hl=>Pn.mpr λx n=>by simpa[Qr] using hl x n
  have e:T=[s]:=by
   rw[<-w,UC,g,RB,Q2,ř (by simp[Qr,J]),Y a O,Y b Q];rfl
  have f1:∀l:↑Row,(∀x∈l,keyOf x≠keyOf r)->l.filter (λx=>!df (x=s))=l:=λl hl=>Ê.mpr λx n=>by
   erw[mN,Ş];rintro rfl;show hl x n J
  have ef:rows.filter (λx=>!df (x=s))=a++b:=by
   rw[g,RB,Q2,Ś ⋯,f1 a O,f1 b Q]
  have d:=u "back";have m:=G "take";rw[ś ⋯]at d;rw[ŝ rfl]at m;rw[show T.isEmpty=cK by rw[e];rfl]at D;have n:=kL (cond:=aT Γ [.cmp .ne Np (.idx Oi cO)]) (elt:=ev Γ Np) (src:=[(.loc,lb rows)]) (st:=B) ttt .loc (.inl rfl) Nv Nv (λx=>!df (x=s)) .loc rows [] ⋯
   (λx n=>#[cU (aN (y:=(.loc,Nv s)) (af rfl) (aV (x:=(.bor 5,lb T)) (aC rfl) ak ∅ (by rw[e];show aJ rfl)) ttt Dv),λ_=>#[af rfl,aH]])
  rw[rr,ef]at n;show fR (fn:=bp) (st':=B) (aI d (λz=>by cases z) λ_=>aw v bo (aI m (λ_=>aI D (λz=>by cases z) λ_=>kl (.inl rfl) (bY (rs:=[(.loc,lb rows)]) (aa (af rfl) ah) ttt (by change bD _=_;rw[i8];rfl) n) ak) λz=>by cases z)) rfl
 |b _ _ g =>
  have d:=u "back";rw[ŝ rfl]at d;rw[show past.isEmpty=cK by rw[g];cases past'<;>rfl]at H;have gi:Run (ev Γ (.idx ND (.neg cA))) (bS "back" r rows past cb) (.loc,lb rows') (bS "back" r rows past cb):=aV (x:=(.bor 3,pU past)) (y:=(lI (-1))) (aC rfl) (L0 ak rfl) ∅ (aJ (by rw[g,mn];show FZ _ _));show fR (fn:=bp) (st':=bS "back" r rows past cb) (aI d (λ_=>aI H (λz=>by cases z) λ_=>kl (.inr rfl) gi ak) λz=>by cases z) rfl
 |bx g =>
  have d:=u "back";rw[ŝ rfl]at d;rw[show past.isEmpty=b6 by rw[g];rfl]at H;show fR (fn:=bp) (st':=bS "back" r rows past cb) (aI d (λ_=>aI H (λ_=>kl (.inr rfl) (af rfl) ak) λz=>by cases z) λz=>by cases z) rfl
end K
namespace TM
open PySem L2 NR
def J3(d:Run (ev Γ a) st x st)(e:Run (ev Γ b) st y st)(f:Run (ev Γ c) st z st)(s1:bg [x,y] st)(g:bg [y,z] st)(h:bN o1 x.2 y.2≈p)(i:bN o2 y.2 z.2≈q):Run (NJ Γ (.Qi o1 o2 a b c)) st (p&&q) st:=by
 show ae d (ae e (ae (bc s1) (ae (c7 h) ?_)));cases p with
 |true=>show ae f (ae (bc g) (c7 i))
 |false=>rfl
def uj:jQ (k,.tup (ss.map .str)) lo hi≈(kE k,.tup ((cut ss lo hi).map .str)):=by
 erw[jQ];rw[rC]
def Dw{a b:↑Str}(h:⇑a+⇑b<=c8):P8 .add (k,.tup (a.map .str)) (k',.tup (b.map .str))≈(kT k k',.tup ((a++b).map .str)):=by
 change(if _ then _ else _)=_;simp_all
def um(k):jQ (k,.lst (rs.map Nv)) lo hi≈oL ((cut rs lo hi).map Nv):=by
 erw[jQ];rw[ř (by unfold kF;rw[cR,Bool.or_true]),rC]
end TM
namespace K
open PySem L2 TM NR Od KL
section
variable{Γ:Tab}{names:List Str}{rows rows':List Row}{past past':List (List Row)}{r:Row}{ds:List Int}
abbrev uo:↑Str:=["a","b","c","d","e","f","g","h","i"]
def J4:∀x∈uo,bC (~~~x):=λx a=>.inl (lx.mp (by rfl:uo.all (λx=>cS (~~~x))=b6) x a)
abbrev dS(ds:↑Int)(names:↑Str)(rows:↑Row)(r:Row)(m:Int)(five:↑Row)(o6:Sl):au:=[bD (aL (ds.map .int)),bD (aL (names.map .str)),bD (.any,lb rows),bD (.loc,Nv r),bD (lI m),bD (.own,lb five),o6]
variable{m:Int}{five:List Row}{o6:Sl}
def G0(hi:i<⇑ds)(a:0<t)(h0:st[0]?≈bD (aL (ds.map .int))):Run (ev Γ (.bin .mod (.idx Np (.cst (.int (i:Nat)))) (cI t))) st (lI (dd ds i % t)) st :=
 bu (aV (aB h0) ak ttt (aJ (bR hi))) ak ttt (cp a)
def J5(hi:i<⇑ds)(a:0<t)(h0:st[0]?≈bD (aL (ds.map .int))):Run (NJ Γ (.cmp .eq (.bin .mod (.idx Np (.cst (.int (i:Nat)))) (cI t)) (cI c))) st (dd ds i % t==c) st:=aN (G0 hi a h0) ak ttt (gm rfl)
def F5:Run (NJ Γ (.cmp .eq N9 (cI c))) (dS ds names rows r m five o6) (m==c) (dS ds names rows r m five o6):=aN (af rfl) ak ttt (gm rfl)
def F6:Run (ev Γ (.idx ND cO)) (dS ds names rows r m five o6) (zS r.1) (dS ds names rows r m five o6):=aV  (af rfl) ak ttt rfl
def Dx(c:Run (ev Γ a) st (zS x) st)(d:Run (ev Γ b) st (lT (ts.map .str)) st):Run (ev Γ (.tup [a,b])) st (.loc,Nv (x,ts)) st :=
 dy  (aa c (aa d ah)) ttt (aA aH (aA aH aP)) (by change 2<=c8;decide)
theorem wI:∀ss:↑Str,Run (bG Γ (ss.map λs=>E.cst (.str s))) st (ss.map λs=>(zS s)) st
 |[]=>ah
 |s::ss=>aa ak (wI ss)
theorem rR:∀us,Run (cj (us.map λu=>(Kd.loc,u))) st us st
 |[]=>aP
 |u::us=>aA aH (rR us)
theorem kS:∀us:↑U,bg (us.map λu=>(Kd.loc,u)) st
 |[]=>trivial
 |_::us=>kS us
def J6{ss:↑Str}(h:⇑ss<=100):Run (ev Γ (.tup (ss.map λs=>E.cst (.str s)))) st (lT (ss.map .str)) st:=by
 have hsz:100<=c8:=⋯
 have e:(ss.map λs=>(zS s))=(ss.map U.str).map λu=>(Kd.loc,u):=by rw[i8];rfl
 have a:=wI (Γ:=Γ) (st:=st) ss;rw[e]at a;show dy a (kS _) (rR _) (by grind)
def wJ{ss:↑Str}(h:⇑ss<=100):Run (ev Γ (.lst (ss.map λs=>E.cst (.str s)))) st (oL (ss.map .str)) st:=by
 have hsz:100<=c8:=⋯
 have e:(ss.map λs=>(zS s))=(ss.map U.str).map λu=>(Kd.loc,u):=by rw[i8];rfl
 have a:=wI (Γ:=Γ) (st:=st) ss;rw[e]at a;show dX a (kS _) (rR _) (by rw[ei];lia)
abbrev Way(w:Str):Prop:=w="put"\/w="take"\/w="back"
abbrev DE(Γ:Tab)(ds:↑Int)(names:↑Str)(rows:↑Row)(m:Int)(five:↑Row)(ss:↑TM.S)(r:Row)(o6:Sl):Prop:=∃way a st',Way way/\RowW a/\Run (execs Γ ss) (dS ds names rows r m five o6) (.rt .loc (.tup [.str way,Nv a])) st'
abbrev dT(n:Nat):↑TM.S:=ff.body.drop n
def Ml(hl:⇑ds=15)(h:RowW r):DE Γ ds names rows m five (dT 6) r o6:=by
 have t:=J5 (Γ:=Γ) (i:=14) (t:=5) (c:=0)  ⋯ ⋯ (st:=dS ds names rows r m five o6) rfl;cases z:(dd ds 14 % 5==0) with
 |true =>
  rw[z]at t;show#["back",r,_,.inr (.inr rfl),h,kK t (kl (.inr rfl) ak (af rfl))]
 |false =>
  rw[z]at t;have hi:Run (ev Γ (.bi .int [.cmp .gt N9 (cI 6)])) _ _ (dS ds names rows r m five o6):=dW (aa (lz (af rfl) ak ttt (j9 rfl)) ah) ttt rfl;have a:=wJ (Γ:=Γ) (st:=dS ds names rows r m five o6) (ss:=["put","take"]) ⋯;by_cases b:6<m
  .rw[ŝ b]at hi;show#["take",r,_,.inr (.inl rfl),h,aI t (λz=>by cases z) λ_=>kl (.inr rfl) (aV a hi ttt (aJ (bM (j:=1) rfl))) (af rfl)]
  .rw[ś b]at hi;show#["put",r,_,.inl rfl,h,aI t (λz=>by cases z) λ_=>kl (.inr rfl) (aV a hi ttt (aJ (bM  rfl))) (af rfl)]
def Mm(hl:⇑ds=15)(h:RowW r):DE Γ ds names rows m five (dT 5) r o6:=by
 let S:=dS ds names rows r m five o6;have t:=je (ju (rg (lG (F5 (Γ:=Γ)    (r:=r)    (c:=4)) λ_=>j7 (F5 (c:=11)))) λ_=>cU (J5  (i:=14) (t:=3) (c:=1)  ⋯ ⋯ (st:=S) rfl));cases z:((m==4||m==11)&&(dd ds 14 % 3==1)) with
 |true =>
  rw[z]at t;have h':RowW (r.1,uo):=#[show ⇑uo<=9 by decide,h.w1,J4]
  have(w,d,st',a,b,c):=Ml       hl h';show#[w,d,st',a,b,aI t (λ_=>aw (Dx F6 (J6 (ss:=uo) ⋯)) aR c) λz=>by cases z]
 |false =>
  rw[z]at t;have(w,d,st',a,b,c):=Ml    (m:=m)   hl h;show#[w,d,st',a,b,aI t (λz=>by cases z) λ_=>c]
def Mn(hl:⇑ds=15)(h:RowW r):DE Γ ds names rows m five (dT 4) r o6:=by
 let S:=dS ds names rows r m five o6;have t:=rg (lG (F5  (ds:=ds)   (r:=r) (m:=m)  (o6:=o6) (c:=5)) λ_=>j7 (je (ju (F5 (c:=11)) λ_=>cU (J5 (Γ:=Γ) (i:=14) (t:=3) (c:=0) (ds:=ds) ⋯ ⋯ (st:=S) rfl))));cases z:((m==5)||((m==11)&&(dd ds 14 % 3==0))) with
 |true =>
  rw[z]at t;have h':RowW (r.1,[r.1,r.1]):=#[by simp,h.w1,λx e=>by rw[show x=r.1 by exists e];show h.w1]
  have(w,d,st',a,b,c):=Mm (Γ:=Γ)   (m:=m)   hl h';show#[w,d,st',a,b,aI t (λ_=>aw (Dx F6 (dy  (aa F6 (aa F6 ah)) ttt (aA aH (aA aH aP)) (by change 2<=c8;decide))) aR c) λz=>by cases z]
 |false =>
  rw[z]at t;have(w,d,st',a,b,c):=Mm (Γ:=Γ)   (m:=m)  (o6:=o6) hl h;show#[w,d,st',a,b,aI t (λz=>by cases z) λ_=>c]
def Nj(hl:⇑ds=15)(h:RowW r)(C:∀s∈five,RowW s)(h0:∀d∈ds,0<=d):DE Γ ds names rows m five (dT 3) r o6:=by
 have hsz:(1000:Nat)<=c8:=⋯
 let S:=dS ds names rows r m five o6;have D:Run (NJ Γ (.cmp .ne Oi (.lst []))) S (!five.isEmpty) S:=by
  have:=aN (Γ:=Γ) (st:=S) (op:=.ne) (a:=.var 5) (b:=.lst []) (aC rfl) fh ∅ (ix (rP 47 _));simp_all
 have t:=je (ju (J3 (Γ:=Γ) (st:=S) (o1:=.lt) (o2:=.lt) (a:=cI 5) (b:=.var 4) (c:=cI 10) ak (af rfl) ak ttt ttt (nZ rfl) (nZ rfl)) λ_=>cU D);cases z:((df ((5:Int)<m)&&df (m<10))&&!five.isEmpty) with
 |false =>
  rw[z]at t;have(w,q,st',a,b,c):=Mn (Γ:=Γ) (names:=names) (rows:=rows) (m:=m) (five:=five) (o6:=o6) hl h;show#[w,q,st',a,b,aI t (λz=>by cases z) λ_=>c]
 |true =>
  rw[z]at t;obtain⟨s,g,G⟩:∃s g,five=s::g:=by
   cases five with
   |nil=>simp at z
   |cons s g=>show#[s,g,rfl]
  subst G;have hs:=C s ⋯;let n:Int:=dd ds 13 % ((⇑s.2:Nat)+1);have J:0<=n:=Ur _ ⋯;obtain⟨k,hk⟩:∃k:Nat,n=k:=#[n.toNat,⋯]
  let v:=dS ds names rows r m (s::g) o6;let p:=dS ds names rows r m (s::g) (bD (lI n));have A:∀{o:Sl},Run (ev Γ (.idx Oi cO)) (dS ds names rows r m (s::g) o) (.loc,Nv s) (dS ds names rows r m (s::g) o):=aV (x:=(.bor 5,lb (s::g))) (aC rfl) ak ∅ (aJ (bM (j:=0) rfl));have l:∀{o:Sl},Run (ev Γ (.idx (.idx Oi cO) cA)) (dS ds names rows r m (s::g) o) (lT (s.2.map .str)) (dS ds names rows r m (s::g) o):=aV A ak ttt rfl;have H:Run (ev Γ (.bin .mod (.idx Np (cI 13)) (.bin .add (.bi .len [.idx (.idx Oi cO) cA]) cA))) v (lI n) v:=by
   have B:=dW (Γ:=Γ) (st:=v) (f:=.len) (aa l ah) ttt (j_ (xs:=s.2.map U.str));rw[ei]at B;show bu (aV (aB rfl) ak ttt (aJ (bR (i:=13) ⋯))) (bu B ak ttt d5) ttt (cp ⋯)
  let ts:↑Str:=(s.2.drop k++s.2.take k).reverse;have h':RowW (s.1,ts):=by
   show#[?_,hs.w1,λx L=>hs.w2 x ?_]
   .have:=hs.Qb;simp[ts];lia
   grind
  have N:=hs.Qb;have s1:Run (ev Γ (.Ph (.idx (.idx Oi cO) cA) [.var 6] [])) p (lT ((s.2.drop k).map .str)) p:=by
   have e:=uj (k:=.loc) (ss:=s.2) (lo:=bD n) (hi:=cb);rw[hk,oy]at e;show lD l (lC (af (u:=.int n) rfl)) lA ttt (by rw[hk];show e)
  have I:Run (ev Γ (.Ph (.idx (.idx Oi cO) cA) [] [.var 6])) p (lT ((s.2.take k).map .str)) p:=by
   have e:=uj (k:=.loc) (ss:=s.2) (lo:=cb) (hi:=bD n);rw[hk,wz]at e;show lD l lA (lC (af (u:=.int n) rfl)) ttt (by rw[hk];show e)
  have y:vt .PM [(lT ((s.2.drop k++s.2.take k).map .str))]≈lT (ts.map .str):=by
   change bD (lT (((s.2.drop k++s.2.take k).map U.str).reverse))=_;rw[<-List.map_reverse]
  have(w,q,st',a,b,c):=Mn (Γ:=Γ) (names:=names) (rows:=rows) (m:=m) (five:=s::g) (o6:=bD (lI n)) hl h';show#[w,q,st',a,b,aI t (λ_=>aw H aR (aw (Dx (aV (x:=(.loc,Nv s)) A ak ttt rfl) (Cu (aa (bu s1 I ttt (Dw ⋯)) ah) ttt y)) aR c)) λz=>by cases z]
def z_(v:CH Γ)(hl:⇑ds=15)(h0:∀d∈ds,0<=d)(hn:0<⇑names)(l:∀x∈names,bC (~~~x))(y:∀s∈rows,RowW s)(z:⇑rows<=100):∃way h,Way way/\RowW h/\bJ Γ ff [.lst (ds.map .int),.lst (names.map .str),lb rows]≈.ok (lT [.str way,Nv h]):=by
 have hsz:(1000:Nat)<=c8:=⋯
 have(told,O,Q,A,B):=v ds names ⋯ h0 hn;have o:(0:Int)<(⇑(names.map U.str):Nat):=⋯
 have(nm,C,D):=rB (xs:=names) (t:=(⇑(names.map U.str):Nat)) (fO h0 0) o ⋯;have G:RowW (nm,told):=#[by grind,l nm C,λx H=>l x (A x H)]
 let p:Int:=if (⇑(rows.map Nv):Nat)>(1:Int) then(⇑(rows.map Nv):Nat) else 1
 have j:0<p:=by grind
 let n:Int:=dd ds 12 % p;have T:0<=n:=Ur _ ⋯;obtain⟨k,hk⟩:∃k:Nat,n=k:=#[n.toNat,⋯]
 let five:↑Row:=(rows.drop k).take 1;have I:∀s∈five,RowW s:=λs hs=>y s (List.drop_subset _ _ (List.take_subset _ _ hs));have(w,h,st',a,b,c):=Nj (Γ:=Γ) (names:=names) (rows:=rows) (m:=dd ds 11 % 12) (five:=five) (o6:=cb) hl G I h0;let e:Sl:=bD (aL (ds.map .int));let f:Sl:=bD (aL (names.map .str));let g:Sl:=bD (.any,lb rows);have J:TM.start [.lst (ds.map .int),.lst (names.map .str),lb rows] 7=[e,f,g,cb,cb,cb,cb]:=rfl;have L:Run (ev Γ (.tup [.idx NA (.bin .mod (.idx Np cO) (.bi .len [NA])),.call "_law_told" [Np,NA]])) [e,f,g,cb,cb,cb,cb] (.loc,Nv (nm,told)) [e,f,g,cb,cb,cb,cb] :=
  dy (us:=[.str nm,.tup (told.map .str)]) (aa (aV (aB rfl) (bu (aV (aB rfl) ak ttt (aJ (bR (i:=0) ⋯))) (dW (aa (aB rfl) ah) ttt mw) ttt (cp o)) ttt (aJ D)) (aa (aG (aa (aB rfl) (aa (aB rfl) ah)) ttt B) ah)) ttt (aA (nV rfl) (aA aH aP)) (by grind)
 have N:Run (ev Γ (.Ph (.Ph NH [.bin .mod (.idx Np (cI 12)) (.bi .max [cA,.bi .len [NH]])] []) [] [cA])) [e,f,g,bD (.loc,Nv (nm,told)),bD (lI (dd ds 11 % 12)),cb,cb] (.own,lb five) [e,f,g,bD (.loc,Nv (nm,told)),bD (lI (dd ds 11 % 12)),cb,cb]:=by
  have q:=um (rs:=rows) (lo:=bD n) (hi:=cb) .any;rw[hk,oy]at q;have u:=um (rs:=rows.drop k) (lo:=cb) (hi:=bD ((1:Nat):Int)) .own;rw[wz]at u;show lD (lD (aB rfl) (lC (bu (r:=(lI n)) (aV (aB rfl) ak ttt (aJ (bR (i:=12) ⋯))) (dW (aa ak (aa (dW (aa (aB rfl) ah) ttt mw) ah)) ttt (rfl)) ttt (cp j))) lA (r:=(.own,lb (rows.drop k))) ttt (by rw[hk];show q)) lA (lC ak) ttt u
 show#[w,h,a,b,ay rfl (.inr rfl) J (aw L aR (aw (G0 (i:=11) ⋯ ⋯ rfl) aR (aw N bo c)))]
end
end K
namespace TM
open PySem L2 NR
def Mo(h:Run (ev Γ e) st x st1)(a:Run (execs Γ ss) st1 f st2):Run (execs Γ (.exp e::ss)) st f st2:=e_ (ae h aK) a
def Mp(d:Run (bG Γ es) st [a,b,c,(.bor j,u0)] st1)(e:bg [a,b,c,(.bor j,u0)] st1)(g:Run (cj [a,b,c]) st1 us st2)(h:st2[j]?≈bD (.own,u))(i:Γ f (us++[u])≈.ok (lT [x,w])):Run (ev Γ (.Tg f es)) st (.loc,x) (st2.set j (bD (.own,w))):=by
 show ae d (ae (bc e) (ae g ?_));change Ei Γ f j us st2=_;unfold Ei;simp_all
end TM
namespace K
open PySem L2 TM NR Od KL
section
variable{Γ:Tab}{names:List Str}{rows rows':List Row}{past past':List (List Row)}{r:Row}{ds:List Int}{o:Option Str}{way:Str}
abbrev lN:↑Str:=["back","book","need","by","knot","learnt","lacks","put","take","round","price","read","under","over","musts","why"]
def Mq:∀x∈lN,bC (~~~x):=λx a=>.inl (lx.mp (by rfl:lN.all (λx=>cS (~~~x))=b6) x a)
def F7(h0:0<=k)(hl:⇑names<=100):∃ws:↑Str,⇑ws=⇑names/\(∀x∈ws,bC (~~~x))/\bJ Γ dc [.lst (names.map .str),.int k]≈.ok (oL (ws.map .str)):=by
 have hsz:(1000:Nat)<=c8:=⋯
 have c:∀j:Nat,∃x∈lN,N_ (lN.map U.str) ((k+(0+(j:Int))) % 16)≈.str x:=λj=>rB ⋯ ⋯ ⋯;let f:Nat->Str:=λj=>Classical.choose (c j);have d:=λj=>Vp (c j);let e:Sl:=bD (aL (names.map .str));let g:Sl:=bD (lI k);let S:au:=[e,g,bD (oL (lN.map .str))]
 have h:=fb (cond:=aT Γ []) (elt:=ev Γ (.idx ND (.bin .mod (.bin .add NH Np) (cI 16)))) (src:=[(lI (⇑names:Nat))]) (st:=S) ttt .loc (.inl rfl) _ (λj=>U.str (f j)) .loc (λ_=>fM) (ib ⇑names) [] ⋯
  (λj i=>#[aV  (aC rfl) (bu (bu (af rfl) (af rfl) ttt d5) ak ttt (cp ⋯)) ∅ (aJ (d j).2),aH])
 rw[rr,show((ib ⇑names).map λj=>U.str (f j))=((ib ⇑names).map f).map U.str by rw[i8];rfl]at h;have ln:=dW (Γ:=Γ) (st:=S) (f:=.len) (es:=[Np]) (aa (aB rfl) ah) ttt (mw (xs:=names.map U.str));rw[ei]at ln;have ad:Run (ev Γ _) [e,g,bD (oL ((lN.take 13).map .str))] (oL (lN.map .str)) _ :=
  bu (a:=.var 2) (b:=.lst _) (aC rfl) (wJ  ⋯) ∅ (iu (k:=.bor 2) (k':=.own) (by change 16<=c8;decide) rfl rfl)
 show#[_,by simp,λx c=>?_,ay rfl (.inl rfl) (rfl) (aw (wJ (ss:=lN.take 13) ⋯) bo (aw ad bo (aS (bY  (aa ln ah) ttt (mB (Int.natCast_nonneg _) ⋯) h) j8)))];have(j,_,rfl):=j0.mp c;show Mq _ (d j).1
abbrev F8(Γ:Tab):Prop:=∀rs:↑Row,Bk rs->⇑(lw rs)<64/\Γ "_law_learnt" [lb rs]≈.ok (oL ((lw rs).map .str))
def Dy(h:Og 50 u=b6):bN .eq u u≈b6:=by
 erw[bN];rw[ř #[h,h],kN 50 u h]
def Aa(v:F8 Γ)(h:Gb rows)(c:∀r,RowW r->Γ "_law_text" [Nv r]≈.ok (zS (aW r)))(y:Γ "Desk.say" [Oq rows past,.str "book"]≈.ok (lT [.str (Dl rows),Oq rows past]))(hl:Γ "Desk.say" [Oq rows past,.str "learnt"]≈.ok (lT [.str (Q5 (lw rows)),Oq rows past])):
  eY Γ dZ (dZ.body.drop 1) [Oq rows past,lb rows]≈.ok (lT [.bl b6,Oq rows past]):=by
 have hsz:(1000:Nat)<=c8:=⋯
 have(I,l2):=v rows h.bk;have J:=h.bk.ln;let k:Sl:=bD (.A',Oq rows past);let g:Sl:=bD (.any,lb rows);let j:Sl:=bD (oL ((lw rows).map .str));let S:au:=[k,g,j,bD (zS (Q5 (lw rows)))]
 have s:=fb (cond:=aT Γ []) (elt:=ev Γ (.call "_law_text" [Np])) (src:=[(.any,lb rows)]) (st:=S) ttt .any (.inr rfl) Nv (λr=>U.str (aW r)) .loc (λ_=>fM) rows [] (by grind) (λr l=>#[aG (aa (aB rfl) ah) ttt (c r (h.w r l)),aH]);rw[rr,show(rows.map λr=>U.str (aW r))=(rows.map aW).map U.str by rw[i8];rfl]at s;have A:=(gA (sep:=";") (n:=140) (ss:=rows.map aW) (λx c=>by
  have(r,l,rfl):=j0.mp c;show(gC (h.w r l)).2.1) rfl (by grind)).1
 have B:Run (ev Γ (.OS .join (cQ ";") [.comp 1 cK .seq [NA] [] (.call "_law_text" [Np])])) S (zS (Dl rows)) S:=fL ak (aa (bY (rs:=[(.any,lb rows)]) (aa (aB rfl) ah) ttt (by change bD _=_;rw[i8];rfl) s) ah) ttt (iA A);have C:=pO (Γ:=Γ) (st:=S) (i:=0) (d:=b6) (f:="Desk.say") (m:="say") (es:=[(cQ "book")]) (u0:=tb rows) (us0:=O4 past) (u:=tb rows) (us:=O4 past) rfl (aa ak ah) ttt rfl y;have D:=pO (Γ:=Γ) (st:=S) (i:=0) (d:=b6) (f:="Desk.say") (m:="say") (es:=[(cQ "learnt")]) (u0:=tb rows) (us0:=O4 past) (u:=tb rows) (us:=O4 past) rfl (aa ak ah) ttt rfl hl;have t:Run (ev Γ (.and [.cmp .eq (.QK b6 "Desk.say" "say" 0 [(cQ "book")]) _,.cmp .eq (.QK b6 "Desk.say" "say" 0 [(cQ "learnt")]) ND])) S (bL b6) S :=
  Cv (wm (p:=b6) (q:=b6) (lz C B ttt (Dy rfl)) λ_=>vZ (lz D (af rfl) ttt (Dy rfl)))
 have G:=fL (Γ:=Γ) (st:=[k,g,j,cb]) (m:=.join) (a:=.cst (.str " ")) (es:=[NH]) ak (aa (aC rfl) ah) ∅ (iA (wD ⋯ λx c=>GY h c));have H:=aN (Γ:=Γ) (st:=[k,g,j,bD (zS (ri " " (lw rows)))]) (op:=.eq) (a:=.var 2) (b:=.lst []) (aC rfl) fh ∅ (ka (b:=[]));show bH (f:=.rt .loc (.bl b6)) (st':=[g,j,bD (zS (Q5 (lw rows)))]) rfl (rfl) (aw (aG (aa (aB rfl) ah) ttt l2) bo (aw G aR (aI H (λz=>?_) λz=>?_))) rfl
 .rw[Ř]at z;have e:Q5 (lw rows)="-":=by unfold Q5;rw[ř z]
  show aw (st2:=S) ak ?_ (aS t bh);change Run (eX 3 (zS "-")) _ () _;rw[show S=[k,g,j,bD (zS "-")] by erw[S,e]];show aR
 .rw[Ş]at z;have e:ri " " (lw rows)=Q5 (lw rows):=by unfold Q5;simp_all
  rw[e];show aS t bh
end
structure Gr(j:Nat)(rows:↑Row):Prop where
 gb:Gb rows
 ky:(rows.map keyOf).Nodup
 ln:⇑rows<=j
structure IV(j:Nat)(rows:↑Row)(past:List ↑Row):Prop where
 r:Gr j rows
 p:∀q∈past,Gr j q
 l:⇑past<=j
def Gr.up(h:Gr j rows)(hi:j<=i):Gr i rows:=#[h.gb,h.ky,qv h.ln hi]
def IV.up(h:IV j rows past):IV (j+1) rows past:=#[h.r.up ⋯,λq a=>(h.p q a).up ⋯,by have:=h.l;lia]
def IV.put(h:IV j rows past)(a:Gr (j+1) rows'):IV (j+1) rows' (past++[rows]):=by
 show#[a,λq hq=>?_,by have:=h.l;simp;lia];rcases i7.mp hq with hq|hq
 .show(h.p q hq).up ⋯
 .rw[kr.mp hq];show h.r.up ⋯
def stp(h:IV j rows past)(n:RowW r)(f:Way way)(u:j<60):∃o rows' past',Qs r rows past way o rows' past'/\IV (j+1) rows' past':=by
 rcases f with rfl|rfl|rfl
 .by_cases d:fj r=b6
  .by_cases hn:∀s∈rows,keyOf s≠keyOf r
   .show#[cb,rows++[r],past++[rows],.p d hn,h.put #[#[#[λx hx=>?_,by have:=h.r.ln;simp;lia],λx hx=>?_],?_,by have:=h.r.ln;simp;lia]]
    .rcases i7.mp hx with hx|hx
     .show h.r.gb.bk.ok x hx
     .rw[kr.mp hx];show d
    .rcases i7.mp hx with hx|hx
     .show h.r.gb.w x hx
     simp_all
    .rw[mn,my];show#[h.r.ky,by simp,λa g b i e=>?_];have(s,hs,rfl):=j0.mp g;show hn s hs (e.trans (by exists i))
   .show#[_,_,_,.px (.inr (by exists hn)),h.up]
  .show#[_,_,_,.px (.inl (by exists d)),h.up]
 .by_cases hn:∀s∈rows,keyOf s≠keyOf r
  .show#[_,_,_,.tx hn,h.up]
  .have hn:∃s∈rows,keyOf s=keyOf r:=by exists hn
   have(s,hs,e):=hn;have(a,b,c):=List.append_of_mem hs;have hk:=h.r.ky;rw[c,mn,i6,my,nC]at hk;have sub:∀x∈a++b,x∈rows:=λx hx=>by rw[c];simp at hx ⊢;rcases hx with z|z<;>simp[z]
   have hl:=h.r.ln;have v:⇑(a++b)<=⇑rows:=by rw[c];simp
   show#[cb,a++b,past++[rows],.t a s b c e (λx hx z=>?_) (λx hx z=>?_),h.put #[#[#[λx hx=>h.r.gb.bk.ok x (sub x hx),⋯],λx hx=>h.r.gb.w x (sub x hx)],?_,⋯]]
   .show hk.2.2 _ (B' hx) _ il (z.trans e.symm)
   .show hk.2.1.1 (by rw[e,<-z];show B' hx)
   .rw[mn,my];show#[hk.1,hk.2.1.2,λx hx y k=>hk.2.2 x hx y (f7 _ k)]
 .rcases List.eq_nil_or_concat past with e|⟨p,rs,e⟩
  .show#[_,_,_,.bx e,h.up]
  .rw[List.concat_eq_append]at e;show#[cb,rs,p,.b p rs e,(h.p rs (by simp[e])).up ⋯,λq m=>(h.p q (by simp[e,m])).up ⋯,?_];have:=h.l
   grind
abbrev ln(way:Str)(r:Row):Str:=if way="back" then way else cG way r
structure DH(Γ:Tab):Prop where
 WD:∀{r rows past way o rows' past'},Gb rows->Gb rows'->⇑rows<60->⇑past<=100->RowW r->Qs r rows past way o rows' past'->Γ "_law_said" [Oq rows past,.str (ln way r)]≈.ok (lT [SG o rows rows',Oq rows' past'])
 beh:∀{r rows past way o rows' past'},Bk rows->RowW r->Qs r rows past way o rows' past'->Γ "_law_behind" [.str way,Nv r,lb rows,pU past]≈.ok (lT [.tup [lb rows',oU o],pU past])
 rgt:∀rows past,Gb rows->Γ "_law_right" [Oq rows past,lb rows]≈.ok (lT [.bl b6,Oq rows past])
 UD:F8 Γ
 trn:∀K L:↑Str,WL K->WL L->Γ "_law_turn" [.lst (K.map .str),.lst (L.map .str)]≈.ok (zS (chg K L))
 txt:∀r:Row,RowW r->Γ "_law_text" [Nv r]≈.ok (zS (aW r))
 ded:∀(ds:↑Int) (names:↑Str) (rows:↑Row),⇑ds=15->(∀d∈ds,0<=d)->0<⇑names->(∀x∈names,bC (~~~x))->(∀s∈rows,RowW s)->⇑rows<=100->∃way r',Way way/\RowW r'/\Γ "_law_deed" [.lst (ds.map .int),.lst (names.map .str),lb rows]≈.ok (lT [.str way,Nv r'])
 cell:rA Γ
 drawn:mC Γ
abbrev LS(ns ds:↑Int)(names:↑Str)(a:Kd)(rows:↑Row)(dr:↑Row)(dp past:List ↑Row)(o6 o7 o8 o9 o10 o11 o12:Sl):au :=
 [bD (aL (ns.map .int)),bD (oL (ds.map .int)),bD (oL (names.map .str)),bD (.A',Oq dr dp),bD (a,lb rows),bD (.own,pU past),o6,o7,o8,o9,o10,o11,o12]
def WL.lw(a:F8 Γ)(h:Gb rows):WL (lw rows):=#[(a rows h.bk).1,λx b=>GY h b]
def v4(hk:a=.own\/a=.loc):∃k,Run (ev Γ N9) (LS ns ds names a rows dr dp past o6 o7 o8 o9 o10 o11 o12) (k,lb rows) (LS ns ds names a rows dr dp past o6 o7 o8 o9 o10 o11 o12)/\(∀rs,bg rs (LS ns ds names a rows dr dp past o6 o7 o8 o9 o10 o11 o12)->bg ((k,lb rows)::rs) (LS ns ds names a rows dr dp past o6 o7 o8 o9 o10 o11 o12))/\Run (lift (k,lb rows)) (LS ns ds names a rows dr dp past o6 o7 o8 o9 o10 o11 o12) (lb rows) (LS ns ds names .loc rows dr dp past o6 o7 o8 o9 o10 o11 o12):=by
 rcases hk with rfl|rfl
 .show#[_,aC rfl,λrs h=>#[#[.own,rfl,rfl],h],ya rfl]
 .show#[.loc,af rfl,λrs h=>h,aH]
def yi(H:DH Γ)(h:Gb rows)(hk:c=.own\/c=.loc):Run (NJ Γ (.not (.O8 "_law_right" 3 [N9]))) (LS ns ds names c rows rows past past o6 o7 o8 o9 o10 o11 o12) cK (LS ns ds names c rows rows past past o6 o7 o8 o9 o10 o11 o12):=by
 have(k,a,b,_):=v4                hk;show tI  (JO       rfl (aa a ah) (b [] ttt) rfl (H.rgt rows past h))
abbrev lB:↑TM.S:=match ou.body.getD 7 .bad with|.Ob _ _ _ _ b=>b|_=>[]
def J7:Og 50 (SG o rows rows')=b6:=by
 cases o<;>rfl
end K
namespace TM
open PySem L2 NR
def G1:Run (d8 b6 [i,j] (lT [x,y])) st () ((st.set i (bD (.loc,x))).set j (bD (.loc,y))):=rfl
end TM
namespace K
open PySem L2 TM NR Od KL
section
variable{Γ:Tab}{names:List Str}{rows rows':List Row}{past past':List (List Row)}{r:Row}{ns ds:List Int}{o:Option Str}{way:Str}{j:Nat}{o6 o11 o12:Sl}{k4:Kd}
abbrev LT(ns ds:↑Int)(names:↑Str)(rows dr rows':↑Row)(dp past:List ↑Row)(way:Str)(r:Row)(o:Option Str)(o6 o11 o12:Sl):au:=LS ns ds names .loc rows dr dp past o6 (bD (zS way)) (bD (.loc,Nv r)) (bD (.loc,lb rows')) (bD (.loc,oU o)) o11 o12
def l8(H:DH Γ)(h:Gb rows'):Run (execs Γ (lB.drop 8)) (LT ns ds names rows rows' rows' past' past' way r o o6 o11 o12) .nx (LT ns ds names rows' rows' rows' past' past' way r o o6 o11 o12) :=
 aw  (af rfl) aR (aI (yi (o:=[]) H h (.inr rfl)) (λz=>by cases z) λ_=>bB)
def Dz:Run (NJ Γ (.cmp .is (.var 10) (.cst .Nt))) (LT ns ds names rows dr rows' dp past way r o o6 o11 o12) o.isNone (LT ns ds names rows dr rows' dp past way r o o6 o11 o12):=by
 show aN (af rfl) ak ttt ?_;cases o<;>rfl
def G2:Run (NJ Γ (.cmp .eq (.var 7) (cQ "back"))) (LT ns ds names rows dr rows' dp past way r o o6 o11 o12) (df (way="back")) (LT ns ds names rows dr rows' dp past way r o o6 o11 o12):=aN (af rfl) ak ttt eJ
def l7(H:DH Γ)(h:Gb rows')(l:⇑past<=100)(st:Qs r rows past way o rows' past'):Run (execs Γ (lB.drop 7)) (LT ns ds names rows rows' rows' past' past way r o o6 o11 o12) .nx (LT ns ds names rows' rows' rows' past' past' way r o o6 o11 o12):=by
 have hsz:(1000:Nat)<=c8:=⋯
 have t:=je (ju (Dz (Γ:=Γ) (ns:=ns) (ds:=ds) (names:=names) (rows:=rows) (rows':=rows') (dr:=rows') (dp:=past') (past:=past) (way:=way) (r:=r) (o:=o) (o6:=o6) (o11:=o11) (o12:=o12)) λ_=>cU G2);have d:=Dz (Γ:=Γ) (ns:=ns) (ds:=ds) (names:=names) (rows:=rows) (rows':=rows') (dr:=rows') (dp:=past') (past:=past) (way:=way) (r:=r) (o:=o) (o6:=o6) (o11:=o11) (o12:=o12);have f:=l8 (Γ:=Γ) (ns:=ns) (ds:=ds) (names:=names) (rows:=rows)  (past':=past') (way:=way) (r:=r) (o:=o) (o6:=o6) (o11:=o11) (o12:=o12) H h;have g:∀w:Str,∀c ,Run (execs Γ (.app 5 N9::lB.drop 8)) (LT ns ds names rows rows' rows' (past++[rows]) past w r cb o6 o11 o12) .nx (LT ns ds names rows' rows' rows' (past++[rows]) (past++[rows]) w r cb o6 o11 o12):=λw c=>by
  have e:pU (past++[rows])=.lst (past.map lb++[lb rows]):=by simp[pU]
  show tK (k:=.own)    rfl (af rfl) aH rfl rfl (by grind) ?_;rw[<-e];show c
 cases st with
 |p _ _ =>
  show aI t (λz=>by cases z) λ_=>aI d (λ_=>g _ f) λz=>by cases z
 |t a s b _ _ _ _ =>
  show aI t (λz=>by cases z) λ_=>aI d (λ_=>g _ f) λz=>by cases z
 |b _ _ e =>
  show aI t (λ_=>Mo (LX (i:=5) (k:=.own)  (u:=lb rows') rfl rfl ⋯) ?_) λz=>by cases z
  rw[show(past.map lb).dropLast=past'.map lb by simp_all];show f
 |_=>show aI t (λz=>by cases z) λ_=>aI d (λz=>by cases z) λ_=>f
def l6(H:DH Γ)(g:Gb rows)(h:Gb rows')(b:RowW r)(hl:⇑rows<60)(a:⇑past<=100)(st:Qs r rows past way o rows' past'):Run (execs Γ (lB.drop 6)) (LT ns ds names rows rows rows' past past way r o o6 (bD (zS (ln way r))) (bD (.loc,SG o rows rows'))) .nx (LT ns ds names rows' rows' rows' past' past' way r o o6 (bD (zS (ln way r))) (bD (.loc,SG o rows rows'))):=by
 have q:=JN  (st:=LT ns ds names rows rows rows' past past way r o o6 _ (bD (.loc,SG o rows rows'))) (i:=3)  (es:=[.var 11])       rfl (aa (af rfl) ah) ttt rfl (H.WD g h hl a b st);have t:=aN  q (af  (i:=12)  rfl) ttt (pN J7);show aI t (λz=>by cases z) λ_=>l7 H h a st
def l4(H:DH Γ)(g:Gb rows)(h:Gb rows')(d:RowW r)(hl:⇑rows<60)(e:⇑past<=100)(st:Qs r rows past way o rows' past'):Run (execs Γ (lB.drop 4)) (LT ns ds names rows rows rows' past past way r o o6 (bD (zS (ln way r))) o12) .nx (LT ns ds names rows' rows' rows' past' past' way r o o6 (bD (zS (ln way r))) (bD (.loc,SG o rows rows'))):=by
 have hsz:1000<=c8:=⋯
 have c:=l6  (ns:=ns) (ds:=ds) (names:=names) (o6:=o6) H g h d hl e st;have a:=Dz (Γ:=Γ) (ns:=ns) (ds:=ds) (names:=names) (rows:=rows) (rows':=rows') (dr:=rows) (dp:=past) (past:=past) (way:=way) (r:=r) (o:=o) (o6:=o6) (o11:=bD (zS (ln way r))) (o12:=bD (lT [.str "",oU o]));have b:Run (ev Γ (.tup [(cQ ""),.var 10])) (LT ns ds names rows rows rows' past past way r o o6 (bD (zS (ln way r))) o12) _ _:=dy  (aa ak (aa (af rfl) ah)) ttt (aA aH (aA aH aP)) (by change 2<=c8;lia);cases o with
 |some x=>show aw b aR (aI a (λz=>by cases z) λ_=>c)
 |none =>
  have f:=(H.UD rows g.bk).2;have l2:=(H.UD _ h.bk).2;show aw b aR (aI a (λ_=>aw (dy  (aa (aG (aa (aG (aa (af rfl) ah) ttt f) (aa (aG (aa (af rfl) ah) ttt l2) ah)) ttt (H.trn _ _ (WL.lw H.UD g) (WL.lw H.UD h))) (aa ak ah)) ttt (aA aH (aA aH aP)) (by change 2<=c8;lia)) aR c) λz=>by cases z)
def l2(H:DH Γ)(g:Gb rows)(h:Gb rows')(b:RowW r)(d:Way way)(hl:⇑rows<60)(f:⇑past<=100)(st:Qs r rows past way o rows' past'):Run (execs Γ (lB.drop 2)) (LT ns ds names rows rows rows' past past way r o o6 o11 o12) .nx (LT ns ds names rows' rows' rows' past' past' way r o o6 (bD (zS (ln way r))) (bD (.loc,SG o rows rows'))):=by
 have hsz:1000<=c8:=⋯
 have k:⇑way<=4:=by rcases d with rfl|rfl|rfl<;>decide +kernel
 have l:⇑(" ":Str)=1:=by rfl
 have i:=(gC b).2.1;have c:=l4  (ns:=ns) (ds:=ds) (names:=names) (o6:=o6) (o12:=o12) H g h b hl f st;have s1:Run (ev Γ (.bin .add (.bin .add (.var 7) (cQ " ")) (.call _ [.var 8]))) _ _ (LT ns ds names rows rows rows' past past way r o o6 o11 o12) :=
  bu (bu (af rfl) ak ttt (fq ⋯)) (aG (aa (af rfl) ah) ttt (H.txt r b)) ttt (fq (by rw[str_len];lia))
 have t:=G2 (Γ:=Γ) (ns:=ns) (ds:=ds) (names:=names) (rows:=rows) (rows':=rows') (dr:=rows) (dp:=past) (past:=past) (way:=way) (r:=r) (o:=o) (o6:=o6) (o11:=bD (zS (cG way r))) (o12:=o12);by_cases a:way="back"
 .rw[ŝ a]at t;have e:ln way r=way:=by unfold ln;rw[ř a]
  rw[e]at c ⊢;show aw s1 aR (aI t (λ_=>aw (af rfl) aR c) λz=>by cases z)
 .rw[ś a]at t;have e:ln way r=cG way r:=by unfold ln;rw[Ś a]
  rw[e]at c ⊢;show aw s1 aR (aI t (λz=>by cases z) λ_=>c)
def l0(H:DH Γ)(hn:0<⇑names)(p:∀x∈names,bC (~~~x))(d:IV j rows past)(O:j<40)(hk:k4=.own\/k4=.loc):∃rows' past' q s t f g h,IV (j+1) rows' past' /\
  Run (execs Γ lB) (LS ns ds names k4 rows rows past past (bD (lI (0+(j:Int)))) o7 o8 o9 o10 o11 o12) .nx (LS ns ds names .loc rows' rows' past' past' (bD (lI (0+(j:Int)))) q s t f g h):=by
 have v:=d.r.ln;have Q:=d.l;let i:Sl:=bD (lI (0+(j:Int)));have(z,hz):=H.cell ns (20+j) ⋯;have(es,y,A,B):=H.drawn z 15 ⋯;have(way,r,n,m,C):=H.ded es names rows y A hn p d.r.gb.w ⋯;have(o,rows',past',st,e):=stp d m n ⋯;have D:Γ "_law_cell" [.lst (ns.map .int),.int (20+(0+(j:Int)))]≈.ok (lI z):=by
  simp_all
 have(k,G,I,_):=v4 (Γ:=Γ) (ns:=ns) (ds:=ds) (names:=names) (rows:=rows) (dr:=rows) (dp:=past) (past:=past) (o6:=i) (o7:=o7) (o8:=o8) (o9:=o9) (o10:=o10) (o11:=o11) (o12:=o12) hk;have(k',b1,J,b3):=v4 (Γ:=Γ) (ns:=ns) (ds:=ds) (names:=names) (rows:=rows) (dr:=rows) (dp:=past) (past:=past) (o6:=i) (o7:=bD (zS way)) (o8:=bD (.loc,Nv r)) (o9:=o9) (o10:=o10) (o11:=o11) (o12:=o12) hk;have L:Run (ev Γ (.call "_law_deed" [.call "_law_drawn" [.call "_law_cell" [Np,.bin .add (cI 20) (.var 6)],(cI 15)],NH,N9])) _ (lT [.str way,Nv r]) _ :=
  aG  (aa (aG (aa (aG (aa (aB rfl) (aa (bu ak (af rfl) ttt d5) ah)) ttt D) (aa ak ah)) ttt B) (aa (aC rfl) (aa G ah))) #[#[.own,rfl,rfl],I [] ttt] C
 have N:Run (ev Γ (.Tg "_law_behind" [.var 7,.var 8,N9,Oi])) _ (lT [lb rows',oU o]) _ :=
  Mp (a:=(zS way)) (b:=(.loc,Nv r)) (c:=(k',lb rows)) (j:=5) (u0:=pU past) (u:=pU past) (w:=pU past)  (aa (af rfl) (aa (af rfl) (aa b1 (aa (aC rfl) ah)))) (J [(.bor 5,pU past)] ∅) (aA aH (aA aH (aA b3 aP))) rfl (H.beh d.r.gb.bk m st)
 have c:=l2 (Γ:=Γ) (ns:=ns) (ds:=ds) (names:=names) (o6:=i) (o11:=o11) (o12:=o12) H d.r.gb e.r.gb m n ⋯ ⋯ st;show#[rows',past',_,_,_,_,_,_,e,CM L G1 (CM N G1 c)]
def F9(H:DH Γ)(h:∀x∈names,bC (~~~x))(hn:0<⇑names)(hN:⇑names<=100)(hd:⇑ds=4)(h0:∀d∈ds,0<=d)(D:Γ "_law_cell" [.lst (ns.map .int),.int 0]≈.ok (lI z))(b:Γ "_law_drawn" [.int z,.int 4]≈.ok (oL (ds.map .int)))
  (G:Γ "_law_names" [.lst (ns.map .int),.int 1,.int (1+dd ds 0 % 14)]≈.ok (oL (names.map .str)))
  (c:∃ws:↑Str,⇑ws=⇑names/\(∀x∈ws,bC (~~~x))/\Γ "_law_own_words" [.lst (names.map .str),.int (dd ds 3)]≈.ok (oL (ws.map .str))) :
  bJ Γ ou [.lst (ns.map .int)]≈.ok (bL b6):=by
 have hsz:(2000:Nat)<=c8:=⋯
 have v:Gb []:=#[#[by simp,by simp],by simp]
 have k:IV 0 [] []:=#[#[v,by simp,by simp],by simp,by simp]
 have n0:=fO h0 1;let n:Nat:=(dd ds 1 % 31).toNat;have SE:dd ds 1 % 31=(n:Int):=⋯
 have w:n<31:=⋯
 have a:∀nm:↑Str,0<⇑nm->(∀x∈nm,bC (~~~x))->∃st',Run (execs Γ (ou.body.drop 3)) [bD (aL (ns.map .int)),bD (oL (ds.map .int)),bD (oL (nm.map .str)),cb,cb,cb,cb,cb,cb,cb,cb,cb,cb] (.rt .loc (.bl b6)) st':=λnm hn h=>by
  have(st',I,_):=gn (t:=cK) (is:=[6]) (body:=execs Γ lB) (rs:=[(lI (dd ds 1 % 31))]) (λi:Nat=>(lI (0+(i:Int))))
   (λd y st=>d++y=ib n/\∃k4 rows past o6 o7 o8 o9 o10 o11 o12,(k4=Kd.own\/k4=Kd.loc)/\IV ⇑d rows past/\st=LS ns ds nm k4 rows rows past past o6 o7 o8 o9 o10 o11 o12) (λ_ _ _ _=>ttt) (λd i y st J=>by
    have(b,k4,rows,past,o6,o7,o8,o9,o10,o11,o12,hk,L,e):=J;subst e;have m:=ş NX b;simp at m;have hi:i=⇑d:=by
     have:=ş (λl=>l[⇑d]?) b;simp at this;rw[Xx ⋯]at this;show vu this
    subst hi;have(rows',past',N,O,Q,p,s,u,T,run):=l0 (Γ:=Γ) (ns:=ns) (ds:=ds) (o7:=o7) (o8:=o8) (o9:=o9) (o10:=o10) (o11:=o11) (o12:=o12) H hn h L ⋯ hk;show#[LS ns ds nm k4 rows rows past past (bD (lI (0+(⇑d:Int)))) o7 o8 o9 o10 o11 o12,_,ip aR,run,by rw[<-b];simp,.loc,rows',past',_,N,O,Q,p,s,u,.inr rfl,by simp_all,rfl]) (ib n) [] (LS ns ds nm .own [] [] [] [] cb cb cb cb cb cb cb) ⟨rfl,.own,[],[],cb,cb,cb,cb,cb,cb,cb,.inl rfl,k,rfl⟩
  show#[st',JR (aw fh bo (aw fh bo (aI (yi (o:=[]) (rows:=[]) (past:=[]) H v (.inl rfl)) (λz=>by cases z) λ_=>ij (aa (bu (aV (aC rfl) ak ∅ (aJ (bR (i:=1) ⋯))) ak ttt (cp ⋯)) ah) ttt (mB (z:=dd ds 1 % 31) ⋯ ⋯) rfl I (aS ak bh))))]
 let f:au:=[bD (aL (ns.map .int)),cb,cb,cb,cb,cb,cb,cb,cb,cb,cb,cb,cb]
 have s1:Run (ev Γ (.call "_law_drawn" [.call "_law_cell" [Np,cO],(cI 4)])) f (oL (ds.map .int)) f:=aG (aa (aG (aa (aB rfl) (aa ak ah)) ttt D) (aa ak ah)) ttt b;let A:au:=[bD (aL (ns.map .int)),bD (oL (ds.map .int)),cb,cb,cb,cb,cb,cb,cb,cb,cb,cb,cb]
 have B:Run (ev Γ (.call "_law_names" [Np,cA,.bin .add cA (.bin .mod (.idx NA cO) (cI 14))])) A (oL (names.map .str)) A:=aG (aa (aB rfl) (aa ak (aa (bu ak (bu (aV (aC rfl) ak ∅ (aJ (bR (i:=0) ⋯))) ak ttt (cp ⋯)) ttt d5) ah))) ttt G;let C:au:=[bD (aL (ns.map .int)),bD (oL (ds.map .int)),bD (oL (names.map .str)),cb,cb,cb,cb,cb,cb,cb,cb,cb,cb]
 have g:Run (NJ Γ (.cmp .eq (.bin .mod (.idx NA (cI 2)) (cI 6)) cA)) C (dd ds 2 % 6==1) C:=aN (bu (aV (aC rfl) ak ∅ (aJ (bR (i:=2) ⋯))) ak ttt (cp ⋯)) ak ttt (gm rfl);have(ws,w1,Y,w3):=c;cases q:(dd ds 2 % 6==1) with
 |true =>
  rw[q]at g;have(st',run):=a ws ⋯ Y;show ay rfl (.inr rfl) (show TM.start [.lst (ns.map .int)] 13=f from rfl) (aw s1 bo (aw B bo (aI g (λ_=>aw (aG (aa (aC rfl) (aa (aV (aC rfl) ak ∅ (aJ (bR (i:=3) ⋯))) ah)) ∅ w3) bo run) λz=>by cases z)))
 |false =>
  rw[q]at g;have(st',run):=a names hn h;show ay rfl (.inr rfl) (show TM.start [.lst (ns.map .int)] 13=f from rfl) (aw s1 bo (aw B bo (aI g (λz=>by cases z) λ_=>run)))
end
end K
namespace TM
open PySem L2
def Ab(h:NQ Pg x fn)(us)(a:fn.ob=cb)(hi:fn.io≈p):N2 Pg (d+1) x us=runN (N2 Pg d) fn p.2 us:=by
 change(match Pg.find? λg=>decide _ with|some fn=>iS _ fn us|none=>cb)=_;rw[h];change iS _ fn us=_;unfold iS;rw[a,hi]
end TM
namespace K
open PySem L2 TM NR Od KL
def makers:CJ prog:=#[rfl,rfl,rfl,rfl,rfl,rfl]
def UD:Lrn prog:=#[rfl,rfl,rfl,rfl,rfl]
def lok(n):LOk (N2 prog (n+5)) "learnt":=λrs h=>by
 have(f,a,b,c):=FO UD n (λr d=>mH (h.ok r d)) (λr d=>CY (h.ok r d)) h.ln;have e:=GW (Kn.of a);rw[e];show#[?_,(ax (show NQ prog "learnt" _ from rfl) _).trans (KL.jA ⋯ c)];rw[(dg _).length_eq,ei];lia
def Ac(n):F8 (N2 prog (n+1)):=λrs h=>by
 have(L,l,a,b,c,d):=K.jA  (λr f=>mH (h.ok r f)) h.ln;have e:=GW #[a,b,c];rw[e];show#[?_,(ax (show NQ prog "_law_learnt" _ from rfl) _).trans d];rw[(dg _).length_eq];show l
def Nk(n):∀a b,Bk a->Bk b->N2 prog (n+6) "gained_and_lost" [tb a,tb b]≈.ok (.loc,QR a b):=λa b c d=>(ax (show NQ prog "gained_and_lost" _ from rfl) _).trans (JW (lok n) c d)
def sht(n):ShT (N2 prog (n+7)):=λrs a p h h'=>(br (show NQ prog "Shelf.turn_to" _ from rfl) _ rfl).trans (C8 (Nk n) h h')
def shd(n):ShD (N2 prog (n+8)):=λrs b p h h' a=>(br (show NQ prog "Shelf.do_deed" _ from rfl) _ rfl).trans (C9 (sht n) h h' a)
def XA(n):Vk (N2 prog (n+3)):=λrs r h a=>(ax (show NQ prog "places_alike" _ from rfl) _).trans (K.jz (λr s b c=>(ax (show NQ prog "alike" _ from rfl) _).trans (zP (λr h=>(ax (show NQ prog "in_one_order" _ from rfl) _).trans (FR h)) b c)) h a)
def oC(d):gw (N2 prog (d+2)) "is_word":=λx h=>(ax (show NQ prog "is_word" _ from rfl) _).trans (C4 (λx a=>(ax (show NQ prog "is_stem" _ from rfl) _).trans (CZ a)) (λy=>(ax (show NQ prog "is_later_sense" _ from rfl) _).trans zN)
 (λx hl=>(ax (show NQ prog "stem_of" _ from rfl) _).trans (C2 rfl hl rfl)) (λx hl=>(ax (show NQ prog "number_of" _ from rfl) _).trans (C2 rfl hl rfl)) h)
def rws(n):rN (N2 prog (n+3)):=λr h=>(ax (show NQ prog "is_row" _ from rfl) _).trans (FQ (oC n) h)
def Mr(n):FW (N2 prog (n+6)):=λa b c d=>(ax (show NQ prog "shown_changes" _ from rfl) _).trans (uf (WL.lw (Ac 0) c) (WL.lw (Ac 0) d))
def Nl(n)(h:RowW r):N2 prog (n+4) "read_row" [.str (aW r)]≈.ok (.loc,Nv r):=(ax (show NQ prog "read_row" _ from rfl) _).trans (Dk (oC _) h ((ax (show NQ prog "read_told" _ from rfl) _).trans (zV (oC n) h)))
def G3(h:RowW r):Rw r:=#[by have:=h.Qb;lia,by rw[len_list];have:=h.w1.len;lia,λx a=>by rw[len_list];have:=(h.w2 x a).len;lia]
def Nm(n)(j:Gb rows)(g:Gb rows')(hl:⇑rows<60)(l:⇑past<=100)(d:RowW r)(st:Qs r rows past way o rows' past'):N2 prog (n+11) "Desk.say" [Oq rows past,.str (ln way r)]=RY o rows rows' past':=by
 have i:∀{way:Str},(way="put"\/way="take")->(N2 prog (n+9)) _ _=RV o rows rows' past'->N2 prog (n+11) "Desk.say" [Oq rows past,.str (ln way r)]=RY o rows rows' past':=λ{way} k h=>by
  have e:ln way r=cG way r:=by
   unfold ln;rw[Ś (by rcases k with rfl|rfl<;>decide)]
  rw[e];show(br (show NQ prog "Desk.say" c9 from rfl) _ rfl).trans (FY k d (Nl (n+6) d) ((br (show NQ prog "Desk.say_deed" c_ from rfl) _ rfl).trans (Dn k (Mr (n+3)) j g h)))
 have m:(N2 prog (n+10)) "Shelf.back" [Oe rows past]=RV o rows rows' past'->N2 prog (n+11) "Desk.say" [Oq rows past,.str (ln "back" r)]=RY o rows rows' past':=λh=>(br (show NQ prog "Desk.say" c9 from rfl) _ rfl).trans (Dr (Mr (n+4)) j g h);have bk:=j.bk;cases st with
 |p c f=>show i (.inl rfl) ((br (show NQ prog "Shelf.put" dY from rfl) _ rfl).trans (FV (XA (n+5)) (rws (n+5)) (shd n) bk (G3 d) c f hl l))
 |px c=>show i (.inl rfl) ((br (show NQ prog "Shelf.put" dY from rfl) _ rfl).trans (Df (XA (n+5)) (rws (n+5)) bk (G3 d) c))
 |t a s b c f q u =>
  subst c;have e:s.1=r.1:=(Prod.mk.inj f).1;have:=Dg (Γ:=N2 prog (n+8)) (r:=s) (a:=a) (b:=b) (ts:=r.2) (past:=past) (XA (n+5)) (shd n) bk g.bk (by rw[e];show f.symm) (by have:=d.Qb;lia) (by rw[f];show q) l;rw[e]at this;show i (.inr rfl) ((br (show NQ prog "Shelf.take" dq from rfl) _ rfl).trans this)
 |tx c=>show i (.inr rfl) ((br (show NQ prog "Shelf.take" dq from rfl) _ rfl).trans (zQ (XA (n+5)) bk (by have:=d.Qb;lia) c))
 |b _ _ c =>
  subst c;show m ((br (show NQ prog "Shelf.back" du from rfl) _ rfl).trans (Dd (sht (n+2)) bk g.bk))
 |bx c =>
  subst c;show m ((br (show NQ prog "Shelf.back" du from rfl) _ rfl).trans (zR rows))
def Ms(n){line a:Str}(b:32∉(~~~line))(c:10∉(~~~line))(hl:⇑line<=1000)(d:line≠"back")(e:N2 prog (n+10) "answer_at_large" [tb rows,.str line]≈.ok (zS a)):N2 prog (n+11) "Desk.say" [Oq rows past,.str line]≈.ok (lT [.str a,Oq rows past]) :=
 (br (show NQ prog "Desk.say" _ from rfl) _ rfl).trans (Dt (NR.iG b) c hl d ((br (show NQ prog "Shelf.book" _ from rfl) _ rfl).trans C_) e)
def dh(n):DH (N2 prog (n+12)) where
 WD:=λi j hl k h st=>(br (show NQ prog "_law_said" fg from rfl) _ rfl).trans (Du (λc e=>by cases st<;>cases e<;>decide) (Nm n i j hl k h st))
 beh:=λl h st=>(Ab (show NQ prog "_law_behind" bp from rfl) _ rfl rfl).trans (wH (λrs x a b c=>(ax (show NQ prog "_law_there" ft from rfl) _).trans (z9 a b c)) l h st)
 rgt:=λrows past g=>(br (show NQ prog "_law_right" dZ from rfl) _ rfl).trans (Aa (Ac (n+10)) g (λr h=>(ax (show NQ prog "_law_text" fe from rfl) _).trans (pV h))
  (Ms n (by decide +kernel) (by decide +kernel) (by decide +kernel) ⋯ ((ax (show NQ prog "answer_at_large" aY from rfl) _).trans (zZ ((ax (show NQ prog "shown" mG from rfl) _).trans (zX g.w g.bk.ln λr h=>(ax (show NQ prog "shown_told" eN from rfl) _).trans (zW (g.w r h)))) g)))
  (Ms n (by decide +kernel) (by decide +kernel) (by decide +kernel) ⋯ ((ax (show NQ prog "answer_at_large" aY from rfl) _).trans (wG (lok (n+4)) g ((ax (show NQ prog "listed" kg from rfl) _).trans (wF (WL.lw (Ac 0) g).ln (WL.lw (Ac 0) g).w))))))
 UD:=Ac (n+11)
 trn:=λK L m o=>(ax (show NQ prog "_law_turn" gv from rfl) _).trans (zY m o)
 txt:=λr h=>(ax (show NQ prog "_law_text" fe from rfl) _).trans (pV h)
 ded:=λds names rows a b c d e f=>by
  have(w,r,x,y,z):=z_  (JF makers.told) a b c d e f;show#[w,r,x,y,(ax (show NQ prog "_law_deed" ff from rfl) _).trans z]
 cell:=makers.oh
 drawn:=makers.drawnOk
def pure(ns)(i:⇑ns<=63):N2 prog 13 "law" [Fz ns]≈.ok (bL b6):=by
 have(z,hz):=makers.oh ns 0 ⋯;have(ds,c,a,d):=makers.drawnOk z 4 ⋯;have(names,j,l,e,b):=makers.namesOk ns 1 (1+dd ds 0 % 14).toNat ⋯ ⋯;rw[XB ⋯]at b;have(ws,f,g,h):=F7  (names:=names) (k:=dd ds 3) (fO a 3) ⋯;show(ax (show NQ prog "law" ou from rfl) _).trans (F9 (dh 0) e ⋯ ⋯ c a hz d b #[ws,f,g,(ax (show NQ prog "_law_own_words" dc from rfl) _).trans h])
end K
namespace K
open PySem L2 TM PySem.W PyProof.Rows
abbrev mz(z:Mz)(f:Fn):Me:=#[f,z.x,z.i,z.N,z.a,z.c,z.m,z.cr]
abbrev ml:Me:=mz zl ou
abbrev ms:↑Me:=List.zipWith mz zs [kQ,dN,kR,pP,lH,om,dz,mF,dM,bt,dn,bE,gp,iy,jB,iz,fc,dA,lJ,iQ,dY,dq,du,eL,eM,mG,eN,kg,eh,aY,lK,c9,c_,pQ,oo,lL,oq,lM,ot,gu,ft,fe,gv,ff,bp,fg,dZ,dc,ou]
abbrev hk:Hook:=kHook (λP=>Om top (gx P) ms) (adr ms xa) λP=>xR top (gx P) ms xa rfl
def hz1:hk.obs=λs=>aZ.map s.heap.get?:=by kernel_rfl
def hz2(w):hk.val w=(fZ (gx w.params)).map λp=>bD p.2:=by kernel_rfl
def hl:LeftO PySem.Challenge.rw_primer_k71_deeds_at_the_desk.row.prog vw Tu xt hk.obs hk.val 5000:=λw=>by
 have(s,e,a):=g7.mp (QS w);have b:=Qt w;have c:=UE w;have d:=hl4 w;rw[e]at b c d;have c:=vu c;rw[J8 e,hz1,hz2];show ş bD (Vq (Vq a (Vq (ş (·.1) c) (Vq (vu b) (Vq (vu d) (ş (·.2.1) c))))) (ş (·.2.2) c))
def hs:PySem.Challenge.rw_primer_k71_deeds_at_the_desk.wellSaid=b6:=by kernel_rfl
def ho(P:Yl):Ry ck top (Om top (gx P) ms) ms=b6:=by kernel_rfl
def hox(P:Yl):((gX ck (Om top (gx P) ms)&&gY ck (Om top (gx P) ms))&&shB top (Om top (gx P) ms) ms)=b6:=by kernel_rfl
end K
open PySem PySem.W PyProof.Rows K
theorem PySem.Challenge.cw_primer_k71_deeds_at_the_desk_holds : PySem.Challenge.rw_primer_k71_deeds_at_the_desk.Holds := by
 w_on
 refine holds_law hs λz => ?_;refine holds_open hl hk.of hk.keeps (λs e => xl_of s (n7.mp e).1) XL.keeps rfl rfl rfl (λs e => recFacts_of (n7.mp e).2) rfl z (by kernel_rfl) ⟨rfl, rfl, rfl, rfl, rfl, by decide +kernel⟩ ?hw ?a
 (case hw => w_witness2)
 exact TM.walk2 (l := PySem.Challenge.rw_primer_k71_deeds_at_the_desk) (Pg := prog) (ck := ck) (dp := 12) (x := "_law_script") (m := ml) rfl rfl ⟨rfl, by decide, by decide, rfl⟩ rfl (by decide +kernel) (by decide +kernel) rfl rfl (ZY.mpr ⟨48, rfl⟩) rfl rfl rfl ho hox (λ_ => rfl) K.pure
