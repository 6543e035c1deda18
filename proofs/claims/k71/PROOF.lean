import PyProof.Rows.All
import OpenK.AllK
import PyProof.StrLawsChain
import PyProof.StrLawsFirst
import PyProof.Rows.StrNews2
import PyProof.DictItems
import PyProof.MeetsStr2
import PyProof.EqAt
import PyProof.EqKinds
import PyProof.StationsW
import PyProof.ExcBaseAll.ValueError
import PyProof.RulesAs
import PyProof.NsDelKeeps
import PyProof.ExcArgsOwn
import PyProof.ExcAttrAll.ValueError
import PyProof.IsiBase
import PyProof.StrCalls6
import PyProof.IsiNone
import PyProof.ToksMono
import PyProof.ReprBulk
import PyProof.StrLawsReplace
import PySem.Challenge.RW_primer_k71_deeds_at_the_desk
set_option Elab.async false
set_option linter.all false
set_option bootstrap.genMatcherCode false
set_option maxRecDepth 100000
set_option maxHeartbeats 4000000
set_option genInjectivity false
set_option genSizeOf false
set_option autoImplicit true
set_option relaxedAutoImplicit true
open Option renaming some->bD,none->cc,map_eq_some_iff->g7,bind_eq_some_iff->ki,isSome_iff_exists->vr,ite_none_right_eq_some->Pd,isNone_iff_eq_none->UN,isSome_map->X0,getD_none->ë,map_some->ü
open Bool renaming true->b6,and_eq_true->cb,false->cK,false_ne_true->ke,not_eq_true'->nc,and_eq_true_iff->oa,eq_iff_iff->ve,or_eq_true->RB,false_eq_true->X9,and_false->Y9,and_true->İ
open PySem renaming wpAny_bind->cL,sizeLine->c8,wpAny_pure->dV,wpAny->f6,model->gs,Value->g8,Addr->hH,starEach->i0,Shared->i4,mainGlobals->i5,Expr->jw,wpAny_mono->lg,wpAny_Call_Name_kw->nT,wpAny_newObj_type->pj,eval->p8,wpAny_field->p9,wpAny_truthy_bool->q9,Program->rS,bootBuiltins->so,wpAny_call_entry->ti,wpAny_callSpecial?_slot->tj,wpAny_holding->tr,codeAny_builtin->tv,Scope->tP,Stmt->va,backTo->vl,World->wk,compareOp->y0,wpAny_setField->y9,wpAny_of_eq->z8,foldedSetIterable->Cd,cLine->C0,holding->KX,Heap->K2,attributeBase->LF,cellsFrom->Ow,keywordEach->PU,wpAny_rule->P_,sysModules->P',call->Qt,wpAny_passesOwn->Qv,swapsWith->QA,wpAny_isTrue_Compare1->QE,Keyword->QK,typeIs_str->Rg,call_meets->Rn,codeAny->Ry,Builtin->RA,plainId_quiet->RP,binaryOp->RZ,behindInMarks->R0,wpAny_specialOf->R4,wpAny_execs_nil->R5,wpAny_pyIter_tuple->Sf,tupleKind_room_in1->Si,assignEach->Sj,wpAny_getItem_str_slice->SI,scanBound->SS,rawInt->Tv,pyNext->Tx,codeAny_mono->Tz,wpAny_isInstance->Uv,Around->Ux,wpAny_attempt->UA,backToKw->UB,call_isinstance->UW,wpAny_typeOf->U4,getItem->U6,isSubtype->Vn,assign->Vu,JoinOk->Vv,FuncData->VD,wpAny_pyIter_list->VZ,wpAny_loadPart_at->V0,sliceBounds->V1,notedBy->V7,wpAny_comprehension_free->Wj,swapsWithSole->Wk,relayAll->Ww,compEnvC->Wx,wpAny_Call_method_late->WT,typeLookup->WX,standAt->WY,setItem->WZ,relabel->W7,callerA->Xf,wpAny_updateSeq->XC,wpAny_loadPart'->XD,post_val_or_str->XE,letOwnedTupleGo->XG,codeAny_of_tree->XH,wpAny_runValue->X_,codeAny_call_builtin->X',IsPart->Yc,treeTable->Ye,pushCells->Yf,wpAny_Tuple_spliced->Yi,swappedStores->Yr,Params->YI,wpAny_pyIter_enum->YW,wpAny_Return_some->YZ,release->Y0,concat_meets->Y1,wpAny_execs_cons->Zg,tupleKind->Zh,pyIter->Zk,noFill_tuple_add->Zl,PassesOwn->Zn,subscripted->Zw,pushCells_keeps->ZG,valueAt->ZV,wpAny_seqItems->Z8,wpAny_call->Z9,typeOf->Z_,isSubtype_type->Z',isSubtype_stop->À,firstArgMember->Á,GenState->Æ,wpAny_standAt->Õ,wpAny_newList->Ö,wpAny_handled->Ø,signature?_of->Ù,seq_tuple_add->Ú,wpAny_Call_method0_late->ç,strValues->è,atKey->é,wpAny_pyNext_list_item->ì,call_meetsIn->í,argsOk->î,IsEnum->ô,BindsTo->ø,builtinLookup_eq_fast->Ă,wpAny_throw->ċ,step->Č,seqIndex_of->č,entryFor->Ď,codeAny_extend_loopS->ď,bindL->Đ,bindC->đ,Operator->ē,NameKind->Ĕ,wpAny_load->Ġ,wpAny_Name->ġ,wpAny_List_spliced->Ģ,truthy->ģ,slot_listiter_next->Ĥ,setAdd->ĥ,rule->Ħ,builtinsNs->ħ,WalksS->Ĩ,wpAny_storeSet_of->ı,wpAny_sequenceKey->Ĳ,wpAny_assign_Name->ĳ,wpAny_Assign_Name->Ĵ,spliced->ĵ,object_init_meets->Ķ,fits_of_scanBound->ķ,collect->ĸ,ItemsOf->ľ,CmpOp->ł,wpAny_eqBool_str->ń,wpAny_eqBool_int->Ņ,seqIndex?->ņ,noteFrame->Ň,getMethod->ň,entryFor_of_tree->ŉ,checkBuiltinCall->Ŋ,Slot->ō,wpAny_ite_split->Ř,typeLookup_type->ř,importedModules->Ś,wpAny_loadPart->Ţ,recursionLimit->ţ,numbered_texts->Ť,newFunctionEnv->ť,field->Ŧ,callWith->ŧ,callType_codes->Ũ,bindArgs->ũ,augStore->Ū
open Decidable renaming decide->df
open PySem.Heap renaming get?_push_of_some->dt,get?_push_size->gj,lt_size->hW,get?_update_self->ro,get?_update_other->tp,SameBut->tA,size_push->QD,ExtBut->WC,get?_update_ne->ß
open List renaming length_map->ei,getElem?_eq_some_iff->eH,mem_cons->eT,getElem?_set_self->fx,mem_cons_of_mem->f7,getElem?_set_ne->hQ,range->ib,mem_cons_self->il,map_cons->i6,mem_append->i7,map_map->i8,mem_map->j0,replicate->kb,mem_singleton->kr,length_cons->k9,all_eq_true->lx,map_append->mn,size_toArray->mu,length_append->mx,isEmpty_iff->my,nodup_append->mN,nodup_cons->nH,mem_of_getElem?->n7,getElem?_append_right->pe,mem_append_right->pz,getElem?_append_left->qs,nil_append->rr,getElem?_map->sd,lookup_cons->sx,append_nil->tE,mem_range->uu,mem_map_of_mem->B',getElem_mem->F1,getElem?_drop->KD,length_filter_le->K',mem_filter->M',length->N3,append_assoc->N9,map_congr_left->O5,filterMap_cons->O_,getElem?_replicate->O',lookup->Pq,filter_eq_nil_iff->Pr,map_nil->Q6,filter_cons->Q8,ext_getElem->Q9,getElem?_eq_getElem->Rv,mem_filterMap->RH,filter_append->RJ,take_of_length_le->Sa,dropLast_eq_take->SU,getD->S8,any_eq_true->Tb,mem_append_left->TX,eq_nil_of_length_eq_zero->TZ,of_mem_zip->Uo,getElem_of_mem->Uy,pairwise_cons->UT,drop_eq_getElem_cons->U2,reverse_cons->Vf,length_take->VM,length_eq_one_iff->Wh,drop_left'->Wt,length_replicate->Wv,mem_iff_getElem->WO,getElem?_range->XM,zip_cons_cons->X8,all_map->Yh,length_drop->Yu,isEmpty_map->YB,cons_ne_nil->YD,length_zip->YT,foldl_cons->YU,filter_nil->YV,nodup_nil->Y7,getElem?_take_of_lt->ZE,mem_iff_getElem?->Ì,length_singleton->Í,getElem?_eq_none->Î,mem_of_mem_take->Ò,mem_erase_of_ne->Ó,getElem?_zipIdx->Ô,flatten_append->å,filter_eq_self->æ,take_sublist->ý,take_add_one->þ,length_range->ÿ,flatten_cons->Ā,ext_getElem?->ā,take_length->Ą,not_mem_nil->ą,map_fst_zip->Ć,getElem_inj->ć,drop_length->Ĉ,cons_append->ĉ,length_set->Ě,filter_map->ě,sum_cons->Ĭ,set_comm->ĭ,findIdx?->Į,any_cons->į,set_set->Ń,map_id->Ŕ
open PySem.PyData renaming keyHash->et
open Nat renaming le_refl->hY,ne_of_lt->i9,lt_of_lt_of_le->jn,zero_le->kj,le_trans->qv,lt_irrefl->sP,ne_of_gt->DD,le_of_lt->Q',lt_succ_of_lt->Sk,lt_succ_self->TK,le_of_eq->UL,lt_trans->Yq,le_succ->ä,min_le_right->ę,zero_add->œ,log2_lt->Š,mod_lt->ų
open PySem.Txt renaming partition->ko,join->ri,split->G',replace->YP,endswith->Ō
open PySem.Value renaming ref->ku,none->oD,str->y6,type->Rz,bool->UC,builtin->U7,isStrOf->XI,isStrOf_shape->Ï,int->ñ,isInt->Ļ,float->ļ,bytes->Ľ
open Ne renaming symm->mh
open Sum renaming inr->nC,inl->Z7
open PySem.Str renaming empty->nS,ofString->UG,length->Ya,join->Ü
open Array renaming length_toList->p7,getElem?_eq_some_iff->H8,toArray_toList->Wy,toList_append->XB,getElem?_eq_getElem->Zb,getElem?_toList->Z5
open PySem.Obj renaming mapSeq->rD,data_mapFields->K1,isFreed_of_fields->SX,mapFields->TL,putSet->Ws,cls_mapFields->Yk
open PySem.Calls renaming spliced_cons->sg,callWith_builtin->uk,evalArgs_plain->w6,spliced_nil->y8,Constant_str->UH,Name_function_global->Y4,call_function_entry->Y5
open PyProof.Rows renaming slot_tuple_getitem->sL,callWith_builtin1->ur,seqObj->u4,callWith_type1->x8,StrsAre->V_,AllBare->Wf,listUpdate_at->Ys,IsTup->Yt,size_push'->YL,envOfC->YO,Subscript_->Ë,subscriptTail_builtinR->ù,listItems_at->ú,IntsAre->û,seqEpoch_at->Ę,sortedHeap->Ī,args_tuple_getitem->ī,len_tuple->Œ,joinOk_of->ŝ,get?_update_seq->Ş,call_isinstance_yes->ş,sortedHeap_old->ů,slicePart_none->Ű,isTrue_and_nil->ű,args_list_sort->Ų
open PySem.Builtin.Str renaming occurrences->td,partsBetween->Uw,strKind->Y6,glued->Zy
open PySem.Builtin.Tuple renaming tupleExact->uv,tupleItemsOf->XN
open PySem.Builtin.List renaming listTooLong->u5,listLengthHint->x6,listExtendWith->Pb,listSameRef->Yg,listFitsIndex->Ŝ
open Option.some renaming inj->vu,injEq->Zz
open PySem.Heap.SameBut renaming update->wh,refl->Zo
open False renaming elim->Hf
open PySem.NameKind renaming free->L',cell->Pe
open PySem.SetTable renaming grown->Ob,orStandIn->Z3,layClean->Ä,relaid->Ý,laid->ó
open PySem.Builtin.Slice renaming slicePlaces->Pu,sliceAdjust->TJ,sliceApplied->XO,slicePartIndex->ŏ,sliceFields->Ő
open PyProof.Rows.F renaming plain_set_update_loop->PK,entry_set_update_loop->Vs
open PySem.AutoSeq1 renaming wpAny_loadPart'->Q1,idx_int->Ñ
open PySem.Builtin.SmallTypes renaming nextOf->R'
open Int renaming toNat_natCast->Sq,emod_nonneg->Uz,eq_ofNat_of_zero_le->VW,toNat_of_nonneg->XQ,emod_lt_of_pos->Yd,zero_add->ŗ
open List.cons renaming injEq->SV
open PySem.W renaming kas_sort->TB,openGood->Â,nsIn->ï,looks_findIn->ð,kas_ask->Ĺ,Looks->ĺ,subIn->ū,findIn->Ŭ
open PySem.Expr.Name renaming elim->T1
open PySem.Expr.List renaming elim->Ub
open PySem.Expr.Compare renaming elim->Uc
open PySem.Expr.Attribute renaming elim->Vr
open ForInStep renaming yield->Vt
open Classical renaming choose_spec->VE,byContradiction->YE
open Prod renaming ext->VG
open PySem.StrLaws renaming glued_eq_join->VO,strSub_toList->Û
open PySem.SeqAt renaming EqAt->VS,ne_of_list_tuple->ZQ,RcAt->Þ,RcNeAt->ĩ
open PySem.Expr.Constant renaming elim->VV
open True renaming intro->VY
open PySem.Around renaming under_plainId->Wu,under->XZ
open PyProof.Rows.IsTup renaming new->WH
open PySem.Stmt.Return renaming elim->Xi
open PySem.PassesOwn renaming leaving->XA
open PySem.Expr.Tuple renaming elim->XR
open PySem.Code renaming quiet_builtin->XW,frames->Ð,isGuard->ŀ,isFrame->Ł
open PySem.Stmt.Expr renaming elim->Yj
open PySem.F renaming args_str_split_2->Yp,entry_str_split->YJ,slot_str_split->Y2,slot_gs_get->Ç,typeOf_object_class->ê,excBase_ValueError->õ,args_list_extend_2->ö,entry_list_extend->ă,slot_list_extend->ĕ,attr_ValueError->ĝ
open PySem.Stmt.AugAssign renaming elim->YH
open PySem.Expr.Subscript renaming elim->YK
open PySem.Expr.ListComp renaming elim->Y3
open PySem.Stmt.If renaming elim->Zm
open PySem.Expr.UnaryOp renaming elim->Zv
open PySem.Stmt.Assign renaming elim->ZO
open PySem.Expr.BoolOp renaming elim->ZU
open PySem.Stmt.While renaming elim->Ã
open PySem.Moved renaming trans->Å,refl->Ŏ
open PySem.Expr.Slice renaming elim->È
open PySem.Expr.BinOp renaming elim->É
open PySem.Const.bool renaming elim->Ê
open PySem.Expr.Dict renaming elim->à
open PySem.Expr.Call renaming elim->á
open PySem.Const.str renaming elim->â
open PySem.Const.int renaming elim->ã
open PySem.Stmt.For renaming elim->ò
open Iff renaming rfl->Ċ
open PySem.Shared renaming TypeIs->Ē
open PySem.Builtin.Frozenset renaming updateFrom->Ė,newClass->ė
open PySem.ItemsOf renaming nil->Ĝ
open PyProof.Rows.LSm renaming range_all->Ğ,kept_iter->ğ
open PySem.Heap.IsSliceOf renaming new->Ŀ
open PySem.Walks renaming list->ŋ
open PySem.Builtin.Range renaming rangeSize->ő
open List.Pairwise renaming nil->ŕ
open LawfulBEq renaming eq_of_beq->Ŗ
open PySem.W.WData renaming int->ś
open ToString renaming toString->š
open PySem.W.Looks renaming ld->ŭ
open PySem.Heap.DictOf renaming new->Ů
abbrev Ŵ:=@decide_eq_true_eq
abbrev ŵ:=@if_pos
abbrev Ŷ:=@if_neg
abbrev ŷ:=@decide_eq_false
abbrev Ÿ:=@of_decide_eq_true
abbrev Ź:=@decide_eq_true
abbrev ź:=@beq_eq_false_iff_ne
abbrev Ż:=@decide_eq_false_iff_not
abbrev ż:=@congrArg
local macro_rules|`(def $a:declId $b* : $t :=$v)=>`(theorem $a:declId $b* : $t :=$v)
local macro_rules|`(abbrev $a:declId $b:optDeclSig $c:declVal)=>`(noncomputable def $a:declId $b:optDeclSig $c:declVal)
local macro_rules|`(tactic|show $t)=>`(tactic|refine $t)
local macro_rules|`(tactic|have⟨$a⟩:=$t)=>do let p<-`(Lean.Parser.Tactic.rcasesPatLo|$(⟨a⟩):ident);`(tactic|obtain⟨$p⟩:=$t)
local macro_rules|`(tactic|have($a,$b,*):=$t)=>do let g:=fun(x:Lean.Term)=>if x.raw.isIdent then`(Lean.Parser.Tactic.rcasesPatLo|$(⟨x⟩):ident)else`(Lean.Parser.Tactic.rcasesPatLo|_);let p<-(#[a]++b.getElems).mapM fun x=>match x with|`(($c,$d,*))=>do let q<-(#[c]++d.getElems).mapM g;`(Lean.Parser.Tactic.rcasesPatLo|⟨$q,*⟩)|_=>g ⟨x⟩;`(tactic|obtain⟨$p,*⟩:=$t)
local macro_rules|`(⋯)=>`(by first|(simp;done)|lia|decide|(simp;lia)|simp_all)
local macro_rules|`(#[$a,*])=>`(⟨$a,*⟩)
local macro_rules|`(#v[$a,*])=>`(List.toArray [$a,*])
local macro_rules|`(⇑$x)=>`(($x).length)
local macro_rules|`(↥$x)=>`(($x).heap.objs.size)
local macro_rules|`(~~~$x)=>`(($x).cps.toList)
local macro_rules|`(↑$x)=>`(List $x)
local macro_rules|`($x≈$y)=>`($x=some $y)
local macro_rules|`(‹$x›)=>`(f6 (gs ($x).prog ($x).w) ($x).A)
local macro_rules|`(tactic|erw[$a,*]$[$l]?)=>do let b:Array Lean.Term:=a.getElems.map fun r=>⟨r.raw[1]⟩;`(tactic|simp only[$[$b:term],*]$[$l]?)
local macro_rules|`(tactic|exists $x)=>`(tactic|simpa using $x)
def ttt:True:=trivial
local macro_rules|`(∅)=>`(⟨⟨.own,rfl,rfl⟩,trivial⟩)
namespace L2
open PySem PySem.Spec PyProof.Rows
abbrev fT(s:va):Arguments:=match s with
 |.FunctionDef _ a _ _ _ _ _ _ _ _=>a
 |_=>{posonlyargs:=[],args:=[],vararg:=cc,kwonlyargs:=[],kw_defaults:=[],kwarg:=cc,defaults:=[]}
abbrev bP(s:va):↑va:=match s with
 |.FunctionDef _ _ b _ _ _ _ _ _ _=>b
 |_=>[]
abbrev aD(s:va):tP:=match s with
 |.FunctionDef _ _ _ _ _ _ a _ _ _=>a
 |_=>{kind:=.function,names:=[],isGenerator:=cK,isCoroutine:=cK}
end L2
namespace TM
open PySem L2 PyProof.Rows
@[reducible]noncomputable def Gx:=Obj×↑(hH×Obj)
abbrev com(n q:Str)(k l c:Nat)(r s:hH)(x y z:g8)(a b t:Nat):Obj:=#[.type "code",cc,.fields #v[.str n k,.str q (k+1),.str "/claim/cut.py" (k+2),.int l 0,.int c 0,.int 0 0,.int 0 0,.int 3 0,.ref r,.bool b6,.int t 0,.ref s,.none,x,y,z,.int a 0,.int l 0,.str "/claim/cut.py" b],#v[]]
abbrev ge(P:YI)(x:Str)(k:Nat)(v:g8):DictEntry:=#[et P x,.str x k,v]
end TM
namespace K
open PySem L2 TM PySem.W PyProof.Rows
abbrev WK:↑Obj->Nat->BT->Option BT
 |[],_,t=>bD t
 |o::l,n,t=>match ((t.ins n o).get n).isSome with
  |true=>WK l (n+1) (t.ins n o)
  |false=>cc
theorem wQ:∀{l}{n}{t t'}{a},WK l n t≈t'->absHeap t n e=⟨a,e⟩->absHeap t' (n+⇑l) e=⟨a++l,e⟩
 |[],n,t,t',a,h,k=>by
  cases h;exists k
 |o::l,n,t,t',a,h,k=>by
  unfold WK at h;cases g:((t.ins n o).get n).isSome with
  |false=>rw[g]at h;cases h
  |true =>
   rw[g]at h;have z:=wQ (a:=a.push o) h (by rw[absHeap_ins g,k];rfl);rw[k9,show n+(⇑l+1)=n+1+⇑l by lia,z];simp
abbrev rT(p:rS)(w:wk)(m:Nat)(a:Option g8):Nat->SharedT->Thread->Option SharedT
 |0,_,_=>cc
 |n+1,s,t=>match through t with
  |true=>bD s
  |false=>match stepOk m a t with
   |false=>cc
   |true=>match stepT (denote Ye) p w s t with
    |some (b,t')=>rT p w m a n b t'
    |none=>cc
theorem Ge:∀{n}{s b}{t},rT p w m a n s t≈b->topRun Ye p w m a n s.abs t≈b.abs
 |0,_,_,_,h=>by cases h
 |n+1,s,b,t,h=>by
  unfold rT at h;unfold topRun;cases c:through t with
  |true=>rw[c]at h;cases h;rfl
  |false =>
   rw[c]at h;cases hk:stepOk m a t with
   |false=>rw[hk]at h;cases h
   |true =>
    rw[hk]at h;cases hs:stepT (denote Ye) p w s t with
    |none=>rw[hs]at h;cases h
    |some r=>have(d,e):=r;rw[hs]at h;rw[stepT_spec hs];show Ge h
abbrev oT(p:rS)(w:wk)(N:Nat):Option i4:=(fencedOpening Ye p w N).bind λs=>match s.heap.isNs i5&&s.gens.size==0 with
 |true=>(WK s.heap.objs.toList 0 .nil).bind λT=>(rT p w ↥s (s.heap.nsMap i5 "__annotations__") N #[T,↥s,s.heap.life,s.gens,s.drawn,s.toks,s.os] (topStub p)).bind λu=>match staticsOk (Ś p.main.body) s.heap u.abs.heap&&namesBound p u.abs.heap&&gensDone u.abs&&laidKept s.heap u.abs.heap with
  |true=>bD u.abs
  |false=>cc
 |false=>cc
def J8(h:oT p w N≈r):openEnds Ye p w N≈r:=by
 unfold oT at h;have(s,e,h):=ki.mp h;unfold openEnds;rw[e];change topFrom Ye p w N s=_;unfold topFrom;cases g:s.heap.isNs i5&&s.gens.size==0 with
 |false=>rw[g]at h;cases h
 |true =>
  rw[g]at h;have(T,b,h):=ki.mp h;have(u,c,h):=ki.mp h;have z:=wQ (e:=s.heap.life) (a:=#v[]) b rfl;have y:=Ge c;rw[show SharedT.abs #[T,↥s,s.heap.life,s.gens,s.drawn,s.toks,s.os]=s from by
   change Shared.mk (absHeap T ↥s s.heap.life) _ _ _ _=s;rw[show ↥s=0+⇑s.heap.objs.toList by simp,z];simp]at y
  change Option.bind _ _=_;rw[y];show h
abbrev top(i:Nat):va:=if i<1000 then PySem.Challenge.pw_primer_k71_deeds_at_the_desk.main.body.getD i (.Pass #[0,0,0,0]) else match PySem.Challenge.pw_primer_k71_deeds_at_the_desk.main.body.getD (i / 1000 - 1) (.Pass #[0,0,0,0]) with|.ClassDef _ _ _ b _ _ _ _ _ _ _=>b.getD (i % 1000) (.Pass #[0,0,0,0])|_=>.Pass #[0,0,0,0]
abbrev m0:g8:=.str "primer.words" 342
abbrev m1:g8:=.str "primer.books" 385
abbrev m2:g8:=.str "primer.learning" 445
abbrev m3:g8:=.str "primer.reader" 668
abbrev m4:g8:=.str "primer.shelf" 702
abbrev m5:g8:=.str "primer.writer" 810
abbrev m6:g8:=.str "primer.desk" 825
abbrev m7:g8:=.str "law_primer_k71_deeds_at_the_desk" 938
structure Mz where
 x:Str
 y:Str
 i:Nat
 N:↑Str
 a:hH
 c:hH
 m:g8
 cr:Obj
abbrev z2(x y:Str)(i:Nat)(N:↑Str)(a c:hH)(m:g8)(k l e:Nat)(r s:hH)(u v w:g8)(d b t:Nat):Mz:=#[x,y,i,N,a,c,m,com x y k l e r s u v w d b t]
abbrev z1(x:Str)(i:Nat)(N:↑Str)(a c:hH)(m:g8)(k l e:Nat)(r s:hH)(u v w:g8)(d b t:Nat):Mz:=z2 x x i N a c m k l e r s u v w d b t
abbrev zl:Mz:=z1 "law" 108 ["_law_script","_law_drawn_here","_law_names_here","_law_desk","_law_rows","_law_past","_law_k","_law_way","_law_row","_law_behind_here","_law_due","_law_line","_law_turn_here"] 670 669 m7 1060 500 1 664 665 (.ref 666) (.ref 667) (.ref 668) 1076 1077 181
abbrev zs:↑Mz:=[z1 "is_stem" 16 ["text"] 135 134 m0 352 28 1 131 132 .none .none (.ref 133) 355 356 181,
 z1 "is_later_sense" 17 ["text"] 140 139 m0 358 32 1 136 137 .none .none (.ref 138) 361 362 181,
 z1 "is_word" 18 ["text"] 147 146 m0 364 34 1 141 142 (.ref 143) (.ref 144) (.ref 145) 368 369 181,
 z1 "stem_of" 19 ["word"] 154 153 m0 371 38 1 148 149 (.ref 150) (.ref 151) (.ref 152) 375 376 181,
 z1 "number_of" 20 ["word"] 161 160 m0 378 40 1 155 156 (.ref 157) (.ref 158) (.ref 159) 382 383 181,
 z1 "is_row" 24 ["row","told"] 166 165 m1 391 45 1 162 163 .none .none (.ref 164) 394 395 181,
 z1 "in_one_order" 25 ["row"] 173 172 m1 397 50 1 167 168 (.ref 169) (.ref 170) (.ref 171) 401 402 181,
 z1 "alike" 26 ["row","other"] 180 179 m1 404 52 2 174 175 (.ref 176) (.ref 177) (.ref 178) 409 410 181,
 z1 "gathered" 29 ["pairs","found","key","value"] 199 198 m1 427 62 1 193 194 (.ref 195) (.ref 196) (.ref 197) 434 435 181,
 z1 "places_that_tell" 32 ["book","pairs","place","row"] 211 210 m2 447 73 1 207 208 .none .none (.ref 209) 450 451 181,
 z1 "new_steps" 33 ["book","places","known","steps","place","word"] 218 217 m2 453 78 3 212 213 (.ref 214) (.ref 215) (.ref 216) 462 463 181,
 z1 "steps_in_rounds" 34 ["book","tellers","missing","known","found","ready","steps","word","place","teller"] 223 222 m2 465 85 1 219 220 .none .none (.ref 221) 468 469 181,
 z1 "order" 36 ["book","found","steps"] 235 234 m2 477 108 1 229 230 (.ref 231) (.ref 232) (.ref 233) 483 484 181,
 z1 "learnt" 37 ["book"] 240 239 m2 486 113 1 236 237 .none .none (.ref 238) 489 490 181,
 z1 "read_row" 69 ["line","parts"] 377 376 m3 672 232 1 371 372 (.ref 373) (.ref 374) (.ref 375) 677 678 181,
 z1 "read_told" 70 ["parts"] 382 381 m3 680 237 1 378 379 .none .none (.ref 380) 683 684 181,
 z1 "places_alike" 75 ["book","row"] 394 393 m4 704 259 2 390 391 .none .none (.ref 392) 707 708 181,
 z1 "gained_and_lost" 76 ["ahead","behind","known","known_then","gained","lost"] 399 398 m4 710 261 2 395 396 .none .none (.ref 397) 713 714 181,
 z2 "__init__" "Shelf.__init__" 78000 ["self"] 413 412 m4 728 269 1 407 408 (.ref 409) (.ref 410) (.ref 411) 732 733 181,
 z2 "book" "Shelf.book" 78001 ["self"] 420 419 m4 735 273 1 414 415 (.ref 416) (.ref 417) (.ref 418) 739 740 181,
 z2 "put" "Shelf.put" 78004 ["self","word","told","row"] 441 440 m4 756 282 3 435 436 (.ref 437) (.ref 438) (.ref 439) 763 764 181,
 z2 "take" "Shelf.take" 78005 ["self","word","told","places"] 448 447 m4 766 290 3 442 443 (.ref 444) (.ref 445) (.ref 446) 773 774 181,
 z2 "back" "Shelf.back" 78006 ["self"] 455 454 m4 776 296 1 449 450 (.ref 451) (.ref 452) (.ref 453) 780 781 181,
 z2 "do_deed" "Shelf.do_deed" 78007 ["self","rows"] 462 461 m4 783 301 2 456 457 (.ref 458) (.ref 459) (.ref 460) 788 789 181,
 z2 "turn_to" "Shelf.turn_to" 78008 ["self","rows","changes"] 469 468 m4 791 305 2 463 464 (.ref 465) (.ref 466) (.ref 467) 797 798 181,
 z1 "shown" 79 ["book"] 481 480 m5 812 310 1 477 478 .none .none (.ref 479) 815 816 181,
 z1 "shown_told" 80 ["told"] 488 487 m5 818 312 1 482 483 (.ref 484) (.ref 485) (.ref 486) 822 823 181,
 z1 "listed" 83 ["words"] 496 495 m6 835 318 1 490 491 (.ref 492) (.ref 493) (.ref 494) 839 840 181,
 z1 "shown_changes" 84 ["changes"] 503 502 m6 842 322 1 497 498 (.ref 499) (.ref 500) (.ref 501) 846 847 181,
 z1 "answer_at_large" 90 ["book","question"] 539 538 m6 884 354 2 533 534 (.ref 535) (.ref 536) (.ref 537) 889 890 181,
 z2 "__init__" "Desk.__init__" 92000 ["self"] 553 552 m6 904 366 1 547 548 (.ref 549) (.ref 550) (.ref 551) 908 909 181,
 z2 "say" "Desk.say" 92001 ["self","text","parts"] 560 559 m6 911 369 2 554 555 (.ref 556) (.ref 557) (.ref 558) 917 918 181,
 z2 "say_deed" "Desk.say_deed" 92002 ["self","deed","row"] 567 566 m6 920 381 3 561 562 (.ref 563) (.ref 564) (.ref 565) 926 927 181,
 z1 "_law_mix" 93 ["_law_cell_here","_law_k","_law_by"] 581 580 m7 940 386 2 575 576 (.ref 577) (.ref 578) (.ref 579) 946 947 181,
 z1 "_law_cell" 94 ["_law_script","_law_k","_law_seed"] 588 587 m7 949 389 2 582 583 (.ref 584) (.ref 585) (.ref 586) 955 956 181,
 z1 "_law_drawn" 95 ["_law_cell_here","_law_many","_law_found","_law_left","_law_k"] 595 594 m7 958 396 2 589 590 (.ref 591) (.ref 592) (.ref 593) 966 967 181,
 z1 "_law_name" 96 ["_law_drawn_here","_law_names_here","_law_letters","_law_name_here","_law_stem","_law_spare"] 600 599 m7 969 406 2 596 597 .none .none (.ref 598) 972 973 181,
 z1 "_law_names" 97 ["_law_script","_law_base","_law_many","_law_names_here","_law_k"] 607 606 m7 975 417 3 601 602 (.ref 603) (.ref 604) (.ref 605) 983 984 181,
 z1 "_law_told" 98 ["_law_drawn_here","_law_names_here","_law_top","_law_told_here","_law_k","_law_one"] 614 613 m7 986 422 2 608 609 (.ref 610) (.ref 611) (.ref 612) 995 996 181,
 z1 "_law_learnt" 99 ["_law_rows","_law_known","_law_grown","_law_word","_law_told_here"] 619 618 m7 998 432 1 615 616 .none .none (.ref 617) 1001 1002 181,
 z1 "_law_there" 100 ["_law_rows","_law_row"] 624 623 m7 1004 442 2 620 621 .none .none (.ref 622) 1007 1008 181,
 z1 "_law_text" 101 ["_law_row"] 631 630 m7 1010 444 1 625 626 (.ref 627) (.ref 628) (.ref 629) 1014 1015 181,
 z1 "_law_turn" 102 ["_law_ahead","_law_behind_here","_law_gained","_law_lost"] 636 635 m7 1017 448 2 632 633 .none .none (.ref 634) 1020 1021 181,
 z1 "_law_deed" 103 ["_law_drawn_here","_law_names_here","_law_rows","_law_row","_law_kind","_law_there_here","_law_cut"] 643 642 m7 1023 452 3 637 638 (.ref 639) (.ref 640) (.ref 641) 1033 1034 181,
 z1 "_law_behind" 104 ["_law_way","_law_row","_law_rows","_law_past","_law_there_here"] 648 647 m7 1036 466 4 644 645 .none .none (.ref 646) 1039 1040 181,
 z1 "_law_said" 105 ["_law_desk","_law_line","_law_told_here","e","_law_some"] 653 652 m7 1042 479 2 649 650 .none .none (.ref 651) 1045 1046 181,
 z1 "_law_right" 106 ["_law_desk","_law_rows","_law_known","_law_line"] 658 657 m7 1048 490 2 654 655 .none .none (.ref 656) 1051 1052 181,
 z1 "_law_own_words" 107 ["_law_names_here","_law_number","_law_own"] 663 662 m7 1054 496 2 659 660 .none .none (.ref 661) 1057 1058 181,
 zl]
abbrev fz(m:Mz):Obj:=#[.type "function",cc,.func (W.fnOf m.x m.y (fT (top m.i)) (bP (top m.i)) (aD (top m.i)) .none .none .none m.m cc (.ref m.c) .none),#v[]]
abbrev fZ(g:Gx):W.Frag:=(3,g.1)::(zs.flatMap (λm=>[(m.c,m.cr),(m.a,fz m)])++g.2)
abbrev gg(P:YI):Obj:=#[.type "dict",cc,.dict #v[ge P "__name__" 165 (.str "law_primer_k71_deeds_at_the_desk" 938),ge P "__doc__" 166 .none,ge P "__package__" 167 .none,ge P "__loader__" 168 (.builtin "__main__.__loader__#opaque"),ge P "__spec__" 169 .none,ge P "__annotations__" 170 (.ref 6),ge P "__builtins__" 171 (.ref 4),ge P "__file__" 173 (.str "/claim/cut.py" 172),ge P "__cached__" 174 .none,ge P "_wall" 193 (.ref 21),ge P "PrimerError" 213 (.ref 31),ge P "NoText" 229 (.ref 44),ge P "Unfit" 245 (.ref 56),ge P "Unknown" 261 (.ref 68),ge P "Unlearnt" 277 (.ref 80),ge P "TooMany" 293 (.ref 92),ge P "Lacking" 309 (.ref 104),ge P "NoRow" 325 (.ref 116),ge P "NoDeed" 341 (.ref 128),ge P "LETTERS" 345 (.str "abcdefghijklmnopqrstuvwxyz" 344),ge P "LONGEST_STEM" 347 (.int 8 346),ge P "FIRST_SENSE" 349 (.int 1 348),ge P "LAST_SENSE" 351 (.int 99 350),ge P "is_stem" 357 (.ref 135),ge P "is_later_sense" 363 (.ref 140),ge P "is_word" 370 (.ref 147),ge P "stem_of" 377 (.ref 154),ge P "number_of" 384 (.ref 161),ge P "MOST_TOLD" 388 (.int 8 387),ge P "MOST_ROWS" 390 (.int 60 389),ge P "is_row" 396 (.ref 166),ge P "in_one_order" 403 (.ref 173),ge P "alike" 411 (.ref 180),ge P "words_of" 420 (.ref 187),ge P "lacking" 426 (.ref 192),ge P "gathered" 436 (.ref 199),ge P "refuse_unknown" 444 (.ref 206),ge P "places_that_tell" 452 (.ref 211),ge P "new_steps" 464 (.ref 218),ge P "steps_in_rounds" 470 (.ref 223),ge P "rounds" 476 (.ref 228),ge P "order" 485 (.ref 235),ge P "learnt" 491 (.ref 240),ge P "not_learnt" 498 (.ref 247),ge P "refuse_unlearnt" 506 (.ref 254),ge P "knot" 514 (.ref 259),ge P "with_pictures" 522 (.ref 264),ge P "suffice" 530 (.ref 271),ge P "MOST_NOT_LEARNT" 534 (.int 5 533),ge P "choices" 546 (.ref 278),ge P "fewest_words" 552 (.ref 283),ge P "paper" 558 (.ref 288),ge P "fewest" 567 (.ref 295),ge P "pairs_of" 575 (.ref 300),ge P "words_told_of" 582 (.ref 307),ge P "words_that_tell" 588 (.ref 312),ge P "reached" 599 (.ref 319),ge P "under" 607 (.ref 326),ge P "over" 615 (.ref 333),ge P "without" 623 (.ref 338),ge P "order_up_to" 635 (.ref 345),ge P "musts" 641 (.ref 350),ge P "row_price" 649 (.ref 355),ge P "prices_and_places" 655 (.ref 360),ge P "prices" 661 (.ref 365),ge P "best_rows" 667 (.ref 370),ge P "PICTURE_SIGN" 671 (.str "*" 670),ge P "read_row" 679 (.ref 377),ge P "read_told" 685 (.ref 382),ge P "DEAREST_READ" 689 (.int 2000 688),ge P "reading" 701 (.ref 389),ge P "places_alike" 709 (.ref 394),ge P "gained_and_lost" 715 (.ref 399),ge P "Shelf" 809 (.ref 472),ge P "shown" 817 (.ref 481),ge P "shown_told" 824 (.ref 488),ge P "WORD_QUESTIONS" 834 (.ref 489),ge P "listed" 841 (.ref 496),ge P "shown_changes" 848 (.ref 503),ge P "round_of" 854 (.ref 508),ge P "price_of" 862 (.ref 515),ge P "words_read" 868 (.ref 520),ge P "reason" 874 (.ref 525),ge P "answer_about" 883 (.ref 532),ge P "answer_at_large" 891 (.ref 539),ge P "Desk" 937 (.ref 570),ge P "_law_mix" 948 (.ref 581),ge P "_law_cell" 957 (.ref 588),ge P "_law_drawn" 968 (.ref 595),ge P "_law_name" 974 (.ref 600),ge P "_law_names" 985 (.ref 607),ge P "_law_told" 997 (.ref 614),ge P "_law_learnt" 1003 (.ref 619),ge P "_law_there" 1009 (.ref 624),ge P "_law_text" 1016 (.ref 631),ge P "_law_turn" 1022 (.ref 636),ge P "_law_deed" 1035 (.ref 643),ge P "_law_behind" 1041 (.ref 648),ge P "_law_said" 1047 (.ref 653),ge P "_law_right" 1053 (.ref 658),ge P "_law_own_words" 1059 (.ref 663),ge P "law" 1078 (.ref 670)] 102,#v[]]
abbrev xk(a:hH)(n:Str)(b r:hH)(t u:Tok):Obj:={cls:=.type "type",data:=.cls {name:=n,bases:=[.ref b],mro:=[.ref a,.ref b,.type "ValueError",.type "Exception",.type "BaseException",.type "object"],ns:=a - 1,qualname:=n},slots:=#v[bD (.ref r),cc,bD (.str n t),bD (.str n u),bD (.builtin "ValueError.__new__"),bD (.bool b6)]}
abbrev xo(P:YI):↑(hH×Obj):=[(570,({cls:=.type "type",data:=.cls {name:="Desk",bases:=[.type "object"],mro:=[.ref 570,.type "object"],ns:=569,qualname:="Desk" },slots:=#v[cc,cc,bD (.str "Desk" 892),bD (.str "Desk" 900),bD (.builtin "object.__new__"),bD (.bool b6)]}:Obj)),
 (104,xk 104 "Lacking" 31 95 294 302),
 (128,xk 128 "NoDeed" 31 119 326 334),
 (116,xk 116 "NoRow" 31 107 310 318),
 (44,xk 44 "NoText" 31 35 214 222),
 (31,({cls:=.type "type",data:=.cls {name:="PrimerError",bases:=[.type "ValueError"],mro:=[.ref 31,.type "ValueError",.type "Exception",.type "BaseException",.type "object"],ns:=30,qualname:="PrimerError",subclasses:=[.ref 44,.ref 56,.ref 68,.ref 80,.ref 92,.ref 104,.ref 116,.ref 128]},slots:=#v[bD (.ref 22),cc,bD (.str "PrimerError" 196),bD (.str "PrimerError" 204),bD (.builtin "ValueError.__new__"),bD (.bool b6)]}:Obj)),
 (472,({cls:=.type "type",data:=.cls {name:="Shelf",bases:=[.type "object"],mro:=[.ref 472,.type "object"],ns:=471,qualname:="Shelf" },slots:=#v[cc,cc,bD (.str "Shelf" 716),bD (.str "Shelf" 724),bD (.builtin "object.__new__"),bD (.bool b6)]}:Obj)),
 (92,xk 92 "TooMany" 31 83 278 286),
 (56,xk 56 "Unfit" 31 47 230 238),
 (68,xk 68 "Unknown" 31 59 246 254),
 (80,xk 80 "Unlearnt" 31 71 262 270),
 (569,({cls:=.type "dict",data:=.dict #v[{hash:=et P "__module__",key:=.str "__module__" 899,val:=.str "primer.desk" 825},{hash:=et P "__firstlineno__",key:=.str "__firstlineno__" 903,val:=.int 364 902},{hash:=et P "__init__",key:=.str "__init__" 910,val:=.ref 553},{hash:=et P "say",key:=.str "say" 919,val:=.ref 560},{hash:=et P "say_deed",key:=.str "say_deed" 928,val:=.ref 567},{hash:=et P "__static_attributes__",key:=.str "__static_attributes__" 930,val:=.ref 568},{hash:=et P "__dict__",key:=.str "__dict__" 932,val:=.ref 571},{hash:=et P "__weakref__",key:=.str "__weakref__" 934,val:=.ref 572},{hash:=et P "__doc__",key:=.str "__doc__" 935,val:=.none}] 4}:Obj)),
 (103,({cls:=.type "dict",data:=.dict #v[{hash:=et P "__module__",key:=.str "__module__" 301,val:=.str "primer.errors" 194},{hash:=et P "__firstlineno__",key:=.str "__firstlineno__" 305,val:=.int 17 304},{hash:=et P "__static_attributes__",key:=.str "__static_attributes__" 306,val:=.ref 102},{hash:=et P "__doc__",key:=.str "__doc__" 307,val:=.none}] 2}:Obj)),
 (127,({cls:=.type "dict",data:=.dict #v[{hash:=et P "__module__",key:=.str "__module__" 333,val:=.str "primer.errors" 194},{hash:=et P "__firstlineno__",key:=.str "__firstlineno__" 337,val:=.int 21 336},{hash:=et P "__static_attributes__",key:=.str "__static_attributes__" 338,val:=.ref 126},{hash:=et P "__doc__",key:=.str "__doc__" 339,val:=.none}] 2}:Obj)),
 (115,({cls:=.type "dict",data:=.dict #v[{hash:=et P "__module__",key:=.str "__module__" 317,val:=.str "primer.errors" 194},{hash:=et P "__firstlineno__",key:=.str "__firstlineno__" 321,val:=.int 19 320},{hash:=et P "__static_attributes__",key:=.str "__static_attributes__" 322,val:=.ref 114},{hash:=et P "__doc__",key:=.str "__doc__" 323,val:=.none}] 2}:Obj)),
 (43,({cls:=.type "dict",data:=.dict #v[{hash:=et P "__module__",key:=.str "__module__" 221,val:=.str "primer.errors" 194},{hash:=et P "__firstlineno__",key:=.str "__firstlineno__" 225,val:=.int 7 224},{hash:=et P "__static_attributes__",key:=.str "__static_attributes__" 226,val:=.ref 42},{hash:=et P "__doc__",key:=.str "__doc__" 227,val:=.none}] 2}:Obj)),
 (30,({cls:=.type "dict",data:=.dict #v[{hash:=et P "__module__",key:=.str "__module__" 203,val:=.str "primer.errors" 194},{hash:=et P "__firstlineno__",key:=.str "__firstlineno__" 207,val:=.int 5 206},{hash:=et P "__static_attributes__",key:=.str "__static_attributes__" 208,val:=.ref 29},{hash:=et P "__weakref__",key:=.str "__weakref__" 210,val:=.ref 32},{hash:=et P "__doc__",key:=.str "__doc__" 211,val:=.none}] 3}:Obj)),
 (471,({cls:=.type "dict",data:=.dict #v[{hash:=et P "__module__",key:=.str "__module__" 723,val:=.str "primer.shelf" 702},{hash:=et P "__firstlineno__",key:=.str "__firstlineno__" 727,val:=.int 267 726},{hash:=et P "__init__",key:=.str "__init__" 734,val:=.ref 413},{hash:=et P "book",key:=.str "book" 741,val:=.ref 420},{hash:=et P "learnt_now",key:=.str "learnt_now" 748,val:=.ref 427},{hash:=et P "deeds",key:=.str "deeds" 755,val:=.ref 434},{hash:=et P "put",key:=.str "put" 765,val:=.ref 441},{hash:=et P "take",key:=.str "take" 775,val:=.ref 448},{hash:=et P "back",key:=.str "back" 782,val:=.ref 455},{hash:=et P "do_deed",key:=.str "do_deed" 790,val:=.ref 462},{hash:=et P "turn_to",key:=.str "turn_to" 799,val:=.ref 469},{hash:=et P "__static_attributes__",key:=.str "__static_attributes__" 802,val:=.ref 470},{hash:=et P "__dict__",key:=.str "__dict__" 804,val:=.ref 473},{hash:=et P "__weakref__",key:=.str "__weakref__" 806,val:=.ref 474},{hash:=et P "__doc__",key:=.str "__doc__" 807,val:=.none}] 4}:Obj)),
 (91,({cls:=.type "dict",data:=.dict #v[{hash:=et P "__module__",key:=.str "__module__" 285,val:=.str "primer.errors" 194},{hash:=et P "__firstlineno__",key:=.str "__firstlineno__" 289,val:=.int 15 288},{hash:=et P "__static_attributes__",key:=.str "__static_attributes__" 290,val:=.ref 90},{hash:=et P "__doc__",key:=.str "__doc__" 291,val:=.none}] 2}:Obj)),
 (55,({cls:=.type "dict",data:=.dict #v[{hash:=et P "__module__",key:=.str "__module__" 237,val:=.str "primer.errors" 194},{hash:=et P "__firstlineno__",key:=.str "__firstlineno__" 241,val:=.int 9 240},{hash:=et P "__static_attributes__",key:=.str "__static_attributes__" 242,val:=.ref 54},{hash:=et P "__doc__",key:=.str "__doc__" 243,val:=.none}] 2}:Obj)),
 (67,({cls:=.type "dict",data:=.dict #v[{hash:=et P "__module__",key:=.str "__module__" 253,val:=.str "primer.errors" 194},{hash:=et P "__firstlineno__",key:=.str "__firstlineno__" 257,val:=.int 11 256},{hash:=et P "__static_attributes__",key:=.str "__static_attributes__" 258,val:=.ref 66},{hash:=et P "__doc__",key:=.str "__doc__" 259,val:=.none}] 2}:Obj)),
 (79,({cls:=.type "dict",data:=.dict #v[{hash:=et P "__module__",key:=.str "__module__" 269,val:=.str "primer.errors" 194},{hash:=et P "__firstlineno__",key:=.str "__firstlineno__" 273,val:=.int 13 272},{hash:=et P "__static_attributes__",key:=.str "__static_attributes__" 274,val:=.ref 78},{hash:=et P "__doc__",key:=.str "__doc__" 275,val:=.none}] 2}:Obj))]
abbrev gx(P:YI):Gx:=(gg P,xo P)
abbrev xa:↑hH:=[570,104,128,116,44,31,472,92,56,68,80,569,103,127,115,43,30,471,91,55,67,79]
abbrev aZ:↑hH:=3::(zs.flatMap (λm=>[m.c,m.a])++xa)
abbrev vw:rS:=view PySem.Challenge.pw_primer_k71_deeds_at_the_desk [16,17,18,19,20,24,25,26,29,32,33,34,36,37,69,70,75,76,78000,78001,78004,78005,78006,78007,78008,79,80,83,84,90,92000,92001,92002,93,94,95,96,97,98,99,100,101,102,103,104,105,106,107,108]
abbrev TC:↑Str:=(["_wall","PrimerError","NoText","Unfit","Unknown","Unlearnt","TooMany","Lacking","NoRow","NoDeed","LETTERS","LONGEST_STEM","FIRST_SENSE","LAST_SENSE","MOST_TOLD","MOST_ROWS","words_of","lacking","refuse_unknown","rounds","not_learnt","refuse_unlearnt","knot","with_pictures","suffice","MOST_NOT_LEARNT","choices","fewest_words","paper","fewest"]:↑Str)++(["pairs_of","words_told_of","words_that_tell","reached","under","over","without","order_up_to","musts","row_price","prices_and_places","prices","best_rows","PICTURE_SIGN","DEAREST_READ","reading","Shelf","WORD_QUESTIONS","round_of","price_of","words_read","reason","answer_about","Desk"]:↑Str)
noncomputable abbrev xt(s:i4):Bool:=xlAt vw [] s&&recOk (RowW.records PySem.Challenge.rw_primer_k71_deeds_at_the_desk.row.toRowW) s
noncomputable abbrev oe(w:wk):Option i4:=oT PySem.Challenge.rw_primer_k71_deeds_at_the_desk.row.prog w 5000
noncomputable abbrev os(s:i4):=openSeen vw TC (Ś PySem.Challenge.rw_primer_k71_deeds_at_the_desk.row.prog.main.body) xt b6 s
noncomputable abbrev qF{α β:Type}(x:α×β):α:=Prod.rec (motive:=λ_=>α) (λa _=>a) x
noncomputable abbrev qS{α β:Type}(x:α×β):β:=Prod.rec (motive:=λ_=>β) (λ_ a=>a) x
def hs:PySem.Challenge.rw_primer_k71_deeds_at_the_desk.wellSaid=b6:=by kernel_rfl
def QX(w):(oe w).map (λs=>qF (os s))≈(Â vw TC).1:=by kernel_rfl
def Qy(w):(oe w).map (λs=>qF (qS (qS (os s))))≈(Â vw TC).2.2.1:=by kernel_rfl
def hl4(w):(oe w).map (λs=>qF (qS (qS (qS (os s)))))≈(Â vw TC).2.2.2.1:=by kernel_rfl
def UK(w):(oe w).map (λs=>(qF (qS (os s)),qS (qS (qS (qS (os s)))),aZ.map s.heap.get?))≈((Â vw TC).2.1,(Â vw TC).2.2.2.2,(fZ (gx w.params)).map λp=>bD p.2):=by kernel_rfl
end K
namespace L2
open PySem PySem.Spec PyProof.Rows
@[reducible]noncomputable def Key:=Sum Int Str
abbrev mK:Key->g8->Bool
 |.inl k,v=>Ļ k v
 |.inr x,v=>XI x v
abbrev MA(w:wk):Key->Int
 |.inl k=>hashInt k
 |.inr x=>hashStr w x
theorem bJ:∀{k}{v},mK k v=b6->(∃i t,k=Z7 i/\v=ñ i t)\/(∃x t,k=nC x/\v=y6 x t)
 |.inl i,v,h=>by
  have(t,e):=Value.isInt_shape   h;show .inl #[i,t,rfl,e]
 |.inr x,v,h=>by
  have(t,e):=Ï   h;show .inr #[x,t,rfl,e]
def ym(i)(t):mK (.inl i) (.int i t)=b6:=by simp[mK,Ļ]
def yn(x)(t):mK (.inr x) (.str x t)=b6:=by simp[mK,XI]
def G8(a b):df ((Z7 a:Key)=Z7 b)=(a==b):=by
 grind
def G9(a b):df ((nC a:Key)=nC b)=df (a=b):=by
 simp
def G_(a)(b):df ((Z7 a:Key)=nC b)=cK:=ŷ (λq=>nomatch q)
def Ha(a)(b):df ((nC a:Key)=Z7 b)=cK:=ŷ (λq=>nomatch q)
abbrev bA(prog:rS)(w:wk):PySem.KeyKind prog w Key where
 is:=mK
 hash:=MA w
 inj:=λv a b g f=>by
  rcases bJ g with⟨i,t,rfl,rfl⟩|⟨x,t,rfl,rfl⟩
  .rcases bJ f with⟨j,u,rfl,e⟩|⟨y,u,rfl,e⟩
   .injection e with c _;rw[c]
   .show nomatch e
  .rcases bJ f with⟨j,u,rfl,e⟩|⟨y,u,rfl,e⟩
   .show nomatch e
   .injection e with c _;rw[c]
 byValue:=λk v h=>by
  rcases bJ h with⟨i,t,rfl,rfl⟩|⟨x,t,rfl,rfl⟩<;>rfl
 pyHash:=λd h=>by
  rcases bJ d with⟨i,t,rfl,rfl⟩|⟨x,t,rfl,rfl⟩
  .show wpAny_pyHash_int h
  .show wpAny_pyHash_str h
 eqBool:=λl d h=>by
  rcases bJ l with⟨i,t,rfl,rfl⟩|⟨x,t,rfl,rfl⟩
  .rcases bJ d with⟨j,u,rfl,rfl⟩|⟨y,u,rfl,rfl⟩
   .rw[G8]at h;show Ņ h
   .rw[G_]at h;show SeqAt.EqAt.int_str i t y u _ _ _ _ h
  .rcases bJ d with⟨j,u,rfl,rfl⟩|⟨y,u,rfl,rfl⟩
   .rw[Ha]at h;show SeqAt.EqAt.str_int x t j u _ _ _ _ h
   .rw[G9]at h;show ń h
 «strs»:=λk x t v h=>by
  rcases bJ h with⟨i,u,rfl,e⟩|⟨y,u,rfl,e⟩
  .show nomatch e
  .injection e with c _
   subst c;cases v<;>rfl
def rY(prog)(w)(i)(t):(bA prog w).is (.inl i) (.int i t)=b6:=ym i t
def rZ(prog)(w)(x)(t):(bA prog w).is (.inr x) (.str x t)=b6:=yn x t
inductive V where
 |Nz|bl (b:Bool)|int (i:Int)|str (x:Str)|Rb (b:Array UInt8)|Vp (b:UInt64)|ref (a:hH)|ty (n:String)
 deriving DecidableEq
def RelV:V->g8->Prop
 |.Nz,u=>u=oD
 |.bl b,u=>u=UC b
 |.int i,u=>∃t,u=ñ i t
 |.str x,u=>∃t,u=y6 x t
 |.Rb b,u=>∃t,u=Ľ b t
 |.Vp b,u=>∃t,u=ļ b t
 |.ref a,u=>u=ku a
 |.ty n,u=>u=Rz n
@[reducible]noncomputable def Vals:↑V->↑g8->Prop:=Paired RelV
def Vals.length(r:Vals xs us):⇑xs=⇑us:=Paired.length r
theorem Vals.get:∀{xs}{us}{i:Nat}{x},Vals xs us->xs[i]?≈x->∃u,us[i]?≈u/\RelV x u
 |_,_,_,_,.nil,e=>by simp at e
 |_,_,0,_,.cons r _,e=>by simp at e;subst e;show#[_,rfl,r]
 |_,_,i+1,x,.cons _ t,e=>by
  have(u,b,a):=Vals.get   t (by exists e);show#[u,by assumption,a]
theorem Vals.set(r:RelV x u):∀{xs}{us} i,Vals xs us->Vals (xs.set i x) (us.set i u)
 |_,_,_,.nil=>.nil
 |_,_,0,.cons _ t=>.cons r t
 |_,_,i+1,.cons q t=>.cons q (Vals.set r i t)
theorem Vals.append:∀{xs ys}{us ws},Vals xs us->Vals ys ws->Vals (xs++ys) (us++ws)
 |_,_,_,_,.nil,s=>s
 |_,_,_,_,.cons r t,s=>.cons r (Vals.append t s)
theorem Vals.take:∀{xs}{us} n,Vals xs us->Vals (xs.take n) (us.take n)
 |_,_,0,_=>.nil
 |_,_,_+1,.nil=>.nil
 |_,_,n+1,.cons r t=>.cons r (Vals.take n t)
theorem Vals.drop:∀{xs}{us} n,Vals xs us->Vals (xs.drop n) (us.drop n)
 |_,_,0,r=>r
 |_,_,_+1,.nil=>.nil
 |_,_,n+1,.cons _ t=>Vals.drop n t
def gK:Option V->Option g8->Prop
 |some v,bD u=>RelV v u
 |none,cc=>True
 |_,_=>False
abbrev KV{κ:Type}:↑(κ×V)->↑(κ×g8)->Prop:=Paired λ(p:κ×V) (q:κ×g8)=>p.1=q.1/\RelV p.2 q.2
abbrev kV:Key->V
 |.inl i=>.int i
 |.inr x=>.str x
inductive HO where
 |lst (xs:↑V)
 |tup (xs:↑V)
 |dK (kvs:↑(Key×V))|dT (kvs:↑(↑Key×V))
 |set (S:Int->Bool) (n:Nat)
 |ins (C dx:hH) (fs:↑(Str×V))
 |own (x:hH)
 |xd (fs:↑(Str×V))
 |met (f x:hH)
 |WM (lo hi:Int)
 |Pf (o:Obj) (u:HO)
 |SQ (ps:Array g8)
 |ext (φ:K2->Prop)
@[reducible]noncomputable def Hp:=hH->Option HO
abbrev upd(H:Hp)(a:hH)(o:HO):Hp:=λb=>if b=a then bD o else H b
def aj:upd H a o a≈o:=by unfold upd;simp
def ai(h:b≠a):upd H a o b=H b:=by unfold upd;rw[Ŷ h]
def J9{H:Hp}(h:H a≈o)(h':H b≈u)(d:o≠u):a≠b:=by
 intro e;simp_all
def av{H:Hp}(h:H a≈o)(h':H b=cc):a≠b:=by
 grind
section
variable(P:rS)(w:wk)
def cF(H:Hp)(h:K2)(a:hH):HO->Prop
 |.lst xs=>⇑xs<=c8/\∃(c:↑g8) (n:Nat),Vals xs c/\h.get? a≈{cls:=.type "list",data:=.seq c.toArray n}
 |.tup xs=>⇑xs<=c8/\∃c:↑g8,Vals xs c/\Yt h a c.toArray
 |.dK kvs=>⇑kvs<=c8/\(a==P')=cK/\∃vs,KV kvs vs/\h.DictOf (bA P w) a vs
 |.dT kvs=>⇑kvs<=c8/\(a==P')=cK/\∃xs:↑(↑Key×hH×g8),
   Paired (λ(p:↑Key×V) (q:↑Key×hH×g8)=>p.1=q.1/\H q.2.1≈.tup (p.1.map kV)/\RelV p.2 q.2.2) kvs xs /\
   ∃o es ep,h.get? a≈o/\o.ExactDict/\o.data=.dict es ep/\es.toList=xs.map (entryOfKey (Zh (bA P w)))/\(xs.map (·.1)).Nodup
 |.set S n=>h.SetOf (intKind P w) a S n
 |.ins C e d=>H e≈.own a/\⇑d<=1000/\e≠a/\h.get? a≈W.instObj C e /\
   ∃b,h.Ns1 e b/\(∀f,gK (d.lookup f) (b f))/\PySem.Within b (d.map (·.1))
 |.own _=>∃o,h.get? a≈o
 |.xd d=>∃b,h.Ns1 a b/\∀f,gK (d.lookup f) (b f)
 |.WM lo hi=>∃t u v,h.get? a≈{cls:=.type "range",data:=.fields #v[.int lo t,.int hi u,.int 1 v]}
 |.Pf o u=>h.get? a≈o/\cF H h a u
 |.SQ ps=>h.get? a≈{cls:=.none,data:=.fields ps}
 |.met f x=>h.get? a≈W.methodObj (.ref f) (.ref x)
 |.ext φ=>φ h/\(∃o,h.get? a≈o)/\∀g i:K2,φ g->(∀o,g.get? a≈o->i.get? a≈o)->φ i
abbrev OJ(H:Hp)(h:K2):Prop:=∀a o,H a≈o->cF P w H h a o
end
def cF.lt(x:cF P w H h a o):a<h.objs.size:=by
 cases o with
 |lst xs=>have(_,_,_,_,e):=x;show hW e
 |tup xs=>have(_,_,_,p):=x;show p.lt
 |set S n=>have(o,_,_,_,e,_):=x;show hW e
 |ins C c b=>have(_,_,_,e,_):=x;show hW e
 |own y=>have(_,e):=x;show hW e
 |xd b=>have(_,(_,_,_,e,_),_):=x;show hW e
 |WM lo hi=>have(_,_,_,e):=x;show hW e
 |Pf d u=>have(e,_):=x;show hW e
 |SQ ps=>show hW (x)
 |met f y=>show hW (x)
 |ext φ=>have(_,(_,e),_):=x;show hW e
 |_=>have(_,_,_,_,o,_,_,e,_):=x;show hW e
theorem Paired.Hb:∀{c:↑α}{d},Paired F c d->(∀a b,F a b->G a b)->Paired G c d
 |_,_,.nil,_=>.nil
 |_,_,.cons r t,f=>.cons (f _ _ r) (Paired.Hb t f)
def cF.lP(x:cF P w H h a o)(k:∀b u,(b=a\/H b≈.own a)->h.get? b≈u->h'.get? b≈u)
  (ho:∀b,H b≈.own a->H' b≈.own a) (m:∀b xs,H b≈.tup xs->H' b≈.tup xs):cF P w H' h' a o:=by
 induction o with
 |lst xs=>have(z,i,n,r,e):=x;show#[z,i,n,r,k _ _ (.inl rfl) e]
 |tup xs=>have(z,i,r,g,e,c):=x;show#[z,i,r,g,k _ _ (.inl rfl) e,c]
 |dK kvs=>have(z,y,vs,r,g,es,ep,e,c):=x;show#[z,y,vs,r,g,es,ep,k _ _ (.inl rfl) e,c]
 |dT kvs =>
  have(z,y,xs,r,g,es,ep,e,c):=x;show#[z,y,xs,Paired.Hb r λp q z=>#[z.1,m _ _ z.2.1,z.2.2],g,es,ep,k _ _ (.inl rfl) e,c]
 |set S n=>have(g,es,ep,t,e,c):=x;show#[g,es,ep,t,k _ _ (.inl rfl) e,c]
 |ins C D s =>
  have(d,z,ne,e,j,(l,es,ep,A,c),r):=x;show#[ho _ d,z,ne,k _ _ (.inl rfl) e,j,#[l,es,ep,k _ _ (.inr d) A,c],r]
 |own y=>have(g,e):=x;show#[g,k _ _ (.inl rfl) e]
 |xd s=>have(j,(l,es,ep,e,c),r):=x;show#[j,#[l,es,ep,k _ _ (.inl rfl) e,c],r]
 |WM lo hi=>have(t,u,v,e):=x;show#[t,u,v,k _ _ (.inl rfl) e]
 |Pf g u B=>have(e,q):=x;show#[k _ _ (.inl rfl) e,B q]
 |SQ ps =>
  have e:=x;show k a _ (.inl rfl) e
 |met f y =>
  have e:=x;show k a _ (.inl rfl) e
 |ext φ=>have(p,(o,e),st):=x;show#[st _ _ p λo q=>k _ _ (.inl rfl) q,#[o,k _ _ (.inl rfl) e],st]
def OJ.lt(x:OJ P w H h)(e:H a≈o):a<h.objs.size:=(x a o e).lt
def OJ.fresh(x:OJ P w H h)(e:h.objs.size<=a):H a=cc:=by
 cases q:H a with
 |none=>rfl
 |some u=>show absurd (jn (x.lt q) e) (sP _)
def OJ.kept(x:OJ P w H h)(k:∀b u,h.get? b≈u->h'.get? b≈u):OJ P w H h':=λa o e =>
 (x a o e).lP (λb u _ q=>k b u q) (λ_ q=>q) λ_ _ q=>q
def OJ.laid(x:OJ P w H h)(k:∀b u,h.get? b≈u->h'.get? b≈u)(f:h.objs.size<=a)(new:cF P w (upd H a o) h' a o):OJ P w (upd H a o) h':=λb u e=>by
 have hn:=x.fresh f;by_cases d:b=a
 .subst d;rw[aj]at e;simp_all
 .rw[ai d]at e;show(x b u e).lP (λc v _ q=>k c v q) (λc q=>by rw[ai (av q hn)];show q) λc xs q=>by rw[ai (av q hn)];show q
abbrev Rd(H:Hp)(a:hH)(u:HO):Prop:=H a≈u\/∃o,H a≈.Pf o u
def Rd.of(h:H a≈u):Rd H a u:=.inl h
def Rd.ok(r:Rd H a u)(x:OJ P w H h):cF P w H h a u:=by
 rcases r with r|⟨o,r⟩
 .show x a u r
 .have(_,q):=x a _ r;show q
def Vq:Option HO->Prop
 |some (.lst _)=>True
 |some (.dK _)=>True
 |some (.dT _)=>True
 |some (.set _ _)=>True
 |some (.ins _ _ _)=>True
 |some (.ext _)=>True
 |_=>False
def OJ.write(m:OJ P w H h)(a:Vq (H x))(g:e=x\/H e≈.own x)(k:∀b u,b≠e->h.get? b≈u->h'.get? b≈u)(n:∃u,h'.get? e≈u)
  (new:cF P w (upd H x i) h' x i):OJ P w (upd H x i) h':=λb u q=>by
 have j:∀c y,H c≈.own y->c≠x:=λc y r z=>by subst z;rw[r]at a;show a
 have o:∀c xs,H c≈.tup xs->c≠x:=λc xs r z=>by subst z;rw[r]at a;show a
 by_cases d:b=x
 .subst d;rw[aj]at q;cases q;show new
 .rw[ai d]at q;by_cases f:b=e
  .have l:H b≈.own x:=by
    rcases g with z|z
    .show absurd (f.trans z) d
    .rw[f];show z
   rw[q]at l;cases l;have(v,p):=n;show#[v,by rw[f];show p]
  .show(m b u q).lP (λc v hc r=>k c v ?_ r) (λc r=>by rw[ai (j c b r)];show r) λc xs r=>by rw[ai (o c xs r)];show r
   rcases hc with rfl|hc
   .show f
   .rintro rfl;rcases g with z|z
    .show j c b hc z
    .rw[hc]at z;cases z;show d rfl
structure Un(fs ex:↑hH)(H H':Hp)(h h':K2):Prop where
 keep:∀b o,h.get? b≈o->H b=cc->b∉fs->b∉ex->h'.get? b≈o
 slot:∀b o,h.get? b≈o->H b=cc->b∈fs->b∉ex->∃sl,h'.get? b≈{o with slots:=sl}
 free:∀b o,h.get? b≈o->H b=cc->b∉ex->H' b=cc
 there:∀b o,h.get? b≈o->b∉ex->∃o',h'.get? b≈o'
 gS:∀b xs,H b≈.tup xs->H' b≈.tup xs
 OK:∀b o u,H b≈.Pf o u->H' b≈.Pf o u
 OS:∀b ps,H b≈.SQ ps->∃more,H' b≈.SQ (ps++more)
def Un.any(u:Un e ex H i h f)(q:h.get? b≈a)(n:H b=cc)(c:b∉ex):∃g,f.get? b≈{a with slots:=g}:=by
 by_cases d:b∈e
 .show u.slot b a q n d c
 .show#[_,u.keep b a q n d c]
def Un.kept(k:∀b u,h.get? b≈u->h'.get? b≈u):Un c ex H H h h' :=
 #[λb a q _ _ _=>k b a q,λb a q _ _ _=>#[_,k b a q],λ_ _ _ n _=>n,λb a q _=>#[a,k b a q],λ_ _ q=>q,λ_ _ _ q=>q,λ_ ps q=>#[#v[],by simp_all]]
def Un.refl:Un a ex H H h h:=Un.kept λ_ _ q=>q
def Un.laid(k:∀b u,h.get? b≈u->h'.get? b≈u)(c:h.objs.size<=a)(hn:H a=cc):Un d ex H (upd H a o) h h' where
 keep:=λb u q _ _ _=>k b u q
 slot:=λb u q _ _ _=>#[_,k b u q]
 free:=λb u q n _=>by rw[ai (i9 (jn (hW q) c))];show n
 there:=λb u q _=>#[u,k b u q]
 gS:=λb xs q=>by rw[ai (av q hn)];show q
 OK:=λb u xs q=>by rw[ai (av q hn)];show q
 OS:=λb ps q=>#[#v[],by rw[ai (av q hn),q];simp]
def Un.write(c:Vq (H x))(i:e=x\/H e≈.own x)(k:∀b u,b≠e->h.get? b≈u->h'.get? b≈u)(j:∃u,h'.get? e≈u):Un l ex H (upd H x o) h h':=by
 have f:∀b,H b=cc->b≠x:=λb n z=>by subst z;rw[n]at c;show c
 have d:∀b,H b=cc->b≠e:=λb n z=>by
  simp_all
 have a:∀b u,H b≈u->¬Vq (bD u)->b≠x:=λb u q nm z=>by simp_all
 show#[λb u q n _ _=>k b u (d b n) q,λb u q n _ _=>#[_,k b u (d b n) q],λb u q n _=>by rw[ai (f b n)];show n,λb u q _=>?_,
  λb xs q=>by rw[ai (a b _ q λz=>z)];show q,λb u xs q=>by rw[ai (a b _ q λz=>z)];show q,λb ps q=>#[#v[],by rw[ai (a b _ q λz=>z),q];simp]]
 by_cases g:b=e
 .simp_all
 .show#[u,k b u g q]
abbrev trk(h:K2)(H:Hp):↑hH:=(ib h.objs.size).filter λa=>(H a).isSome
abbrev pZ(h:K2)(H:Hp):K2:=W.hideAll h (trk h H)
def yo(h)(H):(pZ h H).objs.size=h.objs.size:=W.hideAll_size _ _
def Ag(e:h.get? b≈o)(n:H b=cc):(pZ h H).get? b≈o :=
 W.hideAll_get _ e λa=>by
  have q:=(M'.mp a).2;simp_all
def DA(e:(pZ h H).get? b≈o):h.get? b≈o/\H b=cc:=by
 have a:=W.of_hideAll _ e;show#[a,?_];cases q:H b with
 |none=>rfl
 |some x =>
  have c:b∈trk h H:=M'.mpr #[uu.mpr (hW a),by simp[q]];have z:(pZ h H).get? b=cc:=W.hideAll_none _ c;simp_all
structure Mod(K:W.Frag)(mg:Str->Option g8)(base:K2):Prop where
 SR:K.In base
 glob:base.Ns i5 mg
 blt:∃mb,base.Ns ħ mb/\∀x:Str,x≠"__name__"->mb x=so x
 nolimit:base.NoLimit
structure Cx where
 prog:rS
 w:wk
 K:W.Frag
 mg:Str->Option g8
 base:K2
 A:Ux
 N:↑Str
 s₀:i4
 H₀:Hp
 env:Env
 outer:↑Env
 stack:↑Env
 ex:↑hH
 fn:Str->Bool
 calm:Bool
 pn:↑(hH×Obj)
 xe:g8->i4->Prop
abbrev Oy(l:↑Env):↑hH:=l.filterMap (·.frame)
noncomputable abbrev Cx.fs(X:Cx):↑hH:=Oy X.outer
abbrev OB(a:tP)(x:Str):Prop:=a.names.lookup x≈.local\/a.names.lookup x≈.cell\/a.names.lookup x≈.free
abbrev Loc(a:tP)(x:Str):Prop:=a.names.lookup x≈.local\/a.names.lookup x≈.cell
abbrev Look(env:Env)(h:K2)(m:Str->Option g8)(x:Str)(u:g8):Prop :=
 (env.kindOf x≈.local/\m x≈u)\/((env.kindOf x≈.cell\/env.kindOf x≈.free)/\∃c,env.cells.lookup x≈c/\h.IsCell c (bD u))
structure Cx.Ok(X:Cx):Prop where
 mod:Mod X.K X.mg X.base
 kind:X.env.scope.kind=.function
 glob:X.env.globals=i5
 blt:X.env.builtins=ħ
 above:↥X.s₀<=X.env.locals
 inj:∀x y c,X.env.cells.lookup x≈c->X.env.cells.lookup y≈c->x=y
 has:∀x,(X.env.kindOf x≈.cell\/X.env.kindOf x≈.free)->∃c,X.env.cells.lookup x≈c
 TF:∀x c,X.fn x=b6->X.env.cells.lookup x≈c->↥X.s₀<=c
 hd:X.calm=b6->X.A.handled=cc
 frames:X.A.frames≈X.stack
 UM:X.stack=X.outer\/(X.stack=X.env::X.outer/\X.env.frame≈X.env.locals)
 WN:∀b∈X.ex,b≠X.env.locals/\∀x c,X.env.cells.lookup x≈c->c≠b
 bs:∀b o,X.base.get? b≈o->X.s₀.heap.get? b≈o/\X.H₀ b=cc
 Rc:X.base.objs.size<=↥X.s₀
 Qe:∀b o,X.base.get? b≈o->b∉X.ex
 QH:∀b∈X.ex,b∉X.fs
 jC:X.s₀.heap.FunFrames X.base X.outer
 R8:∀b∈X.fs,X.H₀ b=cc
structure Inv(X:Cx)(pins:↑(hH×Obj))(σ:↑(Option V))(H:Hp)(s:i4):Prop where
 ok:X.Ok
 os:s.os=X.s₀.os
 bare:Wf s.gens
 base:Un X.fs X.ex X.H₀ H X.s₀.heap s.heap
 loc:∃m,s.heap.Ns X.env.locals m/\∀(i:Nat) (x:Str) (v:V),X.N[i]?≈x->σ[i]?≈bD v->OB X.env.scope x->∃u,RelV v u/\Look X.env s.heap m x u
 cell:∀x c,X.env.cells.lookup x≈c->∃v,s.heap.IsCell c v
 free:H X.env.locals=cc
 N2:∀x c,X.env.cells.lookup x≈c->H c=cc
 pin:∀p∈X.pn++pins,s.heap.get? p.1≈p.2/\H p.1=cc/\p.1≠X.env.locals/\p.1∉X.fs/\∀v,p.2.data≠.cell v
 Ny:OJ X.prog X.w H s.heap
 len:⇑σ=⇑X.N
section
variable{X:Cx}{pins:List (hH×Obj)}{σ:List (Option V)}{H H':Hp}{s:i4}{h':K2}
def Cx.Ok.MB(a:X.Ok)(e:X.base.get? b≈o):b∉X.fs:=λc=>by
 have:=(a.jC.mem c).1;simp_all
def Inv.bs(I:Inv X pins σ H s):∀b o,X.base.get? b≈o->s.heap.get? b≈o/\H b=cc:=λb o e =>
 #[I.base.keep b o (I.ok.bs b o e).1 (I.ok.bs b o e).2 (I.ok.MB e) (I.ok.Qe b o e),I.base.free b o (I.ok.bs b o e).1 (I.ok.bs b o e).2 (I.ok.Qe b o e)]
def Inv.bk(I:Inv X pins σ H s):∀b o,X.base.get? b≈o->s.heap.get? b≈o:=λb o e=>(I.bs b o e).1
def Inv.mod(I:Inv X pins σ H s):Mod X.K X.mg X.base:=I.ok.mod
def Inv.Ph(I:Inv X pins σ H s):X.K.In s.heap:=I.ok.mod.SR.keeps I.bk
def Inv.lt(I:Inv X pins σ H s):X.env.locals<↥s:=let ⟨_,hn,_⟩:=I.loc;hn.lt
def Inv.sz(I:Inv X pins σ H s):↥X.s₀<=↥s:=qv I.ok.above (Q' I.lt)
def Inv.J_(I:Inv X pins σ H s)(h:↥s<=a):a∉X.fs:=λb=>by
 have(_,o,ho,_):=I.ok.jC.mem b;show absurd (jn (hW ho) (qv I.sz h)) (sP _)
def Inv.Rf(I:Inv X pins σ H s):∀x c,X.env.cells.lookup x≈c->c≠X.env.locals:=λx c e z=>by
 have(v,o,ho,b):=I.cell x c e;have(m,(d,es,ep,f,a,_),_):=I.loc;simp_all
def Inv.jC(I:Inv X pins σ H s):s.heap.FunFrames X.base X.outer:=by
 have all:∀(l:↑Env),(∀b∈Oy l,b∈X.fs)->X.s₀.heap.FunFrames X.base l->s.heap.FunFrames X.base l:=by
  intro l;induction l with
  |nil=>intro _ _;trivial
  |cons env r f =>
   intro hs hl;have(hk,(L,o,a,hn,ho,g),h):=hl;have c:=hs L (by unfold Oy;rw[O_,a];show il);have(i,e):=I.base.slot L o ho (I.ok.R8 L c) c λz=>I.ok.QH L z c;show#[hk,#[L,_,a,hn,e,g],f (λb d=>hs b (by unfold Oy;rw[O_,a];show f7 _ d)) h]
 show all _ (λ_ d=>d) I.ok.jC
def Inv.stack(I:Inv X pins σ H s):s.heap.FunFrames X.base X.stack:=by
 rcases I.ok.UM with e|⟨e,a⟩
 .rw[e];show I.jC
 .rw[e];have(m,hn,_):=I.loc;show .cons (by rw[I.ok.kind];decide) a hn ?_ I.jC;show Heap.get?_none_of_le (qv I.ok.Rc I.ok.above)
def Inv.mL(I:Inv X pins σ H s):∀b∈Oy X.stack,b∈X.env.locals::X.fs:=λb a=>by
 rcases I.ok.UM with e|⟨e,c⟩
 .simp_all
 .rw[e]at a;unfold Oy at a;rw[O_,c]at a;show a
def Inv.iC(I:Inv X pins σ H s):∀b∈Oy X.stack,H b=cc:=λb hb=>by
 rcases eT.mp (I.mL b hb) with e|hb
 .rw[e];show I.free
 .have(_,o,ho,_):=I.ok.jC.mem hb;show I.base.free b o ho (I.ok.R8 b hb) λz=>I.ok.QH b z hb
def Inv.step{ch:↑hH}(I:Inv X pins σ H s)
  (j:∀b∈ch,(b∈X.ex\/↥X.s₀<=b)/\b≠X.env.locals/\(∀x c,X.env.cells.lookup x≈c->c≠b)/\∀p∈X.pn++pins,p.1≠b)
  (keep:∀b o,b≠X.env.locals->b∉X.fs->b∉ch->s.heap.get? b≈o->H b=cc->h'.get? b≈o)
  (slot:∀b o,b≠X.env.locals->b∈X.fs->b∉ch->s.heap.get? b≈o->H b=cc->∃G,h'.get? b≈{o with slots:=G}) (free:∀b o,b∉ch->s.heap.get? b≈o->H b=cc->H' b=cc)
  (there:∀b o,b∉ch->s.heap.get? b≈o->∃t,h'.get? b≈t)
  (gS:∀b xs,H b≈.tup xs->H' b≈.tup xs) (OK:∀b o u,H b≈.Pf o u->H' b≈.Pf o u) (OS:∀b ps,H b≈.SQ ps->∃y,H' b≈.SQ (ps++y))
  (ns:∀m,s.heap.Ns X.env.locals m->h'.Ns X.env.locals m) (O:OJ X.prog X.w H' h') (Q:Wf g') :
  Inv X pins σ H' {s with heap:=h',gens:=g',drawn:=d',toks:=t' }:=by
 have A:∀b o,X.s₀.heap.get? b≈o->b≠X.env.locals:=λb o e=>i9 (jn (hW e) I.ok.above);have C:∀b o,X.s₀.heap.get? b≈o->b∉X.ex->b∉ch:=λb o e a h=>by
  rcases(j b h).1 with z|z
  .show a z
  .show absurd (jn (hW e) z) (sP _)
 have f:∀x c,X.env.cells.lookup x≈c->∀v,s.heap.IsCell c v->h'.IsCell c v:=λx c e v T=>by
  have(o,ho,J):=T;have B:c∉ch:=λz=>(j c z).2.2.1 x c e rfl;by_cases L:c∈X.fs
  .have(G,q):=slot c o (I.Rf x c e) L B ho (I.N2 x c e);show#[_,q,J]
  .show#[o,keep c o (I.Rf x c e) L B ho (I.N2 x c e),J]
 show#[I.ok,I.os,Q,#[λb o e n h a=>?_,λb o e n h a=>?_,λb o e n a=>?_,λb o e a=>?_,λb xs e=>gS b xs (I.base.gS b xs e),λb o xs e=>OK b o xs (I.base.OK b o xs e),λb ps e=>?_],?_,λx c e=>?_,?_,λx c e=>?_,λp N=>?_,O,I.len]
 .show keep b o (A b o e) h (C b o e a) (I.base.keep b o e n h a) (I.base.free b o e n a)
 .have(G,g):=I.base.slot b o e n h a;have(Y,D):=slot b _ (A b o e) h (C b o e a) g (I.base.free b o e n a);show#[Y,D]
 .have(t,g):=I.base.there b o e a;show free b t (C b o e a) g (I.base.free b o e n a)
 .have(t,g):=I.base.there b o e a;show there b t (C b o e a) g
 .have(m1,g):=I.base.OS b ps e;have(m2,D):=OS b _ g;show#[m1++m2,by simp_all]
 .have(m,hn,hl):=I.loc;show#[m,ns m hn,λi x v g D e3=>?_];have(u,r,l):=hl i x v g D e3;show#[u,r,?_];rcases l with l|⟨k,c,e,z⟩
  .show .inl l
  .show .inr #[k,c,e,f x c e _ z]
 .have(v,z):=I.cell x c e;show#[v,f x c e v z]
 .have(m,(o,_,_,ho,_),_):=I.loc;show free _ o (λz=>(j _ z).2.1 rfl) ho I.free
 .have(v,o,ho,J):=I.cell x c e;show free c o (λz=>(j c z).2.2.1 x c e rfl) ho (I.N2 x c e)
 .have(e,n,ne,nf,d):=I.pin p N;have B:p.1∉ch:=λz=>(j p.1 z).2.2.2 p N rfl;show#[keep p.1 p.2 ne nf B e n,free p.1 p.2 B e n,ne,nf,d]
def Inv.un(I:Inv X pins σ H s)(u:Un X.fs [] H H' s.heap h')(d:OJ X.prog X.w H' h'):Inv X pins σ H' {s with heap:=h',toks:=t' }:=by
 have(m,(o,es,ep,ho,r),_):=id I.loc;have(k,f):=u.any ho I.free ⋯;show I.step   (ch:=[]) (λ_ z=>nomatch z) (λb o _ a _ e n=>u.keep b o e n a ⋯) (λb o _ a _ e n=>u.slot b o e n a ⋯) (λb o _ e n=>u.free b o e n ⋯) (λb o _ e=>u.there b o e ⋯) u.gS u.OK u.OS (λl g=>by
  have(p,h,i,c,j):=g;rw[ho]at c;cases c;show#[_,h,i,f,j]) d I.bare
def Inv.call(I:Inv X pins σ H s)(u:Un (Oy X.stack) ch H H' s.heap h')(h:OJ X.prog X.w H' h')(i:Wf g')
  (f:∀b∈ch,(b∈X.ex\/↥X.s₀<=b)/\b≠X.env.locals/\(∀x c,X.env.cells.lookup x≈c->c≠b)/\∀p∈X.pn++pins,p.1≠b) :
  Inv X pins σ H' {s with heap:=h',gens:=g',drawn:=d',toks:=t' }:=by
 have(m,(o,es,ep,ho,r),_):=id I.loc;have(v,d):=u.any ho I.free λz=>(f _ z).2.1 rfl;show I.step  f (λb o d j a e n=>u.keep b o e n (λz=>(eT.mp (I.mL b z)).elim d j) a) (λb o _ _ a e n=>u.any e n a) (λb o a e n=>u.free b o e n a) (λb o a e=>u.there b o e a) u.gS u.OK u.OS (λy k=>by
  have(A,l,q,g,t):=k;rw[ho]at g;cases g;show#[_,l,q,d,t]) h i
def Inv.turned(I:Inv X pins σ H s)(k:∀b o,b≠it->s.heap.get? b≈o->h'.get? b≈o)(hn:H it=cc)(d:it≠X.env.locals)
  (g:it∈X.ex\/↥X.s₀<=it) (h:∀x c,X.env.cells.lookup x≈c->c≠it) (i:∀p∈X.pn++pins,p.1≠it):Inv X pins σ H {s with heap:=h',toks:=t' }:=by
 have f:∀b u,H b≈u->b≠it:=λb u e z=>by simp_all
 show I.step (g':=s.gens) (d':=s.drawn) (ch:=[it]) (λb j=>?_) (λb o _ _ a e _=>k b o (λz=>a (by simp[z])) e) (λb o _ _ a e _=>#[o.slots,k b o (λz=>a (by simp[z])) e]) (λ_ _ _ _ n=>n)
  (λb o a e=>#[o,k b o (λz=>a (by simp[z])) e]) (λ_ _ e=>e) (λ_ _ _ e=>e) (λb ps e=>#[#v[],by simp_all]) (λm l=>?_) (λb u e=>?_) I.bare
 .have e:b=it:=by exists j
  subst e;show#[g,d,h,i]
 .have(o,es,ep,ho,r):=l;show#[o,es,ep,k _ o (mh d) ho,r]
 .show(I.Ny b u e).lP (λc v a q=>k c v ?_ q) (λ_ q=>q) λ_ _ q=>q;rcases a with z|z
  .rw[z];show f b u e
  .show f c _ z
def Inv.tok(I:Inv X pins σ H s)(t):Inv X pins σ H {s with toks:=t}:=I.un  (t':=t) Un.refl I.Ny
def Inv.kept(I:Inv X pins σ H s)(k:∀b u,s.heap.get? b≈u->h'.get? b≈u):Inv X pins σ H {s with heap:=h',toks:=t' }:=I.un (Un.kept k) (I.Ny.kept k)
def Inv.laid(I:Inv X pins σ H s)(k:∀b u,s.heap.get? b≈u->h'.get? b≈u)(c:↥s<=a)(new:cF X.prog X.w (upd H a o) h' a o):
  Inv X pins σ (upd H a o) {s with heap:=h',toks:=t' }:=I.un (Un.laid k c (I.Ny.fresh c)) (I.Ny.laid k c new)
def Inv.write(I:Inv X pins σ H s)(a:Vq (H x))(c:e=x\/H e≈.own x)(k:∀b u,b≠e->s.heap.get? b≈u->h'.get? b≈u)(d:∃u,h'.get? e≈u)
  (new:cF X.prog X.w (upd H x o) h' x o):Inv X pins σ (upd H x o) {s with heap:=h',toks:=t' }:=I.un (Un.write a c k d) (I.Ny.write a c k d new)
def Inv.weak(I:Inv X pins σ H s)(hl:⇑a=⇑σ)(w:∀(i:Nat) v,a[i]?≈bD v->σ[i]?≈bD v):Inv X pins a H s :=
 #[I.ok,I.os,I.bare,I.base,let ⟨m,hn,b⟩:=I.loc;⟨m,hn,λi x v c d e=>b i x v c (w i v d) e⟩,I.cell,I.free,I.N2,I.pin,I.Ny,hl.trans I.len]
def Inv.iD(I:Inv X pins σ H s)(h:∀p∈a,s.heap.get? p.1≈p.2/\H p.1=cc/\p.1≠X.env.locals/\p.1∉X.fs/\∀v,p.2.data≠.cell v):Inv X a σ H s :=
 #[I.ok,I.os,I.bare,I.base,I.loc,I.cell,I.free,I.N2,λp b=>(i7.mp b).elim (λz=>I.pin p (TX _ z)) (h p),I.Ny,I.len]
def jD{N:↑Str}(c:N.Nodup){i j:Nat}(a:N[i]?≈x)(b:N[j]?≈x):i=j:=by
 have(f,d):=eH.mp a;have(g,e):=eH.mp b;show(ć c).mp (d.trans e.symm)
def oS(I:Inv X pins σ H s)(hN:X.N.Nodup)(hi:X.N[i]?≈x)(l:Loc X.env.scope x)(r:RelV v u)
  (h:∀O,Inv X pins (σ.set i (bD v)) H O->(∃a,tA a s.heap O.heap/\(a=X.env.locals\/X.env.cells.lookup x≈a))->Q () O) (hf:X.fn x=b6\/X.env.scope.names.lookup x≈.local:=by first|show .inl rfl|show .inr rfl|assumption):f6 M A (storeName X.env x u) Q E s:=by
 have(m,hn,hl):=id I.loc;have TH:(X.env.scope.kind==.class||(X.env.scope.kind==.module&&X.env.locals != X.env.globals))=cK:=by rw[I.ok.kind];rfl
 have G:i < ⇑σ:=by rw[I.len];show(eH.mp hi).1
 have T:=I.Rf;have f:∀{a:hH} {h':K2},(∃o,s.heap.get? a≈o/\H a=cc)->tA a s.heap h'->OJ X.prog X.w H h':=λ{a h'} ha hs b ob e=>by
  have(_,_,N'):=ha;show(I.Ny b ob e).lP (λc Y t q=>(hs.2 c ?_).trans q) (λ_ q=>q) λ_ _ q=>q
  grind
 rcases l with hk|hk
 .show wpAny_storeName_local hk hn (λh' UO hs=>?_) TH;have(oL,_,_,R9,_):=id hn;show h _ #[I.ok,I.os,I.bare,#[λb o e n C l=>?_,λb o e n C l=>?_,I.base.free,λb o e l=>?_,I.base.gS,I.base.OK,I.base.OS],#[_,UO,λj y v' g B e3=>?_],λy c e=>?_,I.free,I.N2,λp hp=>?_,f #[oL,R9,I.free] hs,by exists I.len] ⟨_,hs,.inl rfl⟩
  .show(hs.2 b (i9 (jn (hW e) I.ok.above))).trans (I.base.keep b o e n C l)
  .have(sl,g):=I.base.slot b o e n C l;show#[sl,(hs.2 b (i9 (jn (hW e) I.ok.above))).trans g]
  .have(o',g):=I.base.there b o e l;show#[o',(hs.2 b (i9 (jn (hW e) I.ok.above))).trans g]
  .by_cases D:j=i
   .subst D;rw[hi]at g;cases g;rw[fx G]at B;cases B;show#[u,r,.inl #[hk,by simp]]
   .rw[hQ (mh D)]at B;have(u',r',q):=hl j y v' g B e3;show#[u',r',?_];rcases q with⟨k,e⟩|⟨k,c,e,z⟩
    .show .inl #[k,?_];have:y≠x:=λe=>D (jD hN g (e▸hi));simp[this,e]
    .show .inr #[k,c,e,z.sameBut hs (T y c e)]
  .have(Y,z):=I.cell y c e;show#[Y,z.sameBut hs (T y c e)]
  .have(e,n,ne,nf,d):=I.pin p hp;show#[(hs.2 p.1 ne).trans e,n,ne,nf,d]
 .have Qz:X.fn x=b6:=by
   simp_all
  have(c,t):=I.ok.has x (.inl hk);have(Y,z):=I.cell x c t;show wpAny_storeName_cell I.ok.kind hk t z (λh' UP hs=>?_);have(oc,ab,ac):=id z;show h {s with heap:=h' } ⟨I.ok,I.os,I.bare,⟨λb o e n C l=>?_,λb o e n C l=>?_,I.base.free,λb o e l=>?_,I.base.gS,I.base.OK,I.base.OS⟩,⟨m,hn.sameBut hs (mh (T x c t)),λj y v' g B e3=>?_⟩,λy L e=>?_,I.free,I.N2,λp hp=>?_,f ⟨oc,ab,I.N2 x c t⟩ hs,by exists I.len⟩ ⟨c,hs,.inr t⟩
  .show(hs.2 b (i9 (jn (hW e) (I.ok.TF x c Qz t)))).trans (I.base.keep b o e n C l)
  .have(sl,g):=I.base.slot b o e n C l;show#[sl,(hs.2 b (i9 (jn (hW e) (I.ok.TF x c Qz t)))).trans g]
  .have(o',g):=I.base.there b o e l;show#[o',(hs.2 b (i9 (jn (hW e) (I.ok.TF x c Qz t)))).trans g]
  .by_cases D:j=i
   .subst D;rw[hi]at g;cases g;rw[fx G]at B;cases B;show#[u,r,.inr #[.inl hk,c,t,UP]]
   .rw[hQ (mh D)]at B;have(u',r',q):=hl j y v' g B e3;show#[u',r',?_];rcases q with q|⟨k,L,e,z'⟩
    .show .inl q
    .show .inr #[k,L,e,z'.sameBut hs ?_];rintro rfl;show D (jD hN g (I.ok.inj _ _ _ e t▸hi))
  .by_cases J:L=c
   .subst J;show#[_,UP]
   .have(w2,z2):=I.cell y L e;show#[w2,z2.sameBut hs J]
  .have(e,n,ne,nf,d):=I.pin p hp;show#[(hs.2 p.1 ?_).trans e,n,ne,nf,d];intro q;simp_all
def jE(I:Inv X pins σ H s)(b:X.N.Nodup)(hi:X.N[i]?≈x)(c:Loc X.env.scope x)(r:RelV v u)
  (h:∀a,Inv X pins (σ.set i (bD v)) H a->Q () a) (d:X.fn x=b6\/X.env.scope.names.lookup x≈.local:=by first|show .inl rfl|show .inr rfl|assumption):f6 M A (storeName X.env x u) Q E s :=
 oS I b hi c r (λa e _=>h a e) d
def Inv.Gf(I:Inv X pins σ H s)(ho:a.os=s.os)(u:Un (Oy X.stack) ch H H' s.heap a.heap)(d:OJ X.prog X.w H' a.heap)(f:Wf a.gens)
  (g:∀b∈ch,(b∈X.ex\/↥X.s₀<=b)/\b≠X.env.locals/\(∀x c,X.env.cells.lookup x≈c->c≠b)/\∀p∈X.pn++pins,p.1≠b):Inv X pins σ H' a:=by
 have(h',g',d',t',h):=a;have e:=ho;subst e;show I.call    u d f g
end
@[reducible]noncomputable def XK:=g8->Option hH->Hp->Prop
@[reducible]noncomputable def St:=↑(Option V)
@[reducible]noncomputable def VK:=V->Hp->Prop
@[reducible]noncomputable def TE:=St->Hp->VK->Prop
@[reducible]noncomputable def TT:=St->Hp->(Bool->Hp->Prop)->Prop
@[reducible]noncomputable def TA:=St->Hp->(↑V->Hp->Prop)->Prop
structure Ends where
 nx:St->Hp->Prop
 rt:VK
 bk:St->Hp->Prop:=λ_ _=>False
 ct:St->Hp->Prop:=λ_ _=>False
@[reducible]noncomputable def TS:=Ends->St->Hp->Prop
inductive EP(X:Cx)(pins:↑(hH×Obj))(σ:St)(Q:VK)(u:g8)(s':i4):Prop
 |mk (v:V) (H':Hp):Inv X pins σ H' s'->RelV v u->Q v H'->EP X pins σ Q u s'
abbrev TP(X:Cx)(pins:↑(hH×Obj))(σ:St)(Q:Bool->Hp->Prop)(b:Bool)(a:i4):Prop:=∃H',Inv X pins σ H' a/\Q b H'
inductive AP(X:Cx)(pins:↑(hH×Obj))(σ:St)(Q:↑V->Hp->Prop)(us:↑g8)(s':i4):Prop
 |mk (vs:↑V) (H':Hp):Inv X pins σ H' s'->Vals vs us->Q vs H'->AP X pins σ Q us s'
abbrev SP(X:Cx)(pins:↑(hH×Obj))(D:Ends)(f:Flow)(b:i4):Prop :=
 match f with
 |.next=>∃a H',Inv X pins a H' b/\D.nx a H'
 |.brk=>∃a H',Inv X pins a H' b/\D.bk a H'
 |.cont=>∃a H',Inv X pins a H' b/\D.ct a H'
 |.ret u=>∃v a H',Inv X pins a H' b/\RelV v u/\D.rt v H'
abbrev PE(X:Cx)(e:jw)(t:TE):Prop :=
 ∀(pins:↑(hH×Obj)) (s:i4) (σ:St) (H:Hp) (Q:VK),Inv X pins σ H s->t σ H Q->‹X› (p8 e X.env) (EP X pins σ Q) X.xe s
abbrev PT(X:Cx)(e:jw)(t:TT):Prop :=
 ∀(pins:↑(hH×Obj)) (s:i4) (σ:St) (H:Hp) (Q:Bool->Hp->Prop),Inv X pins σ H s->t σ H Q->‹X› (isTrue e X.env (p8 e X.env)) (TP X pins σ Q) X.xe s
abbrev PW(X:Cx)(e:jw)(t:TT):Prop :=
 ∀(a:Sem g8) (pins:↑(hH×Obj)) (s:i4) (σ:St) (H:Hp) (Q:Bool->Hp->Prop),Inv X pins σ H s->t σ H Q->‹X› (isTrue e X.env a) (TP X pins σ Q) X.xe s
def PW.pt(h:PW X e t):PT X e t:=h _
abbrev PA(X:Cx)(es:↑jw)(t:TA):Prop :=
 ∀(pos:Pos) (pins:↑(hH×Obj)) (s:i4) (σ:St) (H:Hp) (Q:↑V->Hp->Prop),Inv X pins σ H s->t σ H Q->‹X› (ĵ (vl pos (i0 es X.env))) (AP X pins σ Q) X.xe s
abbrev PS(X:Cx)(st:va)(t:TS):Prop :=
 ∀(pins:↑(hH×Obj)) (s:i4) (σ:St) (H:Hp) (D:Ends),Inv X pins σ H s->t D σ H->‹X› (exec st X.env) (SP X pins D) X.xe s
abbrev OT(X:Cx)(st:↑va)(t:TS):Prop :=
 ∀(pins:↑(hH×Obj)) (s:i4) (σ:St) (H:Hp) (D:Ends),Inv X pins σ H s->t D σ H->‹X› (execs st X.env) (SP X pins D) X.xe s
def ND(h:f6 M A t Q E s)(b:∀a s,Q a s->c a s):f6 M A t c E s:=lg h b λ_ _ x=>x
def bin(j:PE X a k)(l:PE X b tb){R:V->V->Hp->Prop}(I:Inv X pins σ H s)(h:k σ H λx e=>tb σ e λy c=>R x y c)
 {Q} {f:g8->g8->Sem α}
    (m:∀v u d x y c,Inv X pins σ c d->RelV x v->RelV y u->R x y c->‹X› (f v u) Q X.xe d) :
    ‹X› (p8 a X.env) (λv n=>‹X› (p8 b X.env) (λu o=>‹X› (f v u) Q X.xe o) X.xe n) X.xe s:=by
  show ND (j pins s σ H _ I h) λv s1 g=>?_;have(x,e,p,q,r):=g;show ND (l pins s1 σ e _ p r) λu d i=>?_;have(y,c,t,z,B):=i;show m v u d x y c t q z B
abbrev lQ(i:Nat):TE:=λσ H Q=>∃v,σ[i]?≈bD v/\Q v H
abbrev tC(v:V):TE:=λ_ H Q=>Q v H
def a9(g:X.N[i]?≈x)(j:OB X.env.scope x)(b:(x==("__debug__":Str))=cK:=by decide)(k:(x==("__classdict__":Str))=cK:=by decide):PE X (.Name x pos) (lQ i):=by
 intro pins s σ H Q I h;have(v,e,h):=h;have(m,hn,hl):=I.loc;have(u,r,l):=hl i x v g e j;have a:EP X pins σ Q u s:=#[v,H,I,r,h]
 rcases l with⟨hk,n⟩|⟨hk,c,d,f⟩
 .show ġ (wpAny_loadName_local I.ok.kind hk hn n a) b
 .rcases hk with hk|hk
  .show ġ (wpAny_loadName_cell I.ok.kind hk d f a) b
  .show ġ (wpAny_loadName_free I.ok.kind hk d f a k) b
def mM:PE X (.Constant (.int i) j pos) (tC (.int i)):=λ_ _ _ H _ I h=>wpAny_Constant_int #[.int i,H,I.tok _,#[_,rfl],h]
def Ah:PE X (.Constant (.bool b) j pos) (tC (.bl b)):=λ_ _ _ H _ I h=>Constant_bool #[.bl b,H,I,rfl,h]
def uC:PE X (.Constant .none j pos) (tC .Nz):=λ_ _ _ H _ I h=>Constant_none #[.Nz,H,I,rfl,h]
def uD:PE X (.Constant (.str x) j pos) (tC (.str x)):=λ_ _ _ H _ I h=>UH #[.str x,H,I.tok _,#[_,rfl],h]
abbrev Gl(X:Cx)(x:Str):Prop:=X.env.kindOf x≈.globalImplicit
def eD(I:Inv X pins σ H s)(a:Gl X x)(b:X.mg x≈u)(h:Q u s)
  (c:(x==("__debug__":Str))=cK:=by decide):‹X› (p8 (.Name x pos) X.env) Q E s :=
 Y4 I.ok.kind a (Calls.loadGlobal_global (by rw[I.ok.glob];show I.mod.glob.keeps I.bk) b h) c
def dC(I:Inv X pins σ H s)(a:Gl X x)(b:X.mg x=cc)(c:so x≈u)(h:Q u s)
  (hn:x≠"__name__":=by decide) (d:(x==("__debug__":Str))=cK:=by decide):‹X› (p8 (.Name x pos) X.env) Q E s:=by
 have(g,e,f):=I.mod.blt;show Y4 I.ok.kind a (Calls.loadGlobal_builtin (by rw[I.ok.glob];show I.mod.glob.keeps I.bk) b (by rw[I.ok.blt];show e.keeps I.bk) ((f x hn).trans c) h) d
def DB(a:Gl X x)(b:X.mg x≈u)(r:RelV v u)(c:(x==("__debug__":Str))=cK:=by decide):PE X (.Name x pos) (tC v) :=
 λ_ _ _ H _ I h=>eD I a b #[v,H,I,r,h] c
def wR(a:Gl X x)(b:X.mg x=cc)(c:so x≈u)(r:RelV v u)(hn:x≠"__name__":=by decide)(d:(x==("__debug__":Str))=cK:=by decide):PE X (.Name x pos) (tC v) :=
 λ_ _ _ H _ I h=>dC I a b c #[v,H,I,r,h] hn d
abbrev PC(X:Cx)(op:ł)(a b:jw)(t:TE):Prop :=
 ∀(pins:↑(hH×Obj)) (s:i4) (σ:St) (H:Hp) (Q:VK),Inv X pins σ H s->t σ H Q ->
  ‹X› (p8 a X.env) (λv c=>‹X› (p8 b X.env) (λu d=>‹X› (y0 op v u) (EP X pins σ Q) X.xe d) X.xe c) X.xe s
abbrev tB(t:TE):TT:=λσ H Q=>t σ H λx a=>∃c,x=.bl c/\Q c a
def Ai(h:PC X op a b t)(e:R0 op b=cK:=by first|show m _ ⋯ ⋯|rfl):PT X (.Compare a [op] [b] pos) (tB t):=by
 intro pins s σ H Q I f;show QE (ND (h pins s σ H _ I f) λv s1 e=>ND e λu n g=>ND g λc o ⟨x,i,j,k,l⟩=>?_) e;have(d,rfl,q):=l;cases k;show q9 #[i,j,q]
def Aj(h:PE X e t)(b:∀a,isTrue e X.env a=(do let v <-a;WY e.pos;KX [v] (ģ v)):=by intro _;rfl):PT X e (tB t):=by
 intro pins s σ H Q I c;show isTrue_plain (ND (h pins s σ H _ I c) λv s1 ⟨x,f,g,i,j⟩=>?_) (b _);have(d,rfl,q):=j;cases i;show q9 #[f,g,q]
abbrev Ka(t u:TT):TT:=λσ H Q=>t σ H λc a=>if c=b6 then u σ a Q else Q cK a
abbrev tOr(t u:TT):TT:=λσ H Q=>t σ H λc a=>if c=b6 then Q b6 a else u σ a Q
abbrev MC(t:TT):TT:=λσ H Q=>t σ H λc a=>Q (!c) a
def wU(b:PT X a d):PW X (.BoolOp .And [a] pos) d:=by
 intro f pins s σ H Q I h;show isTrue_and (ND (b pins s σ H Q I h) λc s1 e=>?_);cases c with
 |true=>show ű e
 |false=>show e
def Hc(b:PT X a d):PW X (.BoolOp .Or [a] pos) d:=by
 intro f pins s σ H Q I h;show isTrue_or (ND (b pins s σ H Q I h) λc s1 e=>?_);cases c with
 |false=>show isTrue_or_nil e
 |true=>show e
def Ak(j:PT X a k)(l:PW X (.BoolOp .And (b::d) pos) m):PW X (.BoolOp .And (a::b::d) pos) (Ka k m):=by
 intro n pins s σ H Q I h;show isTrue_and (ND (j pins s σ H _ I h) λc s1 e=>?_);have(f,g,i):=e;cases c with
 |true=>show l n pins s1 σ f Q g i
 |false=>show#[f,g,i]
def Kb(j:PT X a k)(l:PW X (.BoolOp .Or (b::d) pos) m):PW X (.BoolOp .Or (a::b::d) pos) (tOr k m):=by
 intro n pins s σ H Q I h;show isTrue_or (ND (j pins s σ H _ I h) λc s1 e=>?_);have(f,g,i):=e;cases c with
 |true=>show#[f,g,i]
 |false=>show l n pins s1 σ f Q g i
def Hd(b:PT X a c):PT X (.UnaryOp .Not a pos) (MC c):=by
 intro pins s σ H Q I h;show isTrue_not (b pins s σ H _ I h)
abbrev Kc(b tb:TE):TE:=λσ H Q=>b σ H λx a=>∃c,x=.bl c/\if c=b6 then tb σ a Q else Q (.bl cK) a
abbrev Ke(a:TE):TE:=λσ H Q=>a σ H λx b=>∃c,x=.bl c/\Q (.bl (!c)) b
def He(h:PE X a t):PE X (.BoolOp op [a] pos) t:=λpins s σ H Q I b=>BoolOp_one (h pins s σ H Q I b)
def Hg(j:PE X a k)(l:PE X (.BoolOp .And (b::d) pos) tb):PE X (.BoolOp .And (a::b::d) pos) (Kc k tb):=by
 intro pins s σ H Q I h;show BoolOp_and (ND (j pins s σ H _ I h) λv s1 f=>?_);have(x,g,i,m,e):=f;have(c,rfl,e):=e;cases m;show q9 ?_;cases c with
 |true=>show l pins s1 σ g Q i e
 |false=>show#[.bl _,g,i,rfl,e]
def Hh(e:PE X a f):PE X (.UnaryOp .Not a pos) (Ke f):=by
 intro pins s σ H Q I h;show UnaryOp_ (ND (e pins s σ H _ I h) λv s1 b=>?_);have(x,g,i,j,d):=b;have(c,rfl,d):=d;cases j;show not_of (q9 #[.bl (!c),g,i,rfl,d])
abbrev N_(K:W.Frag)(H:Hp)(a:hH)(xs:↑V):Prop :=
 Rd H a (.lst xs) \/
  ∃(o:Obj) (b:Array g8) (n:Nat),K.lookup a≈o/\o.cls=.type "list"/\o.dict=cc/\o.data=.seq b n/\b.size<=c8/\Vals xs b.toList
abbrev Oi(K:W.Frag)(H:Hp)(a:hH)(xs:↑V):Prop :=
 Rd H a (.tup xs) \/
  ∃(o:Obj) (b:Array g8) (n:Nat),K.lookup a≈o/\o.cls=.type "tuple"/\o.data=.seq b n/\b.size<=c8/\Vals xs b.toList
abbrev MD:g8->Option V
 |.none=>bD .Nz
 |.bool b=>bD (.bl b)
 |.int i _=>bD (.int i)
 |.str x _=>bD (.str x)
 |.bytes b _=>bD (.Rb b)
 |.float b _=>bD (.Vp b)
 |.ref a=>bD (.ref a)
 |.type n=>bD (.ty n)
 |_=>cc
def RelV.abs(r:RelV x u):MD u≈x:=by
 cases x with
 |Nz=>cases r;rfl
 |bl _=>cases r;rfl
 |ref _=>cases r;rfl
 |ty _=>cases r;rfl
 |_=>have(t,rfl):=r;rfl
def RelV.inj(r:RelV x u)(q:RelV y u):x=y:=vu (r.abs.symm.trans q.abs)
theorem Vals.inj:∀{xs ys}{us},Vals xs us->Vals ys us->xs=ys
 |_,_,_,.nil,.nil=>rfl
 |_,_,_,.cons r t,.cons a t'=>by rw[r.inj a,Vals.inj t t']
def N_.of{K}(h:H a≈.lst xs):N_ K H a xs:=.inl (.inl h)
def Oi.of{K}(h:H a≈.tup xs):Oi K H a xs:=.inl (.inl h)
inductive IvL(s:i4)(a:hH)(xs:↑V):Prop
 |mk (J':↑g8):Vals xs J'->PlainL s.heap a J'.toArray->⇑xs<=c8->IvL s a xs
def Inv.list(I:Inv X pins σ H s)(h:N_ X.K H a xs):IvL s a xs:=by
 rcases h with h|⟨o,b,n,hk,c,d,hs,hz,r⟩
 .have(z,b,n,r,e):=h.ok I.Ny;show#[b,r,#[_,n,e,rfl,rfl,rfl],z]
 .show#[b.toList,r,#[o,n,I.Ph a o hk,c,d,by exists hs],?_];have e:=⇑r;erw[p7]at e;lia
inductive IvT(s:i4)(a:hH)(xs:↑V):Prop
 |mk (J':↑g8):Vals xs J'->Yt s.heap a J'.toArray->⇑xs<=c8->IvT s a xs
def Inv.tuple(I:Inv X pins σ H s)(h:Oi X.K H a xs):IvT s a xs:=by
 rcases h with h|⟨o,b,n,hk,c,hs,hz,r⟩
 .have(z,b,r,p):=h.ok I.Ny;show#[b,r,p,z]
 .show#[b.toList,r,#[o,I.Ph a o hk,c,n,by exists hs],?_];have e:=⇑r;erw[p7]at e;lia
def Inv.mO(I:Inv X pins σ H s)(h:N_ X.K H a xs)(h':N_ X.K H a ys):xs=ys:=by
 have(b,r,(o,n,e,_,_,d),_):=I.list h;have(its',c,(f,g,i,_,_,d'),_):=I.list h';have:b=its':=⋯
 subst this;show r.inj c
def Inv.oV(I:Inv X pins σ H s)(h:Oi X.K H a xs)(h':Oi X.K H a ys):xs=ys:=by
 have(b,r,(o,e,_,n,d),_):=I.tuple h;have(its',c,(f,g,_,i,d'),_):=I.tuple h';have:b=its':=⋯
 subst this;show r.inj c
@[reducible]noncomputable def Cx.gN(X:Cx)(E:g8->i4->Prop):Cx:={X with xe:=E}
@[reducible]noncomputable def Cx.OZ(X:Cx):Cx:=X.gN λ_ _=>False
def Cx.Ok.gN{X:Cx}(a:X.Ok)(E):(X.gN E).Ok :=
 #[a.mod,a.kind,a.glob,a.blt,a.above,a.inj,a.has,a.TF,a.hd,a.frames,a.UM,a.WN,a.bs,a.Rc,a.Qe,a.QH,a.jC,a.R8]
def Cx.Ok.dE{X:Cx}(a:(X.gN E).Ok):X.Ok :=
 #[a.mod,a.kind,a.glob,a.blt,a.above,a.inj,a.has,a.TF,a.hd,a.frames,a.UM,a.WN,a.bs,a.Rc,a.Qe,a.QH,a.jC,a.R8]
def Inv.gN(I:Inv X pins σ H s)(E):Inv (X.gN E) pins σ H s:=#[I.ok.gN E,I.os,I.bare,I.base,I.loc,I.cell,I.free,I.N2,I.pin,I.Ny,I.len]
def Inv.dE(I:Inv (X.gN E) pins σ H s):Inv X pins σ H s:=#[I.ok.dE,I.os,I.bare,I.base,I.loc,I.cell,I.free,I.N2,I.pin,I.Ny,I.len]
def SP.dE(h:SP (X.gN E) pins D f b):SP X pins D f b:=by
 cases f with
 |ret u=>have(v,a,H',I,r,q):=h;show#[v,a,H',I.dE,r,q]
 |_=>have(a,H',I,q):=h;show#[a,H',I.dE,q]
def OT.OZ{st}(h:OT X.OZ st t):OT X st t:=λpins s σ H D I a =>
 lg (h pins s σ H D (I.gN _) a) (λ_ _ q=>q.dE) λ_ _ z=>Hf z
section
variable{X:Cx}{st:va}{rest:List va}{t u:TS}{e:jw}{te:TE}{pos:Pos}
abbrev Al:TS:=λD σ H=>D.nx σ H
abbrev Hi(t u:TS):TS:=λD σ H=>t {D with nx:=u D} σ H
def iE:OT X [] Al:=λ_ _ σ H _ I h=>R5 #[σ,H,I,h]
def dy(a:PS X st t)(b:OT X rest u):OT X (st::rest) (Hi t u):=by
 intro pins s σ H D I h;show Zg (ND (a pins s σ H _ I h) λf s1 q=>?_);cases f with
 |next =>
  have(c,H',d,q):=q;show b pins s1 c H' D d q
 |_=>show q
def Inv.quiet(I:Inv X pins σ H s):interactive X.env=cK:=by simp[interactive,I.ok.kind]
abbrev Am(te:TE):TS:=λD σ H=>te σ H λ_ a=>D.nx σ a
def iF(a:PE X e te)(hs:QA e cc pos.line X.env=pure cK:=by rfl):PS X (.Expr e pos) (Am te):=by
 intro pins s σ H D I h;show wpAny_Expr_any (ND (a pins s σ H _ I h) λv s1 ⟨x,b,c,f,d⟩=>#[σ,b,c,d]) I.quiet hs
abbrev ME(te:TE):TS:=λD σ H=>te σ H D.rt
def Hj(a:PE X e te):PS X (.Return (bD e) pos) (ME te):=by
 intro pins s σ H D I h;show YZ (ND (a pins s σ H _ I h) λv s1 ⟨x,b,c,d,f⟩=>#[x,σ,b,c,d,f])
abbrev Kf(c:TT)(t u:TS):TS:=λD σ H=>c σ H λb a=>if b=b6 then t D σ a else u D σ a
def Gg(k:PT X c l)(m:OT X a t)(n:OT X b u):PS X (.If c a b pos) (Kf l t u):=by
 intro pins s σ H D I h;show wpAny_If (ND (k pins s σ H _ I h) λd s1 f=>?_);have(g,i,j):=f;cases d with
 |true=>show m pins s1 σ g D i j
 |false=>show n pins s1 σ g D i j
end
@[reducible]noncomputable def TG:=V->St->Hp->(St->Hp->Prop)->Prop
@[reducible]noncomputable def UQ:=↑V->St->Hp->(St->Hp->Prop)->Prop
abbrev PG(X:Cx)(a:jw)(t:TG):Prop :=
 ∀(pins:↑(hH×Obj)) (s:i4) (σ:St) (H:Hp) (v:V) (u:g8) (Q:St->Hp->Prop),Inv X pins σ H s->RelV v u->t v σ H Q ->
  ‹X› (Vu a X.env u) (λ_ c=>∃b H',Inv X pins b H' c/\Q b H') X.xe s
abbrev Vx(X:Cx)(ts:↑jw)(t:UQ):Prop :=
 ∀(pins:↑(hH×Obj)) (s:i4) (σ:St) (H:Hp) (vs:↑V) (us:↑g8) (Q:St->Hp->Prop),Inv X pins σ H s->Vals vs us->t vs σ H Q ->
  ‹X› (assignInOrder ((Sj ts X.env).map (·.2)) us) (λ_ b=>∃a H',Inv X pins a H' b/\Q a H') X.xe s
@[reducible]noncomputable def Hk:=V->V->V->Hp->(Hp->Prop)->Prop
abbrev p_(X:Cx)(t:Hk):Prop :=
 ∀(pins:↑(hH×Obj)) (s:i4) (σ:St) (H:Hp) (o i v:V) (a b u:g8) (Q:Hp->Prop),Inv X pins σ H s->RelV o a->RelV i b->RelV v u->t o i v H Q ->
  ‹X› (WZ a b u) (λ_ c=>∃H',Inv X pins σ H' c/\Q H') X.xe s
@[reducible]noncomputable def XJ:=V->V->Hp->VK->Prop
abbrev WQ(X:Cx)(op:ē)(t:XJ):Prop :=
 ∀(pins:↑(hH×Obj)) (s:i4) (σ:St) (H:Hp) (x y:V) (v u:g8) (Q:VK),Inv X pins σ H s->RelV x v->RelV y u->t x y H Q ->
  ‹X› (inplaceOp op v u) (EP X pins σ Q) X.xe s
abbrev kS(i:Nat):TG:=λv σ H Q=>Q (σ.set i (bD v)) H
def qa(a:X.N.Nodup)(hi:X.N[i]?≈x)(b:Loc X.env.scope x)(c:X.fn x=b6\/X.env.scope.names.lookup x≈.local:=by first|show .inl rfl|show .inr rfl|assumption):PG X (.Name x pos) (kS i):=by
 intro pins s σ H v u Q I r h;show ĳ (jE I a hi b r (λe d=>#[_,H,d,h]) c)
abbrev Kg:UQ:=λvs σ H Q=>vs=[]/\Q σ H
abbrev Gh(t:TG)(u:UQ):UQ:=λvs σ H Q=>∃v r,vs=v::r/\t v σ H λa H'=>u r a H' Q
def DC:Vx X [] Kg:=by
 intro pins s σ H vs us Q I r h;have(e,h):=h;show assignInOrder_nil #[σ,H,I,h]
def An(b:PG X e t)(c:Vx X es u)
  (hs:(Sj (e::es) X.env).map (·.2)=Vu e X.env::(Sj es X.env).map (·.2):=by rfl):Vx X (e::es) (Gh t u):=by
 intro pins s σ H vs us Q I r h;have(v,l,d,h):=h;subst d;cases r with
 |cons r f =>
  rw[hs];show assignInOrder_cons (ND (b pins s σ H _ _ _ I r h) λ_ s1 a=>?_);have(g,i,j,k):=a;show c pins s1 g i _ _ Q j f k
abbrev MF(K:W.Frag)(n:Nat)(t:UQ):TG:=λv σ H Q=>∃a xs,v=.ref a/\Oi K H a xs/\⇑xs=n/\t xs σ H Q
def Hl(d:X.calm=b6)(h:Vx X es t)
  (hn:⇑(Sj es X.env)=n:=by rfl) (f:(Sj es X.env).findIdx? (·.1)=cc:=by rfl):PG X (.Tuple es k pos) (MF X.K n t):=by
 intro pins s σ H v u Q I r c;have(a,xs,g,i,hl,c):=c;subst g;cases r;have(p,rv,j,hz):=I.tuple i;show assign_Tuple_tuple (I.ok.hd d) j (by simp[hn,<-hl,⇑rv]) f λh' l=>?_;have m:=I.kept (t':=s.toks) λb o e=>l b o (i9 (hW e)) e;show h pins _ σ H xs _ Q m ⋯ c
abbrev MG(a b:TE)(t:Hk):TG:=λv σ H Q=>a σ H λo c=>b σ c λi d=>t o i v d λe=>Q σ e
def Ao(ho:PE X o d)(hi:PE X i e)(hs:p_ X t)
  (f:∀v,Vu (.Subscript o i pos) X.env v=(do
   let a <-KX [v] (p8 o X.env)
   let b <-KX [v,a] (p8 i X.env)
   WY pos
   KX [v,a,b] (WZ a b v)
   Y0 [v,a,b] []):=by intro _;rfl):PG X (.Subscript o i pos) (MG d e t):=by
 intro pins s σ H v u Q I r h;rw[f];show cL (tr (ND (ho pins s σ H _ I h) λa s1 c=>?_));have(x,g,j,k,l):=c;show cL (tr (ND (hi pins s1 σ g _ j l) λb m n=>?_));have(y,p,q,w,z):=n;show cL (Õ (cL (tr (ND (hs pins m σ p x y v a b u _ q k w r z) λ_ G A=>?_))));have(B,C,D):=A;show wpAny_release #[σ,B,C,D]
abbrev yp(a:TE)(g:TG):TS:=λD σ H=>a σ H λx b=>g x σ b D.nx
def uE(a:PE X e b)(c:PG X tg g)(hs:Wk [tg] e pos.line X.env=pure cK:=by rfl)(d:Yr [tg] e X.env=pure cc:=by rfl)
  (f:(Sj [tg] X.env).map (·.2)=[Vu tg X.env]:=by rfl):PS X (.Assign [tg] e pos) (yp b g):=by
 intro pins s σ H D I h;show wpAny_Assign_stores (ND (a pins s σ H _ I h) λv s1 ⟨x,i,j,k,l⟩=>?_) hs d;rw[f];show ND (c pins s1 σ i x v _ j k l) λ_ m q=>q
def mP(b:X.N.Nodup)(hi:X.N[i]?≈x)(c:Loc X.env.scope x)(d:PE X e f)(hs:QA e (bD (.Name x a)) pos.line X.env=pure cK:=by rfl)(g:X.fn x=b6\/X.env.scope.names.lookup x≈.local:=by first|show .inl rfl|show .inr rfl|assumption):
  PS X (.Assign [.Name x a] e pos) (yp f (kS i)):=by
 intro pins s σ H D I h;show Ĵ (ND (d pins s σ H _ I h) λv s1 ⟨y,j,k,l,m⟩=>?_) hs;show jE k b hi c l (λo n=>#[_,j,n,m]) g
abbrev Kh(a b c:TE)(d:V->V->Hp->VK->Prop)(e:XJ)(f:Hk):TS:=λD σ H=>a σ H λo g=>b σ g λi h=>d o i h λx j=>c σ j λy k=>e x y k λz l=>f o i z l λm=>D.nx σ m
abbrev Ki(X:Cx)(t:V->V->Hp->VK->Prop):Prop :=
 ∀(pins:↑(hH×Obj)) (s:i4) (σ:St) (H:Hp) (o i:V) (a b:g8) (Q:VK),Inv X pins σ H s->RelV o a->RelV i b->t o i H Q ->
  ‹X› (U6 a b) (EP X pins σ Q) X.xe s
def DF(ho:PE X o l)(hi:PE X i m)(n:Ki X p)(q:PE X e r)(t:WQ X op u)(hs:p_ X w)
  (x:∀a b new,Ū i a b new=(do KX [new,a,b] (WZ a b new);Y0 [new,a,b] [];pure .next):=by intros;rfl):PS X (.AugAssign (.Subscript o i d) op e pos) (Kh l m r p u w):=by
 intro pins s σ H D I h;show wpAny_AugAssign_SubscriptAny (ND (ho pins s σ H _ I h) λa s1 ⟨f,y,z,g,A⟩=>?_) x;show ND (hi pins s1 σ y _ z A) λb B C=>?_;have(j,G,J,k,L):=C;show ND (n pins B σ G f j a b _ J g k L) λc N O=>?_;have(Q,T,Y,r3,q3):=O;show ND (q pins N σ T _ Y q3) λv s4 XS=>?_;have(x4,H4,I4,r4,q4):=XS;show ND (t pins s4 σ H4 Q x4 c v _ I4 r3 r4 q4) λnew s5 XT=>?_;have(x5,H5,I5,r5,q5):=XT;show ND (hs pins s5 σ H5 f j x5 a b new _ I5 g k r5 q5) λ_ s6 ⟨H6,I6,q6⟩=>#[σ,H6,I6,q6]
abbrev XU(f:Int->Int->Int):XJ:=λx y H Q=>∃i j,x=.int i/\y=.int j/\Q (.int (f i j)) H
def Hm:WQ X .Add (XU λi j=>i+j):=by
 intro pins s σ H x y v u Q I a b h;have(i,j,c,d,q):=h;subst c;subst d;have(t,rfl):=a;have(t',rfl):=b;show iadd_int #[.int _,H,I.tok _,#[_,rfl],q]
def Hn:WQ X .Sub (XU λi j=>i - j):=by
 intro pins s σ H x y v u Q I a b h;have(i,j,c,d,q):=h;subst c;subst d;have(t,rfl):=a;have(t',rfl):=b;show isub_int #[.int _,H,I.tok _,#[_,rfl],q]
abbrev Ho(c:TT)(tb:TS):TS:=λD σ H=>∃W:Nat->St->Hp->Prop,(∃m,W m σ H)/\∀m σ H,W m σ H ->
 c σ H λb a=>if b=b6 then ∃N:St->Hp->Prop,(∀d H',N d H'->∃e,e<m/\W e d H')/\tb {D with nx:=N,ct:=N,bk:=D.nx} σ a else D.nx σ a
def Ap(q:Zn (gs X.prog X.w) X.A X.env X.xe)(y:PT X c z)(B:OT X body tb):PS X (.While c body [] pos) (Ho z tb):=by
 intro pins s σ H D I h;have(W,(m0,C),a):=h;show wpAny_While (codeAny_whileLoop (λn G=>∃r H',Inv X pins r H' G/\W n r H') ?_ m0 ⟨σ,H,I,C⟩);rintro n s1 ⟨g,t,J,L⟩;show Qv q (ND (y pins s1 g t _ J (a n g t L)) λb O Q=>?_);have(u,v,i):=Q;cases b with
 |true =>
  have(N,x,i):=i;show Qv q (ND (B pins O g u _ v i) λf T j=>?_);cases f with
  |next =>
   have(d,e,k,l):=j;have(m,o,p):=x d e l;show#[m,o,d,e,k,p]
  |cont =>
   have(d,e,k,l):=j;have(m,o,p):=x d e l;show#[m,o,d,e,k,p]
  |_=>show j
 |false =>
  show R5 #[g,u,v,i]
structure It where
 go:Nat->Hp->Prop
 UR:Nat->Hp->V->Hp->Prop
 stop:Nat->Hp->Prop
abbrev gL(X:Cx)(pins:↑(hH×Obj))(H:Hp)(b:hH):Prop :=
 H b=cc/\b≠X.env.locals/\b∉X.fs/\(b∈X.ex\/↥X.s₀<=b)/\(∀x c,X.env.cells.lookup x≈c->c≠b)/\∀p∈X.pn++pins,p.1≠b
def Inv.yq(I:Inv X pins σ H s)(a:↥s<=b)(hn:H' b=cc):gL X pins H' b:=by
 show#[hn,DD (jn I.lt a),I.J_ a,.inr (qv I.sz a),λx c e z=>?_,λp d z=>?_]
 .have(v,q):=I.cell x c e;show absurd (jn q.lt ⋯) (sP _)
 .show absurd (jn (hW (I.pin p d).1) ⋯) (sP _)
structure Turn(P:rS)(w:wk)(K:W.Frag)(tg:jw)(J:It)(fp:↑hH)(it:hH)(tn:Nat->K2->Prop):Prop where
 mem:it∈fp
 obj:∀i h,tn i h->∀b∈fp,∃o,h.get? b≈o/\∀v,o.data≠.cell v
 keep:∀i h h',tn i h->(∀b∈fp,∀o,h.get? b≈o->h'.get? b≈o)->tn i h'
 item:∀(X:Cx),X.prog=P->X.w=w->X.K=K->X.calm=b6->∀(i:Nat) (pins:↑(hH×Obj)) (s:i4) (σ:St) (H:Hp) (E:g8->i4->Prop),Inv X pins σ H s->(∀b∈fp,gL X pins H b)->tn i s.heap->J.go i H ->
  f6 (gs P w) X.A (Tx (.ref it)) (λr s1=>∃u,r≈u /\
   f6 (gs P w) X.A (XG tg (.ref it) u) (λ_ s2=>∃x H',Inv X pins σ H' s2/\RelV x u/\J.UR i H x H'/\tn (i+1) s2.heap/\∀b∈fp,H' b=cc) E s1) E s
 done:∀(X:Cx),X.prog=P->X.w=w->X.K=K->X.calm=b6->∀(i:Nat) (pins:↑(hH×Obj)) (s:i4) (σ:St) (H:Hp) (E:g8->i4->Prop),Inv X pins σ H s->(∀b∈fp,gL X pins H b)->tn i s.heap->J.stop i H ->
  f6 (gs P w) X.A (Tx (.ref it)) (λr s1=>r=cc/\Inv X pins σ H s1) E s
 self:∀(A:Ux) (i:Nat) (s:i4) (Q:g8->i4->Prop) (E:g8->i4->Prop),tn i s.heap->Q (.ref it) s->f6 (gs P w) A (Zk (.ref it)) Q E s
@[reducible]noncomputable def TI:=St->Hp->(It->Hp->Prop)->Prop
inductive XX(X:Cx)(pins:↑(hH×Obj))(σ:St)(tg:jw)(R:It->Hp->Prop)(Vy:g8)(s2:i4):Prop
 |mk (it:hH) (fp:↑hH) (tn:Nat->K2->Prop) (J:It) (H':Hp):Vy=.ref it->Inv X pins σ H' s2->Turn X.prog X.w X.K tg J fp it tn->tn 0 s2.heap->(∀b∈fp,gL X pins H' b)->R J H'->XX X pins σ tg R Vy s2
abbrev PI(X:Cx)(tg a:jw)(b:TI):Prop :=
 ∀(pins:↑(hH×Obj)) (s:i4) (σ:St) (H:Hp) (R:It->Hp->Prop),Inv X pins σ H s->b σ H R ->
  ‹X› (p8 a X.env) (λv s1=>‹X› (Zk v) (XX X pins σ tg R) X.xe s1) X.xe s
def r6(ho:s.heap.get? it≈o)(b:o.cls=.type n)(c:o.data=.fields vs)
    (hn:["enumerate","zip","dict_itemiterator","dict_reverseitemiterator","odict_iterator","itertools.zip_longest","itertools.pairwise"].contains n=cK) (a:Q () s):f6 M A (XG tg (.ref it) u) Q E s:=by
  cases tg<;>first
    | show dV a
    | (cases u<;>first
        | show dV a
        | (show cL (Ġ ho ?_)
           rw[b,c];change f6 M A (if (["enumerate","zip","dict_itemiterator","dict_reverseitemiterator","odict_iterator","itertools.zip_longest","itertools.pairwise"].contains n&&vs[0]?==bD _)=b6 then _ else _) Q E s;rw[Ŷ (by grind)];show dV a))
abbrev US(K:W.Frag)(a:hH):It :=
 #[λi H=>∃xs x,N_ K H a xs/\xs[i]?≈x,λi H x H'=>H'=H/\∀xs,N_ K H a xs->xs[i]?≈x,λi H=>∃xs,N_ K H a xs/\⇑xs<=i]
abbrev XY(K:W.Frag)(a:hH):It :=
 #[λi H=>∃xs x,Oi K H a xs/\xs[i]?≈x,λi H x H'=>H'=H/\∀xs,Oi K H a xs->xs[i]?≈x,λi H=>∃xs,Oi K H a xs/\⇑xs<=i]
abbrev Vz(lo:Int)(n:Nat):It:=#[λi _=>i<n,λi H x H'=>H'=H/\x=.int (lo+i),λi _=>n<=i]
def oW{K}(a it):Turn P w K tg (US K a) [it] it (λi h=>h.IsListIter it a i) where
 mem:=⋯
 obj:=λi h st b f=>by
  have(o,e,c,d):=st;simp_all
 keep:=λi h h' st k=>st.at λo e=>k it ⋯ o e
 item:=by
  intro X l m n B i pins s σ H E I g st q;subst l m n;have(xs,x,j,r):=q;have(C,rv,p,hz):=I.list j;have(u,Q,D):=rv.get r;have(t,v,G,y,z,A):=g it ⋯;show ì st p.isList (x:=u) ⋯ λh' st' J=>?_;have L:=I.turned (t':=s.toks) (λb o f e=>(J.2 b f).trans e) t v y z A;have(o,e,c,d):=id st';show#[u,rfl,r6  e c d ⋯ #[x,H,L,D,#[rfl,λys N=>by rw[I.mO N j];show r],st',λb f=>(g b f).1]]
 done:=by
  intro X l m n B i pins s σ H E I g st q;subst l m n;have(xs,j,r):=q;have(C,rv,p,hz):=I.list j;have(t,v,G,y,z,A):=g it ⋯;have hl:=⇑rv;show wpAny_pyNext_list_end (I.ok.hd B) st p.isList ⋯ λh' O=>#[rfl,I.turned  (λb o f e=>O b o f e) t v y z A]
 self:=λ_ _ _ _ _ st h=>wpAny_pyIter_listiter st h
def uF{K}(a it):Turn P w K tg (XY K a) [it] it (λi h=>h.IsTupleIter it a i) where
 mem:=⋯
 obj:=λi h st b f=>by
  have(o,e,c,d):=st;simp_all
 keep:=λi h h' st k=>st.at λo e=>k it ⋯ o e
 item:=by
  intro X l m n B i pins s σ H E I g st q;subst l m n;have(xs,x,j,r):=q;have(C,rv,p,hz):=I.tuple j;have(u,Q,D):=rv.get r;have(t,v,G,y,z,A):=g it ⋯;show wpAny_pyNext_tuple_item st (p) (x:=u) ⋯ λh' st' J=>?_;have L:=I.turned (t':=s.toks) (λb o f e=>(J.2 b f).trans e) t v y z A;have(o,e,c,d):=id st';show#[u,rfl,r6  e c d ⋯ #[x,H,L,D,#[rfl,λys N=>by rw[I.oV N j];show r],st',λb f=>(g b f).1]]
 done:=by
  intro X l m n B i pins s σ H E I g st q;subst l m n;have(xs,j,r):=q;have(C,rv,p,hz):=I.tuple j;have(t,v,G,y,z,A):=g it ⋯;have hl:=⇑rv;show wpAny_pyNext_tuple_end (I.ok.hd B) st (p) ⋯ λh' O=>#[rfl,I.turned  (λb o f e=>O b o f e) t v y z A]
 self:=λ_ _ _ _ _ st h=>wpAny_pyIter_tupleiter st h
def uG{K}(it)(lo)(n):Turn P w K tg (Vz lo n) [it] it (λi h=>IsRangeIter h it (lo+(i:Nat) * 1) ((n:Int) - (i:Nat)) 1) where
 mem:=⋯
 obj:=λi h st b a=>by
  simp_all
 keep:=λi h h' st k=>k it ⋯ _ st
 item:=by
  intro X q r u d i pins s σ H E I c st f;subst q r u;have(g,j,x,l,m,p):=c it ⋯;have W:=Walks.range (prog:=X.prog) (w:=X.w) (I.ok.hd d) it lo 1 n;show W.item i s _ _ f st λv h' tk y st' z=>?_;have(t,rfl):=y;have A:Inv X pins σ H {s with heap:=h',toks:=tk}:=I.turned (λb o a e=>z b o (by exists a) e) g j l m p;show#[_,rfl,r6   st' rfl rfl ⋯ #[.int _,H,A,#[t,?_],#[rfl,rfl],st',λb a=>(c b a).1]];simp
 done:=by
  intro X q r u d i pins s σ H E I c st f;have(g,j,x,l,m,p):=c it ⋯;show wpAny_pyNext_range_end (I.ok.hd d) st (by have:n<=i:=f;lia) λh' B=>#[rfl,I.turned  (λb o a e=>B b o a e) g j l m p]
 self:=λ_ _ _ _ _ st h=>wpAny_pyIter_rangeiter st h
abbrev Kj(K:W.Frag)(tl:TE):TI:=λσ H R=>tl σ H λx b=>∃a,x=.ref a/\(∃xs,N_ K b a xs)/\R (US K a) b
abbrev MH(K:W.Frag)(tl:TE):TI:=λσ H R=>tl σ H λx b=>∃a,x=.ref a/\(∃xs,Oi K b a xs)/\R (XY K a) b
def DG(hl:PE X l tl):PI X tg l (Kj X.K tl):=by
 intro pins s σ H R I h;show ND (hl pins s σ H _ I h) λv s1 d=>?_;have(x,f,c,g,i):=d;have(a,e,(xs,j),q):=i;subst e;cases g;have(m,rv,p,hz):=c.list j;show VZ p.isList ?_;show#[_,_,_,_,f,rfl,c.kept  λb o e=>dt _ e,oW a _,#[_,gj _ rfl,rfl,rfl],λb k=>?_,q];have e:=by exists k
 subst e;show c.yq (hY _) (c.Ny.fresh (hY _))
def Hq(hl:PE X l tl):PI X tg l (MH X.K tl):=by
 intro pins s σ H R I h;show ND (hl pins s σ H _ I h) λv s1 d=>?_;have(x,f,c,g,i):=d;have(a,e,(xs,j),q):=i;subst e;cases g;have(m,rv,p,hz):=c.tuple j;show Sf (p) ?_;show#[_,_,_,_,f,rfl,c.kept  λb o e=>dt _ e,uF a _,#[_,gj _ rfl,rfl,rfl],λb k=>?_,q];have e:=by exists k
 subst e;show c.yq (hY _) (c.Ny.fresh (hY _))
def r9{lo hi}(I:Inv X pins σ H s)(c:-(2 ^ 62)<=lo)(d:lo<2 ^ 62)(f:-(2 ^ 62)<=hi)(g:hi<2 ^ 62)
  (q:R (Vz lo (hi - lo).toNat) H):‹X› (Zk (.ref ↥s)) (XX X pins σ tg R) E {s with heap:=s.heap.push {cls:=.type "range",data:=.fields #v[.int lo t,.int hi u,.int 1 v]},toks:=tk}:=by
 show wpAny_pyIter_range (IsRange.new ..) (small_one c d f g) ?_;have a:Inv X pins σ H {s with heap:=s.heap.push {cls:=.type "range",data:=.fields #v[.int lo t,.int hi u,.int 1 v]},toks:=tk}:=I.kept λb o e=>dt _ e;show#[_,_,_,_,H,rfl,
  a.kept  λb o e=>dt _ e,uG _ lo _,?_,λb h=>?_,q]
 .have i:lo+(0:Nat) * 1=lo:=⋯
  have j:(hi - lo).toNat - (0:Nat)=ő lo hi 1:=by rw[rangeSize_one];lia
  rw[i,j];show gj _ rfl
 .have e:b=(s.heap.push {cls:=.type "range",data:=.fields #v[.int lo t,.int hi u,.int 1 v]}).objs.size:=by exists h
  subst e;show a.yq (hY _) (a.Ny.fresh (hY _))
abbrev Kk(a:TA):TI:=λσ H R=>a σ H λvs b=>∃j:Int,vs=[.int j]/\-(2 ^ 62)<=j/\j<2 ^ 62/\R (Vz 0 j.toNat) b
abbrev Kl(a:TA):TI:=λσ H R=>a σ H λvs b=>∃i j:Int,vs=[.int i,.int j]/\(-(2 ^ 62)<=i/\i<2 ^ 62/\-(2 ^ 62)<=j/\j<2 ^ 62)/\R (Vz i (j - i).toNat) b
def yr(c:Gl X "range")(d:X.mg "range"=cc)(f:PA X [a] g)(hs:i0 [a] X.env=[(cK,p8 a X.env)]:=by rfl):PI X tg (.Call (.Name "range" p) [a] [] pos) (Kk g):=by
 intro pins s σ H R I h;show Call_ (dC I c d boot_range (x8 (ND (f pos pins s σ H _ I h) λus s1 ⟨vs,n,i,k,b⟩=>?_) hs rfl));have(j,e,b,l,q):=b;subst e;cases k with
 |cons r m =>
  cases m;have(t,rfl):=r;show call_range_1 (r9 i ⋯ ⋯ b l ⋯)
def yt(f:Gl X "range")(g:X.mg "range"=cc)(k:PA X [a,b] l)(hs:i0 [a,b] X.env=[(cK,p8 a X.env),(cK,p8 b X.env)]:=by rfl)(m:i0 [b] X.env=[(cK,p8 b X.env)]:=by rfl):
  PI X tg (.Call (.Name "range" p) [a,b] [] pos) (Kl l):=by
 intro pins s σ H R I h;show Call_ (dC I f g boot_range (x8 (ND (k pos pins s σ H _ I h) λus s1 ⟨vs,y,n,o,c⟩=>?_) ⋯ (by rw[m];rfl)));have(i,j,e,(c,u,v,w),q):=c;subst e;cases o with
 |cons r d =>
  cases d with
  |cons x d =>
   cases d;have(t,rfl):=r;have(t',rfl):=x;show call_range_2 (r9 n c u v w q)
abbrev MI(c:TI)(g:TG)(tb:TS):TS:=λD σ H=>c σ H λJ d=>∃W:Nat->Nat->St->Hp->Prop,(∃m,W 0 m σ d)/\∀i m σ H,W i m σ H ->
 (J.stop i H/\D.nx σ H)\/(J.go i H/\∃N:St->Hp->Prop,(∀a H',N a H'->∃b,b<m/\W (i+1) b a H')/\∀x H',J.UR i H x H'->g x σ H' λe f=>tb {D with nx:=N,ct:=N,bk:=D.nx} e f)
abbrev qb(a:↑hH)(h:K2):↑(hH×Obj):=a.filterMap λb=>(h.get? b).map λo=>(b,o)
def fU(a:b∈c)(e:h.get? b≈o):(b,o)∈qb c h:=RH.mpr #[b,a,by rw[e];rfl]
def yu(a:p∈qb c h):p.1∈c/\h.get? p.1≈p.2:=by
 have(b,d,e):=RH.mp a;cases q:h.get? b with
 |none=>simp_all
 |some o =>
  rw[q]at e;have f:=vu e;subst f;show#[d,q]
def Inv.pinned(I:Inv X pins σ H s)(f:∀b∈a,gL X pins H b)(ho:∀b∈a,∃o,s.heap.get? b≈o/\∀v,o.data≠.cell v):Inv X (pins++qb a s.heap) σ H s :=
 I.iD λp g=>(i7.mp g).elim (λz=>I.pin p (pz _ z)) λz=>by
  have(c,e):=yu z;have(h,i,j,_):=f p.1 c;have(o,k,d):=ho p.1 c;simp_all
def Inv.mQ(I:Inv X (pins++b) σ H s):Inv X pins σ H s:=I.iD λp a=>I.pin p (pz _ (TX _ a))
def Hr(q:Zn (gs X.prog X.w) X.A X.env X.xe)(hc:X.calm=b6)(hi:PI X tg l wi)(hg:PG X tg g)(a:OT X body tb)
  (hs:∀x,Cd l X.env x=pure x:=by intro _;rfl):PS X (.For tg l body [] pos) (MI wi g tb):=by
 intro pins s σ H D I h;show wpAny_For (ND (hi pins s σ H _ I h) λv s1 h1=>ND h1 λVy s2 h2=>?_) hs;have(it,C,tn,J,H2,e,I2,T,st2,f2,W,(m0,w0),t):=h2;subst e;have L:∀{H':Hp},(∀b∈C,H' b=cc)->∀b∈C,gL X pins H' b:=λhn b a=>#[hn b a,(f2 b a).2]
 show codeAny_forLoop_any (λn s'=>∃i y H',Inv X pins y H' s'/\tn i s'.heap/\(∀b∈C,H' b=cc)/\W i n y H') ?_ m0 ⟨0,σ,H2,I2,st2,λb a=>(f2 b a).1,w0⟩;rintro n s3 ⟨i,z,G,I3,Oa,VA,w3⟩;rcases t i n z G w3 with⟨B,qn⟩|⟨go,N,hN,Č⟩
 .show Qv q (ND (T.done X rfl rfl rfl hc i pins s3 z G X.xe I3 (L VA) Oa B) λr s4 X1=>?_);have(O,I4):=X1;subst O;show R5 #[z,G,I4,qn]
 .show Qv q (ND (T.item X rfl rfl rfl hc i pins s3 z G X.xe I3 (L VA) Oa go) λr s4 X2=>?_);have(u,O,h4):=X2;subst O;show Qv q (ND h4 λ_ s5 X3=>?_);have(x,H5,I5,r5,y5,Q,X4):=X3;have X5:=I5.pinned (L X4) (T.obj _ _ Q);show Qv q (ND (hg _ s5 z H5 x u _ X5 r5 (Č x H5 y5)) λ_ s6 X6=>?_);have(σ6,H6,I6,q6):=X6;show Qv q (ND (a _ s6 σ6 H6 _ I6 q6) λf s7 p=>?_);have again:∀{c:St} {j:Hp},Inv X _ c j s7->N c j->∃m,m<n/\∃i y H',Inv X pins y H' s7/\tn i _/\(∀b∈C,H' b=cc)/\W i m y H':=λ{c j} k Y=>by
   have(m',hm,w7):=hN c j Y;show#[m',hm,i+1,c,j,k.mQ,T.keep _ _ _ Q λb a o e=>(k.pin (b,o) (pz _ (pz _ (fU a e)))).1,λb a=>?_,w7];have(o,e,d):=T.obj _ _ Q b a;show(k.pin _ (pz _ (pz _ (fU a e)))).2.1
  cases f with
  |brk=>have(c,j,k,p):=p;show#[c,j,k.mQ,p]
  |ret v=>have(x7,c,j,k,r7,p):=p;show#[x7,c,j,k.mQ,r7,p]
  |_=>have(c,j,k,Y):=p;show again k Y
@[reducible]noncomputable def R2:=V->V->Hp->VK->Prop
abbrev O3(X:Cx)(f:g8->g8->Sem g8)(r:R2):Prop :=
 ∀(pins:↑(hH×Obj)) (s:i4) (σ:St) (H:Hp) (x y:V) (v u:g8) (Q:VK),Inv X pins σ H s->RelV x v->RelV y u->r x y H Q ->
  ‹X› (f v u) (EP X pins σ Q) X.xe s
abbrev X7(X:Cx)(f:g8->Sem g8)(r:V->Hp->VK->Prop):Prop :=
 ∀(pins:↑(hH×Obj)) (s:i4) (σ:St) (H:Hp) (x:V) (v:g8) (Q:VK),Inv X pins σ H s->RelV x v->r x H Q ->
  ‹X› (f v) (EP X pins σ Q) X.xe s
abbrev gF(X:Cx)(f:g8)(r:↑V->Hp->VK->Prop):Prop :=
 ∀(pins:↑(hH×Obj)) (s:i4) (σ:St) (H:Hp) (xs:↑V) (us:↑g8) (Q:VK),Inv X pins σ H s->Vals xs us->r xs H Q ->
  ‹X› (Qt f us) (EP X pins σ Q) X.xe s
abbrev MJ(X:Cx)(r:V->Hp->(Bool->Hp->Prop)->Prop):Prop :=
 ∀(pins:↑(hH×Obj)) (s:i4) (σ:St) (H:Hp) (x:V) (v:g8) (Q:Bool->Hp->Prop),Inv X pins σ H s->RelV x v->r x H Q ->
  ‹X› (ģ v) (TP X pins σ Q) X.xe s
abbrev WR(r:R2)(a tb:TE):TE:=λσ H Q=>a σ H λx b=>tb σ b λy c=>r x y c Q
abbrev tUn(r:V->Hp->VK->Prop)(a:TE):TE:=λσ H Q=>a σ H λx b=>r x b Q
abbrev rI(C:Int->Int->Prop)(g:Int->Int->V):R2:=λx y H Q=>∃i j,x=.int i/\y=.int j/\C i j/\Q (g i j) H
abbrev TN(g:Int->Int->V):R2:=λx y H Q=>∃i j,x=.int i/\y=.int j/\Q (g i j) H
abbrev rU(g:Int->V):V->Hp->VK->Prop:=λx H Q=>∃i,x=.int i/\Q (g i) H
def MK(g:PE X a i)(j:PE X b tb){R:V->V->Hp->Prop}(I:Inv X pins σ H s)
  (h:i σ H λx e=>tb σ e λy c=>R x y c) {f:g8->g8->Sem g8}
  (k:∀v u d x y c,Inv X pins σ c d->RelV x v->RelV y u->R x y c->‹X› (f v u) Q X.xe d) :
  ‹X› (p8 a X.env) (λv l=>‹X› (p8 b X.env) (λu m=>‹X› (f v u) Q X.xe m) X.xe l) X.xe s:=by
 show ND (g pins s σ H _ I h) λv s1 n=>?_;have(x,e,o,p,q):=n;show ND (j pins s1 σ e _ o q) λu d r=>?_;have(y,c,t,z,B):=r;show k v u d x y c t p z B
def Km(ho:X7 X (unaryOp op) r)(b:PE X a c):PE X (.UnaryOp op a pos) (tUn r c):=by
 intro pins s σ H Q I h;show UnaryOp_ (ND (b pins s σ H _ I h) λv s1 ⟨x,d,e,f,g⟩=>ho pins s1 σ d x v Q e f g)
def WS{g:Int->Int->Int}
  (Ħ:∀i j t u s Q E,C i j->Q (.int (g i j) s.toks) {s with toks:=s.toks+1}->‹X› (f (.int i t) (.int j u)) Q E s) :
  O3 X f (rI C λi j=>.int (g i j)):=by
 intro pins s σ H x y v u Q I a b h;have(i,j,rfl,rfl,c,q):=h;have(t,rfl):=a;have(t',rfl):=b;show Ħ i j t t' s _ _ c #[.int _,H,I.tok _,#[_,rfl],q]
def Ko{g:Int->Int->Int}
  (Ħ:∀i j t u s Q E,Q (.int (g i j) s.toks) {s with toks:=s.toks+1}->‹X› (f (.int i t) (.int j u)) Q E s) :
  O3 X f (TN λi j=>.int (g i j)):=by
 intro pins s σ H x y v u Q I a b h;have(i,j,rfl,rfl,q):=h;have(t,rfl):=a;have(t',rfl):=b;show Ħ i j t t' s _ _ #[.int _,H,I.tok _,#[_,rfl],q]
def Hs{g:Int->Int->Bool}
  (Ħ:∀i j t u s Q E,Q (.bool (g i j)) s->‹X› (f (.int i t) (.int j u)) Q E s) :
  O3 X f (TN λi j=>.bl (g i j)):=by
 intro pins s σ H x y v u Q I a b h;have(i,j,rfl,rfl,q):=h;have(t,rfl):=a;have(t',rfl):=b;show Ħ i j t t' s _ _ #[.bl _,H,I,rfl,q]
abbrev ML(i j:Int):Prop:=0<j/\j<1073741824
abbrev MM(i j:Int):Prop:=0<=j/\j<=1000000/\i.natAbs<2 ^ 64
abbrev Ht(i j:Int):Prop:=(-(2 ^ 64)<i/\i<2 ^ 64)\/(-(2 ^ 64)<j/\j<2 ^ 64)
def Ht.ok(h:Ht i j):IntMulOk i j:=by
 rcases h with⟨a,b⟩|⟨a,b⟩
 .show .of_left (intBits_le_64 a b)
 .show .of_right (intBits_le_64 a b)
def d5:O3 X (RZ .Add) (TN λi j=>.int (i+j)):=Ko λ_ _ _ _ _ _ _ q=>add_int q
def uH:O3 X (RZ .Sub) (TN λi j=>.int (i - j)):=Ko λ_ _ _ _ _ _ _ q=>sub_int q
def qc:O3 X (RZ .Mult) (rI Ht λi j=>.int (i * j)):=WS λ_ _ _ _ _ _ _ a q=>mul_int q a.ok
def DI:O3 X (RZ .FloorDiv) (rI ML λi j=>.int (i / j)):=WS λi j _ _ _ _ _ a q=>by
 have b:=a.1;have c:=a.2;show floordiv_int ⋯ (by rw[Int.fdiv_eq_ediv_of_nonneg i ⋯];show q) (.inl (PyProof.noPylong_small ⋯))
def cu:O3 X (RZ .Mod) (rI (λ_ j=>0<j) λi j=>.int (i % j)):=WS λi j _ _ _ _ _ a q=>by
 show mod_int' ⋯ (by rw[Int.fmod_eq_emod_of_nonneg i ⋯];show q)
def qd:O3 X (RZ .Pow) (rI MM λi j=>.int (i ^ j.toNat)):=WS λ_ _ _ _ _ _ _ a q=>pow_int_small a.1 a.2.1 a.2.2 q
def unI{g:Int->Int}
  (Ħ:∀i t s Q E,Q (.int (g i) s.toks) {s with toks:=s.toks+1}->‹X› (f (.int i t)) Q E s) :
  X7 X f (rU λi=>.int (g i)):=by
 intro pins s σ H x v Q I a h;have(i,rfl,q):=h;have(t,rfl):=a;show Ħ i t s _ _ #[.int (g i),H,I.tok _,#[_,rfl],q]
def Hu:X7 X (unaryOp .USub) (rU λi=>.int (-i)):=unI λ_ _ _ _ _ q=>neg_int q
abbrev MN:V->V->Bool
 |.Nz,.Nz=>b6|.Nz,.int _=>b6|.int _,.Nz=>b6|.Nz,.bl _=>b6|.bl _,.Nz=>b6|.Nz,.str _=>b6|.str _,.Nz=>b6
 |.int _,.int _=>b6|.bl _,.bl _=>b6|.str _,.str _=>b6|.Rb _,.Rb _=>b6
 |.int _,.str _=>b6|.str _,.int _=>b6|.bl _,.str _=>b6|.str _,.bl _=>b6
 |_,_=>cK
abbrev rEq:R2:=λx y H Q=>MN x y=b6/\Q (.bl (df (x=y))) H
def uI [BEq α][LawfulBEq α][DecidableEq α]{i j:α}{f:α->V}(h:f i=f j->i=j):df (f i=f j)=(i==j):=by
 by_cases e:i=j
 .subst e;simp
 .rw[ŷ λz=>e (h z)];show(ź.mpr e).symm
def DJ:df (V.int i=V.int j)=(i==j):=uI λz=>by cases z;rfl
def Hv:df (V.bl i=V.bl j)=(i==j):=uI λz=>by cases z;rfl
def DK:df (V.str i=V.str j)=(i==j):=uI λz=>by cases z;rfl
def DL:df (V.Rb i=V.Rb j)=(i.toList==j.toList):=by
 by_cases e:i=j
 .subst e;simp
 .rw[ŷ λz=>e (by cases z;rfl)];show(ź.mpr λz=>e (Array.toList_inj.mp z)).symm
def bW(I:Inv X pins σ H s)(q:Q (.bl k) H)(e:k=k'):EP X pins σ Q (.bool k') s:=by
 subst e;show#[.bl k,H,I,rfl,q]
def Gi:O3 X (y0 .Eq) rEq:=by
 intro pins s σ H x y v u Q I b a h;have(hs,q):=h;cases x with
 |Nz =>
  cases b;cases y with
  |Nz=>cases a;show PySem.EqNone.eq_none_none (bW I q ⋯)
  |bl j=>cases a;show PySem.EqNone.eq_none_bool (bW I q ⋯)
  |int j=>have(t',rfl):=a;show PySem.EqNone.eq_none_int (bW I q ⋯)
  |str j=>have(t',rfl):=a;show PySem.EqNone.eq_none_str (bW I q ⋯)
  |_=>show absurd (show cK=b6 from hs) ke
 |bl i =>
  cases b;cases y with
  |Nz=>cases a;show PySem.EqNone.eq_bool_none (bW I q ⋯)
  |bl j=>cases a;show eq_bool (bW I q Hv)
  |str j=>have(t',rfl):=a;show PySem.EqMixed.eq_bool_str (bW I q ⋯)
  |_=>show absurd (show cK=b6 from hs) ke
 |int i =>
  have(t,rfl):=b;cases y with
  |Nz=>cases a;show PySem.EqNone.eq_int_none (bW I q ⋯)
  |int j=>have(t',rfl):=a;show eq_int (bW I q DJ)
  |str j=>have(t',rfl):=a;show PySem.EqMixed.eq_int_str (bW I q ⋯)
  |_=>show absurd (show cK=b6 from hs) ke
 |str i =>
  have(t,rfl):=b;cases y with
  |Nz=>cases a;show PySem.EqNone.eq_str_none (bW I q ⋯)
  |bl j=>cases a;show PySem.EqMixed.eq_str_bool (bW I q ⋯)
  |int j=>have(t',rfl):=a;show PySem.EqMixed.eq_str_int (bW I q ⋯)
  |str j=>have(t',rfl):=a;show eq_str (bW I q DK)
  |_=>show absurd (show cK=b6 from hs) ke
 |Rb i =>
  have(t,rfl):=b;cases y with
  |Rb j=>have(t',rfl):=a;show W.eq_bytes (bW I q DL)
  |_=>show absurd (show cK=b6 from hs) ke
 |_=>cases y<;>show absurd (show cK=b6 from hs) ke
def Kp:O3 X (y0 .Lt) (TN λi j=>.bl (df (i<j))):=Hs λ_ _ _ _ _ _ _ q=>lt_int q
def Kq:O3 X (y0 .Gt) (TN λi j=>.bl (df (j<i))):=Hs λ_ _ _ _ _ _ _ q=>gt_int q
def Kr:O3 X (y0 .GtE) (TN λi j=>.bl (df (j<=i))):=Hs λ_ _ _ _ _ _ _ q=>ge_int q
def yw:O3 X (y0 .In) (λx y H Q=>∃i j,x=.str i/\y=.str j/\Q (.bl (!(td j i 0 ⇑j 1).isEmpty)) H):=by
 intro pins s σ H x y v u Q I a b h;have(i,j,rfl,rfl,q):=h;have(t,rfl):=a;have(t',rfl):=b;show in_str (bW I q rfl)
def Hw:O3 X (y0 .Is) (λx y H Q=>y=.Nz/\Q (.bl (df (x=.Nz))) H):=by
 intro pins s σ H x y v u Q I a b h;have(rfl,q):=h;cases b;show is_none_gen (bW I q ?_);cases x<;>first
  |(rfl)
  |(have(t,rfl):=a;rfl)
def DM:O3 X (y0 .IsNot) (λx y H Q=>y=.Nz/\Q (.bl (!df (x=.Nz))) H):=by
 intro pins s σ H x y v u Q I a b h;have(rfl,q):=h;cases b;show isnot_none_gen (bW I q ?_);cases x<;>first
  |(cases a;rfl)
  |(have(t,rfl):=a;rfl)
abbrev Aq(t:TE):TT:=λσ H Q=>t σ H λx H'=>∃k,x=.bl k/\Q k H'
def DN(ho:O3 X (y0 op) r)(d:PE X a f)(g:PE X b tb)(i:R0 op b=cK):PT X (.Compare a [op] [b] pos) (Aq (WR r f tb)):=by
 intro pins s σ H Q I h;show QE (ND (d pins s σ H _ I h) λv s1 ⟨x,j,l,m,n⟩=>ND (g pins s1 σ j _ l n) λu o ⟨y,p,q,t,w⟩ =>
  ND (ho pins o σ p x y v u _ q m t w) λc G ⟨z,A,B,C,k,e,D⟩=>?_) i
 subst e;cases C;show q9 #[A,B,D]
abbrev Ks(K:W.Frag)(x:V)(H:Hp)(k:Bool):Prop :=
 match x with
 |.Nz=>k=cK
 |.bl b=>k=b
 |.int i=>k=(i != 0)
 |.str y=>⇑y<=c8/\k=((⇑y:Int) != 0)
 |.Rb y=>y.size<=c8/\k=((y.size:Int) != 0)
 |.ref p=>(∃xs,N_ K H p xs/\k=!xs.isEmpty)\/(∃xs,Oi K H p xs/\k=!xs.isEmpty)\/∃kvs,H p≈.dK kvs/\k=!kvs.isEmpty
 |_=>False
def uJ(r:KV kvs vs):(!vs.isEmpty)=!kvs.isEmpty:=by
 cases r<;>rfl
def mR(r:Vals xs a):(!a.toArray.isEmpty)=!xs.isEmpty:=by
 cases r<;>simp
def gO:(c8:Nat)<2 ^ 63:=⋯
def Hx:MJ X (λx H Q=>∃k,Ks X.K x H k/\Q k H):=by
 intro pins s σ H x v Q I d h;have(k,e,q):=h;have hl:=gO;have hs:c8=16777216:=sizeLine_eq;cases x with
 |Nz =>
  cases d;have a:k=cK:=e;subst a;show truthy_none #[H,I,q]
 |bl b =>
  cases d;have a:k=b:=e;subst a;show q9 #[H,I,q]
 |int i =>
  have(t,rfl):=d;have a:k=(i != 0):=e;subst a;show PySem.P.truthy_int #[H,I,q]
 |str y =>
  have(t,rfl):=d;obtain⟨j,a⟩:⇑y<=c8/\k=((⇑y:Int) != 0):=e;subst a;show PySem.P.truthy_str ⋯ #[H,I.tok _,q]
 |Rb y =>
  have(t,rfl):=d;obtain⟨j,a⟩:y.size<=c8/\k=((y.size:Int) != 0):=e;subst a;show W.truthy_bytes ⋯ #[H,I.tok _,q]
 |ref p =>
  cases d;have a:=e;rcases a with⟨xs,f,a⟩|⟨xs,f,a⟩|⟨kvs,f,a⟩
  .subst a;have(l,r,g,hz):=I.list f;have c:=⇑r;show wpAny_truthy_list g.isList (by erw[mu];lia) #[H,I.tok _,by rw[mR r];show q]
  .subst a;have(l,r,g,hz):=I.tuple f;have c:=⇑r;show truthy_tuple g (by erw[mu];lia) #[H,I.tok _,by rw[mR r];show q]
  .subst a;obtain⟨hz,n,vs,r,m⟩:⇑kvs<=c8/\(p==P')=cK/\∃vs,KV kvs vs/\s.heap.DictOf (bA X.prog X.w) p vs:=I.Ny p _ f;have c:⇑kvs=⇑vs:=Paired.length r;show wpAny_truthy_dict n m ⋯ #[H,I.tok _,by rw[uJ r];show q]
 |_=>show(show False from e).elim
def Ar(c:PE X a d)(e:∀b,isTrue a X.env b=(do let v <-b;WY a.pos;KX [v] (ģ v))):
  PT X a (λσ H Q=>d σ H λx H'=>∃k,Ks X.K x H' k/\Q k H'):=by
 intro pins s σ H Q I h;show isTrue_plain (ND (c pins s σ H _ I h) λv s1 ⟨x,f,g,i,j⟩=>Hx pins s1 σ f x v Q g i j) (e _)
def uK:O3 X (RZ .Add) (λx y H Q=>∃i j,x=.str i/\y=.str j/\⇑i+⇑j<=c8/\Q (.str (i++j)) H):=by
 intro pins s σ H x y v u Q I a b h;have(i,j,rfl,rfl,hz,q):=h;have(t,rfl):=a;have(t',rfl):=b;show add_str (λt' tk=>#[.str _,H,I.tok _,#[_,rfl],q]) hz
def vals1(r:Vals [x] us):∃u,us=[u]/\RelV x u:=by
 cases r with
 |cons a b=>cases b;show#[_,rfl,a]
def vals2(r:Vals [x,y] us):∃u a,us=[u,a]/\RelV x u/\RelV y a:=by
 cases r with
 |cons b c =>
  cases c with
  |cons d e=>cases e;show#[_,_,rfl,b,d]
def yx(b:X.calm=b6):gF X (.builtin "max") (λxs H Q=>∃i j,xs=[.int i,.int j]/\Q (.int (if j>i then j else i)) H):=by
 intro pins s σ H xs us Q I r h;have(i,j,rfl,q):=h;have(u,c,rfl,(t,rfl),(t',rfl)):=vals2 r;show max_two_ints (I.ok.hd b) λh' tk k=>#[_,H,I.kept k,?_,q]
 by_cases a:j>i
 .rw[ŵ a,ŵ a];show#[_,rfl]
 .rw[Ŷ a,Ŷ a];show#[_,rfl]
def yy(b:X.calm=b6):gF X (.builtin "min") (λxs H Q=>∃i j,xs=[.int i,.int j]/\Q (.int (if j<i then j else i)) H):=by
 intro pins s σ H xs us Q I r h;have(i,j,rfl,q):=h;have(u,c,rfl,(t,rfl),(t',rfl)):=vals2 r;show min_two_ints (I.ok.hd b) λh' tk k=>#[_,H,I.kept k,?_,q]
 by_cases a:j<i
 .rw[ŵ a,ŵ a];show#[_,rfl]
 .rw[Ŷ a,Ŷ a];show#[_,rfl]
def yz:gF X (.type "int") (λxs H Q=>(∃i,xs=[.int i]/\Q (.int i) H)\/∃k,xs=[.bl k]/\Q (.int (if k then 1 else 0)) H):=by
 intro pins s σ H xs us Q I r h;rcases h with⟨i,rfl,q⟩|⟨k,rfl,q⟩
 .have(u,rfl,t,rfl):=vals1 r;show call_int_int #[.int i,H,I,#[_,rfl],q]
 .have(u,rfl,a):=vals1 r;cases a;show call_int_bool #[.int _,H,I.tok _,#[_,rfl],q]
def qe:gF X (.type "str") (λxs H Q=>∃i,xs=[.int i]/\i.natAbs.log2<1920/\Q (.str (š i)) H):=by
 intro pins s σ H xs us Q I r h;have(i,rfl,hz,q):=h;have(u,rfl,t,rfl):=vals1 r;show PySem.P.str_of_int hz #[.str _,H,I.tok _,#[_,rfl],q]
structure uL(h:K2)(x dx C:hH)(mA:Str->Option g8):Prop where
 obj:h.get? x≈W.instObj C dx
 ns:h.Ns1 dx mA
 ne:dx≠x
def yA{h:K2}(n:h.Ns1 c d):∃b,h.get? c≈b/\∀name,W.lookIn name b≈d name:=by
 have(o,es,ep,ho,f,hk,_,g):=n;show#[o,ho,λname=>?_];have e:=g name;unfold nsFind findBy at e;rw[<-Array.find?_toList]at e;unfold W.lookIn;rw[f]
 dsimp only
 split
 .rename_i y q;rw[q]at e;show ż bD e
 .rename_i q;rw[q]at e;have a:es.toList.any (·.refKey)=cK:=by
   rw[List.any_eq_false];intro y i;have(z,t,j):=hk y (Array.mem_toList_iff.mp i);simp[DictEntry.refKey,j]
  have a':¬es.toList.any (·.refKey)=b6:=by rw[a];show ke
  rw[Ŷ a'];show ż bD e
def uL.look(I:uL h x b C c):∃a,W.InstAt h x (W.instObj C b) C (bD a)/\∀name,W.lookIn name a≈c name :=
 let ⟨a,ho,hl⟩:=yA I.ns
 ⟨a,⟨I.obj,rfl,rfl,ho⟩,hl⟩
section
variable{prog:rS}{w:wk}{A:Ux}{E:g8->i4->Prop}{s:i4}{K:PySem.W.Frag}{x dx C f:hH}{mA:Str->Option g8}{name:Str}{v:g8}
def get_map(X:K.In s.heap)(I:uL s.heap x dx C mA)(c:W.plainGet K C name=b6)(d:W.hasDictIn K C=b6)
  (e:W.findIn K (.ref C) name≈cc) (g:mA name≈v) (a:W.handedIn v=b6) (h:Q v {s with toks:=s.toks+1}) :
  f6 (gs prog w) A (getAttr (.ref x) name b) Q E s:=by
 have(i,J,hl):=I.look;show W.get_value X J (W.plainGet_of c).1 (W.findObj_own d e rfl (by rw[hl,g])) a h
def As(X:K.In s.heap)(I:uL s.heap x dx C mA)(a:W.plainGet K C name=b6)
  (b:W.findIn K (.ref C) name≈bD (.ref f)) (c:W.isFn K (.ref f)=b6) (d:mA name=cc) (h:Q (.ref f,[.ref x]) s) :
  f6 (gs prog w) A (ň (.ref x) name g) Q E s:=by
 have(e,J,hl):=I.look;show W.method_fn X J (W.plainGet_of a).1 (W.plainGet_of a).2 b (beq_iff_eq.mp c) (by change(W.lookIn name e).map (·.isSome)≈cK;rw[hl,d];rfl) h
def DO(X:K.In s.heap)(I:uL s.heap x dx C mA)
  (hs:W.findIn K (.ref C) "__setattr__"≈bD (.builtin "object.__setattr__")) (k:W.plainOver K C=b6) (l:W.takerIn K C name≈cc) (m:W.hasDictIn K C=b6)
  (n:PySem.Within mA ns) (hsz:⇑ns<=c8)
  (h:∀h',uL h' x dx C (λy=>if y=name then bD v else mA y)->tA dx s.heap h'->Q () {s with heap:=h',toks:=s.toks+2}) :
  f6 (gs prog w) A (setAttr (.ref x) name v) Q E s:=by
 have(u,J,hl):=I.look;show W.set_plain X J hs (W.osa_open (s:={s with toks:=s.toks+1}) (r:=cc) X J k l λb=>?_);have(z,o,c):=W.any_some m;have p:s.heap.get? x≈⟨.ref C,bD dx,.plain,#v[]⟩:=I.obj;show cL (dV (cL (cL (Ţ p (cL (W.Looks.here (s:={s with toks:=s.toks+1}) (W.looks_clsIn X o) ?_))))));rw[c];show dV (a:=bD dx) (cL (dV (cL ?_)));show wpAny_nsSet1 (s:={s with toks:=s.toks+1}) I.ns λh' i j=>?_;have(B,q,t,d,e,g):=i.count (PySem.Within.cons name v n);show cL (wpAny_lookBehind d (by rw[e];show pastItsLine_dict (qv g (by rw[k9];lia))) ?_);show dV (h _ #[(j.2 _ (mh I.ne)).trans I.obj,i,I.ne] j)
def Au(X:K.In s.heap)(b:W.makesIn K C=b6)
  (hi:W.findIn K (.ref C) "__init__"≈bD (.ref f)) (c:W.typeIn K (.ref f)≈.type "function")
  (h:Ry (gs prog w) (A.under (.builtin "type.__call__" ⟨.ref C::vs,a⟩)) (.call (.ref f) #[.ref (↥s+1)::vs,a]) (W.InitBack (↥s+1) R)
   {s with heap:=(s.heap.push W.emptyDict).push (W.instObj C ↥s)}) :
  Ry (gs prog w) A (.call (.ref C) #[vs,a]) R s:=by
 have(e,g,d,t,os):=s;show W.make_core (W.makes_of X b) (W.looks_findIn X hi) (λself=>W.bind_fn X self c) (.inl rfl) h
end
abbrev fw(f:Str)(v:V):↑(Str×V)->↑(Str×V)
 |[]=>[(f,v)]
 |(g,x)::r=>if g=f then(g,v)::r else(g,x)::fw f v r
theorem kU(f g)(v):∀b,(fw f v b).lookup g=if g=f then bD v else b.lookup g
 |[]=>by
  change Pq g [(f,v)]=_;by_cases h:g=f
  .have a:(g==f)=b6:=beq_iff_eq.mpr h;erw[Pq,a,ŵ h]
  .have a:(g==f)=cK:=ź.mpr h;erw[Pq,a,Ŷ h]
 |(k,x)::r=>by
  have c:=kU f g v r;rw[show fw f v ((k,x)::r)=(if k=f then(k,v)::r else(k,x)::fw f v r) from rfl];by_cases hk:k=f
  .rw[ŵ hk];by_cases h:g=k
   .have a:(g==k)=b6:=beq_iff_eq.mpr h;erw[Pq,a,ŵ (h.trans hk)]
   .have a:(g==k)=cK:=ź.mpr h;erw[Pq,a,Ŷ (λe:g=f=>h (e.trans hk.symm))]
  .rw[Ŷ hk];by_cases h:g=k
   .have a:(g==k)=b6:=beq_iff_eq.mpr h;erw[Pq,a,Ŷ (λe:g=f=>hk (h.symm.trans e))]
   .have a:(g==k)=cK:=ź.mpr h;erw[Pq,a];show c
theorem kl(f)(v):∀a,f∈(fw f v a).map (·.1)/\∀g,g∈a.map (·.1)->g∈(fw f v a).map (·.1)
 |[]=>#[by simp[fw],λg h=>by simp at h]
 |(k,x)::r=>by
  have(b,c):=kl f v r;rw[show fw f v ((k,x)::r)=(if k=f then(k,v)::r else(k,x)::fw f v r) from rfl];by_cases hk:k=f
  .rw[ŵ hk];subst hk;show#[by simp,λg h=>by exists h]
  .rw[Ŷ hk];show#[?_,λg h=>?_]
   .rw[i6];show f7 _ b
   .rw[i6]at h ⊢;rcases eT.mp h with e|e
    .show eT.mpr (.inl e)
    .show f7 _ (c g e)
theorem kW(f)(v):∀a,⇑(fw f v a)<=⇑a+1
 |[]=>by simp[fw]
 |(k,x)::r=>by
  have b:=kW f v r;rw[show fw f v ((k,x)::r)=(if k=f then(k,v)::r else(k,x)::fw f v r) from rfl];by_cases hk:k=f
  .rw[ŵ hk,k9,k9];lia
  .rw[Ŷ hk,k9,k9];lia
def gK.some_of(r:gK (bD v) o):∃u,o≈u/\RelV v u:=by
 cases o with
 |none=>show(r).elim
 |some u=>show#[u,rfl,r]
def gK.none_of(r:gK cc o):o=cc:=by
 cases o with
 |none=>rfl
 |some u=>show(r).elim
def yB(r:RelV v u):W.handedIn u=b6:=by
 cases v with
 |Nz=>cases(show u=oD from r);rfl
 |bl b=>cases(show u=UC b from r);rfl
 |int i=>have(t,e):=(show ∃t,u=ñ i t from r);cases e;rfl
 |str x=>have(t,e):=(show ∃t,u=y6 x t from r);cases e;rfl
 |Rb b=>have(t,e):=(show ∃t,u=Ľ b t from r);cases e;rfl
 |Vp b=>have(t,e):=(show ∃t,u=ļ b t from r);cases e;rfl
 |ref a=>cases(show u=ku a from r);rfl
 |ty n=>cases(show u=Rz n from r);rfl
def qf(i:OJ P w H h)(e:H a≈.ins C g c):∃b,uL h a g C b/\(∀f,gK (c.lookup f) (b f))/\PySem.Within b (c.map (·.1))/\⇑c<=1000/\H g≈.own a:=by
 have(d,z,ne,j,b,n,r,q):=(show cF P w H h a (.ins C g c) from i a _ e)
 show#[b,#[j,n,ne],r,q,z,d]
structure RK(K:W.Frag)(C:hH):Prop where
 pg:W.plainGet K C nS=b6
 hd:W.hasDictIn K C=b6
 po:W.plainOver K C=b6
 sa:W.findIn K (.ref C) "__setattr__"≈bD (.builtin "object.__setattr__")
def RK.get{K}(c:RK K C)(f):W.plainGet K C f=b6:=c.pg
abbrev jf(K:W.Frag)(C:hH)(f:Str):Prop:=W.findIn K (.ref C) f≈cc
def jf.Kt{K}(n:jf K C f):W.takerIn K C f≈cc:=by
 unfold W.takerIn;rw[show W.findIn K (.ref C) f≈cc from n];rfl
structure Meth(K:W.Frag)(C:hH)(m:Str)(f:hH):Prop where
 at_:W.findIn K (.ref C) m≈bD (.ref f)
 fn:W.isFn K (.ref f)=b6
 kp:W.keepIn K (.ref f)=b6
def uM(I:Inv X pins σ H s)(e:H a≈.ins C m i)(c:RK X.K C)(n:jf X.K C f)(l:i.lookup f≈v)
  (h:∀u d,Inv X pins σ H d->RelV v u->Q u d):f6 (gs X.prog X.w) A (getAttr (.ref a) f b) Q E s:=by
 have(j,O,r,_,_,_):=qf I.Ny e;have(u,k,g):=gK.some_of (v:=v) (o:=j f) (by rw[<-l];show r f);show get_map I.Ph O (c.get f) c.hd n k (yB g) (h u _ (I.tok _) g)
def uN(I:Inv X pins σ H s)(e:H a≈.ins C f b)(c:RK X.K C)(k:Meth X.K C m g)(l:b.lookup m=cc)
  (h:Q (.ref g,[.ref a]) s):f6 (gs X.prog X.w) A (ň (.ref a) m i) Q E s:=by
 have(d,O,r,_,_,_):=qf I.Ny e;have hn:d m=cc:=gK.none_of (by rw[<-l];show r m);show As I.Ph O (c.get m) k.at_ k.fn hn h
def uO(I:Inv X pins σ H s)(e:H a≈.ins C i d)(c:RK X.K C)(n:jf X.K C f)(hl:⇑d<1000)(p:RelV y u)
  (h:∀k,Inv X pins σ (upd H a (.ins C i (fw f y d))) k->Q () k):f6 (gs X.prog X.w) A (setAttr (.ref a) f u) Q E s:=by
 have(l,O,r,m,_,ho):=qf I.Ny e;have hz:⇑(d.map (·.1))<=c8:=by rw[ei,sizeLine_eq];lia
 show DO I.Ph O c.sa c.po n.Kt c.hd m hz λh' j t=>h _ ?_;have v:∃o,h'.get? i≈o:=let ⟨o,_,_,B,_⟩:=j.ns;⟨o,B⟩;show I.write (x:=a) (e:=i) (by rw[e];show VY) (.inr ho) (λb q D z=>(t.2 b D).trans z) v ?_;show#[by rw[ai O.ne];show ho,?_,O.ne,j.obj,_,j.ns,λg=>?_,λg G=>?_]
 .have:=kW f y d;lia
 .change gK ((fw f y d).lookup g) (if g=f then bD u else l g);rw[kU];by_cases q:g=f
  .rw[ŵ q,ŵ q];show p
  .rw[Ŷ q,Ŷ q];show r g
 .by_cases q:g=f
  .rw[q];show(kl f y d).1
  .show(kl f y d).2 g (m g λz=>G ?_);change(if g=f then bD u else l g)=cc;rw[Ŷ q];show z
def Inv.made(I:Inv X pins σ H s):Inv X pins σ (upd (upd H ↥s (.own (↥s+1))) (↥s+1) (.ins C ↥s []))
  {s with heap:=(s.heap.push W.emptyDict).push (W.instObj C ↥s)}:=by
 have c:(s.heap.push W.emptyDict).get? ↥s≈W.emptyDict:=gj s.heap rfl;have d:((s.heap.push W.emptyDict).push (W.instObj C ↥s)).get? (↥s+1)≈(W.instObj C ↥s):=by
  have:=gj (s.heap.push W.emptyDict) (o:=W.instObj C ↥s) rfl
  rwa [QD]at this
 have f:(s.heap.push W.emptyDict).Ns ↥s (λ_=>cc):=#[W.emptyDict,#v[],_,c,rfl,(λe g=>absurd g ⋯),λ_=>rfl]
 have h:=I.laid (a:=↥s) (o:=.own (↥s+1)) (h':=s.heap.push W.emptyDict) (t':=s.toks) (λb u q=>dt _ q) (hY _) ⟨_,c⟩;show h.laid (a:=↥s+1) (o:=.ins C ↥s []) (t':=s.toks) (λb u q=>dt _ q) (UL (QD _ _)) ?_;have ne:↥s≠↥s+1:=i9 (TK _);show#[by rw[ai ne,aj],kj _,ne,d,λ_=>cc,(Heap.Ns1.of_empty f).at λo q=>dt _ q,λ_=>VY,λy i=>absurd rfl i]
def DP(a:LF e f env (p8 e env)=p8 e env)
  (h:f6 (gs prog w) A (p8 e env) (λo b=>f6 (gs prog w) A (getAttr o f b6) Q E b) E s):f6 (gs prog w) A (p8 (.Attribute e f pos) env) Q E s :=
 Attribute_any_ h (by rw[arm_eval_Attribute,a])
abbrev Hy(K:W.Frag)(d:TE)(f:Str):TE:=λσ H Q=>d σ H λx b=>∃a C e c v,x=.ref a/\b a≈.ins C e c/\RK K C/\jf K C f/\c.lookup f≈v/\Q v b
abbrev MO(K:W.Frag)(e g:TE)(f:Str):TS:=λD σ H=>g σ H λy h=>e σ h λx c=>∃a C d b,x=.ref a/\c a≈.ins C d b/\RK K C/\jf K C f/\⇑b<1000 /\
 D.nx σ (upd c a (.ins C d (fw f y b)))
def qg(b:PE X e d)(g:LF e f X.env (p8 e X.env)=p8 e X.env):PE X (.Attribute e f pos) (Hy X.K d f):=by
 intro pins s σ H Q I h;show DP g (ND (b pins s σ H _ I h) λu s1 i=>?_);have(x,j,k,m,a,C,r,t,v,ex,ea,c,n,l,q):=i;subst ex;obtain rfl:u=ku a:=m;show uM k ea c n l λu' w o p=>#[v,j,o,p,q]
def qh(e:PE X o g)(i:PE X b j)(hs:QA b (bD (.Attribute o f d)) pos.line X.env=pure cK):PS X (.Assign [.Attribute o f d] b pos) (MO X.K g j f):=by
 intro pins s σ H D I h;show plainObj_wpAny_Assign_Attribute (ND (i pins s σ H _ I h) λu s1 ⟨y,k,m,p,q⟩=>ND (e pins s1 σ k _ m q) λr A ⟨x,B,t,v,a,C,G,J,ex,ea,c,n,l,w⟩=>?_) hs;subst ex;obtain rfl:r=ku a:=v;show uO t ea c n l p λL z=>#[σ,_,z,w]
inductive mS(K:W.Frag)(H:Hp):V->g8->Prop where
 |Nz:mS K H .Nz (.type "NoneType")
 |bl (x:Bool):mS K H (.bl x) (.type "bool")
 |int (i:Int):mS K H (.int i) (.type "int")
 |str (x:Str):mS K H (.str x) (.type "str")
 |Vp (x:UInt64):mS K H (.Vp x) (.type "float")
 |lst {a:hH} {xs:↑V} (e:H a≈.lst xs):mS K H (.ref a) (.type "list")
 |Pf {a:hH} {o:Obj} {xs:↑V} (e:H a≈.Pf o (.lst xs)):mS K H (.ref a) (.type "list")
 |tup {a:hH} {xs:↑V} (e:H a≈.tup xs):mS K H (.ref a) (.type "tuple")
 |dK {a:hH} {kvs:↑(Key×V)} (e:H a≈.dK kvs):mS K H (.ref a) (.type "dict")
 |dT {a:hH} {kvs:↑(↑Key×V)} (e:H a≈.dT kvs):mS K H (.ref a) (.type "dict")
 |ins {a C dx:hH} {fs:↑(Str×V)} (e:H a≈.ins C dx fs) (cl:RK K C) (ha:W.findIn K (.ref C) "__class__"≈bD (.builtin "object.__class__"))
   (hn:W.specialIn K (.builtin "object.__class__") "__get__"≈bD (.builtin "getset_descriptor.__get__")) (SW:W.takesIn K (.builtin "object.__class__")≈b6)
   (hm:W.mroIn K C (.type "object")≈b6):mS K H (.ref a) (.ref C)
structure cX(k:Nat)(A:Ux):Prop where
 hd:A.handled=cc
 dp:A.depth+3 * k+5<ţ
 un:A.units+16 * k+200<C0
 gd:A.guards≈[]
def cX.mono(r:cX k A)(h:j<=k):cX j A:=#[r.hd,by have:=r.dp;lia,by have:=r.un;lia,r.gd]
def cX.deeper(r:cX (k+1) A)(env):cX k (A.deeper env) :=
 #[r.hd,by have:=r.dp;change A.depth+1+3 * k+5 < _;lia,by have:=r.un;change A.units+3+16 * k+200 < _;lia,r.gd]
def uP{A:Ux}:(A.under (.builtin "type.__call__" ⟨.ref C::us,a⟩)).depth=A.depth+1:=by
 first|rfl|simp[XZ,Code.weight,ŀ,Code.isCaller,Ð,Ł,guardIds]
def uQ{A:Ux}:(A.under (.builtin "type.__call__" ⟨.ref C::us,a⟩)).units=A.units+1:=by
 first|rfl|simp[XZ,Code.cUnits,Ð]
def cX.make(r:cX (k+1) A)(C)(us)(a):cX k (A.under (.builtin "type.__call__" ⟨.ref C::us,a⟩)) :=
 #[r.hd,by have:=r.dp;rw[uP];lia,by have:=r.un;rw[uQ];lia,by first|show r.gd|(simp[XZ,ŀ,Ð,Ł,guardIds];show r.gd)|(change _=_;show r.gd)]
def cX.depth(r:cX k A):A.depth<ţ:=by have:=r.dp;lia
abbrev r_:TA:=λ_ H Q=>Q [] H
abbrev kX(a:TE)(b:TA):TA:=λσ H Q=>a σ H λx c=>b σ c λxs d=>Q (x::xs) d
def cC:PA X [] r_:=λ_ _ _ _ H Q I h=>y8 #[[],H,I,.nil,h]
def bB(a:PE X e b)(c:PA X es t)(hs:i0 (e::es) X.env=(cK,p8 e X.env)::i0 es X.env:=by rfl):PA X (e::es) (kX b t):=by
 intro pos pins s σ H Q I h;rw[hs];show sg (ND (a pins s σ H _ I h) λu s1 d=>?_);have(x,f,g,i,j):=d;show ND (c pos pins s1 σ f _ g j) λus o ⟨xs,k,l,m,n⟩=>#[_,k,l,.cons i m,n]
abbrev Ku(t:TA):TE:=λσ H Q=>t σ H λxs a=>⇑xs<=c8/\∀p,a p=cc->Q (.ref p) (upd a p (.tup xs))
abbrev Hz(t:TA):TE:=λσ H Q=>t σ H λxs a=>⇑xs<=c8/\∀p,a p=cc->Q (.ref p) (upd a p (.lst xs))
def uR(h:PA X es t):PE X (.Tuple es g pos) (Ku t):=by
 intro pins s σ H Q I d;show Yi (ND (h pos pins s σ H _ I d) λus s1 ⟨xs,a,c,r,z,q⟩=>#[by rw[<-⇑r];show z,?_]);have f:a ↥s1=cc:=c.Ny.fresh (hY _);show#[.ref ↥s1,upd a ↥s1 (.tup xs),c.laid (t':=s1.toks) (λb u e=>dt _ e) (hY _) ?_,rfl,q _ f];show#[z,us,r,#[_,gj _ rfl,rfl,_,rfl]]
def uS(h:PA X es t):PE X (.List es pos) (Hz t):=by
 intro pins s σ H Q I d;show Ģ (ND (h pos pins s σ H _ I d) λus s1 ⟨xs,a,c,r,z,q⟩=>#[by rw[<-⇑r];show z,?_]);have f:a ↥s1=cc:=c.Ny.fresh (hY _);show#[.ref ↥s1,upd a ↥s1 (.lst xs),c.laid (t':=s1.toks) (λb u e=>dt _ e) (hY _) ?_,rfl,q _ f];show#[z,us,0,r,gj _ rfl]
@[reducible]noncomputable def Sp:=↑V->Hp->VK->XK->Prop
@[reducible]noncomputable def TR:=↑Env->Hp->i4->XK->g8->i4->Prop
structure uT(P:rS)(w:wk)(K:W.Frag)(mg:Str->Option g8)(base:K2)(A:Ux)(outer:↑Env)(s:i4)(H:Hp):Prop where
 frames:A.frames≈outer
 mod:Mod K mg base
 bs:∀b o,base.get? b≈o->s.heap.get? b≈o/\H b=cc
 Rc:base.objs.size<=↥s
 jC:s.heap.FunFrames base outer
 R8:∀b∈Oy outer,H b=cc
 Ny:OJ P w H s.heap
 bare:Wf s.gens
abbrev CE(outer:↑Env)(P:rS)(w:wk)(H:Hp)(s:i4)(Q:VK)(u:g8)(a:i4):Prop :=
 ∃v H',a.os=s.os/\Wf a.gens/\Un (Oy outer) [] H H' s.heap a.heap/\OJ P w H' a.heap/\RelV v u/\Q v H'
abbrev CR(CX:TR)(outer:↑Env)(P:rS)(w:wk)(H:Hp)(s:i4)(Q:VK)(E:XK)(r:Result)(a:i4):Prop :=
 match r with
 |.ok (.ret u)=>CE outer P w H s Q u a
 |.ok _=>False
 |.error e=>CX outer H s E e a
structure dF(P:rS)(w:wk)(K:W.Frag)(mg:Str->Option g8)(base:K2)(CX:TR)(k:Nat)(f:hH)(fd:VD)(ps:↑Str)(sp:Sp):Prop where
 len:∀vs H Q E,sp vs H Q E->⇑vs=⇑ps
 run:∀(A:Ux) (outer:↑Env) (s:i4) (H:Hp) (args:Args) (us:↑g8) (vs:↑V) (Q:VK) (E:XK),cX k A->uT P w K mg base A outer s H->ø s fd args (ps.zip us)->Vals vs us->sp vs H Q E ->
  Ry (gs P w) A (.call (.ref f) args) (CR CX outer P w H s Q E) s
def uT.make{K}(e:uT P w K mg base A outer s H)(C)(us)(a):
  uT P w K mg base (A.under (.builtin "type.__call__" ⟨.ref C::us,a⟩)) outer s H:=#[by first|show e.frames|(simpa[XZ,Code.envs,pushEnvs] using e.frames),e.mod,e.bs,e.Rc,e.jC,e.R8,e.Ny,e.bare]
def Inv.HA(I:Inv X pins σ H s):uT X.prog X.w X.K X.mg X.base X.A X.stack s H :=
 #[I.ok.frames,I.ok.mod,I.bs,qv I.ok.Rc I.sz,I.stack,I.iC,I.Ny,I.bare]
def Inv.after(I:Inv X pins σ H s)(h:CE X.stack X.prog X.w H s Q u c):EP X pins σ Q u c:=by
 have(v,H',os,a,e,f,r,q):=h;have(j,g,d,t,i):=c;obtain rfl:i=s.os:=os;show#[v,H',I.call      e f a (λb z=>absurd z ⋯),r,q]
abbrev Kv(C:hH)(c:Sp)(d:↑V)(E:XK)(t:TA):TE:=λσ H Q=>t σ H λvs b=>∀x a,b x=cc->b a=cc->a≠x ->
 c (.ref x::(vs++d)) (upd (upd b a (.own x)) x (.ins C a [])) (λv e=>v=.Nz/\Q (.ref x) e) E
abbrev Binds(K:W.Frag)(a:VD)(ps:↑Str)(ds:↑g8):Prop :=
 ∀(s:i4) (us:↑g8),K.In s.heap->⇑(us++ds)=⇑ps->ø s a #[us,[]] (ps.zip (us++ds))
def Binds.all{K}(h:∀us,⇑us=⇑ps->ũ a #[us,[]]=pure (ps.zip us)):Binds K a ps []:=λs us _ hl=>by
 rw[tE]at hl ⊢;show .of_eq (h us hl)
abbrev Passes(CX:TR)(X:Cx)(E:XK):Prop:=∀(pins:↑(hH×Obj)) (σ:St) (H:Hp) (s:i4) (e:g8) (a:i4),Inv X pins σ H s->CX X.stack H s E e a->X.xe e a
def Av(F:dF X.prog X.w X.K X.mg X.base CX k f c ps d)(g:cX k X.A)(i:Binds X.K c ps ds)(j:Vals l ds)(m:Passes CX X E)
  (I:Inv X pins σ H s) (r:Vals vs us) (h:d (vs++l) H Q E):‹X› (Qt (.ref f) us) (EP X pins σ Q) X.xe s:=by
 have b:=r.append j;have hl:⇑(us++ds)=⇑ps:=by rw[<-⇑b];show F.len _ _ _ _ h
 show Z9 (Tz (F.run X.A _ s H _ _ _ Q E g I.HA (i s us I.Ph hl) b h) λr n a=>?_);cases r with
 |error e=>show m pins σ H s e n I a
 |ok o =>
  cases o with
  |ret u=>show I.after a
  |cont=>assumption
  |_=>show Hf a
structure Mk(K:W.Frag)(C f:hH):Prop where
 makes:W.makesIn K C=b6
 init:W.findIn K (.ref C) "__init__"≈bD (.ref f)
 fn:W.isFn K (.ref f)=b6
 kp:W.keepIn K (.ref C)=b6
def Aw(M:Mk X.K C f)(F:dF X.prog X.w X.K X.mg X.base CX k f j ps l)(m:cX (k+1) X.A)(n:Binds X.K j ps ds)(o:Vals d ds)
  (p:Passes CX X E) (I:Inv X pins σ H s) (r:Vals vs us)
  (h:∀x a,H x=cc->H a=cc->a≠x->l (.ref x::(vs++d)) (upd (upd H a (.own x)) x (.ins C a [])) (λv q=>v=.Nz/\Q (.ref x) q) E) :
  ‹X› (Qt (.ref C) us) (EP X pins σ Q) X.xe s:=by
 have g:=h (↥s+1) ↥s (I.Ny.fresh (ä _)) (I.Ny.fresh (hY _)) (i9 (TK _));have b:=Inv.made (C:=C) I;have i:Vals (V.ref (↥s+1)::(vs++d)) (ku (↥s+1)::(us++ds)):=.cons rfl (r.append o);have hl:⇑(ku (↥s+1)::us++ds)=⇑ps:=by
  have e:=⇑i;rw[F.len _ _ _ _ g]at e;show e.symm
 show Z9 (Au (f:=f) I.Ph M.makes M.init (beq_iff_eq.mp M.fn) (Tz (F.run _ X.stack _ _ #[ku (↥s+1)::us,[]] (ku (↥s+1)::(us++ds)) _ _ E (m.make C us [])
  (b.HA.make C us []) (n _ (ku (↥s+1)::us) b.Ph hl) i g) λr t c=>?_))
 cases r with
 |error e=>show p pins σ _ _ e t b c
 |ok y =>
  cases y with
  |ret u =>
   have(v,H',z,rv,ev,B):=b.after c;subst ev;show#[rv,#[V.ref (↥s+1),H',z,rfl,B]]
  |_=>show Hf c
def se(M:Mk X.K C f)(F:dF X.prog X.w X.K X.mg X.base CX k f a ps b)(c:cX (k+1) X.A)(d:Gl X x)(e:X.mg x≈.ref C)(g:Binds X.K a ps ds)(i:Vals j ds)(l:Passes CX X E)
  (m:(x==("__debug__":Str))=cK:=by decide):PE X (.Call (.Name x p) [] [] pos) (Kv C b j E r_):=by
 intro pins s σ H Q I h;show nT (eD I d e ?_ m);show W.callWith_K0 I.Ph M.kp (Aw (us:=[]) M F c g i l I .nil h)
structure dc(N P:↑Str)(sc:tP):Prop where
 kind:sc.kind=.function
 co:sc.isCoroutine=cK
 gen:sc.isGenerator=cK
 nd:N.Nodup
 pre:N.take ⇑P=P
 par:∀x∈P,sc.names.lookup x≈.local\/sc.names.lookup x≈.cell
 TU:∀y∈sc.names,y.2≠.free
theorem oX{kindOf}:∀{a}{m},(∀v,(x,v)∉a)->Đ kindOf a m x=m x
 |[],_,_=>rfl
 |(n,v)::r,m,h=>by
  unfold Đ;rw[oX λw b=>h w (f7 _ b)];split
  .have:x≠n:=by rintro rfl;show h v il
   simp[this]
  .rfl
theorem oY{kindOf}:∀{a}{m},(∀v,(x,v)∉a)->đ kindOf a m x=m x
 |[],_,_=>rfl
 |(n,v)::r,m,h=>by
  unfold đ;rw[oY λw b=>h w (f7 _ b)];split
  .rfl
  .have:x≠n:=by rintro rfl;show h v il
   simp[this]
theorem oZ{kindOf}:∀{P:↑Str}{vs}{i:Nat}{m},P.Nodup->P[i]?≈x->vs[i]?≈v->kindOf x≈.local ->
  Đ kindOf (P.zip vs) m x≈v
 |[],_,_,_,_,h,_,_=>by simp at h
 |_::_,[],_,_,_,_,h,_=>by simp at h
 |p::P,w::vs,0,m,a,b,c,hk=>by
  simp at b c;subst b;subst c;change Đ _ ((p,w)::P.zip vs) m p=_;unfold Đ;rw[oX λv d=>(nH.mp a).1 (Uo d).1,ŵ hk];simp
 |p::P,w::vs,i+1,m,a,b,c,hk=>by
  unfold Đ;show oZ  (nH.mp a).2 (by assumption) (by assumption) hk
theorem o_{kindOf}:∀{P:↑Str}{vs}{i:Nat}{m},P.Nodup->P[i]?≈x->vs[i]?≈v->kindOf x≠bD .local ->
  đ kindOf (P.zip vs) m x≈v
 |[],_,_,_,_,h,_,_=>by simp at h
 |_::_,[],_,_,_,_,h,_=>by simp at h
 |p::P,w::vs,0,m,a,b,c,hk=>by
  simp at b c;subst b;subst c;change đ _ ((p,w)::P.zip vs) m p=_;unfold đ;rw[oY λv d=>(nH.mp a).1 (Uo d).1,Ŷ hk];simp
 |p::P,w::vs,i+1,m,a,b,c,hk=>by
  unfold đ;show o_  (nH.mp a).2 (by assumption) (by assumption) hk
abbrev start(N:↑Str)(vs:↑V):St:=vs.map bD++kb (⇑N - ⇑vs) cc
abbrev qi(CX:TR)(P:rS)(w:wk)(K:W.Frag)(mg:Str->Option g8)(base:K2)(N:↑Str)(a:Str)(scope:tP)(f:hH)(b:g8)(A:Ux)(outer:↑Env)(s:i4)(H:Hp)(E:XK):Cx where
 prog:=P
 w:=w
 K:=K
 mg:=mg
 base:=base
 A:=A.deeper (YO a scope ↥s f b)
 N:=N
 s₀:=s
 H₀:=H
 env:=YO a scope ↥s f b
 outer:=outer
 stack:=YO a scope ↥s f b::outer
 ex:=[]
 calm:=b6
 fn:=λ_=>b6
 pn:=[]
 xe:=λe d=>f6 (gs P w) (A.deeper (YO a scope ↥s f b)) (leaving (YO a scope ↥s f b) e) (λ_ c=>CX outer H s E e c) (λg c=>CX outer H s E g c) d
def sf{a:tP}(h:a.names.lookup x≈.cell):∃c,(Ow n a.names []).lookup x≈c:=by
 have q:=W.cellsFrom_some _ n [] (.inl h);show vr.mp q
def yC{K}
  (S:dc N ps scope) (C:A.handled=cc) (d:uT P w K mg base A outer s H) (hl:⇑vs=⇑ps) (r:Vals vs us)
  (x:InCallC s ↥s (Đ (YO a scope ↥s f o).kindOf (ps.zip us) λ_=>cc) (Ow (↥s+1) scope.names []) (đ (YO a scope ↥s f o).kindOf (ps.zip us) λ_=>cc) s1) :
  Inv (qi CX P w K mg base N a scope f o A outer s H E) [] (start N vs) H s1:=by
 have G:⇑ps<=⇑N:=by have:=ż N3 S.pre;grind
 have(m,tk,rfl,hk):=x.done;have t:∀b:hH,b∉(qi CX P w K mg base N a scope f o A outer s H E).ex:=λb z=>absurd (show b∈([]:↑hH) from z) ⋯;show#[#[d.mod,S.kind,rfl,rfl,hY _,λy z c m g=>?_,λy hy=>?_,λy c _ h=>?_,λ_=>C,Around.frames_deeper d.frames,.inr #[rfl,rfl],λb z=>absurd z (t b),d.bs,d.Rc,λb _ _=>t b,λb z=>absurd z (t b),d.jC,d.R8],
  rfl,d.bare,Un.kept hk,#[_,x.toInCall.ns,λi y v m g I=>?_],λy c h=>#[_,x.cell y c h],d.Ny.fresh (hY _),λy c h=>?_,λp j=>absurd (show p∈([]:↑(hH×Obj)) from j) ⋯,d.Ny.kept hk,?_]
 .show name_of_addr x.apart (PySem.mem_of_lookup m) (PySem.mem_of_lookup g)
 .rcases hy with hy|hy
  .show sf hy
  .show absurd rfl (S.TU _ (PySem.mem_of_lookup hy))
 .show Q' (x.above y c (PySem.mem_of_lookup h))
 .have hi:i<⇑vs:=by
   unfold start at g;by_cases hi:i<⇑vs
   .show hi
   .rw[pe (by exists hi)]at g;rw[O']at g;simp_all
  have D:vs[i]?≈v:=by
   unfold start at g;rw[qs (by exists hi),sd]at g;simp_all
  have(u,B,rv):=r.get D;have j:ps[i]?≈y:=by
   rw[<-S.pre,ZE ⋯];show m
  have l:ps.Nodup:=by rw[<-S.pre];show S.nd.sublist (ý _ _)
  show#[u,rv,?_];rcases S.par y (n7 j) with k|k
  .show .inl #[k,oZ l j B k]
  .have(c,e):=sf (n:=↥s+1) k;show .inr #[.inl k,c,e,?_];have q:=x.cell y c e;rw[o_ l j B (by change scope.names.lookup y≠_;rw[k];decide)]at q;show q
 .show d.Ny.fresh (Q' (x.above y c (PySem.mem_of_lookup h)))
 .unfold start;change _=⇑N;simp_all
def wV{K:W.Frag}{B kV g pm d ct L}
 (lk:K.lookup f≈#[L,od,.func (W.fnOf name a c body scope B kV g pm O d ct),R_]) (T:W.codeIn K d a=b6) (S:dc N ps scope)
    (h:∀vs H Q E,C vs H Q E->⇑vs=⇑ps)
    (Y:∀A outer s H vs Q E,cX k (A.deeper (YO a scope ↥s f d))->C vs H Q E ->
      ∃t,OT (qi CX P w K mg base N a scope f d A outer s H E) body t/\t {nx:=λ_ H'=>Q .Nz H',rt:=Q} (start N vs) H) :
    dF P w K mg base CX (k+1) f (W.fnOf name a c body scope B kV g pm O d ct) ps C:=by
  show#[h,λA outer s H args us vs Q E m i hb r D=>?_];have hl:=h _ _ _ _ D;have G:=i.mod.SR.keeps λb o e=>(i.bs b o e).1;have p:=i.mod.nolimit.keeps λb o e=>(i.bs b o e).1;have VC:∀y∈ps.zip us,scope.names.lookup y.1≈.local\/(scope.names.lookup y.1≈.cell/\((Ow (↥s+1) scope.names []).lookup y.1).isSome=b6):=λ⟨n,v⟩ hy=>by
    rcases S.par n (Uo hy).1 with q|q
    . show .inl q
    . show .inr #[q,W.cellsFrom_some _ _ _ (.inl q)]
  show codeAny_call_function m.depth (G _ _ lk) rfl S.co S.gen rfl (W.codeRec_of G T) (hb _ _ _ _ ?_);show wpAny_newFunctionEnv_cells S.kind VC λenv he s1 x=>?_;subst he;show#[p.keeps x.toInCall.keep,codeAny_func ?_];have(t,ht,hq):=Y A outer s H vs Q E (m.deeper _) D;have I:Inv (qi CX P w K mg base N a scope f d A outer s H E) [] (start N vs) H s1:=yC S m.hd i hl r x;show lg (ht [] s1 (start N vs) H _ I hq) (λfl z hs=>?_) λe z hs=>hs;have j:∀{l:St} {H':Hp} {v:V} {u:g8},Inv (qi CX P w K mg base N a scope f d A outer s H E) [] l H' z->RelV v u->Q v H'->CE outer P w H s Q u z :=
    λ{l H' v u} J rv q=>#[v,H',J.os,J.bare,J.base,J.Ny,rv,q]
  cases fl with
  | ret u =>
    have(v,l,H',J,rv,q):=hs;show j J rv q
  | next =>
    have(l,H',J,q):=hs;show j (v:=V.Nz)  J rfl q
  | brk =>
    have(_,_,_,q):=hs;show Hf q
  | cont =>
    have(_,_,_,q):=hs;simp_all
section
variable{X:Cx}{x:Str}{p pos:Pos}{e:jw}{es:List jw}{t:TA}{id T:String}{r:List V->Hp->VK->Prop}
abbrev tCB(r:↑V->Hp->VK->Prop)(t:TA):TE:=λσ H Q=>t σ H λvs a=>r vs a Q
def Ax(a:gF X (.builtin id) r)(b:Gl X x)(c:X.mg x=cc)(d:so x≈.builtin id)(f:PA X (e::es) t)(hn:x≠"__name__":=by decide)(g:(x==("__debug__":Str))=cK:=by decide)
  (i:i0 (e::es) X.env=(cK,p8 e X.env)::i0 es X.env:=by rfl) (j:(vl pos (i0 es X.env)).any (·.1)=cK:=by rfl):PE X (.Call (.Name x p) (e::es) [] pos) (tCB r t):=by
 intro pins s σ H Q I h;show nT (dC I b c d ?_ hn g);show ur (ND (f pos pins s σ H _ I h) λus s1 ⟨vs,k,l,m,n⟩=>a pins s1 σ k vs us Q l m n) i j
end
end L2
namespace HT
open PySem PyProof.Rows
section
open PySem.SeqAt
open PySem.AutoSeq1 (wpAny_loadPart')
open PySem.MeetsSeq PySem.MeetsSeq2 PySem.MeetsSeq3
end
def DQ(o:Yt s.heap t vs.toArray)(p:Yt s.heap b ws.toArray)(f:vs≠[])
  (q:ws=[]->Q (.ref t) s) (r:ws≠[]->Q (.ref ↥s) {s with heap:=s.heap.push {cls:=.type "tuple",data:=.seq (vs++ws).toArray}})
  (hsz:⇑vs+⇑ws<=c8):f6 (gs prog w) A (RZ .Add (.ref t) (.ref b)) Q E s:=by
 have((cls,dd,data,g),ho,h,n,i):=id o;have((u,j,data2,k),c,l,m,a):=id p;simp only at h i l a;subst h i l a;have e:vs.toArray++ws.toArray=(vs++ws).toArray:=⋯
 by_cases d:ws=[]
 .show Y1 #[_,ho,rfl] #[_,c,rfl] Zl Ú F.slot_tuple_add F.entry_tuple_add (F.args_tuple_add_2 _ _)
   (tuple_addW1 t b vs.toArray ws.toArray n m dd j g k (by exists f) (by simp[d])) #[ho,c,q d]
 .show Y1 #[_,ho,rfl] #[_,c,rfl] Zl Ú F.slot_tuple_add F.entry_tuple_add (F.args_tuple_add_2 _ _)
   (tuple_addW2 t b vs.toArray ws.toArray n m dd j g k (by exists f) (by exists d) (by rw[mu,mu];show hsz)) #[ho,c,?_]
  rw[e];show r d
abbrev NV(n d:Nat):Option Int->Nat
 |none=>d
 |some v=>if v<0 then(v+(n:Int)).toNat else min v.toNat n
def Ay(n d):NV n d cc=d:=rfl
def DR(n d k:Nat):NV n d (bD (k:Int))=min k n:=by
 rfl
def HB(n d)(b:d<=n)(o):NV n d o<=n:=by
 cases o with
 |none=>show b
 |some v =>
  change(if v<0 then(v+(n:Int)).toNat else min v.toNat n)<=n;by_cases a:v<0
  .rw[ŵ a];lia
  .rw[Ŷ a];show ę _ _
def wW(v)(n d:Nat):(if v<0 then max (v+(n:Int)) 0 else min v (n:Int))=((NV n d (bD v):Nat):Int):=by
 change(if v<0 then max (v+(n:Int)) 0 else min v (n:Int))=(((if v<0 then(v+(n:Int)).toNat else min v.toNat n):Nat):Int)
 by_cases a:v<0
 .simp only[ŵ a];lia
 .simp only[Ŷ a];lia
def uU(lo hi)(n:Nat):TJ lo hi 1 (n:Int)=(((NV n 0 lo:Nat):Int),((NV n n hi:Nat):Int)):=by
 have a:¬((1:Int)<0):=⋯
 unfold TJ;erw[a,if_false];show VG ?_ ?_
 .cases lo with
  |none=>rfl
  |some v=>show wW v n 0
 .cases hi with
  |none=>rfl
  |some v=>show wW v n n
def uV(i j:Nat):Pu (i:Int) (j:Int) 1=j - i:=by
 unfold Pu;have a:(1:Int)>0:=⋯
 erw[a,if_true,Int.ediv_one];split<;>lia
def mT(p:Yc v o)(h:Q o s):f6 (gs prog w) A (ŏ v) Q E s:=by
 cases p with
 |none=>show Ű h
 |int i t=>show slicePart_int h
def fD{lo hi}{n:Nat}(hs:s.heap.IsSliceOf e c d .none)(f:Yc c lo)(g:Yc d hi)
  (h:Q (((NV n 0 lo:Nat):Int),1,NV n n hi - NV n 0 lo) s):f6 (gs prog w) A (XO (.ref e) (pure (n:Int))) Q E s:=by
 have(os,a,i,b):=id hs;unfold XO Ő;show cL (cL (p9 a b (x:=c) rfl (cL (p9 a b (x:=d) rfl (cL (p9 a b (x:=.none) rfl (dV ?_)))))));show cL (Ű ?_);change f6 _ _ (if ((1:Int)==0)=b6 then _ else _) _ _ s;rw[Ŷ ⋯];show cL (mT f (cL (mT g (cL (dV ?_)))));change f6 _ _ (match TJ lo hi 1 (n:Int) with|(lo,hi)=>pure (lo,(1:Int),Pu lo hi 1)) _ _ s;rw[uU lo hi n];change f6 _ _ (pure (((NV n 0 lo:Nat):Int),(1:Int),Pu ((NV n 0 lo:Nat):Int) ((NV n n hi:Nat):Int) 1)) _ _ s;rw[uV];show dV h
def Az(xs:Array g8)(i k:Nat):((ib k).filterMap λ(m:Nat)=>xs[((i:Int)+(m:Int) * 1).toNat]?).toArray=((xs.toList.drop i).take k).toArray:=by
 have e:(λ(m:Nat)=>xs[((i:Int)+(m:Int) * 1).toNat]?)=λm=>xs[i+m]?:=by
  funext m
  have:((i:Int)+(m:Int) * 1).toNat=i+m:=⋯
  rw[this]
 rw[e];have:=pick_run xs i k;rw[List.filterMap_map]at this;have a:((λx=>xs[x]?) ∘ λx=>i+x)=λm=>xs[i+m]?:=rfl;rw[a]at this;rw[this]
def jF{lo hi}(b:Yt s.heap t a)(hs:s.heap.IsSliceOf d e f .none)(g:Yc e lo)(i:Yc f hi)
  (j:¬(NV a.size 0 lo=0/\NV a.size a.size hi=a.size))
  (h:Q (.ref ↥s) {s with heap:=s.heap.push {cls:=.type "tuple",data:=.seq ((a.toList.drop (NV a.size 0 lo)).take (NV a.size a.size hi - NV a.size 0 lo)).toArray}})
  (hsz:a.size<=c8):f6 (gs prog w) A (U6 (.ref t) (.ref d)) Q E s:=by
 have c:sizeOk (.seq ((a.toList.drop (NV a.size 0 lo)).take (NV a.size a.size hi - NV a.size 0 lo)).toArray):=by
  change((a.toList.drop (NV a.size 0 lo)).take (NV a.size a.size hi - NV a.size 0 lo)).toArray.size<=c8;rw[mu,VM,Yu,p7];lia
 have p:NV a.size a.size hi<=a.size:=HB _ _ (hY _) hi;have(os,k,l,r):=id hs;have n:s.TypeIs (.ref d) "slice":=#[os,k,l]
 unfold U6
 try with_reducible show tr ?_
 first|show cL (dV ?_)|skip
 show cL (Ĳ b.typeIs ⋯ ?_);show cL (tj (name:=UG "__getitem__") b.typeIs sL
  (ti sL b.typeIs entry_tuple_getitem ?_ (ī _ _)))
 change f6 _ _ (XN (.ref t) >>= _) _ _ s;show cL (tupleItemsOf_ b ?_);show cL (U4 n ?_);rw[ŵ ⋯];show cL (fD hs g i ?_);have o:¬((((NV a.size 0 lo:Nat):Int)==0&&(1:Int)==1&&(NV a.size a.size hi - NV a.size 0 lo)==a.size)=b6):=by
  intro q;rw[cb,cb]at q;have u:((NV a.size 0 lo:Nat):Int)=0:=Ŗ q.1.1;have v:NV a.size a.size hi - NV a.size 0 lo=a.size:=Ŗ q.2;show j #[⋯,⋯]
 change f6 _ _ (if (((NV a.size 0 lo:Nat):Int)==0&&(1:Int)==1&&(NV a.size a.size hi - NV a.size 0 lo)==a.size)=b6 then _ else _) _ _ s;rw[Ŷ o,Az]
 first
  |show cL (m:=uv _) (pj (dV #[_,rfl,dV h]) c)
  |show cL (m:=uv _) (pj (cL (dV (dV #[_,rfl,dV h]))) c)
  |show cL (cL (m:=uv _) (pj (dV (dV #[_,rfl,dV h])) c))
  |show cL (cL (m:=uv _) (pj (dV #[_,rfl,dV h]) c))
end HT
namespace L2
open PySem PySem.Spec PyProof.Rows
@[reducible]noncomputable def TO:=St->Hp->(Option Int->Hp->Prop)->Prop
abbrev PO(X:Cx)(e:Option jw)(t:TO):Prop :=
 ∀(pins:↑(hH×Obj)) (s:i4) (σ:St) (H:Hp) (Q:Option Int->Hp->Prop),Inv X pins σ H s->t σ H Q ->
  ‹X› (evalPart e X.env) (λu a=>∃o H',Inv X pins σ H' a/\Yc u o/\Q o H') X.xe s
abbrev DS:TO:=λ_ H Q=>Q cc H
abbrev Kw(t:TE):TO:=λσ H Q=>t σ H λx a=>∃i,x=.int i/\Q (bD i) a
section
variable{X:Cx}{e:jw}{te:TE}{lo hi:Option jw}{tl th:TO}{pos p2:Pos}
def DT:PO X cc DS:=by
 intro pins s σ H Q I h;show dV #[cc,H,I,.none,h]
def DU(h:PE X e te):PO X (bD e) (Kw te):=by
 intro pins s σ H Q I a;show ND (h pins s σ H _ I a) λu s1 b=>?_;have(x,c,d,f,g):=b;have(i,rfl,q):=g;have(t,rfl):=f;show#[_,c,d,.int i t,q]
abbrev RL(X:Cx)(r:V->Option Int->Option Int->Hp->VK->Prop):Prop :=
 ∀(pins:↑(hH×Obj)) (s:i4) (σ:St) (H:Hp) (x:V) (v a b:g8) (lo hi:Option Int) (c:hH) (Q:VK),Inv X pins σ H s->RelV x v->s.heap.IsSliceOf c a b .none->Yc a lo->Yc b hi->r x lo hi H Q ->
  ∃T id,WX (.type T) "__getitem__"=pure (bD (.builtin id))/\s.TypeIs v T/\‹X› (U6 v (.ref c)) (EP X pins σ Q) X.xe s
def RL.or(h:RL X r)(h':RL X i):RL X (λx lo hi H Q=>r x lo hi H Q\/i x lo hi H Q):=by
 intro pins s σ H x v a b lo hi c Q I d hs f g q;rcases q with q|q
 .show h pins s σ H x v a b lo hi c Q I d hs f g q
 .show h' pins s σ H x v a b lo hi c Q I d hs f g q
abbrev tSl(r:V->Option Int->Option Int->Hp->VK->Prop)(te:TE)(tl th:TO):TE:=λσ H Q=>te σ H λx a=>tl σ a λl b=>th σ b λu c=>r x l u c Q
def AA(g:RL X r)(i:PE X e te)(hl:PO X lo tl)(j:PO X hi th):PE X (.Subscript e (.Slice lo hi cc p2) pos) (tSl r te tl th):=by
 intro pins s σ H Q I h;show Ë (ND (i pins s σ H _ I h) λv s1 k=>?_);have(x,m,n,o,p):=k;show wpAny_Slice (ND (hl pins s1 σ m _ n p) λa t ⟨l,w,y,z,A⟩=>ND (j pins t σ w _ y A) λc d B=>?_);have(u,f,C,D,G):=B;show dV ?_;have J:Inv X pins σ f {d with heap:=d.heap.push {cls:=.type "slice",data:=.fields #v[a,c,.none]}}:=C.kept  λb Y q=>dt _ q;have(T,id,L,N,O):=g pins _ σ f x v a c l u _ Q J o (Ŀ ..) z D G;show tail_any  N L O (by rfl)
abbrev uW(xs:↑V)(lo hi:Option Int):↑V:=(xs.drop (HT.NV ⇑xs 0 lo)).take (HT.NV ⇑xs ⇑xs hi - HT.NV ⇑xs 0 lo)
def kY(xs)(lo hi):⇑(uW xs lo hi)<=⇑xs:=by
 unfold uW;rw[VM,Yu];lia
abbrev Kx(K:W.Frag):V->Option Int->Option Int->Hp->VK->Prop:=λx lo hi H Q=>∃a xs,x=.ref a/\Oi K H a xs /\
 ¬(HT.NV ⇑xs 0 lo=0/\HT.NV ⇑xs ⇑xs hi=⇑xs)/\∀p,H p=cc->Q (.ref p) (upd H p (.tup (uW xs lo hi)))
def HC:RL X (Kx X.K):=by
 intro pins s σ H x v m n lo hi p Q I f hs g i h;have(a,xs,rfl,j,k,q):=h;cases f;have(l,r,d,hz):=I.tuple j;have c:l.toArray.size=⇑xs:=by rw[mu];show r.length.symm
 show#["tuple",_,sL.lookup,d.typeIs,?_];show HT.jF d hs g i (by rw[c];show k) ?_ (by rw[c];show hz);rw[c];show#[.ref ↥s,_,I.laid (t':=s.toks) (o:=.tup (uW xs lo hi)) (λb t q=>dt _ q) (hY _) ?_,rfl,q _ (I.Ny.fresh (hY _))];show#[qv (kY xs lo hi) hz,_,(r.drop (HT.NV ⇑xs 0 lo)).take (HT.NV ⇑xs ⇑xs hi - HT.NV ⇑xs 0 lo),WH _ _]
abbrev Ky(K:W.Frag):R2:=λx y H Q=>∃a b xs ys,x=.ref a/\y=.ref b/\Oi K H a xs/\Oi K H b ys/\xs≠[]/\⇑xs+⇑ys<=c8 /\
 (ys=[]->Q (.ref a) H)/\(ys≠[]->∀p,H p=cc->Q (.ref p) (upd H p (.tup (xs++ys))))
def Vals.qj(r:Vals xs us):us=[]↔xs=[]:=by
 cases r with
 |_=>simp
def DV:O3 X (RZ .Add) (Ky X.K):=by
 intro pins s σ H x y v u Q I f g h;have(a,b,xs,ys,rfl,rfl,i,j,k,hz,l,m):=h;cases f;cases g;have(p,d,n,_):=I.tuple i;have(r,c,p2,_):=I.tuple j;show HT.DQ n p2 (λz=>k (d.qj.mp z)) (λz=>#[.ref a,H,I,rfl,l (c.qj.mp z)]) (λz=>?_) (by rw[<-⇑d,<-⇑c];show hz);show#[.ref ↥s,_,I.laid (t':=s.toks) (o:=.tup (xs++ys)) (λb t q=>dt _ q) (hY _) ?_,rfl,m (λw=>z (c.qj.mpr w)) _ (I.Ny.fresh (hY _))];show#[by rw[mx];show hz,_,d.append c,WH _ _]
end
abbrev QZ(n:Nat)(i:Int):Option Nat:=if 0<=i then(if i<n then bD i.toNat else cc) else if -(n:Int)<=i then bD (i+n).toNat else cc
abbrev Oe{α:Type}(xs:↑α)(i:Int):Option α:=(QZ ⇑xs i).bind λj=>xs[j]?
def wX{n}(h:QZ n i≈j):ņ i n≈j/\j<n/\-(n:Int)<=i/\i<n:=by
 unfold QZ at h;by_cases h0:0<=i
 .rw[ŵ h0]at h;by_cases a:i<n
  .rw[ŵ a]at h;have e:=vu h;show#[by rw[č h0 a,e],⋯,⋯,a]
  simp_all
 .rw[Ŷ h0]at h;by_cases a:-n<=i
  .rw[ŵ a]at h;have e:=vu h;show#[by rw[seqIndex_neg ⋯ a,e],⋯,a,⋯]
  simp_all
def qk(h:Oe xs i≈v):∃j,ņ i ⇑xs≈j/\xs[j]?≈v/\j<⇑xs/\-(⇑xs:Int)<=i/\i<⇑xs:=by
 unfold Oe at h;cases e:QZ ⇑xs i with
 |none=>simp_all
 |some j =>
  rw[e]at h;have(a,b,c,d):=wX e;show#[j,a,h,b,c,d]
def bN{j:Nat}(h:xs[j]?≈v):Oe xs (j:Int)≈v:=by
 have a:=(eH.mp h).1;have e:QZ ⇑xs j≈j:=by
  unfold QZ;simp_all
 unfold Oe;rw[e];show h
abbrev lZ(b:jw):Prop:=∀o i,Zw b cK o i=operate [o,i] (U6 o i)
abbrev WU(X:Cx)(r:R2):Prop :=
 ∀(b a:jw) (pins:↑(hH×Obj)) (s:i4) (σ:St) (H:Hp) (x y:V) (v u:g8) (Q:VK),Inv X pins σ H s->RelV x v->RelV y u->r x y H Q ->
  Zw a cK v u=operate [v,u] (U6 v u)->‹X› (subscriptTail b a v u) (EP X pins σ Q) X.xe s
abbrev TV(X:Cx)(id:String)(r:V->↑V->Hp->VK->Prop):Prop :=
 ∀(pins:↑(hH×Obj)) (s:i4) (σ:St) (H:Hp) (x:V) (xs:↑V) (v:g8) (us:↑g8) (Q:VK),Inv X pins σ H s->RelV x v->Vals xs us->r x xs H Q ->
  ‹X› (Qt (.builtin id) (v::us)) (EP X pins σ Q) X.xe s
section
def Kz(c:WU X r)(d:PE X a f)(g:PE X b tb)(hs:lZ b):PE X (.Subscript a b pos) (WR r f tb):=by
 intro pins s σ H Q I h;show Ë (MK d g I h λv u i x y j k l m q=>c a b pins i σ j x y v u Q k l m q (hs _ _))
abbrev MP(K:W.Frag):R2:=λx y H Q=>∃p xs i v,x=.ref p/\y=.int i/\N_ K H p xs/\Oe xs i≈v/\Q v H
abbrev KA(K:W.Frag):R2:=λx y H Q=>∃p xs i v,x=.ref p/\y=.int i/\Oi K H p xs/\Oe xs i≈v/\Q v H
abbrev MQ:R2:=λx y H Q=>∃z i c,x=.str z/\y=.int i/\⇑z<=c8/\Oe (~~~z) i≈c/\Q (.str #[#v[c]]) H
def DW:WU X (MP X.K):=by
 intro b c pins s σ H x y v u Q I l m h hs;have(p,xs,i,z,rfl,rfl,n,A,q):=h;cases l;have(t,rfl):=m;have(B,r,d,hz):=I.list n;have(j,g,C,L,D,G):=qk A;have(w,k,J):=r.get C;have hl:=⇑r;have hn:=gO;have a:EP X pins σ Q w s:=#[z,H,I,J,q]
 by_cases h0:0<=i
 .have f:i.toNat=j:=by
   rw[č h0 G]at g;simp_all
  show item_listR d.isList h0 ⋯ (by rw[f];exists k) a hs
 .have f:(i+(B.toArray.size:Int)).toNat=j:=by
   rw[seqIndex_neg ⋯ D]at g;simp_all
  show ù  d.isList.typeIs slot_list_getitem.lookup
   (wpAny_getItem_list_neg  d.isList ⋯ ⋯ ⋯ (by rw[f];exists k) #[rfl,a]) hs
def km:WU X (KA X.K):=by
 intro a b pins s σ H x y v u Q I f g h hs;have(p,xs,i,z,rfl,rfl,k,l,q):=h;cases f;have(t,rfl):=g;have(B,r,d,hz):=I.tuple k;have(j,C,m,D,G,J):=qk l;have(w,n,A):=r.get m;have hl:=⇑r;have hn:=gO;have c:EP X pins σ Q w s:=#[z,H,I,A,q]
 show ù  d.typeIs slot_tuple_getitem.lookup
  (getItem_tuple (j:=j)  d ⋯ ⋯ ⋯ (by exists n) #[rfl,c]) hs
def mU:WU X MQ:=by
 intro a b pins s σ H x y v u Q I f g h hs;have(z,i,c,rfl,rfl,hz,k,q):=h;have(t,rfl):=f;have(t',rfl):=g;have(j,d,l,p,m,n):=qk k;have hl:⇑z.cps.toList=⇑z:=by rfl
 rw[hl]at d m n;have hn:=gO;show tail_any (Rg s z t) slot_str_getitem.lookup (getItem_str  (by
  grind) (by rw[d];exists l) #[.str _,H,I.tok _,#[_,rfl],q]) hs
def uX(a:↑g8)(n j)(u):rD (·.setIfInBounds j u) {cls:=.type "list",data:=.seq a.toArray n}={cls:=.type "list",data:=.seq (a.set j u).toArray n}:=by
 simp[rD]
def Inv.lst(I:Inv X pins σ H s)(h:H p≈.lst xs):
  ∃a n,Vals xs a/\s.heap.get? p≈{cls:=.type "list",data:=.seq a.toArray n}/\⇑xs<=c8:=by
 have(z,a,n,r,e):=I.Ny p _ h;show#[a,n,r,e,z]
def Inv.HD{a its':↑g8}(I:Inv X pins σ H s)(h:H p≈.lst xs)
  (ho:s.heap.get? p≈{cls:=.type "list",data:=.seq a.toArray n}) (c:f {cls:=.type "list",data:=.seq a.toArray n}={cls:=.type "list",data:=.seq its'.toArray d }) (r:Vals ys its') (hz:⇑ys<=c8) (t) :
  Inv X pins σ (upd H p (.lst ys)) {s with heap:=s.heap.update p f,toks:=t}:=by
 have e:(s.heap.update p f).get? p≈{cls:=.type "list",data:=.seq its'.toArray d }:=by
  rw[ro f ho (by rw[c]<;>rfl),c]
 show I.write   (by rw[h];trivial) (.inl rfl) (λb u g q=>(tp _ _ (mh g)).trans q) ⟨_,e⟩ ?_;show#[hz,its',d,r,e]
abbrev KC:V->V->V->Hp->(Hp->Prop)->Prop:=λo i v H Q=>∃p xs k j,o=.ref p/\i=.int k/\H p≈.lst xs/\QZ ⇑xs k≈j/\Q (upd H p (.lst (xs.set j v)))
def set_list:p_ X KC:=by
 intro pins s σ H o i v x y u Q I f g rv h;have(p,xs,k,j,rfl,rfl,a,l,q):=h;cases f;have(t,rfl):=g;have(b,n,r,ho,hz):=I.lst a;have(c,z,m,w):=wX l;have hl:=⇑r;have hn:=gO;have d :=
  I.HD a ho (uX b n j u) (r.set rv j) ⋯ s.toks
 by_cases h0:0<=k
 .have hk:k.toNat=j:=by
   rw[č h0 w]at c;simp_all
  show W.ki_setAt ho h0 ⋯ ⋯ (by rw[hk];show#[_,d,q])
 .have hk:(k+b.toArray.size).toNat=j:=by
   rw[seqIndex_neg ⋯ m]at c;simp_all
  show W.ki_setBack ho ⋯ ⋯ ⋯ (by rw[hk];show#[_,d,q])
def ql(lo hi)(n):(V1 lo hi cc n).1=((HT.NV n 0 lo:Nat):Int)/\(V1 lo hi cc n).2.1=((HT.NV n n hi:Nat):Int)/\(V1 lo hi cc n).2.2=1:=by
 show#[?_,?_,rfl]
 .cases lo with
  |none=>simp[V1,HT.NV]
  |some i =>
   erw[V1,HT.NV,ë,show(1:Int)>0 by decide,if_true];by_cases h:i<0
   .simp only[h,if_true]<;>lia
   .simp only[h,if_false]<;>lia
 .cases hi with
  |none=>rfl
  |some i =>
   erw[V1,HT.NV,ë,show(1:Int)>0 by decide,if_true];by_cases h:i<0
   .simp only[h,if_true]<;>lia
   .simp only[h,if_false]<;>lia
def oF(a:↑g8)(lo hi):slicePick a.toArray lo hi cc=((a.drop (HT.NV ⇑a 0 lo)).take (HT.NV ⇑a ⇑a hi - HT.NV ⇑a 0 lo)).toArray:=by
 have(b,c,d):=ql lo hi _;unfold slicePick;rw[b,c,d];erw[sliceRange_one,pick_run]<;>rfl
abbrev KG(K:W.Frag):V->Option Int->Option Int->Hp->VK->Prop:=λx lo hi H Q=>∃a xs,x=.ref a/\N_ K H a xs/\∀p,H p=cc->Q (.ref p) (upd H p (.lst (uW xs lo hi)))
def DX:RL X (KG X.K):=by
 intro pins s σ H x v k l lo hi m Q I f hs g i h;have(a,xs,rfl,j,q):=h;cases f;have(n,r,d,hz):=I.list j;have c:=⇑r;show#[_,_,slot_list_getitem.lookup,d.isList.typeIs,?_];show wpAny_getItem_list_slice d.isList hs g i .none ⋯ ?_ ⋯;rw[oF,<-c];show#[.ref _,_,I.laid   (λb p q=>dt _ q) (hY _) ?_,rfl,q _ (I.Ny.fresh (hY _))];show#[qv (kY xs lo hi) hz,_,0,(r.drop _).take _,gj _ rfl]
def qm:O3 X (y0 .NotIn) (λx y H Q=>∃i j,x=.str i/\y=.str j/\Q (.bl (!(!(td j i 0 ⇑j 1).isEmpty))) H):=by
 intro pins s σ H x y v u Q I a b h;have(i,j,rfl,rfl,q):=h;have(t,rfl):=a;have(t',rfl):=b;show notIn_str #[.bl _,H,I,rfl,q]
def fV:gF X (.builtin "len") (λxs H Q=>∃p ys,xs=[.ref p]/\(N_ X.K H p ys\/Oi X.K H p ys)/\Q (.int ⇑ys) H):=by
 intro pins s σ H xs us Q I r h;have(p,ys,rfl,hq,q):=h;have(u,rfl,d):=vals1 r;cases d;have hn:=gO;rcases hq with hq|hq
 .have(f,b,c,hz):=I.list hq;have a:=⇑b;show Calls.call_len_list c.isList (by erw[mu]<;>lia) #[.int _,H,I.tok _,#[_,by rw[mu,a]],q]
 .have(f,b,c,hz):=I.tuple hq;have a:=⇑b;show Œ c (by erw[mu]<;>lia) #[.int _,H,I.tok _,#[_,by rw[mu,a]],q]
def qo:gF X (.builtin "len") (λxs H Q=>∃z,xs=[.str z]/\⇑z<=c8/\Q (.int ⇑z) H):=by
 intro pins s σ H xs us Q I r h;have(z,rfl,hz,q):=h;have(u,rfl,t,rfl):=vals1 r;have hn:=gO;show len_str ⋯ #[.int _,H,I.tok _,#[_,rfl],q]
def iY:gF X (.type "tuple") (λxs H Q=>∃p ys,xs=[.ref p]/\((N_ X.K H p ys/\∀l,H l=cc->Q (.ref l) (upd H l (.tup ys)))\/(Oi X.K H p ys/\Q (.ref p) H))):=by
 intro pins s σ H xs us Q I r h;have(p,ys,rfl,h):=h;have(u,rfl,j):=vals1 r;cases j;rcases h with⟨a,q⟩|⟨a,q⟩
 .have(f,c,d,hz):=I.list a;have g:=⇑c;show call_tuple_list d.isList (λh' k=>?_) ⋯;have i:=I.kept (t':=s.toks) k;have m :=
   i.laid (t':=s.toks) (λb o e=>dt _ e) (hY _) (show cF _ X.w _ _ _ (.tup ys) from#[hz,f,c,WH _ _])
  show#[.ref _,_,m,rfl,q _ (i.Ny.fresh (hY _))]
 .have(f,c,d,hz):=I.tuple a;show call_tuple_same d #[.ref p,H,I,rfl,q]
abbrev WV(K:W.Frag)(T:String)(x:V)(H:Hp):Prop:=match x with
 |.str _=>T="str"
 |.int _=>T="int"
 |.ref p=>(T="list"/\∃xs,N_ K H p xs)\/(T="tuple"/\∃o,K.lookup p≈o/\o.cls=.type "tuple"/\o.dict=cc) \/
   (T="dict"/\((∃kvs,H p≈.dK kvs)\/∃kvs,H p≈.dT kvs))\/(T="set"/\∃S n,H p≈.set S n)
 |_=>False
def qp(I:Inv X pins σ H s)(r:RelV x v)(ty:WV X.K T x H):
  s.TypeIs v T/\∀a,v=.ref a->∃f,s.heap.get? a≈f/\f.dict=cc:=by
 cases x with
 |str z =>
  have(t,rfl):=r;cases(ty);show#[Rg s z t,λ_ e=>nomatch e]
 |int i =>
  have(t,rfl):=r;cases(ty);show#[typeIs_int s i t,λ_ e=>nomatch e]
 |ref p =>
  cases r;rcases ty with⟨rfl,xs,h⟩|⟨rfl,o,hk,j,b⟩|⟨rfl,hk⟩|⟨rfl,S,n,hk⟩
  .have(k,_,g,_):=I.list h;show#[g.isList.typeIs,λa e=>?_];cases e;have(o,n,e,c,b,_):=g;show#[o,e,b]
  .show#[#[o,I.Ph p o hk,j],λa e=>?_];cases e;show#[o,I.Ph _ o hk,b]
  .have z:∃o,s.heap.get? p≈o/\o.ExactDict:=by
    rcases hk with⟨kvs,hk⟩|⟨kvs,hk⟩
    .have(_,_,_,_,o,_,_,e,ex,_):=I.Ny p _ hk;show#[o,e,ex]
    .have(_,_,_,_,o,_,_,e,ex,_):=I.Ny p _ hk;show#[o,e,ex]
   have(o,e,ex):=z;show#[#[o,e,ex.1],λa d=>?_];cases d;show#[o,e,ex.2.1]
  .have(o,_,_,_,e,ex,_):=I.Ny p _ hk;show#[#[o,e,ex.1],λa d=>?_];cases d;show#[o,e,ex.2.1]
 |_=>show Hf ty
abbrev MR(K:W.Frag)(T:String)(r:V->↑V->Hp->VK->Prop)(to:TE):TE:=λσ H Q=>to σ H λx a=>WV K T x a/\r x [] a Q
abbrev VF(K:W.Frag)(T:String)(r:V->↑V->Hp->VK->Prop)(to:TE)(t:TA):TE:=λσ H Q=>to σ H λx a=>WV K T x a/\t σ a λxs b=>r x xs b Q
variable{o e:jw}{es:List jw}{to:TE}{t:TA}{name:Str}{apos Nu:Pos}{T id:String}{r:V->List V->Hp->VK->Prop}
def AB(c:PlainAttrs T)(slot:ō T name id)(d:Z_ (.builtin id)=pure (.type "method_descriptor"))(f:TV X id r)(ho:PE X o to)
  (g:LF o name X.env (p8 o X.env)=p8 o X.env:=by rfl) (i:(apos.endLine==Nu.line)=b6:=by rfl):PE X (.Call (.Attribute o name apos) [] [] Nu) (MR X.K T r to):=by
 intro pins s σ H Q I h;show ç g i (ND (ho pins s σ H _ I h) λv s1 j=>?_);have(x,k,a,b,ty,l):=j;have(m,n):=qp a b ty;show#[T,id,c,slot,d,m,n,uk rfl (PySem.evalArgs_none (f pins s1 σ k x [] v [] Q a b .nil l))]
def pb(d:PlainAttrs T)(slot:ō T name id)(f:Z_ (.builtin id)=pure (.type "method_descriptor"))(g:TV X id r)(ho:PE X o to)(i:PA X (e::es) t)
  (j:LF o name X.env (p8 o X.env)=p8 o X.env:=by rfl)
  (k:((vl Nu (i0 (e::es) X.env)).all (λx=>!x.1)&&(UB Nu (PU [] X.env)).all (λx=>x.1.isSome)
   && df (⇑(e::es)+⇑([]:↑QK)+(if ([]:↑QK).isEmpty then 0 else 1)<30))=b6:=by rfl)
  (l:(apos.endLine==Nu.line)=b6:=by rfl) (hs:i0 (e::es) X.env=(cK,p8 e X.env)::i0 es X.env:=by rfl) (C:(vl Nu (i0 es X.env)).any (·.1)=cK:=by rfl) :
  PE X (.Call (.Attribute o name apos) (e::es) [] Nu) (VF X.K T r to t):=by
 intro pins s σ H Q I h;show WT j k l rfl (ND (ho pins s σ H _ I h) λv s1 m=>?_);have(x,n,a,b,ty,p):=m;have(q,u):=qp a b ty;show#[T,id,d,slot,f,q,u,?_];have c:=i Nu pins s1 σ n _ a p;rw[hs]at c ⊢;show uk (by assumption) (w6 ?_);show ND c λus w ⟨vs,y,z,A,B⟩=>g pins w σ y x vs v us Q z b A B
end
abbrev WW(X:Cx)(id:String)(r:V->↑V->Hp->VK->Prop):Prop :=
 ∀(pins:↑(hH×Obj)) (s:i4) (σ:St) (H:Hp) (x:V) (xs:↑V) (v:g8) (us:↑g8) (Q:VK),Inv X pins σ H s->RelV x v->Vals xs us->r x xs H Q ->
  ‹X› (Qt (.builtin id) (v::us)) (EP X pins σ Q) X.xe s
theorem Vals.one:∀{x}{us},Vals [x] us->∃u,us=[u]/\RelV x u
 |_,_,.cons r .nil=>#[_,rfl,r]
theorem Vals.zero:∀{us},Vals [] us->us=[]
 |_,.nil=>rfl
def Vals.dropLast(h:Vals xs us):Vals xs.dropLast us.dropLast:=by
 induction h with
 |nil=>show .nil
 |cons r t a =>
  cases t with
  |nil=>show .nil
  |cons q t'=>show .cons r a
def Vals.reverse(h:Vals xs us):Vals xs.reverse us.reverse:=by
 induction h with
 |nil=>show .nil
 |cons r t a=>rw[Vf,Vf];show Vals.append a (.cons r .nil)
def Inv.jg{a its':↑g8}(I:Inv X pins σ H s)(b:H l≈.lst xs)
  (e:s.heap.get? l≈{cls:=.type "list",data:=.seq a.toArray n}) (c:f a.toArray=its'.toArray) (d:Vals ys its') (hz:⇑ys<=c8) :
  Inv X pins σ (upd H l (.lst ys)) {s with heap:=s.heap.update l (rD f),toks:=t' }:=by
 have q:=PySem.IsL.update e f;rw[c]at q;show I.write   (by rw[b];show ttt) (.inl rfl) (λi u g h=>(tp _ _ (mh g)).trans h) ⟨_,q⟩ ?_;show#[hz,its',_,d,q]
def Inv.MS(I:Inv X pins σ H s)(b:Vals ys a)(hz:⇑ys<=c8):
  Inv X pins σ (upd H ↥s (.lst ys)) {s with heap:=s.heap.push {cls:=.type "list",data:=.seq a.toArray},toks:=t' } :=
 I.laid (λ_ _ q=>dt _ q) (hY _) ⟨hz,a,0,b,gj _ rfl⟩
def Inv.fresh(I:Inv X pins σ H s):H ↥s=cc:=I.Ny.fresh (hY _)
inductive IvM(s:i4)(l:hH)(xs:↑V):Prop
 |mk (hz:⇑xs<=c8) (J':↑g8) (n:Nat):Vals xs J'->⇑xs=⇑J'->s.heap.get? l≈{cls:=.type "list",data:=.seq J'.toArray n}->IvM s l xs
def Inv.DY(I:Inv X pins σ H s)(a:H l≈.lst xs):IvM s l xs:=by
 have(z,b,n,r,e):=I.Ny l _ a;show#[z,b,n,r,⇑r,e]
def AD(h:n<=c8):u5 n=cK:=by
 unfold u5;simp_all
abbrev wY:V->↑V->Hp->VK->Prop:=λx vs H Q=>∃l xs y,x=.ref l/\vs=[y]/\H l≈.lst xs/\⇑xs<c8/\Q .Nz (upd H l (.lst (xs++[y])))
def iG:WW X "list.append" wY:=by
 intro pins s σ H x vs v us Q I c rv h;have(l,xs,y,rfl,rfl,a,hz,q):=h;cases c;have(u,rfl,d):=rv.one;have(z,b,n,r,hl,e):=I.DY a;show Rn F.slot_list_append #[_,e,rfl] F.entry_list_append (F.args_list_append_2 _ _) (PySem.list_append l b.toArray n u ⋯) #[e,?_];show#[.Nz,_,I.jg (its':=b++[u]) a e ⋯ (r.append (.cons d .nil)) ?_,rfl,q]
 grind
abbrev MT:V->↑V->Hp->VK->Prop:=λx vs H Q=>∃l xs y,x=.ref l/\vs=[]/\H l≈.lst xs/\xs[⇑xs - 1]?≈y/\Q y (upd H l (.lst xs.dropLast))
def AE:WW X "list.pop" MT:=by
 intro pins s σ H x vs v us Q I d rv h;have(l,xs,y,rfl,rfl,c,f,q):=h;cases d;have a:=rv.zero;subst a;have(z,b,n,r,hl,e):=I.DY c;have(u,j,g):=r.get f;have i:b.toArray[b.toArray.size - 1]?≈u:=by
  simp_all
 show Rn F.slot_list_pop #[_,e,rfl] F.entry_list_pop (F.args_list_pop_1 _) (MeetsSeq.list_pop_last l b.toArray n u i ⋯) #[e,?_];show#[y,_,I.jg  c e ?_ r.dropLast ?_,g,q]
 .simp
 .rw[List.length_dropLast];lia
section
set_option maxRecDepth 100000 in
end
end L2
namespace Att
open PySem PySem.W PySem.Calls PyProof.Rows
def lR:∀ns vs,WellAll P h vs (ns.map ś)->û vs ns:=by
 intro ns;induction ns with
 |nil =>
  intro vs w;cases w;show .nil
 |cons n ns c =>
  intro vs w;cases w with
  |cons a b =>
   cases a;show .cons _ _ (c _ b)
def yD{l:OpenLaw}(hn:l.most≈n)
  (g:l.row.toRowW.claim.pre args=b6) (i:WellAll P h b args) :
  ∃a vs ns,b=[ku a]/\args=[WData.list (ns.map ś)]/\h.get? a≈{cls:=.type "list",data:=.seq vs.toArray}/\û vs ns/\⇑ns<=n:=by
 have f:WShape.hasAll [] args _=b6:=(pre_splitW g).1;have j:=(pre_splitW g).2;have(d,r,rfl,k,m):=hasAllW_cons f;obtain rfl:=hasAllW_nil m;have(xs,rfl,o):=hasW_list k;have(ns,rfl):=items_int o;have c:⇑ns<=n:=by
  have e:=by
   have e:=(holds_andW j).1;rw[hn]at e;show e
  have t:=condW_of e (w_not (w_lt w_lit (w_len_list (w_arg rfl))));simp_all
 cases i with
 |cons p q =>
  cases q;cases p with
  |list ho s=>show#[_,_,ns,rfl,rfl,ho,lR ns _ s,c]
def yE(l:OpenLaw)(args):l.row.toRowW.claim.post args (.bool b6) args=b6 :=
 postW_of
  (show WShape.has [] _ _=b6 by rfl)
  (w_eq_bool (w_res rfl) w_lit) rfl
def si{l:OpenLaw}
  (hn:l.most≈n) (t:d.params.defaults=[])
  (Qt:∀w s₀ b mg k fa o pm i c a vs ns,
   Ground q e [] u w s₀ mg k b.heap->v w b.heap ->
   b.heap.get? fa≈o->o.data=.func (docDef d.name d.params d.body d.scope pm i c)->b.heap.CodeRec i d.name->mg d.name≈.ref fa ->
   b.heap.get? a≈{cls:=.type "list",data:=.seq vs.toArray}->û vs ns->⇑ns<=n->b.gens=#v[] ->
   Ry (gs l.prog w) Xf (.call (.ref fa) #[[.ref a],[]]) (λr j=>r=.ok (.ret (.bool b6))/\OldK b.heap j.heap/\j.os=b.os/\Wf j.gens) b) :
  WalkO q e u v l.row.toRowW d [] (λf vs=>PySem.call f vs):=by
 intro w s₀ b mg k G Y fa o pm i c x kV ho y z m A B args p as C s T D H;obtain rfl:x=.none:=Dflts.none m t;obtain rfl:kV=.none:=Dflts.noKw m;have(a,vs,ns,rfl,rfl,I,g,h):=yD hn C D;show enter_call (Tz (Qt w s₀ b mg k fa o pm i c a vs ns G Y ho (fd_plain y) z A I g h B) λr j J=>?_);have(rfl,L,N,O):=J;show#[.inl #[_,_,[],rfl,λ_=>rfl,.bool b6,yE l _,λ_=>#[ŕ,λ_ Q=>(nomatch Q)]],L,N,O]
end Att
namespace L2
open PySem PySem.Spec PyProof.Rows
theorem pd:∀{vs}{ns},û vs ns->Vals (ns.map V.int) vs
 |_,_,.nil=>.nil
 |_,_,.cons n t h=>.cons #[t,rfl] (pd h)
abbrev HE(H:Hp):Prop:=∀b,H b=cc\/∃o xs,H b≈.Pf o (.lst xs)
def AF{K}
  (B:K.In c.heap) (C:c.heap.Ns i5 mg) (g:c.heap.Ns ħ D) (y:∀x:Str,x≠"__name__"->D x=so x) (N:c.heap.NoLimit) (O:c.gens=#v[])
  (A:c.heap.get? a≈{cls:=.type "list",data:=.seq vs.toArray}) (hi:û vs ns) (hl:⇑ns<=c8) (Q:cX k Xf)
  (F:∀base:K2,K.In base->base.Ns i5 mg->dF P w K mg base CX k fa T [x] Y) (VH:∀s u,ø s T #[[u],[]] [(x,u)])
  (Pl:∀H:Hp,HE H->N_ K H a (ns.map V.int)->Y [.ref a] H (λv _=>v=.bl b6) λ_ _ _=>False)
  (Yl:∀H e f,CX [] H c (λ_ _ _=>False) e f->False) :
  Ry (gs P w) Xf (.call (.ref fa) #[[.ref a],[]]) (λr f=>r=.ok (.ret (.bool b6))/\OldK c.heap f.heap/\f.os=c.os/\Wf f.gens) c:=by
 have rv:=pd hi;have Ym:=⇑hi;have i:∀H:Hp,HE H->N_ K H a (ns.map V.int)->OJ P w H c.heap->(∀b,H b≠cc->b=a)->(H a≠cc->K.lookup a=cc) ->
   Ry (gs P w) Xf (.call (.ref fa) #[[.ref a],[]]) (λr f=>r=.ok (.ret (.bool b6))/\OldK c.heap f.heap/\f.os=c.os/\Wf f.gens) c:=by
  intro H G hS I hA hK;have j3:∀{b:hH} {o:Obj},c.heap.get? b≈o->H b=cc->(pZ c.heap H).get? b≈o:=λe n=>Ag e n;have VB:∀{b:hH} {o:Obj} {es:Array DictEntry} {ep:Nat},c.heap.get? b≈o->o.data=.dict es ep->H b=cc:=λ{b o es ep} e d=>by
   grind
  have t:∀{b:hH} {m:Str->Option g8},c.heap.Ns b m->(pZ c.heap H).Ns b m:=λ{b m} ⟨o,es,ep,e,d,r⟩=>#[o,es,ep,j3 e (VB e d),d,r]
  have j:K.In (pZ c.heap H):=λb o e=>j3 (B b o e) (by
   grind)
  have hM:Mod K mg (pZ c.heap H):=#[j,t C,#[D,t g,y],let ⟨mc,h1,h2⟩:=N;⟨mc,t h1,h2⟩]
  have e0:uT P w K mg (pZ c.heap H) Xf [] c H:=#[rfl,hM,λb o e=>DA e,UL (yo _ _),ttt,λb g=>absurd (show b∈([]:↑hH) from g) ⋯,I,.of_eq O]
  show Tz ((F _ j (t C)).run Xf [] c H #[[.ref a],[]] [.ref a] [.ref a] _ _ Q e0 (VH c (.ref a)) (.cons rfl .nil) (Pl H G hS)) λr f h=>?_;cases r with
  |error e=>show(Yl H e f h).elim
  |ok fl =>
   cases fl with
   |ret u =>
    have(v,H',os,l,J,Yn,r',q):=h;have q':v=.bl b6:=q;subst q';obtain rfl:u=UC b6:=r';show#[rfl,OldK.of_keep λb o e=>?_,os,l];cases q:H b with
    |none=>show J.keep b o e q (by intro z;show absurd (show b∈([]:↑hH) from z) ⋯) ⋯
    |some u =>
     rcases G b with z|⟨ob,xs,z⟩
     .rw[q]at z;cases z
     .have z2:=J.OK b ob _ z;have(L,_):=I b _ z;have(e2,_):=Yn b _ z2;rw[e]at L;cases L;show e2
   |_=>show Hf h
 cases hk:K.lookup a with
 |some o =>
  have e:=B a o hk;rw[A]at e;cases e;show i (λ_=>cc) (λ_=>.inl rfl) (.inr #[_,vs.toArray,_,hk,rfl,rfl,rfl,by rw[mu,Ym];show hl,by exists rv]) (λb u z=>by have p:(cc:Option HO)≈u:=z;cases p) (λb z=>absurd rfl z) λz=>absurd rfl z
 |none =>
  show i (λb=>if b=a then bD (.Pf {cls:=.type "list",data:=.seq vs.toArray} (.lst (ns.map V.int))) else cc) (λb=>?_) (.inl (.inr #[{cls:=.type "list",data:=.seq vs.toArray},ŵ rfl])) (λb u z=>?_) (λb z=>?_) λ_=>hk
  .by_cases g:b=a
   .show .inr #[_,_,ŵ g]
   .show .inl (Ŷ g)
  .by_cases g:b=a
   .have p:=(ŵ g).symm.trans z;cases p;subst g;show#[A,by rw[ei];show hl,vs,_,rv,A]
   .have p:=(Ŷ g).symm.trans z;cases p
  simp_all
def DZ{l:W.OpenLaw}{K:YI->W.Frag}{CX:wk->TR}{r:wk->Sp}
  (hn:l.most≈n) (y:n<=c8) (z:d.params.defaults=[]) (A:cX k Xf)
  (B:∀w h,C w h->(K w.params).In h)
  (F:∀w mg fa h,(K w.params).In h->h.Ns i5 mg->mg d.name≈.ref fa ->
   ∃j,(∀s u,ø s j #[[u],[]] [(x,u)]) /\
    ∀base,(K w.params).In base->base.Ns i5 mg->dF l.prog w (K w.params) mg base (CX w) k fa j [x] (r w))
  (D:∀w H a (ns:↑Int),⇑ns<=n->HE H->N_ (K w.params) H a (ns.map V.int)->r w [.ref a] H (λv _=>v=.bl b6) λ_ _ _=>False)
  (I:∀w H s e m,CX w [] H s (λ_ _ _=>False) e m->False) :
  W.WalkO q p XP C l.row.toRowW d [] (λf vs=>PySem.call f vs):=by
 show Att.si hn z λw s₀ J mg mb fa o pm cd L a vs ns G Y ho hd NU N O i c Q=>?_;have t:=B w _ Y;have(j,hb,hF):=F w mg fa _ t G.T.g N;show AF t G.T.g G.T.b G.T.builtins G.T.nolimit Q O i (qv c y) A hF hb (λH hO hS=>D w H a ns c hO hS) λH e m=>I w H J e m
@[reducible]noncomputable def S5:TR:=λ_ _ _ _ _ _=>False
@[reducible]noncomputable def E0:XK:=λ_ _ _=>False
def Gj:Passes S5 X E0:=λ_ _ _ _ _ _ _ h=>h.elim
inductive KH(K:W.Frag)(x qual:Str)(st:va)(f:hH)(fd:VD):Prop
 |mk (oc:g8) (od:Option hH) (kV doc pm:g8) (an:Option hH) (OO ct:g8) (R_:Array (Option g8)):fd=W.fnOf x qual (fT st) (bP st) (aD st) .none kV doc pm an OO ct->K.lookup f≈⟨oc,od,.func fd,R_⟩->W.codeIn K OO qual=b6->KH K x qual st f fd
structure Q0(K:W.Frag)(x qual:Str)(st:va)(f:hH)(fd:VD):Prop where
 ex:KH K x qual st f fd
 kp:W.keepIn K (.ref f)=b6
section
variable{P:rS}{w:wk}{K:PySem.W.Frag}{mg:Str->Option g8}{base:K2}
def Q0.ok{st}(F:Q0 K x a st f e)(S:dc N ps (aD st))(c:∀vs H Q E,d vs H Q E->⇑vs=⇑ps)
  (g:∀b A outer s H vs Q E,cX k (A.deeper (YO a (aD st) ↥s f b))->d vs H Q E ->
   ∃t,OT (qi S5 P w K mg base N a (aD st) f b A outer s H E).OZ (bP st) t/\t {nx:=λ_ H'=>Q .Nz H',rt:=Q} (start N vs) H):dF P w K mg base S5 (k+1) f e ps d:=by
 have(n,o,kV,i,pm,p,b,ct,r,rfl,lk,j):=F.ex;show wV lk j S c λA outer s H vs Q E l m=>?_;have(t,h,q):=g b A _ s H vs Q E l m;show#[t,h.OZ,q]
def HF{st}{kV b pm d ct}(l:K.lookup f≈#[g,h,.func (W.fnOf x a (fT st) (bP st) (aD st) .none kV b pm e d ct),i])
  (c:W.codeIn K d a=b6) (k:W.keepIn K (.ref f)=b6):Q0 K x a st f (W.fnOf x a (fT st) (bP st) (aD st) .none kV b pm e d ct):=#[#[g,h,kV,b,pm,e,d,ct,i,rfl,l,c],k]
end
abbrev fW(H H':Hp):Prop:=∀b o,H b≈o->H' b≈o
section
variable{κ:Type}[DecidableEq κ]
abbrev eU(kvs:↑(κ×V))(k:κ):Option V:=(kvs.find? λkv=>df (kv.1=k)).map (·.2)
abbrev putK(kvs:↑(κ×V))(k:κ)(v:V):↑(κ×V) :=
 if (kvs.any λkv=>df (kv.1=k))=b6 then kvs.map (λkv=>if kv.1=k then(kv.1,v) else kv) else kvs++[(k,v)]
def fE{p}{k:κ}(e:p.1=k):eU (p::r) k≈p.2:=by simp[eU,e]
def fF{p}{k:κ}(e:¬p.1=k):eU (p::r) k=eU r k:=by simp[eU,e]
theorem jG(k:κ):∀kvs,(kvs.any λkv=>df (kv.1=k))=(eU kvs k).isSome
 |[]=>rfl
 |p::r=>by
  rw[į];by_cases e:p.1=k
  .simp only[fE e,Ź e,Bool.true_or,Option.isSome_some]
  .rw[fF e,ŷ e];show jG k r
def kZ(kvs)(k:κ)(v:V):⇑(putK kvs k v)<=⇑kvs+1:=by
 unfold putK
 grind
def AG{k:κ}(v)(h:eU kvs k=cc):putK kvs k v=kvs++[(k,v)]:=by
 unfold putK;rw[jG,h];rfl
def gK.fG(r:gK o u):o.isSome=u.isSome:=by
 cases o with
 |none=>cases u with
  |none=>rfl
  |some _=>show(r).elim
 |some _=>cases u with
  |none=>show(r).elim
  |some _=>rfl
def gK.getD(r:gK o u)(a:RelV d d'):RelV (o.getD d) (u.getD d'):=by
 cases o with
 |none=>cases u with
  |none=>show a
  |some _=>show(r).elim
 |some _=>cases u with
  |none=>show(r).elim
  |some _=>show r
def KV.val(r:KV kvs vs)(k:κ):gK (eU kvs k) (ZV vs k):=by
 induction r with
 |nil=>show VY
 |@cons p q ps a h t f =>
  have(d,g):=h;by_cases e:p.1=k
  .have c:=d.symm.trans e;have b:ZV (q::a) k≈q.2:=by simp[ZV,c]
   rw[fE e,b];show g
  .have c:¬q.1=k:=λz=>e (d.trans z);have b:ZV (q::a) k=ZV a k:=by simp[ZV,c]
   rw[fF e,b];show f
def KV.any(r:KV kvs vs)(k:κ):(kvs.any λkv=>df (kv.1=k))=vs.any λkv=>df (kv.1=k):=by
 induction r with
 |nil=>rfl
 |cons h t a=>simp_all
def KV.HG(r:KV kvs vs)(k:κ)(b:RelV y u):
  KV (kvs.map λkv=>if kv.1=k then(kv.1,y) else kv) (vs.map λkv=>if kv.1=k then(kv.1,u) else kv):=by
 unfold KV at r ⊢;induction r with
 |nil=>show .nil
 |@cons p q ps f h t c =>
  rw[i6,i6];show .cons ?_ c;have(a,d):=h;by_cases e:p.1=k
  .rw[ŵ e,ŵ (a.symm.trans e)];show#[a,b]
  .rw[Ŷ e,Ŷ (λz=>e (a.trans z))];show#[a,d]
def KV.put(r:KV kvs vs)(k:κ)(a:RelV y u):KV (putK kvs k y) (stored vs k u):=by
 unfold putK stored;rw[r.any k];by_cases e:(vs.any λkv=>df (kv.1=k))=b6
 .rw[ŵ e,ŵ e];show r.HG k a
 .rw[Ŷ e,Ŷ e];show Paired.snoc r #[rfl,a]
def KV.length(r:KV kvs vs):⇑kvs=⇑vs:=Paired.length r
end
def pf(r:RelV (kV k) u):(bA P w).is k u=b6:=by
 cases k with
 |inl i=>have(t,e):=(r);subst e;show rY P w i t
 |inr x=>have(t,e):=(r);subst e;show rZ P w x t
theorem ph:∀{ks}{us},Vals (ks.map kV) us->ItemsAre (bA P w) ks us
 |[],_,r=>by cases r;show .nil
 |k::ks,_,r=>by
  cases r with
  |cons h t=>show .cons (pf h) (ph t)
@[reducible]noncomputable def KT(H:Hp):↑(↑Key×V)->↑(↑Key×hH×g8)->Prop:=Paired λp q=>p.1=q.1/\H q.2.1≈.tup (p.1.map kV)/\RelV p.2 q.2.2
def KT.val(r:KT H kvs xs)(k):gK (eU kvs k) ((é xs k).map (·.2)):=by
 induction r with
 |nil=>show VY
 |@cons p q ps a h t f =>
  have(d,_,g):=h;by_cases e:p.1=k
  .have c:=d.symm.trans e;have b:é (q::a) k≈q.2:=by simp[é,c]
   rw[fE e,b];show g
  .have c:¬q.1=k:=λz=>e (d.trans z);have b:é (q::a) k=é a k:=by simp[é,c]
   rw[fF e,b];show f
def KT.HG(r:KT H kvs xs)(k)(c:RelV y u):
  KT H (kvs.map λkv=>if kv.1=k then(kv.1,y) else kv) (xs.map (putAt k u)):=by
 induction r with
 |nil=>show .nil
 |@cons p q ps g h t d =>
  rw[i6,i6];show .cons ?_ d;have(a,b,f):=h;unfold putAt;by_cases e:p.1=k
  .rw[ŵ e,ŵ (a.symm.trans e)];show#[a,b,c]
  .rw[Ŷ e,Ŷ (λz=>e (a.trans z))];show#[a,b,f]
def KT.put(r:KT H kvs xs)(k)(c:H b≈.tup (k.map kV))(a:RelV y u):
  KT H (putK kvs k y) (storedH xs k b u):=by
 have e:(kvs.any λkv=>df (kv.1=k))=(é xs k).isSome:=by
  rw[jG,(r.val k).fG,X0]
 unfold putK storedH;rw[e];by_cases q:(é xs k).isSome=b6
 .rw[ŵ q,ŵ q];show r.HG k a
 .rw[Ŷ q,Ŷ q];show Paired.snoc r #[rfl,c,a]
def KT.keeps(r:KT H kvs xs)(a:∀b ys,H b≈.tup ys->H' b≈.tup ys):KT H' kvs xs :=
 Paired.Hb r λ_ _ z=>#[z.1,a _ _ z.2.1,z.2.2]
def Gk(b:OJ P w H h)(e:Rd H a u):cF P w H h a u:=e.ok b
def k7(b:OJ P w H h)(e:Rd H a (.dK kvs)):⇑kvs<=c8/\(a==P')=cK/\∃vs,KV kvs vs/\h.DictOf (bA P w) a vs :=
 Gk b e
def Gm(b:OJ P w H h)(e:H a≈.dK kvs):⇑kvs<=c8/\(a==P')=cK/\∃vs,KV kvs vs/\h.DictOf (bA P w) a vs:=k7 b (.inl e)
def kn(b:OJ P w H h)(e:H a≈.tup (ks.map kV)):(Zh (bA P w)).is h ks a:=by
 have(_,g,r,o,c,d,n,f):=(b a _ e)
 show#[o,_,n,c,d,f,by exists ph r]
def mV(b:OJ P w H h)(e:Rd H a (.dT kvs)):⇑kvs<=c8/\(a==P')=cK /\
  ∃xs,KT H kvs xs/\h.DictOfH (Zh (bA P w)) a xs:=by
 have(z,y,xs,r,o,es,ep,c,d,f,g,i):=(Gk b e)
 show#[z,y,xs,r,o,es,ep,c,d,f,g,λx hx=>?_,i];have all:∀{l:↑_} {m:↑_},KT H l m->∀x∈m,(Zh (bA P w)).is h x.1 x.2.1:=by
  intro l m q;induction q with
  |nil=>simp
  |@cons p q ps k n t j =>
   intro x hx;rcases eT.mp hx with e|hx
   .show kn b ⋯
   .show j x hx
 show all r x hx
def KI(b:OJ P w H h)(e:H a≈.dT kvs):⇑kvs<=c8/\(a==P')=cK /\
  ∃xs,KT H kvs xs/\h.DictOfH (Zh (bA P w)) a xs:=mV b (.inl e)
abbrev gP(H:Hp)(a:hH)(y:V)(r:Option V):Prop :=
 (∃kvs k,Rd H a (.dK kvs)/\y=kV k/\r=eU kvs k)\/∃kvs k b,Rd H a (.dT kvs)/\y=.ref b/\H b≈.tup (k.map kV)/\r=eU kvs k
abbrev yF(H:Hp)(a:hH)(y v:V)(H':Hp):Prop :=
 (∃kvs k,H a≈.dK kvs/\y=kV k/\⇑kvs<c8/\H'=upd H a (.dK (putK kvs k v))) \/
 ∃kvs k b,H a≈.dT kvs/\y=.ref b/\H b≈.tup (k.map kV)/\⇑kvs<c8/\H'=upd H a (.dT (putK kvs k v))
def gP.k{H}{a}{kvs}{k}(e:H a≈.dK kvs):gP H a (kV k) (eU kvs k):=.inl #[kvs,k,.inl e,rfl,rfl]
def yF.k{H}{a}{kvs}{k}{v}(e:H a≈.dK kvs)(hl:⇑kvs<c8):yF H a (kV k) v (upd H a (.dK (putK kvs k v))):=.inl #[kvs,k,e,rfl,hl,rfl]
def Inv.big(I:Inv X pins σ H s):P'<↥s:=by
 have h:=(I.mod.glob.keeps I.bk).lt;show Yq ⋯ h
def yG(o:A.units+1<C0)(I:Inv X pins σ H s)(g:gP H a y (bD v))(m:RelV y u)(h:∀d n,Inv X pins σ H n->RelV v d->Q d n):
  f6 (gs X.prog X.w) A (U6 (.ref a) u) Q E s:=by
 rcases g with⟨kvs,k,e,f,l⟩|⟨kvs,k,b,e,f,q,l⟩
 .subst f;have(z,r,vs,c,dd):=k7 I.Ny e;have(d,i,j):=gK.some_of   (by rw[l];show c.val k);show wpAny_getItem_of (pf m) dd.mapOf i (h d _ (I.tok _) j)
 .subst f;cases(m);have(z,r,xs,c,dd):=mV I.Ny e;have(d,i,j):=gK.some_of   (by rw[l];show c.val k);have(p,t,x):=g7.mp i;show wpAny_getItem_heap (Si o) (kn I.Ny q) dd t ?_;rw[x];show h d _ (I.tok _) j
def KJ(m:A.units+1<C0)(I:Inv X pins σ H s)(g:gP H a y o)(i:RelV y u)(h:∀j,Inv X pins σ H j->Q (.bool o.isSome) j):
  f6 (gs X.prog X.w) A (y0 .In u (.ref a)) Q E s:=by
 rcases g with⟨kvs,k,e,d,l⟩|⟨kvs,k,b,e,d,n,l⟩
 .subst d;have(z,f,vs,c,dd):=k7 I.Ny e;show wpAny_in_of (pf i) f dd.mapOf ?_;rw[<-(c.val k).fG,<-l];show h _ (I.tok _)
 .subst d;cases(i);have(z,f,xs,c,dd):=mV I.Ny e;show wpAny_in_heap (Si m) (kn I.Ny n) f dd ?_;have q:=(c.val k).fG;rw[X0]at q;rw[<-q,<-l];show h _ (I.tok _)
def wZ(m:A.units+1<C0)(I:Inv X pins σ H s)(g:gP H a y o)(i:RelV y u)(h:∀j,Inv X pins σ H j->Q (.bool (!o.isSome)) j):
  f6 (gs X.prog X.w) A (y0 .NotIn u (.ref a)) Q E s:=by
 rcases g with⟨kvs,k,e,d,l⟩|⟨kvs,k,b,e,d,n,l⟩
 .subst d;have(z,f,vs,c,dd):=k7 I.Ny e;show wpAny_notIn_of (pf i) f dd.mapOf ?_;rw[<-(c.val k).fG,<-l];show h _ (I.tok _)
 .subst d;cases(i);have(z,f,xs,c,dd):=mV I.Ny e;show wpAny_notIn_heap (Si m) (kn I.Ny n) f dd ?_;have q:=(c.val k).fG;rw[X0]at q;rw[<-q,<-l];show h _ (I.tok _)
def w9(I:Inv X pins σ H s)(d:Vq (H a))(hs:tA a s.heap h')(e:∃q,h'.get? a≈q)(new:cF X.prog X.w (upd H a c) h' a c):
  Inv X pins σ (upd H a c) {s with heap:=h',toks:=t' } :=
 I.write   d (.inl rfl) (λb q f z=>(hs.2 b f).trans z) e new
def HH(z:⇑kvs<=c8)(c:(a==P')=cK)(b:KV kvs vs)(dd:h'.DictOf (bA P w) a vs):
  cF P w H' h' a (.dK kvs):=#[z,c,vs,b,dd]
def yH(B:A.units+1<C0)(I:Inv X pins σ H s)(g:yF H a y v H')(o:RelV y u)(rv:RelV v r)(h:∀p,Inv X pins σ H' p->Q () p):
  f6 (gs X.prog X.w) A (WZ (.ref a) u r) Q E s:=by
 rcases g with⟨kvs,k,e,j,l,m⟩|⟨kvs,k,b,e,j,t,l,m⟩
 .subst j m;have(z,n,vs,d,dd):=Gm I.Ny e;have hz:⇑vs<=c8:=by rw[<-⇑d];show z
  have hl:⇑(putK kvs k v)<=c8:=by have:=kZ kvs k v;lia
  show wpAny_setItem_pairs (hsz:=hz) (pf o) dd λh' f hs=>h _ ?_;have C:∃q,h'.get? a≈q:=let ⟨q,_,_,i,_⟩:=f;⟨q,i⟩;show w9 I (by rw[e];show VY) hs C (HH hl n (d.put k rv) f)
 .subst j m;cases(o);have(z,n,xs,d,dd):=KI I.Ny e;have hz:⇑xs<=c8:=by rw[<-Paired.length d];show z
  have hl:⇑(putK kvs k v)<=c8:=by have:=kZ kvs k v;lia
  show wpAny_setItem_heap  (Si B) (kn I.Ny t) dd λh' f hs=>h _ ?_;have(q,es,ep,i,D,G,J,_,L):=f;show w9 I (by rw[e];show VY) hs #[q,i] #[hl,n,_,(d.put k t rv).keeps λc ys x=>?_,q,es,ep,i,D,G,J,L];rw[ai (J9 x e (λz=>nomatch z))];show x
abbrev HI(i:jw):Prop:=∀a b,Zw i cK a b=operate [a,b] (U6 a b)
def D0{T id}
  (hl:WX (.type T) "__getitem__"=pure (bD (.builtin id))) (hs:HI a)
  (h:f6 (gs prog w) A (p8 b env) (λo f=>f6 (gs prog w) A (p8 a env) (λi d=>d.TypeIs o T/\f6 (gs prog w) A (U6 o i) Q E d) E f) E s) :
  f6 (gs prog w) A (p8 (.Subscript b a pos) env) Q E s:=by
 show Ë (lg h (λo f j=>lg j (λi d e=>?_) λ_ _ x=>x) λ_ _ x=>x);have(k,e):=e;show cL ?_;show cL (R4 k hl ?_);have c:f6 (gs prog w) A (Zw a cK o i) (λr g=>f6 (gs prog w) A (letTemporaryGo b o r >>= λ_=>pure r) Q E g) E d:=by
  rw[hs o i];show wpAny_operating (lg e (λr g l=>cL (wpAny_letTemporaryGo (dV l))) λ_ _ x=>x)
 first
  |show dV (cL c)
  |show cL _
  |show cL c
def sj(I:Inv X pins σ H s)(g:gP H a y o):s.TypeIs (.ref a) "dict":=by
 rcases g with⟨kvs,k,e,_,_⟩|⟨kvs,k,b,e,_,_,_⟩
 .have(_,_,vs,_,dd):=k7 I.Ny e;show dd.typeIs
 .have(_,_,xs,_,dd):=mV I.Ny e;show dd.typeIs
abbrev KN(c ty:TE):TE:=λσ H Q=>c σ H λx d=>ty σ d λy b=>∃a v,x=.ref a/\gP b a y (bD v)/\Q v b
abbrev MU(ty c:TE):TE:=λσ H Q=>ty σ H λy d=>c σ d λx b=>∃a o,x=.ref a/\gP b a y o/\Q (.bl o.isSome) b
abbrev D1(ty c:TE):TE:=λσ H Q=>ty σ H λy d=>c σ d λx b=>∃a o,x=.ref a/\gP b a y o/\Q (.bl (!o.isSome)) b
def D2(c:X.A.units+1<C0)(ho:PE X o d)(hi:PE X i ty)(hs:HI i):PE X (.Subscript o i pos) (KN d ty):=by
 intro pins s σ H Q I h;show D0 F.slot_dict_getitem.lookup hs (ND (ho pins s σ H _ I h) λu s1 ⟨x,e,f,j,k⟩=>ND (hi pins s1 σ e _ f k) λt w l=>?_);have(y,m,b,n,a,v,ex,g,p):=l;subst ex;obtain rfl:u=ku a:=j;show#[sj b g,yG c b g n λz B q r=>#[v,m,q,r,p]]
def HJ(b:X.A.units+1<C0)(hi:PE X i ty)(ho:PE X o c):PC X .In i o (MU ty c):=by
 intro pins s σ H Q I h;show ND (hi pins s σ H _ I h) λr s1 ⟨y,d,e,f,j⟩=>ND (ho pins s1 σ d _ e j) λu t k=>?_;have(x,l,m,n,a,v,ex,g,p):=k;subst ex;obtain rfl:u=ku a:=n;show KJ b m g f λw q=>#[.bl _,l,q,rfl,p]
def yI(b:X.A.units+1<C0)(hi:PE X i ty)(ho:PE X o c):PC X .NotIn i o (D1 ty c):=by
 intro pins s σ H Q I h;show ND (hi pins s σ H _ I h) λr s1 ⟨y,d,e,f,j⟩=>ND (ho pins s1 σ d _ e j) λu t k=>?_;have(x,l,m,n,a,v,ex,g,p):=k;subst ex;obtain rfl:u=ku a:=n;show wZ b m g f λw q=>#[.bl _,l,q,rfl,p]
def AH(h:K2)(a:P'<h.objs.size):cF P w H (h.push {cls:=.type "dict",data:=.dict #v[]}) h.objs.size (.dK []) :=
 #[kj _,ź.mpr (mh (i9 a)),[],.nil,Ů h]
abbrev HK:TE:=λ_ H Q=>∀p,H p=cc->Q (.ref p) (upd H p (.dK []))
def sr:PE X (.Dict [] [] pos) HK:=λpins s σ H Q I h =>
 wpAny_Dict_empty #[.ref _,_,I.laid    (λ_ _ q=>dt _ q) (hY _) (AH _ I.big),rfl,h _ (I.Ny.fresh (hY _))]
structure M2(X:Cx)(o:jw)(m:Str)(apos:Pos)(e f:jw)(Nu:Pos):Prop where
 base:LF o m X.env (p8 o X.env)=p8 o X.env
 Qg:((vl Nu (i0 [e,f] X.env)).all (λx=>!x.1)&&(UB Nu (PU [] X.env)).all (λx=>x.1.isSome)
  && df (⇑([e,f]:↑jw)+⇑([]:↑QK)+(if ([]:↑QK).isEmpty then 0 else 1)<30))=b6
 line:(apos.endLine==Nu.line)=b6
 trees:vl Nu (i0 [e,f] X.env)=[(cK,p8 e X.env),(cK,p8 f X.env)]
abbrev IsD(H:Hp)(a:hH):Prop:=(∃kvs,Rd H a (.dK kvs))\/∃kvs,Rd H a (.dT kvs)
def HL(I:Inv X pins σ H s)(d:IsD H a):
  s.TypeIs (.ref a) "dict"/\(∀b,ku a=.ref b->∃c,s.heap.get? b≈c/\c.dict=cc)/\(a==P')=cK:=by
 rcases d with⟨kvs,e⟩|⟨kvs,e⟩
 .have(_,f,vs,_,dd):=k7 I.Ny e;show#[dd.typeIs,λb q=>?_,f];cases q;have(c,_,_,g,h,_):=dd;show#[c,g,h.2.1]
 .have(_,f,xs,_,dd):=mV I.Ny e;show#[dd.typeIs,λb q=>?_,f];cases q;have(c,_,_,g,h,_):=dd;show#[c,g,h.2.1]
def HM(q:A.units+1<C0)(I:Inv X pins σ H s)(g:gP H a y o)(j:RelV y u)(m:RelV d r)(h:∀n p,Inv X pins σ H p->RelV (o.getD d) n->Q n p):
  f6 (gs X.prog X.w) A (Qt (.builtin "dict.get") [.ref a,u,r]) Q E s:=by
 rcases g with⟨kvs,k,e,f,l⟩|⟨kvs,k,b,e,f,t,l⟩
 .subst f;have(z,i,vs,c,dd):=k7 I.Ny e;show í F.slot_dict_get dd.typeIs F.entry_dict_get (F.args_dict_get_3 _ _ _) (meets_dict_get_default _ a (pf j) i r) #[_,dd.mapOf,h _ _ (I.tok _) ?_];rw[l];show(c.val k).getD m
 .subst f;cases(j);have(z,i,xs,c,dd):=mV I.Ny e;show í F.slot_dict_get dd.typeIs F.entry_dict_get (F.args_dict_get_3 _ _ _) (meetsH_dict_get_default _ a b i r) #[Si q,k,xs,kn I.Ny t,dd,h _ _ (I.tok _) ?_];rw[l];show(c.val k).getD m
abbrev HN(d ty e:TE):TE:=λσ H Q=>d σ H λx b=>∃a,x=.ref a/\IsD b a/\ty σ b λy f=>e σ f λz c=>∃o,gP c a y o/\Q (o.getD z) c
def AI(i:X.A.units+1<C0)(ho:PE X o j)(k:PE X e ty)(l:PE X f n)(m:M2 X o "get" b e f p):PE X (.Call (.Attribute o "get" b) [e,f] [] p) (HN j ty n):=by
 intro pins s σ H Q I h;show wpAny_Call_method m.base m.Qg m.line F.plainAttrs_dict F.slot_dict_get F.type_dict_get (ND (ho pins s σ H _ I h) λu s1 q=>?_);have(x,r,c,t,a,ex,d,v):=q;subst ex;obtain rfl:u=ku a:=t;have(w,B,_):=HL c d;show#[w,B,?_];rw[m.trees];show uk rfl (w6 (sg (ND (k pins s1 σ r _ c v) λiv C ⟨y,D,G,J,L⟩ =>
  sg (ND (l pins C σ D _ G L) λfv s3 ⟨z,N,O,T,ov,g,Y⟩=>y8 ?_))))
 show HM i O g J T λw' s4 I4 QJ=>#[_,N,I4,QJ,Y]
end L2
namespace NX
open PySem PySem.Builtin.Str PySem.StrLaws
abbrev low(c:Nat):Bool:=df (97<=c)&&df (c<=122)
abbrev cT(l:↑Nat):Bool:=df (1<=⇑l)&&df (⇑l<=8)&&l.all low
def cP(l):cT l=b6↔1<=⇑l/\⇑l<=8/\∀c∈l,97<=c/\c<=122:=by
 simp[cT,low,and_assoc]
def jH(h:cT l=b6):47∉l:=λm=>by
 have:=((cP l).mp h).2.2 47 m;lia
def dO{x y:Str}(h:(~~~x)=(~~~y)):x=y:=by
 cases x;simp_all
def uY(x)(b:(~~~x)=(ib 26).map (97+·))(c):(!(td x #[#v[c]] 0 ⇑x 1).isEmpty)=low c:=by
 rw[found_one,b];erw[low,j0,uu];by_cases h:97<=c/\c<=122
 .have:∃a,a<26/\97+a=c:=#[c - 97,⋯,⋯]
  simp[this,h.1,h.2]
 .have:¬∃a,a<26/\97+a=c:=λ⟨a,d,e⟩=>h #[⋯,⋯];simp[this];lia
def iH(h:c∉(~~~x)):ko x #[#v[c]]=(x,nS,nS):=by
 have e:=found_one x c;unfold ko;simp_all
def qq(x)(c i):At x #[#v[c]] ⇑x i↔(~~~x)[i]?≈c:=subAt_one x c i
def AJ(h:(~~~x)=a++c::b)(hn:c∉a)(d)(hl:1<=d):∃r,td x #[#v[c]] 0 ⇑x d=⇑a::r:=by
 have f:(~~~x)[⇑a]?≈c:=by rw[h];simp
 rcases occ_head x ⟨#v[c]⟩ d hl with⟨_,j⟩|⟨i,r,e,hi,k⟩
 .show absurd ((qq x c ⇑a).mpr f) (j _)
 .have g:=(qq x c i).mp hi;have:i=⇑a:=by
   rcases Nat.lt_trichotomy i ⇑a with z|z|z
   .exfalso
    rw[h,qs z]at g;show hn (n7 g)
   .show z
   .show absurd ((qq x c ⇑a).mpr f) (k _ z)
  simp_all
def qr(h:(~~~x)=a++c::b)(hn:c∉a):ko x #[#v[c]]=(⟨a.toArray⟩,⟨#v[c]⟩,⟨b.toArray⟩):=by
 have(r,e):=AJ h hn 1 (hY _);unfold ko;rw[e];have d:⇑(⟨#v[c]⟩:Str)=1:=rfl;have f:⇑x=⇑a+1+⇑b:=by
  have:=ż N3 h;simp[Ya]at this ⊢;lia
 show VG ?_ (VG rfl ?_)
 .apply dO;rw[Û,h];simp
 .apply dO;rw[Û,h,d,f];simp
def uZ(h:c∉(~~~x)):G' x #[#v[c]]=[x]:=by
 unfold G';split
 .rfl
 .rw[ŵ];rcases occ_head x _ (⇑x+1) ⋯ with⟨e,_⟩|⟨i,r,e,hi,_⟩
  .rw[e];rfl
  .show absurd (n7 ((qq x c i).mp hi)) h
def sv(c)(h:c<256)(x):¬(PySem.Builtin.Str.strKind x<PySem.Builtin.Str.strKind #[#v[c]]):=by
 have e:PySem.Builtin.Str.strKind ⟨#v[c]⟩=1:=by simp[PySem.Builtin.Str.strKind,h]
 rw[e];unfold PySem.Builtin.Str.strKind;split
 .lia
 .split<;>lia
def AK(h:(~~~x)=a++c::b)(hn:c∉a)(d:c<256):∃r,G' x #[#v[c]]=⟨a.toArray⟩::r:=by
 have(r,e):=AJ h hn (⇑x+1) ⋯;have i:⇑(⟨#v[c]⟩:Str)=1:=rfl;have j:⇑x=⇑a+1+⇑b:=by
  have:=ż N3 h;simp[Ya]at this ⊢;lia
 unfold G';rw[Ŷ (by
  have f:¬(⇑x<⇑(⟨#v[c]⟩:Str)):=⋯
  have g:=sv c d x;simp[f,g]),e]
 show#[_,ż (·::_) ?_];apply dO;rw[Û,h];simp
abbrev qt(i:Int):Str:=UG (š i)
abbrev Gn:Str:=#[#v[47]]
def qu(h:a++c::b=p++c::q)(d:c∉a)(e:c∉p):a=p/\b=q:=by
 induction a generalizing p with
 |nil =>
  cases p with
  |nil=>simp at h;show#[rfl,h]
  |cons z p=>simp at h;show absurd (by rw[h.1];show il) e
 |cons y a f =>
  cases p with
  |nil=>simp at h;show absurd (by rw[h.1];show il) d
  |cons z p =>
   simp at h;have(g,i):=f h.2 (λm=>d (f7 _ m)) (λm=>e (f7 _ m));show#[by rw[h.1,g],i]
def sy(h:c∈l):∃a b,l=a++c::b/\c∉a:=by
 induction l with
 |nil=>cases h
 |cons x l f =>
  by_cases d:x=c
  .subst d;show#[[],l,rfl,by simp]
  .have g:c∈l:=by
    rcases eT.mp h with e|e
    .show absurd e.symm d
    .show e
   have(a,b,e,hn):=f g;show#[x::a,b,by rw[e];rfl,λm=>?_];rcases eT.mp m with z|z
   .show d z.symm
   .show hn z
end NX
namespace L2
open PySem PySem.Spec PyProof.Rows
abbrev cJ(env:Env):↑(Str×Ĕ)->↑(Str×hH)->↑(Str×hH)
 |[],b=>b
 |(n,k)::r,b=>cJ env r (if k==.free then(match env.cells.lookup n with|some a=>(n,a)::b|none=>b) else b)
def dG(h:∀y∈scope.names,y.2=.free->∃a,env.cells.lookup y.1≈a):closureFor scope env=pure (cJ env scope.names []):=by
 unfold closureFor;generalize scope.names=names at h
 suffices H:∀c,forIn _ c _=pure (cJ env _ c) by
  have:=H [];show ż (λm=>m >>= pure) this
 induction names with
 |nil=>intro c;rfl
 |cons y r e =>
  intro c;have(n,k):=y;rw[List.forIn_cons];have b:=e λy f=>h y (f7 _ f);by_cases hk:(k==L')=b6
  .have(a,g):=h _ il (by exists hk);have d:=g;erw[hk,cellOf,d,cJ];show b _
  .simp only[hk,cJ];show b _
theorem fX:∀names b,(∀n c,b.lookup n≈c->env.cells.lookup n≈c)->∀n c,(cJ env names b).lookup n≈c->env.cells.lookup n≈c
 |[],_,h=>h
 |(m,k)::r,b,h=>by
  show fX r _ λn c e=>?_;by_cases hk:(k==L')=b6
  .rw[ŵ hk]at e;cases q:env.cells.lookup m with
   |none=>rw[q]at e;show h n c e
   |some a =>
    rw[q]at e
    grind
  .rw[Ŷ hk]at e;show h n c e
theorem k8(d:env.cells.lookup n≈a):∀names (c:↑(Str×hH)),c.lookup n≈a->(cJ env names c).lookup n≈a
 |[],_,h=>h
 |(m,k)::r,c,h=>by
  show k8 d r _ ?_;by_cases hk:(k==L')=b6
  .rw[ŵ hk];cases q:env.cells.lookup m with
   |none=>show h
   |some b =>
    grind
  .rw[Ŷ hk];show h
theorem jh(b:env.cells.lookup n≈a):∀names c,(n,L')∈names->(cJ env names c).lookup n≈a
 |[],_,h=>by cases h
 |(m,k)::r,c,h=>by
  rcases eT.mp h with e|e
  .show k8 b r _ ?_;simp_all
  .show jh b r _ e
theorem cv{env:Env}:∀{names:↑(Str×Ĕ)}{x}{k},
  (names.map λ(n,k)=>if (k==L'&&env.scope.kind==.function&&env.kindOf n==bD .cell) then(n,Pe) else(n,k)).lookup x≈k ->
  names.lookup x≈k\/(k=.cell/\names.lookup x≈.free)
 |[],_,_,h=>by simp at h
 |(n,k0)::r,x,k,h=>by
  have b:=@cv env r x k;rw[i6]at h;by_cases c:(k0==L'&&env.scope.kind==.function&&env.kindOf n==bD .cell)=b6
  .simp only[ŵ c,sx]at h;cases a:x==n with
   |true =>
    simp_all
   |false =>
    rw[a]at h;rcases b h with z|⟨z1,z2⟩
    .show .inl (by simp[sx,a,z])
    .show .inr #[z1,by simp[sx,a,z2]]
  .simp only[Ŷ c,sx]at h;cases a:x==n with
   |true=>simp_all
   |false =>
    rw[a]at h;rcases b h with z|⟨z1,z2⟩
    .show .inl (by simp[sx,a,z])
    .show .inr #[z1,by simp[sx,a,z2]]
theorem k_:∀names b,(cJ env names b).lookup x≈c->(x,L')∈names\/b.lookup x≈c
 |[],_,h=>.inr h
 |(m,k)::r,b,h=>by
  rcases k_ r _ h with z|z
  .show .inl (f7 _ z)
  .by_cases hk:(k==L')=b6
   .rw[ŵ hk]at z;cases q:env.cells.lookup m with
    |none=>rw[q]at z;show .inr z
    |some a =>
     rw[q]at z;erw[sx]at z;cases d:x==m with
     |true =>
      simp_all
     |false=>rw[d]at z;show .inr z
   .rw[Ŷ hk]at z;show .inr z
theorem jI:∀names n a,(Ow n names a).lookup x≈c->((x,Pe)∈names/\@LE.le Nat _ n c)\/a.lookup x≈c
 |[],_,_,h=>.inr h
 |(y,k)::r,n,a,h=>by
  unfold Ow at h;by_cases hk:(k==Pe)=b6
  .have b:=by exists hk
   subst b;rcases jI r _ _ h with⟨z1,z2⟩|z
   .show .inl #[f7 _ z1,Nat.le_of_succ_le z2]
   grind
  .rw[Ŷ hk]at h;rcases jI r n a h with⟨z1,z2⟩|z
   .show .inl #[f7 _ z1,z2]
   .show .inr z
theorem qw:∀names n a,(x,Pe)∉names->(Ow n names a).lookup x=a.lookup x
 |[],_,_,_=>rfl
 |(y,k)::r,n,a,h=>by
  unfold Ow;have b:=λz=>h (f7 _ z);by_cases hk:(k==Pe)=b6
  .rw[ŵ hk,qw r _ _ b]
   grind
  .rw[Ŷ hk,qw r _ _ b]
theorem u6:∀names n a,(∀z d,a.lookup z≈d->@LT.lt Nat _ d n)->(∀u v d,a.lookup u≈d->a.lookup v≈d->u=v) ->
  (Ow n names a).lookup x≈c->(Ow n names a).lookup y≈c->x=y
 |[],_,_,_,hi,b,f=>hi x y c b f
 |(g,k)::r,n,a,hl,hi,b,f=>by
  unfold Ow at b f;by_cases hk:(k==Pe)=b6
  .rw[ŵ hk]at b f;have lk:∀(z:Str) (d:hH),Pq z ((g,n)::a)≈d->(z=g/\d=n)\/a.lookup z≈d:=λz d e=>by
    erw[sx]at e;cases h:z==g with
    |true=>simp_all
    |false=>rw[h]at e;show .inr e
   show u6 r _ _ (λz d e=>?_) (λu v d i j=>?_) b f
   .rcases lk z d e with⟨_,q⟩|q
    .simp_all
    .show Sk (hl z d q)
   .rcases lk u d i with⟨l,m⟩|q<;>rcases lk v d j with⟨o,p2⟩|p
    .rw[l,o]
    .rw[m]at p;show absurd (hl v n p) (sP _)
    .rw[p2]at q;show absurd (hl u n q) (sP _)
    .show hi u v d q p
  .rw[Ŷ hk]at b f;show u6 r n a hl hi b f
theorem qx:∀names h a,(Ow h.objs.size names a).lookup x≈c->(Yf h names).IsCell c cc\/a.lookup x≈c
 |[],_,_,e=>.inr e
 |(y,k)::r,h,a,e=>by
  unfold Ow at e;unfold Yf;by_cases hk:(k==Pe)=b6
  .rw[ŵ hk]at e ⊢;have hs:h.objs.size+1=(h.push {cls:=.type "cell",data:=.cell cc}).objs.size:=⋯
   rw[hs]at e;rcases qx r _ _ e with z|z
   .show .inl z
   .simp only[sx]at z;cases b:x==y with
    |true =>
     rw[b]at z;cases z;show .inl #[_,ZG r _ _ _ (gj _ rfl),rfl]
    |false=>rw[b]at z;show .inr z
  .rw[Ŷ hk]at e ⊢;show qx r h a e
abbrev QB(X:Cx)(scope:tP)(C:hH):↑(Str×hH):=Ow (C+1) scope.names (cJ X.env scope.names [])
abbrev OA(X:Cx)(N:↑Str)(scope:tP)(C:hH)(s:i4)(H:Hp)(ex:↑hH):Cx where
 prog:=X.prog
 w:=X.w
 K:=X.K
 mg:=X.mg
 base:=X.base
 A:=X.A
 N:=N
 s₀:=s
 H₀:=H
 env:=Wx scope (QB X scope C) C X.env
 outer:=X.stack
 stack:=X.stack
 ex:=ex
 fn:=λx=>df (scope.names.lookup x≈.cell)
 calm:=X.calm
 pn:=[]
 xe:=λ_ _=>False
abbrev fy(D N:↑Str):Prop:=⇑D=⇑N/\∀(i:Nat) (y:Str),D[i]?≈y->N[i]?≈y\/y="."\/y=".."
def fy.refl(N):fy N N:=#[rfl,λ_ _ h=>.inl h]
def fy.set{D N}(h:fy D N)(j){m:Str}(b:m="."\/m=".."):fy (D.set j m) N:=by
 show#[by rw[Ě];show h.1,λi y e=>?_];by_cases a:j=i
 .subst a;rw[List.getElem?_set]at e;simp_all
 .rw[hQ a]at e;show h.2 i y e
structure dg(X:Cx)(N own:↑Str)(scope:tP):Prop where
 kind:scope.kind=.function
 uq:∀y∈scope.names,scope.names.lookup y.1≈y.2
 cl:∀y∈scope.names,y.2=.cell->y.1∈own
 nd:N.Nodup
 pre:N.take ⇑own=own
 loc:∀y∈scope.names,y.2=.local->y.1∈own\/y.1=".0"
 no0:(".0":Str)∉N
 tail:fy (N.drop ⇑own) X.N
 free:∀y∈scope.names,y.2=.free->X.env.scope.names.lookup y.1≈.cell\/X.env.scope.names.lookup y.1≈.free
 dot:∀y∈scope.names,y.1≠"."/\y.1≠".."
def mem_lookup{names:↑(Str×Ĕ)}(h:names.lookup x≈k):(x,k)∈names:=PySem.mem_of_lookup h
def dg.names(S:dg X N a scope):∀y∈scope.names,y.2=.local->scope.names.lookup y.1≈.local:=λy b e=>e▸S.uq y b
def dg.no(S:dg X N a scope)(h:scope.names.lookup x≈.free):(x,Pe)∉scope.names:=λz=>by
 have:=S.uq _ z;simp_all
def dg.cells(S:dg X N c scope)(b:X.Ok):∀y∈scope.names,y.2=.free->∃a,X.env.cells.lookup y.1≈a:=λy d e=>by
 rcases S.free y d e with z|z
 .show b.has y.1 (.inl z)
 .show b.has y.1 (.inr z)
def AL(S:dg X N f scope)(I:Inv X pins σ H s)
  (B:↥s<=C) (RM:∀x c,(QB X scope C).lookup x≈c->D.heap.IsCell c cc\/(cJ X.env scope.names []).lookup x≈c) (Rh:D.os=s.os) (hg:D.gens=s.gens) (keep:∀b o,s.heap.get? b≈o->D.heap.get? b≈o) (ns:∃m,D.heap.Ns C m)
  (g:∀b∈ex,gL X pins H b/\b<↥s):Inv (OA X N scope C s H ex) [] (kb ⇑f cc++σ) H D:=by
 have(m0,VI):=ns;have sub:=fX (env:=X.env) scope.names [] (λn c e=>by simp at e);have L:∀(x:Str) (c:hH),(cJ X.env scope.names []).lookup x≈c->c<↥s:=λx c e=>by
  have(v,o,ho,_):=I.cell x c (sub x c e);show hW ho
 have O:∀(x:Str) (c:hH),(QB X scope C).lookup x≈c->C<c\/(cJ X.env scope.names []).lookup x≈c:=λx c e=>(jI _ _ _ e).imp (λz=>z.2) id;have VJ:∀b∈ex,b<C:=λb t=>jn (g b t).2 B;have tl:⇑f<=⇑N:=by have:=ż N3 S.pre;grind
 show#[#[I.ok.mod,?_,I.ok.glob,I.ok.blt,B,λx y c w A=>u6 _ _ _ (λz d e=>Sk (jn (L z d e) B)) (λu v d G e2=>I.ok.inj u v d (sub u d G) (sub v d e2)) w A,λx hx=>?_,λx c h e=>?_,I.ok.hd,I.ok.frames,.inl rfl,λb t=>#[i9 (VJ b t),λx c e=>?_],λb o e=>I.bs b o e,?_,λb o e t=>?_,λb t=>?_,I.stack,I.iC],
  Rh,(by rw[hg];show I.bare),Un.kept keep,#[m0,VI,λi y v w A h3=>?_],λx c e=>?_,I.Ny.fresh B,λx c e=>?_,λp hp=>absurd (show p∈([]:↑(hH×Obj)) from hp) ⋯,I.Ny.kept keep,?_]
 .change(W7 scope X.env).kind=.function;show S.kind
 .
  have Yv:(W7 scope X.env).names.lookup x≈.cell\/(W7 scope X.env).names.lookup x≈.free:=hx;have N':scope.names.lookup x≈.cell\/scope.names.lookup x≈.free:=by
   rcases Yv with z|z
   .rcases cv z with q|⟨_,q⟩
    .show .inl q
    .show .inr q
   .rcases cv z with q|⟨q,_⟩
    .show .inr q
    .cases q
  rcases N' with N'|N'
  .show vr.mp (W.cellsFrom_some scope.names (C+1) _ (.inl N'))
  .have(a,ha):=S.cells I.ok (x,.free) (mem_lookup N') rfl;show#[a,(qw _ _ _ (S.no N')).trans (jh ha scope.names [] (mem_lookup N'))]
 .have h':scope.names.lookup x≈.cell:=Ÿ h;rcases O x c e with z|z
  .show qv B (Q' z)
  .rcases k_ _ _ z with z|z
   .have:=S.uq _ z;rw[h']at this;cases this
   .simp at z
 .rcases O x c e with z|z
  .show λq=>absurd (Yq (VJ b t) z) (by rw[q];show sP _)
  .show(g b t).1.2.2.2.2.1 x c (sub x c z)
 .show qv I.ok.Rc I.sz
 .have(f0,f1,f2,f3,f4,f5):=(g b t).1;rcases f3 with z|z
  .show I.ok.Qe b o e z
  .show absurd (jn (hW e) (qv I.ok.Rc z)) (sP _)
 .intro QC;have(f0,f1,f2,f3,f4,f5):=(g b t).1;rcases eT.mp (I.mL b QC) with z|z
  .show f1 z
  .show f2 z
 .
  have hi:⇑f<=i:=by
   by_cases hi:i<⇑f
   .rw[qs (by exists hi),O']at A;split at A<;>cases A
   .lia
  rw[pe (by exists hi),Wv]at A;have Q:(N.drop ⇑f)[i - ⇑f]?≈y:=by
   rw[KD];have e:⇑f+(i - ⇑f)=i:=⋯
   rw[e];show w
  have UX:(W7 scope X.env).names.lookup y≈.local\/(W7 scope X.env).names.lookup y≈.cell\/(W7 scope X.env).names.lookup y≈.free:=h3;have S6:∀y:Str,y∈f->N[i]?≈y->False:=λy T w=>by
   have(j,hj,ej):=Uy T;have Sb:N[j]?≈y:=by
    have G:(N.take ⇑f)[j]?≈y:=by rw[S.pre,Rv hj,ej]
    rw[ZE hj]at G;show G
   have:=jD S.nd Sb w;lia
  have N':scope.names.lookup y≈.free:=by
   rcases UX with z|z|z
   .rcases cv z with q|⟨q,_⟩
    .exfalso
     have T:y∈f:=by
      rcases S.loc (y,.local) (mem_lookup q) rfl with z|z
      .show z
      .have z':y=".0":=z;show absurd (n7 w) (by rw[z'];show S.no0)
     show S6 y T w
    .cases q
   .rcases cv z with q|⟨_,q⟩
    .show(S6 y (S.cl _ (mem_lookup q) rfl) w).elim
    .show q
   .rcases cv z with q|⟨q,_⟩
    .show q
    .cases q
  have hX:X.N[i - ⇑f]?≈y:=by
   rcases S.tail.2 _ _ Q with e|e|e
   .show e
   .show absurd e (S.dot _ (mem_lookup N')).1
   .show absurd e (S.dot _ (mem_lookup N')).2
  have(m,hn,hl):=I.loc;have hv:X.env.scope.names.lookup y≈.cell\/X.env.scope.names.lookup y≈.free:=S.free (y,.free) (mem_lookup N') rfl;have(u,r,l):=hl _ y v hX A (.inr hv);show#[u,r,?_];rcases l with⟨k,_⟩|⟨k,c,e,z⟩
  .have k':X.env.scope.names.lookup y≈.local:=k;simp_all
  .have hk:(W7 scope X.env).names.lookup y≈.cell\/(W7 scope X.env).names.lookup y≈.free:=by
    rcases UX with q|q|q
    .rcases cv q with J|⟨J,_⟩
     .rw[N']at J;cases J
     .cases J
    .show .inl q
    .show .inr q
   have(o,ho,Y):=z;show .inr #[hk,c,(qw _ _ _ (S.no N')).trans (jh e scope.names [] (mem_lookup N')),o,keep c o ho,Y]
 .rcases RM x c e with z|z
  .show#[_,z]
  .have(v,o,ho,Y):=I.cell x c (sub x c z);show#[v,o,keep c o ho,Y]
 .rcases O x c e with z|z
  .show I.Ny.fresh (qv B (Q' z))
  .show I.N2 x c (sub x c z)
 .rw[mx,Wv,I.len];have e:⇑N=⇑f+⇑(N.drop ⇑f):=by rw[Yu];lia
  change _=⇑N;rw[e,S.tail.1]
def mW(I:Inv X pins σ H s)
  (d:Inv (OA X N scope C s H ex) O Q k l) (w:↥s<=D) (x:↥s<=C) (m:D≠C) (g:k D=cc) (rv:Vals ys r) (y:l.heap.PlainList D r.toArray) (hl:⇑ys<=c8)
  (h:tA C l.heap h') (p:∀b∈ex,gL X pins H b):Inv X pins σ (upd k D (.lst ys)) {l with heap:=h' }:=by
 have T:k C=cc:=d.free;have lt:∀{b:hH} {o:Obj},s.heap.get? b≈o->b≠C/\b≠D:=λe=>#[i9 (jn (hW e) x),i9 (jn (hW e) w)]
 show I.Gf  (ch:=ex) d.os #[λb o e n i f=>?_,λb o e n i f=>?_,λb o e n f=>?_,λb o e f=>?_,λb xs e=>?_,λb o u e=>?_,λb ps e=>?_] (λa o e=>?_) d.bare λb i=>?_
 .show(h.2 b (lt e).1).trans (d.base.keep b o e n i f)
 .have(z,q):=d.base.slot b o e n i f;show#[z,(h.2 b (lt e).1).trans q]
 .rw[ai (lt e).2];show d.base.free b o e n f
 .have(A,q):=d.base.there b o e f;show#[A,(h.2 b (lt e).1).trans q]
 .have q:=d.base.gS b xs e;rw[ai (av q g)];show q
 .have q:=d.base.OK b o u e;rw[ai (av q g)];show q
 .have(j,q):=d.base.OS b ps e;show#[j,by rw[ai (av q g)];show q]
 .by_cases t:a=D
  .subst t;rw[aj]at e;cases e;have(n,q):=y;show#[hl,r,n,rv,(h.2 _ m).trans q]
  .rw[ai t]at e;show(d.Ny a o e).lP (λc v Y q=>(h.2 c ?_).trans q) (λc q=>?_) λc xs q=>?_
   .grind
   .rw[ai (av q g)];show q
   .rw[ai (av q g)];show q
 .have(f0,B,f2,G,J,L):=p b i;show#[G,B,J,L]
def qy(I:Nat->i4->Prop)
  (d:∀n s,I n s->f6 (gs prog w) A (Tx it) (λr f=>match r with
   |none=>R (.ok .next) f
   |some v=>f6 (gs prog w) A (XG a it v) (λ_ f=>f6 (gs prog w) A (Vu a env v) (λ_ k =>
     f6 (gs prog w) A (forIn ifs b6 λc r=>if r=b6 then do let ok <-isTrue c env (p8 c env);pure (Vt ok) else pure (Vt r)) (λok g =>
      if ok=b6 then f6 (gs prog w) A (p8 elt env) (λx l =>
       f6 (gs prog w) A (Qt (.builtin "list.append") [i,x]) (λ_ o=>∃m,m<n/\I m o) (V7 (gs prog w) A env λe b=>R (.error e) b) l) (V7 (gs prog w) A env λe b=>R (.error e) b) g
      else ∃m,m<n/\I m g) (V7 (gs prog w) A env λe b=>R (.error e) b) k) (V7 (gs prog w) A env λe b=>R (.error e) b) f) (V7 (gs prog w) A env λe b=>R (.error e) b) f) (V7 (gs prog w) A env λe b=>R (.error e) b) s)
  (n) (h:I n s) :
  Ry (gs prog w) A (.compLoop (.ListComp elt [⟨a,p,ifs,0⟩] scope pos) 0 it i env) R s:=by
 show codeAny_loop rfl I (λn s u=>?_) n h;show wpAny_noted ?_;rw[compTurn_list];show cL (Õ (cL (lg (d n s u) (λr f q=>?_) λ_ _ h'=>h')));cases r with
 |none=>show dV q
 |some v =>
  show cL (lg q (λ_ y j=>?_) λ_ _ h'=>h');show cL (lg j (λ_ k z=>cL (lg z (λok g t=>?_) λ_ _ h'=>h')) λ_ _ h'=>h');cases ok with
  |false=>show dV #[rfl,t]
  |true =>
   show cL (cL (lg t (λx l B=>cL (lg B (λ_ o C=>dV (dV #[rfl,C])) λ_ _ h'=>h')) λ_ _ h'=>h'))
abbrev RN(X:Cx)(ifs:↑jw)(t:TT):Prop :=
 ∀(pins:↑(hH×Obj)) (s:i4) (σ:St) (H:Hp) (Q:Bool->Hp->Prop),Inv X pins σ H s->t σ H Q ->
  ‹X› (forIn ifs b6 λc r=>if r=b6 then do let a <-isTrue c X.env (p8 c X.env);pure (Vt a) else pure (Vt r)) (TP X pins σ Q) X.xe s
abbrev MV:TT:=λ_ H Q=>Q b6 H
def w_:RN X [] MV:=λ_ _ _ H _ I h=>wpAny_tests_nil #[H,I,h]
def qz(h:PT X c t):RN X [c] t:=λpins s σ H Q I q=>wpAny_tests_one (h pins s σ H Q I q)
abbrev sA(k:Nat)(J:It)(g:TG)(j:TT)(l:TE)(Q:VK)(σ:St)(n:Hp):Prop :=
  ∃W:Nat->Nat->↑V->Hp->Prop,(∃m,W 0 m [] n)/\∀i m ys H,W i m ys H->⇑ys<=c8 /\
    ((J.stop i H/\∀p,H p=cc->Q (.ref p) (upd H p (.lst ys))) \/
     (J.go i H/\∃c:↑V->Hp->Prop,(∀e H',c e H'->∃f,f<m/\W (i+1) f e H')/\∀x H',J.UR i H x H'->g x (kb k cc++σ) H' λd o=>∃a:St,⇑a=k/\d=a++σ /\
        j d o λb h=>if b=b6 then l d h λy q=>c (ys++[y]) q else c ys h))
abbrev sC(k:Nat)(a:TI)(g:TG)(b:TT)(c:TE):TE:=λσ H Q=>a σ H λJ d=>sA k J g b c Q σ d
structure qA(X:Cx)(tg:jw)(J:It)(fp:↑hH)(it:hH)(tn:Nat->K2->Prop):Prop where
 obj:∀i h,tn i h->∀b∈fp,∃o,h.get? b≈o/\∀v,o.data≠.cell v
 keep:∀i h h',tn i h->(∀b∈fp,∀o,h.get? b≈o->h'.get? b≈o)->tn i h'
 item:∀(i:Nat) (pins:↑(hH×Obj)) (s:i4) (σ:St) (H:Hp) (E:g8->i4->Prop),Inv X pins σ H s->(∀b∈fp,gL X pins H b)->tn i s.heap->J.go i H ->
  ‹X› (Tx (.ref it)) (λr s1=>∃u,r≈u /\
   ‹X› (XG tg (.ref it) u) (λ_ s2=>∃x H',Inv X pins σ H' s2/\RelV x u/\J.UR i H x H'/\tn (i+1) s2.heap/\∀b∈fp,H' b=cc) E s1) E s
 done:∀(i:Nat) (pins:↑(hH×Obj)) (s:i4) (σ:St) (H:Hp) (E:g8->i4->Prop),Inv X pins σ H s->(∀b∈fp,gL X pins H b)->tn i s.heap->J.stop i H->‹X› (Tx (.ref it)) (λr s1=>r=cc/\Inv X pins σ H s1) E s
 self:∀(A:Ux) (i:Nat) (s:i4) (Q:g8->i4->Prop) (E:g8->i4->Prop),tn i s.heap->Q (.ref it) s->f6 (gs X.prog X.w) A (Zk (.ref it)) Q E s
def Turn.at{K}(T:Turn P w K tg J b it c)(d:X.prog=P)(e:X.w=w)(f:X.K=K)(a:X.calm=b6):qA X tg J b it c:=by
 subst d e f;show#[T.obj,T.keep,T.item X rfl rfl rfl a,T.done X rfl rfl rfl a,T.self]
def AM
  (S:dg X N L scope) (hg:∀C s H ex,PG (OA X N scope C s H ex) tg g) (hf:∀C s H ex,RN (OA X N scope C s H ex) ifs tt)
  (he:∀pins s7 σ7 H7 Q7,Inv (OA X N scope C s H t) pins σ7 H7 s7->te σ7 H7 Q7->‹X› (p8 elt (Wx scope (QB X scope C) C X.env)) (EP (OA X N scope C s H t) pins σ7 Q7) (V7 (gs X.prog X.w) X.A (Wx scope (QB X scope C) C X.env) λe k=>R (.error e) k) s7)
  (I:Inv X pins σ H s) (T:qA (OA X N scope C s H t) tg J t it tn) (st:tn 0 s.heap) (f2:∀b∈t,gL X pins H b) (W:sA ⇑L J g tt te Q σ H)
  (hD:@Eq Nat D ↥s) (hC:@Eq Nat C (↥s+1)) (RM:∀x c,(QB X scope C).lookup x≈c->B.heap.IsCell c cc\/(cJ X.env scope.names []).lookup x≈c) (Rh:B.os=s.os) (a5:B.gens=s.gens) (keep:∀b o,s.heap.get? b≈o->B.heap.get? b≈o) (ns:∃m,B.heap.Ns C m) (pl:B.heap.PlainList D #v[])
  (am:∀s5 H5 ys l,Inv (OA X N scope C s H t) [] (kb ⇑L cc++σ) H5 s5->H5 D=cc->Vals ys l->s5.heap.PlainList D l.toArray->⇑ys<=c8->(∀p,H5 p=cc->Q (.ref p) (upd H5 p (.lst ys)))->R (.ok .next) s5) :
  Ry (gs X.prog X.w) X.A (.compStart (.ListComp elt [⟨tg,an,ifs,0⟩] scope pos) 0 (.ref it) (.ref D) (Wx scope (QB X scope C) C X.env)) R B:=by
 have Sd:∀b∈t,@LT.lt Nat _ b ↥s:=λb h=>by
  have(o,e,_):=T.obj 0 s.heap st b h;show hW e
 have I4:Inv (OA X N scope C s H t) [] (kb ⇑L cc++σ) H B:=AL S I ⋯ RM Rh a5 keep ns λb h=>#[f2 b h,Sd b h]
 have UY:tn 0 B.heap:=T.keep 0 s.heap B.heap st λb _ o e=>keep b o e;have nD:H D=cc:=I.Ny.fresh ⋯;have(W,(m0,w0),Č):=W;generalize O:OA X N scope C s H t=f at I4 am he T;have eP:f.prog=X.prog:=by rw[<-O];rfl
 have ew:f.w=X.w:=by rw[<-O];rfl
 have eK:f.K=X.K:=by rw[<-O];rfl
 have eA:f.A=X.A:=by rw[<-O];rfl
 have ee:f.env=Wx scope (QB X scope C) C X.env:=by rw[<-O];rfl
 have ap:f.xe=λ_ _=>False:=by rw[<-O];rfl
 have el:f.env.locals=C:=by rw[ee];rfl
 have W0:PG f tg g:=by rw[<-O];show hg _ _ _ _
 have a8:RN f ifs tt:=by rw[<-O];show hf _ _ _ _
 have s0:f.s₀=s:=by rw[<-O];rfl
 have W2:f.pn=[]:=by rw[<-O];rfl
 have Yw:∀{H':Hp} {o:Obj},(∀b∈t,H' b=cc)->∀b∈t,gL f [(D,o)] H' b:=λ{H' o} hn b h=>by
  have ex:f.ex=t:=by rw[<-O];rfl
  show#[hn b h,?_,?_,.inl (by rw[ex];show h),λx c e=>?_,λp Y=>?_]
  .rw[el];have:=Sd b h;show i9 (by change @LT.lt Nat _ b C;lia)
  .have e1:f.fs=Oy X.stack:=by rw[<-O];rfl
   rw[e1];intro z;have(f0,f1,a',f3,f4,f5):=f2 b h;rcases eT.mp (I.mL b z) with q|q
   .show f1 q
   .show a' q
  .have e1:f.env.cells=QB X scope C:=by rw[ee];rfl
   rw[e1]at e;rcases jI _ _ _ e with z|z
   .have:=Sd b h;have:=z.2;show DD (by change @LT.lt Nat _ b c;lia)
   .show(f2 b h).2.2.2.2.1 x c (fX scope.names [] (λn c e=>by simp at e) x c z)
  grind
 have Yx:∀{σ':St} {H':Hp} {k:i4} {o:Obj},Inv f [] σ' H' k->H' D=cc->k.heap.get? D≈o->(∀v,o.data≠.cell v)->Inv f [(D,o)] σ' H' k:=λ{σ' H' k o} I' n e d =>
  I'.iD λp Y=>by
   have:p=(D,o):=by exists Y
   subst this;show#[e,n,?_,?_,d]
   .rw[el];show i9 (by change @LT.lt Nat _ D C;lia)
   .have e1:f.fs=Oy X.stack:=by rw[<-O];rfl
    rw[e1];intro z;have zz:(D:hH)∈Oy X.stack:=z;rcases eT.mp (I.mL D zz) with q|q
    .have:=I.lt;rw[<-q]at this;show absurd this (by change ¬@LT.lt Nat _ D ↥s;lia)
    .show I.J_ (a:=D) ⋯ q
 have start:∀k:i4,k=B->Ry (gs X.prog X.w) X.A (.compLoop (.ListComp elt [⟨tg,an,ifs,0⟩] scope pos) 0 (.ref it) (.ref D) (Wx scope (QB X scope C) C X.env)) R k:=by
  rintro k rfl;show qy (λn k=>∃i ys l H',Inv f [] (kb ⇑L cc++σ) H' k/\tn i k.heap/\(∀b∈t,H' b=cc)/\H' D=cc/\Vals ys l/\k.heap.PlainList D l.toArray/\W i n ys H') ?_ m0
   ⟨0,[],[],H,I4,UY,λb h=>(f2 b h).1,nD,.nil,pl,w0⟩
  rintro n s3 ⟨i,ys,l,H3,I3,Oa,VA,as,W3,⟨nn,bb⟩,w3⟩;have(ab,VL):=Č i n ys H3 w3;have IP:=Yx I3 as bb (λv z=>by have z':Data.seq _ _=Data.cell v:=z;cases z');rcases VL with⟨a0,qn⟩|⟨go,NN,a1,a2⟩
  .have d:=T.done i _ s3 _ H3 (V7 (gs X.prog X.w) X.A (Wx scope (QB X scope C) C X.env) λe k=>R (.error e) k) IP (Yw VA) Oa a0;rw[eP,ew,eA]at d;show ND d λr B Yy=>?_;have(hr,I5):=Yy;subst hr;have e5:=(I5.pin (D,({cls:=.type "list",data:=.seq l.toArray nn}:Obj)) (by rw[W2];simp)).1;show am B H3 ys l (I5.iD λp Y=>by cases Y) as W3 ⟨nn,e5⟩ ab qn
  .have d:=T.item i _ s3 _ H3 (V7 (gs X.prog X.w) X.A (Wx scope (QB X scope C) C X.env) λe k=>R (.error e) k) IP (Yw VA) Oa go;rw[eP,ew,eA]at d;show ND d λr B Yz=>?_;have(u,hr,h4):=Yz;subst hr;show ND h4 λ_ s5 YA=>?_;have(x,H5,I5,r5,y5,QY,X4):=YA;have bs:H5 D=cc:=(I5.pin (D,({cls:=.type "list",data:=.seq l.toArray nn}:Obj)) (by rw[W2];simp)).2.1;have X5:=I5.pinned (Yw X4) (T.obj _ _ QY);have a6:=W0 _ s5 _ H5 x u _ X5 r5 (a2 x H5 y5);rw[eP,ew,eA,ee,ap]at a6;show lg a6 (λ_ s6 ⟨σ6,H6,I6,q6⟩=>?_) λ_ _ z=>Hf z;have(ow,a3,rfl,q6):=q6;have a7:=a8 _ s6 _ H6 _ I6 q6;rw[eP,ew,eA,ee,ap]at a7;show lg a7 (λb s7 ⟨H7,I7,q7⟩=>?_) λ_ _ z=>Hf z;have ac:∀{s8:i4} {G:Hp} {Pj:↑V} {its':↑g8} {nn':Nat},Inv f [] (ow++σ) G s8->tn (i+1) s8.heap->(∀b∈t,G b=cc)->G D=cc->Vals Pj its'->s8.heap.PlainList D its'.toArray->(∃m',m'<n/\W (i+1) m' Pj G) ->
     ∃m,m<n/\∃i ys l H',Inv f [] (kb ⇑L cc++σ) H' s8/\tn i s8.heap/\(∀b∈t,H' b=cc)/\H' D=cc/\Vals ys l/\s8.heap.PlainList D l.toArray/\W i m ys H':=λ{s8 G Pj its' nn'} I8 bd be n8 bi bk w8=>by
    have(m',hm,w8):=w8;show#[m',hm,i+1,Pj,its',G,I8.weak (by simp[a3]) (λj v e=>?_),bd,be,n8,bi,bk,w8];by_cases hj:j<⇑L
    .rw[qs (by exists hj),O']at e;split at e<;>cases e
    .rw[pe (by simpa using(Nat.not_lt.mp hj)),Wv]at e;rw[pe ⋯,a3];show e
   have al:∀{σ':St} {G:Hp} {s8:i4},Inv f ([(D,({cls:=.type "list",data:=.seq l.toArray nn}:Obj))]++qb t s5.heap) σ' G s8->s8.heap.get? D≈{cls:=.type "list",data:=.seq l.toArray nn}/\G D=cc/\tn (i+1) s8.heap/\∀b∈t,G b=cc:=λ{σ' G s8} I8=>by
    have p1:=I8.pin (D,({cls:=.type "list",data:=.seq l.toArray nn}:Obj)) (by rw[W2];simp);show#[p1.1,p1.2.1,T.keep _ _ _ QY λb h o e=>(I8.pin (b,o) (pz _ (pz _ (fU h e)))).1,λb h=>?_];have(o,e,d):=T.obj _ _ QY b h;show(I8.pin (b,o) (pz _ (pz _ (fU h e)))).2.1
   cases b with
   |false =>
    rw[Ŷ ke]at q7 ⊢;have(p1,p2,p3,p4):=al I7;show ac (nn':=0) (I7.iD λp Y=>by cases Y) p3 p4 p2 W3 ⟨nn,p1⟩ (a1 _ _ q7)
   |true =>
    rw[ŵ rfl]at q7 ⊢;show lg (he _ s7 _ H7 _ I7 q7) (λy s8 ⟨yv,G,I8,r8,q8⟩=>?_) λ_ _ z=>z;have(p1,p2,p3,p4):=al I8;have hsz:l.toArray.size<=c8:=by rw[mu,<-⇑W3];show ab
    show wpAny_list_append_plain (hsz:=hsz) #[nn,p1] λh9 bl a4=>?_;have bm:Inv f [] (ow++σ) G s8:=I8.iD λp Y=>by cases Y
    have W4:∀x c,f.env.cells.lookup x≈c->c≠D:=λx c e=>by
     have e1:f.env.cells=QB X scope C:=by rw[ee];rfl
     rw[e1]at e;rcases jI _ _ _ e with z|z
     .have:=z.2;show DD (by change @LT.lt Nat _ D c;lia)
     .have(v,z):=I.cell x c (fX scope.names [] (λn c e=>by simp at e) x c z);have:@LT.lt Nat _ c ↥s:=z.lt;show i9 (by change @LT.lt Nat _ c D;lia)
    have I9:Inv f [] (ow++σ) G {s8 with heap:=h9,toks:=s8.toks}:=bm.turned (it:=D) (λb o h e=>(a4.2 b h).trans e) p2 (by rw[el];show i9 (by change @LT.lt Nat _ D C;lia)) (.inr (by rw[s0];change @LE.le Nat _ ↥s D;lia)) W4 (λp Y=>by rw[W2]at Y;cases Y);have bn:(l++[y]).toArray=l.toArray.push y:=⋯
    show ac (nn':=0) (s8:={s8 with heap:=h9,toks:=s8.toks}) I9 (T.keep _ _ _ p3 λb h o e=>(a4.2 b ?_).trans e) p4 p2 (W3.append (.cons r8 .nil)) (by rw[bn];show bl) (a1 _ _ q8);have:=Sd b h;show i9 (by change @LT.lt Nat _ b D;lia)
 show codeAny_compStart_list (start _ rfl) (by have z:=T.self X.A 0 B;rw[eP,ew]at z;show z _ _ UY (start _ rfl))
def u7
  (f:Q (newEnv scope ↥s b (Ow (↥s+1) scope.names cl) d cc .none (bD c) a) {s with heap:=Yf (s.heap.push {cls:=.type "dict",data:=.dict #v[]}) scope.names}) :
  f6 M A (ť scope b cl [] d cc .none (bD c) a) Q E s:=by
 show cL (wpAny_alloc ?_);show cL (wpAny_layCells _ (λname kind e=>by rfl) _ _ _ _ ?_);rw[QD ..];show cL ?_;show dV (dV f)
def ji{RR:g8->hH->Result->i4->Prop}
    (S:dg X N f scope) (y:∀C s H ex,PG (OA X N scope C s H ex) tg g) (B:∀C s H ex,RN (OA X N scope C s H ex) ifs G) (L:∀C s H ex,PE (OA X N scope C s H ex) elt O)
 (I:Inv X pins σ H s) (T:∀C,qA (OA X N scope C s H k) tg J k it Y) (st:Y 0 s.heap) (f2:∀b∈k,gL X pins H b) (W:sA ⇑f J g G O Q σ H)
    (l:∀D C h a ys j,@Eq Nat D ↥s->@Eq Nat C (↥s+1)->Inv (OA X N scope C s H k) [] (kb ⇑f cc++σ) a h->a D=cc->Vals ys j->h.heap.PlainList D j.toArray->⇑ys<=c8->(∀p,a p=cc->Q (.ref p) (upd a p (.lst ys)))->RR (.ref D) C (.ok .next) h) :
    ‹X› (newList []) (λi s₃=>‹X› (ť scope X.env.globals (cJ X.env scope.names []) [] X.env.qual cc .none (bD X.env)) (λr s₄ =>
      Ry (gs X.prog X.w) X.A (.compStart (.ListComp elt [⟨tg,t,ifs,0⟩] scope pos) 0 (.ref it) i {r with scope:=W7 scope X.env}) (RR i r.locals) s₄) E s₃) E s:=by
  show pj (u7 ?_);generalize m:s.heap.push _=d;have u:d.objs.size=↥s+1:=by rw[<-m,QD]
  have v:∀b o,d.get? b≈o->(Yf (d.push {cls:=.type "dict",data:=.dict #v[]}) scope.names).get? b≈o:=λb o e=>ZG _ _ b o (dt _ e);have n:=λb o e=>v b o (m▸dt _ e);have OF:(Yf _ scope.names).PlainList _ #v[]:=#[_,v _ _ (m▸gj _ rfl)]
  have RM:∀x c,(QB X scope _).lookup x≈c->(Yf (d.push {cls:=.type "dict",data:=.dict #v[]}) scope.names).IsCell c cc\/(cJ X.env scope.names []).lookup x≈c:=λx c e=>by
    show qx scope.names _ _ ?_;rw[QD];show e
  show AM (s:=s)  (C:=d.objs.size)  S y B (λpins s7 σ7 H7 Q7 I7 q=>lg (L _ _ _ _ pins s7 σ7 H7 Q7 I7 q) (λ_ _ z=>z) λ_ _ z=>z.elim) I (T _) st f2 W rfl u RM rfl rfl n ⟨_,(Heap.Ns.new d _).keeps (ZG _ _)⟩ OF
    λh a ys j I5 n5 T5 T6 T7 q5=>l _ _ h a ys j rfl u I5 n5 T5 T6 T7 q5
def D3(S:dg X N b scope)(j:X.calm=b6)(hi:PI X tg a k)(l:∀C s H ex,PG (OA X N scope C s H ex) tg g)(m:∀C s H ex,RN (OA X N scope C s H ex) ifs n)(o:∀C s H ex,PE (OA X N scope C s H ex) elt p)
  (hs:∀x,Cd a X.env x=pure x:=by intro _;rfl):PE X (.ListComp elt [⟨tg,a,ifs,0⟩] scope pos) (sC ⇑b k g n p):=by
 intro pins s σ H Q I h;show Wj   rfl hs (dG (S.cells I.ok)) S.kind S.names ?_;show ND (hi pins s σ H _ I h) λv s1 q=>ND q λG L r=>?_;have(it,O,Y,J,H2,e,c,T,st2,d,W):=r;subst e;show ji  S l m o c (λC=>T.at rfl rfl rfl j) st2 d W ?_;intro D C s5 H5 ys J' t hC f i u w y z;have(m5,A,_):=f.loc;show#[m5,A,λh' B=>#[.ref D,_,mW c f (UL t.symm) ⋯ (i9 ⋯) i u w y B d,rfl,z D i]]
def D4(S:dg X N n scope)(hc:X.calm=b6)(hN:X.N.Nodup)(W5:X.N[i]?≈y)(O:X.env.scope.names.lookup y≈.local)
  (hi:PI X tg d wi) (hg:∀C s H ex,PG (OA X N scope C s H ex) tg g) (hf:∀C s H ex,RN (OA X N scope C s H ex) ifs tt) (he:∀C s H ex,PE (OA X N scope C s H ex) elt te)
  (RO:QA (.ListComp elt [⟨tg,d,ifs,0⟩] scope pos) (bD (.Name y k)) QL.line X.env=pure b6:=by rfl)
  (hs:∀x,Cd d X.env x=pure x:=by intro _;rfl):PS X (.Assign [.Name y k] (.ListComp elt [⟨tg,d,ifs,0⟩] scope pos) QL) (yp (sC ⇑n wi g tt te) (kS i)):=by
 intro pins s σ H D I h;rw[exec_Assign_Name_used _ _ _ _ RO];show cL (Õ (cL ?_));change f6 _ X.A (do let _ <-comprehension (.ListComp elt [⟨tg,d,ifs,0⟩] scope pos) scope X.env _ (newList []) cK (p8 d X.env) (bD (Vu (.Name y k) X.env))) _ _ s;show cL (lg (Wj (use:=bD (Vu (.Name y k) X.env)) (cl:=cJ X.env scope.names []) (Q:=λ_ s'=>SP X pins D .next s') rfl hs (dG (S.cells I.ok)) S.kind S.names ?_) (λ_ s' hq=>dV (dV hq)) λ_ _ e=>e);show ND (hi pins s σ H _ I h) λv s1 h1=>ND h1 λVy l h2=>?_;have(it,fp,tn,J,H2,e,j,T,st2,Y,W):=h2;subst e;show ji (RR:=λq C=>compPost (gs X.prog X.w) X.A X.xe (bD (Vu (.Name y k) X.env)) (λ_ s'=>SP X pins D .next s') q C) S hg hf he j (λC=>T.at rfl rfl rfl hc) st2 Y W ?_;intro f C m r ys J' hD hC t n5 T5 T6 T7 q5;have(m5,VN,_):=t.loc;have u:r C=cc:=t.free;have B:Inv X pins σ (upd r f (.lst ys)) {m with heap:=m.heap}:=mW j t (UL hD.symm) ⋯ (i9 (by change @LT.lt Nat _ f C;lia)) n5 T5 T6 T7 (Zo ..) Y;change f6 _ X.A (Vu (.Name y k) X.env (.ref f)) _ _ m;show ĳ (oS (s:=m) B hN W5 (.inl O) (show RelV (.ref f) (.ref f) from rfl) (λs6 I6 ⟨a,sb,ha⟩=>?_) (.inr O));have W4:@LT.lt Nat _ X.env.locals C:=by have:@LT.lt Nat _ X.env.locals ↥l:=j.lt;lia
 have Ri:∀x c,X.env.cells.lookup x≈c->c≠C:=λx c e=>by
  have(v,z):=j.cell x c e;have:@LT.lt Nat _ c ↥l:=z.lt
  grind
 have G:C≠a:=by
  rcases ha with z|z
  .rw[z];show DD W4
  .show(Ri _ _ z).symm
 show#[m5,VN.sameBut sb G,λh' L=>?_];show#[σ.set i (bD (.ref f)),upd r f (.lst ys),I6.turned (it:=C) (t':=s6.toks) (λb o hb e=>(L.2 b hb).trans e) ?_ (DD W4) (.inr (by have:@LE.le Nat _ ↥X.s₀ ↥l:=j.sz;lia)) Ri (λp hp=>?_),q5 f n5]
 .rw[ai (DD ⋯)];show u
 .have:@LT.lt Nat _ p.1 ↥l:=hW (j.pin p hp).1
  grind
abbrev YC(x:Str):It:=#[λi _=>i<⇑x.cps.toList,λi H v H'=>H'=H/\∃c,(~~~x)[i]?≈c/\v=.str #[#v[c]],λi _=>⇑x.cps.toList<=i]
def sD{K}(it)(B:["enumerate","zip","dict_itemiterator","dict_reverseitemiterator","odict_iterator","itertools.zip_longest","itertools.pairwise"].contains ty=cK)
  (C:∀A (s:i4) i c Q E,s.heap.IsStrIter it ty x t i->x.cps[i]?≈c->(∀h',h'.IsStrIter it ty x t (i+1)->tA it s.heap h'->Q (bD (.str #[#v[c]] s.toks)) {s with heap:=h',toks:=s.toks+1})->f6 (gs P w) A (Tx (.ref it)) Q E s)
  (D:∀A s i Q E,A.handled=cc->s.heap.IsStrIter it ty x t i->x.cps[i]?=cc->(∀h',WC it s.heap h'->Q cc {s with heap:=h' })->f6 (gs P w) A (Tx (.ref it)) Q E s)
  (G:∀A i s Q E,s.heap.IsStrIter it ty x t i->Q (.ref it) s->f6 (gs P w) A (Zk (.ref it)) Q E s) :
  Turn P w K tg (YC x) [it] it (λi h=>h.IsStrIter it ty x t i) where
 mem:=⋯
 obj:=λi h st b a=>by
  have e:b=it:=by exists a
  subst e;have(o,e,c,d):=st;simp_all
 keep:=λi h h' st k=>let ⟨o,ho,r⟩:=st;⟨o,k it ⋯ o ho,r⟩
 item:=by
  intro X g j l y i pins s σ H E I f st m;subst g j l;have(n,p,J,q,u,v):=f it ⋯;have z:i<⇑x.cps.toList:=m;show C X.A s i (~~~x)[i] _ _ st ⋯ λh' st' L=>?_;have N:Inv X pins σ H {s with heap:=h',toks:=s.toks+1}:=I.turned (λb o a e=>(L.2 b a).trans e) n p q u v;have(o,e,O,d):=id st';show#[_,rfl,r6  e O d B #[.str _,H,N,#[_,rfl],#[rfl,_,by simp,rfl],st',λb a=>(f b a).1]]
 done:=by
  intro X g j l y i pins s σ H E I f st m;subst g j l;have(n,p,J,q,u,v):=f it ⋯;have z:⇑x.cps.toList<=i:=m;show D X.A s i _ _ (I.ok.hd y) st (by exists z) λh' T=>#[rfl,I.turned (t':=s.toks) (λb o a e=>T b o a e) n p q u v]
 self:=λA i s Q E st h=>G A i s Q E st h
abbrev MW(tl:TE):TI:=λσ H R=>tl σ H λv a=>∃x,v=.str x/\R (YC x) a
def HP(hl:PE X l tl):PI X tg l (MW tl):=by
 intro pins s σ H R I h;show ND (hl pins s σ H _ I h) λv s1 n=>?_;have(x,g,f,p,r):=n;have(z,rfl,q):=r;have(t,rfl):=p;have k:∀b∈[↥s1],gL X pins g b:=λb u=>by
  have e:=by exists u
  subst e;show f.yq (hY _) (f.Ny.fresh (hY _))
 cases m:z.cps.all (·<128) with
 |true =>
  show wpAny_pyIter_ascii m ?_;show#[_,_,_,_,g,rfl,f.kept (t':=s1.toks) λb o e=>dt _ e,
   sD (x:=z) (t:=t) _ ⋯ (λA s i c Q E st d a=>wpAny_pyNext_ascii_item st d a) (λA s i Q E j st d a=>wpAny_pyNext_ascii_end j st d a) (λA i s Q E st a=>wpAny_pyIter_striter_ascii st a),
   #[_,gj _ rfl,rfl,rfl],k,q]
 |false =>
  show wpAny_pyIter_wide m ?_;show#[↥s1,_,_,_,g,rfl,f.kept (t':=s1.toks) λb o e=>dt _ e,
   sD (x:=z) (t:=t) _ ⋯ (λA s i c Q E st d a=>wpAny_pyNext_wide_item st d a) (λA s i Q E j st d a=>wpAny_pyNext_wide_end j st d a) (λA i s Q E st a=>wpAny_pyIter_striter_wide st a),
   #[_,gj _ rfl,rfl,rfl],k,q]
abbrev KO:V->Option Int->Option Int->Hp->VK->Prop:=λx lo hi H Q=>∃z,x=.str z/\⇑z<=c8/\Q (.str (PySem.StrLaws.sliceText z lo hi)) H
def oG(x)(lo hi)(hz:⇑x<=c8):⇑(PySem.StrLaws.sliceText x lo hi)<=c8:=qv (Txt.slice_le x lo hi) hz
def HQ:RL X KO:=by
 intro pins s σ H x v g m lo hi n Q I e hs f c h;have(z,rfl,hz,q):=h;have(t,rfl):=e;show#["str",_,slot_str_getitem.lookup,Rg _ _ _,?_];have a:⇑(PySem.StrLaws.sliceText z lo hi)<=c8/\∀t' k,EP X pins σ Q (.str _ t') _:=#[oG z lo hi hz,λt' k=>#[.str _,H,I.tok k,#[_,rfl],q]]
 cases f with
 |none =>
  cases c with
  |none=>show SI (l:=cc) (u:=cc) (st:=cc) hs rfl (XE a)
  |int j b=>show SI (l:=cc) (u:=bD (j,b)) (st:=cc) hs rfl (XE a)
 |int i d =>
  cases c with
  |none=>show SI (l:=bD (i,d)) (u:=cc) (st:=cc) hs rfl (XE a)
  |int j b=>show SI (l:=bD (i,d)) (u:=bD (j,b)) (st:=cc) hs rfl (XE a)
def sE:TV X "str.endswith" (λx xs H Q=>∃a b,x=.str a/\xs=[.str b]/\Q (.bl (Ō a b)) H):=by
 intro pins s σ H x xs v us Q I c rs h;have(a,b,rfl,rfl,q):=h;have(t,rfl):=c;have(u,rfl,t',rfl):=vals1 rs;show SC.endswith #[.bl _,H,I,rfl,q]
def qB:TV X "str.partition" (λx xs H Q=>∃a b,x=.str a/\xs=[.str b]/\(⇑b==0)=cK/\⇑a<=c8 /\
  ∀p,H p=cc->Q (.ref p) (upd H p (.tup [.str (ko a b).1,.str (ko a b).2.1,.str (ko a b).2.2]))):=by
 intro pins s σ H x xs v us Q I i rs h;have(a,b,rfl,rfl,j,hz,q):=h;have(t,rfl):=i;have(u,rfl,t',rfl):=vals1 rs;show Rn F.slot_str_partition (Rg _ _ _) F.entry_str_partition (F.args_str_partition_2 _ _) (meets_str_partition a b t t' j hz) ?_;have l:H ↥s=cc:=I.Ny.fresh (hY _);have m:=q _ l;have c:∀(d f g:Tok) (k:Nat),EP X pins σ Q (.ref ↥s) {s with toks:=k,heap:=s.heap.push {cls:=.type "tuple",data:=.seq _}}:=λd f g k =>
  #[.ref ↥s,_,I.laid (t':=k) (o:=.tup [.str (ko a b).1,.str (ko a b).2.1,.str (ko a b).2.2]) (λb u e=>dt _ e) (hY _)
   ⟨by change 3<=c8;decide,_,.cons ⟨d,rfl⟩ (.cons #[f,rfl] (.cons #[g,rfl] .nil)),⟨_,gj _ rfl,rfl,_,rfl⟩⟩,rfl,m]
 revert c;unfold ko;cases td a b 0 ⇑a 1 with
 |_=>intro c;show c _ _ _ _
theorem pk:∀l,Vals (l.map λp=>V.str p.1) (è l)
 |[]=>.nil
 |(x,t)::r=>.cons #[t,rfl] (pk r)
theorem fY:∀{ys}{a},Vals (ys.map V.str) a->∃l,a=è l/\l.map (·.1)=ys
 |[],_,.nil=>#[[],rfl,rfl]
 |y::ys,_,.cons r t=>by
  have(tk,rfl):=r;have(l,rfl,e):=fY t;show#[(y,tk)::l,rfl,by simp_all]
def AN:TV X "str.split" (λx xs H Q=>∃a b,x=.str a/\xs=[.str b]/\(⇑b==0)=cK/\⇑a+2<=c8 /\
  ∀p,H p=cc->Q (.ref p) (upd H p (.lst ((G' a b).map V.str)))):=by
 intro pins s σ H x xs v us Q I i rs h;have(x,y,rfl,rfl,g,hz,q):=h;have(t,rfl):=i;have(u0,rfl,u,rfl):=vals1 rs;have d:=I.Ny.fresh (hY _);have j:=q _ d;have c:∀(l:↑(Str×Tok)) (k:Nat),⇑l<=c8->l.map (·.1)=G' x y->EP X pins σ Q (.ref ↥s) {s with toks:=k,heap:=s.heap.push {cls:=.type "list",data:=.seq (è l).toArray}}:=λl k hl e =>
  #[.ref ↥s,_,I.laid (t':=k) (o:=.lst ((G' x y).map V.str)) (λb u e=>dt _ e) (hY _)
   ⟨by rw[<-e,ei,ei];show hl,è l,_,by rw[<-e,i8];show pk l,gj _ rfl⟩,rfl,j]
 have one:1<=c8:=⋯
 cases f:(df (⇑x<⇑y)||decide (Y6 x<Y6 y))
 .cases d:(td x y 0 ⇑x (⇑x+1)).isEmpty
  .have hn:⇑(Uw x (td x y 0 ⇑x (⇑x+1)) ⇑y)<=c8:=by
    have:=PySem.StrLaws.occ_length_le x y 0 ⇑x (⇑x+1);erw[Uw,ei,YT,k9,mx];lia
   show Rn Y2 (Rg _ _ _) YJ (Yp _ _) (meets_str_split_sep x y t u f g d ⋯ hn) ?_;rw[strsFrom_eq];show c (numbered s.toks _) _ ?_ ((Ť _ _).trans ((Ŷ (ne_true_of_eq_false f)).trans (Ŷ (ne_true_of_eq_false d))).symm);have e:=ż N3 (Ť s.toks (Uw x (td x y 0 ⇑x (⇑x+1)) ⇑y));simp_all
  .show Rn Y2 (Rg _ _ _) YJ (Yp _ _) (meets_str_split_not_found x y t u f g d)
    (c [(x,t)] _ one ((Ŷ (ne_true_of_eq_false f)).trans (ŵ d)).symm)
 .show Rn Y2 (Rg _ _ _) YJ (Yp _ _) (meets_str_split_cannot_occur x y t u f)
   (c [(x,t)] _ one (ŵ f).symm)
def D5:TV X "str.join" (λx xs H Q=>∃a p ys,x=.str a/\xs=[.ref p]/\N_ X.K H p (ys.map V.str)/\Vv a ys=b6/\Q (.str (ri a ys)) H):=by
 intro pins s σ H x xs v us Q I b rs h;have(a,p,ys,rfl,rfl,c,d,q):=h;have(t,rfl):=b;have(u,rfl,r):=vals1 rs;cases r;have(g,rv,f,hz):=I.list c;have(l,rfl,e):=fY rv;show SC.join f.isList e d λt' k=>#[.str _,H,I.tok k,#[_,rfl],q]
theorem la:∀{bs:↑Bool}{a},Vals (bs.map V.bl) a->a=bs.map UC
 |[],_,.nil=>rfl
 |b::bs,_,.cons r t=>by
  cases r;rw[la t];rfl
def AO:X.calm=b6->gF X (.builtin "all") (λxs H Q=>∃(p:hH) (bs:↑Bool),xs=[.ref p]/\N_ X.K H p (bs.map V.bl)/\Q (.bl (bs.all id)) H):=by
 intro f pins s σ H xs us Q I rs h;have(p,bs,rfl,g,q):=h;have(u,rfl,r):=vals1 rs;cases r;have(k,rv,a,hz):=I.list g;have e:=la rv;subst e;have j:p<↥s:=by have(_,_,e,_):=a;show hW e
 show call_all_walk (VZ a.isList ?_);show#[_,_,_,_,_,_,λi=>(bs[i]?).getD b6,rfl,ŋ (A:=X.A.in1) (I.ok.hd f) _ p (i9 j) _,
  #[#[_,gj _ rfl,rfl,rfl],a.isList.push _],λi v l m n o d=>?_,λh' tk hk=>?_]
 .have c:(bs.map UC)[i]?≈v:=⋯
  rw[sd]at c;cases e:bs[i]? with
  |none=>simp_all
  |some b =>
   rw[e]at c;cases c;erw[e]at d;show q9 d
 .have e:((ib (bs.map UC).toArray.size).all λi=>(bs[i]?).getD b6)=bs.all id:=by
   rw[mu,ei];show Ğ bs
  rw[e];show#[.bl _,H,I.kept (t':=tk) (ğ hk),rfl,q]
abbrev D6(N a:↑Str)(scope:tP)(out:↑(Str×Ĕ)):Bool :=
 df (scope.kind=.function)&&scope.names.all (λy=>df (scope.names.lookup y.1≈y.2))&&scope.names.all (λy=>df (y.2≠.cell)||decide (y.1∈a))&&decide N.Nodup&&df (N.take ⇑a=a) &&
 scope.names.all (λy=>df (y.2≠.local)||decide (y.1∈a)||decide (y.1=".0"))&&df ((".0":Str)∉N)&&scope.names.all (λy=>df (y.2≠.free)||decide (out.lookup y.1≈.cell)||decide (out.lookup y.1≈.free))&&scope.names.all (λy=>df (y.1≠".")&&df (y.1≠".."))
def u9(hn:X.env.scope.names=out)(c:fy (N.drop ⇑a) X.N)(h:D6 N a scope out=b6):dg X N a scope:=by
 unfold D6 at h;erw[cb,lx,RB,Ŵ]at h;obtain⟨⟨⟨⟨⟨⟨⟨⟨d,f⟩,g⟩,i⟩,j⟩,k⟩,l⟩,m⟩,n⟩:=h;show#[d,f,λy b e=>?_,i,j,λy b e=>?_,l,c,λy b e=>?_,n]
 .rcases g y b with z|z
  .show absurd e z
  .show z
 .rcases k y b with(z|z)|z
  .show absurd e z
  .show .inl z
  .show .inr z
 .rw[hn];rcases m y b with(z|z)|z
  .show absurd e z
  .show .inl z
  .show .inr z
inductive AQ(prog:rS)(w:wk)(h:K2)(k:Str×↑Str)(a:hH):Prop
 |mk:∀o n t b,h.get? a≈o->o.cls=.type "tuple"->o.data=.seq #v[.str k.1 t,.ref b] n->IsTupleKey (PySem.strKind prog w) h k.2 b->AQ prog w h k a
abbrev PN(a b:Str):Bool:=!df ((~~~b)<(~~~a))
def l9(a b):PN a b=b6↔(~~~a)<=(~~~b):=by
 erw[PN,nc,Ż];rfl
def pq(a b c)(d:PN a b=b6)(e:PN b c=b6):PN a c=b6:=by
 rw[l9]at d e ⊢;show List.le_trans d e
def yJ(a b):(PN a b||PN b a)=b6:=by
 rw[RB,l9,l9];show List.le_total _ _
def AR{x y:Str}(h:(~~~x)=(~~~y)):x=y:=by
 cases x;simp_all
def qC(c:PN a b=b6)(d:PN b a=b6):a=b:=by
 rw[l9]at c d;show AR (List.le_antisymm c d)
abbrev cm(l:↑Str):↑Str:=l.mergeSort PN
def di(l):(cm l).Perm l:=List.mergeSort_perm l PN
def mX(l):(cm l).Pairwise (λa b=>PN a b=b6):=List.pairwise_mergeSort pq yJ l
theorem jJ:∀l p,risingS p l=b6->(p::l).Pairwise (λa b=>PN a b=b6)
 |[],p,_=>by simp
 |x::r,p,h=>by
  have h':=h;have(d,g):=oa.mp h';have f:=jJ r x g;have c:PN p x=b6:=by rw[ltCps_eq]at d;show d
  show UT.mpr #[λy i=>?_,f];rcases eT.mp i with e|e
  .rw[e];lia
  .show pq _ _ _ c ((UT.mp f).1 y e)
def qD(h:sortedS l=b6):l.Pairwise (λa b=>PN a b=b6):=by
 cases l with
 |nil=>simp
 |cons x r=>show jJ r x h
theorem kq:∀{l m:↑Str},l.Perm m->l.Pairwise (λa b=>PN a b=b6)->m.Pairwise (λa b=>PN a b=b6)->l=m
 |[],m,c,_,_=>(List.Perm.nil_eq c)
 |x::l,m,c,f,g=>by
  cases m with
  |nil=>simp_all
  |cons y m =>
   have(h,i):=UT.mp f;have(b1,j):=UT.mp g;have d:x=y:=by
    have m1:=c.mem_iff.mp il;have m2:=c.mem_iff.mpr il;rcases eT.mp m1 with e|e
    .show e
    .rcases eT.mp m2 with e'|e'
     .show e'.symm
     .show qC (h y e') (b1 x e)
   subst d;rw[kq (List.Perm.cons_inv c) i j]
def AS(a:l.Perm m)(hs:sortedS l=b6):l=cm m:=kq (a.trans (di m).symm) (qD hs) (mX m)
def sF(a:l.Perm m):cm l=cm m:=kq ((di l).trans (a.trans (di m).symm)) (mX l) (mX m)
def jK(l):⇑(cm l)=⇑l:=(di l).length_eq
theorem eV:∀{ys}{a},Vals (ys.map V.str) a->V_ a ys
 |[],_,.nil=>.nil
 |y::ys,_,.cons r t=>by
  have(tk,rfl):=r;show .cons y tk (eV t)
theorem f9:∀{a}{ys},V_ a ys->Vals (ys.map V.str) a
 |_,_,.nil=>.nil
 |_,_,.cons x t h=>.cons #[t,rfl] (f9 h)
theorem jj(hc:f6 (gs prog w) A.in1 (ĸ x) (λvs s1=>∃ss,V_ vs ss/\vs.length<64 /\
      ∀h' N0 e,(∀b o,s1.heap.get? b=bD o->h'.get? b=bD o)->h'.get? s1.heap.objs.size=bD (u4 "list" N0.toArray e)->V_ N0 (cm ss)->Q (.ref s1.heap.objs.size) {s1 with heap:=h' }) E s) :
    f6 (gs prog w) A (Qt (.builtin "sorted") [x]) Q E s:=by
  refine Y5 kind_sorted plain_sorted entry_sorted (args_sorted1 _) ?_;unfold RA.«sorted»;refine cL (m:=checkCount "sorted" 1 1 _) (dV ?_);refine cL (lg hc (λvs s1 h1=>?_) λ_ _ e=>e);obtain⟨ss,hS,Se,h⟩:=h1
  refine wpAny_bind (wpAny_newList ?_ (by have : (64 : Nat) ≤ sizeLine := by decide
                                          lia))
  have R9:(s1.heap.push (u4 "list" vs.toArray 0)).get? s1.heap.objs.size=bD (u4 "list" vs.toArray 0):=gj _ rfl;show f6 _ _ _ _ _ {s1 with heap:=s1.heap.push (u4 "list" vs.toArray 0)};refine cL (tr (ti slot_list_sort ⟨_,R9,rfl⟩ entry_list_sort (list_sort_treeK strKind_oneLt R9 hS.keysOf (λv₁ v₂ rest e=>keyKind_strs (by rw[<-e];exact hS)) Se λst' a1 a2=>⟨_,rfl,?_⟩) (Ų _)));obtain⟨Qh,b1,b2,b3⟩:=sorted_out_str hS a1 a2;obtain⟨e,he⟩:=sortedHeap_at (out:=(arrOf st').map (·.2)) R9;rw[AS b2 b3]at b1;refine dV ⟨_,rfl,h _ ((arrOf st').map (·.2)).toList e (λb o q=>?_) (by rw[Wy];exact he) b1⟩;have Og:b<s1.heap.objs.size:=hW q;show(Ī (s1.heap.push (u4 "list" vs.toArray 0)) s1.heap.objs.size vs ((arrOf st').map (·.2))).get? b=bD o;rw[ů (i9 Og) (by rw[YL];exact Sk Og)];exact dt _ q
def oH(hl:Yt s.heap l vs.toArray)
  (h:Q vs {s with heap:=(s.heap.push (u4 "list" #v[] 0)).update ↥s (rD (·++vs.toArray))}) (hsz:⇑vs<=c8) :
  f6 (gs prog w) A (ĸ (.ref l)) Q E s:=by
 have(o,ho,b,n,c):=id hl;unfold ĸ;show cL (X_ (tv entry_proto_collect' ?_));show cL (Ö (dV #[XW _ (by decide +kernel),tv entry_list_iadd' ?_]));change f6 _ _ (Pb (.ref ↥s) (.ref l) (.ref ↥s)) _ _ {s with heap:=s.heap.push (u4 "list" #v[] 0)};unfold Pb;have a:(s.heap.push (u4 "list" #v[] 0)).get? l≈o:=dt _ ho;show cL (U4 (T:="tuple") #[o,a,b] ?_);rw[ŵ ⋯];show cL (ú a c ?_);show cL (ú (xs:=#v[]) (n:=0) (gj _ rfl) rfl ?_);rw[Ŷ ⋯];show cL (Ys (xs:=#v[]) (n:=0) (gj _ rfl) rfl ?_ (kj _) (by grind));show dV ?_;show cL (Ġ (Ş (gj _ rfl) _) ?_);change f6 _ _ (pure ((#v[]:Array g8)++vs.toArray).toList) Q E _;rw[show((#v[]:Array g8)++vs.toArray).toList=vs by simp];show dV h
def oI{h:K2}{vs:↑g8}(e:h.get? b≈o):((h.push (u4 "list" #v[] 0)).update h.objs.size (rD (·++vs.toArray))).get? b≈o:=by
 rw[ß _ _ _ _ (i9 (hW e))];show dt _ e
def sG(I:Inv X pins σ H s)(k1:∀b o,s.heap.get? b≈o->s1.heap.get? b≈o)(g:∃c a,s1={s with heap:=c,toks:=a})
  (hk:∀b o,s1.heap.get? b≈o->h'.get? b≈o) (h:h'.get? ↥s1≈u4 "list" d.toArray e) (i:V_ d (cm ss)) (hsz:↥s<=↥s1) (hl:⇑ss<=c8)
  (q:∀p,H p=cc->Q (.ref p) (upd H p (.lst ((cm ss).map V.str)))):EP X pins σ Q (.ref ↥s1) {s1 with heap:=h' }:=by
 have(c,a,rfl):=g;have f:=I.kept (t':=a) k1;show#[.ref _,_,f.laid  (o:=.lst _) hk (hY _) #[by rw[ei,jK];show hl,d,e,f9 i,h],rfl,q _ (f.Ny.fresh (hY _))]
def lh:gF X (.builtin "sorted") (λxs H Q=>∃p ys,xs=[.ref p]/\(N_ X.K H p (ys.map V.str)\/Oi X.K H p (ys.map V.str))/\⇑ys<64/\∀q,H q=cc->Q (.ref q) (upd H q (.lst ((cm ys).map V.str)))):=by
 intro pins s σ H xs us Q I rs h;have(p,ys,rfl,hq,j,q):=h;have(u,rfl,r):=vals1 rs;cases r;have hl:⇑ys<=c8:=Q' (jn j ⋯);have d:∀(a:↑g8),Vals (ys.map V.str) a->∀(h':K2) (c:↑g8) (e:Nat),(∀b o,((s.heap.push (u4 "list" #v[] 0)).update ↥s (rD (·++a.toArray))).get? b≈o->h'.get? b≈o) ->
   h'.get? ((s.heap.push (u4 "list" #v[] 0)).update ↥s (rD (·++a.toArray))).objs.size≈u4 "list" c.toArray e->V_ c (cm ys) ->
   EP X pins σ Q (.ref ((s.heap.push (u4 "list" #v[] 0)).update ↥s (rD (·++a.toArray))).objs.size) {s with heap:=h' }:=λa rv h' c e hk f g =>
  sG (s1:={s with heap:=(s.heap.push (u4 "list" #v[] 0)).update ↥s (rD (·++a.toArray))}) I (λb o z=>oI z) ⟨_,s.toks,rfl⟩ hk f g ⋯ hl q
 rcases hq with hq|hq
 .have(a,rv,i,hz):=I.list hq;have k:⇑a=⇑ys:=by rw[<-⇑rv,ei]
  show jj (collect_list i.isList #[ys,eV rv,⋯,λh' c e hk f g=>d a rv h' c e hk f g] ⋯)
 .have(a,rv,i,hz):=I.tuple hq;have k:⇑a=⇑ys:=by rw[<-⇑rv,ei]
  show jj (oH i #[ys,eV rv,⋯,λh' c e hk f g=>d a rv h' c e hk f g] ⋯)
@[reducible]noncomputable def sK(P:rS)(w:wk):=PySem.strKind P w
inductive jL(P:rS)(w:wk)(h:K2)(a:hH)(led:Bool)(D:↑Str):Prop
 |mk:∀(L:↑(Str×Tok)) (es:Array (Int×g8)) (ep:Nat) (t:SetTable),h.get? a≈{cls:=.type "set",dict:=cc,data:=.set es ep t}->es.toList=L.map (λp=>((sK P w).hash p.1,y6 p.1 p.2))->(L.map (·.1)).Perm D->D.Nodup->t.fits es.size=b6->es.size<SS->t.led=led->(es.size=0\/t.plain=cK)->jL P w h a led D
def jL.at(c:jL prog w h a b D)(k:∀o,h.get? a≈o->h'.get? a≈o):jL prog w h' a b D :=
 let ⟨L,es,ep,t,d,e,f,g,i,j,l,m⟩:=c;⟨L,es,ep,t,k _ d,e,f,g,i,j,l,m⟩
def AU{L:↑(Str×Tok)}:ElemsOf (sK prog w) (L.map λp=>((sK prog w).hash p.1,y6 p.1 p.2)):=by
 intro e a;have(p,_,rfl):=j0.mp a;show#[#[p.1,by simp[PySem.strKind,XI],rfl],rfl]
def xb(x y)(t):(sK prog w).is x (.str y t)=df (x=y):=by
 rw[ve];simp[PySem.strKind,XI];show#[λh=>h.symm,λh=>h.symm]
def u_(t)(es)(h)(x):(layNew t es h x).2.1.led=t.led:=by
 unfold layNew;split
 .change(Z3 _ _).led=t.led;unfold Z3;split<;>rfl
 .rfl
def qE(t)(es)(n):(Ww t es n).2.1.led=t.led:=by
 unfold Ww;split
 .rename_i t' b a;have:t'.led=t.led:=by
   unfold Ý ó at a;cases c:Ä _ _ with
   |none=>rw[c]at a;cases a
   |some o=>rw[c]at a;cases a;rfl
  dsimp only
  split
  .lia
  .rfl
 .rfl
def mY(t)(es)(n)(h:t.plain=cK):(Ww t es n).2.1.plain=cK:=by
 unfold Ww;split
 .rename_i t' b a;have:t'.plain=t.plain:=by
   unfold Ý ó at a;cases c:Ä _ _ with
   |none=>rw[c]at a;cases a
   |some o=>rw[c]at a;cases a;rfl
  dsimp only
  split
  .rw[this];show h
  .rfl
 .rfl
def mZ(h:l.Perm (L.map λp=>((sK prog w).hash p.1,y6 p.1 p.2))):∃a:↑(Str×Tok),l=a.map (λp=>((sK prog w).hash p.1,y6 p.1 p.2))/\a.Perm L:=by
 have all:∀e∈l,∃p:Str×Tok,e=((sK prog w).hash p.1,y6 p.1 p.2):=λe b=>by
  have(p,_,rfl):=j0.mp (h.mem_iff.mp b);show#[p,rfl]
 have ex:∀l:↑(Int×g8),(∀e∈l,∃p:Str×Tok,e=((sK prog w).hash p.1,y6 p.1 p.2))->∃a:↑(Str×Tok),l=a.map (λp=>((sK prog w).hash p.1,y6 p.1 p.2)):=by
  intro l;induction l with
  |nil=>intro _;show#[[],rfl]
  |cons e l d =>
   intro c;have(p,rfl):=c e il;have(a,rfl):=d λe b=>c e (f7 _ b);show#[p::a,rfl]
 have(a,rfl):=ex l all;show#[a,rfl,?_];have g:(a.map λp=>((sK prog w).hash p.1,y6 p.1 p.2)).map (λe=>match e.2 with|.str x t=>(x,t)|_=>(nS,0))=a:=by
  rw[i8];show Ŕ _
 have f:(L.map λp=>((sK prog w).hash p.1,y6 p.1 p.2)).map (λe=>match e.2 with|.str x t=>(x,t)|_=>(nS,0))=L:=by
  rw[i8];show Ŕ _
 have:=h.map (λe=>match e.2 with|.str x t=>(x,t)|_=>(nS,0));rw[g,f]at this;lia
def vb(hS:jL prog w s.heap a l D)(S7:⇑D+1<SS)
  (h:∀h',tA a s.heap h'->jL prog w h' a l (if x∈D then D else D++[x])->Q (df (x∉D)) {s with heap:=h' }) :
  f6 (gs prog w) A (setAddHashed a (.str x tk) ((sK prog w).hash x)) Q E s:=by
 have(L,es,ep,t,ho,u,I,NP,O,hb,T,OL):=hS;have TQ:(sK prog w).is x (.str x tk)=b6:=by rw[xb];simp
 have v:ElemsOf (sK prog w) es.toList:=by rw[u];show AU
 have y:es.size=⇑D:=by rw[<-p7,u,ei,<-ei (f:=Prod.fst) (as:=L),I.length_eq]
 unfold setAddHashed setAddHashedIn;show tr (cL (wpAny_setState_of ho rfl O ?_))
 dsimp only
 rw[byScan_of (knd:=sK prog w) rfl hb v];simp only[↓reduceIte];unfold setAddByScan;show cL ?_;show cL (P_ ?_);show cL (wpAny_setScan_of (knd:=sK prog w) TQ ho rfl O v ?_);have i:(∃e∈es.toList,(sK prog w).is x e.2=b6)↔x∈D:=by
  rw[u,<-I.mem_iff,j0];constructor
  .rintro⟨e,Y,hi⟩;have(p,k,rfl):=j0.mp Y;rw[xb,Ŵ]at hi;show#[p,k,hi.symm]
  .rintro⟨p,k,e⟩;show#[_,j0.mpr #[p,k,rfl],by rw[xb];simp[e]]
 cases hr:Į (λe=>(sK prog w).is x e.2) es.toList with
 |some j =>
  dsimp only
  have(hj,ab,_):=List.findIdx?_eq_some_iff_getElem.mp hr;have r:x∈D:=i.mp #[es.toList[j],F1 hj,ab];show dV (dV ?_);have e:s={s with heap:=s.heap}:=by cases s;rfl
  have:=h s.heap (Zo a s.heap) (by rw[ŵ r];show#[L,es,ep,t,ho,u,I,NP,O,hb,T,OL]);rw[ŷ (λz=>z r)]at this;rw[e];show this
 |none =>
  dsimp only
  have r:x∉D:=λr=>by
   have(e,Y,k):=i.mpr r;have:=List.findIdx?_eq_none_iff.mp hr e Y;rw[k]at this;show Bool.noConfusion this
  have ac:∀(b:Bool) {m:i4} {n:Unit->i4->Prop},n () m->f6 (gs prog w) A (match b with|true=>Ħ "set.scan.the-table-gave-way"|false=>pure ()) n E m :=
   λb m n o=>by cases b<;>first|show dV o|show P_ o
  have B:=layNew_perm t es ((sK prog w).hash x) (.str x tk);have J:=layNew_fits t es ((sK prog w).hash x) (.str x tk);have QX:=u_ t es ((sK prog w).hash x) (.str x tk);generalize hL:layNew t es ((sK prog w).hash x) (.str x tk)=NL at B J QX ⊢;have(c,C,Rj,a0):=NL
  dsimp only at B J QX ⊢
  rw[Array.toList_push,u,show [((sK prog w).hash x,y6 x tk)]=[(x,tk)].map (λp=>((sK prog w).hash p.1,y6 p.1 p.2)) from rfl,<-mn]at B;have(L1,e1,al):=mZ B;have T8:c.size=⇑D+1:=by rw[<-p7,B.length_eq,ei,mx,<-y,<-p7,u,ei];rfl
  have UZ:c.size<SS:=⋯
  have S_:(L1.map (·.1)).Perm (D++[x]):=(al.map _).trans (by rw[mn];show I.append_right _);have G:(D++[x]).Nodup:=by
   rw[mN]
   grind
  show cL (ac _ ?_);have Sg:∀h',tA a s.heap h'->jL prog w h' a l (D++[x])->Q b6 {s with heap:=h' }:=λh' sb hs=>by
   have:=h h' sb (by rw[Ŷ r];show hs);rw[Ź r]at this;show this
  have q:∀(g:Bool->Sem Unit),(∀(b:Bool) (m:i4) (n:Unit->i4->Prop),n () m->f6 (gs prog w) A (g b) n E m)->∀(R:Option Bool->i4->Prop),(∀h',tA a s.heap h'->jL prog w h' a l (D++[x])->R (bD b6) {s with heap:=h' })->∀d:SetTable,d.fits c.size=b6->d.led=l->d.plain=cK->f6 (gs prog w) A (do
    storeSet a c d
    if (!Rj&&d.tooFull)=b6 then do
      g (Ww d c (Ob c.size)).2.2
      storeSet a (Ww d c (Ob c.size)).1 (Ww d c (Ob c.size)).2.1
      pure (bD b6)
     else pure (bD b6)) R E s:=by
   intro g hg R hR d am Qy VP;show cL (ı ho rfl ?_ (ķ UZ));have VQ:(s.heap.update a (Ws c d)).get? a≈{cls:=.type "set",dict:=cc,data:=.set c (ep+1) d}:=by
    have:=ro (Ws c d) ho rfl;show this
   have VR:=wh s.heap a (Ws c d);split
   .have k:=relayAll_perm d c (Ob c.size);have Qi:=relayAll_fits d c (Ob c.size);have Ta:=qE d c (Ob c.size);have YF:=mY d c (Ob c.size) VP;generalize YG:Ww d c (Ob c.size)=Rl at k Qi Ta YF ⊢;have(H,N,an):=Rl
    dsimp only at k Qi Ta YF ⊢
    rw[e1]at k;have(L2,e2,ap):=mZ k;have hsz:H.size=c.size:=by rw[<-p7,k.length_eq,<-e1,p7]
    show cL (hg _ _ _ ?_);show cL (ı VQ rfl ?_ (ķ ⋯));have T9:((s.heap.update a (Ws c d)).update a (Ws H N)).get? a≈{cls:=.type "set",dict:=cc,data:=.set H (ep+1+1) N}:=ro (Ws H N) VQ rfl;show dV (hR _ (VR.trans (wh _ a _)) #[L2,H,_,N,T9,e2,(ap.map _).trans S_,G,Qi,⋯,Ta.trans Qy,.inr YF])
   .show dV (hR _ VR #[L1,c,_,d,VQ,e1,S_,G,am,UZ,Qy,.inr VP])
  split
  .rename_i k;show cL ?_;rw[hashByValue_scannable 8 rfl];show dV ?_;have ep:(if plainKind (y6 x tk)=b6 then C else {C with plain:=cK})={C with plain:=cK}:=rfl;rw[ep];show q _ ?_ _ ?_ {C with plain:=cK} (SetTable.fits_plain_off J) (QX.trans T) rfl
   .intro b m n o;cases b<;>first|show dV o|show P_ o
   .intro h' Sh Qj;dsimp only;show dV (Sg h' Sh Qj)
  .rename_i k;show cL (dV ?_);simp only[↓reduceIte];show q _ ?_ _ ?_ C J (QX.trans T) (Bool.eq_false_iff.mpr k)
   .intro b m n o;cases b<;>first|show dV o|show P_ o
   .intro h' Sh Qj;dsimp only;show dV (Sg h' Sh Qj)
abbrev fH(D:↑Str)(x:Str):↑Str:=if x∈D then D else D++[x]
abbrev bX(l:↑Str):↑Str:=l.foldl fH []
def vc(h:D.Nodup):(fH D x).Nodup:=by
 unfold fH;split
 .show h
 .rw[mN];show#[h,by simp,λy a z hz=>by grind]
theorem jk:∀(l D:↑Str),D.Nodup->(l.foldl fH D).Nodup/\(∀x,x∈l.foldl fH D↔x∈D\/x∈l)/\⇑(l.foldl fH D)<=⇑D+⇑l
 |[],D,h=>#[h,by simp,by simp]
 |y::l,D,h=>by
  have(a,b,d):=jk l _ (vc h);have c:∀x,x∈fH D y↔x∈D\/x=y:=λx=>by
   unfold fH;split
   .simp_all
   .simp
  have hl:⇑(fH D y)<=⇑D+1:=by
   unfold fH;split
   .lia
   .simp
  show#[a,λx=>?_,by grind];rw[YU,b,c,eT,or_assoc]
def vd(l)(x):x∈bX l↔x∈l:=by rw[bX,(jk l [] Y7).2.1];simp
def vf(l):⇑(bX l)<=⇑l:=by have:=(jk l [] Y7).2.2;simpa[bX] using this
def sH(l)(x):bX (l++[x])=fH (bX l) x:=by unfold bX;simp
def oJ(a)
  (h:Q₁ (.ref ↥s) {s with heap:=s.heap.push {cls:=.type "set",dict:=cc,data:=.set #v[] 0 (.fresh 0 0 (!w.params.followText "set-order"))}}) :
  Ry (gs prog w) A (.call (.builtin "set.__new__") #[[.type "set",a],[]]) (wants Q₁ E) s:=by
 show XH ?_;show cL (z8 (F.newCall_set_1 a) (dV #[RP F.plain_set_new _,tv F.entry_set_new ?_]));unfold RA.«set.__new__» ė;have b:=sub_set_self
 dsimp only
 wp_walk
 show wpAny_askSetting (dV ?_);show cL (wpAny_alloc (dV ?_));show dV h
def vg(c:h.get? a≈{cls:=.type "set",dict:=cc,data:=.set #v[] 0 (.fresh 0 0 b)}):jL prog w h a b [] :=
 #[[],#v[],0,_,c,rfl,.nil,Y7,rfl,by decide,rfl,.inl rfl]
def sub_tuple_set:Vn (.type "tuple") (.type "set")=pure cK:=by rw[Z'];rfl
def sub_tuple_frozenset:Vn (.type "tuple") (.type "frozenset")=pure cK:=by rw[Z'];rfl
section
variable{prog:rS}{w:wk}{A:Ux}{R:Result->i4->Prop}{I:hH}{fp wr:List hH}{G:Array Æ->Array Æ->Prop}{n:Nat}{P:Nat->g8->Prop}{St:Nat->i4->Prop}
def AV(W:Ĩ prog w A.in1 I fp wr G n P St)(t:S∉fp){SP:Nat->K2->Prop}{h0:K2}(u:∀b∈S::wr,h0.get? b=cc)
  (x:∀i h h',SP i h->(∀o,h.get? S≈o->h'.get? S≈o)->SP i h')
  (C:∀i v s Q E,i<n->P i v->SP i s.heap->(∀b o,h0.get? b≈o->s.heap.get? b≈o)->(∀b h' tk,s.toks<=tk->tA S s.heap h'->SP (i+1) h'->Q b {s with heap:=h',toks:=tk})->f6 (gs prog w) A.in1 (ĥ S v) Q E s) :
  ∀k i s,n - i=k->i<=n->St i s->SP i s.heap->(∀b o,h0.get? b≈o->s.heap.get? b≈o) ->
   (∀a,Moved (S::wr) G s a->SP n a.heap->R (.ok (.ret .none)) a) ->
   Ry (gs prog w) A (.builtin "set.update.loop" ⟨[.ref S,.ref I],[]⟩) R s:=by
 have d:S∉wr:=λh=>t (W.sub _ h);have j:∀b∈wr,b∈S::wr:=λb f=>f7 _ f;intro k;induction k with
 |zero =>
  intro i s hk hi l m g p;have D:i=n:=⋯
  subst D;show tv Vs ?_;rw[Wu PK _];change f6 _ A.in1 (Tx (.ref I) >>= _) _ _ s;show cL (W.done s _ _ l λa c=>?_);change f6 _ A.in1 (ret oD) _ _ a;show dV (p a (c.mono j) (x _ _ _ m λ_ ho=>c.heap S _ d ho))
 |succ k H =>
  intro i s hk hi l m g p;have q:i<n:=⋯
  show tv Vs ?_;rw[Wu PK _];change f6 _ A.in1 (Tx (.ref I) >>= _) _ _ s;show cL (W.item i s _ _ q l λv a J L c=>?_);have y:∀b o,h0.get? b≈o->a.heap.get? b≈o:=λb o e=>c.heap b o (λz=>by rw[u b (j b z)]at e;cases e) (g b o e);change f6 _ A.in1 (KX [v] (ĥ S v) >>= _) _ _ a;show cL (tr (C i v a _ _ q J (x _ _ _ m λ_ ho=>c.heap S _ d ho) y λ_ h' tk B r N=>?_));show dV #[RP PK _,H (i+1) _ ⋯ q (W.frame _ a _ _ L B λb f o e=>?_) N (λb o e=>?_) λO T Y=>?_]
  .rw[r.2 b (λh:b=S=>t (by rw[<-h];show f))];show e
  .change h'.get? b≈o;rw[r.2 b (λh:b=S=>by rw[h,u S il]at e;cases e)];show y b o e
  .show p O (Å W.gtrans ((c.mono j).then_heap B λb o f e=>?_) T) Y;rw[r.2 b (λh:b=S=>f (by rw[h];show il))];show e
end
@[reducible]noncomputable def fI(w:wk):Bool:=!w.params.followText "set-order"
@[reducible]noncomputable def qG(a:Bool):Obj:={cls:=.type "set",dict:=cc,data:=.set #v[] 0 (.fresh 0 0 a)}
def jM{vs:↑g8}{SP:Nat->K2->Prop}
  (k:s.TypeIs (.ref l) T) (N:Vn (.type T) (.type "set")=pure cK) (O:Vn (.type T) (.type "frozenset")=pure cK) (N8:(Rz T==Rz "dict")=cK)
  (PB:∀h,h.get? ↥s≈qG (fI w)->SP 0 h) (OP:∀i h h',SP i h->(∀o,h.get? ↥s≈o->h'.get? ↥s≈o)->SP i h')
  (QM:∀B i v s1 Q E,B.units<=A.units+3->vs[i]?≈v->SP i s1.heap->(∀b o,s.heap.get? b≈o->s1.heap.get? b≈o)->(∀b h' tk,s1.toks<=tk->tA ↥s s1.heap h'->SP (i+1) h'->Q b {s1 with heap:=h',toks:=tk})->f6 (gs prog w) B (ĥ ↥s v) Q E s1)
  (m:∀s1 B f,B.handled=A.handled->(∀b o,s.heap.get? b≈o->s1.heap.get? b≈o)->↥s<↥s1 ->
   (∀I n p G P St a,Ĩ prog w B.in1 I n p G ⇑vs P St->(∀g g',G g g'->g'=g)->↥s∉n->(∀b∈p,↥s<b)->(∀i v,P i v->vs[i]?≈v)->St 0 {s1 with heap:=a}->(∀b o,s1.heap.get? b≈o->a.get? b≈o)->f (.ref I) {s1 with heap:=a})->f6 (gs prog w) B (Zk (.ref l)) f E s1)
  (h:∀h' tk,SP ⇑vs h'->(∀b o,b<↥s->s.heap.get? b≈o->h'.get? b≈o)->Q (.ref ↥s) {s with heap:=h',toks:=tk}) :
  f6 (gs prog w) A (Qt (.type "set") [.ref l]) Q E s:=by
 have(c,tl,Y):=F.called_set.mro;have t:=F.called_set.made;have Qk:=F.called_set.sub;show Z9 (XH ?_);change f6 _ _ (callAny (.type "set") _) _ _ _;show dV #[XW _ (by decide +kernel),tv F.entry_type_call ?_];rw[Around.under_plain (weight_type_call_type "set" [.ref l] []) rfl];have a:=F.called_set.notType;have h2:=F.called_set.canCreate;have ac:=F.typeCall_set_1 (.ref l)
 repeat (any_goals (first|assumption|wp_step))
 show Tz (oJ (.ref l) (E:=E) (Q₁:=λobj s₁=>obj=.ref ↥s/\s₁={s with heap:=s.heap.push (qG (fI w))}) ⟨rfl,rfl⟩) λr s₁ u=>?_;cases r with
 |error e=>show u
 |ok fl =>
  cases fl with
  |ret obj =>
   have(rfl,rfl):=u;have hS:(s.heap.push (qG (fI w))).get? ↥s≈qG (fI w):=gj _ rfl;have hT:Ē {s with heap:=s.heap.push (qG (fI w))} (.ref ↥s) "set":=#[_,hS,rfl]
   have al:=F.called_set.init.lookup;have am:=F.called_set.init.bind (.ref ↥s)
   repeat (any_goals (first|assumption|wp_step))
   show Tz (X' (R:=wants (λr s₂=>r=.none/\∃h' tk,s₂={s with heap:=h',toks:=tk} /\
     SP ⇑vs h' /\
     (∀b o,b<↥s->s.heap.get? b≈o->h'.get? b≈o)) E) F.called_set.init.plain F.entry_set_init (check_set_init_1 hT ?_)) λr₂ s₂ x=>?_
   .have(ol,T_,RM):=k;have(ab,VT,VU,Ua):=ol;simp only at RM;subst RM;have YM:(s.heap.push (qG (fI w))).get? l≈{cls:=.type T,dict:=VT,data:=VU,slots:=Ua}:=dt _ T_;have an:Ē {s with heap:=s.heap.push (qG (fI w))} (.ref l) T:=#[_,YM,rfl]
    unfold RA.«set.__init__» noKeywords Ė;generalize y:Zk=PI
    wp_walk
    subst y;show m {s with heap:=s.heap.push (qG (fI w))} _ _ rfl (λb o e=>dt _ e) (by rw[YL];show TK _) λI n p G P St a W hG hf d YN NF hk=>?_;show cL (X_ ?_);show AV W hf (SP:=SP) (h0:=s.heap) (λb hb=>?_) OP (λi v s2 f E' _ hv=>QM _ i v s2 f E' ?_ (YN i v hv)) (⇑vs - 0) 0 _ ⋯ (kj _) NF (PB _ (hk _ _ hS)) (λb o e=>hk _ _ (dt _ e)) ?_
    .have C:↥s<=b:=by
      rcases eT.mp hb with z|z
      .show UL z.symm
      .show Q' (d b z)
     cases q:s.heap.get? b with
     |none=>rfl
     |some o=>show absurd (hW q) (Nat.not_lt_of_le C)
    .show hY _
    intro s' j D;have(h',g',d',H,Yb):=s';have eg:g'=s.gens:=hG _ _ j.gens;have ed:d'=s.drawn:=j.drawn;have eo:Yb=s.os:=j.os;subst eg;subst ed;subst eo;change f6 _ _ _ _ _ _;show dV ?_;change f6 _ _ (ret oD) _ _ _;show dV #[rfl,h',H,rfl,D,λb o J e=>?_];show j.heap b o (λz=>by
     rcases eT.mp z with z|z
     .rw[z]at J;show sP _ J
     .show absurd (d b z) (Nat.not_lt_of_lt J)) (hk _ _ (dt _ e))
   .cases r₂ with
    |error e=>show x
    |ok L =>
     cases L with
     |ret r =>
      have(rfl,h',tk,rfl,D,OU):=x
      repeat (any_goals (first|assumption|wp_step))
      show h _ _ D OU
     |_=>show x.elim
  |_=>show u.elim
theorem xf:∀{vs}{ss},V_ vs ss->∀(i:Nat) v,vs[i]?≈v->∃x t,ss[i]?≈x/\v=.str x t
 |_,_,.nil,i,v,h=>by simp at h
 |_,_,.cons x t h,0,v,e=>by simp at e;show#[x,t,rfl,e.symm]
 |_,_,.cons x t h,i+1,v,e=>by show xf h i v e
theorem sI:∀{vs}{ss},V_ vs ss->⇑vs=⇑ss
 |_,_,.nil=>rfl
 |_,_,.cons x t h=>by simp[sI h]
def xg(a:n≠S)(b:n≠l):n∉[S,l]:=by simp[a,b]
def qH{vs:↑g8}{SP:Nat->K2->Prop}(k:A.handled=cc)(hl:s.heap.IsList l vs.toArray\/s.heap.IsTuple l vs.toArray)
  (m:∀h,h.get? ↥s≈qG (fI w)->SP 0 h) (n:∀i h h',SP i h->(∀o,h.get? ↥s≈o->h'.get? ↥s≈o)->SP i h')
  (p:∀B i v s1 Q E,B.units<=A.units+3->vs[i]?≈v->SP i s1.heap->(∀b o,s.heap.get? b≈o->s1.heap.get? b≈o)->(∀b h' tk,s1.toks<=tk->tA ↥s s1.heap h'->SP (i+1) h'->Q b {s1 with heap:=h',toks:=tk})->f6 (gs prog w) B (ĥ ↥s v) Q E s1)
  (h:∀h' tk,SP ⇑vs h'->(∀b o,b<↥s->s.heap.get? b≈o->h'.get? b≈o)->Q (.ref ↥s) {s with heap:=h',toks:=tk}) :
  f6 (gs prog w) A (Qt (.type "set") [.ref l]) Q E s:=by
 have q:vs.toArray.size=⇑vs:=rfl;rcases hl with hl|hl
 .have c:l<↥s:=let ⟨o,ho,_⟩:=hl;hW ho;show jM hl.typeIs F.sub_list_set F.sub_list_frozenset ⋯ m n p (λs1 B t d hk a f=>?_) h;have QX:s1.heap.IsList l vs.toArray:=let ⟨o,ho,r⟩:=hl;⟨o,hk _ _ ho,r⟩;have W:=(ŋ (prog:=prog) (w:=w) (A:=B.in1) (by simp[d,k]) ↥s1 l (i9 (Yq c a)) vs.toArray).toS;rw[q]at W;show VZ QX (f _ _ _ _ _ _ _ W (λ_ _ e=>e) (xg (i9 a) (DD c)) (λb g=>by rw[kr.mp g];show a) (λi v j=>by exists j) ⟨⟨_,gj _ rfl,rfl,rfl⟩,QX.push _⟩ λb o e=>dt _ e)
 .have c:l<↥s:=let ⟨o,ho,_⟩:=hl;hW ho;show jM hl.typeIs sub_tuple_set sub_tuple_frozenset ⋯ m n p (λs1 B t d hk a f=>?_) h;have QX:s1.heap.IsTuple l vs.toArray:=let ⟨o,ho,r⟩:=hl;⟨o,hk _ _ ho,r⟩;have W:=(Walks.tuple (prog:=prog) (w:=w) (A:=B.in1) (by simp[d,k]) ↥s1 l (i9 (Yq c a)) vs.toArray).toS;rw[q]at W;show Sf QX (f _ _ _ _ _ _ _ W (λ_ _ e=>e) (xg (i9 a) (DD c)) (λb g=>by rw[kr.mp g];show a) (λi v j=>by exists j) ⟨⟨_,gj _ rfl,rfl,rfl⟩,let ⟨o,ho,r⟩:=QX;⟨o,dt _ ho,r⟩⟩ λb o e=>dt _ e)
def jN(c:A.handled=cc)(hl:s.heap.IsList l vs.toArray\/s.heap.IsTuple l vs.toArray)(a:V_ vs ys)(p:⇑ys+1<SS)
  (h:∀h' tk,jL prog w h' ↥s (fI w) (bX ys)->(∀b o,b<↥s->s.heap.get? b≈o->h'.get? b≈o)->Q (.ref ↥s) {s with heap:=h',toks:=tk}) :
  f6 (gs prog w) A (Qt (.type "set") [.ref l]) Q E s:=by
 show qH (SP:=λi h=>jL prog w h ↥s (fI w) (bX (ys.take i))) c hl (λh e=>vg e) (λi h h' x k=>x.at k) (λB i v s1 Q E _ d f _ q=>?_) λh' tk x k=>h h' tk (by rwa [sI a,Ą]at x) k;have(x,t,g,rfl):=xf a i v d;unfold ĥ;show tr (cL ((sK prog w).pyHash (k:=x) (by rw[xb];simp) ?_));have j:⇑(bX (ys.take i))+1<SS:=by have:=vf (ys.take i);rw[VM]at this;lia
 show vb (s:={s1 with toks:=s1.toks+1}) f j λh' m n=>q _ h' _ (ä _) m ?_;rw[þ,g];change jL prog w h' _ _ (bX (ys.take i++[x]));rw[sH];show n
namespace SI
end SI
def qI(g:X.calm=b6)(I:Inv X pins σ H s)(hq:N_ X.K H p (ys.map V.str)\/Oi X.K H p (ys.map V.str))(d:⇑ys+1<SS)
  (h:∀S h' tk,jL X.prog X.w h' S (fI X.w) (bX ys)->Inv X pins σ H {s with heap:=h',toks:=tk}->Q (.ref S) {s with heap:=h',toks:=tk}) :
  ‹X› (Qt (.type "set") [.ref p]) Q X.xe s:=by
 have f:X.A.handled=cc:=I.ok.hd g;rcases hq with hq|hq
 .have(i,rv,a,hz):=I.list hq;show jN f (.inl a.isList) (eV rv) d λh' tk c k=>h _ h' tk c (I.kept λb o e=>k b o (hW e) e)
 .have(i,rv,a,hz):=I.tuple hq;show jN f (.inr a) (eV rv) d λh' tk c k=>h _ h' tk c (I.kept λb o e=>k b o (hW e) e)
def vh(I:Inv X pins σ H s)(b:jL X.prog X.w s.heap S (fI X.w) D)
  (q:Q (.int ⇑D) H):‹X› (Qt (.builtin "len") [.ref S]) (EP X pins σ Q) X.xe s:=by
 have(L,es,ep,t,ho,c,d,h,f,g,i,j):=b;have a:es.size=⇑D:=by rw[<-p7,c,ei,<-ei  ,d.length_eq]
 have k:es.size<4096:=g;show call_len_set ho #[rfl,rfl,rfl] rfl f ⋯ ?_;show#[.int _,_,I.kept  (λ_ _ e=>e),#[_,rfl],by rw[a];show q]
section
open AutoSeq1 (wpAny_loadPart') in
end
end L2
namespace L2
open PySem PySem.Spec PyProof.Rows
def jO(a:s.heap.IsTupleIter it l i)
  (hl:s.heap.IsTuple l b) (d:b[i]?≈x)
  (e:∀h',h'.IsTupleIter it l (i+1)->tA it s.heap h'->Q x {s with heap:=h' }) :
  f6 (gs prog w) A (R' (.ref it)) Q E s:=by
 have(o,ho,f,c):=id a;have(j,g,_,k,h):=hl;show cL (tj  a.typeIs F.slot_tuple_iterator_next
  (ti F.slot_tuple_iterator_next a.typeIs F.entry_tuple_iterator_next ?_ (F.args_tuple_iterator_next_1 _)))
 change f6 _ _ (Ŧ _ 0 >>= _) _ _ s;show cL (p9 ho c (x:=.ref l) rfl ?_);show cL (p9 ho c  rfl ?_);show cL (Z8 g h ?_);erw[Sq,d];show cL (y9 ho c ⋯ (dV #[x,rfl,dV (e _ ?_ (wh ..))]));show#[_,ro _ ho (SX (K1 c _)),(Yk ..).trans f,by
  rw[K1 c];rfl]
def fJ(f:A.handled=cc)
  (b:s.heap.IsTupleIter it l i) (hl:s.heap.IsTuple l c) (g:c[i]?=cc)
  (h:∀h' e,WC it s.heap h'->(∃o,h'.get? e≈o/\o.cls=.type "StopIteration")->E (.ref e) {s with heap:=h' }) :
  f6 (gs prog w) A (R' (.ref it)) Q E s:=by
 have(o,ho,n,d):=id b;have(p,j,_,q,k):=hl;show cL (tj  b.typeIs F.slot_tuple_iterator_next
  (ti F.slot_tuple_iterator_next b.typeIs F.entry_tuple_iterator_next ?_ (F.args_tuple_iterator_next_1 _)))
 change f6 _ _ (Ŧ (.ref it) 0 >>= _) _ _ s;show cL (p9 ho d (x:=.ref l) rfl ?_);show cL (p9 ho d  rfl ?_);show cL (Z8 j k ?_);erw[Sq,g];show cL (P_ (cL (y9 ho d ⋯ ?_)));show cL ?_;show cL (m:=Á _ _) (z8 (a:=oD) (by rfl) ?_);show pj ?_ (by size_fits);show cL (Ø ?_)
 first|rw[f]|rw[f]
 show cL (dV (ċ ?_));show h _ _ (((wh ..).extBut.push _).push _) #[_,gj _ rfl,rfl]
def sJ(c:A.handled=cc)(it l)(d:l≠it)(a):
  Draws prog w A it [it,l] a.size (λi v=>a[i]?≈v) (λi h=>h.IsTupleIter it l i/\h.IsTuple l a) where
 live:=λ_ _ st=>let ⟨o,ho,_⟩:=st.1;⟨o,ho⟩
 frame:=λ_ _ _ st hk=>#[st.1.at λo e=>hk it ⋯ o e,let ⟨o,ho,r⟩:=st.2;⟨o,hk l ⋯ o ho,r⟩]
 item:=λi s Q E hi st f=>by
  show jO st.1 st.2 (x:=a[i]) ⋯ λh' g b=>?_;show f _ h' _ (by simp[]) #[g,let ⟨o,ho,r⟩:=st.2;⟨o,(b.2 l d).trans ho,r⟩] b
 done:=λs Q E st j=>fJ c st.1 st.2 ⋯ j
open AutoSeq1 (wpAny_loadPart') in
def m8(l)(a)(n)(e)(f):
  Meets (RA.«enumerate.__new__» ⟨[.type "enumerate",.ref l],[]⟩) (λ_ R s=>s.heap.get? l≈{cls:=.type "tuple",dict:=e,data:=.seq a n,slots:=f} /\
   R (.ok (.ret (.ref (s.heap.push {cls:=.type "tuple_iterator",data:=.fields #v[.ref l,.int 0 0]}).objs.size)))
    {s with heap:=(s.heap.push {cls:=.type "tuple_iterator",data:=.fields #v[.ref l,.int 0 0]}).push {cls:=.type "enumerate",data:=.fields #v[.none,.bool cK,.ref ↥s,Tv 0,.none,.none]}}) :=
 .of_wp λprog w A R s h=>by
  have(i,g,d,tk,os):=s;have(hl,h):=h;have j:=sub_enumerate;have b:Heap.IsTuple _ l a:=#[_,hl,rfl,n,rfl]
  wp_walk using XD hl
  show wpAny_stack_any λst=>dV ?_;split
  .rename_i c _ _ _ _ _;cases(c==Rz "enumerate")
   .wp_walk using XD hl,Sf b
    show#[_,rfl,h]
   .wp_walk using XD hl,Sf b
    show#[_,rfl,h]
  .wp_walk using XD hl,Sf b
   show#[_,rfl,h]
def gQ(g:s.heap.IsTuple l a)
  (h:∀h',ô h' (↥s+1) ↥s 0 .none->h'.IsTupleIter ↥s l 0->h'.objs.size=↥s+2 ->
   (∀b o,s.heap.get? b≈o->h'.get? b≈o)->Q (.ref (↥s+1)) {s with heap:=h' }) :
  f6 (gs prog w) A (Qt (.type "enumerate") [.ref l]) Q E s:=by
 have((c,i,j,k),hl,d,n,e):=g
 replace d:c=.type "tuple":=d
 replace e:j=.seq a n:=e
 subst d e;show callType_new F.called_enumerate ⋯ (F.typeCall_enumerate_1 _) (F.newCall_enumerate_1 _) (λobj=>F.args_object_init_2 obj _) F.entry_enumerate_new
  (m8 l a n i k) #[hl,?_]
 have hz:(s.heap.push {cls:=.type "tuple_iterator",data:=.fields #v[.ref l,.int 0 0]}).objs.size=↥s+1:=QD ..;change _/\_;rw[hz];have f:ô ((s.heap.push {cls:=.type "tuple_iterator",data:=.fields #v[.ref l,.int 0 0]}).push
   {cls:=.type "enumerate",data:=.fields #v[.none,.bool cK,.ref ↥s,Tv 0,.none,.none]}) (↥s+1) ↥s 0 .none:=by
  have:=gj (s.heap.push {cls:=.type "tuple_iterator",data:=.fields #v[.ref l,.int 0 0]})
   (o:={cls:=.type "enumerate",data:=.fields #v[.none,.bool cK,.ref ↥s,Tv 0,.none,.none]}) rfl
  rw[hz]at this;show this
 show#[#[_,f,rfl],h _ f #[_,dt _ (gj _ rfl),rfl,rfl] (by rw[QD,hz]) λb o x=>dt _ (dt _ x)]
end L2
namespace L2
open PySem PySem.Spec PyProof.Rows
def Inv.xh{ch:↑hH}(I:Inv X pins σ H s)(d:∀b∈ch,gL X pins H b)(k:∀b o,b∉ch->s.heap.get? b≈o->h'.get? b≈o):Inv X pins σ H {s with heap:=h',toks:=t' }:=by
 have f:∀b u,H b≈u->b∉ch:=λb u e z=>by rw[(d b z).1]at e;cases e
 show I.step    (λb g=>?_) (λb o _ _ a e _=>k b o a e) (λb o _ _ a e _=>#[_,k b o a e]) (λ_ _ _ _ n=>n)
  (λb o a e=>#[o,k b o a e]) (λ_ _ e=>e) (λ_ _ _ e=>e) (λb ps e=>#[#v[],by simp_all]) (λm h=>?_) (λb u e=>?_) I.bare
 .have(t,i,w,j,l,p):=d b g;show#[j,i,l,p]
 .have(o,es,ep,ho,r):=h;show#[o,es,ep,k _ o (λz=>(d _ z).2.1 rfl) ho,r]
 .show(I.Ny b u e).lP (λc v a q=>k c v ?_ q) (λ_ q=>q) λ_ _ q=>q;rcases a with z|z
  .rw[z];show f b u e
  .show f c _ z
def Inv.vi{ch:↑hH}(I:Inv X pins σ H s)(g:∀b∈ch,gL X pins H b)(k:∀b o,b∉ch->s.heap.get? b≈o->h'.get? b≈o)(h:↥s<=T)(new:cF X.prog X.w (upd H T o) h' T o):
  Inv X pins σ (upd H T o) {s with heap:=h',toks:=t' }:=by
 have i:Inv X pins σ H {s with heap:=h',toks:=t' }:=I.xh g k;have hn:H T=cc:=I.Ny.fresh h;have j:∀b o,s.heap.get? b≈o->b≠T:=λb o e z=>by rw[z]at e;show absurd (jn (hW e) h) (sP _)
 have a:∀b u,H b≈u->b≠T:=λb u e z=>by simp_all
 show I.step   (ch:=ch) (λb f=>?_) (λb o _ _ d e _=>k b o d e) (λb o _ _ d e _=>#[o.slots,k b o d e]) (λb o _ e n=>by rw[ai (j b o e)];show n)
  (λb o d e=>#[o,k b o d e]) (λb _ e=>by rw[ai (a b _ e)];show e) (λb _ _ e=>by rw[ai (a b _ e)];show e) (λb ps e=>#[#v[],by rw[ai (a b _ e),e];simp]) (λm l=>?_) (λb u e=>?_) I.bare
 .have(A,p,B,t,x,y):=g b f;show#[t,p,x,y]
 .have(o,es,ep,ho,r):=l;show#[o,es,ep,k _ o (λz=>(g _ z).2.1 rfl) ho,r]
 .by_cases f:b=T
  .subst f;rw[aj]at e;simp_all
  .rw[ai f]at e;show(i.Ny b u e).lP (λc v _ q=>q) (λc q=>by rw[ai (a c _ q)];show q) λc xs q=>by rw[ai (a c _ q)];show q
abbrev U0(a:Hp->↑V->Prop):It :=
 #[λi H=>∃xs x,a H xs/\xs[i]?≈x,λi H x H'=>∃p,H p=cc/\x=.ref p/\∀xs v,a H xs->xs[i]?≈v->H'=upd H p (.tup [.int i,v]),λi H=>∃xs,a H xs/\⇑xs<=i]
def pv{K}(r)(a e it)(L:e≠it)(At:Nat->K2->Prop)(t:K2->Array g8->Prop)
  (OP:∀i h h',At i h->(∀o,h.get? it≈o->h'.get? it≈o)->At i h') (l:∀i h,At i h->∃o,h.get? it≈o/\∀v,o.data≠.cell v)
  (W6:∀X pins s σ H xs,X.K=K->Inv X pins σ H s->r H xs->∃j,Vals xs j/\t s.heap j.toArray)
  (YQ:∀X pins s σ H xs ys,X.K=K->Inv X pins σ H s->r H xs->r H ys->xs=ys)
  (Sn:∀h c i d,t h c->ô h e it i d->e≠a)
  (hD:∀A c,A.handled=cc->Draws P w A it [it,a] c.size (λi v=>c[i]?≈v) (λi h=>At i h/\t h c))
  (Sg:∀A s i c Q E,A.handled=cc->At i s.heap->t s.heap c->c[i]?=cc ->
   (∀h' x,WC it s.heap h'->(∃o,h'.get? x≈o/\o.cls=.type "StopIteration")->E (.ref x) {s with heap:=h' })->f6 (gs P w) A (R' (.ref it)) Q E s) :
  Turn P w K (.Tuple es kx ps) (U0 r) [e,it] e (λi h=>(∃d,ô h e it i d)/\At i h) where
 mem:=⋯
 obj:=λi h st b f=>by
  have((d,g),hl):=st;rcases eT.mp f with z|z
  .rw[z];simp_all
  .rw[kr.mp z];show l i h hl
 keep:=λi h h' ⟨⟨d,g⟩,hl⟩ k=>#[#[d,k e ⋯ _ g],OP i h h' hl λo q=>k it ⋯ o q]
 item:=by
  intro X N O B Y i pins s σ H E I C ⟨⟨d,g⟩,hl⟩ hg;subst N O;have(xs,x,G,hx):=hg;have(j,rv,p):=W6 X pins s σ H xs B I G;have(u,hu,ru):=rv.get hx;have Og:i<j.toArray.size:=by simpa using(eH.mp hu).1
  have D:=hD X.A.in1 j.toArray (by exists I.ok.hd Y);have YR:=Sn _ _ _ _ p g;show wpAny_pyNext_enum_itemD D g #[hl,p] Og L (by simp[L,YR]) λy h1 tk hy ho st1 J hsz hk=>?_;have ey:y=u:=by
   simp_all
  subst ey;show#[_,rfl,wpAny_letOwnedTupleGo_enum (s:={s with heap:=h1,toks:=tk+1}) ho λm ab Qf=>?_];have n:e<↥s:=hW g;have ac:m.get? ↥s≈{cls:=.type "tuple",data:=.seq #v[.int i tk,y]}:=(Qf.2 _ (DD n)).trans J;have k2:∀b o,b∉[e,it]->s.heap.get? b≈o->m.get? b≈o:=λb o f q=>by
   erw[eT,ą,or_false,not_or]at f;show(Qf.2 b f.1).trans (hk b o f.1 f.2 q)
  have I2:Inv X pins σ (upd H ↥s (.tup [.int i,x])) {s with heap:=m,toks:=tk+1}:=I.vi C k2 (hY _)
   (show cF X.prog X.w _ m _ (.tup [.int i,x]) from#[by change 2<=c8;decide,[.int i tk,y],.cons #[tk,rfl] (.cons ru .nil),#[_,ac,rfl,_,rfl]])
  show#[.ref ↥s,_,I2,rfl,#[_,I.Ny.fresh (hY _),rfl,λys v hy hv=>?_],#[#[_,ab],OP (i+1) h1 m st1.1 λo q=>(Qf.2 it (mh L)).trans q],λb f=>?_]
  .have:=YQ X pins s σ H ys xs B I hy G;subst this;rw[hx]at hv;cases hv;rfl
  .have QC:b≠↥s:=by
    rcases eT.mp f with z|z
    .rw[z];show i9 n
    .rw[kr.mp z];have(o,q,_):=l i _ hl;show i9 (hW q)
   rw[ai QC];show(C b f).1
 done:=by
  intro X N O B Y i pins s σ H E I C ⟨⟨d,g⟩,hl⟩ hg;subst N O;have(xs,G,hx):=hg;have(j,rv,p):=W6 X pins s σ H xs B I G;have al:=⇑rv;have J:s.TypeIs (.ref e) "enumerate":=#[_,g,rfl]
  unfold Tx;show cL (UA (tj (name:=UG "__next__") J F.slot_enumerate_next
   (ti F.slot_enumerate_next J F.entry_enumerate_next ?_ (F.args_enumerate_next_1 _))))
  change f6 _ _ (Ŧ (.ref e) 2 >>= _) _ _ _;show cL (p9 g rfl (x:=.ref it) rfl ?_);show cL (Sg _ _ i j.toArray _ _ (by exists I.ok.hd Y) hl p ⋯ λh' x YS Yv=>?_);have(o,ho,RM):=Yv;show cL (Uv (T:="StopIteration") (b:=b6) #[o,ho,RM] À ?_);show dV #[rfl,I.xh (t':=s.toks) (ch:=[it]) (λb f=>C b (f7 _ f)) λb o f q=>YS b o (λz=>f (by simp[z])) q]
 self:=λA i s Q E ⟨⟨d,g⟩,hl⟩ h=>YW g h
section
variable{X:Cx}{es:List jw}{kx:Nat}{ps p pos:Pos}
def yK:so "enumerate"≈.type "enumerate":=by rfl
abbrev MX(K:W.Frag)(c:TA):TI:=λσ H R=>c σ H λvs b=>∃a,vs=[.ref a]/\((∃xs,N_ K b a xs)/\R (U0 λH xs=>N_ K H a xs) b\/(∃xs,Oi K b a xs)/\R (U0 λH xs=>Oi K H a xs) b)
def HR(a e it)(m:e≠it)(n:a≠it):Turn X.prog X.w X.K (.Tuple es kx ps) (U0 λH xs=>N_ X.K H a xs) [e,it] e (λi h=>(∃c,ô h e it i c)/\h.IsListIter it a i):=by
 show pv _ a e it m _ _ (λi h h' x k=>x.at k) (λi h ⟨o,ho,q,y⟩=>#[o,ho,λv z=>by simp_all])
  (λY pins s σ H xs f I j=>?_) (λY pins s σ H xs ys f I d l=>?_) (λh b i c ⟨o,ho,q,_⟩ B z=>?_) (λA b g=>Draws.list g it a n _) (λA s i b Q E g hl r d t=>wpAny_nextOf_list_end g hl r d t)
 .rw[<-f]at j;have(u,rv,p,hz):=I.list j;show#[u,rv,p.isList]
 .rw[<-f]at d l;show I.mO d l
 grind
def HS(a e it)(m:e≠it)(n:a≠it):Turn X.prog X.w X.K (.Tuple es kx ps) (U0 λH xs=>Oi X.K H a xs) [e,it] e (λi h=>(∃c,ô h e it i c)/\h.IsTupleIter it a i):=by
 show pv _ a e it m _ _ (λi h h' x k=>x.at k) (λi h ⟨o,ho,q,y⟩=>#[o,ho,λv z=>by simp_all])
  (λY pins s σ H xs f I j=>?_) (λY pins s σ H xs ys f I d l=>?_) (λh b i c ⟨o,ho,q,_⟩ B z=>?_) (λA b g=>sJ g it a n _) (λA s i b Q E g hl r d t=>fJ g hl r d t)
 .rw[<-f]at j;have(u,rv,p,hz):=I.tuple j;show#[u,rv,p]
 .rw[<-f]at d l;show I.oV d l
 grind
def D7(m:Gl X "enumerate")(n:X.mg "enumerate"=cc)(t:PA X [a] v)(hs:i0 [a] X.env=[(cK,p8 a X.env)]):PI X (.Tuple es kx ps) (.Call (.Name "enumerate" p) [a] [] pos) (MX X.K v):=by
 intro pins s σ H R I h;show Call_ (dC I m n yK (x8 (ND (t pos pins s σ H _ I h) λus s1 ⟨vs,i,c,w,x⟩=>?_) hs rfl));have(a',e,q):=x;subst e;have(u,rfl,r):=vals1 w;cases r;have d:↥s1+1≠↥s1:=Nat.succ_ne_self _;have f:∀(h':K2),(∀b∈[↥s1+1,↥s1],gL X pins i b):=λh' b y=>by
  have l:↥s1<=b:=by
   rcases eT.mp y with z|z
   .simp_all
   simp_all
  show c.yq l (c.Ny.fresh l)
 rcases q with⟨⟨xs,j⟩,q⟩|⟨⟨xs,j⟩,q⟩
 .have(A,rv,p,hz):=c.list j;have k:=let ⟨o,ho,_⟩:=p.isList;hW ho;show call_enumerate_list p.isList λh' g hl hsz hk=>?_;show YW g #[_,_,_,_,i,rfl,c.kept  hk,HR a' _ _ d (i9 k),#[#[_,g],hl],f h',q]
 .have(A,rv,p,hz):=c.tuple j;have k:=let ⟨o,ho,_⟩:=p;hW ho;show gQ p λh' g hl hsz hk=>?_;show YW g #[_,_,_,_,i,rfl,c.kept  hk,HS a' _ _ d (i9 k),#[#[_,g],hl],f h',q]
end
def D8{b:↑g8}(h:ľ (λi v=>b.toArray[b.toArray.size - 1 - i]?≈v) a b.toArray.size):a.toList=b.reverse:=by
 apply ā;intro i;have hs:a.size=⇑b:=by have:=h.1;exists this
 by_cases hi:i<⇑b
 .have c:i<a.size:=⋯
  have:=h.2 i (a[i]'c) (by simp[c]);rw[Z5,Zb c,List.getElem?_reverse hi];exists this.symm
 .rw[Î (by rw[p7];lia),Î (by rw[List.length_reverse];lia)]
def yL(l)(a)(n)(b)(c)(d)(dd)(e)(j:¬(!a.isEmpty&&u5 (a.size+c.size))=b6)(f:a.size<=c8)(k:a.size+c.size<=c8+1):
  Meets (RA.«list.extend» ⟨[.ref l,.ref b],[]⟩) (λ_ R s=>s.heap.get? l≈{cls:=.type "list",dict:=cc,data:=.seq a n,slots:=#v[]}/\s.heap.get? b≈{cls:=.type "list",dict:=dd,data:=.seq c d,slots:=e}/\R (.ok (.ret oD)) {s with heap:=s.heap.update l (rD λx=>x++c),toks:=s.toks}) :=
 .of_wp λprog w A R s h=>by
  have(hl,g,h):=h;have m:=Ñ;have i:(a++c).size<=c8+1:=⋯
  wp_walk using(XC hl rfl (hz:=f) (_hz':=i)),Q1 hl,Q1 g;show#[_,rfl,h]
def yM(l)(a)(n)(b)(c)(d)(dd)(e)(j:¬(!a.isEmpty&&u5 (a.size+c.size))=b6)(f:a.size<=c8)(k:a.size+c.size<=c8+1):
  Meets (RA.«list.extend» ⟨[.ref l,.ref b],[]⟩) (λ_ R s=>s.heap.get? l≈{cls:=.type "list",dict:=cc,data:=.seq a n,slots:=#v[]}/\s.heap.get? b≈{cls:=.type "tuple",dict:=dd,data:=.seq c d,slots:=e}/\R (.ok (.ret oD)) {s with heap:=s.heap.update l (rD λx=>x++c),toks:=s.toks}) :=
 .of_wp λprog w A R s h=>by
  have(hl,g,h):=h;have m:=Ñ;have i:(a++c).size<=c8+1:=⋯
  wp_walk using(XC hl rfl (hz:=f) (_hz':=i)),Q1 hl,Q1 g;show#[_,rfl,h]
def vj:WW X "list.extend" (λx vs H Q=>∃l b xs zs,x=.ref l/\vs=[.ref b]/\H l≈.lst xs/\(N_ X.K H b zs\/Oi X.K H b zs)/\⇑xs+⇑zs<=c8/\Q .Nz (upd H l (.lst (xs++zs)))):=by
 intro pins s σ H x vs v us Q I w rv h;have(l,b,xs,zs,rfl,rfl,p,hB,hz,q):=h;cases w;have(u,rfl,y):=rv.one;cases y;have(z,i,n,r,hl,e):=I.DY p;have d:∀a ,Vals zs a->EP X pins σ Q oD {s with heap:=s.heap.update l (rD λx=>x++a.toArray),toks:=s.toks}:=λa c=>by
  show#[.Nz,_,I.jg  p e ⋯ (r.append c) ?_,rfl,q];rw[mx];lia
 have j:∀a:↑g8,⇑zs=⇑a->i.toArray.size+a.toArray.size<=c8:=λa h=>by simp_all
 have t:∀a:↑g8,⇑zs=⇑a->¬(!i.toArray.isEmpty&&u5 _)=b6:=λa h=>by
  rw[AD (j a h),Y9];simp
 rcases hB with hB|hB
 .have(a,c,k,_):=I.list hB;have((cls,dd,data,m),ho,f,o,g):=k.isList;simp only at f g;subst f g;have Qy:=⇑c;have A:=j a Qy;show Rn ĕ #[_,e,rfl] ă (ö _ _) (yL l i.toArray n b _ o dd m (t a Qy) ⋯ ⋯) #[e,ho,d a c]
 .have(a,c,k,_):=I.tuple hB;have((cls,dd,data,m),ho,f,o,g):=k;simp only at f g;subst f g;have Qy:=⇑c;have A:=j a Qy;show Rn ĕ #[_,e,rfl] ă (ö _ _) (yM l i.toArray n b a.toArray o dd m (t a Qy) ⋯ ⋯) #[e,ho,d a c]
def kA:Manifest.owners.lookup (String.ofList ['d','e','s','r','e','v','e','r'].reverse)≈Manifest.sig_reversed:=by rfl
def cY:ō "reversed" "__next__" "reversed.__next__" :=
 .of (owner:="reversed") (n:="__next__") (by rfl) (by decide +kernel) (by decide +kernel) (by rfl) (by first|show .inl (by decide +kernel)|show .inr (by decide +kernel)) (by rfl)
def gR:Ď table "reversed.__next__"≈RA.«reversed.__next__»:=ŉ (by rfl)
def iZ(a):î "reversed.__next__" ⟨[a],[]⟩:=by
 unfold î;rw[Ù  (n:=['_','_','t','x','e','n','_','_'])  (by kernel_rfl) kA];rfl
def i_:ō "reversed" "__iter__" "reversed.__iter__" :=
 .of (owner:="reversed") (n:="__iter__") (by rfl) (by decide +kernel) (by decide +kernel) (by rfl) (by first|show .inl (by decide +kernel)|show .inr (by decide +kernel)) (by rfl)
def m9:Ď table "reversed.__iter__"≈RA.«dict_keyiterator.__iter__» :=
 entryFor_alias (id':="dict_keyiterator.__iter__") (by kernel_rfl) (by rfl) (by decide +kernel) (by rfl)
def oK(a):î "reversed.__iter__" ⟨[a],[]⟩:=by
 unfold î;rw[Ù  (n:=['_','_','r','e','t','i','_','_'])  (by kernel_rfl) kA];rfl
def fA:ō "reversed" "__length_hint__" "reversed.__length_hint__" :=
 .of (owner:="reversed") (n:="__length_hint__") (by rfl) (by rfl) (by decide +kernel) (by decide +kernel) (by first|show .inl (by decide +kernel)|show .inr (by decide +kernel)) (by rfl)
def m_:Ď table "reversed.__length_hint__"≈RA.«reversed.__length_hint__»:=ŉ (by rfl)
def oM(a):î "reversed.__length_hint__" ⟨[a],[]⟩:=by
 unfold î;rw[Ù  (n:=['_','_','t','n','i','h','_','h','t','g','n','e','l','_','_'])  (by kernel_rfl) kA];rfl
def vk:WX (.type "reversed") "__len__"=pure cc:=by rw[ř,Ă];rfl
def qJ:WX (.type "tuple") "__reversed__"=pure cc:=by rw[ř,Ă];rfl
def oN:Vn (.type "tuple") (.type "dict")=pure cK:=by rw[Z'];rfl
def oO:ō "reversed" "__init__" "object.__init__" :=
 .of (owner:="object") (n:="__init__") (by rfl) (by decide +kernel) (by decide +kernel) (by rfl) (by first|show .inl (by decide +kernel)|show .inr (by decide +kernel)) (by rfl)
def jm:TypeCalled "reversed" "reversed.__new__" "object.__init__" :=
 #[by rfl,F.create_reversed,#[_,_,F.mro_reversed],F.made_reversed,F.plain_reversed_new,F.sub_reversed_self,oO]
abbrev sM(l:hH)(i:Int):Obj:={cls:=.type "reversed",data:=.fields #v[.ref l,Tv i]}
abbrev gG(h:K2)(a l:hH)(i:Int):Prop:=∃o,h.get? a≈o/\o.cls=.type "reversed"/\o.data=.fields #v[.ref l,Tv i]
def gG.typeIs{s:i4}(x:gG s.heap a l i):s.TypeIs (.ref a) "reversed":=let ⟨o,ho,b,_⟩:=x;⟨o,ho,b⟩
def gG.at(x:gG h a l i)(e:∀o,h.get? a≈o->h'.get? a≈o):gG h' a l i:=let ⟨o,ho,r⟩:=x;⟨o,e _ ho,r⟩
section
def D9(hl:Yt s.heap l b)(hz:b.size<=c8)
  (h:Q (.ref ↥s) {s with heap:=s.heap.push (sM l ((b.size:Int) - 1)),toks:=s.toks+2}) :
  Ry (gs prog w) A (.call (.builtin "reversed.__new__") #[[.type "reversed",.ref l],[]]) (wants Q E) s:=by
 have c:c8<2 ^ 60:=⋯
 show XH ?_;show cL (z8 (F.newCall_reversed_1 _) (dV #[RP F.plain_reversed_new _,tv F.entry_reversed_new ?_]));show cL (z8 (newClass_reversed _) ?_)
 try dsimp only
 show cL (z8 (a:=()) (by rfl) ?_);show cL (z8 (a:=()) (by rfl) ?_)
 try dsimp only
 show cL (R4 hl.typeIs qJ ?_)
 try dsimp only
 show cL ?_
 wp_delta
 show cL (Uv hl.typeIs oN ?_);rw[Ŷ ⋯];show cL (R4 hl.typeIs slot_tuple_getitem.lookup ?_)
 try dsimp only
 rw[ŵ ⋯];show dV ?_;rw[Ŷ ⋯];show cL (Œ hl ⋯ ?_);show cL (dV ?_);change f6 _ _ (newObj (.type "reversed") (.fields #v[.ref l,Tv ((b.size:Int) - 1)]) >>= _) _ _ _;show cL (pj (dV h) (by size_fits))
def AW(hl:Yt s.heap l a)(hz:a.size<=c8)
  (h:Q (.ref ↥s) {s with heap:=s.heap.push (sM l ((a.size:Int) - 1)),toks:=s.toks+2}):f6 (gs prog w) A (Qt (.type "reversed") [.ref l]) Q E s:=by
 show Ũ (Q₁:=λobj b=>obj=.ref _/\b={s with heap:=s.heap.push _,toks:=s.toks+2}) jm (F.typeCall_reversed_1 _) F.entry_object_init (D9 hl hz #[rfl,rfl]) ?_;rintro obj b ⟨rfl,rfl⟩;have c:{s with heap:=s.heap.push (sM l (a.size - 1)),toks:=s.toks+2}.TypeIs (.ref _) _:=#[_,gj _ rfl,rfl]
 show#[c,F.args_object_init_2 _ _,Ķ jm.init.lookup jm.made ⋯ prog w _ _ _ #[c,rfl,h]]
def AX{i:Nat}(hz:a.size<=c8)(b:gG s.heap it l (i:Int))(hl:Yt s.heap l a)(d:a[i]?≈x)
  (e:∀h' tk,gG h' it l ((i:Int) - 1)->tA it s.heap h'->Q (bD x) {s with heap:=h',toks:=tk}):f6 (gs prog w) A (Tx (.ref it)) Q E s:=by
 have(o,ho,f,c):=id b;have g:c8<2 ^ 60:=⋯
 have hi:i<a.size:=(H8.mp d).1;unfold Tx;show cL (UA (tj  b.typeIs cY
  (ti cY b.typeIs gR ?_ (iZ _))))
 show cL (z8  rfl ?_)
 try dsimp only
 show cL (p9 ho c (x:=.ref l) rfl ?_);show cL (p9 ho c (x:=Tv (i:Int)) rfl ?_);change f6 _ _ (if (i:Int)<0 then _ else _) _ _ s;rw[Ŷ ⋯];show cL (R4 hl.typeIs slot_tuple_getitem.lookup ?_);show cL (wpAny_mkInt (cL (UA (getItem_tuple  (j:=i) hl ⋯ ⋯ (by simp[ņ];lia) d ?_))))
 dsimp only
 show cL (p9 ho c (x:=Tv (i:Int)) rfl ?_);show cL (y9 ho c ⋯ ?_);show dV #[x,rfl,dV (e _ _ ?_ (wh ..))];show#[_,ro _ ho (SX (K1 c _)),(Yk ..).trans f,by
  rw[K1 c];simp]
def D_(f:A.handled=cc)(c:gG s.heap it l (-1))
  (g:∀h',WC it s.heap h'->Q cc {s with heap:=h' }):f6 (gs prog w) A (Tx (.ref it)) Q E s:=by
 have(o,ho,i,d):=id c;unfold Tx;show cL (UA (tj (name:=UG "__next__") c.typeIs cY
  (ti cY c.typeIs gR ?_ (iZ _))))
 unfold RA.«reversed.__next__»;show cL (z8 (a:=(ku it,[])) rfl ?_)
 try dsimp only
 show cL (p9 ho d (x:=.ref l) rfl ?_);show cL (p9 ho d (x:=Tv (-1)) rfl ?_);change f6 _ _ (if (-1:Int)<0 then _ else _) _ _ s;rw[ŵ ⋯];show cL (P_ ?_);show cL ?_
 wp_delta
 show cL (y9 ho d ⋯ ?_);have h:=ro (TL λxs=>xs.set! 1 (Tv (-1))) ho (SX (K1 d _));have e:=K1 d (λxs=>xs.set! 1 (Tv (-1)));show y9 h e ⋯ ?_;show cL ?_
 wp_delta
 erw[newExc,newTuple];show cL (cL (pj ?_ (by size_fits)));show cL (m:=Á _ _) (z8 (a:=oD) (by rfl) ?_);show pj ?_ (by size_fits);erw[raiseNew];show cL (Ø ?_)
 first|rw[show A.in1.handled=cc from f]|rw[f]
 show cL (dV (ċ ?_));show cL (Uv (T:="StopIteration") (b:=b6) #[_,gj _ rfl,rfl] À ?_);show dV (g _ (((((wh ..).extBut).trans (wh ..).extBut).push _).push _))
def AY(a:gG s.heap it l i)(h:Q (.ref it) s):f6 (gs prog w) A (Zk (.ref it)) Q E s:=by
 show wpAny_pyIter_slot a.typeIs i_ (ti i_ a.typeIs m9 ?_ (oK _));show dV #[_,rfl,_,_,a.typeIs,cY.lookup,h]
def yN(p:A.handled=cc)(I l)(q:l≠I)(a)(hz:a.size<=c8):
  Walks prog w A I [I,l] [I] a.size (λi v=>a[a.size - 1 - i]?≈v) (λi h=>i<=a.size/\gG h I l ((a.size:Int) - 1 - (i:Int))/\Yt h l a) where
 sub:=λb f=>by simp_all
 frame:=λ_ _ _ x hk=>#[x.1,x.2.1.at λo e=>hk I ⋯ o e,let ⟨o,ho,r⟩:=x.2.2;⟨o,hk l ⋯ o ho,r⟩]
 item:=λi s Q E hi x d=>by
  have e:(a.size:Int) - 1 - i=(a.size - 1 - i:Nat):=⋯
  have c:=x.2.1;rw[e]at c;have j:a[a.size - 1 - i]?≈_:=Zb ⋯;show AX hz c x.2.2 j λh' tk k m=>?_;have t:(a.size - 1 - i:Nat) - 1=a.size - 1 - (i+1:Int):=⋯
  rw[t]at k;show d _ h' tk j #[hi,k,let ⟨o,ho,r⟩:=x.2.2;⟨o,(m.2 l q).trans ho,r⟩] λb o f g=>m.extBut b o (λh=>f (by simp[h])) g
 done:=λs Q E x d=>by
  have e:a.size - 1 - (a.size:Int)=-1:=⋯
  have c:=x.2.1;rw[e]at c;show D_ p c λh' u=>d h' _ λb o f g=>u b o (λh=>f (by simp[h])) g
 self:=λ_ _ _ _ x d=>AY x.2.1 d
def AZ(d:gG s.heap I l ((c.size:Int) - 1))(hl:Yt s.heap l c)(hz:c.size<=c8)(h:∀b tk,s.toks<=tk->Q b {s with toks:=tk}):
  f6 (gs prog w) A (x6 (.ref I)) Q E s:=by
 have f:c8<2 ^ 60:=⋯
 have(o,ho,i,e):=id d;unfold x6;show cL (R4 d.typeIs vk ?_);change f6 _ A (specialOf (ku I) (UG "__length_hint__") >>= _) _ _ _;show cL (R4 d.typeIs fA.lookup ?_);have g:splitId "reversed.__length_hint__"≈("reversed","__length_hint__"):=by rfl
 dsimp only
 rw[g]
 dsimp only
 show cL (Uv d.typeIs F.sub_reversed_self ?_);rw[Ŷ ⋯];rw[Ŷ (by decide +kernel)];show cL (P_ ?_);show cL (z8 (fA.bind _) ?_)
 dsimp only
 show cL (UA (ti fA d.typeIs m_ ?_ (oM _)));unfold RA.«reversed.__length_hint__»;show cL (z8 (a:=ku I) rfl ?_);show cL (p9 ho e (x:=.ref l) rfl ?_);rw[Ŷ (show ¬((ku l==oD)=b6) from ke)];show cL (Œ hl ⋯ ?_);show cL (dV ?_);show cL (p9 (s:={s with toks:=s.toks+1+1}) ho e (x:=Tv ((c.size:Int) - 1)) rfl ?_);change f6 _ _ (if (c.size:Int)<(c.size:Int) - 1+1 then _ else _) _ _ _;rw[Ŷ ⋯];show cL (wpAny_mkInt (dV #[_,rfl,?_]))
 dsimp only
 show cL (dV ?_)
 dsimp only
 rw[Ŷ (by erw[Ŝ,nc,Bool.and_eq_false_iff,Ż];lia),Ŷ ⋯,Ŷ (by erw[u5,Ŵ];lia)];show dV (h _ _ ⋯)
variable{I:hH}{fp wr:List hH}{G:Array Æ->Array Æ->Prop}{n:Nat}{P:Nat->g8->Prop}{St:Nat->i4->Prop}
def vm(W:Ĩ prog w A.in1 I fp wr G n P St)(C:∀i s,St i s->s.TypeIs (.ref I) "reversed")(D:∀A E s Q,St 0 s->(∀b tk,s.toks<=tk->Q b {s with toks:=tk})->f6 (gs prog w) A (x6 (.ref I)) Q E s)(S)(j)(H)(k:St 0 s)(m:S∉fp)(J:I∈fp)
  (q:s.heap.get? S≈{cls:=.type "list",data:=.seq #v[] H})
  (z:∀a d c,Moved (S::wr) G s a->a.heap.get? S≈{cls:=.type "list",dict:=cc,data:=.seq d c,slots:=#v[]}->ľ P d n->R (.ok (.ret j)) a) (hn:n<=c8) :
  f6 (gs prog w) A.in1 (Pb (.ref S) (.ref I) j)
   (λr a=>match r with|.done f=>R (.ok f) a|.again c=>c.quiet=b6/\Ry (gs prog w) A c R a) (λe a=>R (.error e) a) s:=by
 have t:S≠I:=λe=>m (e▸J);unfold Pb;show cL (U4 (C 0 _ k) ?_);have L:Yg (.ref S) (.ref I)=cK:=by simp[Yg,t]
 have N:(Rz "reversed"==Rz "list")=cK:=⋯
 have O:(Rz "reversed"==Rz "tuple")=cK:=⋯
 erw[L,N,O,Bool.or_false,X9,if_false];show cL (W.self 0 _ _ _ k ?_);show cL (tr ?_);show D _ _ _ _ k λb tk p=>?_;have T:=W.frame 0 s s.heap tk k p λb _ o e=>e;show Ř (λ_=>?_) (λ_=>dV #[RP F.plain_extend_loop _,ď W hn _ m _ n 0 _ _ _ rfl (kj _) T q (Ĝ P) λa d c u v x=>z a d c (Å W.gtrans ((Ŏ W.grefl).then_heap p λb o _ e=>e) u) v x]);show cL (P_ ?_);show cL ?_;show cL (XC (s:={s with toks:=tk}) q rfl ?_);have l:=ro (rD (·.push oD)) q rfl;show XC (hz:=by seq_fits) l rfl ?_;have y:=ro (rD (·.pop)) l rfl;have B:∀b o,b≠S->s.heap.get? b≈o->((s.heap.update S (rD (·.push oD))).update S (rD (·.pop))).get? b≈o:=λb o g e=>(tp _ _ (mh g)).trans ((tp _ _ (mh g)).trans e);show dV #[RP F.plain_extend_loop _,ď W hn _ m _ n 0 _ _ _ rfl (kj _) (W.frame 0 s _ tk k p λb g o e=>B b o (λh=>m (h▸g)) e) y (Ĝ P) λa d c u v x=>?_];show z a d c (Å W.gtrans ((Ŏ W.grefl).then_heap p λb o g e=>B b o (λh=>g (h▸il)) e) u) v x
def sN(W:Ĩ prog w A.in1 I fp wr G n P St)(g:∀i s,St i s->s.TypeIs (.ref I) "reversed")(h:∀A E s Q,St 0 s->(∀b tk,s.toks<=tk->Q b {s with toks:=tk})->f6 (gs prog w) A (x6 (.ref I)) Q E s)(j:St 0 s)(k:∀b∈fp,b<↥s)(l:I∈fp)
  (m:∀c d,Moved wr G s c->ľ P d n->Q d.toList c) (hn:n<=c8):f6 (gs prog w) A (ĸ (.ref I)) Q E s:=by
 have p:=λf=>sP _ (k _ f);show cL (X_ (tv F.entry_proto_collect ?_));show cL (pj ?_);show dV #[RP F.plain_list_iadd _,tv F.entry_list_iadd ?_];have q:=W.frame 0 s (s.heap.push {cls:=.type "list",data:=.seq ([]:↑g8).toArray}) s.toks j (hY _) λb _ o e=>dt _ e;show vm (R:=λr c=>match r with
  |.ok (.ret v)=>f6 (gs prog w) A (match v with
   |.ref a=>do
    let o <-load a
    match o.data with
    |.seq xs _=>pure xs.toList
    |_=>unsupported "internal:collect"
   |_=>unsupported "internal:collect") Q E c
  |.ok _=>False
  |.error e=>E e c) W g h _ _ 0 q p l (gj _ rfl) (λc t y f u x=>?_) hn
 show cL (Ġ u ?_);show dV (m c t (Moved.drop_new  (tk:=s.toks) f (hY _)) x)
open AutoSeq1 (wpAny_loadPart') in
def qK(W:Ĩ prog w A.in1.in1.in1 I fp wr G n P St)(j:∀i s,St i s->s.TypeIs (.ref I) "reversed")(m:∀A E s Q,St 0 s->(∀b tk,s.toks<=tk->Q b {s with toks:=tk})->f6 (gs prog w) A (x6 (.ref I)) Q E s)(k:St 0 s)(o:∀b∈fp,b<↥s)(p:I∈fp)
  (q:∀c a,Moved wr G s c->ľ P a n->Q (.ref ↥c) {c with heap:=c.heap.push {cls:=.type "tuple",data:=.seq a}}) (hsz:n<=c8) :
  f6 (gs prog w) A (Qt (.type "tuple") [.ref I]) Q E s:=by
 show Ũ (Q₁:=λobj d=>d.TypeIs obj "tuple"/\Q obj d) F.called_tuple (F.typeCall_tuple_1 _) F.entry_object_init
  (?_) λobj d f=>?_
 .show XH ?_;show cL (z8 (F.newCall_tuple_1 _) (dV #[RP F.plain_tuple_new _,tv F.entry_tuple_new ?_]));rw[Wu F.plain_tuple_new _];have u:=sub_tuple_self;have g:=init_tuple_lookup;have r:=madeHere_tuple;have h:=j 0 s k
  wp_walk using U4 h,sN (hn:=hsz) W j m k o p
  intro c a t l;change f6 _ _ (uv a.toList.toArray >>= λv=>ret v) _ _ _;unfold uv;show cL (pj ?_ (by change a.toList.toArray.size<=c8;erw[Wy];rw[l.1];lia));show dV ?_;have e:a.toList.toArray=a:=⋯
  rw[e];show#[#[_,gj _ rfl,rfl],q c a t l]
 .show#[f.1,F.args_object_init_2 obj _,Ķ F.called_tuple.init.lookup F.called_tuple.made ⋯ prog w A.in1 _ d #[f.1,rfl,f.2]]
end
def yO(n:X.calm=b6)(I:Inv X pins σ H s)(r:Oi X.K H a xs)(q:∀l,H l=cc->Q (.ref l) (upd H l (.tup xs.reverse))):
  ‹X› (Qt (.type "reversed") [.ref a]) (λv s1=>‹X› (Qt (.type "tuple") [v]) (EP X pins σ Q) X.xe s1) X.xe s:=by
 have(c,rv,p,hz):=I.tuple r;have O:⇑c=⇑xs:=rv.length.symm;have g:a<↥s:=p.lt;have d:c.toArray.size<=c8:=by grind
 have hsz:(s.heap.push (sM a ((c.toArray.size:Int) - 1))).objs.size=↥s+1:=YL ..;show AW p d ?_;have t:gG (s.heap.push (sM a ((c.toArray.size:Int) - 1))) ↥s a ((c.toArray.size:Int) - 1):=#[_,gj _ rfl,rfl,rfl]
 show qK (yN (A:=X.A.in1.in1.in1) (I.ok.hd n) ↥s a (i9 g) c.toArray d).toS (λi s st=>st.2.1.typeIs) (λA E s Q st h=>AZ (by exists st.2.1) st.2.2 d h) ⟨kj _,by simpa using t,p.push _⟩ (λb u=>?_) ⋯ (λx y f B=>?_) d
 .rw[hsz];rcases eT.mp u with z|z
  .simp_all
  .rw[kr.mp z];show Sk g
 .have(j,C,D,k,o2):=x;have G:C=s.gens:=f.gens;have J:D=s.drawn:=f.drawn;have L:o2=s.os:=f.os;subst G J L;have k2:=λb o e=>f.heap b o (λz=>by
   rw[kr.mp z]at e;show absurd (hW e) (sP _)) (dt _ e)
  have m:Inv X pins σ H {s with heap:=j,toks:=k}:=I.kept k2;have ea:=D8 B;have N :=
   m.laid (t':=k) (λb o e=>dt _ e) (hY _) (show cF X.prog X.w _ _ _ (.tup xs.reverse) from#[by simp_all,c.reverse,rv.reverse,by rw[<-ea,Wy];show WH _ _])
  show#[.ref j.objs.size,_,N,rfl,q _ (m.Ny.fresh (hY _))]
end L2
namespace L2
open PySem PySem.W PyProof.Rows
abbrev kB{α:Type}(lt:Nat->Nat->Bool):KasT α->α
 |.ret x=>x
 |.ask i j k=>kB lt (k (lt i j))
def O2{α:Type}(n:Nat)(P:α->Prop):KasT α->Prop
 |.ret x=>P x
 |.ask i j k=>i<n/\j<n/\∀b,O2 n P (k b)
theorem O2.U1{P:α->Prop}{Q:β->Prop}{f}(a:∀x,P x->O2 n Q (f x)):∀{t},O2 n P t->O2 n Q (t.bind f)
 |.ret x,h=>a x h
 |.ask i j k,h=>#[h.1,h.2.1,λb=>O2.U1 a (h.2.2 b)]
theorem O2.got:∀{t:KasT α},O2 n P t->P (kB lt t)
 |.ret _,h=>h
 |.ask i j k,h=>O2.got (t:=k _) (h.2.2 _)
theorem O2.wp(b:∀i j,i<n->j<n->∀C:Bool->i4->Prop,C (lt i j) s->a i j C s):
  ∀{t:KasT α},O2 n P t->Q (kB lt t) s->t.kasWp a Q s
 |.ret _,_,q=>q
 |.ask i j k,h,q=>b i j h.1 h.2.1 _ (O2.wp b  (h.2.2 _) q)
abbrev Pm(n:Nat)(p:Array Nat):Prop:=p.toList.Perm (ib n)
section
variable{n:Nat}(hn:0<n)
include hn
def Pm.at(h:Pm n p)(i):p.getD i 0<n:=by
 by_cases hi:i<p.size
 .have:p.getD i 0=p[i]:=⋯
  rw[this];have a:p[i]∈p.toList:=⋯
  show uu.mp (h.mem_iff.mp a)
 simp_all
omit hn in
def Pm.rev(h:Pm n p)(i j:Nat):Pm n (kas_rev p i j):=(mirror_perm p i j _).toList.trans h
omit hn in
def Pm.bub(h:Pm n p)(i j:Nat):Pm n (bubble p i j):=(bubble_perm p i j).toList.trans h
theorem vn(h:Pm n p):∀f m,O2 n (λ_=>True) (kas_asc p f m)
 |0,m=>trivial
 |f+1,m=>#[h.at hn _,h.at hn _,λb=>by
  cases b
  .show vn h f _
  .show ttt]
theorem l_:∀f p m q,Pm n p->O2 n (λr=>Pm n r.1) (kas_desc f p m q)
 |0,p,m,q,h=>h
 |f+1,p,m,q,h=>#[h.at hn _,h.at hn _,λb=>by
  cases b
  .show#[h.at hn _,h.at hn _,λb=>by
    cases b
    .show l_ f p _ _ h
    .show h]
  .split
   .show l_ f _ _ _ (h.rev _ _)
   .show l_ f _ _ _ h]
def xj(h:Pm n p)(m r):O2 n (λx=>Pm n x.2) (kas_tail3 m r p):=by
 show O2.U1 (λx _=>?_) (vn hn (h.rev _ _) _ _);show h.rev _ _
def xm(h:Pm n p)(m r):O2 n (λx=>Pm n x.2) (kas_descPart m r p):=by
 show O2.U1 (λx a=>?_) (l_ hn _ _ _ _ h);split
 .show xj hn (a.rev _ _) _ _
 .show xj hn a _ _
def A0(h:Pm n p)(r):O2 n (λx=>Pm n x.2) (kas_count r p):=by
 show O2.U1 (λm _=>?_) (vn hn h _ _);split
 .show h
 .split
  .show#[h.at hn _,h.at hn _,λb=>by
    cases b
    .show xm hn (h.rev _ _) _ _
    .show h]
  .show xm hn h _ _
theorem ng(h:Pm n p)(k):∀f l r,O2 n (λ_=>True) (kas_place p k f l r)
 |0,l,r=>trivial
 |f+1,l,r=>by
  unfold kas_place;split
  .show ttt
  .show#[h.at hn _,h.at hn _,λb=>by
    cases b
    .show ng h k f _ _
    .show ng h k f _ _]
theorem A1:∀f p k,Pm n p->O2 n (Pm n) (kas_bin f p k)
 |0,p,k,h=>h
 |f+1,p,k,h=>O2.U1 (λl _=>A1 f _ _ (h.bub _ _)) (ng hn h _ _ _ _)
def xn:O2 n (Pm n) (TB n):=by
 show O2.U1 (λx a=>?_) (A0 hn  (by unfold Pm;simp) n);split
 .show A1 hn _ _ _ a
 .show a
end
def nh(lt)(n):(kB lt (TB n)).toList.Perm (ib n):=by
 cases n with
 |zero=>rfl
 |succ n=>show(xn (Nat.succ_pos n)).got
def yP(ho:s.heap.get? a≈u4 "list" vs.toArray n)(t:⇑vs<64)
  (f:2<=⇑vs->∀s1,(∀b o,b≠a->s.heap.get? b≈o->s1.heap.get? b≈o)->f6 (gs prog w) A (keyKind' vs.toArray) (λκ d=>d=s1/\∀i j,i<⇑vs->j<⇑vs->∀C:Bool->i4->Prop,C (lt i j) s1->Ĺ prog w A κ vs i j C s1) (λ_ _=>False) s1)
  (h:P (.done (.ret .none)) {s with heap:=Ī s.heap a vs (((kB lt (TB ⇑vs)).toList.map λi=>vs.getD i oD).toArray)}) :
  f6 (gs prog w) A (RA.«list.sort» ⟨[.ref a],[]⟩) P E s:=by
 have O:a<↥s:=hW ho;have y:(64:Nat)<=c8:=⋯
 rw[list_sort_plain];show cL (ú ho rfl (cL (Ys ho rfl ?_ (by rw[mu];lia) (kj _))));obtain⟨m,u⟩:∃m,(s.heap.update a (rD λ_=>(#v[]:Array g8))).get? a≈(u4 "list" #v[] m):=#[_,Ş ho λ_=>#v[]]
 show cL (Ę u rfl (cL (wpAny_newTuple (cL (Ö (tr ?_) (kj _))) (by change ⇑vs<=_;lia))));have g:(((s.heap.update a (rD λ_=>(#v[]:Array g8))).push (u4 "tuple" vs.toArray 0)).push (u4 "list" #v[] 0)).get? a≈(u4 "list" #v[] m):=dt _ (dt _ u);have k:∀b o,b≠a->s.heap.get? b≈o->(((s.heap.update a (rD λ_=>(#v[]:Array g8))).push (u4 "tuple" vs.toArray 0)).push (u4 "list" #v[] 0)).get? b≈o:=λb o z e =>
  dt _ (dt _ (by rw[ß _ _ _ _ z];show e))
 change f6 (gs prog w) A _ P E {s with heap:=((s.heap.update a (rD λ_=>(#v[]:Array g8))).push (u4 "tuple" vs.toArray 0)).push (u4 "list" #v[] 0)}
 dsimp only
 have B:⇑((kB lt (TB ⇑vs)).toList.map λi=>vs.getD i oD)=⇑vs:=by rw[ei,(nh lt _).length_eq,ÿ]
 by_cases c:vs.toArray.size<2
 .rw[ŵ c,ŵ c];show cL (dV ?_);rw[StateT.run_pure];show cL (dV ?_);have D:((kB lt (TB ⇑vs)).toList.map λi=>vs.getD i oD).toArray=(vs.toArray.zip vs.toArray).map (·.2):=by
   have q:=nh lt ⇑vs;clear h f B k g ho t
   match vs,c,q with
   |[],_,q=>simp_all
   |[v],_,q=>simp_all
   |_::_::_,c,_=>simp at c;lia
  rw[D]at h
  dsimp only
  show cL (Ę g rfl (cL (Ys g rfl ?_ (kj _) (by grind))));erw[bne_self_eq_false,X9,if_false];show dV h
 .rw[Ŷ c,Ŷ c];have l:2<=⇑vs:=by rw[mu]at c;lia
  show cL (lg (f l _ k) (λκ T hk=>?_) λ_ _ x=>x.elim);have(rfl,hk):=hk;show cL (lg (kat_run (κ:=κ) (ks:=vs) (vs:=vs) (G:=λp d=>p=kB lt (TB ⇑vs)/\d={s with heap:=((s.heap.update a (rD λ_=>(#v[]:Array g8))).push (u4 "tuple" vs.toArray 0)).push (u4 "list" #v[] 0)})
   (Q:=λst' d=>∃p:Array Nat,arrOf st'=p.map (kas_item (vs.toArray.zip vs.toArray))/\failedOf st'=cc/\p=kB lt (TB ⇑vs)/\d={s with heap:=((s.heap.update a (rD λ_=>(#v[]:Array g8))).push (u4 "tuple" vs.toArray 0)).push (u4 "list" #v[] 0)})
   rfl l t (λp st' d Y H I J=>#[p,H,I,J]) (O2.wp hk (xn ⋯) #[rfl,rfl])) ?_ λ_ _ e=>e)
  rintro⟨⟨⟩,st'⟩ d ⟨p,r,L,rfl,rfl⟩
  dsimp only
  have N:=kat_snds rfl r;rw[N,L];show cL (Ę g rfl (cL (Ys g rfl ?_ (kj _) (by grind))));erw[bne_self_eq_false,X9,if_false];show dV h
@[reducible]noncomputable def HU:=Str×Int
abbrev Tc(ks:↑Str)(i j:Nat):Bool:=df ((~~~(ks.getD i nS))<(~~~(ks.getD j nS)))
abbrev lU(ks:↑Str):↑Nat:=(kB (Tc ks) (TB ⇑ks)).toList
def iI(ks):(lU ks).Perm (ib ⇑ks):=nh _ _
abbrev KP(x:Str)(n:Int)(t u:Tok):Obj:={cls:=.type "tuple",data:=.seq #v[.str x t,.int n u]}
abbrev gH(h:K2)(as:↑hH)(ps:↑HU):Prop:=⇑as=⇑ps/\∀(j:Nat) (a:hH),as[j]?≈a->∃p t u,ps[j]?≈p/\h.get? a≈KP p.1 p.2 t u
def gH.keeps(x:gH h as ps)(k:∀b o,b∈as->h.get? b≈o->h'.get? b≈o):gH h' as ps :=
 #[x.1,λj a e=>let ⟨p,t,u,c,d⟩:=x.2 j a e;⟨p,t,u,c,k a _ (n7 e) d⟩]
def gH.tail(x:gH h (a::as) (p::ps)):gH h as ps :=
 #[by have:=x.1;simpa using this,λj b e=>by
  have(q,t,u,d,c):=x.2 (j+1) b (by exists e);show#[q,t,u,by assumption,c]]
theorem gH.gS:∀{as}{ps},gH h as ps->∃b,KatTups h (as.map ku) b/\⇑b=⇑as/\∀v∈b,∃x t,v=y6 x t
 |[],_,_=>#[[],KatTups.nil,rfl,by simp]
 |a::as,[],x=>by have:=x.1;simp_all
 |a::as,p::ps,x=>by
  have(b,c,d,e):=gH.gS x.tail;have(q,t,u,g,f):=x.2 0 a rfl;show#[.str q.1 t::b,KatTups.cons f rfl rfl rfl c,by simp[d],λv hv=>?_];rcases eT.mp hv with rfl|hv
  .show#[_,_,rfl]
  .show e v hv
theorem pw:∀{l:↑α}{m}{i:Nat}{x},Paired F l m->l[i]?≈x->∃y,m[i]?≈y/\F x y
 |_,_,_,_,.nil,e=>by simp at e
 |_,_,0,_,.cons r _,e=>by simp_all
 |_,_,i+1,x,.cons _ t,e=>by
  have(u,b,a):=pw   t (by exists e);show#[u,by assumption,a]
def HV(x:gH s.heap as ps)(d:(ps.map (·.1)).Nodup)(hi:i<⇑as)(e:j<⇑as)(q:C (Tc (ps.map (·.1)) i j) s):
  Ĺ prog w A (tuples' b6) (as.map ku) i j C s:=by
 have(p,t,u,b,f):=x.2 i as[i] ⋯;have(c,t',u',a,g):=x.2 j as[j] ⋯;have hl:=x.1;have k:i<⇑ps:=⋯
 have l:j<⇑ps:=⋯
 have m:(as.map ku).getD i oD=.ref as[i]:=by simp[S8,hi]
 have n:(as.map ku).getD j oD=.ref as[j]:=by simp[S8,e]
 have o:(ps.map (·.1)).getD i nS=p.1:=by simp[S8,b]
 have r:(ps.map (·.1)).getD j nS=c.1:=by simp[S8,a]
 unfold Ĺ;rw[m,n];show kat_lt  f rfl g rfl ?_;unfold Tc at q;rw[o,r]at q;show kat_cons (ń ?_);by_cases h:p.1=c.1
 .have v:i=j:=by
   have y:(ps.map (·.1))[i]'⋯=(ps.map (·.1))[j]'⋯:=by
    simp_all
   show(ć d).mp y
  subst v;rw[b]at a;cases a;rw[Ź rfl];show kat_yes (kat_cons (Ņ ?_));rw[show(p.2==p.2)=b6 by simp];have:df ((~~~p.1)<(~~~p.1))=cK:=ŷ (List.lt_irrefl _);rw[this]at q;show q
 .rw[ŷ h];show kat_no (oneLt_str q)
def HW(x:gH s.heap as ps)(b:(ps.map (·.1)).Nodup)(g:2<=⇑as):
  f6 (gs prog w) A (keyKind' (as.map ku).toArray) (λκ c=>c=s/\∀i j,i<⇑(as.map ku)->j<⇑(as.map ku)->∀C,C (Tc (ps.map (·.1)) i j) s->Ĺ prog w A κ (as.map ku) i j C s) (λ_ _=>False) s:=by
 have(h,d,k,e):=x.gS;show kat_kind (T:=.type "str") d ⋯ (λv f=>?_) rfl ⟨rfl,λi j hi a C q=>?_⟩
 .have(y,t,rfl):=e v f;show Looks.of_pure rfl
 .rw[ei]at hi a;show HV x b hi a q
abbrev lV(H:Hp):↑(hH×↑V)->Hp
 |[]=>H
 |(a,vs)::r=>upd (lV H r) a (.tup vs)
theorem ni:∀{l}{b}{o},lV H l b≈o->(∃vs,(b,vs)∈l/\o=.tup vs)\/H b≈o
 |[],b,o,h=>.inr h
 |(a,vs)::r,b,o,h=>by
  by_cases c:b=a
  .subst c;rw[lV,aj]at h;simp_all
  .rw[lV,ai c]at h;rcases ni h with⟨ws,d,e⟩|q
   .show .inl #[ws,by simp[d],e]
   .show .inr q
theorem nj:∀{l}{b},(∀p∈l,p.1≠b)->lV H l b=H b
 |[],b,_=>rfl
 |(a,vs)::r,b,h=>by
  rw[lV,ai (mh (h _ il))];show nj λp c=>h p (by simp[c])
theorem xp:∀{l}{b}{vs},(l.map (·.1)).Nodup->(b,vs)∈l->lV H l b≈.tup vs
 |(a,ws)::r,b,vs,d,h=>by
  have c:a∉r.map (·.1)/\(r.map (·.1)).Nodup:=by exists d
  rcases eT.mp h with h|h
  .cases h;show aj
  .have:b≠a:=λz=>c.1 (by rw[<-z];show j0.mpr #[_,h,rfl]);rw[lV,ai this];show xp c.2 h
def Inv.many(I:Inv X pins σ H s)(k:∀b u,s.heap.get? b≈u->h'.get? b≈u)(a:∀b o,H b≈o->H' b≈o)
  (hn:∀b o,H' b≈o->H b≈o\/(↥s<=b/\cF X.prog X.w H' h' b o)):Inv X pins σ H' {s with heap:=h',toks:=t' }:=by
 show I.un #[λb u q _ _ _=>k b u q,λb u q _ _ _=>#[_,k b u q],λb u q n _=>?_,λb u q _=>#[u,k b u q],λb xs q=>a b _ q,λb u xs q=>a b _ q,λb ps q=>#[#v[],by rw[a b _ q];simp]] λb o e=>?_
 .cases e:H' b with
  |none=>rfl
  |some o =>
   rcases hn b o e with z|⟨z,_⟩
   .simp_all
   .show absurd (jn (hW q) z) (sP _)
 .rcases hn b o e with z|⟨_,z⟩
  .show(I.Ny b o z).lP (λc v _ q=>k c v q) (λc q=>a c _ q) λc xs q=>a c _ q
  lia
abbrev RQ(p:HU):↑V:=[.str p.1,.int p.2]
def qL{ps:↑HU}(hc:X.calm=b6)(I:Inv X pins σ H s)(e:H d≈.dK (ps.map λp=>((nC p.1:Key),V.int p.2)))(NP:(ps.map (·.1)).Nodup)(Se:⇑ps<64)
  (q:∀as L,⇑as=⇑ps->as.Nodup->(∀a∈L::as,H a=cc)->L∉as->Q (.ref L) (upd (lV H (as.zip (ps.map RQ))) L (.lst ((lU (ps.map (·.1))).map λi=>V.ref (as.getD i 0))))) :
  ‹X› (Qt (.builtin "dict.items") [.ref d]) (λv s1=>‹X› (Qt (.builtin "sorted") [v]) (EP X pins σ Q) X.xe s1) X.xe s:=by
 have am:(64:Nat)<=c8:=⋯
 have(hz,lo,vs,kv,dd):=Gm I.Ny e;have B:⇑vs=⇑ps:=by
  have:=Paired.length kv;exists this.symm
 have(o,es,ep,n):=id dd;show í F.slot_dict_items (show s.TypeIs (.ref d) "dict" from#[o,n.1,n.2.1.1]) F.entry_dict_items (F.args_dict_items_1 _) (meets_dict_items (bA X.prog X.w) d lo) #[#[vs,dd],?_];change ‹X› (Qt (.builtin "sorted") [.ref ↥s]) (EP X pins σ Q) X.xe {s with heap:=s.heap.push {cls:=.type "dict_items",data:=.fields #v[.ref d]}};have k1:∀b u,s.heap.get? b≈u->(s.heap.push {cls:=.type "dict_items",data:=.fields #v[.ref d]}).get? b≈u:=λb u z=>dt _ z;have an:(s.heap.push {cls:=.type "dict_items",data:=.fields #v[.ref d]}).DictOf (bA X.prog X.w) d vs:=#[o,es,ep,k1 _ _ n.1,n.2]
 have OP:(s.heap.push {cls:=.type "dict_items",data:=.fields #v[.ref d]}).DictAt (bA X.prog X.w) d vs ep:=#[o,es,k1 _ _ n.1,n.2]
 show Y5 kind_sorted plain_sorted entry_sorted (args_sorted1 _) ?_;unfold RA.«sorted»;show cL (m:=checkCount "sorted" 1 1 _) (dV ?_);show cL (kdx_collect (A:=X.A.in1) (knd:=bA X.prog X.w) (kvs:=vs) (ep:=ep) (I.ok.hd hc) #[_,gj _ rfl,rfl,rfl] OP ⋯ λc tk as hk hl G=>?_);have J:⇑as=⇑ps:=hl.trans B;have f:∀a∈as,↥s<=a:=λa ha=>by
  have:=G.above a ha;have z:(s.heap.push {cls:=.type "dict_items",data:=.fields #v[.ref d]}).objs.size=↥s+1:=YL ..
  grind
 have pa:gH c as ps:=#[J,λj a ea=>by
  have(key,k,x,O,T,e3):=G.pairs j a ea;have r:j<⇑ps:=by rw[<-J];show(eH.mp ea).1
  have(y,ey,r1,r2):=pw kv (i:=j) (x:=((nC ps[j].1:Key),V.int ps[j].2)) (by simp[r]);rw[O]at ey;cases ey;obtain⟨tx,rfl⟩:∃t,x=.int ps[j].2 t:=r2;have Y:k=nC ps[j].1:=r1.symm;subst Y;have(t,rfl):=Ï (x:=ps[j].1) (v:=key) T;show#[ps[j],t,tx,by simp[r],e3]]
 have nd:as.Nodup:=G.rise.imp λh=>i9 h;show cL (Ö ?_ (by rw[ei];lia));have R9:(c.push (u4 "list" (as.map ku).toArray 0)).get? c.objs.size≈u4 "list" (as.map ku).toArray 0:=gj _ rfl;change f6 _ _ _ _ _ {s with heap:=c.push (u4 "list" (as.map ku).toArray 0),toks:=tk};have C:∀a∈as,a<c.objs.size:=λa ha=>G.there ha;show cL (tr (ti slot_list_sort #[_,R9,rfl] entry_list_sort (yP (lt:=Tc (ps.map (·.1))) R9 (by rw[ei];lia) (λh2 s1 ks=>?_) ⟨_,rfl,?_⟩) (Ų _)))
 .show HW (pa.keeps λb o N z=>ks b o (i9 (C b N)) (dt _ z)) NP (by rw[ei]at h2;show h2)
 .have(ee,he):=sortedHeap_at (out:=((kB (Tc (ps.map (·.1))) (TB ⇑(as.map ku))).toList.map λi=>(as.map ku).getD i oD).toArray) R9;have g:∀b o,c.get? b≈o->(Ī (c.push (u4 "list" (as.map ku).toArray 0)) c.objs.size (as.map ku) ((kB (Tc (ps.map (·.1))) (TB ⇑(as.map ku))).toList.map λi=>(as.map ku).getD i oD).toArray).get? b≈o:=λb o z=>by
   have Og:b<c.objs.size:=hW z;rw[ů (i9 Og) (by rw[YL];show Sk Og)];show dt _ z
  have T8:↥s<=c.objs.size:=Q' (hW (hk _ _ (gj _ rfl)));have eP:((kB (Tc (ps.map (·.1))) (TB ⇑(as.map ku))).toList)=lU (ps.map (·.1)):=by
   unfold lU;rw[ei,ei,J]
  have U3:H c.objs.size=cc:=I.Ny.fresh T8;have ab:c.objs.size∉as:=λz=>sP _ (C _ z);have D:∀a∈as,H a=cc:=λa ha=>I.Ny.fresh (f a ha);have YX:∀{b:hH} {ws:↑V},(b,ws)∈as.zip (ps.map RQ)->b∈as:=λz=>(Uo z).1;show dV #[_,rfl,.ref c.objs.size,upd (lV H (as.zip (ps.map RQ))) c.objs.size (.lst ((lU (ps.map (·.1))).map λi=>V.ref (as.getD i 0))),?_,rfl,q as _ J nd (λa ha=>?_) ab]
  .show I.many (λb u z=>g b u (hk b u (k1 b u z))) (λb o z=>?_) λb o z=>?_
   .have n1:b≠c.objs.size:=λy=>by rw[y,U3]at z;cases z
    rw[ai n1,nj λp hp y=>?_]
    .show z
    .have:=D p.1 (YX (b:=p.1) (ws:=p.2) hp);rw[y,z]at this;cases this
   .by_cases N:b=c.objs.size
    .subst N;rw[aj]at z;cases z;show .inr #[T8,by rw[ei,(iI _).length_eq,ÿ,ei];lia,(lU (ps.map (·.1))).map λi=>(as.map ku).getD i oD,ee,?_,?_]
     .have Pw:∀i∈lU (ps.map (·.1)),i<⇑as:=λi hi=>by
       have:=uu.mp ((iI _).mem_iff.mp hi);rw[ei]at this;lia
      generalize lU (ps.map (·.1))=l at Pw;induction l with
      |nil=>show .nil
      |cons i l ih =>
       show .cons ?_ (ih λj r=>Pw j (by simp[r]));have hi:=Pw i ⋯;change RelV (.ref (as.getD i 0)) ((as.map ku).getD i oD);have:(as.map ku).getD i oD=.ref (as.getD i 0):=by simp[S8,hi]
       rw[this];rfl
     .rw[<-eP];show he
    .rw[ai N]at z;rcases ni z with⟨ws,z1,rfl⟩|z1
     .have(j,r,ej):=WO.mp z1;have YY:j<⇑as:=by simp at r;lia
      have ac:j<⇑ps:=⋯
      have al:as[j]=b/\RQ ps[j]=ws:=by exists ej
      have(rfl,rfl):=al;have(p,t,u,O,T):=pa.2 j as[j] (by simp[YY]);have:p=ps[j]:=by simpa[ac] using O.symm
      subst this;show .inr #[f _ ⋯,by change 2<=c8;lia,[.str ps[j].1 t,.int ps[j].2 u],.cons #[t,rfl] (.cons #[u,rfl] .nil),_,g _ _ T,rfl,0,rfl]
     .show .inl z1
  .rcases eT.mp ha with rfl|ha
   .show U3
   .show D a ha
def yQ{vs:↑(Key×g8)}(hk:vs.map (·.1)=ks.map nC)(hl:⇑a=⇑vs)(h:∀(j:Nat) v,a[j]?≈v->∃k x,vs[j]?≈(k,x)/\(bA P w).is k v=b6):V_ a ks:=by
 induction a generalizing ks vs with
 |nil =>
  cases vs with
  |nil=>cases ks with
   |nil=>show .nil
   |cons _ _=>cases hk
  |cons _ _=>cases hl
 |cons v a c =>
  cases vs with
  |nil=>cases hl
  |cons p vs =>
   cases ks with
   |nil=>cases hk
   |cons k ks =>
    erw[i6,SV]at hk;have(k',x,b,d):=h 0 v rfl;erw[List.getElem?_cons_zero,Zz]at b;subst b;have f:=hk.1;subst f;rcases bJ (show mK (nC k) v=b6 from d) with⟨i,t,e,rfl⟩|⟨y,t,e,rfl⟩
    .cases e
    .cases e;show .cons _ _ (c hk.2 (by exists hl) λj u g=>h (j+1) u (by assumption))
def kC:X.calm=b6->gF X (.builtin "sorted") (λxs H Q=>∃d kvs ks,xs=[.ref d]/\Rd H d (.dK kvs)/\kvs.map (·.1)=ks.map nC/\⇑ks<64/\∀q,H q=cc->Q (.ref q) (upd H q (.lst ((cm ks).map V.str)))):=by
 intro k pins s σ H xs us Q I rs h;have(d,kvs,ks,rfl,e,hk,D,q):=h;have(u,rfl,r):=vals1 rs;cases r;have(hz,lo,vs,kv,dd):=k7 I.Ny e;have a:⇑vs=⇑kvs:=(Paired.length kv).symm;have l:⇑kvs=⇑ks:=by rw[<-ei (f:=(·.1)),hk,ei]
 have b:vs.map (·.1)=ks.map nC:=by
  rw[<-hk];clear dd a hk l e q hz;induction kv with
  |nil=>rfl
  |cons r _ m=>rw[i6,i6,m,r.1]
 have(o,es,ep,n):=id dd;have p:(64:Nat)<=c8:=⋯
 show jj (kdu_collect (A:=X.A.in1) (kdl_dict (knd:=bA X.prog X.w) (kvs:=vs) (ep:=ep) lo) (I.ok.hd k) #[o,es,n] ⋯ λh' tk t x c=>#[ks,yQ b (by rw[p7];show c.1) (λj v y=>c.2 j v (by rw[<-Z5];show y)),by rw[p7,c.1];lia,λG z B k2 g C=>?_]);have i:Inv X pins σ H {s with heap:=h',toks:=tk}:=I.kept (t':=tk) x;show#[.ref h'.objs.size,_,i.laid (t':=tk) (o:=.lst ((cm ks).map V.str)) k2 (hY _) #[by rw[ei,jK];lia,z,B,f9 C,g],rfl,q _ (i.Ny.fresh (hY _))]
end L2
namespace L2
open PySem PySem.Spec PyProof.Rows
def A2:TV X "str.join" (λx xs H Q=>∃a p ys,x=.str a/\xs=[.ref p]/\Oi X.K H p (ys.map V.str)/\Vv a ys=b6/\Q (.str (ri a ys)) H):=by
 intro pins s σ H x xs v us Q I c rs h;have(a,p,ys,rfl,rfl,d,b,q):=h;have(t,rfl):=c;have(u,rfl,r):=vals1 rs;cases r;have(m,rv,f,hz):=I.tuple d;have(l,rfl,e):=fY rv;subst e;unfold Vv at b;rw[nc]at b;have(o,g,i,n,j):=f;show Rn F.slot_str_join (Rg _ _ _) F.entry_str_join (F.args_str_join_2 _ _) (meets_str_join_tuple a t p l b) #[#[o,n,g,i,j],post_join l #[joinFit_length b,λt' k=>#[.str _,H,I.tok k,#[_,rfl],q]]]
theorem xq:∀{bs:↑Bool}{us},Vals (bs.map V.bl) us->us=bs.map UC
 |[],_,.nil=>rfl
 |_::_,_,.cons r t=>by rw[r,xq t];rfl
abbrev HX(b:Bool):g8->Bool
 |.bool c=>c==b
 |_=>cK
abbrev vp:V->↑V->Hp->VK->Prop:=λx vs H Q=>∃(l:hH) (bs:↑Bool) (b:Bool) (j:Nat),x=.ref l/\vs=[.bl b]/\H l≈.lst (bs.map V.bl)/\bs[j]?≈b/\(∀m,m<j->bs[m]?≠bD b)/\Q (.int j) H
def A3:WW X "list.index" vp:=by
 intro pins s σ H x vs v us Q I a rv h;have(l,bs,b,j,rfl,rfl,d,f,g,q):=h;cases a;have(u,rfl,i):=rv.one;cases i;have(z,t,n,r,hl,e):=I.DY d;obtain rfl:=xq r;have(w,k):=eH.mp f;have hz:c8<2 ^ 62:=⋯
 rw[ei]at z;show Rn F.slot_list_index #[_,e,rfl] F.entry_list_index (F.args_list_index_2 _ _) (SeqAt.list_indexAt l _ n cc #v[] _ (HX b) j ⋯ ⋯ (by simp[HX,k]) (λm A o=>?_)) ⟨e,λy p=>?_,?_⟩
 .have B:m<⇑bs:=⋯
  have:=g m o;erw[HX];simp_all
 .have(c,_,rfl):=j0.mp (List.mem_toArray.mp p);show SeqAt.EqAt.bool_bool c b
 .show#[.int j,H,I.tok _,#[_,rfl],q]
end L2
namespace L2
open PySem PyProof.Rows PySem.W
abbrev Tr(h base:K2)(e:hH)(cl a:g8):Prop:=∃oe vs T oT ts,h.get? e≈oe/\oe.cls=cl/\oe.data=.fields vs/\vs[2]?≈.none/\vs[1]?≈.ref T/\base.get? T=cc/\T≠e/\h.get? T≈oT/\oT.data=.fields ts/\ts[3]?≈a
section
variable{M:Model}{A:Ux}{E:g8->i4->Prop}{s:i4}{base:K2}{env:Env}{outer l:List Env}{L e:hH}{oe:Obj}{vs:Array g8}{cl fl:g8}{Q:Unit->i4->Prop}
def jo{h:K2}(d:h.get? a≈o)(f:o.data=.fields ws)(g:h.get? b≈c)(hn:∀vs,c.data≠.fields vs):b≠a:=λz=>by
 simp_all
def qM{o:Obj}(a:o.data=.fields ws):(o.mapFields (·.setIfInBounds j x)).data=.fields (ws.setIfInBounds j x):=K1 a _
def qN{h:K2}(j)(x)(c:h.get? a≈o)(d:o.data=.fields ws):(h.update a (TL (·.setIfInBounds j x))).get? a≈o.mapFields (·.setIfInBounds j x)/\∀b,b≠a->(h.update a (TL (·.setIfInBounds j x))).get? b=h.get? b :=
 #[ro _ c (SX (qM d)),λb f=>tp _ _ (mh f)]
def sO(t:A.frames≈(env::outer))(hl:s.heap.FunFrames base (env::outer))(u:env.frame≈L)(f:s.heap.get? e≈oe)(v:base.StaysIn s.heap)(B:base.get? e=cc)(a:oe.data=.fields vs)(hsz:1<vs.size)(C:vs[2]?≈.none)
  (h:∀h',base.StaysIn h'->h'.FunFrames base (env::outer)->Tr h' base e oe.cls (Tv L)->s.heap.UpToSlots h'->Q () {s with heap:=h' }) :
  f6 M A (do setField (.ref e) 1 (<-EntryCells.newEntry i (<-frameOf env) .none (Tv L) .none (<-entryPlaceOf L D))) Q E s:=by
 show cL (wpAny_frameOf_fun t hl u λk hk=>cL (wpAny_entryPlaceOf λG w=>?_));show cL (pj ?_ (w.sizeOk5 _ _ _ _ _));have j:=(hk.2.1 e λz=>let ⟨_,o,ho,hn⟩:=hl.mem z;jo f a ho hn rfl).trans f;have m:base.StaysIn k:=λb o q=>(hk.2.1 b λz=>by rw[(hl.mem z).1]at q;cases q).trans (v b o q);generalize n:(Obj.mk (.type "traceback") cc _ #v[])=tb;have p:=dt (h:=k) tb j;have x:(k.push tb).get? k.objs.size≈tb:=gj k (by subst n;rfl);have c:k.objs.size≠e:=DD (hW j);have(y,g):=qN 1 (.ref k.objs.size) p a;show y9 p a hsz (h _ (λb o q=>(g b λz=>by simp_all).trans (dt _ (m b o q))) (hl.of_keeps λb o d hn=>?_) ⟨_,_,k.objs.size,tb,_,y,Yk _ _,qM a,by simp_all,by simp[hsz],m.fresh,c,(g _ c).trans x,by subst n;rfl,?_⟩ λb o d hn=>?_)
 .have(r,q):=hk.2.2 b o d;show#[_,(g b (jo f a d hn)).trans (dt _ q),rfl]
 .rfl
 .have(r,q):=hk.2.2 b o d;show#[r,(g b (jo f a d hn)).trans (dt _ q)]
def Ea(k:A.frames≈(env::outer))(hl:s.heap.FunFrames base (env::outer))(j:env.frame≈L)(f:s.heap.get? e≈oe)(m:base.StaysIn s.heap)(n:base.get? e=cc)(g:oe.data=.fields vs)(p:vs[2]?≈.none)
  (a:vs[1]?≈.none\/∃T oT ts,vs[1]?≈.ref T/\base.get? T=cc/\T≠e/\s.heap.get? T≈oT/\oT.data=.fields ts/\ts[3]?≈.none)
  (h:∀h',base.StaysIn h'->h'.FunFrames base (env::outer)->Tr h' base e oe.cls (Tv L)->s.heap.UpToSlots h'->Q () {s with heap:=h' }):f6 M A (Ň (.ref e) env) Q E s:=by
 unfold Ň;erw[j];rcases a with a|⟨T,oT,ts,a,v,t,c,d,r⟩
 .show cL (p9 f g a ?_);rw[Ŷ ⋯];show sO k hl j f m n g (H8.mp a).1 p h
 .show cL (p9 f g a ?_);rw[ŵ ⋯];show cL (p9 c d r ?_);have(w,i):=qN 3 .none c d;show cL (y9 c d (H8.mp r).1 ?_);show sO (s:={s with heap:=_}) k (hl.of_keeps λb o q hn=>#[o,(i b (jo c d q hn)).trans q,rfl]) j ((i e (mh t)).trans f) (λb o q=>(i b λz=>by simp_all).trans (m b o q)) n g (H8.mp a).1 p λh' k1 k2 k3 u=>h h' k1 k2 k3 λb o q hn=>u b o ((i b (jo c d q hn)).trans q) hn
def Eb(k:base.StaysIn s.heap)(hl:s.heap.FunFrames base l)(m:Tr s.heap base e cl fl)
  (h:∀h',base.StaysIn h'->h'.FunFrames base l->Tr h' base e cl .none->s.heap.UpToSlots h'->Q () {s with heap:=h' }):f6 M A (setFlight (.ref e) cc) Q E s:=by
 have(oe,vs,T,oT,ts,f,n,g,p,i,r,j,c,a,t):=m;have(u,d):=qN 3 _ c a;have hz:=(H8.mp t).1;show cL (p9 f g i ?_);show y9 c a hz (h _ (λb o q=>(d b λz=>by simp_all).trans (k b o q)) (hl.of_keeps λb o q hn=>#[o,(d b (jo c a q hn)).trans q,rfl]) ⟨oe,vs,T,_,_,(d e (mh j)).trans f,n,g,p,i,r,j,u,qM a,by simp[hz]⟩ λb o q hn=>#[_,(d b (jo c a q hn)).trans q])
end
abbrev MY(h:K2)(e C:hH)(T:Option hH)(a:g8):Prop:=∃oe vs,h.get? e≈oe/\oe.cls=.ref C/\oe.data=.fields vs/\vs[2]?≈.none/\match T with
 |none=>vs[1]?≈.none
 |some T=>T≠e/\vs[1]?≈.ref T/\∃oT ts,h.get? T≈oT/\oT.data=.fields ts/\ts[3]?≈a
structure cw(P:rS)(w:wk)(stack:↑Env)(H:Hp)(s:i4)(e C:hH)(T:Option hH)(fl:g8)(H':Hp)(s':i4):Prop where
 os:s'.os=s.os
 bare:Wf s'.gens
 un:Un (Oy stack) [] H H' s.heap s'.heap
 Ny:OJ P w H' s'.heap
 new:s.heap.get? e=cc
 he:H' e=cc
 exc:MY s'.heap e C T fl
 hT:∀a,T≈a->s.heap.get? a=cc/\H' a=cc
abbrev PD(P:rS)(w:wk):TR:=λouter H s E v a=>∃e C T H',v=.ref e/\cw P w outer H s e C (bD T) .none H' a/\E (.ref C) cc H'
def cF.there(x:cF P w H h a o):∃u,h.get? a≈u:=by
 cases o with
 |lst xs=>have(_,_,_,_,e):=x;show#[_,e]
 |tup xs=>have(_,_,_,_,e,_):=x;show#[_,e]
 |set S n=>have(o,_,_,_,e,_):=x;show#[_,e]
 |ins C c b=>have(_,_,_,e,_):=x;show#[_,e]
 |own y=>show x
 |xd b=>have(_,(_,_,_,e,_),_):=x;show#[_,e]
 |WM lo hi=>have(_,_,_,e):=x;show#[_,e]
 |Pf d u=>show#[_,x.1]
 |SQ ps=>show#[_,x]
 |met f y=>show#[_,x]
 |ext φ=>show x.2.1
 |_=>have(_,_,_,_,o,_,_,e,_):=x;show#[_,e]
section
variable{P:rS}{w:wk}{stack outer:List Env}{H H':Hp}{s s':i4}{e C L:hH}{T:Option hH}{fl:g8}{base:K2}{env:Env}{M:Model}{A:Ux}{E:g8->i4->Prop}{Q:Unit->i4->Prop}
theorem xr(u:Un (Oy stack) [] H H' s.heap s'.heap)(a:∀b∈Oy stack,H b=cc):∀l,(∀b∈Oy l,b∈Oy stack)->s.heap.FunFrames base l->s'.heap.FunFrames base l
 |[],_,_=>trivial
 |env::l,hs,⟨hk,⟨L,o,c,hn,ho,d⟩,f⟩=>by
  have g:Oy (env::l)=L::Oy l:=by unfold Oy;simp_all
  rw[g]at hs;have(i,q):=u.any ho (a L (hs L il)) λz=>nomatch z
  show#[hk,#[L,_,c,hn,q,d],xr u a l (λb h=>hs b (f7 _ h)) f]
def cw.next(F:cw P w stack H s e C T fl H' s')(x:s.heap.FunFrames base stack)(y:∀b∈Oy stack,H b=cc)(N:B=hideAll s'.heap (e::(T.toList++Oy stack))):
  B.StaysIn s'.heap/\s'.heap.FunFrames B stack/\B.get? e=cc/\(∀a,T≈a->B.get? a=cc) /\
   ∀h' l,B.StaysIn h'->h'.FunFrames B stack->Tr h' B e (.ref C) l->s'.heap.UpToSlots h'->∃d,cw P w stack H s e C (bD d) l H' {s' with heap:=h' }:=by
 have g:=xr F.un y _ (λ_ z=>z) x;subst N;show#[λb o q=>of_hideAll _ q,funFrames_hide g λO Y a h2=>f7 _ (pz _ (RH.mpr #[O,Y,h2])),hideAll_none _ il,λa z=>hideAll_none _ (f7 _ (TX _ (by simp[z]))),λh' l k1 k2 ⟨m,N0,d,p,r,b1,b2,b3,b0,b4,b5,D,b7,b8,b9⟩ k4=>?_];have t:∀a,a∈e::(T.toList++Oy stack)->H' a=cc:=λa ha=>by
  rcases eT.mp ha with rfl|ha
  .show F.he
  rcases i7.mp ha with ha|ha
  .show(F.hT a (by exists ha)).2
  .have(_,o,ho,_):=x.mem ha;show F.un.free a o ho (y a ha) λz=>nomatch z
 have keep:∀b o,b∉e::(T.toList++Oy stack)->s'.heap.get? b≈o->h'.get? b≈o:=λb o c q=>k1 b o (hideAll_get _ q c);have slot:∀b o,b∈Oy stack->s'.heap.get? b≈o->∃G,h'.get? b≈{o with slots:=G}:=λb o c q=>by
  have(_,v,h,hn):=g.mem c;rw[q]at h;cases h;show k4 b o q hn
 have i:∀b o,s.heap.get? b≈o->b∉Oy stack->b∉e::(T.toList++Oy stack):=λb o q c z=>by
  rcases eT.mp z with z|z
  .rw[z,F.new]at q;cases q
  rcases i7.mp z with z|z
  .rw[(F.hT b (by exists z)).1]at q;cases q
  .show c z
 have tn:s.heap.get? d=cc/\H' d=cc:=by
  by_cases z:d∈e::(T.toList++Oy stack)
  .rcases eT.mp z with z|z
   .show absurd z D
   rcases i7.mp z with z|z
   .show F.hT d (by exists z)
   .have(_,v,h,hn):=k2.mem z;simp_all
  .have q:s'.heap.get? d=cc:=by
    cases q:s'.heap.get? d with
    |none=>rfl
    |some o=>have:=hideAll_get _ q z;simp_all
   show#[?_,?_]
   .cases f:s.heap.get? d with
    |none=>rfl
    |some o=>have(v,I):=F.un.there _ o f λz=>nomatch z;rw[q]at I;cases I
   .cases f:H' d with
    |none=>rfl
    |some u =>
     have(o,z):=(F.Ny d u f).there;rw[q]at z;cases z
 show#[d,F.os,F.bare,#[λb o q n c j=>keep b o (i b o q c) (F.un.keep b o q n c j),λb o q n c j=>?_,F.un.free,λb o q j=>?_,F.un.gS,F.un.OK,F.un.OS],λa u q=>(F.Ny a u q).lP (λb o c h=>?_) (λ_ z=>z) λ_ _ z=>z,F.new,F.he,#[m,N0,b1,b2,b3,b0,D,b4,p,r,b7,b8,b9],λa z=>by cases z;show tn]
 .have(G,k):=F.un.slot b o q n c j;have(J,f):=slot b _ c k;show#[J,f]
 .have(v,k):=F.un.there b o q j;by_cases c:b∈Oy stack
  .have(J,f):=slot b _ c k;show#[_,f]
  .show#[_,keep b _ (i b o q c) k]
 .show keep b o (λz=>?_) h;have:=t b z;simp_all
def cw.note(F:cw P w (env::outer) H s e C T .none H' s')(f:A.frames≈(env::outer))(g:env.frame≈L)(i:s.heap.FunFrames base (env::outer))(j:∀b∈Oy (env::outer),H b=cc)
  (h:∀a c,cw P w (env::outer) H s e C (bD a) (Tv L) H' c->Q () c):f6 M A (Ň (.ref e) env) Q E s':=by
 have(oe,vs,k,l,m,h0,d):=F.exc;have(n,o,p,q,r):=F.next i j rfl;show Ea f o g k n p m h0 ?_ λh' k1 k2 k3 t=>?_
 .cases T with
  |none=>show .inl d
  |some T=>have(u,v,oT,ts,x,y,B):=d;show .inr #[T,oT,ts,v,q T rfl,u,x,y,B]
 .have(a,z):=r h' _ k1 k2 (l▸k3) t;show h _ _ z
def cw.land{T}(F:cw P w stack H s e C (bD T) fl H' s')(d:s.heap.FunFrames base stack)(f:∀b∈Oy stack,H b=cc)
  (h:∀a c,cw P w stack H s e C (bD a) .none H' c->Q () c):f6 M A (setFlight (.ref e) cc) Q E s':=by
 have(oe,vs,g,i,j,h0,k,l,oT,ts,m,n,o):=F.exc;have(p,q,v,r,t):=F.next d f rfl;show Eb p q #[oe,vs,T,oT,ts,g,i,j,h0,l,r T rfl,k,m,n,o] λh' k1 k2 k3 u=>?_;have(a,z):=t h' _ k1 k2 k3 u;show h _ _ z
def cw.leave(F:cw P w (env::outer) H s e C T .none H' s')(g:A.frames≈(env::outer))(i:env.frame≈L)(c:s.heap.FunFrames base (env::outer))(d:∀b∈Oy (env::outer),H b=cc)
  (h:∀f a,cw P w (env::outer) H s e C (bD f) .none H' a->Q () a):f6 M A (leaving env (.ref e)) Q E s' :=
 cL (F.note g i c d λf a j=>j.land c d h)
end
def cw.down(I:Inv X pins σ H s)(p:X.ex=[])(hs:X.stack=X.env::X.outer)(r:X.env.frame≈X.env.locals)(F:cw X.prog X.w X.stack H s e C T k H' l):cw X.prog X.w X.outer X.H₀ X.s₀ e C T k H' l:=by
 have nx:∀b ,b∉X.ex:=λb z=>by simp_all
 have i:Oy X.stack=X.env.locals::Oy X.outer:=by unfold Oy;simp_all
 have c:∀b,s.heap.get? b=cc->X.s₀.heap.get? b=cc:=λb q=>by
  cases z:X.s₀.heap.get? b with
  |none=>rfl
  |some o=>have(g,z):=I.base.there b o z (nx b);simp_all
 have hl:∀b o,X.s₀.heap.get? b≈o->b≠X.env.locals:=λb o q=>i9 (jn (hW q) I.ok.above);have h:∀b:hH,b∉[]:=λb z=>nomatch z
 show#[F.os.trans I.os,F.bare,#[λb o q n f _=>?_,λb o q n f _=>?_,λb o q n _=>?_,λb o q _=>?_,λb xs q=>F.un.gS b xs (I.base.gS b xs q),λb o u q=>F.un.OK b o u (I.base.OK b o u q),λb ps q=>?_],F.Ny,c _ F.new,F.he,F.exc,λa z=>#[c _ (F.hT a z).1,(F.hT a z).2]]
 .show F.un.keep b o (I.base.keep b o q n f (nx b)) (I.base.free b o q n (nx b)) (λz=>by rw[i]at z;show(eT.mp z).elim (hl b o q) f) (h b)
 .have(t,d):=I.base.slot b o q n f (nx b);have(m,j):=F.un.slot b _ d (I.base.free b o q n (nx b)) (by rw[i];show f7 _ f) (h b);show#[m,j]
 .have(g,d):=I.base.there b o q (nx b);show F.un.free b g d (I.base.free b o q n (nx b)) (h b)
 .have(g,d):=I.base.there b o q (nx b);show F.un.there b g d (h b)
 .have(m1,d):=I.base.OS b ps q;have(m2,j):=F.un.OS b _ d;show#[m1++m2,by simp_all]
def cw.made(I:Inv X pins σ H s)(b:Heap.MadeExcOf s.heap h' e (.ref C) vs):cw X.prog X.w X.stack H s e C cc .none H {s with heap:=h' }:=by
 have(t,c,_):=b.there;show#[rfl,I.bare,Un.kept b.keeps,I.Ny.kept b.keeps,b.new,?_,#[_,_,c,rfl,rfl,rfl,rfl],λa z=>nomatch z];cases z:H e with
 |none=>rfl
 |some u=>have(o,q):=(I.Ny e u z).there;rw[b.new]at q;cases q
abbrev U5:↑g8:=[.type "ValueError",.type "Exception",.type "BaseException",.type "object"]
abbrev MqB(p:hH->↑g8->Option g8->Option g8->Option g8->Option g8->String->Option g8->Bool)(M:↑g8)(S:↑(Option g8)):Prop:=∃C a k0 k1 k2 k3 n k5,M=.ref C::a/\S=[k0,k1,k2,k3,bD (.builtin n),k5]/\p C a k0 k1 k2 k3 n k5=b6
def nf{P:Prop}(h:cK=b6):P:=nomatch h
def HY(q:excIn.match_1 (λ_ _=>Bool) M S p (λ_ _=>cK)=b6):MqB p M S:=by
 cases M with
 |nil=>show nf q
 |cons v a =>
  cases v with
  |ref C =>
   cases S with
   |nil=>show nf q
   |cons k0 S =>
   cases S with
   |nil=>show nf q
   |cons k1 S =>
   cases S with
   |nil=>show nf q
   |cons k2 S =>
   cases S with
   |nil=>show nf q
   |cons k3 S =>
   cases S with
   |nil=>show nf q
   |cons b S =>
   cases b with
   |none=>show nf q
   |some v =>
   cases v with
   |builtin n =>
    cases S with
    |nil=>show nf q
    |cons k5 S =>
    cases S with
    |nil=>show#[C,a,k0,k1,k2,k3,n,k5,rfl,rfl,q]
    |cons _ _=>show nf q
   |_=>show nf q
  |_=>show nf q
abbrev MqA(p:Option hH->ClassData->Array (Option g8)->Bool)(o:Option Obj):Prop:=∃d a b,o≈#[.type "type",d,.cls a,b]/\p d a b=b6
def HZ(q:excIn.match_6 (λ_=>Bool) o p (λ_=>cK)=b6):MqA p o:=by
 split at q
 .show#[_,_,_,rfl,q]
 simp_all
def H0{K:Frag}{P:Prop}(b:K.In h)(q:excIn K C U5 a=b6)(k:∀c N nm d bs hdct sn sub ab col dd k0 k1 k2 k3 k5 e,h.get? C≈excClassObj nm d C N bs c hdct sn sub ab col dd k0 k1 k2 k3 k5 a->h.Ns N e->e "__init__"=cc->OwnTail h U5 c->P):P:=by
 have(dd,j,m,ho,f):=HZ q;have(v,c,k0,k1,k2,k3,n,k5,o,hs,g):=HY f;clear q f;have(nm,bs,mro,ns,d,p,sn,sub,ab,col,r):=j;have⟨l⟩:=m;erw[cb,beq_iff_eq,nc]at g;obtain⟨⟨⟨⟨⟨rfl,rfl⟩,s⟩,t⟩,i⟩,u⟩:=g;subst o s;obtain rfl:l=_:=hs;show k c ns nm d bs p sn sub ab col dd k0 k1 k2 k3 k5 _ (b _ _ ho) (.of_isNs (isNs_of_in b i)) (nsMap_none_of_in b i u) (tail_of_in b t)
def A4(i:X.calm=b6)(j:Gl X x)(d:X.mg x≈.ref C)(k:(x==("__debug__":Str))=cK)(l:excIn X.K C U5 "ValueError.__new__"=b6)(m:PE X a n)
  (f:i0 [a] X.env=[(cK,p8 a X.env)]) :
  PS X (.Raise (bD (.Call (.Name x p) [a] [] A)) cc pos) (λD σ H=>n σ H λv c=>∀pins s e g,Inv X pins σ c s->cw X.prog X.w X.stack c s e C cc .none c g->X.xe (.ref e) g):=by
 intro pins s σ H D I h;show H0 I.mod.SR l λB N nm o bs hdct sn sub ab col dd k0 k1 k2 k3 k5 G r t y T=>?_;show wpAny_Raise_call_subT (nm:=nm) (q:=o) (N:=N) (bs:=bs) (hdct:=hdct) (sn:=sn) (sub:=sub) (ab:=ab) (col:=col) (dd:=dd) (k0:=k0) (k1:=k1) (k2:=k2) (k3:=k3) (k5:=k5) õ (T.hasType õ.hasBase) (I.ok.hd i) (by rw[f];rfl) y (eD I j d #[rfl,?_] k);rw[f];show w6 (sg (ND (m pins s σ H _ I h) λu s1 ⟨v,c,b,J,z⟩=>y8 #[rfl,?_,b.bk _ _ r,t.keeps b.bk,T.keeps b.bk,λh' e d=>z pins s1 e _ b (.made b d)]));show(by decide:1<=c8)
def Gq:Passes (PD X.prog X.w) X E0:=λ_ _ _ _ _ _ _ ⟨_,_,_,_,_,_,h⟩=>h.elim
def xu(F:dF X.prog X.w X.K X.mg X.base CX k f d ps g)(i:cX k X.A)(j:Binds X.K d ps [])(I:Inv X pins σ H s)(r:Vals vs us)(h:g vs H Q E)
  (l:∀e a,CX X.stack H s E e a->EE e a):‹X› (Qt (.ref f) us) (EP X pins σ Q) EE s:=by
 have hl:⇑us=⇑ps:=by rw[<-⇑r];show F.len _ _ _ _ h
 have b:=j s us I.Ph ⋯;rw[tE]at b;show Z9 (Tz (F.run X.A _ s H _ us vs Q E i I.HA b r h) λr a c=>?_);cases r with
 |error e=>show l e a c
 |ok m =>
  cases m with
  |ret u=>show I.after c
  |_=>assumption
@[reducible]noncomputable def Cx.So(X:Cx)(e:hH)(oe:Obj)(E:g8->i4->Prop):Cx:={X with A:=X.A.mark (bD (.ref e)),calm:=cK,pn:=(e,oe)::X.pn,xe:=E}
def Inv.So(I:Inv X pins σ H s)(a:s.heap.get? e≈oe)(b:H e=cc)(c:e≠X.env.locals)(d:e∉X.fs)(f:∀v,oe.data≠.cell v):Inv (X.So e oe E) pins σ H s :=
 #[#[I.ok.mod,I.ok.kind,I.ok.glob,I.ok.blt,I.ok.above,I.ok.inj,I.ok.has,I.ok.TF,λz=>(nomatch z),I.ok.frames,I.ok.UM,I.ok.WN,I.ok.bs,I.ok.Rc,I.ok.Qe,I.ok.QH,I.ok.jC,I.ok.R8],I.os,I.bare,I.base,I.loc,I.cell,I.free,I.N2,
  λp g=>(eT.mp (g)).elim (λz=>by subst z;show#[a,b,c,d,f]) λz=>I.pin p z,I.Ny,I.len]
def Inv.MZ(a:X.Ok)(I:Inv (X.So e oe E) pins σ H s):Inv X pins σ H s :=
 #[a,I.os,I.bare,I.base,I.loc,I.cell,I.free,I.N2,λp b=>I.pin p (f7 _ b),I.Ny,I.len]
def Inv.gone(I:Inv X pins σ H s)(D:X.N.Nodup)(k:X.N[j]?≈n)(hl:X.env.scope.names.lookup n≈.local)
  (h:∀t,Inv X pins (σ.set j cc) H t->Q () t):f6 M A (do bindName X.env n .none;unbindBehindTheSuite X.env n pos) Q E s:=by
 have(m,hn,G):=id I.loc;have J:(X.env.scope.kind==.class||(X.env.scope.kind==.module&&X.env.locals != X.env.globals))=cK:=by rw[I.ok.kind];rfl
 show wpAny_nameGoes_keeps hl hn J λh' v L hs=>h _ ?_;have w:=I.Rf;have Sb:j < ⇑σ:=by rw[I.len];show(eH.mp k).1
 have ne:∀b o,X.s₀.heap.get? b≈o->b≠X.env.locals:=λb o q=>i9 (jn (hW q) I.ok.above);show#[I.ok,I.os,I.bare,#[λb o e n g f=>(hs.2 b (ne b o e)).trans (I.base.keep b o e n g f),λb o e n g f=>?_,I.base.free,λb o e f=>?_,I.base.gS,I.base.OK,I.base.OS],#[_,L,λi y u x B O=>?_],λy c e=>?_,I.free,I.N2,λp T=>?_,λb Y e=>(I.Ny b Y e).lP (λc w' hc q=>(hs.2 c ?_).trans q) (λ_ q=>q) λ_ _ q=>q,by exists I.len]
 .have(sl,q):=I.base.slot b o e n g f;show#[sl,(hs.2 b (ne b o e)).trans q]
 .have(o',q):=I.base.there b o e f;show#[o',(hs.2 b (ne b o e)).trans q]
 .have C:i≠j:=λz=>by simp_all
  rw[hQ (mh C)]at B;have(u',r,l):=G i y u x B O;show#[u',r,l.imp (λ⟨a,b⟩=>#[a,?_]) λ⟨a,c,b,d⟩=>#[a,c,b,d.sameBut hs (w y c b)]];change(if y=n then v else m y)≈u';rw[Ŷ λz=>C (jD D x (by rw[z];show k))];show b
 .have(u,z):=I.cell y c e;show#[u,z.sameBut hs (w y c e)]
 .have(a,b,c,d):=I.pin p T;show#[(hs.2 p.1 c).trans a,b,c,d]
 .rintro rfl;rcases hc with hc|hc
  .rw[<-hc,I.free]at e;cases e
  .rw[I.free]at hc;cases hc
section
variable{prog:rS}{w:wk}{A:Ux}{E:g8->i4->Prop}{h:K2}{g:Array Æ}{d:Drawn}{t:Nat}{os:OsState}{a C:hH}{o:Obj}{K:Frag}
def sQ(e:K.In h)(hs:ū K (.ref C) (.type "object")≈b6)(f:h.get? a≈o)(c:o.cls=.ref C)(i:R (.ok (.ret (.ref C))) #[h,g,d,t,os]):
  Ry (gs prog w) A (.call (.builtin "getset_descriptor.__get__") #[[.builtin "object.__class__",.ref a,.ref C],[]]) R #[h,g,d,t,os]:=by
 have b:=ê;have LS:ĺ (gs prog w) h (Vn (.ref C) (.type (".".intercalate ("object.__class__".cutAt '.').dropLast))) b6:=by rw[F.owner_object_class];show looks_subIn e hs
 show X' Ç.plain F.entry_gs_get (Ç.check _ _ _ _ _ _ _ _ b (F.args_gs_get _ _ _) ?_)
 repeat (any_goals (first|assumption|(with_reducible show V0 f ?_;rw[c])|with_reducible show LS.at ?_|wp_step))
 show#[XW _ (by decide +kernel),tv F.entry_object_class ?_]
 repeat (any_goals (first|assumption|(with_reducible rw[c])|wp_step))
def oP(b:K.In h)(hs:ū K (.ref C) (.type "object")≈b6)(f:Ŭ K (.ref C) "__class__"≈bD (.builtin "object.__class__"))(c:h.get? a≈o)(e:o.cls=.ref C)(j:Q (.done (.ret (.ref C))) #[h,g,d,t,os]):
  f6 (gs prog w) A (RA.«object.__getattribute__» ⟨[.ref a,.str "__class__" tk],[]⟩) Q E #[h,g,d,t,os]:=by
 have i:ĺ (gs prog w) h _ _:=ð b f;have k:=ê;have l:=Ç.lookup;have m:=F.slot_gs_set.lookup
 repeat (any_goals (first|assumption|(with_reducible show V0 c ?_;rw[e])|with_reducible show i.at ?_|wp_step))
 show sQ b hs c e ?_
 repeat (any_goals (first|assumption|wp_step))
def vq(b:K.In h)(hs:ū K (.ref C) (.type "BaseException")≈b6)(c:h.get? a≈o)(e:o.cls=.ref C)(f:Q () #[h,g,d,t,os]):f6 M A (Ŋ "BaseException.__getattribute__" ⟨[.ref a,i],[]⟩) Q E #[h,g,d,t,os]:=by
 have hk:builtinKind "BaseException.__getattribute__"≈.slot:=by decide +kernel
 have j:splitId "BaseException.__getattribute__"≈("BaseException","__getattribute__"):=by decide +kernel
 have LS:ĺ M h (Vn (.ref C) (.type "BaseException")) b6:=looks_subIn b hs;have k:=F.args_bexc_ga (.ref a) i;erw[Ŋ,hk,j];show cL ?_
 .unfold isInstance
  repeat (first|(with_reducible show V0 c ?_;rw[e])|with_reducible show LS.at ?_|wp_step)
  show f
abbrev gI(K:Frag)(C:hH):Bool:=ū K (.ref C) (.type "object")==bD b6&&ū K (.ref C) (.type "BaseException")==bD b6&&Ŭ K (.ref C) "__class__"==bD (bD (.builtin "object.__class__"))&&Ŭ K (.ref C) "__getattribute__"==bD (bD (.builtin "BaseException.__getattribute__"))&&Ŭ K (.ref C) "__getattr__"==bD cc&&(clsIn K C).isSome
def vt(b:K.In h)(f:gI K C=b6)(c:h.get? a≈o)(e:o.cls=.ref C)(l:Q (.ref C) #[h,g,d,t,os]):f6 (gs prog w) A (getAttrBy (.ref a) (.str "__class__" tk) cK) Q E #[h,g,d,t,os]:=by
 erw[gI,cb,beq_iff_eq]at f;obtain⟨⟨⟨⟨⟨o1,o2⟩,o3⟩,o4⟩,o5⟩,_⟩:=f;have m:=ĝ.ga.bind (.ref a);have n:(cK&&onTheHeap (U7 "BaseException.__getattribute__"))=cK:=rfl;have i:(U7 "BaseException.__getattribute__"==U7 "object.__getattribute__")=cK:=by decide +kernel
 have j:(onTheHeap (ku C)&&U7 "BaseException.__getattribute__"==U7 "object.__getattribute__")=cK:=by rw[i];rfl
 have k:ĺ (gs prog w) h (WX (.ref C) "__getattribute__") (bD (.builtin "BaseException.__getattribute__")):=ð b o4;have L2:ĺ (gs prog w) h (WX (.ref C) "__getattr__") cc:=ð b o5
 repeat (any_goals (first|assumption|(with_reducible show V0 c ?_;rw[e])|with_reducible show k.at ?_|with_reducible show L2.at ?_|wp_step))
 show X' ĝ.ga.plain F.entry_bexc_ga (vq b o2 c e (oP b o1 o3 c e ?_))
 repeat (any_goals (first|assumption|wp_step))
def qO(b:K.In h)(c:gI K C=b6)(e:h.get? a≈o)(f:o.cls=.ref C)(i:Q (bD (.ref C)) #[h,g,d,t+1,os]):f6 (gs prog w) A (getAttr? (.ref a) "__class__") Q E #[h,g,d,t,os]:=by
 unfold getAttr? getAttrBy?
 repeat (any_goals (first|assumption|with_reducible apply vt b c e f|wp_step))
end
def sR{K}(b:gI K C=b6):KitX K (.ref a) (.ref C) (λh=>∃o,h.get? a≈o/\o.cls=.ref C) where
 ty:=λM h _ j=>by
  have(o,f,i):=j;show(ŭ f).andThen ?_;rw[i];show .now
 it:=λM h c _ A Q E s k q=>by
  erw[gI,cb]at b;have z:=b.2;unfold clsIn at z;split at z
  .rename_i ho;unfold isType loadHead;show cL (Ţ (k _ _ (c _ _ ho)) (dV q))
  .cases z
 ne:=λh l dd m n p c e=>by
  erw[gI,cb]at b;have z:=b.2;unfold clsIn at z;split at z
  .rename_i ho;rw[ź];intro q;cases q;have:=c _ _ ho;rw[e]at this;cases this
  .cases z
 ca:=λ{_ _ _ _ _ s} c ⟨o,f,i⟩ q=>by
  have(h,g,d,t,os):=s;show qO c b f i q
def Inv.KQ(I:Inv X pins σ H s)(d:s.heap.get? e≈oe)(hn:H e=cc)(g:X.s₀.heap.get? e=cc)(h:e≠X.env.locals)(i:∀x c,X.env.cells.lookup x≈c->c≠e)(j:∀p∈X.pn++pins,p.1≠e):
  Inv X pins σ (upd H e (.Pf oe (.ext λ_=>True))) s:=by
 have ne:∀b o,H b≈o->b≠e:=λb o q=>av q hn;show#[I.ok,I.os,I.bare,#[I.base.keep,I.base.slot,λb o q n k=>?_,I.base.there,λb xs q=>?_,λb o u q=>?_,λb ps q=>?_],I.loc,I.cell,?_,λx c q=>?_,λp f=>?_,λb u q=>?_,I.len]
 .rw[ai (λz=>by rw[z,g]at q;cases q)];show I.base.free b o q n k
 .have:=I.base.gS b xs q;rw[ai (ne b _ this)];show this
 .have:=I.base.OK b o u q;rw[ai (ne b _ this)];show this
 .have(m,q):=I.base.OS b ps q;show#[m,by rw[ai (ne b _ q)];show q]
 .rw[ai (mh h)];show I.free
 .rw[ai (i x c q)];show I.N2 x c q
 .have(a,b,c):=I.pin p f;show#[a,by rw[ai (j p f)];show b,c]
 .by_cases z:b=e
  .subst z;rw[aj]at q;cases q;show#[d,ttt,#[oe,d],λ_ _ _ _=>ttt]
  .rw[ai z]at q;show(I.Ny b u q).lP (λ_ _ _ q=>q) (λc q=>by rw[ai (ne c _ q)];show q) λc xs q=>by rw[ai (ne c _ q)];show q
end L2
namespace L2
open PySem PySem.Spec PyProof.Rows
@[reducible]noncomputable def Cx.NP(X:Cx)(e:hH):Cx:={X with A:=X.A.mark (bD (.ref e)),calm:=cK,xe:=λ_ _=>False}
def Inv.NP(I:Inv X pins σ H s):Inv (X.NP e) pins σ H s :=
 #[#[I.ok.mod,I.ok.kind,I.ok.glob,I.ok.blt,I.ok.above,I.ok.inj,I.ok.has,I.ok.TF,λz=>(nomatch z),I.ok.frames,I.ok.UM,I.ok.WN,I.ok.bs,I.ok.Rc,I.ok.Qe,I.ok.QH,I.ok.jC,I.ok.R8],I.os,I.bare,I.base,I.loc,I.cell,I.free,I.N2,I.pin,I.Ny,I.len]
def Inv.M0(a:X.Ok)(I:Inv (X.NP e) pins σ H s):Inv X pins σ H s :=
 #[a,I.os,I.bare,I.base,I.loc,I.cell,I.free,I.N2,I.pin,I.Ny,I.len]
end L2
namespace L2
open PySem PyProof.Rows PySem.W
def Sm.refl(H):fW H H:=λ_ _ z=>z
def Sm.trans(a:fW H c)(b:fW c d):fW H d:=λx o z=>b x o (a x o z)
def Sm.upd(h:H p=cc):fW H (upd H p o):=λx y z=>by rw[ai (av z h)];show z
abbrev vv(K:Frag)(i:Nat)(cl:Str)(b:Bool):TE:=λσ H Q=>∃(ea:hH) (oe:Obj) (u:HO) (a:hH),σ[i]?≈bD (.ref ea)/\H ea≈.Pf oe u/\oe.cls=.ref a/\ï K i5 cl≈bD (.ref a)/\∀H',fW H H'->Q (.bl b) H'
def H9(hi:X.N[i]?≈n)(f:OB X.env.scope n)(g:(n==("__debug__":Str))=cK)(h:(n==("__classdict__":Str))=cK)(j:Gl X "isinstance")(k:X.mg "isinstance"=cc)(l:PE X (.Name D p2) (tC d))(m:∀u,RelV d u->u=o)
  (r:∀a,ï X.K i5 cl≈bD (.ref a)->gI X.K a=b6/\kitOne X.K (.ref a) o≈b):PE X (.Call (.Name "isinstance" p) [.Name n L,.Name D p2] [] t) (vv X.K i cl b):=by
 rintro pins s σ H Q I ⟨ea,oe,u,a,v,w,x,y,q⟩;show nT (dC I j k (show so _≈.builtin "isinstance" by decide +kernel) ?_ (by decide +kernel) (by decide +kernel));show ur (ND (bB (a9 hi f g h) (bB l cC) rfl t pins s σ H (λvs H'=>vs=[.ref ea,d]/\H'=H) I ⟨_,v,rfl,rfl⟩) λus s1 A=>?_);have(vs,O,c,B,e,C):=A;subst e C;have(T,Y,rfl,G,J):=vals2 B;obtain rfl:=m _ J;cases G;have(k1,k2):=r a y;show kia_one (sR k1) c.Ph #[oe,(c.Ny ea _ w).1,x] k2 (λz=>nomatch z) λtk=>?_;show#[.bl b,_,c.tok tk,rfl,q _ (Sm.refl _)]
inductive nq(X:Cx)(cl:Str):↑jw->↑g8->Prop where
 |nil:nq X cl [] []
 |cons {D:Str} {p:Pos} {vD:V} {dv:g8} {es:↑jw} {ds:↑g8} (hD:PE X (.Name D p) (tC vD)) (hr:∀u,RelV vD u->u=dv) (ht:∀Cc,ï X.K i5 cl≈bD (.ref Cc)->gI X.K Cc=b6/\kitOne X.K (.ref Cc) dv≈cK) (t:nq X cl es ds):nq X cl (.Name D p::es) (dv::ds)
def nq.pa(h:nq X cl es ds):∃vs,PA X es (λ_ H Q=>Q vs H)/\⇑vs=⇑es/\∀us,Vals vs us->us=ds:=by
 induction h with
 |nil=>show#[[],cC,rfl,λus r=>by cases r;rfl]
 |@cons D p i j es ds c d k t e =>
  have(vs,f,h0,g):=e;show#[_,bB   c f,by simp[h0],λus r=>?_];cases r with
  |cons a b=>rw[d _ a,g _ b]
def nq.no(h:nq X cl es ds)(hn:ï X.K i5 cl≈bD (.ref a)):kitAny X.K (.ref a) ds≈cK:=by
 induction h with
 |nil=>rfl
 |cons d e b t c =>
  unfold kitAny;rw[(b a hn).2];show c
def nq.ok(h:nq X cl es ds)(b:es≠[])(hn:ï X.K i5 cl≈bD (.ref a)):gI X.K a=b6:=by
 cases h with
 |nil=>show absurd rfl b
 |cons d e c t=>show(c a hn).1
def H_(hi:X.N[i]?≈n)(h:OB X.env.scope n)(j:(n==("__debug__":Str))=cK)(k:(n==("__classdict__":Str))=cK)(l:Gl X "isinstance")(m:X.mg "isinstance"=cc)(b:nq X cl es ds)(r:es≠[])(hl:⇑es<100):
  PE X (.Call (.Name "isinstance" p) [.Name n p1,.Tuple es x1 p2] [] v) (vv X.K i cl cK):=by
 rintro pins s σ H Q I ⟨ea,oe,u,Cc,w,x,y,f,q⟩;have(vs,A,Te,B):=b.pa;show nT (dC I l m (show so _≈.builtin "isinstance" by decide +kernel) ?_ (by decide +kernel) (by decide +kernel));have hsz:1000<=c8:=⋯
 have c:⇑vs<=c8:=⋯
 show ur (ND (bB (a9 hi h j k) (bB (uR A) cC) rfl v pins s σ H (λws H'=>∃t,ws=[.ref ea,.ref t]/\H t=cc/\H'=upd H t _) I ⟨_,w,c,λt d=>#[t,rfl,d,rfl]⟩) λus s1 C=>?_);have(ws,H1,a,D,t,e,d,G):=C;subst e G;have(u1,u2,rfl,J,L):=vals2 D;cases J;cases L;have(J',rv,(o,ho,O,n,T),_):=a.tuple (Oi.of aj);obtain rfl:=B _ rv;have(oc,od,Y,R_):=o;subst O T;have g:fW H (upd H t (.tup vs)):=Sm.upd d;show kia_tup (sR (b.ok r f)) a.Ph #[oe,(a.Ny ea _ (g _ _ x)).1,y] ho (b.no f) (λz=>nomatch z) λtk=>?_;show#[.bl _,_,a.tok tk,rfl,q _ g]
abbrev xv(K:Frag)(i:Nat)(cl:Str):↑Bool->TA
 |[]=>r_
 |b::bs=>kX (vv K i cl b) (xv K i cl bs)
theorem sT{K}(a:σ[i]?≈bD (.ref ea))(b:oe.cls=.ref c)(d:ï K i5 cl≈bD (.ref c)):∀bs H Q,H ea≈.Pf oe u->(∀H',fW H H'->Q (bs.map .bl) H')->xv K i cl bs σ H Q
 |[],H,_,_,q=>q H (Sm.refl H)
 |_::bs,H,_,e,q=>#[ea,oe,u,c,a,e,b,d,λH' s=>sT a b d bs H' _ (s _ _ e) λf g=>q f (Sm.trans s g)]
end L2
namespace L2
open PySem PySem.Spec PyProof.Rows PySem.F
def oQ:Ď table "proto.unchain"≈RA.«proto.unchain»:=entryFor_of_fast (by rfl)
def vA(a:A.handled≈.ref ea)(b:ea≠e)(c:s.heap.get? ea≈d)(f:d.data=.fields ws)(g:ws[2]?≈.none)(i:s.heap.get? e≈oe)(j:oe.data=.fields vs)(hz:2<vs.size)
  (h:E (.ref e) {s with heap:=s.heap.update e (TL (·.setIfInBounds 2 (.ref ea)))}):f6 (gs prog w) A (raiseNew (.ref e):Sem α) Q E s:=by
 show cL (Ø ?_);rw[a]
 dsimp only
 rw[ŵ (by simp[b])];show cL (tr (X_ (tv oQ ?_)));show cL (p9 c f g ?_);show dV ?_;show cL (y9 i j hz ?_);show ċ h
def Ia(g:A.handled≈.ref ea)(h:ea≠it)(j:s.heap.get? ea≈k)(n:k.data=.fields ws)(p:ws[2]?≈.none)(c:s.heap.IsListIter it l i)(hl:s.heap.IsList l r)(t:r[i]?=cc)
  (u:∀h',WC it s.heap h'->Q cc {s with heap:=h' }):f6 (gs prog w) A (Tx (.ref it)) Q E s:=by
 have(o,ho,C,d):=id c;have(D,v,_,G,y):=hl;unfold Tx;show cL (UA (tj (name:="__next__") c.typeIs Ĥ (ti Ĥ c.typeIs entry_listiter_next ?_ (args_listiter_next _))));show cL (m:=Ŧ (.ref it) 0) (p9 ho d (x:=.ref l) rfl ?_);show cL (m:=Ŧ (.ref it) 1) (p9 ho d (x:=.int i 0) rfl (cL (m:=seqItems? (.ref l)) (Z8 v y ?_)));erw[Sq,t];show cL (P_ (cL (y9 ho d ⋯ ?_)));show cL (m:=newExc (.type "StopIteration") []) ?_;erw[newExc,newTuple];show cL (pj (cL (m:=Á _ _) (z8 (a:=oD) (by rfl) (pj ?_ (by size_fits)))) (by size_fits));have z:=(tp s.heap (TL (·.setIfInBounds 0 oD)) (mh h)).trans j;have e:=dt {cls:=.type "tuple",data:=.seq #v[]} z;show vA (A:=A.in1) g (i9 (hW e)) (dt _ e) n p (gj _ rfl) rfl (by simp<;>lia) ?_;show cL (Uv (T:="StopIteration") (b:=b6) #[_,ro _ (gj _ rfl) rfl,rfl] À ?_);show dV (u _ λb o B q=>?_);have f:=dt {cls:=.type "tuple",data:=.seq #v[]} ((tp s.heap (TL (·.setIfInBounds 0 oD)) (mh B)).trans q);show(tp _ _ (DD (hW f))).trans (dt _ f)
abbrev Y8(K:W.Frag)(a ea:hH)(oe:Obj):It:=#[(US K a).go,(US K a).UR,λi H=>(US K a).stop i H/\∃u,H ea≈.Pf oe u]
def Ib(a it)(y:X.A.handled≈.ref ea)(B:oe.data=.fields ws)(C:ws[2]?≈.none):qA X tg (Y8 X.K a ea oe) [it] it (λi h=>h.IsListIter it a i):=by
 have T:=oW (P:=X.prog) (w:=X.w) (K:=X.K) (tg:=tg) a it;show#[T.obj,T.keep,λi pins s σ H E I g st k=>?_,λi pins s σ H E I g st k=>?_,T.self]
 .have(xs,x,j,l):=k;have(D,rv,p,hz):=I.list j;have(u,m,G):=rv.get l;have(n,q,J,r,t,v):=g it il;show ì st p.isList  (by exists m) λh' st' L=>?_;have(o,e,c,d):=id st';show#[u,rfl,r6  e c d ⋯ #[x,H,I.turned  (λb o f e=>(L.2 b f).trans e) n q r t v,G,#[rfl,λys N=>by rw[I.mO N j];show l],st',λb f=>(g b f).1]]
 .have((xs,j,l),u,m):=k;have(D,rv,p,hz):=I.list j;have(n,q,J,r,t,v):=g it il;have hl:=⇑rv;show Ia y (λz=>by simp_all) (I.Ny ea _ m).1 B C st p.isList ⋯ λh' O=>#[rfl,I.turned  (λb o f e=>O b o f e) n q r t v]
abbrev A5(K:W.Frag)(tl:TE)(ea:hH)(oe:Obj):TI:=λσ H R=>tl σ H λx b=>∃a,x=.ref a/\(∃xs,N_ K b a xs)/\R (Y8 K a ea oe) b
def A6(S:dg X N f scope)(t:X.A.handled≈.ref ea)(u:oe.data=.fields ws)(w:ws[2]?≈.none)(hl:PE X c tl)(y:∀C s H ex,PG (OA X N scope C s H ex) tg g)(z:∀C s H ex,RN (OA X N scope C s H ex) ifs B)(G:∀C s H ex,PE (OA X N scope C s H ex) elt J)
  (hs:∀x,Cd c X.env x=pure x):PE X (.ListComp elt [⟨tg,c,ifs,0⟩] scope pos) (sC ⇑f (A5 X.K tl ea oe) g B J):=by
 intro pins s σ H Q I h;show Wj   rfl hs (dG (S.cells I.ok)) S.kind S.names ?_;show ND (hl pins s σ H _ I h) λv s1 L=>?_;have(x,i,d,O,a,e,(xs,T),W):=L;subst e;cases O;have(Y,rv,p,hz):=d.list T;show VZ p.isList ?_;have j:∀k,Inv X pins σ i {s1 with heap:=s1.heap.push k}:=λk=>d.kept  λb o e=>dt _ e;have l:∀b∈[↥s1],gL X pins i b:=λb hb=>by
  rw[kr.mp hb];show d.yq (hY _) (d.Ny.fresh (hY _))
 show ji  S y z G (j _) (λC=>Ib (X:=OA X N _ C _ i _) a _ t u w) ⟨_,gj _ rfl,rfl,rfl⟩ l W ?_;intro D C s5 H5 ys Y m n q r T5 T6 T7 q5;have(m5,VN,_):=q.loc;show#[m5,VN,λh' sb=>#[.ref D,_,mW (j _) q (UL m.symm) (by rw[n];show ä _) (i9 (by rw[n,m];show TK _)) r T5 T6 T7 sb l,rfl,q5 D r]]
def A7{K}{bs:↑Bool}(hz:⇑bs<100)(j:H a≈.lst (bs.map V.bl))(k:∃u,H ea≈.Pf oe u)(q:∀p,H p=cc->Q (.ref p) (upd H p (.lst ((bs.filter id).map V.bl)))):sA 1 (Y8 K a ea oe) (kS 0) (tB (lQ 0)) (lQ 0) Q σ H:=by
 have c:N_ K H a (bs.map V.bl):=N_.of j;have hsz:(1000:Nat)<=c8:=⋯
 have hl:∀i,⇑((bs.take i).filter id)<=⇑bs:=λi=>qv (K' _ _) (by rw[VM];show ę _ _);show#[λi m ys H'=>H'=H/\m=⇑bs - i/\i<=⇑bs/\ys=((bs.take i).filter id).map V.bl,#[⇑bs,rfl,rfl,kj _,rfl],?_];rintro i m ys H' ⟨rfl,rfl,hi,rfl⟩;show#[by rw[ei];have:=hl i;lia,?_];by_cases b:i<⇑bs
 .show .inr #[#[_,.bl bs[i],c,by simp[b]],λg d=>d=H'/\g=((bs.take (i+1)).filter id).map V.bl,λg d ⟨l,n⟩=>#[⇑bs - (i+1),⋯,l,rfl,b,n],λx d f=>?_];have(rfl,f):=f;have h:=f _ c;rw[sd,Rv b]at h;cases h;show#[[bD (.bl bs[i])],rfl,rfl,.bl bs[i],rfl,bs[i],rfl,?_];rw[þ,Rv b];cases e:bs[i] with
  |true=>show#[_,rfl,by simp[e]]
  |false=>simp[e]
 .have:i=⇑bs:=⋯
  subst this;show .inl #[#[#[_,c,by simp],k],λp o=>by rw[Ą];show q p o]
end L2
namespace TM
open PySem L2
inductive U where
 |Nz|bl (b:Bool)|int (i:Int)|str (x:Str)
 |tup (xs:↑U)|lst (xs:↑U)
 |NA (ks:↑Str) (vs:↑U)
 |ob (d:Bool) (u:U) (us:↑U)
mutual
noncomputable def NY:U->Bool
 |.tup xs=>d6 xs
 |.lst _=>cK
 |.NA _ _=>cK
 |.ob _ _ _=>cK
 |.Nz=>b6|.bl _=>b6|.int _=>b6|.str _=>b6
noncomputable def d6:↑U->Bool
 |[]=>b6
 |u::us=>NY u&&d6 us
end
inductive Kd where|own|io|loc|any|bor (j:Nat)|A'
deriving DecidableEq
abbrev Kd.root:Kd->Bool
 |.own=>b6
 |.io=>b6
 |_=>cK
@[reducible]noncomputable def au:=↑(Option (Kd×U))
structure Ct where
 P:rS
 w:wk
 K:W.Frag
 H₀:Hp
 O7:hH->Prop
 IO:hH->Prop
 xw:U->Hp->Prop
abbrev KL(K:W.Frag)(a:hH)(xs:↑V):Prop :=
 ∃(o:Obj) (b:Array g8) (n:Nat),K.lookup a≈o/\o.cls=.type "list"/\o.dict=cc/\o.data=.seq b n/\b.size<=c8/\Vals xs b.toList
abbrev V2(K:W.Frag)(S:hH->Prop)(H:Hp)(a:hH)(vs:↑V):Prop:=(S a/\Rd H a (.lst vs))\/KL K a vs
def V2.sq(h:V2 K S H a vs):N_ K H a vs:=h.elim (λz=>.inl z.2) .inr
abbrev Tf(H:Hp)(R:↑V->Prop)(a:hH)(ks:↑Str):Prop:=∃kvs:↑(Key×V),H a≈.dK kvs/\kvs.map (·.1)=ks.map nC/\R (kvs.map (·.2))
section
variable(C:Ct)(S:hH->Prop)(H:Hp)
mutual
def Rep:U->V->Prop
 |.Nz,v=>v=.Nz
 |.bl b,v=>v=.bl b
 |.int i,v=>v=.int i
 |.str x,v=>v=.str x
 |.tup us,v=>∃a vs,v=.ref a/\Oi C.K H a vs/\aq us vs
 |.lst us,v=>∃a vs,v=.ref a/\V2 C.K S H a vs/\aq us vs
 |.NA ks us,v=>∃a,v=.ref a/\S a/\Tf H (aq us) a ks
 |.ob _ _ _,_=>False
def aq:↑U->↑V->Prop
 |[],vs=>vs=[]
 |u::us,vs=>∃v r,vs=v::r/\Rep u v/\aq us r
end
end
def Tp:HO->Prop
 |.tup _=>True
 |.Pf _ (.tup _)=>True
 |_=>False
structure Mv(S:hH->Prop)(H:Hp)(S':hH->Prop)(H':Hp):Prop where
 sub:∀a,S a->S' a
 U8:∀a o,H a≈o->Tp o->H' a≈o
 W8:∀a o,S a->H a≈o->H' a≈o
def Mv.sqT(m:Mv S H S' H')(h:Oi K H a vs):Oi K H' a vs:=by
 rcases h with(h|⟨o,h⟩)|h
 .show .inl (.inl (m.U8 a _ h ttt))
 .show .inl (.inr #[o,m.U8 a _ h ttt])
 .show .inr h
def Mv.lat(m:Mv S H S' H')(h:V2 K S H a vs):V2 K S' H' a vs:=by
 rcases h with⟨s,h|⟨o,h⟩⟩|h
 .show .inl #[m.sub a s,.inl (m.W8 a _ s h)]
 .show .inl #[m.sub a s,.inr #[o,m.W8 a _ s h]]
 .show .inr h
def Tf.mv(b:∀o,H a≈o->H' a≈o)(c:∀vs,R vs->d vs)(h:Tf H R a ks):Tf H' d a ks :=
 let ⟨kvs,e,f,g⟩:=h;⟨kvs,b _ e,f,c _ g⟩
mutual
theorem Rep.Tg(m:Mv S H S' H'):∀(u:U) (v:V),Rep C S H u v->Rep C S' H' u v
 |.Nz,_,h=>h
 |.bl _,_,h=>h
 |.int _,_,h=>h
 |.str _,_,h=>h
 |.tup us,v,h=>by
  have(a,vs,e,b,c):=h;show#[a,vs,e,m.sqT b,aq.Tg m us vs c]
 |.lst us,v,h=>by
  have(a,vs,e,b,c):=h;show#[a,vs,e,m.lat b,aq.Tg m us vs c]
 |.NA ks us,v,h=>by
  have(a,e,b,c):=h;show#[a,e,m.sub a b,c.mv (λo q=>m.W8 a o b q) λvs q=>aq.Tg m us vs q]
 |.ob _ _ _,_,h=>Hf h
theorem aq.Tg(m:Mv S H S' H'):∀(us:↑U) (vs:↑V),aq C S H us vs->aq C S' H' us vs
 |[],_,h=>h
 |u::us,vs,h=>by
  have(v,r,e,a,b):=h;show#[v,r,e,Rep.Tg m u v a,aq.Tg m us r b]
end
mutual
theorem Rep.yR:∀(u:U) (v:V),NY u=b6->Rep C S H u v->Rep C S' H u v
 |.Nz,_,_,h=>h
 |.bl _,_,_,h=>h
 |.int _,_,_,h=>h
 |.str _,_,_,h=>h
 |.tup us,v,i,h=>by
  have(a,vs,e,b,c):=h;show#[a,vs,e,b,aq.yR us vs (by simpa[TM.NY] using i) c]
 |.lst us,v,i,h=>by simp[TM.NY]at i
 |.NA ks us,v,i,h=>by simp[TM.NY]at i
 |.ob _ _ _,_,_,h=>Hf h
theorem aq.yR:∀(us:↑U) (vs:↑V),d6 us=b6->aq C S H us vs->aq C S' H us vs
 |[],_,_,h=>h
 |u::us,vs,i,h=>by
  have(v,r,e,b,c):=h;have a:TM.NY u=b6/\d6 us=b6:=by simpa[d6] using i
  show#[v,r,e,Rep.yR u v a.1 b,aq.yR us r a.2 c]
end
def Rep.mv(m:Mv S H S' H')(h:Rep C S H u v):Rep C S' H' u v:=Rep.Tg m u v h
def aq.mv(m:Mv S H S' H')(h:aq C S H us vs):aq C S' H' us vs:=aq.Tg m us vs h
def Rep.NY(i:TM.NY u=b6)(h:Rep C S H u v):Rep C S' H u v:=Rep.yR u v i h
def aq.NY(i:d6 us=b6)(h:aq C S H us vs):aq C S' H us vs:=aq.yR us vs i h
def Mv.up(sub:∀a,S a->S' a):Mv S H S' H:=#[sub,λ_ _ h _=>h,λ_ _ _ h=>h]
theorem aq.len:∀{us}{vs},aq C S H us vs->⇑us=⇑vs
 |[],_,h=>by cases h;rfl
 |u::us,vs,h=>by
  have(v,r,rfl,_,a):=h;rw[k9,k9,aq.len a]
theorem aq.get:∀{us}{vs}{i:Nat}{u},aq C S H us vs->us[i]?≈u->∃v,vs[i]?≈v/\Rep C S H u v
 |[],_,_,_,_,e=>by simp at e
 |u::us,vs,0,w,h,e=>by
  have(v,r,rfl,a,_):=h;simp at e;subst e;show#[v,rfl,a]
 |u::us,vs,i+1,w,h,e=>by
  have(v,r,rfl,_,b):=h;have(c,d,h'):=aq.get   b (by exists e);show#[c,by assumption,h']
theorem aq.append:∀{us ws}{vs ys},aq C S H us vs->aq C S H ws ys->aq C S H (us++ws) (vs++ys)
 |[],_,_,_,h,h'=>by cases h;show h'
 |u::us,ws,vs,ys,h,h'=>by
  have(v,r,rfl,a,b):=h;show#[v,_,rfl,a,b.append h']
theorem aq.take:∀{us}{vs} n,aq C S H us vs->aq C S H (us.take n) (vs.take n)
 |_,_,0,_=>by rfl
 |[],_,n+1,h=>by cases h;simp[aq]
 |u::us,vs,n+1,h=>by
  have(v,r,rfl,a,b):=h;show#[v,_,rfl,a,b.take n]
theorem aq.drop:∀{us}{vs} n,aq C S H us vs->aq C S H (us.drop n) (vs.drop n)
 |_,_,0,h=>h
 |[],_,n+1,h=>by cases h;rfl
 |u::us,vs,n+1,h=>by
  have(v,r,rfl,b,a):=h;show a.drop n
theorem aq.set:∀{us}{vs} n {u}{v},aq C S H us vs->Rep C S H u v->aq C S H (us.set n u) (vs.set n v)
 |[],_,n,_,_,h,_=>by cases h;rfl
 |u::us,vs,0,_,_,h,h'=>by
  have(v,r,rfl,b,a):=h;show#[_,r,rfl,h',a]
 |u::us,vs,n+1,_,_,h,h'=>by
  have(v,r,rfl,b,a):=h;show#[v,_,rfl,b,a.set n h']
def aq.snoc(h:aq C S H us vs)(h':Rep C S H u v):aq C S H (us++[u]) (vs++[v]):=h.append #[v,[],rfl,h',rfl]
theorem aq.strs:∀{xs:↑Str}{vs},aq C S H (xs.map .str) vs↔vs=xs.map V.str
 |[],vs=>by rfl
 |x::xs,vs=>by
  constructor
  .rintro⟨v,r,rfl,a,b⟩;rw[aq.strs.mp b];have:=a;rw[this];rfl
  .rintro rfl;show#[_,_,rfl,rfl,aq.strs.mpr rfl]
structure Ct.Eqv(C C':Ct):Prop where
 P:C.P=C'.P
 w:C.w=C'.w
 K:C.K=C'.K
mutual
theorem Rep.Th(q:C.Eqv d):∀(u:U) (v:V),Rep C S H u v->Rep d S H u v
 |.Nz,_,h=>h
 |.bl _,_,h=>h
 |.int _,_,h=>h
 |.str _,_,h=>h
 |.tup us,v,h=>by
  have(a,vs,e,b,c):=h;show#[a,vs,e,q.K▸b,aq.Th q us vs c]
 |.lst us,v,h=>by
  have(a,vs,e,b,c):=h;show#[a,vs,e,q.K▸b,aq.Th q us vs c]
 |.NA ks us,v,h=>by
  have(a,e,b,c):=h;show#[a,e,b,c.mv (λ_ q=>q) λvs z=>aq.Th q us vs z]
 |.ob _ _ _,_,h=>Hf h
theorem aq.Th(q:C.Eqv a):∀(us:↑U) (vs:↑V),aq C S H us vs->aq a S H us vs
 |[],_,h=>h
 |u::us,vs,h=>by
  have(v,r,e,b,c):=h;show#[v,r,e,Rep.Th q u v b,aq.Th q us r c]
end
def Rep.cg(q:C.Eqv a)(h:Rep C S H u v):Rep a S H u v:=Rep.Th q u v h
def aq.cg(q:C.Eqv a)(h:aq C S H us vs):aq a S H us vs:=aq.Th q us vs h
def eE(C:Ct)(S:hH->Prop)(H:Hp)(r:hH):U->Prop
 |.lst us=>∃vs,H r≈.lst vs/\aq C S H us vs
 |.NA ks us=>Tf H (aq C S H us) r ks
 |_=>False
def eE.mv(m:Mv S H S' H')(a:∀o,H r≈o->H' r≈o)(h:eE C S H r u):eE C S' H' r u:=by
 cases u with
 |lst us=>have(vs,b,c):=h;show#[vs,a _ b,c.mv m]
 |NA ks us=>show Tf.mv a (λvs q=>q.mv m) h
 |_=>show h
def eE.rep(hs:∀a,S a->S' a)(b:S' r)(h:eE C S H r u):Rep C S' H u (.ref r):=by
 cases u with
 |lst us=>have(vs,c,d):=h;show#[r,vs,rfl,.inl #[b,.inl c],d.mv (.up hs)]
 |NA ks us=>show#[r,rfl,b,Tf.mv (λ_ q=>q) (λvs q=>q.mv (.up hs)) h]
 |_=>show h.elim
def eE.cg(q:C.Eqv a)(h:eE C S H r u):eE a S H r u:=by
 cases u with
 |lst us=>have(vs,b,c):=h;show#[vs,b,c.cg q]
 |NA ks us=>show Tf.mv (λ_ q=>q) (λvs z=>z.cg q) h
 |_=>show h
def eE.some(h:eE C S H r u):∃o,H r≈o/\¬Tp o:=by
 cases u with
 |lst us=>have(vs,a,_):=h;show#[_,a,λz=>z]
 |NA ks us=>have(kvs,a,_):=h;show#[_,a,λz=>z]
 |_=>show h.elim
structure Cf where
 S:hH->Prop
 H:Hp
 σ:St
 st:au
 kid:Nat->↑hH
inductive R1s(st:au)(σ:St)(a:hH):Prop
 |mk:∀(j:Nat) (k:Kd) (u:U),k.root=b6->st[j]?≈bD (k,u)->σ[j]?≈bD (.ref a)->R1s st σ a
abbrev Cf.R1(c:Cf)(a:hH):Prop:=R1s c.st c.σ a
inductive RDj(st:au)(σ:St)(ks:↑hH)(j:Nat)(a:hH):Prop
 |mk:∀(u:U) (r:hH),st[j]?≈bD (.A',u)->σ[j]?≈bD (.ref r)->(a=r\/a∈ks)->RDj st σ ks j a
abbrev Cf.RD(c:Cf)(j:Nat)(a:hH):Prop:=RDj c.st c.σ (c.kid j) j a
abbrev Cf.R(c:Cf)(a:hH):Prop:=c.R1 a\/∃j,c.RD j a
abbrev PS(C:Ct)(S:hH->Prop):hH->Prop:=λa=>C.O7 a\/S a
def jq(C:Ct)(S:hH->Prop)(H:Hp):Kd->U->V->Prop
 |.own,u,v=>∃r,v=.ref r/\¬S r/\¬C.O7 r/\C.H₀ r=cc/\eE C S H r u
 |.io,u,v=>∃r,v=.ref r/\¬S r/\¬C.O7 r/\C.IO r/\eE C S H r u
 |.loc,u,v=>Rep C S H u v
 |.any,u,v=>Rep C (PS C S) H u v
 |.bor _,_,_=>False
 |.A',_,v=>∃r,v=.ref r
def d7(C:Ct)(S:hH->Prop)(H:Hp):↑U->↑hH->Prop
 |[],as=>as=[]
 |u::us,as=>∃a as' ys vs,as=a::as'/\u=.lst ys/\H a≈.lst vs/\aq C S H ys vs/\d7 C S H us as'
abbrev Ro(K:W.Frag)(d:Bool)(cl:hH):Prop:=W.nsIn K i5 (if d=b6 then "Desk" else "Shelf")≈bD (.ref cl)
abbrev Ti(v:V)(a:hH):↑(Str×V):=[("rows",v),("earlier",.ref a)]
structure QN(C:Ct)(S:hH->Prop)(H:Hp)(r a:hH)(u:U)(us:↑U)(cl dx:hH)(v:V)(vs:↑V):Prop where
 hc:Ro C.K cK cl
 ins:H r≈.ins cl dx (Ti v a)
 ne:r≠a
 fr:∀x∈[r,a],¬S x/\¬C.O7 x/\(C.H₀ x=cc\/C.IO x)
 im:NY u=b6
 rep:Rep C S H u v
 lst:H a≈.lst vs
 V3:d6 us=b6
 PF:aq C S H us vs
structure DkR(C:Ct)(S:hH->Prop)(H:Hp)(r s a:hH)(cd dd:hH):Prop where
 hc:Ro C.K b6 cd
 ins:H r≈.ins cd dd [("shelf",.ref s)]
 ne:r≠s
 na:r≠a
 fr:¬S r/\¬C.O7 r/\(C.H₀ r=cc\/C.IO r)
def QN.mv(m:Mv S H S' H')(b:∀x∈[r,a],¬S' x/\∀o,H x≈o->H' x≈o)(h:QN C S H r a u us cl d v vs):QN C S' H' r a u us cl d v vs :=
 #[h.hc,(b r ⋯).2 _ h.ins,h.ne,λx c=>#[(b x c).1,(h.fr x c).2],h.im,h.rep.mv m,(b a ⋯).2 _ h.lst,h.V3,h.PF.mv m]
def QN.there(h:QN C S H r a u us cl b v vs):∀x∈[r,a],∃o,H x≈o/\¬Tp o:=λx hx=>by
 rcases eT.mp hx with rfl|hx
 .show#[_,h.ins,λz=>z]
 .rw[kr.mp hx];show#[_,h.lst,λz=>z]
def ba(C:Ct)(S:hH->Prop)(H:Hp)(r:hH)(as:↑hH):U->Prop
 |.NA ks us=>∃kvs:↑(Key×V),H r≈.dK kvs/\kvs.map (·.1)=ks.map nC/\kvs.map (·.2)=as.map V.ref/\(r::as).Nodup/\(∀a∈r::as,¬S a/\¬C.O7 a/\C.H₀ a=cc)/\d7 C S H us as
 |.ob cK u us=>∃cl b v a vs,as=[a]/\QN C S H r a u us cl b v vs
 |.ob b6 u us=>∃c dd s cl b v a vs,as=[s,a]/\DkR C S H r s a c dd/\QN C S H s a u us cl b v vs
 |_=>False
structure QO(C:Ct)(c:Cf):Prop where
 kd:∀(j:Nat) (u:U) (r:hH),c.st[j]?≈bD (.A',u)->c.σ[j]?≈bD (.ref r)->ba C c.S c.H r (c.kid j) u
 dj:∀(i j:Nat) (a:hH),c.RD i a->c.RD j a->i=j
 d1:∀(j:Nat) (a:hH),c.RD j a->¬c.R1 a
inductive Y_(C:Ct)(S:hH->Prop)(H:Hp)(σ:St)(i:Nat)(k:Kd)(u:U):Prop
 |mk:∀v,σ[i]?≈bD v->jq C S H k u v->Y_ C S H σ i k u
structure Ok(C:Ct)(c:Cf):Prop where
 same:∀a o,C.H₀ a≈o->¬C.IO a->c.H a≈o
 O8:∀a,c.S a->C.H₀ a=cc/\∃o,c.H a≈o
 par:∀a,C.O7 a->(∃o,C.H₀ a≈o)/\¬C.IO a
 io:∀a,C.IO a->(∃o,C.H₀ a≈o)/\∃o,c.H a≈o
 len:⇑c.st=⇑c.σ
 sl:∀(i:Nat) (k:Kd) (u:U),c.st[i]?≈bD (k,u)->Y_ C c.S c.H c.σ i k u
 inj:∀(i j:Nat) (k k':Kd) (u u':U) (r:hH),k.root=b6->k'.root=b6->c.st[i]?≈bD (k,u)->c.st[j]?≈bD (k',u')->c.σ[i]?≈bD (.ref r)->c.σ[j]?≈bD (.ref r)->i=j
 dd:QO C c
structure Ns(c c':Cf):Prop where
 keep:∀a o,c.H a≈o->¬c.R a->c'.H a≈o
 there:∀a o,c.H a≈o->∃o',c'.H a≈o'
 roots:∀a,c'.R a->c.R a\/c.H a=cc
 sub:∀a,c.S a->c'.S a
 new:∀a,c'.S a->c.S a\/c.R a\/c.H a=cc
def Ns.refl(c:Cf):Ns c c:=#[λ_ _ h _=>h,λ_ o h=>#[o,h],λ_ h=>.inl h,λ_ h=>h,λ_ h=>.inl h]
def Ns.none(n:Ns c b)(h:b.H a=.none):c.H a=.none:=by
 cases e:c.H a with
 |none=>rfl
 |some o=>have(d,q):=n.there a o e;simp_all
def Ns.trans(m:Ns c d)(n:Ns d e):Ns c e where
 keep:=λa o h b=>by
  show n.keep a o (m.keep a o h b) λz=>?_;rcases m.roots a z with z|z
  .show b z
  simp_all
 there:=λa o h=>let ⟨f,h'⟩:=m.there a o h;n.there a f h'
 roots:=λa h=>by
  rcases n.roots a h with z|z
  .show m.roots a z
  .show .inr (m.none z)
 sub:=λa h=>n.sub a (m.sub a h)
 new:=λa h=>by
  rcases n.new a h with z|z|z
  .show m.new a z
  .rcases m.roots a z with z|z
   .show .inr (.inl z)
   .show .inr (.inr z)
  .show .inr (.inr (m.none z))
inductive Y'(C:Ct)(S:hH->Prop)(H:Hp)(u:U)(v:V):Prop
 |mk:∀r,v=.ref r->¬S r->¬C.O7 r->(C.H₀ r=cc\/C.IO r)->eE C S H r u->Y' C S H u v
def jq.rt(hk:k.root=b6)(h:jq C S H k u v):Y' C S H u v:=by
 cases k with
 |own=>have(r,a,b,c,d,e):=h;show#[r,a,b,c,.inl d,e]
 |io=>have(r,a,b,c,d,e):=h;show#[r,a,b,c,.inr d,e]
 |_=>cases hk
theorem d7.mem:∀{us}{as}{a},d7 C S H us as->a∈as->∃vs,H a≈.lst vs
 |[],as,a,h,ha=>by cases h;cases ha
 |u::us,as,a,h,ha=>by
  have(a',as',ys,vs,rfl,_,b,_,c):=h;rcases eT.mp ha with rfl|ha
  .show#[vs,b]
  .show d7.mem c ha
theorem d7.mv(m:Mv S H S' H'):∀{us}{as},(∀a∈as,∀o,H a≈o->H' a≈o)->d7 C S H us as->d7 C S' H' us as
 |[],as,_,h=>h
 |u::us,as,b,h=>by
  have(a,as',ys,vs,rfl,e,c,d,f):=h;show#[a,as',ys,vs,rfl,e,b a ⋯ _ c,d.mv m,d7.mv m (λa g=>b a (by simp[g])) f]
def ba.fr(h:ba C S H r as u):∀a∈r::as,¬S a/\¬C.O7 a/\(C.H₀ a=cc\/C.IO a):=by
 cases u with
 |NA ks us=>have(kvs,_,_,_,_,b,_):=h;show λa c=>let ⟨p,q,r⟩:=b a c;⟨p,q,.inl r⟩
 |ob d u us =>
  cases d with
  |false=>have(_,_,_,_,_,rfl,h):=h;show h.fr
  |true=>have(_,_,_,_,_,_,_,_,rfl,k,h):=h;show λx e=>(eT.mp e).elim (λz=>z▸k.fr) (h.fr x)
 |_=>show h.elim
def ba.Za(h:ba C S H r as (.NA ks us)):∀a∈r::as,¬S a/\¬C.O7 a/\C.H₀ a=cc:=by
 have(kvs,_,_,_,_,b,_):=h;show b
def ba.there(h:ba C S H r as u):∀a∈r::as,∃o,H a≈o/\¬Tp o:=by
 cases u with
 |NA ks us =>
  have(kvs,b,_,_,_,_,c):=h;intro a ha;rcases eT.mp ha with rfl|ha
  .show#[_,b,λz=>z]
  .have(vs,e):=c.mem ha;show#[_,e,λz=>z]
 |ob d u us =>
  cases d with
  |false=>have(_,_,_,_,_,rfl,h):=h;show h.there
  |true=>have(_,_,_,_,_,_,_,_,rfl,k,h):=h;show λx f=>(eT.mp f).elim (λz=>z▸⟨_,k.ins,λz=>z⟩) (h.there x)
 |_=>show h.elim
def ba.mv(m:Mv S H S' H')(b:∀a∈r::as,¬S' a/\∀o,H a≈o->H' a≈o)(h:ba C S H r as u):ba C S' H' r as u:=by
 cases u with
 |NA ks us =>
  have(kvs,e,f,g,i,j,l):=h;show#[kvs,(b r ⋯).2 _ e,f,g,i,λa c=>#[(b a c).1,(j a c).2],l.mv m λa c=>(b a (by simp[c])).2]
 |ob d u us =>
  cases d with
  |false=>have(_,_,_,_,_,rfl,h):=h;show#[_,_,_,_,_,rfl,h.mv m b]
  |true =>
   have(_,_,_,_,_,_,_,_,rfl,k,h):=h;show#[_,_,_,_,_,_,_,_,rfl,#[k.hc,(b r ⋯).2 _ k.ins,k.ne,k.na,(b r ⋯).1,k.fr.2],h.mv m λx n=>b x (f7 _ n)]
 |_=>show h.elim
def QO.of(d:QO C c)(hk:e.kid=c.kid)(l:∀(j:Nat) u,e.st[j]?≈bD (.A',u)->c.st[j]?≈bD (.A',u)/\e.σ[j]?=c.σ[j]?)(p:∀a,e.R1 a->c.R1 a\/∀j,¬c.RD j a)
  (m:Mv c.S c.H e.S e.H) (q:∀j a,c.RD j a->¬e.S a/\∀o,c.H a≈o->e.H a≈o):QO C e:=by
 have b:∀j a,e.RD j a->c.RD j a:=λj a s=>by
  have(u,r,h,f,n):=s;have(g,k):=l j u h;rw[k]at f;rw[hk]at n;show#[u,r,g,f,n]
 show#[λj u r h f=>?_,λi j a z1 z2=>d.dj i j a (b i a z1) (b j a z2),λj a z1 z2=>?_]
 .have(g,k):=l j u h;rw[k]at f;rw[hk];show ba.mv m (λa t=>q j a #[u,r,g,f,eT.mp t]) (d.kd j u r g f)
 .rcases p a z2 with z|z
  .show d.d1 j a (b j a z1) z
  .show z j (b j a z1)
def QO.hs(d:QO C c)(m:Mv c.S c.H S' H')(b:∀j a,c.RD j a->¬S' a/\∀o,c.H a≈o->H' a≈o):QO C {c with H:=H',S:=S' } :=
 d.of rfl (λ_ _ e=>#[e,rfl]) (λ_ z=>.inl z) m b
def Ok.root(f:Ok C c)(h:c.R r):¬c.S r/\¬C.O7 r/\(C.H₀ r=cc\/C.IO r)/\∃o,c.H r≈o/\¬Tp o:=by
 rcases h with⟨j,k,u,hk,b,d⟩|⟨j,u,g,b,d,a⟩
 .have(v,e,hs):=f.sl j _ _ b;have(g,ev,a,l,m,n):=hs.rt hk;rw[d]at e;cases e;cases ev;show#[a,l,m,n.some]
 .have i:=f.dd.kd j u g b d;have(p,q,s):=ba.fr i r (eT.mpr a);show#[p,q,s,ba.there i r (eT.mpr a)]
def Ok.mv(b:Ok C c)(n:Ns c d):Mv c.S c.H d.S d.H:=#[n.sub,λa o h t=>n.keep a o h λz=>by
  have(_,_,_,e,h',f):=b.root z;simp_all,λa o s h=>n.keep a o h λz=>(b.root z).1 s]
def Ok.Sr(b:Ok C c)(n:Ns c d):Mv (PS C c.S) c.H (PS C d.S) d.H:=#[λa h=>h.imp id (n.sub a),(b.mv n).U8,λa o s h=>n.keep a o h λz=>by
  rcases s with s|s
  .show(b.root z).2.1 s
  .show(b.root z).1 s]
def Ok.jP(a:Ok C c)(h:c.H p=cc):C.H₀ p=cc/\¬c.S p/\¬C.O7 p/\¬C.IO p/\¬c.R p:=by
 have b:¬C.IO p:=λz=>by have(_,o,q):=a.io p z;simp_all
 have h0:C.H₀ p=cc:=by
  cases e:C.H₀ p with
  |none=>rfl
  |some o=>have:=a.same p o e b;simp_all
 show#[h0,λz=>?_,λz=>?_,b,λz=>?_]
 .have(_,o,q):=a.O8 p z;simp_all
 .have((o,q),_):=a.par p z;simp_all
 .have(_,_,_,o,q,_):=a.root z;simp_all
def jq.mv(m:Mv S H S' H')(i:Mv (PS C S) H (PS C S') H')(g:k.root=b6->∀r,v=.ref r->¬S' r/\∀o,H r≈o->H' r≈o)(h:jq C S H k u v):jq C S' H' k u v:=by
 cases k with
 |own =>
  have(r,e,l,a,b,c):=h;have(d,f):=g rfl r e;show#[r,e,d,a,b,c.mv m f]
 |io =>
  have(r,e,l,a,b,c):=h;have(d,f):=g rfl r e;show#[r,e,d,a,b,c.mv m f]
 |loc=>show Rep.mv m h
 |any=>show Rep.mv i h
 |bor j=>show h.elim
 |A'=>show h
structure Nx(c c':Cf):Prop extends Ns c c' where
instance {c a:Cf}:Coe (Nx c a) (Ns c a):=#[Nx.toNs]
def Nx.refl(c:Cf):Nx c c:=#[.refl c]
def Nx.trans(m:Nx c a)(n:Nx a b):Nx c b:=#[m.toNs.trans n.toNs]
def Nx.none(n:Nx c b)(h:b.H a=.none):c.H a=.none:=n.toNs.none h
def Ok.lay(d:Ok C c)(h:c.H p=cc):Ok C {c with H:=upd c.H p o}/\Nx c {c with H:=upd c.H p o}:=by
 have ne:∀{a:hH} {b:HO},c.H a≈b->a≠p:=λe z=>by subst z;rw[h]at e;cases e
 have f:∀a b,c.H a≈b->(upd c.H p o) a≈b:=λa b e=>by rw[ai (ne e)];show e
 have nx:Nx c {c with H:=upd c.H p o}:=#[#[λa b e _=>f a b e,λa b e=>#[b,f a b e],λa z=>.inl z,λ_ z=>z,λ_ z=>.inl z]]
 show#[#[λa b e z=>f a b (d.same a b e z),λa z=>#[(d.O8 a z).1,let ⟨b,q⟩:=(d.O8 a z).2;⟨b,f a b q⟩],d.par,λa z=>#[(d.io a z).1,let ⟨b,q⟩:=(d.io a z).2;⟨b,f a b q⟩],d.len,λi k u e=>?_,d.inj,d.dd.hs (d.mv nx.toNs) λj a z=>#[(d.root (.inr #[j,z])).1,λb e=>f a b e]],nx];have(v,m,g):=d.sl i k u e;show#[v,m,g.mv (d.mv nx.toNs) (d.Sr nx.toNs) λhk r n=>?_];have(t,l,s,_):=g.rt hk;rw[n]at l;cases l;show#[s,λb e=>f r b e]
def Ok.grow(d:Ok C c)(hs:fW c.H H')(h:∀a,S' a->c.S a\/(c.H a=cc/\∃o,H' a≈o))(s:∀a,c.S a->S' a):Ok C {c with H:=H',S:=S' }/\Nx c {c with H:=H',S:=S' }:=by
 have nx:Nx c {c with H:=H',S:=S' }:=#[#[λa b e _=>hs a b e,λa b e=>#[b,hs a b e],λa z=>.inl z,s,λa z=>(h a z).imp id λq=>.inr q.1]]
 show#[#[λa b e z=>hs a b (d.same a b e z),λa z=>?_,d.par,λa z=>#[(d.io a z).1,let ⟨b,q⟩:=(d.io a z).2;⟨b,hs a b q⟩],d.len,λi k u e=>?_,d.inj,d.dd.hs (d.mv nx.toNs) λj a z=>#[λf=>?_,λb e=>hs a b e]],nx]
 rotate_left 2
 .have(g,_,_,o,l,_):=d.root (.inr #[j,z]);rcases h a f with f|⟨f,_⟩
  .show g f
  .rw[l]at f;cases f
 .rcases h a z with q|⟨g,m⟩
  .show#[(d.O8 a q).1,let ⟨b,q⟩:=(d.O8 a q).2;⟨b,hs a b q⟩]
  .show#[(d.jP g).1,m]
 .have(v,t,n):=d.sl i k u e;show#[v,t,n.mv (d.mv nx.toNs) (d.Sr nx.toNs) λhk r w=>?_];have(x,p,g,m,y,l):=n.rt hk;rw[w]at p;cases p;have(o,ho,_):=l.some;show#[λz=>?_,λb e=>hs r b e];rcases h r z with z|⟨z,_⟩
  .show g z
  .rw[z]at ho;cases ho
def aM(C:Ct)(c0 c:Cf):Kd->U->V->Prop
 |.own,u,v=>∃r,v=.ref r/\c0.H r=cc/\¬c.S r/\¬c.R r/\eE C c.S c.H r u
 |.loc,u,v=>Rep C c.S c.H u v
 |.any,u,v=>Rep C (PS C c.S) c.H u v
 |.bor j,u,v=>(∃k:Kd,k.root=b6/\c.st[j]?≈bD (k,u))/\c.σ[j]?≈bD v
 |.io,_,_=>False
 |.A',_,_=>False
def gT(C:Ct)(c0 c:Cf):Kd->U->V->Prop
 |.own,u,v=>∃r,v=.ref r/\c0.H r=cc/\¬c.S r/\¬c.R r/\eE C c.S c.H r u
 |.loc,u,v=>Rep C c.S c.H u v
 |.any,u,v=>Rep C (PS C c.S) c.H u v
 |.bor j,u,v=>c.σ[j]?≈bD v
 |.io,_,_=>False
 |.A',_,_=>False
def aM.w(h:aM C c0 c k u v):gT C c0 c k u v:=by
 cases k with
 |bor j=>show h.2
 |_=>show h
def gT.on'(a:Ok C c)(n:Ns c b)(g:∀j,k=.bor j->b.σ[j]?=c.σ[j]?)(h:gT C c0 c k u v):gT C c0 b k u v:=by
 cases k with
 |own =>
  have(r,e,i,l,d,f):=h;have(o,ho,_):=f.some;show#[r,e,i,λz=>?_,λz=>?_,f.mv (a.mv n) λo q=>n.keep r o q d]
  .rcases n.new r z with z|z|z
   .show l z
   .show d z
   simp_all
  .rcases n.roots r z with z|z
   .show d z
   simp_all
 |loc=>show Rep.mv (a.mv n) h
 |any=>show Rep.mv (a.Sr n) h
 |bor j=>change b.σ[j]?=_;rw[g j rfl];show h
 |_=>show h
def gT.on(b:Ok C c)(n:Ns c a)(d:a.σ=c.σ)(h:gT C c0 c k u v):gT C c0 a k u v:=h.on' b n λj _=>by rw[d]
def gT.from(n:Ns c0 c1)(h:gT C c1 c k u v):gT C c0 c k u v:=by
 cases k with
 |own=>have(r,e,a,b):=h;show#[r,e,n.none a,b]
 |_=>show h
def aM.from(n:Ns c0 c1)(h:aM C c1 c k u v):aM C c0 c k u v:=by
 cases k with
 |own=>have(r,e,a,b):=h;show#[r,e,n.none a,b]
 |_=>show h
def SK(C:Ct)(c:Cf):Kd->hH->Prop
 |.any=>PS C c.S
 |_=>c.S
abbrev kE:Kd->Kd
 |.any=>.any
 |_=>.loc
def Ok.rootOf(b:Ok C c){j:Nat}(h:∃k,k.root=b6/\c.st[j]?≈bD (k,u))(e:c.σ[j]?≈bD v):Y' C c.S c.H u v:=by
 have(k,hk,h):=h;have(f,a,d):=b.sl j _ _ h;rw[e]at a;cases a;show d.rt hk
inductive RtL(C:Ct)(c:Cf)(k:Kd)(us:↑U)(v:V):Prop
 |mk:∀a vs,v=.ref a->N_ C.K c.H a vs->aq C (SK C c k) c.H us vs->RtL C c k us v
def aM.list(f:Ok C c)(h:aM C c0 c k (.lst us) v):RtL C c k us v:=by
 cases k with
 |own=>have(r,e,_,_,_,vs,b,d):=h;show#[r,vs,e,N_.of b,d]
 |bor j=>have(r,e,_,_,_,vs,b,d):=f.rootOf h.1 h.2;show#[r,vs,e,N_.of b,d]
 |io=>show h.elim
 |A'=>show h.elim
 |_=>have(a,vs,e,b,d):=h;show#[a,vs,e,b.sq,d]
inductive RtT(C:Ct)(c:Cf)(k:Kd)(us:↑U)(v:V):Prop
 |mk:∀a vs,v=.ref a->Oi C.K c.H a vs->aq C (SK C c k) c.H us vs->RtT C c k us v
def aM.tuple(b:Ok C c)(h:aM C c0 c k (.tup us) v):RtT C c k us v:=by
 cases k with
 |own=>have(r,e,_,_,_,h):=h;show h.elim
 |bor j=>have(r,e,_,_,_,h):=b.rootOf h.1 h.2;show h.elim
 |io=>show h.elim
 |A'=>show h.elim
 |_=>have(a,vs,e,d,f):=h;show#[a,vs,e,d,f]
def aM.flat(b:Ok C c)(a:NY u=b6)(h:aM C c0 c k u v):Rep C c.S c.H u v:=by
 cases k with
 |own=>have(r,e,_,_,_,h):=h;cases u<;>simp[NY]at a<;>show h.elim
 |loc=>show h
 |any=>show Rep.NY a h
 |bor j=>have(r,e,_,_,_,h):=b.rootOf h.1 h.2;cases u<;>simp[NY]at a<;>show h.elim
 |_=>show h.elim
def aM.int(a:Ok C c)(h:aM C c0 c k (.int i) v):v=.int i:=h.flat a rfl
def aM.str(a:Ok C c)(h:aM C c0 c k (.str x) v):v=.str x:=h.flat a rfl
def aM.bl(a:Ok C c)(h:aM C c0 c k (.bl b) v):v=.bl b:=h.flat a rfl
def aM.Nz(a:Ok C c)(h:aM C c0 c k .Nz v):v=.Nz:=h.flat a rfl
def aM.item(h:Rep C (SK C c k) c.H u v):aM C c0 c (kE k) u v:=by
 cases k<;>show h
abbrev PV(H:Hp):hH->Prop:=λa=>∃o,H a≈o
def Ok.A8(b:Ok C c):∀a,c.S a->PV c.H a:=λa h=>(b.O8 a h).2
def Ok.KR(b:Ok C c):∀a,PS C c.S a->PV c.H a:=λa h=>by
 rcases h with h|h
 .have((o,e),n):=b.par a h;show#[o,b.same a o e n]
 .show b.A8 a h
def aM.read(a:Ok C c)(h:aM C c0 c k u v):Rep C (PV c.H) c.H u v:=by
 cases k with
 |own =>
  have(r,e,_,_,_,b):=h;rw[e];have(o,ho,_):=b.some;show b.rep a.A8 #[o,ho]
 |loc=>show Rep.mv (.up a.A8) h
 |any=>show Rep.mv (.up a.KR) h
 |bor j =>
  have(r,e,_,_,_,b):=a.rootOf h.1 h.2;rw[e];have(o,ho,_):=b.some;show b.rep a.A8 #[o,ho]
 |_=>show h.elim
def Ok.newList(a:Ok C c)(n:Nx c0 c)(h:c.H p=cc)(d:aq C c.S c.H us vs):
  Ok C {c with H:=upd c.H p (.lst vs)}/\Nx c0 {c with H:=upd c.H p (.lst vs)}/\aM C c0 {c with H:=upd c.H p (.lst vs)} .own (.lst us) (.ref p):=by
 have(e,b):=a.lay  h;have(h0,f,i,j,g):=a.jP h;show#[e,n.trans b,p,rfl,n.none h,f,g,vs,aj,d.mv (a.mv b.toNs)]
def Ok.A9(a:Ok C c)(n:Nx c0 c)(h:c.H p=cc)(d:aq C c.S c.H us vs):
  Ok C {c with H:=upd c.H p (.tup vs)}/\Nx c0 {c with H:=upd c.H p (.tup vs)}/\aM C c0 {c with H:=upd c.H p (.tup vs)} .loc (.tup us) (.ref p):=by
 have(e,b):=a.lay  h;show#[e,n.trans b,p,vs,rfl,Oi.of aj,d.mv (a.mv b.toNs)]
inductive Ex(α:Type) where|ok (a:α)|exc (c:Str)
abbrev M(α:Type):=au->Option (Ex α×au)
namespace M
abbrev pure(a:α):M α:=λst=>bD (.ok a,st)
abbrev fail:M α:=λ_=>cc
abbrev bind(m:M α)(f:α->M β):M β:=λst=>match m st with
 |none=>cc
 |some (.ok a,st')=>f a st'
 |some (.exc c,st')=>bD (.exc c,st')
abbrev N1(o:Option α):M α:=λst=>match o with
 |none=>cc
 |some a=>bD (.ok a,st)
end M
noncomputable instance:Monad M:={pure:=M.pure,bind:=M.bind}
inductive W{α:Type}(m:M α)(st:au)(Q:α->au->Prop):Prop
 |mk:∀a st',m st≈(.ok a,st')->Q a st'->W m st Q
def ao:W (pure a) st Q↔Q a st:=by
 constructor
 .rintro⟨b,st',e,h⟩;cases e;show h
 .intro h;show#[a,st,rfl,h]
def ag:W (m >>= f) st Q↔W m st λa st'=>W (f a) st' Q:=by
 constructor
 .rintro⟨b,st',e,h⟩;have d:M.bind m f st≈_:=e;unfold M.bind at d;cases q:m st with
  |none=>simp_all
  |some r =>
   have(r,s1):=r;rw[q]at d;cases r with
   |ok a=>show#[a,s1,q,b,st',d,h]
   |exc c=>cases d
 .rintro⟨a,s1,q,b,st',e,h⟩;show#[b,st',?_,h];change M.bind m f st=_;unfold M.bind;rw[q];show e
def cy:W (M.N1 o) st Q↔∃a,o≈a/\Q a st:=by
 cases o with
 |none=>show#[λ⟨_,_,e,_⟩=>(by cases e),λ⟨_,e,_⟩=>(by cases e)]
 |some a=>show#[λ⟨_,_,e,h⟩=>(by cases e;show#[a,rfl,h]),λ⟨_,e,h⟩=>(by cases e;show#[a,st,rfl,h])]
def bf:W (M.fail:M α) st Q↔False:=#[λ⟨_,_,e,_⟩=>(by cases e),Hf]
def W.mono(h:W m st Q)(i:∀a s,Q a s->b a s):W m st b:=let ⟨a,s,e,q⟩:=h;⟨a,s,e,i a s q⟩
inductive W9 where|add|sub|mul|Qm|mod|pow
deriving DecidableEq
inductive V4 where|eq|ne|lt|le|gt|ge|isin|NH|is|Ud
deriving DecidableEq
inductive Bf where|len|sorted|list|tuple|str|int|repr|max|min|all|any
deriving DecidableEq
inductive B2 where|PX|Rp|sset|jg
deriving DecidableEq
inductive Mf where|split|join|partition|endswith
deriving DecidableEq
inductive Ss where|str
deriving DecidableEq
inductive Ik where|seq|Ol|Su|Tj|zip|rev
deriving DecidableEq
inductive E where
 |var (i:Nat)
 |cst (u:U)
 |PM (x:Str) (u:U)
 |bin (op:W9) (a b:E)
 |cmp (op:V4) (a b:E)
 |Qn (o1 o2:V4) (a b c:E)
 |and (es:↑E)|or (es:↑E)|not (a:E)
 |ite (c a b:E)
 |tup (es:↑E)|lst (es:↑E)|PY (r:Bool)
 |idx (a b:E)
 |Po (a:E) (lo hi:↑E)
 |bi (f:Bf) (es:↑E)
 |Rq (f:B2) (es:↑E)
 |OX (m:Mf) (a:E) (es:↑E)
 |call (f:Str) (es:↑E)
 |comp (k:Nat) (t:Bool) (ik:Ik) (src:↑E) (cond:↑E) (e:E)
 |neg (a:E)|bad|Tn (a:E) (T:Ss)|fst (es:↑E)|inD (neg:Bool) (a:E) (i:Nat)|U9 (i:Nat)|Qo (i:Nat) (k d:E)|U_ (i:Nat)|W_ (ln:Bool) (a b:E)
 |pop (i:Nat)|Sv (i:Nat) (e:E)|To (f:Str) (es:↑E)
 |OD (i:Nat)|PZ (i:Nat)|lX (i:Nat)|Pc (f:Str) (i:Nat) (es:↑E)|QP (d:Bool) (f m:Str) (i:Nat) (es:↑E)|Qb (f m:Str) (i:Nat) (js:↑(Nat×Nat))
inductive RE where
 |mt (d:Bool) (f m:Str) (i:Nat) (es:↑E)
 |Qb (f m:Str) (i:Nat) (js:↑(Nat×Nat))
 |arg (f:Str) (r:RE)
 |QQ (r:RE)
inductive S where
 |set (i:Nat) (e:E)
 |Qp (is:↑Nat) (e:E)
 |put (i:Nat) (k v:E)
 |app (i:Nat) (e:E)|ext (i:Nat) (e:E)|bad|newD (i:Nat)|putD (i:Nat) (k v:E)|P0 (i:Nat) (k v:E)|aug (sub:Bool) (i:Nat) (k v:E)|W' (i:Nat)
 |exp (e:E)
 |ret (e:E)|Sw
 |ite (c:E) (a b:↑S)
 |Oh (t:Bool) (is:↑Nat) (ik:Ik) (src:↑E) (body:↑S)
 |Ue (c:E) (body:↑S)
 |brk|cnt|Xa
 |U' (is:↑Nat)
 |Rr (c:Str) (e:E)
 |O4 (r:RE)|Sx (i:Nat) (c:Str) (b:E) (c1 c2:Str)|Qq|PH (i:Nat)|QR (i:Nat) (e:E)|QS (i:Nat)
 |RS (r:RE) (i:Nat) (x:Str) (Qr:↑(Str×Nat)) (j k:Nat) (Ds:List ↑Str) (G:↑Str)
abbrev isAny:Kd->Bool
 |.any=>b6
 |_=>cK
abbrev kD(k:Kd)(xs:↑U):Bool:=!isAny k||d6 xs
abbrev kT(k k':Kd):Kd:=if isAny k||isAny k' then .any else .loc
abbrev cut{α:Type}(xs:↑α)(lo hi:Option Int):↑α:=(xs.drop (HT.NV ⇑xs 0 lo)).take (HT.NV ⇑xs ⇑xs hi - HT.NV ⇑xs 0 lo)
abbrev A_:Kd×U->Kd×U->Option (Kd×U)
 |(_,.int i),(_,.int j)=>bD (.loc,.int (i+j))
 |(_,.str x),(_,.str y)=>if ⇑x+⇑y<=c8 then bD (.loc,.str (x++y)) else cc
 |(k,.lst xs),(k',.lst ys)=>if ⇑xs+⇑ys<=c8/\kD k xs=b6/\kD k' ys=b6 then bD (.own,.lst (xs++ys)) else cc
 |(k,.tup xs),(k',.tup ys)=>if ⇑xs+⇑ys<=c8 then bD (kT k k',.tup (xs++ys)) else cc
 |_,_=>cc
abbrev vB(f:Int->Int->Option Int):U->U->Option (Kd×U)
 |.int i,.int j=>(f i j).map λn=>(.loc,.int n)
 |_,_=>cc
abbrev Ec(i j:Int):Option Int:=if ((-(2 ^ 64)<i/\i<2 ^ 64)\/(-(2 ^ 64)<j/\j<2 ^ 64)) then bD (i * j) else cc
abbrev Ed(i j:Int):Option Int:=if 0<j/\j<1073741824 then bD (i / j) else cc
abbrev Ee(i j:Int):Option Int:=if 0<j then bD (i % j) else cc
abbrev Ef(i j:Int):Option Int:=if 0<=j/\j<=1000000/\i.natAbs<2 ^ 64 then bD (i ^ j.toNat) else cc
abbrev Qc(op:W9)(x y:Kd×U):Option (Kd×U):=match op with
 |.add=>A_ x y
 |.sub=>vB (λi j=>bD (i - j)) x.2 y.2
 |.mul=>vB Ec x.2 y.2
 |.Qm=>vB Ed x.2 y.2
 |.mod=>vB Ee x.2 y.2
 |.pow=>vB Ef x.2 y.2
mutual
noncomputable def Om:Nat->U->Bool
 |_,.NA _ _=>cK
 |_,.ob _ _ _=>cK
 |0,.tup _=>cK
 |0,.lst _=>cK
 |n+1,.tup xs=>dQ n xs
 |n+1,.lst xs=>dQ n xs
 |_,.Nz=>b6|_,.bl _=>b6|_,.int _=>b6|_,.str _=>b6
noncomputable def dQ:Nat->↑U->Bool
 |_,[]=>b6
 |n,u::us=>Om n u&&dQ n us
end
mutual
noncomputable def cj:U->U->Bool
 |.Nz,.Nz=>b6
 |.bl a,.bl b=>a==b
 |.bl a,.int b=>(if a then 1 else 0)==b
 |.int a,.bl b=>a==(if b then 1 else 0)
 |.int a,.int b=>a==b
 |.str a,.str b=>a==b
 |.tup xs,.tup ys=>cZ xs ys
 |.lst xs,.lst ys=>cZ xs ys
 |_,_=>cK
noncomputable def cZ:↑U->↑U->Bool
 |[],[]=>b6
 |u::us,w::ws=>cj u w&&cZ us ws
 |_,_=>cK
end
abbrev Ug(x:U)(ys:↑U):Option Bool:=if Om 50 x=b6/\dQ 50 ys=b6 then bD (ys.any λy=>cj y x) else cc
abbrev Va(x y:Str):Bool:=!(td y x 0 ⇑y 1).isEmpty
abbrev strsOf:↑U->Option ↑Str
 |[]=>bD []
 |.str x::us=>(strsOf us).map (x::·)
 |_::_=>cc
abbrev Eg:U->U->Option Bool
 |x,.lst ys=>Ug x ys
 |x,.tup ys=>Ug x ys
 |.str x,.str y=>bD (Va x y)
 |.str x,.NA ks _=>bD (df (x∈ks))
 |_,_=>cc
abbrev eW:↑Str->↑U->Str->Option U
 |y::ks,u::us,x=>if y=x then bD u else eW ks us x
 |_,_,_=>cc
abbrev dput(ks:↑Str)(us:↑U)(x:Str)(u:U):↑Str×↑U :=
 if x∈ks then(ks,(ks.zip us).map λp=>if p.1=x then u else p.2) else(ks++[x],us++[u])
abbrev pA:U->Bool
 |.Nz=>b6
 |_=>cK
abbrev bO:V4->U->U->Option Bool
 |.eq,a,b=>if Om 50 a=b6/\Om 50 b=b6 then bD (cj a b) else cc
 |.ne,a,b=>if Om 50 a=b6/\Om 50 b=b6 then bD (!cj a b) else cc
 |.lt,.int i,.int j=>bD (df (i<j))
 |.gt,.int i,.int j=>bD (df (j<i))
 |.ge,.int i,.int j=>bD (df (j<=i))
 |.isin,x,y=>Eg x y
 |.NH,x,y=>(Eg x y).map (!·)
 |.is,x,.Nz=>bD (pA x)
 |.Ud,x,.Nz=>bD (!pA x)
 |.is,.bl x,.bl y=>bD (x==y)
 |.Ud,.bl x,.bl y=>bD (!(x==y))
 |_,_,_=>cc
abbrev nu:↑U->Option ↑Bool
 |[]=>bD []
 |.bl x::us=>(nu us).map (x::·)
 |_::_=>cc
abbrev lW:Kd×U->U->Option (Kd×U)
 |(k,.lst xs),.int i=>(Oe xs i).map λu=>(kE k,u)
 |(k,.tup xs),.int i=>(Oe xs i).map λu=>(kE k,u)
 |(_,.str x),.int i=>if ⇑x<=c8 then(Oe (~~~x) i).map λc=>(.loc,.str #[#v[c]]) else cc
 |_,_=>cc
abbrev jQ:Kd×U->Option Int->Option Int->Option (Kd×U)
 |(k,.lst xs),lo,hi=>if kD k xs=b6 then bD (.own,.lst (cut xs lo hi)) else cc
 |(k,.tup xs),lo,hi=>bD (kE k,.tup (cut xs lo hi))
 |(_,.str x),lo,hi=>if ⇑x<=c8 then bD (.loc,.str (PySem.StrLaws.sliceText x lo hi)) else cc
 |_,_,_=>cc
abbrev KS:U->Option Nat
 |.lst xs=>bD ⇑xs
 |.tup xs=>bD ⇑xs
 |.str x=>if ⇑x<=c8 then bD ⇑x else cc
 |_=>cc
abbrev iS{β:Type}(f:Kd×U->Option β):↑(Kd×U)->Option β
 |[x]=>f x
 |_=>cc
abbrev intsOf:↑U->Option ↑Int
 |[]=>bD []
 |.int x::us=>(intsOf us).map (x::·)
 |_::_=>cc
abbrev Ic:Kd×U->Option (Kd×U)
 |(_,.lst xs)=>(strsOf xs).bind λss=>if ⇑ss<64 then bD (.own,.lst ((cm ss).map .str)) else cc
 |(_,.NA ks _)=>if ⇑ks<64 then bD (.own,.lst ((cm ks).map .str)) else cc
 |(_,.tup xs)=>(strsOf xs).bind λss=>if ⇑ss<64 then bD (.own,.lst ((cm ss).map .str)) else cc
 |_=>cc
abbrev Ie:Kd×U->Option (Kd×U)
 |(k,.lst xs)=>bD (kE k,.tup xs)
 |(k,.tup xs)=>bD (kE k,.tup xs)
 |_=>cc
abbrev Ba:Kd×U->Option (Kd×U)
 |(_,.int i)=>if i.natAbs.log2<1920 then bD (.loc,.str (š i)) else cc
 |_=>cc
abbrev yS(a:Bool):↑(Kd×U)->Option (Kd×U)
 |[(_,.int i),(_,.int j)]=>bD (.loc,.int (if a=b6 then(if j<i then j else i) else(if j>i then j else i)))
 |_=>cc
abbrev Ig:Kd×U->Option (Kd×U)
 |(_,.lst xs)=>(nu xs).map λbs=>(.loc,.bl (bs.all id))
 |_=>cc
abbrev Ih:Kd×U->Option (Kd×U)
 |(_,.bl b)=>bD (.loc,.int (if b then 1 else 0))
 |_=>cc
abbrev P2(f:Bf)(rs:↑(Kd×U)):Option (Kd×U):=match f with
 |.len=>iS (λx=>(KS x.2).map λ(n:Nat)=>(Kd.loc,U.int (n:Int))) rs
 |.sorted=>iS Ic rs
 |.tuple=>iS Ie rs
 |.str=>iS Ba rs
 |.int=>iS Ih rs
 |.max=>yS cK rs
 |.min=>yS b6 rs
 |.all=>iS Ig rs
 |_=>cc
abbrev yT:U->Option ↑Str
 |.lst xs=>(strsOf xs).bind λss=>if ⇑ss+1<SS then bD (bX ss) else cc
 |.tup xs=>(strsOf xs).bind λss=>if ⇑ss+1<SS then bD (bX ss) else cc
 |_=>cc
abbrev Ii:Kd×U->Option (Kd×U)
 |(k,.tup xs)=>bD (kE k,.tup xs.reverse)
 |_=>cc
abbrev vC(f:B2)(rs:↑(Kd×U)):Option (Kd×U):=match f with
 |.PX=>iS Ii rs
 |.Rp=>cc
 |.sset=>cc
 |.jg=>iS (λx=>(yT x.2).map λss=>(.loc,.int ⇑ss)) rs
abbrev V5(f:Str->Option (Kd×U)):U->Option (Kd×U)
 |.str b=>f b
 |_=>cc
def gU(h:V5 f u≈r):∃b,u=.str b/\f b≈r:=by
 cases u with
 |str b=>show#[b,rfl,h]
 |_=>cases h
abbrev KU(a:Str)(xs:↑U):Option (Kd×U):=(strsOf xs).bind λss=>if Vv a ss=b6 then bD (.loc,.str (ri a ss)) else cc
abbrev M1(a:Str):U->Option (Kd×U)
 |.lst xs=>KU a xs
 |.tup xs=>KU a xs
 |_=>cc
abbrev M3:Mf->Str->U->Option (Kd×U)
 |.split,a=>V5 λb=>if (⇑b==0)=cK/\⇑a+2<=c8 then bD (.own,.lst ((G' a b).map .str)) else cc
 |.join,a=>M1 a
 |.endswith,a=>V5 λb=>bD (.loc,.bl (Ō a b))
 |.partition,a=>V5 λb=>if (⇑b==0)=cK/\⇑a<=c8 then bD (.loc,.tup [.str (ko a b).1,.str (ko a b).2.1,.str (ko a b).2.2]) else cc
abbrev jR(m:Mf)(u:U)(rs:↑(Kd×U)):Option (Kd×U):=V5 (λa=>iS (λx=>M3 m a x.2) rs) u
abbrev M4:Kd×U->Option (↑(Kd×U))
 |(k,.lst xs)=>bD (xs.map λu=>(kE k,u))
 |(k,.tup xs)=>bD (xs.map λu=>(kE k,u))
 |(_,.str x)=>bD (x.cps.toList.map λc=>(.loc,.str #[#v[c]]))
 |_=>cc
abbrev Bb:Kd×U->Option (↑(Kd×U))
 |(_,.int n)=>if n<2 ^ 62/\-(2 ^ 62)<n then bD ((ib n.toNat).map λi:Nat=>(Kd.loc,U.int (0+(i:Int)))) else cc
 |_=>cc
abbrev Ij:↑(Kd×U)->Option (↑(Kd×U))
 |[(_,.int lo),(_,.int hi)]=>if hi<2 ^ 62/\-(2 ^ 62)<lo/\lo<2 ^ 62/\-(2 ^ 62)<hi then bD ((ib (hi - lo).toNat).map λi:Nat=>(Kd.loc,U.int (lo+(i:Int)))) else cc
 |_=>cc
abbrev KW:Kd×U->Option (↑(Kd×U))
 |(k,.lst xs)=>bD (xs.zipIdx.map λp=>(kE k,.tup [.int p.2,p.1]))
 |(k,.tup xs)=>bD (xs.zipIdx.map λp=>(kE k,.tup [.int p.2,p.1]))
 |_=>cc
abbrev P4(a:Ik)(rs:↑(Kd×U)):Option (↑(Kd×U)):=match a with
 |.seq=>iS M4 rs
 |.Ol=>iS Bb rs
 |.Su=>Ij rs
 |.Tj=>iS KW rs
 |_=>cc
abbrev Eh(ps:↑(Str×Int)):↑(Str×Int):=(lU (ps.map (·.1))).map λi=>ps.getD i (nS,0)
abbrev yU(p:Str×Int):U:=.tup [.str p.1,.int p.2]
abbrev Bc:U->Option (Kd×U)
 |.NA ks us=>(intsOf us).bind λns=>if ⇑ks<64/\ks.Nodup/\⇑ks=⇑ns then bD (.own,.lst ((Eh (ks.zip ns)).map yU)) else cc
 |_=>cc
abbrev vE:U->Option Bool
 |.bl b=>bD b
 |.lst xs=>bD !xs.isEmpty
 |.tup xs=>bD !xs.isEmpty
 |.str x=>if ⇑x<=c8 then bD ((⇑x:Int) != 0) else cc
 |_=>cc
abbrev lift:Kd×U->M U
 |(.own,u)=>pure u
 |(.loc,u)=>pure u
 |(.any,u)=>if NY u=b6 then pure u else M.fail
 |(.bor j,_)=>λst=>match st[j]? with
  |some (bD (.own,u))=>bD (.ok u,st.set j (bD (.loc,u)))
  |_=>cc
 |(.io,_)=>M.fail
 |(.A',_)=>M.fail
abbrev cn:↑(Kd×U)->M ↑U
 |[]=>pure []
 |r::rs=>do let u <-lift r;let us <-cn rs;pure (u::us)
abbrev eX(i:Nat):Kd×U->M Unit
 |(.bor j,_)=>λst=>match st[j]? with
  |some (bD (.own,u))=>bD (.ok (),(st.set j (bD (.loc,u))).set i (bD (.loc,u)))
  |_=>cc
 |(.io,_)=>M.fail
 |(.A',_)=>M.fail
 |(k,u)=>λst=>bD (.ok (),st.set i (bD (k,u)))
def bg:↑(Kd×U)->au->Prop
 |[],_=>True
 |(.bor j,u)::rs,st=>(∃k:Kd,k.root=b6/\st[j]?≈bD (k,u))/\bg rs st
 |_::rs,st=>bg rs st
open Classical in
abbrev az(rs:↑(Kd×U)):M Unit:=λst=>if bg rs st then bD (.ok (),st) else cc
@[reducible]noncomputable def Tab:=Str->↑U->Option (Ex (Kd×U))
abbrev ja(Γ:Tab)(f:Str)(us:↑U):M (Kd×U):=λst=>match Γ f us with
 |some (.ok (.any,_))=>cc
 |none=>cc
 |some r=>bD (r,st)
abbrev Ei(Γ:Tab)(f:Str)(j:Nat)(us:↑U):M (Kd×U):=λst=>match st[j]? with
 |some (bD (.own,u))=>match Γ f (us++[u]) with
  |some (.ok (.loc,.tup [x,w]))=>bD (.ok (.loc,x),st.set j (bD (.own,w)))
  |_=>cc
 |_=>cc
abbrev Ej(Γ:Tab)(f:Str)(rs:↑(Kd×U)):M (Kd×U):=match rs with
 |[a,b,c,(.bor j,_)]=>cn [a,b,c] >>= Ei Γ f j
 |_=>M.fail
abbrev Bd(i:Nat):M (Kd×U):=λst=>match st[i]? with
 |some (bD (k,.lst us))=>if k.root=b6 then(match us[⇑us - 1]? with|some u=>bD (.ok (.loc,u),st.set i (bD (k,.lst us.dropLast)))|none=>cc) else cc
 |_=>cc
abbrev dH(i:Nat):M (Kd×U):=λst=>match st[i]? with
 |some (bD (.A',_))=>cc
 |some (bD (k,u))=>bD (.ok (if k.root=b6 then .bor i else k,u),st)
 |_=>cc
abbrev Sy(i:Nat):M (U×↑U):=λst=>match st[i]? with
 |some (bD (.A',.ob cK u us))=>bD (.ok (u,us),st)
 |_=>cc
abbrev Sz(i:Nat)(f:U->↑U->Option (U×↑U)):M Unit:=λst=>match st[i]? with
 |some (bD (.A',.ob cK u us))=>match f u us with
  |some (w,ws)=>if NY w=b6/\d6 ws=b6 then bD (.ok (),st.set i (bD (.A',.ob cK w ws))) else cc
  |none=>cc
 |_=>cc
abbrev Ek(u:U)(us:↑U):Option (U×↑U):=if ⇑us<c8 then bD (u,us++[u]) else cc
abbrev lX(i:Nat):M (Kd×U):=λst=>match st[i]? with
 |some (bD (.A',.ob cK u us))=>match us[⇑us - 1]? with
  |some w=>bD (.ok (.loc,w),st.set i (bD (.A',.ob cK u us.dropLast)))
  |none=>cc
 |_=>cc
abbrev Q2(d:Bool)(i:Nat):M Unit:=λst=>match st[i]? with
 |some (bD (.A',.ob d' _ _))=>if d'=d then bD (.ok (),st) else cc
 |_=>cc
abbrev Xb(w d:Bool):Option Bool:=if w=b6 then(if d=b6 then bD cK else cc) else bD d
abbrev sU:Kd->U->Option (Sum (Kd×U) Str)
 |.loc,x=>bD (.inl (.loc,x))
 |.io,.str c=>bD (.inr c)
 |_,_=>cc
abbrev Be(d:Bool):Option (Ex (Kd×U))->Option (Sum (Kd×U) Str×U×↑U)
 |some (.ok (k,.tup [x,.ob d' u us]))=>if d'=d then(sU k x).map λr=>(r,u,us) else cc
 |_=>cc
abbrev dR(Γ:Tab)(f:Str)(w:Bool)(i:Nat)(rs:↑(Kd×U)):M (Sum (Kd×U) Str):=λst=>match st[i]? with
 |some (bD (.A',.ob d u us))=>(Xb w d).bind λd'=>(Be d' (Γ f (.ob d' u us::rs.map (·.2)))).map λp=>(.ok p.1,st.set i (bD (.A',.ob d p.2.1 p.2.2)))
 |_=>cc
abbrev Vb:Sum (Kd×U) Str->M (Kd×U)
 |.inl r=>pure r
 |.inr _=>M.fail
abbrev Zc(st:au)(p:Nat×Nat):Option (Kd×U):=match st[p.1]? with
 |some (bD (.loc,.tup us))=>us[p.2]?.map λu=>(.loc,u)
 |some (bD (.any,.tup us))=>us[p.2]?.map λu=>(.any,u)
 |_=>cc
abbrev Tq(st:au):↑(Nat×Nat)->Option (↑(Kd×U))
 |[]=>bD []
 |p::js=>(Zc st p).bind λr=>(Tq st js).map (r::·)
abbrev Uh(js:↑(Nat×Nat)):M (↑(Kd×U)):=λst=>(Tq st js).map λrs=>(.ok rs,st)
abbrev jS(i:Nat):M (↑Str×↑U):=λst=>match st[i]? with
 |some (bD (.A',.NA ks us))=>bD (.ok (ks,us),st)
 |_=>cc
abbrev gM(x:Kd×U):M Str:=match x.2 with
 |.str y=>pure y
 |_=>M.fail
abbrev Zd(neg:Bool)(y:Str)(ks:↑Str):Bool:=if neg=b6 then !df (y∈ks) else df (y∈ks)
abbrev Bg(i:Nat):M (Kd×U):=λst=>match st[i]? with
 |some (bD (.A',.NA ks us))=>bD (.ok (.bor i,.NA ks us),st.set i (bD (.own,.NA ks us)))
 |_=>dH i st
abbrev Gu(i:Nat):M Unit:=λst=>bD (.ok (),st.set i (bD (.A',.NA [] [])))
abbrev nv(i:Nat)(y:Str):Kd×U->M Unit
 |(.own,.lst us)=>λst=>match st[i]? with
  |some (bD (.A',.NA ks vs))=>if y∉ks/\⇑ks<c8 then bD (.ok (),st.set i (bD (.A',.NA (ks++[y]) (vs++[.lst us])))) else cc
  |_=>cc
 |_=>M.fail
abbrev lY:↑Str->↑U->Str->U->↑U
 |k::ks,v::vs,y,u=>if k=y then u::vs else v::lY ks vs y u
 |_,vs,_,_=>vs
abbrev ny(i:Nat)(y:Str)(u:U):M Unit:=λst=>match st[i]? with
 |some (bD (.A',.NA ks vs))=>match eW ks vs y with
  |some (.lst xs)=>if ⇑xs<c8 then bD (.ok (),st.set i (bD (.A',.NA ks (lY ks vs y (.lst (xs++[u])))))) else cc
  |_=>cc
 |_=>cc
abbrev Ze:U->M Unit
 |.NA _ _=>pure ()
 |_=>M.fail
abbrev El(x:Kd×U)(y:Str)(u:U):Option (Kd×U):=match x with
 |(k,.NA ks us)=>bD (match eW ks us y with|some v=>(kE k,v)|none=>(.loc,u))
 |_=>cc
abbrev sV(i:Nat):M ↑U:=λst=>match st[i]? with
 |some (bD (k,.lst us))=>if k.root=b6 then bD (.ok us,st) else cc
 |_=>cc
abbrev yV(x:Kd×U):M Int:=match x.2 with
 |.int j=>pure j
 |_=>M.fail
abbrev sW(us:↑U)(j:Int):Option Int:=if 0<=j then(match us[j.toNat]? with|some (.int o)=>bD o|_=>cc) else cc
abbrev Bh(sub:Bool)(o w:Int):Int:=if sub=b6 then o - w else o+w
abbrev M5:U->Option U
 |.lst us=>bD (.lst us.reverse)
 |_=>cc
abbrev sets:↑Nat->↑(Kd×U)->M Unit
 |[],[]=>pure ()
 |i::is,r::rs=>do eX i r;sets is rs
 |_,_=>M.fail
abbrev d8(t:Bool)(is:↑Nat)(r:Kd×U):M Unit:=match t,is,r with
 |false,[i],r=>eX i r
 |true,is,(k,.tup xs)=>sets is (xs.map λu=>(kE k,u))
 |_,_,_=>M.fail
abbrev inScope{α:Type}(k:Nat)(m:M α):M α:=λst=>match m (kb k cc++st) with
 |none=>cc
 |some (r,st')=>bD (r,st'.drop k)
abbrev cp(k:Nat)(t:Bool)(cond:M Bool)(elt:M (Kd×U))(src:↑(Kd×U)):↑(Kd×U)->↑U->M ↑U
 |[],a=>do az src;pure a
 |x::xs,a=>do
  az src
  let r <-inScope k (d8 t (ib k) x >>= λ_=>cond >>= λb=>if b=b6 then(elt >>= λr=>lift r >>= λu=>pure (bD u)) else pure cc)
  match r with
  |some u=>if ⇑a<c8 then cp k t cond elt src xs (a++[u]) else M.fail
  |none=>cp k t cond elt src xs a
abbrev sX:U->Ss->Option Bool
 |.str _,_=>bD b6
 |.int _,_=>bD cK
 |.bl _,_=>bD cK
 |.Nz,_=>bD cK
 |.lst _,_=>bD cK
 |.tup _,_=>bD cK
 |_,_=>cc
abbrev Em:Kd×U->Option (Kd×U)
 |(_,.int i)=>bD (.loc,.int (-i))
 |_=>cc
abbrev Il(x:Kd×U):M (Option Int):=match x.2 with
 |.int i=>pure (bD i)
 |_=>M.fail
abbrev Xc:U->M Unit
 |.lst _=>pure ()
 |_=>M.fail
section
variable(Γ:Tab)
mutual
noncomputable def ev:E->M (Kd×U)
 |.var i=>dH i
 |.cst u=>pure (.loc,u)
 |.PM _ u=>pure (.loc,u)
 |.bin op a b=>do
  let x <-ev a
  let y <-ev b
  az [x,y]
  M.N1 (Qc op x y)
 |.cmp op a b=>do
  let x <-ev a
  let y <-ev b
  az [x,y]
  let c <-M.N1 (bO op x.2 y.2)
  pure (.loc,.bl c)
 |.Qn _ _ _ _ _=>M.fail
 |.and es=>jT es
 |.or _=>M.fail
 |.not a=>do
  let x <-ev a
  match x.2 with
  |.bl c=>pure (.loc,.bl !c)
  |_=>M.fail
 |.ite c a b=>do
  let p <-NQ c
  if p=b6 then ev a else ev b
 |.tup es=>do
  let rs <-bH es
  az rs
  let us <-cn rs
  if ⇑us<=c8 then pure (.loc,.tup us) else M.fail
 |.lst es=>do
  let rs <-bH es
  az rs
  let us <-cn rs
  if ⇑us<=c8 then pure (.own,.lst us) else M.fail
 |.PY r=>pure (.own,.NA [] [])
 |.idx a b=>do
  let x <-ev a
  let y <-ev b
  az [x,y]
  M.N1 (lW x y.2)
 |.Po a lo hi=>do
  let x <-ev a
  let l <-Ui lo
  let h <-Ui hi
  az [x]
  M.N1 (jQ x l h)
 |.bi f es=>do
  let rs <-bH es
  az rs
  M.N1 (P2 f rs)
 |.Rq f es=>do
  let rs <-bH es
  az rs
  M.N1 (vC f rs)
 |.OX m a es=>do
  let x <-ev a
  let rs <-bH es
  az (x::rs)
  M.N1 (jR m x.2 rs)
 |.call f es=>do
  let rs <-bH es
  az rs
  ja Γ f (rs.map (·.2))
 |.comp k t g src cond e=>do
  let rs <-bH src
  az rs
  let xs <-M.N1 (P4 g rs)
  let us <-cp k t (aT cond) (ev e) rs xs []
  pure (.own,.lst us)
 |.neg a=>do
  let x <-ev a
  M.N1 (Em x)
 |.bad=>M.fail
 |.inD _ _ _=>M.fail
 |.U9 i=>Bg i
 |.Qo i k d=>do
  let x <-dH i
  Ze x.2
  let y <-ev k
  let y <-gM y
  let z <-ev d
  let u <-lift z
  let x <-dH i
  M.N1 (El x y u)
 |.U_ i=>do
  let x <-dH i
  M.N1 (Bc x.2)
 |.OD i=>Sy i >>= λp=>pure (.loc,p.1)
 |.PZ _=>M.fail
 |.lX i=>TM.lX i
 |.Pc f i es=>(Q2 b6 i >>= λ_=>bH es >>= λrs=>az rs >>= λ_=>dR Γ f cK i rs) >>= Vb
 |.QP d f _ i es=>(Q2 d i >>= λ_=>bH es >>= λrs=>az rs >>= λ_=>dR Γ f cK i rs) >>= Vb
 |.Qb f _ i js=>(Uh js >>= λrs=>dR Γ f b6 i rs) >>= Vb
 |.pop i=>Bd i
 |.Sv _ _=>M.fail
 |.To f es=>bH es >>= λrs=>az rs >>= λ_=>Ej Γ f rs
 |.W_ _ _ _=>M.fail
 |.fst es=>M.fail
 |.Tn a T=>do
  let x <-ev a
  let b <-M.N1 (sX x.2 T)
  pure (.loc,.bl b)
noncomputable def bH:↑E->M (↑(Kd×U))
 |[]=>pure []
 |e::es=>do let r <-ev e;let rs <-bH es;pure (r::rs)
noncomputable def Ui:↑E->M (Option Int)
 |[]=>pure cc
 |[e]=>do let x <-ev e;Il x
 |_=>M.fail
noncomputable def jT:↑E->M (Kd×U)
 |[]=>M.fail
 |[e]=>ev e
 |e::es=>do
  let x <-ev e
  match x.2 with
  |.bl b6=>jT es
  |.bl cK=>pure (.loc,.bl cK)
  |_=>M.fail
noncomputable def NQ:E->M Bool
 |.and es=>aT es
 |.or es=>gV es
 |.not a=>do let b <-NQ a;pure !b
 |.cmp op a b=>do
  let x <-ev a
  let y <-ev b
  az [x,y]
  M.N1 (bO op x.2 y.2)
 |.var i=>do let x <-dH i;M.N1 (vE x.2)
 |.bi f es=>do
  let rs <-bH es
  az rs
  let r <-M.N1 (P2 f rs)
  M.N1 (vE r.2)
 |.call f es=>do
  let rs <-bH es
  az rs
  let r <-ja Γ f (rs.map (·.2))
  M.N1 (vE r.2)
 |.Qn o1 o2 a b c=>do
  let x <-ev a
  let y <-ev b
  az [x,y]
  let p <-M.N1 (bO o1 x.2 y.2)
  if p=b6 then do
   let z <-ev c
   az [y,z]
   M.N1 (bO o2 y.2 z.2)
  else pure cK
 |.inD neg a i=>do
  let x <-ev a
  let y <-gM x
  let d <-jS i
  pure (Zd neg y d.1)
 |.Tn a T=>do
  let x <-ev a
  M.N1 (sX x.2 T)
 |.PZ i=>Sy i >>= λp=>if Om 50 (.lst p.2)=b6 then pure p.2.isEmpty else M.fail
 |.Pc f i es=>((Q2 b6 i >>= λ_=>bH es >>= λrs=>az rs >>= λ_=>dR Γ f cK i rs) >>= Vb) >>= λr=>M.N1 (vE r.2)
 |_=>M.fail
noncomputable def aT:↑E->M Bool
 |[]=>pure b6
 |[e]=>NQ e
 |e::es=>do let b <-NQ e;if b=b6 then aT es else pure cK
noncomputable def gV:↑E->M Bool
 |[]=>pure cK
 |[e]=>NQ e
 |e::es=>do let b <-NQ e;if b=b6 then pure b6 else gV es
end
inductive Fl where|nx|rt (k:Kd) (u:U)|bk|ct
abbrev retS:Kd×U->M Fl
 |(.own,u)=>pure (.rt .own u)
 |(.loc,u)=>pure (.rt .loc u)
 |(.any,u)=>if NY u=b6 then pure (.rt .loc u) else pure (.rt .any u)
 |(.bor j,_)=>λst=>match st[j]? with
  |some (bD (.own,u))=>bD (.ok (.rt .own u),st.set j cc)
  |_=>cc
 |(.io,_)=>M.fail
 |(.A',_)=>M.fail
abbrev forM(t:Bool)(is:↑Nat)(body:M Fl)(src:↑(Kd×U)):↑(Kd×U)->M Fl
 |[]=>do az src;pure .nx
 |x::xs=>do
  az src
  d8 t is x
  let f <-body
  match f with
  |.nx=>forM t is body src xs
  |.ct=>forM t is body src xs
  |.bk=>pure .nx
  |.rt k u=>pure (.rt k u)
abbrev nz(c:M Bool)(body:M Fl):Nat->M Fl
 |0=>M.fail
 |n+1=>do
  let b <-c
  if b=b6 then do
   let f <-body
   match f with
   |.nx=>nz c body n
   |.ct=>nz c body n
   |.bk=>pure .nx
   |.rt k u=>pure (.rt k u)
  else pure .nx
abbrev KY(Γ:Tab)(f:Str):Sum (Kd×U) Str->M (Sum (Kd×U) Str)
 |.inl x=>az [x] >>= λ_=>ja Γ f [x.2] >>= λr=>pure (.inl r)
 |.inr c=>pure (.inr c)
abbrev KZ:Sum (Kd×U) Str->M (Sum (Kd×U) Str)
 |.inl x=>lift x >>= λu=>pure (.inl (.loc,.tup [u,.Nz]))
 |.inr c=>pure (.inr c)
abbrev Pp(Γ:Tab):RE->M (Sum (Kd×U) Str)
 |.mt d f _ i es=>Q2 d i >>= λ_=>bH Γ es >>= λrs=>az rs >>= λ_=>dR Γ f cK i rs
 |.Qb f _ i js=>Uh js >>= λrs=>dR Γ f b6 i rs
 |.arg f r=>Pp Γ r >>= KY Γ f
 |.QQ r=>Pp Γ r >>= KZ
abbrev yW(t c1 c2:Str):M Fl:=if ⇑t<=1048576 then pure (.rt .loc (.str (YP t c1 c2))) else M.fail
abbrev Im:Sum (Kd×U) Str->M Fl
 |.inl x=>retS x
 |.inr c=>pure (.rt .io (.str c))
abbrev Bi(i j k n:Nat):M Fl:=λst=>match st[j]?,st[k]? with
 |some cc,bD cc=>if i≠j/\i≠k/\j≠k then(eX i (.loc,.tup [.str "",.int n]) >>= λ_=>pure .nx) st else cc
 |_,_=>cc
abbrev En(i j k:Nat)(a:↑(Str×Nat)):Sum (Kd×U) Str->M Fl
 |.inl x=>eX i x >>= λ_=>pure .nx
 |.inr c=>match a.lookup c with
  |some n=>Bi i j k n
  |none=>M.fail
abbrev modS(i:Nat)(f:U->Option U):M Unit:=λst=>match st[i]? with
 |some (bD (k,u))=>if k.root=b6 then match f u with
   |some u'=>bD (.ok (),st.set i (bD (k,u')))
   |none=>cc
  else cc
 |_=>cc
abbrev Eo(u:U):U->Option U
 |.lst xs=>if ⇑xs<c8 then bD (.lst (xs++[u])) else cc
 |_=>cc
abbrev qP:Kd×U->U->Option U
 |(k,.lst ys),.lst xs=>if ⇑xs+⇑ys<=c8/\kD k ys=b6 then bD (.lst (xs++ys)) else cc
 |(k,.tup ys),.lst xs=>if ⇑xs+⇑ys<=c8/\kD k ys=b6 then bD (.lst (xs++ys)) else cc
 |_,_=>cc
abbrev gW(x u:U):U->Option U
 |.NA ks vs=>match x with
  |.str y=>if ⇑ks<c8 then bD (.NA (dput ks vs y u).1 (dput ks vs y u).2) else cc
  |_=>cc
 |.lst xs=>match x with
  |.int i=>(QZ ⇑xs i).map λj=>.lst (xs.set j u)
  |_=>cc
 |_=>cc
abbrev Bj:↑U->U->Option U
 |[u,x]=>gW x u
 |_=>λ_=>cc
abbrev fuel:Nat:=1000000000000
mutual
noncomputable def Uj:S->Nat->Bool
 |.set i _,j=>df (j≠i)
 |.Qp is _,j=>df (j∉is)
 |.ite _ a b,j=>Pk a j&&Pk b j
 |.Oh _ is _ _ body,j=>df (j∉is)&&Pk body j
 |.Ue _ body,j=>Pk body j
 |.put _ _ _,_=>b6
 |.app _ _,_=>b6
 |.ext _ _,_=>b6
 |.bad,_=>b6
 |.newD i,j=>df (j≠i)
 |.putD _ _ _,_=>b6
 |.P0 _ _ _,_=>b6
 |.aug _ _ _ _,_=>b6
 |.W' _,_=>b6
 |.exp _,_=>b6
 |.ret _,_=>b6
 |.Sw,_=>b6
 |.brk,_=>b6
 |.cnt,_=>b6
 |.Xa,_=>b6
 |.U' _,_=>b6
 |.Rr _ _,_=>b6
 |.O4 _,_=>b6
 |.Sx _ _ _ _ _,_=>b6
 |.Qq,_=>b6
 |.PH i,j=>df (j≠i)
 |.QR _ _,_=>b6
 |.QS _,_=>b6
 |.RS _ i _ _ j k _ _,n=>df (n≠i)&&(df (n≠j)&&df (n≠k))
noncomputable def Pk:↑S->Nat->Bool
 |[],_=>b6
 |s::ss,j=>Uj s j&&Pk ss j
end
abbrev xx(rs:↑(Kd×U))(is:↑Nat)(body:↑S):Bool:=rs.all λr=>match r.1 with
 |.bor j=>df (j∉is)&&Pk body j
 |_=>b6
mutual
noncomputable def exec:S->M Fl
 |.set i e=>do let r <-ev Γ e;eX i r;pure .nx
 |.Qp is e=>do let r <-ev Γ e;d8 b6 is r;pure .nx
 |.put i k v=>do
  let r <-ev Γ v
  let _ <-dH i
  let x <-ev Γ k
  let us <-cn [r,x]
  modS i (Bj us)
  pure .nx
 |.app i e=>do
  let x <-dH i
  Xc x.2
  let r <-ev Γ e
  let u <-lift r
  modS i (Eo u)
  pure .nx
 |.ext i e=>do
  let x <-dH i
  Xc x.2
  let r <-ev Γ e
  modS i (qP r)
  pure .nx
 |.bad=>M.fail
 |.newD i=>do Gu i;pure .nx
 |.putD i k v=>do
  let r <-ev Γ v
  let d <-jS i
  let x <-ev Γ k
  let y <-gM x
  nv i y r
  pure .nx
 |.P0 i k v=>do
  let _ <-jS i
  let x <-ev Γ k
  let y <-gM x
  let d <-jS i
  if y∈d.1 then do
   let r <-ev Γ v
   let u <-lift r
   ny i y u
   pure .nx
  else M.fail
 |.aug sub i k v=>do
  let _ <-sV i
  let y <-ev Γ k
  let j <-yV y
  let us <-sV i
  let o <-M.N1 (sW us j)
  let z <-ev Γ v
  let w <-yV z
  modS i (gW (.int j) (.int (Bh sub o w)))
  pure .nx
 |.W' i=>do
  modS i M5
  pure .nx
 |.exp e=>do let _ <-ev Γ e;pure .nx
 |.ret e=>do let r <-ev Γ e;retS r
 |.Sw=>pure (.rt .loc .Nz)
 |.ite c a b=>do let p <-NQ Γ c;if p=b6 then execs a else execs b
 |.Oh t is f src body=>do
  let rs <-bH Γ src
  az rs
  let xs <-M.N1 (P4 f rs)
  if xx rs is body=b6 then forM t is (execs body) rs xs else M.fail
 |.Ue c body=>nz (NQ Γ c) (execs body) fuel
 |.brk=>pure .bk
 |.cnt=>pure .ct
 |.Xa=>pure .nx
 |.U' _=>M.fail
 |.Rr c e=>do let _ <-ev Γ e;pure (.rt .io (.str c))
 |.O4 r=>Pp Γ r >>= Im
 |.Sx i c b c1 c2=>dH i >>= λr=>gM r >>= λz=>if z=c then(ev Γ b >>= λr=>gM r >>= λt=>yW t c1 c2) else pure .nx
 |.Qq=>M.fail
 |.PH i=>λst=>bD (.ok .nx,st.set i (bD (.A',.ob b6 (.tup []) [])))
 |.QR i e=>ev Γ e >>= λr=>lift r >>= λu=>Sz i (λ_ us=>bD (u,us)) >>= λ_=>pure .nx
 |.QS i=>Sz i Ek >>= λ_=>pure .nx
 |.RS r i _ g j k _ _=>Pp Γ r >>= En i j k g
noncomputable def execs:↑S->M Fl
 |[]=>pure .nx
 |s::ss=>do
  let f <-exec s
  match f with
  |.nx=>execs ss
  |f=>pure f
end
end
structure Fn where
 name:Str
 np:Nat
 ns:Nat
 body:↑S
abbrev start(us:↑U)(n:Nat):au:=us.map (λu=>bD (if NY u=b6 then Kd.loc else Kd.any,u))++kb (n - ⇑us) cc
abbrev bK(Γ:Tab)(fn:Fn)(us:↑U):Option (Ex (Kd×U)):=if ⇑us=fn.np then match execs Γ fn.body (start us fn.ns) with
  |some (.ok (.rt .own u),_)=>bD (.ok (.own,u))
  |some (.ok (.rt .loc u),_)=>bD (.ok (.loc,u))
  |some (.ok (.rt .any u),_)=>bD (.ok (.any,u))
  |some (.ok .nx,_)=>bD (.ok (.loc,.Nz))
  |some (.ok (.rt .io (.str c)),_)=>bD (.exc c)
  |_=>cc
 else cc
abbrev fB(us:↑U)(n:Nat):au:=match us with
 |[x,y,z,l]=>bD (.loc,x)::bD (.loc,y)::bD (.loc,z)::bD (.own,l)::kb (n - 4) cc
 |_=>[]
abbrev Io:Option (Ex Fl×au)->Option (Ex (Kd×U))
 |some (.ok (.rt .loc u),st)=>match (st[3]?:Option (Option (Kd×U))) with
  |some (bD (.own,w))=>bD (.ok (.loc,.tup [u,w]))
  |_=>cc
 |_=>cc
abbrev runN(Γ:Tab)(fn:Fn)(body:↑S)(us:↑U):Option (Ex (Kd×U)):=if ⇑us=4 then Io (execs Γ body (fB us fn.ns)) else cc
abbrev Fn.io(fn:Fn):Option (↑Nat×↑S):=match fn.body with
 |.U' is::body=>bD (is,body)
 |_=>cc
abbrev cD(us:↑U)(n:Nat):au:=match us with
 |[]=>[]
 |o::us=>bD (.A',o)::start us (n - 1)
abbrev Ts:Fl->Option (Kd×U)
 |.rt .loc u=>bD (.loc,u)
 |.rt .io (.str c)=>bD (.io,.str c)
 |.nx=>bD (.loc,.Nz)
 |_=>cc
abbrev Xd(st:au):Option U:=match st with
 |some (.A',.ob d u us)::_=>bD (.ob d u us)
 |_=>cc
abbrev eY(Γ:Tab)(fn:Fn)(body:↑S)(us:↑U):Option (Ex (Kd×U)):=if ⇑us=fn.np then match execs Γ body (cD us fn.ns) with
  |some (.ok f,st)=>(Ts f).bind λr=>(Xd st).map λo=>.ok (r.1,.tup [r.2,o])
  |_=>cc
 else cc
abbrev Fn.ob(fn:Fn):Option ↑S:=match fn.body with
 |.Qq::body=>bD body
 |_=>cc
abbrev iT(Γ:Tab)(fn:Fn)(us:↑U):Option (Ex (Kd×U)):=match fn.ob with
 |some body=>eY Γ fn body us
 |none=>match fn.io with
  |some (_,body)=>runN Γ fn body us
  |none=>bK Γ fn us
abbrev N7(P:↑Fn):Nat->Tab
 |0=>λ_ _=>cc
 |d+1=>λf us=>match P.find? λfn=>df (fn.name=f) with
  |some fn=>iT (N7 P d) fn us
  |none=>cc
end TM
namespace TM
open PySem L2
section
variable{X:Cx}{pins:List (hH×Obj)}{σ:St}{H:Hp}{s:i4}{C:Ct}{S:hH->Prop}
def xy(I:Inv X pins σ H s)(h:N_ X.K H a vs):∃b,Vals vs b/\s.heap.IsList a b.toArray/\⇑vs<=c8:=by
 have(b,r,p,z):=I.list h;show#[b,r,p.isList,z]
inductive Ou(s:i4):Nat->U->g8->Prop where
 |Nz {n:Nat}:Ou s n .Nz .none
 |bl {n:Nat} {b:Bool}:Ou s n (.bl b) (.bool b)
 |int {n:Nat} {i:Int} {t:Tok}:Ou s n (.int i) (.int i t)
 |str {n:Nat} {y:Str} {t:Tok}:Ou s n (.str y) (.str y t)
 |tup {n:Nat} {us:↑U} {J':↑g8} {a:hH}:⇑us=⇑J'->(∀j (hj:j<⇑J'),Ou s n (us.getD j .Nz) J'[j])->cZ us us=b6->s.heap.IsTuple a J'.toArray->Ou s (n+1) (.tup us) (.ref a)
 |lst {n:Nat} {us:↑U} {J':↑g8} {a:hH}:⇑us=⇑J'->(∀j (hj:j<⇑J'),Ou s n (us.getD j .Nz) J'[j])->cZ us us=b6->s.heap.IsList a J'.toArray->Ou s (n+1) (.lst us) (.ref a)
def Ou.self(h:Ou s n u x):cj u u=b6:=by
 cases h<;>first|assumption|simp[cj]
theorem Ou.yX(f:∀u v x,Om n u=b6->Rep C S H u v->RelV v x->Ou s n u x):∀{us}{vs}{a},dQ n us=b6->aq C S H us vs->Vals vs a->⇑us=⇑a/\(∀j b,Ou s n (us.getD j .Nz) a[j])/\cZ us us=b6
 |[],_,_,_,h,r=>by cases h;cases r;show#[rfl,λj b=>(nomatch b),rfl]
 |u::us,_,_,e,h,r=>by
  have(v,vs,rfl,c,g):=h;erw[dQ,cb]at e;cases r with
  |cons d i =>
   have(l,k,y):=Ou.yX f e.2 g i;show#[by simp[l],λj b=>?_,by rw[cZ,(f _ _ _ e.1 c d).self,y];rfl];cases j with
   |zero=>show f _ _ _ e.1 c d
   |succ j=>show k j ⋯
def Ou.of(I:Inv X pins σ H s)(d:C.K=X.K):∀n u v x,Om n u=b6->Rep C S H u v->RelV v x->Ou s n u x:=by
 intro n;induction n with
 |zero=>intro u v x e h r;cases u<;>first|(simp[Om]at e;done)|(subst h;first|(constructor)|(have(t,rfl):=r;constructor))
 |succ n f =>
  intro u v x e h r;cases u with
  |tup us =>
   have(a,vs,rfl,b,c):=h;cases r;have(g,rv,p,_):=I.tuple (d▸b);have(l,k,y):=Ou.yX f (by assumption) c rv;show .tup l k y p
  |lst us =>
   have(a,vs,rfl,b,c):=h;cases r;have(g,rv,p,_):=xy I (d▸b.sq);have(l,k,y):=Ou.yX f (by simpa[Om] using e) c rv;show .lst l k y p
  |_=>first|(simp[Om]at e;done)|(subst h;first|(constructor)|(have(t,rfl):=r;constructor))
def Ou.inj:∀{n}{u w}{x},Ou s n u x->Ou s n w x->u=w:=by
 intro n;induction n with
 |zero=>intro u w x h h';cases h<;>cases h'<;>rfl
 |succ n t =>
  have go:∀{us ws:↑U} {c its':↑_} {a:hH} {o g:Obj} {m i:Nat},⇑us=⇑c->(∀j (v:j<⇑c),Ou s n (us.getD j .Nz) c[j])->⇑ws=⇑its'->(∀j (v:j<⇑its'),Ou s n (ws.getD j .Nz) its'[j])->s.heap.get? a≈o->o.data=.seq c.toArray m->s.heap.get? a≈g->g.data=.seq its'.toArray i->us=ws:=by
   intro us ws c its' a o g m i l k f k' e d q d';have:c=its':=⋯
   subst this;show Q9 ⋯ λj z A=>?_;have:=t (k j ⋯) (k' j ⋯);simpa[z,A] using this
  intro u w x h h';cases h with
  |tup l k y p =>
   cases h' with
   |tup f k' r b=>have(o,e,_,m,d):=p;have(g,q,_,i,d'):=b;rw[go l k f k' e d q d']
   |lst f k' r b=>show absurd rfl (ZQ b p)
  |lst l k y p =>
   cases h' with
   |lst f k' r b=>have(o,e,_,m,d):=p;have(g,q,_,i,d'):=b;rw[go l k f k' e d q d']
   |tup f k' r b=>show absurd rfl (ZQ p b)
  |_=>cases h';rfl
theorem kF:∀{us ws},⇑us≠⇑ws->cZ us ws=cK
 |[],[],h=>absurd rfl h
 |[],_::_,_=>rfl
 |_::_,[],_=>rfl
 |u::us,w::ws,h=>by
  rw[cZ,kF   (λe=>h (by simp[e])),Y9]
theorem gZ:∀{us ws},⇑us=⇑ws->cZ us ws=(ib ⇑us).all λj=>cj (us.getD j .Nz) (ws.getD j .Nz)
 |[],[],_=>rfl
 |[],_::_,h=>by simp at h
 |_::_,[],h=>by simp at h
 |u::us,w::ws,h=>by
  have h':=by exists h
  rw[cZ,gZ h',k9,List.range_succ_eq_map,List.all_cons,Yh];rfl
def K3{a its':↑g8}(c:⇑us=⇑a)(l2:⇑ws=⇑its'):cZ us ws=((ib (min a.toArray.size its'.toArray.size)).all (λj=>cj (us.getD j .Nz) (ws.getD j .Nz))&&a.toArray.size==its'.toArray.size):=by
 erw[mu];by_cases b:⇑us=⇑ws
 .rw[gZ b,show min _ _=⇑us by lia,show(⇑a==⇑its')=b6 by grind,İ]
 .rw[kF b,show(⇑a==⇑its')=cK by grind,Y9]
def xA(c:Ou s n u y)(h:Þ A s y x k)(hs:y=x->k=b6):VS A s y x k:=λprog w E Q a=>by
 show tr ?_;show Ř (λb=>?_) (λ_=>?_)
 .rw[hs (Ŗ b)]at a;show cL (P_ (dV a))
 .cases c<;>show cL (h prog w E _ (q9 a))
def Zf(r:∀m,m+1=n->∀{u w}{x f}{A},Ou s m u x->Ou s m w f->A.units+m<C0->VS A s x f (cj u w))(h:Ou s n u x)(h':Ou s n w f)(hn:A.units+n<C0):Þ A s x f (cj u w)/\ĩ A s x f (!cj u w):=by
 have a:A.units<C0:=⋯
 have go:∀{m:Nat} {us ws:↑U} {g its':↑g8},m+1=n->(∀j (t:j<⇑g),Ou s m (us.getD j .Nz) g[j])->(∀j (t:j<⇑its'),Ou s m (ws.getD j .Nz) its'[j])->∀j (i:j<g.toArray.size) (o:j<its'.toArray.size),VS A.in1 s g.toArray[j] its'.toArray[j] (cj (us.getD j .Nz) (ws.getD j .Nz)):=λ{m us ws g its'} e k k' j i o=>r m e (k j i) (k' j o) (by grind);cases h with
 |Nz =>
  cases h' with
  |Nz=>show#[.none_none,.none_none]
  |bl=>show#[.none_bool _,.none_bool _]
  |int=>show#[.none_int _ _,.none_int _ _]
  |str=>show#[.none_str _ _,.none_str _ _]
  |tup c k' d b=>show#[.none_tuple b a,.none_tuple b a]
  |lst c k' d b=>show#[.none_list b a,.none_list b a]
 |bl =>
  cases h' with
  |Nz=>show#[.bool_none _,.bool_none _]
  |bl=>show#[.bool_bool _ _,.bool_bool _ _]
  |int=>show#[.bool_int _ _ _,.bool_int _ _ _]
  |str=>show#[.bool_str _ _ _,.bool_str _ _ _]
  |tup c k' d b=>show#[.bool_tuple _ b a,.bool_tuple _ b a]
  |lst c k' d b=>show#[.bool_list _ b a,.bool_list _ b a]
 |int =>
  cases h' with
  |Nz=>show#[.int_none _ _,.int_none _ _]
  |bl=>show#[.int_bool _ _ _,.int_bool _ _ _]
  |int=>show#[.int_int _ _ _ _,.int_int _ _ _ _]
  |str=>show#[.int_str _ _ _ _,.int_str _ _ _ _]
  |tup c k' d b=>show#[.int_tuple _ _ b a,.int_tuple _ _ b a]
  |lst c k' d b=>show#[.int_list _ _ b a,.int_list _ _ b a]
 |str =>
  cases h' with
  |Nz=>show#[.str_none _ _,.str_none _ _]
  |bl=>show#[.str_bool _ _ _,.str_bool _ _ _]
  |int=>show#[.str_int _ _ _ _,.str_int _ _ _ _]
  |str=>show#[.str_str _ _ _ _,.str_str _ _ _ _]
  |tup c k' d b=>show#[.str_tuple _ _ b a,.str_tuple _ _ b a]
  |lst c k' d b=>show#[.str_list _ _ b a,.str_list _ _ b a]
 |tup l k y p =>
  cases h' with
  |Nz=>show#[.tuple_none p a,.tuple_none p a]
  |bl=>show#[.tuple_bool _ p a,.tuple_bool _ p a]
  |int=>show#[.tuple_int _ _ p a,.tuple_int _ _ p a]
  |str=>show#[.tuple_str _ _ p a,.tuple_str _ _ p a]
  |tup c k' d b=>rw[show cj (.tup _) (.tup _)=_ from K3 l c];show#[.tuples p b a (go rfl k k'),.tuples p b a (go rfl k k')]
  |lst c k' d b=>show#[.tuple_list p b a,.tuple_list p b a]
 |lst l k y p =>
  cases h' with
  |Nz=>show#[.list_none p a,.list_none p a]
  |bl=>show#[.list_bool _ p a,.list_bool _ p a]
  |int=>show#[.list_int _ _ p a,.list_int _ _ p a]
  |str=>show#[.list_str _ _ p a,.list_str _ _ p a]
  |tup c k' d b=>show#[.list_tuple p b a,.list_tuple p b a]
  |lst c k' d b =>
   rename_i us _ _ ws _ _;by_cases q:⇑us=⇑ws
   .rw[show cj (.lst us) (.lst ws)=_ from gZ q,l,<-mu];show#[.lists p b ⋯ a (go rfl k k'),.lists p b ⋯ a (go rfl k k')]
   .rw[show cj (.lst us) (.lst ws)=cK from kF q];show#[.lists_lengths p b ⋯ a,.lists_lengths p b ⋯ a]
def K4:∀{n}{u w}{x a}{A},Ou s n u x->Ou s n w a->A.units+n<C0->VS A s x a (cj u w):=by
 intro n;induction n with
 |zero=>intro u w x a A h h' b;show xA h (Zf (λm e=>by cases e) h h' b).1 λe=>by subst e;rw[h.inj h'];show h'.self
 |succ n c=>intro u w x a A h h' b;show xA h (Zf (λm e=>by cases e;show c) h h' b).1 λe=>by subst e;rw[h.inj h'];show h'.self
def Ip(h:Ou s n u x)(h':Ou s n w a)(b:A.units+n<C0):Þ A s x a (cj u w)/\ĩ A s x a (!cj u w):=Zf (λm e=>by show K4) h h' b
end
end TM
namespace TM
open PySem L2 PyProof.Rows
inductive NK(C:Ct)(m:M (Kd×U))(σ:L2.St)(H:Hp)(Q:VK):Prop
 |mk:∀c0:Cf,c0.σ=σ->c0.H=H->Ok C c0->(W m c0.st λr st'=>∀c v,c.σ=σ->c.st=st'->Ok C c->Nx c0 c->aM C c0 c r.1 r.2 v->Q v c.H)->NK C m σ H Q
inductive OY(C:Ct)(m:M Bool)(σ:L2.St)(H:Hp)(Q:Bool->Hp->Prop):Prop
 |mk:∀c0:Cf,c0.σ=σ->c0.H=H->Ok C c0->(W m c0.st λb st'=>∀c,c.σ=σ->c.st=st'->Ok C c->Nx c0 c->Q b c.H)->OY C m σ H Q
def eu(C:Ct)(c0 c:Cf):↑(Kd×U)->↑V->Prop
 |[],vs=>vs=[]
 |r::rs,vs=>∃v t,vs=v::t/\gT C c0 c r.1 r.2 v/\eu C c0 c rs t/\(r.1=.own->∀(i:Nat) a b,rs[i]?≈a->t[i]?≈b->a.1=.own->b≠v)
inductive OV(C:Ct)(m:M (↑(Kd×U)))(σ:L2.St)(H:Hp)(Q:↑V->Hp->Prop):Prop
 |mk:∀c0:Cf,c0.σ=σ->c0.H=H->Ok C c0->(W m c0.st λrs st'=>∀c vs,c.σ=σ->c.st=st'->Ok C c->Nx c0 c->eu C c0 c rs vs->Q vs c.H)->OV C m σ H Q
def PE.weak(h:PE X e t)(i:∀σ H Q,t' σ H Q->t σ H Q):PE X e t':=λpins s σ H Q I q=>h pins s σ H Q I (i σ H Q q)
def PT.weak(h:PT X e t)(i:∀σ H Q,t' σ H Q->t σ H Q):PT X e t':=λpins s σ H Q I q=>h pins s σ H Q I (i σ H Q q)
def bV{st}:W (az rs) st Q↔bg rs st/\Q () st:=by
 constructor
 .rintro⟨a,st',e,h⟩;unfold az at e
  grind
 .rintro⟨c,b⟩;show#[(),st,by unfold az;simp_all,b]
def eO{st}:bg (r::rs) st↔bg [r] st/\bg rs st:=by
 have(k,u):=r;cases k<;>simp[bg]
def gT.t(h:gT C c0 c k u v)(s:bg [(k,u)] c.st):aM C c0 c k u v:=by
 cases k with
 |bor j=>show#[s.1,h]
 |_=>show h
structure Vc(C:Ct)(c0 c:Cf)(x y:Kd×U)(vx vy:V):Prop where
 hσ:c.σ=c0.σ
 ok:Ok C c
 nx:Nx c0 c
 rx:aM C c0 c x.1 x.2 vx
 ry:aM C c0 c y.1 y.2 vy
 ne:x.1=.own->y.1=.own->vy≠vx
def nA(h:gT C c0 c1 k u v)(h':gT C c1 c k' u' b):k=.own->k'=.own->b≠v:=by
 rintro rfl rfl e;have(r,d,_,_,_,f):=h;have(i,g,a,_):=h';have(o,ho,_):=f.some;subst d;rw[g]at e;cases e;rw[ho]at a;cases a
def two{k:Kd×U->Kd×U->M β}{j}{f:g8->g8->Sem α}{r:g8->g8->α->i4->Prop}(N:PE X a (NK C O))(Q:PE X b (NK C z))(I:Inv X pins c0.σ c0.H s)(T:Ok C c0)
  (h:W (O >>= λx=>z >>= λy=>az [x,y] >>= λ_=>k x y) c0.st j)
  (Y:∀x y c d e v u l,Vc C c0 c x y d e->Inv X pins c.σ c.H l->RelV d v->RelV e u->W (k x y) c.st j->‹X› (f v u) (r v u) X.xe l) :
  ‹X› (p8 a X.env) (λv s₁=>‹X› (p8 b X.env) (λu s₂=>‹X› (f v u) (r v u) X.xe s₂) X.xe s₁) X.xe s:=by
 rw[ag]at h;show ND (N pins s _ c0.H (λd B=>∃x c1,c1.H=B/\c1.σ=c0.σ/\Ok C c1/\Nx c0 c1/\aM C c0 c1 x.1 x.2 d/\W (z >>= λy=>az [x,y] >>= λ_=>k x y) c1.st j) I ⟨c0,rfl,rfl,T,h.mono λx st1 q c1 d m e2 n o p=>#[x,c1,rfl,m,n,o,p,by simp_all]⟩) ?_;rintro v s1 ⟨d,B,I1,rv,x,c1,rfl,m,n,o,p,q⟩;rw[ag]at q;show ND (Q pins s1 _ c1.H (λe D=>∃y c2,c2.H=D/\Vc C c0 c2 x y d e/\W (k x y) c2.st j) I1 ⟨c1,m,rfl,n,q.mono λy st2 g c2 e G e4 N5 J L=>?_⟩) ?_
 .rw[ag,bV]at g;subst e4;rw[eO]at g;show#[y,c2,rfl,#[G,N5,o.trans J,(p.w.on n J (G.trans m.symm)).t g.1.1,(L.from o),nA p.w L.w],g.2]
 .rintro u l ⟨e,D,I2,ru,y,c2,rfl,i,g⟩;have hs:=i.hσ;show Y x y c2 d e v u l i ⋯ rv ru g
structure RT(C:Ct)(c0 c:Cf)(x:Kd×U)(vx:V):Prop where
 hσ:c.σ=c0.σ
 ok:Ok C c
 nx:Nx c0 c
 rx:aM C c0 c x.1 x.2 vx
abbrev c7(C:Ct)(c0:Cf)(Q:VK)(r:Kd×U)(st':au):Prop:=∀c v,c.σ=c0.σ->c.st=st'->Ok C c->Nx c0 c->aM C c0 c r.1 r.2 v->Q v c.H
def c7.flat(h:c7 C c0 Q (.loc,u) c.st)(a:c.σ=c0.σ)(b:Ok C c)(n:Nx c0 c)(r:Rep C c.S c.H u v):Q v c.H:=h c v a rfl b n r
def c7.list(h:c7 C c0 Q (.own,.lst us) c.st)(a:c.σ=c0.σ)(b:Ok C c)(n:Nx c0 c)(r:aq C c.S c.H us vs)(p)(d:c.H p=cc):Q (.ref p) (upd c.H p (.lst vs)):=by
 have(e,f,g):=b.newList n d r;show h {c with H:=upd c.H p _} _ a rfl e f g
def c7.tup(h:c7 C c0 Q (.loc,.tup us) c.st)(a:c.σ=c0.σ)(b:Ok C c)(n:Nx c0 c)(r:aq C c.S c.H us vs)(p)(d:c.H p=cc):Q (.ref p) (upd c.H p (.tup vs)):=by
 have(e,f,g):=b.A9 n d r;show h {c with H:=upd c.H p _} _ a rfl e f g
def c7.tupK(h:c7 C c0 Q (kE k,.tup us) c.st)(d:c.σ=c0.σ)(a:Ok C c)(n:Nx c0 c)(r:aq C (SK C c k) c.H us vs)(p)(e:c.H p=cc):Q (.ref p) (upd c.H p (.tup vs)):=by
 have(f,b):=a.lay  e;show h {c with H:=upd c.H p _} _ d rfl f (n.trans b) (aM.item ?_);cases k<;>show#[p,vs,rfl,Oi.of aj,by first|show r.mv (a.Sr b)|show r.mv (a.mv b)]
def g9(h:kD k us=b6)(r:aq C (SK C c k) c.H us vs):aq C c.S c.H us vs:=by
 cases k with
 |any=>show r.NY (by assumption)
 |_=>show r
def Iq(k k'):∀a,SK C c k a->SK C c (kT k k') a:=by
 intro a h;cases k<;>cases k'<;>first|show h|show .inr h
def Ep(k k'):∀a,SK C c k' a->SK C c (kT k k') a:=by
 intro a h;cases k<;>cases k'<;>first|show h|show .inr h
def K5(k k'):kE (kT k k')=kT k k':=by cases k<;>cases k'<;>rfl
def Er:O3 X (RZ .Add) (λx y H Q=>∃l b xs zs,x=.ref l/\y=.ref b/\N_ X.K H l xs/\N_ X.K H b zs/\⇑xs+⇑zs<=c8/\∀p,H p=cc->Q (.ref p) (upd H p (.lst (xs++zs)))):=by
 intro pins s σ H x y v u Q I m o h;have(l,b,xs,zs,rfl,rfl,t,w,hz,q):=h;cases m;cases o;have(d,r,A,z):=I.list t;have(e,f,c,z2):=I.list w;have hl:=⇑r;have Qy:=⇑f;have((cls,dd,data,B),ho,g,n,i):=A.isList;have((J,C,data2,D),j,k,G,a):=c.isList;simp only at g i k a;subst g i k a;show Y1 #[_,ho,rfl] #[_,j,rfl] noFill_list_add seq_list_add F.slot_list_add F.entry_list_add (F.args_list_add_2 _ _)
   (list_addW l b _ _ n G dd C B D ⋯) #[ho,j,?_]
 have ea:d.toArray++e.toArray=(d++e).toArray:=⋯
 rw[ea];show#[.ref _,_,I.MS  (r.append f) (by rw[mx];lia),rfl,q _ I.fresh]
section
variable{X:Cx}{C:Ct}{pins:List (hH×Obj)}{s:i4}{c0 c:Cf}{Q:VK}
def Bl:O3 X (RZ .Add) (λx y H Q=>∃a b ys,x=.ref a/\y=.ref b/\Oi X.K H a []/\Oi X.K H b ys/\Q (.ref b) H):=by
 intro pins s σ H x y v u Q I j k h;have(a,b,ys,rfl,rfl,l,m,q):=h;cases j;cases k;have(B,o,p,_):=I.tuple l;have(r,D,p2,_):=I.tuple m;cases o;have((cls,dd,data,t),ho,e,n,f):=id p;have((G,w,data2,z),g,i,A,d):=id p2;simp only at e f i d;subst e f i d;show Y1 #[_,ho,rfl] #[_,g,rfl] Zl Ú F.slot_tuple_add F.entry_tuple_add (F.args_tuple_add_2 _ _)
   (tuple_addW0 a b _ r.toArray n A dd w t z (by rfl)) #[ho,g,.ref b,H,I,rfl,q]
abbrev W9.op:W9->ē
 |.add=>.Add|.sub=>.Sub|.mul=>.Mult|.Qm=>.FloorDiv|.mod=>.Mod|.pow=>.Pow
def fK(h:vB f a b≈r):∃i j o,a=.int i/\b=.int j/\f i j≈o/\r=(.loc,.int o):=by
 unfold vB at h;split at h
 .rw[g7]at h;have(o,e,rfl):=h;show#[_,_,o,rfl,rfl,e,rfl]
 .cases h
def Ir(T:C.K=X.K)(t:Vc C c0 c x y g l)(I:Inv X pins c.σ c.H s)(z:RelV g v)(B:RelV l u)(h:Qc op x y≈r)(q:c7 C c0 Q r c.st):
  ‹X› (RZ op.op v u) (EP X pins c.σ Q) X.xe s:=by
 have(m,d,n,D,ty,_):=t;cases op with
 |add =>
  have h:A_ x y≈r:=h;unfold A_ at h;split at h
  .have ex:=D.int d;have e:=ty.int d;cases h;show d5 pins s c.σ c.H g l v u Q I z B #[_,_,ex,e,q.flat m d n rfl]
  .have ex:=D.str d;have e:=ty.str d;split at h
   .cases h;show uK pins s c.σ c.H g l v u Q I z B #[_,_,ex,e,by assumption,q.flat m d n rfl]
   .cases h
  .have(a,vs,ex,N,G):=D.list d;have(b,ws,e,O,J):=ty.list d;split at h
   .rename_i L;cases h;show Er pins s c.σ c.H g l v u Q I z B #[a,b,vs,ws,ex,e,T▸N,T▸O,by rw[<-G.len,<-J.len];show L.1,λp Y=>q.list m d n ((g9 L.2.1 G).append (g9 L.2.2 J)) p Y]
   .cases h
  .rename_i k xs k' ys _ _;have(a,vs,ex,N,G):=D.tuple d;have(b,ws,e,O,J):=ty.tuple d;have QT:=N;have UX:=O;rw[T]at QT UX;split at h
   .rename_i L;cases h;have m1:aq C (SK C c (kT k k')) c.H xs vs:=G.mv (.up (Iq k k'));have m2:aq C (SK C c (kT k k')) c.H ys ws:=J.mv (.up (Ep k k'));have q':c7 C c0 Q (kE (kT k k'),.tup (xs++ys)) c.st:=by rw[K5];show q
    by_cases e1:vs=[]
    .subst e1;show Bl pins s c.σ c.H g l v u Q I z B #[a,b,ws,ex,e,QT,UX,?_];show q' c (.ref b) m rfl d n (aM.item #[b,ws,rfl,O,?_]);have:xs=[]:=by have:=m1.len;exists this
     rw[this];show m2
    .show DV pins s c.σ c.H g l v u Q I z B #[a,b,vs,ws,ex,e,QT,UX,e1,by rw[<-G.len,<-J.len];show L,λe2=>?_,λ_ p Y=>q'.tupK m d n (m1.append m2) p Y];subst e2;show q' c (.ref a) m rfl d n (aM.item #[a,vs,rfl,N,?_]);have:ys=[]:=by have:=m2.len;exists this
     rw[this,tE];show m1
   .cases h
  .cases h
 |sub =>
  have(i,j,o,ex,e,f,rfl):=fK h;have ex:=(ex▸D).int d;have e:=(e▸ty).int d;cases f;show uH pins s c.σ c.H g l v u Q I z B #[_,_,ex,e,q.flat m d n rfl]
 |mul =>
  have(i,j,o,ex,e,f,rfl):=fK h;have ex:=(ex▸D).int d;have e:=(e▸ty).int d;unfold Ec at f;split at f
  .cases f;show qc pins s c.σ c.H g l v u Q I z B #[_,_,ex,e,by assumption,q.flat m d n rfl]
  .cases f
 |Qm =>
  have(i,j,o,ex,e,f,rfl):=fK h;have ex:=(ex▸D).int d;have e:=(e▸ty).int d;unfold Ed at f;split at f
  .cases f;show DI pins s c.σ c.H g l v u Q I z B #[_,_,ex,e,by assumption,q.flat m d n rfl]
  .cases f
 |mod =>
  have(i,j,o,ex,e,f,rfl):=fK h;have ex:=(ex▸D).int d;have e:=(e▸ty).int d;unfold Ee at f;split at f
  .cases f;show cu pins s c.σ c.H g l v u Q I z B #[_,_,ex,e,by assumption,q.flat m d n rfl]
  .cases f
 |pow =>
  have(i,j,o,ex,e,f,rfl):=fK h;have ex:=(ex▸D).int d;have e:=(e▸ty).int d;unfold Ef at f;split at f
  .cases f;show qd pins s c.σ c.H g l v u Q I z B #[_,_,ex,e,by assumption,q.flat m d n rfl]
  .cases f
def Es(d:C.K=X.K)(f:PE X a (NK C g))(i:PE X b (NK C j)):PE X (.BinOp a op.op b pos) (NK C (g >>= λx=>j >>= λy=>az [x,y] >>= λ_=>M.N1 (Qc op x y))):=by
 rintro pins s σ H Q I ⟨c0,rfl,rfl,k,h⟩;show wpAny_BinOp (two f i I k h λx y c o p v u A t l m n w=>?_);have(r,e,q):=cy.mp w;show ND (Ir d t l m n e q) λ_ _ z=>by rw[t.hσ]at z;show z
abbrev V4.op:V4->ł
 |.eq=>.Eq|.ne=>.NotEq|.lt=>.Lt|.le=>.LtE|.gt=>.Gt|.ge=>.GtE|.isin=>.In|.NH=>.NotIn|.is=>.Is|.Ud=>.IsNot
def K6{neg:Bool}(I:Inv X pins c.σ c.H s)(i:C.K=X.K)(J:X.A.units+60<C0){S}(n:Rep C S c.H x m)(o:RelV m v)(r:aq C S c.H ys vs)
  (ha:N_ C.K c.H a vs\/Oi C.K c.H a vs) (t:Om 50 x=b6) (u:dQ 50 ys=b6) {Q} (q:Q (.bool (if neg then !(ys.any λy=>cj y x) else ys.any λy=>cj y x)) s) :
  ‹X› (y0 (if neg then .NotIn else .In) v (.ref a)) Q X.xe s:=by
 have z:=Ou.of I i 50 x m v t n o;have go:∀d ,Vals vs d->∃e:g8->Bool,(∀y,y∈d.toArray->VS X.A.in1 s y v (e y))/\d.toArray.any e=ys.any λy=>cj y x:=by
  intro d rv;have(l,k,_):=Ou.yX (Ou.of I i 50) u r rv
  classical
  have q:∀j (b:j<⇑d),df (∃w,Ou s 50 w d[j]/\cj w x=b6)=cj _ x:=λj b=>by
   rw[ve,decide_eq_true_iff];show#[λ⟨w,f,g⟩=>by rw[<-f.inj (k j b)];show g,λh=>#[_,k j b,h]]
  show#[λy=>df (∃w,Ou s 50 w y/\cj w x=b6),λy L=>?_,?_]
  .have(j,b,e):=Uy (show y∈d by simp_all);subst e;change VS _ _ _ _ (decide _);rw[q j b];show K4 (k j b) z (by grind)
  .rw[ve];erw[List.any_toArray,Tb];constructor
   .rintro⟨y,B,h⟩;have(j,b,rfl):=Uy B;rw[q j b]at h;show#[_,F1 (l▸b),by simpa[l▸b] using h]
   .rintro⟨w,D,G⟩;have(j,b,rfl):=Uy D;show#[_,F1 (l▸b),by rw[q j (l▸b)];simpa[b] using G]
 rcases ha with ha|ha
 .have(d,rv,p,_):=xy I (i▸ha);have(e,f,g):=go d rv;cases neg with
  |false=>show SeqAt.in_listAt e p f (by rw[g];show q)
  |true=>show SeqAt.notIn_listAt e p f (by rw[g];show q)
 .rw[i]at ha;have(d,rv,p,_):=I.tuple ha;have(e,f,g):=go d rv;cases neg with
  |false=>show SeqAt.in_tupleAt e p f (by rw[g];show q)
  |true=>show SeqAt.notIn_tupleAt e p f (by rw[g];show q)
end
theorem cM:∀{us}{ss},strsOf us≈ss->us=ss.map .str
 |[],ss,h=>by cases h;rfl
 |.str x::us,ss,h=>by
  erw[strsOf,g7]at h;have(t,a,rfl):=h;rw[cM a];rfl
 |.Nz::_,_,h=>by cases h
 |.bl _::_,_,h=>by cases h
 |.int _::_,_,h=>by cases h
 |.tup _::_,_,h=>by cases h
 |.lst _::_,_,h=>by cases h
 |.NA _ _::_,_,h=>by cases h
@[simp] theorem vF:∀ss:↑Str,strsOf (ss.map .str)≈ss
 |[]=>rfl
 |x::ss=>by simp[strsOf,vF ss]
theorem lj:∀{us}{ns},intsOf us≈ns->us=ns.map .int
 |[],ns,h=>by cases h;rfl
 |u::us,ns,h=>by
  cases u<;>first|(cases h)|skip
  have h':(intsOf us).map _≈ns:=h;rw[g7]at h';have(ms,e,rfl):=h';rw[lj e];rfl
theorem aq.ints{S}:∀{ns:↑Int}{vs},aq C S H (ns.map .int) vs->vs=ns.map V.int
 |[],vs,h=>h
 |n::ns,vs,h=>by
  have(v,r,rfl,a,b):=h;rw[aq.ints b];have:=a;rw[this];rfl
theorem nB:∀{us}{ss},nu us≈ss->us=ss.map .bl
 |[],ss,h=>by cases h;rfl
 |.bl x::us,ss,h=>by
  erw[nu,g7]at h;have(t,a,rfl):=h;rw[nB a];rfl
 |.Nz::_,_,h=>by cases h
 |.str _::_,_,h=>by cases h
 |.int _::_,_,h=>by cases h
 |.tup _::_,_,h=>by cases h
 |.lst _::_,_,h=>by cases h
 |.NA _ _::_,_,h=>by cases h
theorem aq.bls{S}:∀{xs:↑Bool}{vs},aq C S H (xs.map .bl) vs->vs=xs.map V.bl
 |[],vs,h=>h
 |x::xs,vs,h=>by
  have(v,r,rfl,a,b):=h;rw[aq.bls b];have:=a;rw[this];rfl
abbrev Iu(X:Cx)(pins:↑(hH×Obj))(c:Cf)(b:Bool)(v:g8)(a:i4):Prop:=v=.bool b/\Inv X pins c.σ c.H a
def eF(o:O3 X f r)(I:Inv X pins c.σ c.H s)(e:RelV a v)(g:RelV d u)(h:r a d c.H λx H'=>x=.bl b/\H'=c.H):
  ‹X› (f v u) (Iu X pins c b) X.xe s :=
 ND (o pins s c.σ c.H a d v u _ I e g h) λw m i=>by
  have(z,H',j,r,k,l):=i;subst k l;show#[r,j]
inductive RtD(C:Ct)(c:Cf)(k:Kd)(ks:↑Str)(us:↑U)(v:V):Prop
 |mk:∀a kvs,v=.ref a->c.H a≈.dK kvs->kvs.map (·.1)=ks.map nC->aq C (SK C c k) c.H us (kvs.map (·.2))->RtD C c k ks us v
def aM.dict(g:Ok C c)(h:aM C c0 c k (.NA ks us) v):RtD C c k ks us v:=by
 cases k with
 |own=>have(r,e,_,_,_,kvs,b,d,f):=h;show#[r,kvs,e,b,d,f]
 |bor j=>have(r,e,_,_,_,kvs,b,d,f):=g.rootOf h.1 h.2;show#[r,kvs,e,b,d,f]
 |io=>show h.elim
 |A'=>show h.elim
 |_=>have(a,e,_,kvs,b,d,f):=h;show#[a,kvs,e,b,d,f]
theorem eQ{S}:∀{ks}{us}{kvs:↑(Key×V)},kvs.map (·.1)=ks.map nC->aq C S H us (kvs.map (·.2)) ->
  (∀u,eW ks us x≈u->∃v,eU kvs (nC x)≈v/\Rep C S H u v)/\(eU kvs (nC x)).isSome=df (x∈ks)
 |[],us,kvs,a,b=>by
  have:=by exists a
  subst this;show#[λu h=>by cases us<;>simp[eW]at h,by rfl]
 |k::ks,us,[],a,b=>by simp at a
 |k::ks,[],p::kvs,a,b=>by simp[aq]at b
 |k::ks,u0::us,p::kvs,a,b=>by
  have(v,r,e,d,f):=b;cases e;rw[i6,i6,SV]at a;have(g,i):=eQ  a.2 f;by_cases hk:k=x
  .subst hk;show#[λu h=>?_,?_]
   .simp[eW]at h;subst h;show#[p.2,fE a.1,d]
   .rw[fE a.1];simp
  .have c:¬p.1=nC x:=⋯
   show#[λu h=>?_,?_]
   .simp[eW,hk]at h;have(v,e,q):=g u h;show#[v,by rw[fF c];show e,q]
   .rw[fF c,i];simp[mh hk]
def Rep.pA{S:hH->Prop}(h:Rep C S H u v):df (v=.Nz)=pA u:=by
 cases u with
 |tup us=>have(a,vs,rfl,_):=h;rfl
 |lst us=>have(a,vs,rfl,_):=h;rfl
 |NA ks us=>have(a,rfl,_):=h;rfl
 |ob _ _ _=>show Hf h
 |_=>have:=h;subst this;rfl
def Bm:O3 X (y0 .Is) (λx y H Q=>∃i j,x=.bl i/\y=.bl j/\Q (.bl (i==j)) H):=by
 intro pins s σ H x y v u Q I a b h;have(i,j,rfl,rfl,q):=h;cases a;cases b;cases i<;>cases j<;>show dV (bW I q rfl)
def vG:O3 X (y0 .IsNot) (λx y H Q=>∃i j,x=.bl i/\y=.bl j/\Q (.bl (!(i==j))) H):=by
 intro pins s σ H x y v u Q I a b h;have(i,j,rfl,rfl,q):=h;cases a;cases b;cases i<;>cases j<;>show dV (bW I q rfl)
def qQ(hP:C.P=X.prog)(hw:C.w=X.w)(m:C.K=X.K)(J:X.A.units+60<C0)(t:Vc C c0 c x y B L)(I:Inv X pins c.σ c.H s)(f:RelV B v)(g:RelV L u)(h:bO op x.2 y.2≈b):
  ‹X› (y0 op.op v u) (Iu X pins c b) X.xe s:=by
 have(hσ,d,n,i,ty,_):=t;have(kx,O):=x;have(ky,Q):=y
 dsimp only at h i ty
 have p:∀neg:Bool,∀o,Eg O Q≈o->‹X› (y0 (if neg then .NotIn else .In) v u) (Iu X pins c (if neg then !o else o)) X.xe s:=by
  intro neg o h;have r:=i.read d;have D:=ty.read d;unfold Eg at h;split at h
  .have(a,vs,rfl,l,q):=D;cases g;unfold Ug at h;split at h
   .rename_i j;cases h;show K6 I m J r f q (.inl l.sq) j.1 j.2 #[by simp,I]
   .cases h
  .have(a,vs,rfl,l,q):=D;cases g;unfold Ug at h;split at h
   .rename_i j;cases h;show K6 I m J r f q (.inr l) j.1 j.2 #[by rfl,I]
   .cases h
  .cases h;have ex:B=_:=r;have N:L=_:=D;cases neg with
   |false=>show eF yw I f g #[_,_,ex,N,rfl,rfl]
   |true=>show eF qm I f g #[_,_,ex,N,rfl,rfl]
  .cases h;have ex:B=_:=r;have(a,kvs,rfl,l,q,T):=ty.dict d;cases g;subst ex;have hs:=λz:Str=>(eQ (x:=z) q T).2;cases neg with
   |false=>show KJ ⋯ I (gP.k (k:=nC _) l) f λY G=>#[by rw[hs];rfl,G]
   |true=>show wZ ⋯ I (gP.k (k:=nC _) l) f λY G=>#[by rw[hs];rfl,G]
  .cases h
 unfold bO at h;split at h
 .split at h
  .rename_i j;cases h;show(Ip (n:=50) (.of I m _ _ _ _ j.1 (i.read d) f) (.of I m _ _ _ _ j.2 (ty.read d) g) ⋯).1 _ _ _ _ #[rfl,I]
  .cases h
 .split at h
  .rename_i j;cases h;show(Ip (n:=50) (.of I m _ _ _ _ j.1 (i.read d) f) (.of I m _ _ _ _ j.2 (ty.read d) g) ⋯).2 _ _ _ _ #[rfl,I]
  .cases h
 .cases h;show eF Kp I f g #[_,_,i.int d,ty.int d,rfl,rfl]
 .cases h;show eF Kq I f g #[_,_,i.int d,ty.int d,rfl,rfl]
 .cases h;show eF Kr I f g #[_,_,i.int d,ty.int d,rfl,rfl]
 .show p cK b h
 .rw[g7]at h;have(o,l,rfl):=h;show p b6 o l
 .cases h;have e:=ty.Nz d;show eF Hw I f g #[e,by rw[(i.read d).pA],rfl]
 .cases h;have e:=ty.Nz d;show eF DM I f g #[e,by rw[(i.read d).pA],rfl]
 .cases h;show eF Bm I f g #[_,_,i.bl d,ty.bl d,rfl,rfl]
 .cases h;show eF vG I f g #[_,_,i.bl d,ty.bl d,rfl,rfl]
 .cases h
def Et(d:C.P=X.prog)(f:C.w=X.w)(g:C.K=X.K)(i:X.A.units+60<C0)(j:PE X a (NK C k))(l:PE X b (NK C m))(n:R0 op.op b=cK):
  PE X (.Compare a [op.op] [b] pos) (NK C (k >>= λx=>m >>= λy=>az [x,y] >>= λ_=>M.N1 (bO op x.2 y.2) >>= λc=>pure (.loc,.bl c))):=by
 rintro pins s σ H Q I ⟨c0,rfl,rfl,o,h⟩;show wpAny_Compare1 (two j l I o h λx y c L N v u O t p B D w=>?_) n;rw[ag]at w;have(r,e,q):=cy.mp w;rw[ao]at q;show ND (qQ d f g i t p B D e) λz T G=>?_;have(e,J):=G;subst e;show#[.bl r,c.H,by rw[<-t.hσ];show J,rfl,q c _ t.hσ rfl t.ok t.nx rfl]
def Eu(d:C.P=X.prog)(f:C.w=X.w)(g:C.K=X.K)(i:X.A.units+60<C0)(j:PE X a (NK C k))(l:PE X b (NK C m))(n:R0 op.op b=cK):
  PT X (.Compare a [op.op] [b] pos) (OY C (k >>= λx=>m >>= λy=>az [x,y] >>= λ_=>M.N1 (bO op x.2 y.2))):=by
 rintro pins s σ H Q I ⟨c0,rfl,rfl,o,h⟩;show QE (two   j l I o h λx y c L N v u O t p B D w=>?_) n;have(r,e,q):=cy.mp w;show ND (qQ d f g i t p B D e) λz T G=>?_;have(e,J):=G;subst e;show q9 #[c.H,by rw[<-t.hσ];show J,q c t.hσ rfl t.ok t.nx]
abbrev Gv(C:Ct)(c0:Cf)(Q:Bool->Hp->Prop)(b:Bool)(st':au):Prop:=∀c,c.σ=c0.σ->c.st=st'->Ok C c->Nx c0 c->Q b c.H
def Iv(a:c1.σ=c0.σ)(b:Ok C c1)(n:Nx c0 c1)(h:W m c1.st (c7 C c0 Q)):NK C m c0.σ c1.H Q :=
 #[c1,a,rfl,b,h.mono λr st c c2 v d e f g i=>c c2 v d e f (n.trans g) (i.from n)]
def Bn(a:c1.σ=c0.σ)(b:Ok C c1)(n:Nx c0 c1)(h:W m c1.st (Gv C c0 Q)):OY C m c0.σ c1.H Q :=
 #[c1,a,rfl,b,h.mono λr st c c2 d e f g=>c c2 d e f (n.trans g)]
def aU(a:Ok C c0)(h:W (b >>= k) c0.st d)
  (hz:∀x c v,RT C c0 c x v->W (k x) c.st d->Z v c.H):NK C b c0.σ c0.H Z:=by
 rw[ag]at h;show#[c0,rfl,rfl,a,h.mono λx st1 l c1 e f m g i j=>hz x c1 e #[f,g,i,j] ⋯]
def g_(a:Ok C c0)(h:W (d >>= k) c0.st e)
  (hz:∀b c,c.σ=c0.σ->Ok C c->Nx c0 c->W (k b) c.st e->Z b c.H):OY C d c0.σ c0.H Z:=by
 rw[ag]at h;show#[c0,rfl,rfl,a,h.mono λx st1 j c1 f l g i=>hz x c1 f g i ⋯]
abbrev K7(m:M (Kd×U))(x:Kd×U):M (Kd×U):=match x.2 with
 |.bl b6=>m
 |.bl cK=>pure (.loc,.bl cK)
 |_=>M.fail
abbrev K8(x:Kd×U):M (Kd×U):=match x.2 with
 |.bl c=>pure (.loc,.bl !c)
 |_=>M.fail
def snd_and(i:PE X a (NK C j))(l:PE X (.BoolOp .And (b::d) pos) (NK C m)):PE X (.BoolOp .And (a::b::d) pos) (NK C (j >>= K7 m)):=by
 show PE.weak (Hg i l) ?_;rintro σ H Q ⟨c0,rfl,rfl,o,h⟩;show aU o h λx c v t w=>?_;have(k,u):=x;have(g,f,n,r):=t;unfold K7 at w;split at w
 .rename_i e;subst e;show#[b6,r.bl f,by show Iv g f n w]
 .rename_i e;subst e;rw[ao]at w;show#[_,r.bl f,by show w c _ g rfl f n rfl]
 .show(bf.mp w).elim
def Ew(d:PE X a (NK C f)):PE X (.UnaryOp .Not a pos) (NK C (f >>= K8)):=by
 show PE.weak (Hh d) ?_;rintro σ H Q ⟨c0,rfl,rfl,g,h⟩;show aU g h λx c v t w=>?_;have(k,u):=x;have(i,b,n,r):=t;unfold K8 at w;split at w
 .rename_i e;subst e;rw[ao]at w;show#[_,r.bl b,w c _ i rfl b n rfl]
 .show(bf.mp w).elim
def Ey(d:PE X a (NK C f)):PE X (.UnaryOp .USub a pos) (NK C (f >>= λx=>M.N1 (Em x))):=by
 show PE.weak (Km Hu d) ?_;rintro σ H Q ⟨c0,rfl,rfl,g,h⟩;show aU g h λx c v t w=>?_;have(k,u):=x;have(i,b,n,r):=t;have(j,e,w):=cy.mp w;unfold Em at e;split at e
 .rename_i q;cases q;cases e;show#[_,r.int b,w c (.int _) i rfl b n rfl]
 .cases e
def Ez(d:PT X a (OY C e)):PT X (.UnaryOp .Not a pos) (OY C (e >>= λb=>pure !b)):=by
 show PT.weak (Hd d) ?_;rintro σ H Q ⟨c0,rfl,rfl,f,h⟩;show g_ f h λp c g i n w=>?_;rw[ao]at w;show w c g rfl i n
def EA(g:PT X a (OY C i))(j:PW X (.BoolOp .And (b::d) pos) (OY C tb)):PW X (.BoolOp .And (a::b::d) pos) (OY C (i >>= λp=>if p=b6 then tb else pure cK)):=by
 have h0:=Ak g j;rintro k pins s σ H Q I ⟨c0,rfl,rfl,l,h⟩;show h0 k pins s _ c0.H Q I (g_ l h λp c e f n w=>?_);cases p with
 |true=>show Bn e f n w
 |false=>rw[Ŷ ke]at w ⊢;rw[ao]at w;show w c e rfl f n
def Iw(g:PT X a (OY C i))(j:PW X (.BoolOp .Or (b::d) pos) (OY C tb)):PW X (.BoolOp .Or (a::b::d) pos) (OY C (i >>= λp=>if p=b6 then pure b6 else tb)):=by
 have h0:=Kb g j;rintro k pins s σ H Q I ⟨c0,rfl,rfl,l,h⟩;show h0 k pins s _ c0.H Q I (g_ l h λp c e f n w=>?_);cases p with
 |true=>rw[ŵ rfl]at w ⊢;rw[ao]at w;show w c e rfl f n
 |false=>show Bn e f n w
def xB{us:↑α}{vs:↑β}(h:⇑us=⇑vs):(!us.isEmpty)=!vs.isEmpty:=by
 grind
def jU(j:PE X a (NK C l))(i:C.K=X.K)(m:∀b,isTrue a X.env b=(do let v <-b;WY a.pos;KX [v] (ģ v))):PT X a (OY C (l >>= λx=>M.N1 (vE x.2))):=by
 show PT.weak (Ar j m) ?_;rintro σ H Q ⟨c0,rfl,rfl,o,h⟩;show aU o h λx c v t w=>?_;have(k,u):=x;have(s,d,n,r):=t;have(p,e,q):=cy.mp w
 dsimp only at e r
 show#[p,?_,q c s rfl d n];unfold vE at e;split at e
 .cases e;rw[r.bl d];rfl
 .cases e;have(a,vs,rfl,f,g):=r.list d;show .inl #[vs,i▸f,xB g.len]
 .cases e;have(a,vs,rfl,f,g):=r.tuple d;rw[i]at f;show .inr (.inl #[vs,f,xB g.len])
 .split at e
  .cases e;rw[r.str d];show#[⋯,rfl]
  .cases e
 .cases e
def Bo(k:C.P=X.prog)(l:C.w=X.w)(m:C.K=X.K)(n:X.A.units+60<C0)(L:PE X a (NK C N))(O:PE X b (NK C T))(Y:PE X d (NK C md))(hm:lastMarks [o1.op,o2.op] [b,d]=cK):
  PT X (.Compare a [o1.op,o2.op] [b,d] pos) (OY C (N >>= λx=>T >>= λy=>az [x,y] >>= λ_=>M.N1 (bO o1 x.2 y.2) >>= λp=>if p=b6 then(md >>= λz=>az [y,z] >>= λ_=>M.N1 (bO o2 y.2 z.2)) else pure cK)):=by
 rintro pins s σ H Q I ⟨c0,rfl,rfl,ok,h⟩;show isTrue_chain (ND (two L O I ok h λx y c vx vy v u s2 t I2 rx o w=>?_) λv s1 h1=>test_link (ND h1 λu s2 f=>f)) hm;rw[ag]at w;have(p,e,q):=cy.mp w;show ND (qQ k l m n t I2 rx o e) λz s' Zi=>?_;have(e,r):=Zi;subst e;show q9 ?_;cases p with
 |false =>
  rw[Ŷ ke,ao]at q;show ite_ff #[c.H,by rw[<-t.hσ];show r,q c t.hσ rfl t.ok t.nx]
 |true =>
  rw[ŵ rfl,ag]at q;show ite_tt (test_last (ND (Y pins s' c.σ c.H (λi B=>∃z c2,c2.H=B/\Vc C c0 c2 y z vy i/\W (M.N1 (bO o2 y.2 z.2)) c2.st (Gv C c0 Q)) r ⟨c,rfl,rfl,t.ok,q.mono λz st2 f c2 i D j N5 G J=>?_⟩) ?_))
  .rw[ag,bV]at f;subst j;rw[eO]at f;show#[z,c2,rfl,#[D.trans t.hσ,N5,t.nx.trans G,(t.ry.w.on t.ok G D).t f.1.1,J.from t.nx,nA t.ry.w J.w],f.2]
  .rintro zv s3 ⟨i,B,I3,rz,z,c2,rfl,g,f⟩;have(q',e',w'):=cy.mp f;show ND (qQ (pins:=pins) k l m n g (by rw[g.hσ,<-t.hσ];show I3) o rz e') λz' s4 Zj=>?_;have(j,I4):=Zj;subst j;show q9 #[c2.H,by rw[<-g.hσ];show I4,w' c2 g.hσ rfl g.ok g.nx]
def eu.from(n:Nx c0 c1):eu C c1 c rs vs->eu C c0 c rs vs:=by
 intro h;induction rs generalizing vs with
 |nil=>show h
 |cons r rs a=>have(v,t,e,b,d,f):=h;show#[v,t,e,b.from n,a d,f]
def eu.get{i:Nat}(h:eu C c0 c rs vs)(e:rs[i]?≈r)(d:vs[i]?≈v):gT C c0 c r.1 r.2 v:=by
 induction rs generalizing vs i with
 |nil=>simp at e
 |cons f rs a =>
  have(g,t,rfl,j,b,k):=h;cases i with
  |zero=>simp_all
  |succ i=>show a b (by exists e) (by assumption)
def EB:PA X [] (OV C (pure [])):=by
 rintro pos pins s σ H Q I ⟨c0,rfl,rfl,a,h⟩;rw[ao]at h;show cC pos pins s _ c0.H Q I (h c0 [] rfl rfl a (Nx.refl c0) rfl)
def Bp(f:PE X e (NK C m))(g:PA X es (OV C ms))(hs:i0 (e::es) X.env=(cK,p8 e X.env)::i0 es X.env):PA X (e::es) (OV C (m >>= λr=>ms >>= λrs=>pure (r::rs))):=by
 rintro pos pins s σ H Q I ⟨c0,rfl,rfl,j,h⟩;show bB f g hs pos pins s _ c0.H Q I (aU j h λr c1 v t w=>?_);rw[ag]at w;show#[c1,t.hσ,rfl,t.ok,w.mono λrs st2 a c2 vs b k l c d=>?_];rw[ao]at a;show a c2 _ b k l (t.nx.trans c) #[v,vs,rfl,t.rx.w.on t.ok c (b.trans t.hσ.symm),d.from t.nx,λhk i q u n o p=>?_];show nA t.rx.w (d.get n o) hk p
structure OQ(C:Ct)(c0 c:Cf)(rs:↑(Kd×U))(vs:↑V):Prop where
 hσ:c.σ=c0.σ
 ok:Ok C c
 nx:Nx c0 c
 rep:eu C c0 c rs vs
 RU:bg rs c.st
def args{k:↑(Kd×U)->M β}{a}(e:PA X es (OV C ms))(I:Inv X pins c0.σ c0.H s)(f:Ok C c0)(h:W (ms >>= λrs=>az rs >>= λ_=>k rs) c0.st a)(pos:Pos):
  ‹X› (ĵ (vl pos (i0 es X.env))) (λus s1=>∃rs c vs,OQ C c0 c rs vs/\Inv X pins c.σ c.H s1/\Vals vs us/\W (k rs) c.st a) X.xe s:=by
 rw[ag]at h;show ND (e pos pins s _ c0.H (λvs d=>∃rs c,c.H=d/\OQ C c0 c rs vs/\W (k rs) c.st a) I ⟨c0,rfl,rfl,f,h.mono λrs st1 b c1 vs g i j l m=>?_⟩) ?_
 .rw[ag,bV]at b;subst i;show#[rs,c1,rfl,#[g,j,l,m,b.1],b.2]
 .rintro us s1 ⟨vs,d,n,rv,rs,c1,rfl,t,w⟩;show#[rs,c1,vs,t,by rw[t.hσ];show n,rv,w]
def OQ.one(t:OQ C c0 c [r] vs):∃v,vs=[v]/\aM C c0 c r.1 r.2 v:=by
 have(v,t',rfl,a,b,_):=t.rep;cases b;show#[v,rfl,a.t t.RU]
def OQ.two(t:OQ C c0 c [r,b] vs):∃v a,vs=[v,a]/\aM C c0 c r.1 r.2 v/\aM C c0 c b.1 b.2 a:=by
 have(v,t',rfl,d,(a,e,rfl,f,g,_),_):=t.rep;cases g;have hs:=eO.mp t.RU;show#[v,a,rfl,d.t hs.1,f.t hs.2]
def Ok.share(b:Ok C c)(h0:C.H₀ r=cc)(g:∃o,c.H r≈o)(hl:⇑st'=⇑c.st)
  (d:∀i k u,st'[i]?≈bD (k,u)->Y_ C (λa=>c.S a\/a=r) c.H c.σ i k u/\(k.root=b6->c.st[i]?≈bD (k,u))) (h:QO C {c with S:=λa=>c.S a\/a=r,st:=st' }) :
  Ok C {c with S:=λa=>c.S a\/a=r,st:=st' }:=by
 show#[b.same,λa z=>?_,b.par,b.io,by rw[hl];show b.len,λi k u e=>(d i k u e).1,λi j k k' u u' l hk f m n p q=>?_,h]
 .rcases z with z|rfl
  .show b.O8 a z
  .show#[h0,g]
 .show b.inj i j k k' u u' l hk f ((d i k u m).2 hk) ((d j k' u' n).2 f) p q
def Ok.Iy(p:Ok C c0)(b:Ok C c)(n:Nx c0 c)(h0:c0.H r=cc)(f:¬c.R r)(s:eE C c.S c.H r u):
  Ok C {c with S:=λa=>c.S a\/a=r}/\Nx c0 {c with S:=λa=>c.S a\/a=r}:=by
 have(o,ho,_):=s.some;show#[b.share  (p.jP h0).1 #[o,ho] rfl (λi k u e=>#[?_,λ_=>e]) (b.dd.hs (.up λa=>.inl) λj a z=>#[λq=>q.elim (b.root (.inr #[j,z])).1 λe=>f (.inr #[j,e▸z]),λo q=>q]),#[#[n.keep,n.there,n.roots,λa z=>.inl (n.sub a z),λa z=>?_]]]
 .have(v,g,h):=b.sl i k u e;have d:Mv c.S c.H (λa=>c.S a\/a=r) c.H:=.up λa=>.inl;show#[v,g,h.mv d (.up λa z=>z.imp id .inl) λhk w l=>#[?_,λo q=>q]];have(x,m,t,_):=h.rt hk;rw[l]at m;cases m;rintro(z|rfl)
  .show t z
  .show f (.inl #[i,k,u,hk,e,by rw[g,l]])
 .rcases z with z|rfl
  .show n.new a z
  .show .inr (.inr h0)
def Ok.Bq(d:Ok C c)(n:Nx c0 c)(g:c.st[j]?≈bD (.own,u))(h:c.σ[j]?≈bD (.ref r)):
  Ok C {c with S:=λa=>c.S a\/a=r,st:=c.st.set j (bD (.loc,u))}/\Nx c0 {c with S:=λa=>c.S a\/a=r,st:=c.st.set j (bD (.loc,u))}/\Rep C (λa=>c.S a\/a=r) c.H u (.ref r):=by
 have(Q,f,l,m,T,Y,D,x):=d.sl j _ _ g;rw[h]at f;cases f;cases m;have y:Rep C (λa=>c.S a\/a=r) c.H u (.ref r):=x.rep (λa=>.inl) (.inr rfl);have(o,ho,_):=x.some;have s:j<⇑c.st:=(eH.mp g).1;have t:∀(i:Nat) k u',(c.st.set j (bD (.loc,u)))[i]?≈bD (k,u')->i≠j->c.st[i]?≈bD (k,u'):=λi k u' e ne=>by rw[hQ (mh ne)]at e;show e
 have G:c.R1 r:=#[j,.own,u,rfl,g,h]
 have A:∀(i:Nat) (u':U),(c.st.set j (bD (.loc,u)))[i]?≈bD (.A',u')->c.st[i]?≈bD (.A',u'):=λi u' e=>by
  by_cases b:i=j
  .subst b;rw[fx s]at e;cases e
  .show t i .A' u' e b
 have b1:∀a,({c with S:=λa=>c.S a\/a=r,st:=c.st.set j (bD (.loc,u))}:Cf).R1 a->c.R1 a:=λa I=>by
  have(i,k,u',hk,e,J):=I;by_cases b:i=j
  .subst b;rw[fx s]at e;cases e;cases hk
  .show#[i,k,u',hk,t i k u' e b,J]
 have L:QO C {c with S:=λa=>c.S a\/a=r,st:=c.st.set j (bD (.loc,u))}:=d.dd.of rfl (λi u' e=>#[A i u' e,rfl]) (λa z=>.inl (b1 a z)) (.up λa=>.inl) λi a z=>#[λq=>q.elim (d.root (.inr #[i,z])).1 λe=>d.dd.d1 i a z (e▸G),λo q=>q]
 show#[d.share (st':=c.st.set j (bD (.loc,u))) D #[o,ho] ⋯ (λi k u' e=>?_) L,#[#[n.keep,n.there,λa z=>?_,λa z=>.inl (n.sub a z),λa z=>?_]],y]
 .by_cases b:i=j
  .subst b;rw[fx s]at e;cases e;show#[#[.ref r,h,y],λz=>nomatch z]
  .have w:=t i k u' e b;have(v,f,p):=d.sl i k u' w;show#[#[v,f,p.mv (.up λa=>.inl) (.up λa z=>z.imp id .inl) λhk l m=>#[?_,λo q=>q]],λ_=>w];have(Xe,B,N,_):=p.rt hk;rw[m]at B;cases B;rintro(z|rfl)
   .show N z
   .show b (d.inj i j k .own u' u l hk rfl w g (by rw[f,m]) h)
 .rcases z with z|⟨i,u',l,f,p,O⟩
  .show n.roots a (.inl (b1 a z))
  .show n.roots a (.inr #[i,u',l,A i u' f,p,O])
 .rcases z with z|rfl
  .show n.new a z
  .rcases n.roots a (.inl #[j,.own,u,rfl,g,h]) with z|z
   .show .inr (.inl z)
   .show .inr (.inr z)
inductive LfO(C:Ct)(c0 c:Cf)(r:Kd×U)(v:V)(Nw:U->au->Prop):Prop
 |mk:∀(S':hH->Prop) (st':au) (u:U),(∀a,c.S a->S' a)->Ok C {c with S:=S',st:=st' }->Nx c0 {c with S:=S',st:=st' }->Rep C S' c.H u v->Nw u st'->(∀a,S' a->c.S a\/v=.ref a/\(r.1=.own\/c.R a))->(∀a,({c with S:=S',st:=st' }:Cf).R a->c.R a)->LfO C c0 c r v Nw
def f_(B:Ok C c0)(b:Ok C c)(n:Nx c0 c)(d:gT C c0 c r.1 r.2 v)(h:W (lift r) c.st D):LfO C c0 c r v D:=by
 have(k,u):=r;cases k with
 |own =>
  rw[show lift (.own,u)=pure u from rfl,ao]at h;have(r,e,G,N,H,t):=d;have(l,m):=Ok.Iy B b n G H t;show#[_,c.st,u,λa=>.inl,l,m,by rw[e];show t.rep (λa=>.inl) (.inr rfl),h,λa z=>?_,λa z=>z];rcases z with z|rfl
  .show .inl z
  .show .inr #[e,.inl rfl]
 |loc =>
  rw[show lift (.loc,u)=pure u from rfl,ao]at h;show#[c.S,c.st,u,λa=>id,b,n,d,h,λa z=>.inl z,λa z=>z]
 |any =>
  rw[show lift (.any,u)=if NY u=b6 then pure u else M.fail from rfl]at h;split at h
  .rw[ao]at h;show#[c.S,c.st,u,λa=>id,b,n,Rep.NY ⋯ d,h,λa z=>.inl z,λa z=>z]
  .show(bf.mp h).elim
 |bor j =>
  have(x,st',e,I):=h;rw[show lift (.bor j,u) c.st=match c.st[j]? with|some (bD (.own,u))=>bD _|_=>cc from rfl]at e;split at e
  .rename_i w f;cases e;have(O,y,r,J,_):=b.sl j _ _ f;have o:=d;rw[o]at y;cases y;subst J;have(l,m,p):=b.Bq n f o;show#[_,_,_,λa=>.inl,l,m,p,I,λa z=>?_,λa z=>?_]
   .rcases z with z|rfl
    .show .inl z
    .show .inr #[rfl,.inr (.inl #[j,.own,_,rfl,f,o])]
   .rcases z with⟨i,k,u',hk,e,q⟩|⟨i,u',L,e,q,s⟩
    rotate_left 1
    .by_cases g:i=j
     .subst g;have A:i<⇑c.st:=(eH.mp f).1;simp_all
     .rw[hQ (mh g)]at e;show .inr #[i,u',L,e,q,s]
    by_cases g:i=j
    .subst g;have A:i<⇑c.st:=(eH.mp f).1;rw[fx A]at e;cases e;cases hk
    .rw[hQ (mh g)]at e;show .inl #[i,k,u',hk,e,q]
  .cases e
 |_=>show d.elim
inductive LfS(C:Ct)(c0 c:Cf)(vs:↑V)(Nw:↑U->au->Prop):Prop
 |mk:∀(S':hH->Prop) (st':au) (us:↑U),(∀a,c.S a->S' a)->Ok C {c with S:=S',st:=st' }->Nx c0 {c with S:=S',st:=st' }->aq C S' c.H us vs->Nw us st'->LfS C c0 c vs Nw
theorem hJ:∀{rs}{vs}{c}{f},Ok C c0->Ok C c->Nx c0 c->eu C c0 c rs vs->W (cn rs) c.st f->LfS C c0 c vs f
 |[],vs,c,f,m,p,n,s,h=>by
  rw[show cn []=pure [] from rfl,ao]at h;show#[c.S,c.st,[],λa=>id,p,n,s,h]
 |r::rs,vs,c,f,m,p,n,s,h=>by
  have(v,t,rfl,J,L,N):=s;rw[show cn (r::rs)=lift r >>= λu=>cn rs >>= λus=>pure _ from rfl,ag]at h;have(O,st1,u,s1,Q,T,b,y,Y,QU):=f_ m p n J h;rw[ag]at y;have V6:=by
   have x:∀(l:↑(Kd×U)) (w:↑V),eu C c0 c l w->(r.1=.own->∀(i:Nat) g j,l[i]?≈g->w[i]?≈j->g.1=.own->j≠v)->eu C c0 {c with S:=O,st:=st1} l w:=by
    intro l;induction l with
    |nil=>intro w q _;show q
    |cons r2 l ih =>
     intro w q A;have(B,D,rfl,k,q2,q3):=q;show#[B,D,rfl,?_,ih D q2 (λhk i g j e1 e2 OU=>A hk (i+1) g j (by assumption) (by assumption) OU),q3];have(k2,u2):=r2;cases k2 with
     |own =>
      have(a,e,p1,p2,G,p4):=k;show#[a,e,p1,λz=>?_,λz=>G (QU a z),p4.mv (.up s1) λo q=>q];rcases Y a z with z|⟨z,z'|z'⟩
      .show p2 z
      .show A z' 0 _ B rfl rfl rfl (e.trans z.symm)
      .show G z'
     |loc=>show Rep.mv (.up s1) k
     |any=>show Rep.mv (.up λa z=>z.imp id (s1 a)) k
     |_=>show k
   show x rs t L N
  have(S2,st2,us,H,N5,n2,d,I):=hJ  m Q T V6 y;rw[ao]at I;show#[S2,st2,u::us,λa z=>H a (s1 a z),N5,n2,#[v,t,rfl,b.mv (.up H),d],I]
def EC(i:PA X es (OV C ms)):PE X (.Tuple es p pos) (NK C (ms >>= λrs=>az rs >>= λ_=>cn rs >>= λus=>if ⇑us<=c8 then pure (.loc,.tup us) else M.fail)):=by
 rintro pins s σ H Q I ⟨c0,rfl,rfl,f,h⟩;show Yi (ND (args i I f h pos) λus s1 j=>?_);have(rs,c,vs,t,g,rv,w):=j;rw[ag]at w;have(S',st',ws,k,l,m,a,d):=hJ f t.ok t.nx t.rep w;split at d
 .rename_i hz;rw[ao]at d;have hl:⇑vs<=c8:=by rw[<-a.len];show hz
  show#[by rw[<-⇑rv];show hl,?_];have n:=g.Ny.fresh (hY _);have o:Inv X pins c0.σ c.H s1:=by rw[<-t.hσ];show g
  show#[.ref _,upd c.H _ (.tup vs),o.laid  (λb u e=>dt _ e) (hY _) ⟨hl,us,rv,WH _ _⟩,rfl,?_];show c7.tup (c:={c with S:=S',st:=st' }) d t.hσ l m a _ n
 .show(bf.mp d).elim
def ED(i:PA X es (OV C ms)):PE X (.List es pos) (NK C (ms >>= λrs=>az rs >>= λ_=>cn rs >>= λus=>if ⇑us<=c8 then pure (.own,.lst us) else M.fail)):=by
 rintro pins s σ H Q I ⟨c0,rfl,rfl,f,h⟩;show Ģ (ND (args i I f h pos) λus s1 j=>?_);have(rs,c,vs,t,g,rv,w):=j;rw[ag]at w;have(S',st',ws,k,l,m,a,d):=hJ f t.ok t.nx t.rep w;split at d
 .rename_i hz;rw[ao]at d;have hl:⇑vs<=c8:=by rw[<-a.len];show hz
  show#[by rw[<-⇑rv];show hl,?_];have n:=g.Ny.fresh (hY _);have o:Inv X pins c0.σ c.H s1:=by rw[<-t.hσ];show g
  show#[.ref _,upd c.H _ (.lst vs),o.laid  (λb u e=>dt _ e) (hY _) ⟨hl,us,0,rv,gj _ rfl⟩,rfl,?_];show c7.list (c:={c with S:=S',st:=st' }) d t.hσ l m a _ n
 .show(bf.mp d).elim
def mf(d:X.N[i]?≈x)(f:OB X.env.scope x)(g:(x==("__debug__":Str))=cK)(l:(x==("__classdict__":Str))=cK):PE X (.Name x pos) (NK C (dH i)):=by
 show PE.weak (a9 d f g l) ?_;rintro σ H Q ⟨c0,rfl,rfl,b,r,st',e,h⟩;unfold dH at e;split at e
 .cases e
 .rename_i k u m hs;cases e;have(v,c,a):=b.sl i k u hs;show#[v,c,h c0 v rfl rfl b (Nx.refl c0) ?_];by_cases hk:k.root=b6
  .rw[ŵ hk];show#[#[k,hk,hs],c]
  .cases k with
   |loc=>show a
   |any=>show a
   |bor j=>show a.elim
   |A'=>show(m rfl).elim
   |_=>show absurd rfl hk
 .cases e
def jV(h:PE X e (tC v))(r:∀S H,Rep C S H u v):PE X e (NK C (pure (.loc,u))):=by
 show PE.weak h ?_;rintro σ H Q ⟨c0,rfl,rfl,a,h⟩;rw[ao]at h;show h c0 v rfl rfl a (Nx.refl c0) (r _ _)
def c7.root(h:c7 C c0 Q (.own,u) c.st)(d:c.σ=c0.σ)(b:Ok C c)(n:Nx c0 c)(p)(a:c.H p=cc)(r:eE C c.S (upd c.H p o) p u):Q (.ref p) (upd c.H p o):=by
 have(e,f):=b.lay  a;have(h0,g,j,k,i):=b.jP a;show h {c with H:=upd c.H p o} _ d rfl e (n.trans f) ⟨p,rfl,n.none a,g,i,r⟩
def Br(c:C.P=X.prog)(d:C.w=X.w)(r:Bool):PE X (.Dict [] [] pos) (NK C (pure (.own,.NA [] []))):=by
 show PE.weak sr ?_;rintro σ H Q ⟨c0,rfl,rfl,a,h⟩ p b;rw[ao]at h;show c7.root h rfl a (Nx.refl c0) p b #[[],aj,rfl,rfl]
def aq.Oe{S:hH->Prop}(h:aq C S H us vs)(e:Oe us i≈u):∃v,L2.Oe vs i≈v/\Rep C S H u v:=by
 unfold L2.Oe at e ⊢;rw[h.len]at e;cases q:QZ _ i with
 |none=>simp_all
 |some j =>
  rw[q]at e;show h.get e
def Iz(G:C.K=X.K)(J:X.A.units+60<C0)(hs:lZ b)(t:Vc C c0 c x y f g)(I:Inv X pins c.σ c.H s)(l:RelV f v)(m:RelV g u)(h:lW x y.2≈r)(q:c7 C c0 Q r c.st):
  ‹X› (subscriptTail a b v u) (EP X pins c.σ Q) X.xe s:=by
 obtain⟨o,d,n,p,ty,-⟩:=t;have(L,N):=y
 dsimp only at h ty
 unfold lW at h;split at h
 .rename_i k xs i;rw[g7]at h;have(w,e,rfl):=h;have(a',vs,ex,j,z):=p.list d;have(vw,B,D):=z.Oe e;show DW a b pins s c.σ c.H f g v u Q I l m #[a',vs,i,vw,ex,ty.int d,G▸j,B,q c vw o rfl d n (aM.item D)] (hs _ _)
 .rename_i k xs i;rw[g7]at h;have(w,e,rfl):=h;have(a',vs,ex,j,z):=p.tuple d;have(vw,B,D):=z.Oe e;rw[G]at j;show km a b pins s c.σ c.H f g v u Q I l m #[a',vs,i,vw,ex,ty.int d,j,B,q c vw o rfl d n (aM.item D)] (hs _ _)
 .split at h
  .rw[g7]at h;have(w,e,rfl):=h;show mU a b pins s c.σ c.H f g v u Q I l m #[_,_,w,p.str d,ty.int d,by assumption,e,q c _ o rfl d n rfl] (hs _ _)
  .cases h
 .cases h
def EF(d:C.K=X.K)(f:X.A.units+60<C0)(hs:lZ b)(g:PE X a (NK C i))(j:PE X b (NK C k)):PE X (.Subscript a b pos) (NK C (i >>= λx=>k >>= λy=>az [x,y] >>= λ_=>M.N1 (lW x y.2))):=by
 rintro pins s σ H Q I ⟨c0,rfl,rfl,l,h⟩;show Ë (two g j I l h λx y c p B v u D t m n o w=>?_);have(r,e,q):=cy.mp w;show ND (Iz d f hs t m n o e q) λ_ _ z=>by rw[t.hσ]at z;show z
def aq.cut{S}(h:aq C S H us vs)(lo hi):aq C S H (TM.cut us lo hi) (uW vs lo hi):=by
 unfold TM.cut uW;rw[h.len];show(h.drop _).take _
def yY{lo hi}(h:HT.NV ⇑xs 0 lo=0/\HT.NV ⇑xs ⇑xs hi=⇑xs):cut xs lo hi=xs:=by
 unfold cut;rw[h.1,h.2];simp
section
variable{prog:rS}{w:wk}{A:Ux}{E:g8->i4->Prop}{s:i4}
def iU{lo hi}(b:Yt s.heap t a)(hs:s.heap.IsSliceOf c e f .none)(g:Yc e lo)(i:Yc f hi)
  (d:HT.NV a.size 0 lo=0/\HT.NV a.size a.size hi=a.size) (h:Q (.ref t) s):f6 (gs prog w) A (U6 (.ref t) (.ref c)) Q E s:=by
 have(os,j,k,n):=id hs;have l:s.TypeIs (.ref c) "slice":=#[os,j,k]
 unfold U6
 try with_reducible show tr ?_
 first|show cL (dV ?_)|skip
 show cL (Ĳ b.typeIs ⋯ ?_);show cL (tj (name:=UG "__getitem__") b.typeIs sL
  (ti sL b.typeIs entry_tuple_getitem ?_ (ī _ _)))
 change f6 _ _ (XN (.ref t) >>= _) _ _ s;show cL (tupleItemsOf_ b ?_);show cL (U4 l ?_);rw[ŵ ⋯];show cL (HT.fD hs g i ?_);have m:(((HT.NV a.size 0 lo:Nat):Int)==0&&(1:Int)==1&&(HT.NV a.size a.size hi - HT.NV a.size 0 lo)==a.size)=b6:=by
  rw[d.1,d.2];simp
 change f6 _ _ (if (((HT.NV a.size 0 lo:Nat):Int)==0&&(1:Int)==1&&(HT.NV a.size a.size hi - HT.NV a.size 0 lo)==a.size)=b6 then _ else _) _ _ s;rw[ŵ m];change f6 (gs prog w) A.in1 ((Z_ (ku t) >>= λx=>pure (x==.type "tuple")) >>= _) _ _ s;show cL (cL (U4 b.typeIs (dV ?_)));rw[ŵ ⋯];show cL (P_ (dV #[_,rfl,dV h]))
end
section
variable{X:Cx}{C:Ct}{pins:List (hH×Obj)}{s:i4}{c0 c c1:Cf}
variable{a b d e:jw}{es:List jw}{m ma mb md:M (Kd×U)}{ms:M (List (Kd×U))}{ta tb:M Bool}{pos p p2:Pos}
def EG:RL X (λx lo hi H Q=>∃a xs,x=.ref a/\Oi X.K H a xs/\(HT.NV ⇑xs 0 lo=0/\HT.NV ⇑xs ⇑xs hi=⇑xs)/\Q (.ref a) H):=by
 intro pins s σ H x v t u lo hi w Q I i hs j k h;have(a,xs,rfl,l,n,q):=h;cases i;have(o,r,g,hz):=I.tuple l;have f:o.toArray.size=⇑xs:=by rw[mu];show r.length.symm
 show#["tuple",_,sL.lookup,g.typeIs,iU g hs j k (by rw[f];show n) #[.ref a,H,I,rfl,q]]
abbrev tO(C:Ct)(m:M (Option Int)):TO:=λσ H Q=>∃c0:Cf,c0.σ=σ/\c0.H=H/\Ok C c0/\W m c0.st λi st'=>∀c,c.σ=σ->c.st=st'->Ok C c->Nx c0 c->Q i c.H
def iH:PO X cc (tO C (pure cc)):=by
 rintro pins s σ H Q I ⟨c0,rfl,rfl,f,h⟩;rw[ao]at h;show DT pins s _ c0.H Q I (h c0 rfl rfl f (Nx.refl c0))
def yZ(f:PE X a (NK C ma)):PO X (bD a) (tO C (ma >>= Il)):=by
 rintro pins s σ H Q I ⟨c0,rfl,rfl,g,h⟩;show DU f pins s _ c0.H Q I (aU g h λx c v t w=>?_);have(k,u):=x;unfold Il at w;split at w
 .rename_i i e;subst e;rw[ao]at w;show#[i,t.rx.int t.ok,w c t.hσ rfl t.ok t.nx]
 .show(bf.mp w).elim
def IA{lo hi}(v:C.K=X.K)(i:c.σ=c0.σ)(f:Ok C c)(n:Nx c0 c)(l:aM C c0 c x.1 x.2 j)(h:jQ x lo hi≈r)(q:c7 C c0 Q r c.st):
  ((KG X.K j lo hi c.H Q\/Kx X.K j lo hi c.H Q)\/(∃a xs,j=.ref a/\Oi X.K c.H a xs/\(HT.NV ⇑xs 0 lo=0/\HT.NV ⇑xs ⇑xs hi=⇑xs)/\Q (.ref a) c.H))\/KO j lo hi c.H Q:=by
 unfold jQ at h;split at h
 .split at h
  .rename_i w;cases h;have(a',vs,ex,k,g):=l.list f;show .inl (.inl (.inl #[a',vs,ex,v▸k,λp o=>q.list i f n ((g9 w g).cut lo hi) p o]))
  .cases h
 .cases h;have(a',vs,ex,k,g):=l.tuple f;have t:=k;rw[v]at t;by_cases u:HT.NV ⇑vs 0 lo=0/\HT.NV ⇑vs ⇑vs hi=⇑vs
  .show .inl (.inr #[a',vs,ex,t,u,?_]);show q c (.ref a') i rfl f n (aM.item #[a',vs,rfl,k,?_]);rw[yY (by rw[g.len];show u)];show g
  .show .inl (.inl (.inr #[a',vs,ex,t,u,λp o=>q.tupK i f n (g.cut lo hi) p o]))
 .split at h
  .cases h;show .inr #[_,l.str f,by assumption,q.flat i f n rfl]
  .cases h
 .cases h
def EH{lo hi}(k:C.K=X.K)(n:PE X a (NK C ma))(hl:PO X lo (tO C ml))(o:PO X hi (tO C u)):
  PE X (.Subscript a (.Slice lo hi cc p2) pos) (NK C (ma >>= λx=>ml >>= λl=>u >>= λh=>az [x] >>= λ_=>M.N1 (jQ x l h))):=by
 show PE.weak (AA (((RL.or DX HC).or EG).or HQ) n hl o) ?_;rintro σ H Q ⟨c0,rfl,rfl,y,h⟩;show aU y h λx c v t w=>?_;rw[ag]at w;show#[c,t.hσ,rfl,t.ok,w.mono λl st2 i c2 z A B D=>?_];subst A;rw[ag]at i;show#[c2,z,rfl,B,i.mono λN O g G j I J L=>?_];subst I;rw[ag,bV]at g;have(r,e,q):=cy.mp g.2;have f:Nx c G:=D.trans L;show IA k j J (t.nx.trans f) ((t.rx.w.on t.ok f (j.trans t.hσ.symm)).t g.1) e q
end
section
variable{X:Cx}{C:Ct}{pins:List (hH×Obj)}{s:i4}{c0 c c1:Cf}
variable{a b d e:jw}{es:List jw}{m ma mb md:M (Kd×U)}{ms:M (List (Kd×U))}{ta tb:M Bool}{pos p p2:Pos}
abbrev Bf.val:Bf->g8
 |.len=>.builtin "len"|.sorted=>.builtin "sorted"|.repr=>.builtin "repr"|.max=>.builtin "max"|.min=>.builtin "min"|.all=>.builtin "all"|.any=>.builtin "any"
 |.list=>.type "list"|.tuple=>.type "tuple"|.str=>.type "str"|.int=>.type "int"
abbrev Bf.name:Bf->Str
 |.len=>"len"|.sorted=>"sorted"|.repr=>"repr"|.max=>"max"|.min=>"min"|.all=>"all"|.any=>"any"
 |.list=>"list"|.tuple=>"tuple"|.str=>"str"|.int=>"int"
def call_of(g:gF X f r)(I:Inv X pins c.σ c.H s)(rv:Vals vs us)(h:r vs c.H Q):‹X› (Qt f us) (EP X pins c.σ Q) X.xe s:=g pins s c.σ c.H vs us Q I rv h
def bY(h:iS f rs≈r):∃x,rs=[x]/\f x≈r:=by
 unfold iS at h;split at h
 .show#[_,rfl,h]
 .cases h
def Gw(D:X.calm=b6)(y:C.K=X.K)(N:X.A.guards≈[])(O:X.A.units+60<C0)(t:OQ C c0 c rs vs)(I:Inv X pins c.σ c.H s)(rv:Vals vs us)(h:P2 f rs≈r)(q:c7 C c0 Q r c.st):
  ‹X› (Qt f.val us) (EP X pins c.σ Q) X.xe s:=by
 have o:=t.hσ;have g:=t.ok;have n:=t.nx;cases f with
 |len =>
  have(x,rfl,hz):=bY  h;clear h;have h:=hz;clear hz;rw[g7]at h;have(k,e,rfl):=h;have(v,rfl,i):=t.one;have(T,G):=x;unfold KS at e;split at e
  .rename_i xs u;have u:G=.lst xs:=u;subst u;cases e;have(a',ws,ex,j,l):=i.list g;rw[l.len]at q;show call_of fV I rv #[a',ws,by rw[ex],.inl (y▸j),q.flat o g n rfl]
  .rename_i xs u;have u:G=.tup xs:=u;subst u;cases e;have(a',ws,ex,j,l):=i.tuple g;rw[y]at j;rw[l.len]at q;show call_of fV I rv #[a',ws,by rw[ex],.inr j,q.flat o g n rfl]
  .rename_i xs u;subst u;split at e
   .cases e;show call_of qo I rv #[_,by rw[i.str g],by assumption,q.flat o g n rfl]
   .cases e
  .cases e
 |sorted =>
  have(x,rfl,hz):=bY (f:=Ic) h;clear h;have h:=hz;clear hz;have(v,rfl,i):=t.one;unfold Ic at h;split at h
  .rw[ki]at h;have(ss,e,h):=h;have B:=cM e;subst B;have(a',ws,ex,j,l):=i.list g;rw[aq.strs]at l;subst l;split at h
   .cases h;show call_of lh I rv #[a',ss,by rw[ex],.inl (y▸j),by assumption,λp z=>q.list o g n (aq.strs.mpr rfl) p z]
   .cases h
  .have(a',kvs,ex,j,l,_):=i.dict g;split at h
   .cases h;show call_of (kC D) I rv #[a',kvs,_,by rw[ex],Rd.of j,l,by assumption,λp z=>q.list o g n (aq.strs.mpr rfl) p z]
   .cases h
  .rw[ki]at h;have(ss,e,h):=h;have B:=cM e;subst B;have(a',ws,ex,j,l):=i.tuple g;rw[y]at j;rw[aq.strs]at l;subst l;split at h
   .cases h;show call_of lh I rv #[a',ss,by rw[ex],.inr j,by assumption,λp z=>q.list o g n (aq.strs.mpr rfl) p z]
   .cases h
  .cases h
 |tuple =>
  have(x,rfl,hz):=bY (f:=Ie) h;clear h;have h:=hz;clear hz;have(v,rfl,i):=t.one;unfold Ie at h;split at h
  .have(a',ws,ex,j,l):=i.list g;cases h;show call_of iY I rv #[a',ws,by rw[ex],.inl #[y▸j,λp z=>q.tupK o g n l p z]]
  .have(a',ws,ex,j,l):=i.tuple g;have J:=j;rw[y]at J;cases h;show call_of iY I rv #[a',ws,by rw[ex],.inr #[J,q c (.ref a') o rfl g n (aM.item #[a',ws,rfl,j,l])]]
  .cases h
 |str =>
  have(x,rfl,hz):=bY (f:=Ba) h;clear h;have h:=hz;clear hz;have(v,rfl,i):=t.one;unfold Ba at h;split at h
  .split at h
   .cases h;show call_of qe I rv #[_,by rw[i.int g],⋯,q.flat o g n rfl]
   .cases h
  .cases h
 |int =>
  have(x,rfl,hz):=bY (f:=Ih) h;clear h;have(v,rfl,i):=t.one;unfold Ih at hz;split at hz
  .cases hz;show call_of yz I rv (.inr #[_,by rw[i.bl g],q.flat o g n rfl])
  .cases hz
 |max =>
  have h:yS cK rs≈r:=h;unfold yS at h;split at h
  .have(v,L,rfl,i,ty):=t.two;cases h;show call_of (yx D) I rv #[_,_,by rw[i.int g,ty.int g],q.flat o g n rfl]
  .cases h
 |min =>
  have h:yS b6 rs≈r:=h;unfold yS at h;split at h
  .have(v,L,rfl,i,ty):=t.two;cases h;show call_of (yy D) I rv #[_,_,by rw[i.int g,ty.int g],q.flat o g n rfl]
  .cases h
 |all =>
  have(x,rfl,hz):=bY (f:=Ig) h;clear h;have h:=hz;clear hz;have(v,rfl,i):=t.one;unfold Ig at h;split at h
  .rw[g7]at h;have(bs,e,rfl):=h;have B:=nB e;subst B;have(a',ws,ex,j,l):=i.list g;have:=l.bls;subst this;show call_of (AO D) I rv #[a',bs,by rw[ex],y▸j,q.flat o g n rfl]
  .cases h
 |_=>cases h
def EI{id}(g:X.calm=b6)(i:C.K=X.K)(j:X.A.guards≈[])(k:X.A.units+60<C0)(l:f.val=.builtin id)(n:Gl X x)(o:X.mg x=cc)(u:so x≈.builtin id)(hn:x≠"__name__")(v:(x==("__debug__":Str))=cK)
  (y:PA X (e::es) (OV C ms)) (B:i0 (e::es) X.env=(cK,p8 e X.env)::i0 es X.env) (D:(vl pos (i0 es X.env)).any (·.1)=cK) :
  PE X (.Call (.Name x p) (e::es) [] pos) (NK C (ms >>= λrs=>az rs >>= λ_=>M.N1 (P2 f rs))):=by
 rintro pins s σ H Q I ⟨c0,rfl,rfl,G,h⟩;show nT (dC I n o u ?_ hn v);show ur (ND (args y I G h pos) λus s1 ⟨rs,c,vs,t,J,rv,w⟩=>?_) B D;have(r,e,q):=cy.mp w;have z:=Gw g i j k t J rv e q;rw[l,t.hσ]at z;show z
def EJ(g:X.calm=b6)(i:C.K=X.K)(j:X.A.guards≈[])(k:X.A.units+60<C0)(l:f.val=.type T)(n:Gl X x)(o:X.mg x=cc)(u:so x≈.type T)(hn:x≠"__name__")(v:(x==("__debug__":Str))=cK)
  (y:PA X (e::es) (OV C ms)) (B:i0 (e::es) X.env=(cK,p8 e X.env)::i0 es X.env) (D:(vl pos (i0 es X.env)).any (·.1)=cK) :
  PE X (.Call (.Name x p) (e::es) [] pos) (NK C (ms >>= λrs=>az rs >>= λ_=>M.N1 (P2 f rs))):=by
 rintro pins s σ H Q I ⟨c0,rfl,rfl,G,h⟩;show nT (dC I n o u ?_ hn v);show x8 (ND (args y I G h pos) λus s1 ⟨rs,c,vs,t,J,rv,w⟩=>?_) B D;have(r,e,q):=cy.mp w;have z:=Gw g i j k t J rv e q;rw[l,t.hσ]at z;show z
abbrev Ss.name(_:Ss):Str:="str"
abbrev Ss.nm(_:Ss):String:="str"
def EK(T:Ss):so T.name≈.type T.nm/\T.name≠"__name__"/\(T.name==("__debug__":Str))=cK:=by
 cases T<;>show#[by decide +kernel,by decide +kernel,by rfl]
def iJ(T:Ss):Z_ (.type T.nm)=pure (.type "type"):=by rfl
def IB{b}(l:C.K=X.K)(t:RT C c0 c x v)(I:Inv X pins c.σ c.H s)(rv:RelV v val)(h:sX x.2 T≈b)(q:∀tk,Q (.bool b) {s with toks:=tk}):
  ‹X› (Qt (.builtin "isinstance") [val,.type T.nm]) Q X.xe s:=by
 have(k,u):=x;have(L,f,n,r):=t;have z:Q (.bool b) s:=q s.toks
 dsimp only at h r
 have i:∀{y:String},b=b6->s.TypeIs val y->Vn (.type y) (.type T.nm)=pure b6->‹X› (Qt (.builtin "isinstance") [val,.type T.nm]) Q X.xe s:=λe B hs=>by
  subst e;show ş B (iJ T) hs z
 unfold sX at h;split at h
 .cases h;have e:v=_:=r.str f;subst e;have(tk,rfl):=rv;show i rfl (Rg s _ tk) (by rfl)
 .cases h;have e:v=_:=r.int f;subst e;have(tk,rfl):=rv;show UW (isinstance_false_int (by rfl) (iJ T) (by rfl)) (q _)
 .cases h;have e:v=_:=r.bl f;subst e;cases rv;show UW (isinstance_false_bool (by rfl) (iJ T) (by rfl)) (q _)
 .cases h;have e:v=_:=r.Nz f;subst e;cases rv;show UW (isinstance_false_none (by rfl) (iJ T) (by rfl)) (q _)
 .cases h;have(a',ws,rfl,g,D):=r.list f;cases rv;rw[l]at g;have(G,_,J,_):=I.list g;have(o,ho,j,_):=J.isList;show UW (isinstance_false_list (by cases T;decide +kernel) (iJ T) (by rfl)) ⟨⟨o,ho,j⟩,q _⟩
 .cases h;have(a',ws,rfl,g,D):=r.tuple f;cases rv;rw[l]at g;have(G,_,(o,ho,j,_),_):=I.tuple g;show UW (isinstance_false_tuple (by rfl) (iJ T) (by rfl)) #[#[o,ho,j],q _]
 .cases h
def xC(g:C.K=X.K)(i:Gl X "isinstance")(j:X.mg "isinstance"=cc)(k:Gl X T.name)(l:X.mg T.name=cc)(n:PE X a (NK C ma))(hs:i0 [a,.Name T.name p2] X.env=(cK,p8 a X.env)::i0 [.Name T.name p2] X.env):
  PE X (.Call (.Name "isinstance" p) [a,.Name T.name p2] [] pos) (NK C (ma >>= λx=>M.N1 (sX x.2 T) >>= λb=>pure (.loc,.bl b))):=by
 rintro pins s σ H Q I ⟨c0,rfl,rfl,o,h⟩;have(q,r,u):=EK T;show nT (dC I i j (show so "isinstance"≈_ by rfl) ?_ (by decide +kernel) (by decide +kernel));show ur (ND (bB n (bB (wR (v:=.ty T.nm) k l q rfl r u) cC) hs pos pins s c0.σ c0.H (λvs H'=>∃x c v b,RT C c0 c x v/\c.H=H'/\vs=[v,.ty T.nm]/\sX x.2 T≈b/\c7 C c0 Q (.loc,.bl b) c.st) I ?_) λus s1 ⟨vs,L,f,y,x,c,v,b,t,e,A,B,w⟩=>?_) hs (by rfl)
 .show aU o h λx c v t w=>?_;rw[ag]at w;have(b,e,w):=cy.mp w;rw[ao]at w;show#[x,c,v,b,t,rfl,rfl,e,w]
 .subst e A;have(N,O,rfl,D,G):=vals2 y;cases G;have J:Inv X pins c.σ c.H s1:=by rw[t.hσ];show f
  have z:=IB (Q:=EP X pins c0.σ Q) g t J D B λtk=>#[.bl b,c.H,f.tok tk,rfl,w c (.bl b) t.hσ rfl t.ok t.nx rfl]
  show z
@[reducible]noncomputable def Vd(P:rS)(w:wk)(K:W.Frag)(H:Hp)(f:hH->Prop):Ct:=#[P,w,K,H,f,λ_=>False,λ_ _=>False]
structure Back(C:Ct)(H H':Hp)(S':hH->Prop)(k:Kd)(u:U)(v:V):Prop where
 same:fW H H'
 new:∀a,S' a->H a=cc/\∃o,H' a≈o
 own:k=.own->∃r,v=.ref r/\H r=cc/\¬S' r/\eE C S' H' r u
 loc:k=.loc->Rep C S' H' u v
 any:k=.any->Rep C (PS C S') H' u v
abbrev spT(P:rS)(w:wk)(K:W.Frag)(F:↑U->Option (Ex (Kd×U)))(g:Nat):Sp:=λvs H Q E=>⇑vs=g/\∃us r f,F us≈r/\(∀a,f a->PV H a)/\aq (Vd P w K H f) f H us vs/\match r with
 |.ok (k,u)=>(k=.own\/k=.loc\/k=.any)/\∀v H' S',Back (Vd P w K H f) H H' S' k u v->Q v H'
 |.exc c=>∀C H',W.nsIn K i5 c≈bD (.ref C)->fW H H'->E (.ref C) cc H'
def OQ.read(t:OQ C c0 c rs vs):aq C (PV c.H) c.H (rs.map (·.2)) vs:=by
 have f:∀(l:↑_) (w:↑V),eu C c0 c l w->bg l c.st->aq C (PV c.H) c.H (l.map (·.2)) w:=by
  intro l;induction l with
  |nil=>intro w h _;show h
  |cons r l g =>
   intro w h hs;have(v,t',rfl,i,j,_):=h;rw[eO]at hs;show#[v,t',rfl,(i.t hs.1).read t.ok,g t' j hs.2]
 show f rs vs t.rep t.RU
def Back.here(hk:k=.own\/k=.loc)(i:c.σ=c0.σ)(f:Ok C c)(n:Nx c0 c)(q:j.Eqv C)(h:Back j c.H H' S' k u v)(w:c7 C c0 Q (k,u) c.st):Q v H':=by
 have(l,t):=f.grow (S':=λa=>c.S a\/S' a) h.same (λa z=>z.imp id λz=>h.new a z) λa=>.inl;have hn:=n.trans t;show w {c with H:=H',S:=λa=>c.S a\/S' a} v i rfl l hn ?_;rcases hk with rfl|rfl
 .have(r,e,g,x,y):=h.own rfl;have(B,z1,z2,D,A):=f.jP g;show#[r,e,n.none g,λz=>z.elim z1 x,A,(y.cg q).mv (.up λa=>.inr) λo q=>q]
 .show((h.loc rfl).cg q).mv (.up λa=>.inr)
def xD(n:C.P=X.prog)(o:C.w=X.w)(x:C.K=X.K)(D:Γ f=F)(hk:∀us k u,F us≈.ok (k,u)->(k=.own\/k=.loc\/k=.any)/\⇑us=y)
  (G:dF X.prog X.w X.K X.mg X.base (PD X.prog X.w) k fa J ps (spT X.prog X.w X.K F y)) (L:cX k X.A) (i:Binds X.K J ps []) (t:OQ C c0 c rs vs) (I:Inv X pins c.σ c.H s) (rv:Vals vs us) (w:W (ja Γ f (rs.map (·.2))) c.st (c7 C c0 Q)) :
  ‹X› (Qt (.ref fa) us) (EP X pins c0.σ Q) X.xe s:=by
 have(r,st',g,q):=w;unfold ja at g;rw[D]at g;cases h:F (rs.map (·.2)) with
 |none=>rw[h]at g;cases g
 |some r' =>
  rw[h]at g;split at g
  .cases g
  .rename_i z;cases z
  rename_i N O;cases O;cases g;have(j,u):=r;have(k0,k2):=hk _ _ _ h;have k1:j=.own\/j=.loc:=by
   rcases k0 with z|z|z
   .show .inl z
   .show .inr z
   .subst z;show(N u rfl).elim
  have l:C.Eqv (Vd X.prog X.w X.K c.H (PV c.H)):=#[n,o,x]
  have T:(Vd X.prog X.w X.K c.H (PV c.H)).Eqv C:=#[n.symm,o.symm,x.symm]
  have B:=t.read;have Y:spT X.prog X.w X.K F y vs c.H (λv H'=>Q v H') E0:=#[by rw[<-B.len];show k2,rs.map (·.2),.ok (j,u),PV c.H,h,λ_ z=>z,B.cg l,k0,λv H' S' i=>i.here k1 t.hσ t.ok t.nx T q]
  have z:=Av (Q:=Q) G L i .nil Gq I rv (by rw[tE];show Y);rw[t.hσ]at z;show z
def Bs(i:C.P=X.prog)(j:C.w=X.w)(l:C.K=X.K)(n:Γ f=F)(hk:∀us k u,F us≈.ok (k,u)->(k=.own\/k=.loc\/k=.any)/\⇑us=o)
  (G:dF X.prog X.w X.K X.mg X.base (PD X.prog X.w) k fa q ps (spT X.prog X.w X.K F o)) (r:cX k X.A) (v:Gl X f) (x:X.mg f≈.ref fa) (y:W.keepIn X.K (.ref fa)=b6) (z:Binds X.K q ps [])
  (B:(f==("__debug__":Str))=cK) (D:PA X (e::es) (OV C ms)) (J:i0 (e::es) X.env=(cK,p8 e X.env)::i0 es X.env) (L:(vl pos (i0 es X.env)).any (·.1)=cK) :
  PE X (.Call (.Name f p) (e::es) [] pos) (NK C (ms >>= λrs=>az rs >>= λ_=>ja Γ f (rs.map (·.2)))):=by
 rintro pins s σ H Q I ⟨c0,rfl,rfl,ok,h⟩;show nT (eD I v x ?_ B);show W.callWith_K (h₀:=X.base) I.ok.mod.SR y (ND (args D I ok h pos) λus s1 ⟨rs,c,vs,t,g,rv,w⟩=>#[g.Ph,xD i j l n hk G r z t g rv w]) J L
end
abbrev Mf.id:Mf->String
 |.split=>"str.split"|.join=>"str.join"|.partition=>"str.partition"|.endswith=>"str.endswith"
abbrev Mf.name:Mf->Str
 |.split=>"split"|.join=>"join"|.partition=>"partition"|.endswith=>"endswith"
def Bt(h:jR f u rs≈r):∃x,u=.str x:=by
 obtain⟨b,e,-⟩:=gU h;show#[b,e]
def IC(L:C.K=X.K)(t:OQ C c0 c (x::rs) (l::vs))(I:Inv X pins c.σ c.H s)(m:RelV l v)(rv:Vals vs us)(h:jR f x.2 rs≈r)(q:c7 C c0 Q r c.st):
  ‹X› (Qt (.builtin f.id) (v::us)) (EP X pins c.σ Q) X.xe s:=by
 have o:=t.hσ;have d:=t.ok;have n:=t.nx;have(kx,ux):=x;have hs:=eO.mp t.RU;obtain⟨v0,Xg,N,y,z,-⟩:=t.rep;cases N;have O:=y.t hs.1;have one:∀{r:Kd×U},eu C c0 c [r] vs->bg [r] c.st->∃v,vs=[v]/\aM C c0 c r.1 r.2 v:=λ{r} h s=>by
  have(v,t',rfl,y,z,_):=h;cases z;show#[v,rfl,y.t s]
 have(a,ea,g):=gU h;subst ea;have((ky,T),Y,k):=bY g;subst Y;have(w,rfl,ty):=one z hs.2;have ex:=O.str d
 dsimp only at k ty
 cases f with
 |split =>
  have(b,rfl,i):=gU k;have(j,e):=Pd.mp i;cases e;show AN pins s c.σ c.H l [w] v us Q I m rv #[_,_,ex,by rw[ty.str d],j.1,j.2,λp B=>q.list o d n (aq.strs.mpr rfl) p B]
 |join =>
  cases T with
  |lst xs =>
   have(ss,e,i):=ki.mp k;have D:=cM e;subst D;have(j,e):=Pd.mp i;cases e;have(a',ws,G,J,u):=ty.list d;rw[aq.strs]at u;subst u;show D5 pins s c.σ c.H l [w] v us Q I m rv #[_,a',ss,ex,by rw[G],L▸J,j,q.flat o d n rfl]
  |tup xs =>
   have(ss,e,i):=ki.mp k;have D:=cM e;subst D;have(j,e):=Pd.mp i;cases e;have(a',ws,G,J,u):=ty.tuple d;rw[aq.strs]at u;subst u;show A2 pins s c.σ c.H l [w] v us Q I m rv #[_,a',ss,ex,by rw[G],L▸J,j,q.flat o d n rfl]
  |_=>cases k
 |endswith =>
  have(b,rfl,i):=gU k;cases i;show sE pins s c.σ c.H l [w] v us Q I m rv #[_,_,ex,by rw[ty.str d],q.flat o d n rfl]
 |partition =>
  have(b,rfl,i):=gU k;have(j,e):=Pd.mp i;cases e;show qB pins s c.σ c.H l [w] v us Q I m rv #[_,_,ex,by rw[ty.str d],j.1,j.2,λp B=>?_];show q.tup o d n #[_,_,rfl,rfl,_,_,rfl,rfl,_,_,rfl,rfl,rfl] p B
def EL(G:C.K=X.K)(slot:ō "str" name f.id)(J:Z_ (.builtin f.id)=pure (.type "method_descriptor"))(ho:PE X o (NK C m))(L:PA X (e::es) (OV C ms))
  (N:LF o name X.env (p8 o X.env)=p8 o X.env)
  (O:((vl a (i0 (e::es) X.env)).all (λx=>!x.1)&&(UB a (PU [] X.env)).all (λx=>x.1.isSome)
   && df (⇑(e::es)+⇑([]:↑QK)+(if ([]:↑QK).isEmpty then 0 else 1)<30))=b6)
  (T:(b.endLine==a.line)=b6) (hs:i0 (e::es) X.env=(cK,p8 e X.env)::i0 es X.env) (TY:(vl a (i0 es X.env)).any (·.1)=cK) :
  PE X (.Call (.Attribute o name b) (e::es) [] a) (NK C (m >>= λx=>ms >>= λrs=>az (x::rs) >>= λ_=>M.N1 (jR f x.2 rs))):=by
 rintro pins s σ H Q I ⟨c0,rfl,rfl,Y,h⟩;show WT N O T rfl (ND (ho pins s c0.σ c0.H (λd l=>∃x c1,c1.H=l/\RT C c0 c1 x d/\W (ms >>= λrs=>az (x::rs) >>= λ_=>M.N1 (jR f x.2 rs)) c1.st (c7 C c0 Q)) I (aU Y h λx c v t w=>#[x,c,rfl,t,w])) ?_);rintro v s1 ⟨d,l,n,p,x,c1,rfl,t,w⟩;have Um:∃z,x.2=.str z:=by
  rw[ag]at w;have(rs,st2,_,w):=w;rw[ag]at w;have(_,Oa,_,w):=w;have(r,e,_):=cy.mp w;show Bt e
 have(z,hz):=Um;have u:=t.rx;rw[hz]at u;have ev:=u.str t.ok;have ty:WV X.K "str" d c1.H:=by rw[ev];rfl
 have(h1,h2):=qp n p ty;show#["str",f.id,F.plainAttrs_str,slot,J,h1,h2,?_];rw[ag]at w;have y:=L a pins s1 c0.σ c1.H (λvs A=>∃rs c2,c2.H=A/\OQ C c0 c2 (x::rs) _/\W (M.N1 (jR f x.2 rs)) c2.st _) n ⟨c1,t.hσ,rfl,t.ok,w.mono λrs st2 j c2 vs B e4 N5 D g=>by
  rw[ag,bV]at j;subst e4;show#[rs,c2,rfl,#[B,N5,t.nx.trans D,#[d,vs,rfl,t.rx.w.on t.ok D (B.trans t.hσ.symm),g.from t.nx,λhk i r' v' e5 e6 OU=>nA t.rx.w (g.get e5 e6) hk OU],j.1],j.2]⟩
 rw[hs]at y ⊢;show uk (by assumption) (w6 ?_);show ND y ?_;rintro us s2 ⟨vs,A,I2,g,rs,c2,rfl,k,w2⟩;have(r,e,q):=cy.mp w2;have z:=IC G k (by rw[k.hσ];show I2) p g e q;rw[k.hσ]at z;show z
section
variable{X:Cx}{C:Ct}{pins:List (hH×Obj)}{s:i4}{c0 c c1:Cf}
variable{e:jw}{es:List jw}{ms:M (List (Kd×U))}{pos p p2 pos2:Pos}
abbrev B2.out:B2->g8
 |.PX=>.type "tuple"|.Rp=>.type "list"|.sset=>.builtin "sorted"|.jg=>.builtin "len"
abbrev B2.Xh:B2->g8
 |.PX=>.type "reversed"|.Rp=>.type "reversed"|.sset=>.type "set"|.jg=>.type "set"
abbrev B2.qR:B2->Str
 |.PX=>"tuple"|.Rp=>"list"|.sset=>"sorted"|.jg=>"len"
abbrev B2.jW:B2->Str
 |.PX=>"reversed"|.Rp=>"reversed"|.sset=>"set"|.jg=>"set"
theorem aq.rev{S}:∀{us}{vs},aq C S H us vs->aq C S H us.reverse vs.reverse
 |[],vs,h=>by cases h;rfl
 |u::us,vs,h=>by
  have(v,r,rfl,a,b):=h;rw[Vf,Vf];show(aq.rev b).append #[v,[],rfl,a,rfl]
def y7(g:C.K=X.K)(i:Ok C c)(j:aM C c0 c k u v)(h:yT u≈ss):∃a ys,v=.ref a/\(N_ X.K c.H a (ys.map V.str)\/Oi X.K c.H a (ys.map V.str))/\⇑ys+1<SS/\ss=bX ys:=by
 unfold yT at h;split at h
 .rw[ki]at h;have(ys,e,h):=h;have f:=cM e;subst f;have(a',ws,ex,d,b):=j.list i;rw[aq.strs]at b;subst b;split at h
  .cases h;show#[a',ys,ex,.inl (g▸d),⋯,rfl]
  .cases h
 .rw[ki]at h;have(ys,e,h):=h;have f:=cM e;subst f;have(a',ws,ex,d,b):=j.tuple i;rw[aq.strs]at b;subst b;rw[g]at d;split at h
  .cases h;show#[a',ys,ex,.inr d,by assumption,rfl]
  .cases h
 .cases h
def ID(j:X.calm=b6)(k:C.K=X.K)(t:OQ C c0 c rs vs)(I:Inv X pins c.σ c.H s)(rv:Vals vs us)(h:vC f rs≈r)(q:c7 C c0 Q r c.st):
  ‹X› (Qt f.Xh us) (λv s1=>‹X› (Qt f.out [v]) (EP X pins c.σ Q) X.xe s1) X.xe s:=by
 have m:=t.hσ;have a:=t.ok;have n:=t.nx;cases f with
 |PX =>
  have(x,rfl,hz):=bY (f:=Ii) h;clear h;have h:=hz;clear hz;have(v,rfl,d):=t.one;unfold Ii at h;split at h
  .cases h;have(a',ws,ex,b,g):=d.tuple a;rw[k]at b;subst ex;have(u,rfl,i):=vals1 rv;cases i;show yO j I b λl hl=>q.tupK m a n g.rev l hl
  .cases h
 |jg =>
  have(x,rfl,hz):=bY (f:=λx:Kd×U=>(yT x.2).map λss:↑Str=>(Kd.loc,U.int (⇑ss:Int))) h;clear h;have h:=hz;clear hz;have(ss,e,rfl):=g7.mp h;have(v,rfl,d):=t.one;have(a',ys,rfl,b,g,rfl):=y7 k a d e;have(u,rfl,i):=vals1 rv;cases i;show qI j I b g λS h' tk o y=>vh y o (q.flat m a n rfl)
 |_=>cases h
def xE:∀f:B2,so f.qR≈f.out/\so f.jW≈f.Xh/\f.qR≠"__name__"/\f.jW≠"__name__"/\(f.qR==("__debug__":Str))=cK/\(f.jW==("__debug__":Str))=cK:=by
 intro f;cases f<;>show#[by decide +kernel,by decide +kernel,by decide +kernel,by decide +kernel,by decide +kernel,by rfl]
def IE(f:B2):∃T,f.Xh=.type T:=by cases f<;>show#[_,rfl]
def IF(f:B2):(∃T,f.out=.type T)\/∃T,f.out=.builtin T:=by cases f<;>first|show .inl ⟨_,rfl⟩|show .inr ⟨_,rfl⟩
def EM{M}{E}(h:f6 M A t (λv a=>f6 M A (Qt (.type T) [v]) Q E a) E s):f6 M A (ŧ pos (.type T) [] [(cK,t)] []) Q E s :=
 PySem.callWith_type rfl (w6 (sg (lg h (λ_ _ b=>y8 b) λ_ _ e=>e)))
def Bu{M}{E}(h:f6 M A t (λv a=>f6 M A (Qt (.builtin T) [v]) Q E a) E s):f6 M A (ŧ pos (.builtin T) [] [(cK,t)] []) Q E s :=
 uk rfl (w6 (sg (lg h (λ_ _ b=>y8 b) λ_ _ e=>e)))
def Bv(b:X.calm=b6)(d:C.K=X.K)(g:Gl X f.jW)(i:X.mg f.jW=cc)
  (j:PA X (e::es) (OV C ms)) (k:i0 (e::es) X.env=(cK,p8 e X.env)::i0 es X.env) (l:(vl pos2 (i0 es X.env)).any (·.1)=cK)
  (I:Inv X pins c0.σ c0.H s) (m:Ok C c0) (h:W (ms >>= λrs=>az rs >>= λ_=>M.N1 (vC f rs)) c0.st (c7 C c0 Q)) :
  ‹X› (p8 (.Call (.Name f.jW p2) (e::es) [] pos2) X.env) (λv s1=>‹X› (Qt f.out [v]) (EP X pins c0.σ Q) X.xe s1) X.xe s:=by
 have(b1,n,b3,b4,B,o):=xE f;show nT (dC I g i n ?_ b4 o);have a:‹X› (ĵ (vl pos2 (i0 (e::es) X.env))) (λus s1=>‹X› (Qt f.Xh us) (λv s1=>‹X› (Qt f.out [v]) (EP X pins c0.σ Q) X.xe s1) X.xe s1) X.xe s :=
  ND (args j I m h pos2) λus s1 u=>by
   have(rs,c,vs,t,x,rv,w):=u;have(r,e,q):=cy.mp w;have z:=ID b d t x rv e q;rw[t.hσ]at z;show z
 have(T,y):=IE f;rw[y]at a ⊢;show x8 a k l
def EN(d:X.calm=b6)(g:C.K=X.K)(i:Gl X f.qR)(j:X.mg f.qR=cc)(k:Gl X f.jW)(l:X.mg f.jW=cc)
  (m:PA X (e::es) (OV C ms)) (n:i0 (e::es) X.env=(cK,p8 e X.env)::i0 es X.env) (o:(vl pos2 (i0 es X.env)).any (·.1)=cK) :
  PE X (.Call (.Name f.qR p) [.Call (.Name f.jW p2) (e::es) [] pos2] [] pos) (NK C (ms >>= λrs=>az rs >>= λ_=>M.N1 (vC f rs))):=by
 rintro pins s σ H Q I ⟨c0,rfl,rfl,q,h⟩;have(b1,v,b3,b4,r,w):=xE f;show nT (dC I i j b1 ?_ b3 r);have a:=Bv (p2:=p2) (pos2:=pos2) d g k l m n o I q h;have t:vl pos (i0 [.Call (.Name f.jW p2) (e::es) [] pos2] X.env)=[(cK,p8 (.Call (.Name f.jW p2) (e::es) [] pos2) X.env)]:=rfl;have u:UB pos (PU [] X.env)=[]:=rfl;rw[t,u];rcases IF f with⟨T,b⟩|⟨T,b⟩
 .rw[b]at a ⊢;show EM a
 .rw[b]at a ⊢;show Bu a
end
section
variable{X:Cx}{C:Ct}{pins:List (hH×Obj)}{s:i4}{c0 c c1:Cf}
variable{a b d e o tg:jw}{es:List jw}{m ma mb md:M (Kd×U)}{ms:M (List (Kd×U))}{ta tb:M Bool}{pos p p2 apos Nu:Pos}
abbrev nE(rs:↑(Kd×U))(c f:Cf):Prop:=∀j u,(Kd.bor j,u)∈rs->f.σ[j]?=c.σ[j]?
abbrev Walk(C:Ct)(c:Cf)(rs:↑(Kd×U))(xs:↑(Kd×U))(J:It):Prop:=∀f,Ok C f->Ns c f->nE rs c f->bg rs f.st ->
 (∀(i:Nat) r,xs[i]?≈r->(r.1=.loc\/r.1=.any)/\J.go i f.H/\∀x H',J.UR i f.H x H'->∃g:Cf,g.H=H'/\g.σ=f.σ/\g.st=f.st/\Ok C g/\Nx f g/\aM C f g r.1 r.2 x) /\
 ∀i:Nat,⇑xs<=i->J.stop i f.H
abbrev Rt(C:Ct)(f:Ik)(ms:M (↑(Kd×U))):TI:=λσ H R=>∃c0:Cf,c0.σ=σ/\c0.H=H/\Ok C c0/\W (ms >>= λrs=>az rs >>= λ_=>M.N1 (P4 f rs) >>= λxs=>pure (rs,xs)) c0.st λq st' =>
 ∀c J,c.σ=σ->c.st=st'->Ok C c->Nx c0 c->bg q.1 c.st->Walk C c q.1 q.2 J->R J c.H
def aM.walk(g:Ok C c)(n:Ns c f)(i:nE [r] c f)(hs:bg [r] f.st)(h:aM C c0 c r.1 r.2 v):aM C c0 f r.1 r.2 v :=
 (h.w.on' g n λj e=>i j r.2 (by rw[<-e];simp)).t hs
def Bw(k):kE k=.loc\/kE k=.any:=by cases k<;>simp[kE]
def y_(z:C.K=X.K)(A:Ok C c)(h:aM C c0 c k (.lst us) (.ref a')):Walk C c [(k,.lst us)] (us.map λu=>(kE k,u)) (US X.K a'):=by
 intro l q n B hs;have h':=aM.walk  A n B hs h;have(G,vs,e,f,t):=h'.list q;cases e;rw[z]at f;show#[λi r w=>?_,λi hi=>#[vs,f,by rw[<-t.len];simp_all]];rw[sd,g7]at w;have(u,D,rfl):=w;have(v,y,g):=t.get D;show#[Bw k,#[vs,v,f,y],λx H' j=>?_];have(e,j):=j;subst e;have:=j vs f;rw[y]at this;cases this;show#[l,rfl,rfl,rfl,q,Nx.refl l,aM.item g]
def vH(z:C.K=X.K)(A:Ok C c)(h:aM C c0 c k (.tup us) (.ref a')):Walk C c [(k,.tup us)] (us.map λu=>(kE k,u)) (XY X.K a'):=by
 intro l q n B hs;have h':=aM.walk  A n B hs h;have(G,vs,e,f,t):=h'.tuple q;cases e;rw[z]at f;show#[λi r w=>?_,λi hi=>#[vs,f,by rw[<-t.len];simp_all]];rw[sd,g7]at w;have(u,D,rfl):=w;have(v,y,g):=t.get D;show#[Bw k,#[vs,v,f,y],λx H' j=>?_];have(e,j):=j;subst e;have:=j vs f;rw[y]at this;cases this;show#[l,rfl,rfl,rfl,q,Nx.refl l,aM.item g]
def Bx:Walk C c [(k,.str x)] (x.cps.toList.map λch=>(.loc,.str #[#v[ch]])) (YC x):=by
 intro f l n t hs;show#[λi r g=>?_,λi hi=>by change ⇑x.cps.toList<=i;simp_all];rw[sd,g7]at g;have(ch,h,rfl):=g;show#[.inl rfl,(eH.mp h).1,λy H' q=>?_];have(e,c2,j,rfl):=q;subst e;rw[h]at j;cases j;show#[f,rfl,rfl,rfl,l,Nx.refl f,rfl]
def nF{lo}:Walk C c rs ((ib n).map λi:Nat=>(Kd.loc,U.int (lo+(i:Int)))) (Vz lo n):=by
 intro g k nx q hs;show#[λi r h=>?_,λi hi=>by change n<=i;simp_all];rw[sd,g7]at h;have(j,f,rfl):=h;have hi:=by simpa using(eH.mp f).1
 rw[XM hi]at f;cases f;show#[.inl rfl,hi,λy H' l=>?_];have(e,rfl):=l;subst e;show#[g,rfl,rfl,rfl,k,Nx.refl g,rfl]
def IG(j:C.K=X.K)(q:PE X a (NK C ma)):PI X tg a (Rt C .seq (ma >>= λr=>pure [] >>= λrs=>pure (r::rs))):=by
 rintro pins s σ H R I ⟨c0,rfl,rfl,t,h⟩;rw[ag,ag]at h;have(r,st1,w,h):=h;rw[ag,ao,ao,ag,bV,ag]at h;have(y,h):=h;have(xs,l,h):=cy.mp h;rw[ao]at h;have(k,u):=r;cases u with
 |lst us =>
  cases l;show DG q pins s _ c0.H R I #[c0,rfl,rfl,t,_,st1,w,λc v i hs g n f=>?_];have(a',vs,rfl,z,B):=f.list g;subst hs;show#[a',rfl,#[vs,j▸z],h c _ i rfl g n y (y_ j g f)]
 |tup us =>
  cases l;show Hq q pins s _ c0.H R I #[c0,rfl,rfl,t,_,st1,w,λc v i hs g n f=>?_];have(a',vs,rfl,z,B):=f.tuple g;subst hs;have A:=z;rw[j]at A;show#[a',rfl,#[vs,A],h c _ i rfl g n y (vH j g f)]
 |str x =>
  cases l;show HP q pins s _ c0.H R I #[c0,rfl,rfl,t,_,st1,w,λc v i hs g n f=>?_];subst hs;show#[_,f.str g,h c _ i rfl g n y Bx]
 |_=>cases l
def vI{k:↑(Kd×U)->M β}{g}(i:Ok C c0)(h:W (ms >>= λrs=>az rs >>= λ_=>k rs) c0.st g)
  (hz:∀rs c vs,OQ C c0 c rs vs->W (k rs) c.st g->Z vs c.H):OV C ms c0.σ c0.H Z:=by
 rw[ag]at h;show#[c0,rfl,rfl,i,h.mono λrs st1 f c1 vs j l n q r=>?_];rw[ag,bV]at f;subst l;show hz rs c1 vs #[j,n,q,r,f.1] f.2
def EO(g:Gl X "range")(i:X.mg "range"=cc)(hs:i0 [a] X.env=[(cK,p8 a X.env)])(j:PA X [a] (OV C ms)):PI X tg (.Call (.Name "range" p) [a] [] pos) (Rt C .Ol ms):=by
 rintro pins s σ H R I ⟨c0,rfl,rfl,k,h⟩;show yr g i j hs pins s _ c0.H R I (vI k h λrs c vs t w=>?_);rw[ag]at w;have(xs,f,w):=cy.mp w;rw[ao]at w;have(x,rfl,hz):=bY  f;clear f;have f:=hz;clear hz;have(v,rfl,l):=t.one;unfold Bb at f;split at f
 .split at f
  .cases f;show#[_,by rw[l.int t.ok],⋯,⋯,w c _ t.hσ rfl t.ok t.nx t.RU nF]
  .cases f
 .cases f
def ER(g:Gl X "range")(i:X.mg "range"=cc)(hs:i0 [a,b] X.env=[(cK,p8 a X.env),(cK,p8 b X.env)])(j:i0 [b] X.env=[(cK,p8 b X.env)])(k:PA X [a,b] (OV C ms)):PI X tg (.Call (.Name "range" p) [a,b] [] pos) (Rt C .Su ms):=by
 rintro pins s σ H R I ⟨c0,rfl,rfl,l,h⟩;show yt g i k hs j pins s _ c0.H R I (vI l h λrs c vs t w=>?_);rw[ag]at w;have(xs,f,w):=cy.mp w;rw[ao]at w;have f:Ij rs≈xs:=f;unfold Ij at f;split at f
 .split at f
  .cases f;have(v,q,rfl,n,ty):=t.two;show#[_,_,by rw[n.int t.ok,ty.int t.ok],⋯,w c _ t.hσ rfl t.ok t.nx t.RU nF]
  .cases f
 .cases f
def sY{k}{us}{u0}{a':hH}{t}(D:∀f,Ok C f->Ns c f->nE [(k,u0)] c f->bg [(k,u0)] f.st->∃vs,t f.H vs/\aq C (SK C f k) f.H us vs):Walk C c [(k,u0)] (us.zipIdx.map λp=>(kE k,.tup [.int p.2,p.1])) (U0 t):=by
 intro f g n G hs;have(vs,h,w):=D f g n G hs;show#[λi r y=>?_,λi hi=>#[vs,h,by rw[<-w.len];simp_all]];rw[sd,g7]at y;have(p,z,rfl):=y;rw[Ô,g7]at z;have(u,I,rfl):=z;have(v,A,j):=w.get I;show#[Bw k,#[vs,v,h,A],λx H' l=>?_];have(p,J,rfl,l):=l;have L:=l vs v h A;subst L;have(N,q):=g.lay  J;show#[{f with H:=upd f.H p _},rfl,rfl,rfl,N,q,aM.item ?_];have B:aq C (SK C f k) f.H [.int (0+i:Nat),u] [.int i,v]:=by
  rw[œ];show#[_,_,rfl,rfl,_,_,rfl,j,rfl]
 cases k<;>show#[p,_,rfl,Oi.of aj,by first|show B.mv (g.Sr q)|show B.mv (g.mv q)]
def IH{es}{y}{ps}(j:C.K=X.K)(z:Gl X "enumerate")(A:X.mg "enumerate"=cc)(hs:i0 [a] X.env=[(cK,p8 a X.env)])(B:PA X [a] (OV C ms)):PI X (.Tuple es y ps) (.Call (.Name "enumerate" p) [a] [] pos) (Rt C .Tj ms):=by
 rintro pins s σ H R I ⟨c0,rfl,rfl,D,h⟩;show D7 z A B hs pins s _ c0.H R I (vI D h λrs c vs t w=>?_);rw[ag]at w;have(xs,g,w):=cy.mp w;rw[ao]at w;have(x,rfl,hz):=bY  g;clear g;have g:=hz;clear hz;have(v,rfl,k):=t.one;unfold KW at g;split at g
 .cases g;have(a',ws,l,f,i):=k.list t.ok;subst l;show#[a',rfl,.inl #[#[ws,j▸f],w c _ t.hσ rfl t.ok t.nx t.RU ?_]];show sY (a':=a') λG q n r u=>?_;have(J,vs,e,f,i):=(aM.walk t.ok n r u k).list q;cases e;show#[vs,j▸f,i]
 .cases g;have(a',ws,l,f,i):=k.tuple t.ok;subst l;rw[j]at f;show#[a',rfl,.inr #[#[ws,f],w c _ t.hσ rfl t.ok t.nx t.RU ?_]];show sY (a':=a') λG q n r u=>?_;have(J,vs,e,f,i):=(aM.walk t.ok n r u k).tuple q;cases e;rw[j]at f;show#[vs,f,i]
 .cases g
def Ok.put(t:Ok C c)(n:Nx c0 c)(hi:i<⇑c.σ)(hk:k=.own\/k=.loc\/k=.any)(O0:Ok C c0)(h:aM C c0 c k u v):
  Ok C {c with σ:=c.σ.set i (bD v),st:=c.st.set i (bD (k,u))}/\Nx c0 {c with σ:=c.σ.set i (bD v),st:=c.st.set i (bD (k,u))}:=by
 have O:i<⇑c.st:=by rw[t.len];show hi
 have Q:∀(j:Nat) k' u',(c.st.set i (bD (k,u)))[j]?≈bD (k',u')->j≠i->c.st[j]?≈bD (k',u'):=λj k' u' e ne=>by rw[hQ (mh ne)]at e;show e
 have ON:∀(j:Nat) B,(c.σ.set i (bD v))[j]?≈bD B->j≠i->c.σ[j]?≈bD B:=λj B e ne=>by rw[hQ (mh ne)]at e;show e
 have sl:jq C c.S c.H k u v:=by
  rcases hk with rfl|rfl|rfl
  .have(r,e,D,J,y,L):=h;have(z0,z1,z2,z3,z4):=O0.jP D;show#[r,e,J,z2,z0,L]
  .show h
  .show h
 have T:∀(j:Nat) k' u' r,k'.root=b6->(c.st.set i (bD (k,u)))[j]?≈bD (k',u')->(c.σ.set i (bD v))[j]?≈bD (.ref r)->j=i/\k=.own/\v=.ref r\/j≠i/\c.st[j]?≈bD (k',u')/\c.σ[j]?≈bD (.ref r):=λj k' u' r G g l=>by
  by_cases f:j=i
  .subst f;rw[fx O]at g;rw[fx hi]at l;cases g;cases l;rcases hk with rfl|rfl|rfl
   .show .inl #[rfl,rfl,rfl]
   .cases G
   .cases G
  .show .inr #[f,Q j k' u' g f,ON j _ l f]
 have dD:∀(j:Nat) (u':U),(c.st.set i (bD (k,u)))[j]?≈bD (.A',u')->c.st[j]?≈bD (.A',u')/\(c.σ.set i (bD v))[j]?=c.σ[j]?:=λj u' e=>by
  by_cases f:j=i
  .subst f;rw[fx O]at e;cases e;rcases hk with hk|hk|hk<;>cases hk
  .show#[Q j .A' u' e f,hQ (mh f)]
 have b1:∀a,({c with σ:=c.σ.set i (bD v),st:=c.st.set i (bD (k,u))}:Cf).R1 a->c.R1 a\/k=.own/\v=.ref a:=λa N6=>by
  have(j,k',u',G,g,l):=N6;rcases T j k' u' a G g l with⟨N,w,x⟩|⟨N,w,x⟩
  .show .inr #[w,x]
  .show .inl #[j,k',u',G,w,x]
 have SA:QO C {c with σ:=c.σ.set i (bD v),st:=c.st.set i (bD (k,u))}:=t.dd.of rfl dD (λa z=>(b1 a z).imp id λ⟨Y,q2⟩ j z'=>by
  subst Y;have(I,e,_,_,y,_):=h;rw[q2]at e;cases e;show y (.inr #[j,z'])) (.up λ_ z=>z) λj a z=>#[(t.root (.inr #[j,z])).1,λo q=>q]
 show#[#[t.same,t.O8,t.par,t.io,by simp[t.len],λj k' u' e=>?_,λj1 j2 k1 k2 u1 u2 r Zq V6 g l e3 e4=>?_,SA],#[#[n.keep,n.there,λa z=>?_,n.sub,n.new]]]
 .by_cases f:j=i
  .subst f;rw[fx O]at e;cases e;show#[v,by rw[fx hi],sl]
  .have(B,g,l):=t.sl j k' u' (Q j k' u' e f);show#[B,by rw[hQ (mh f)];show g,l]
 .have z1:=T j1 k1 u1 r Zq g e3;have z2:=T j2 k2 u2 r V6 l e4;rcases z1 with⟨N,w,x⟩|⟨N,w,x⟩
  .rcases z2 with⟨b1,A,b3⟩|⟨b1,A,b3⟩
   .show N.trans b1.symm
   .subst w;have(I,e,D,J,y,L):=h;rw[x]at e;cases e;show(y (.inl #[j2,k2,u2,V6,A,b3])).elim
  .rcases z2 with⟨b1,A,b3⟩|⟨b1,A,b3⟩
   .subst A;have(I,e,D,J,y,L):=h;rw[b3]at e;cases e;show(y (.inl #[j1,k1,u1,Zq,w,x])).elim
   .show t.inj j1 j2 k1 k2 u1 u2 r Zq V6 w A x b3
 .rcases z with z|⟨j,u',I,g,l,e3⟩
  .rcases b1 a z with z|⟨w,x⟩
   .show n.roots a (.inl z)
   .subst w;have(I,e,D,J,y,L):=h;rw[x]at e;cases e;show .inr D
  .have(Y,q2):=dD j u' g;show n.roots a (.inr #[j,u',I,Y,q2▸l,e3])
def qT(z:Ok C c0)(q:Ok C c)(n:Nx c0 c)(hi:i<⇑c.σ)(t:aM C c0 c r.1 r.2 v)(h:W (eX i r) c.st I):
  ∃y,y.σ=c.σ.set i (bD v)/\y.H=c.H/\Ok C y/\Nx c0 y/\I () y.st:=by
 have(k,u):=r;cases k with
 |own =>
  have(x,st',e,f):=h;cases e;have(g,l):=q.put n hi (.inl rfl) z t;show#[{c with σ:=c.σ.set i (bD v),st:=c.st.set i _},rfl,rfl,g,l,f]
 |loc =>
  have(x,st',e,f):=h;cases e;have(g,l):=q.put n hi (.inr (.inl rfl)) z t;show#[{c with σ:=c.σ.set i (bD v),st:=c.st.set i _},rfl,rfl,g,l,f]
 |any =>
  have(x,st',e,f):=h;cases e;have(g,l):=q.put n hi (.inr (.inr rfl)) z t;show#[{c with σ:=c.σ.set i (bD v),st:=c.st.set i _},rfl,rfl,g,l,f]
 |bor j =>
  have(x,st',e,f):=h;rw[show eX i (.bor j,u) c.st=match c.st[j]? with|some (bD (.own,u))=>bD _|_=>cc from rfl]at e;split at e
  .rename_i w B;cases e;have(O,D,r,J,_):=q.sl j _ _ B;have G:=t.2;rw[G]at D;cases D;subst J;have(L,N,A):=q.Bq n B G;have(g,l):=Ok.put  L N  (u:=w)  hi (.inr (.inl rfl)) z A;show#[{S:=λa=>c.S a\/a=r,H:=c.H,σ:=c.σ.set i _,st:=(c.st.set j _).set i _,kid:=c.kid},rfl,rfl,g,l,f]
  .cases e
 |_=>show t.elim
end
abbrev tG(C:Ct)(t:Bool)(is:↑Nat):TG:=λv σ H Q=>∃c0 c r,c.σ=σ/\c.H=H/\Ok C c0/\Ok C c/\Nx c0 c/\aM C c0 c r.1 r.2 v/\W (d8 t is r) c.st λ_ st' =>
 ∀a,a.st=st'->Ok C a->Nx c0 a->(∀j,j∉is->a.σ[j]?=c.σ[j]?)->⇑a.σ=⇑c.σ->Q a.σ a.H
structure vJ(X:Cx)(e:jw)(i:Nat):Prop where
 is:∃x pos,e=.Name x pos/\X.N[i]?≈x/\Loc X.env.scope x/\(X.fn x=b6\/X.env.scope.names.lookup x≈.local)
def II(f:X.N.Nodup)(h:vJ X e i):PG X e (tG C cK [i]):=by
 have(x,pos,rfl,b,g,k):=h.is;rintro pins s σ H v u Q I rv ⟨c0,c,r,rfl,rfl,l,m,n,a,w⟩;have hi:i<⇑c.σ:=by rw[I.len];show(eH.mp b).1
 have(o,d,p,t,y,q):=qT (r:=r) l m n hi a w;show qa f b g k pins s c.σ c.H v u Q I rv ?_;have z:=q o rfl t y (λj A=>by rw[d,hQ (by intro z;simp_all)]) ⋯;rw[d,p]at z;show z
abbrev Zr:↑Nat->UQ
 |[]=>Kg
 |i::is=>Gh (kS i) (Zr is)
inductive gc(X:Cx):↑jw->↑Nat->Prop where
 |nil:gc X [] []
 |cons {e:jw} {es:↑jw} {i:Nat} {is:↑Nat} (h:vJ X e i) (t:gc X es is):gc X (e::es) (i::is)
def za(a:X.N.Nodup)(h:gc X es is):Vx X es (Zr is):=by
 induction h with
 |nil=>show DC
 |cons h t b =>
  have(x,pos,rfl,c,d,e):=h.is;show An (qa a c d e) b rfl
def vK(h:gc X es is):⇑(Sj es X.env)=⇑is/\(Sj es X.env).findIdx? (·.1)=cc:=by
 induction h with
 |nil=>show#[rfl,rfl]
 |cons h t a =>
  have(x,pos,rfl,b,c,d):=h.is;show#[?_,?_]
  .change(_::_).length=_;simp[a.1]
  .change Į _ (_::_)=cc;rw[List.findIdx?_cons,a.2];rfl
theorem xF(hk:kE k=k)(g:Ok C c0):∀{is}{us}{vs}{c}{d}{Q},Ok C c->Nx c0 c->(∀i∈is,i<⇑c.σ)->aq C (SK C c k) c.H us vs->W (sets is (us.map λu=>(k,u))) c.st d ->
  (∀b,d () b.st->Ok C b->Nx c0 b->(∀j,j∉is->b.σ[j]?=c.σ[j]?)->⇑b.σ=⇑c.σ->Q b.σ b.H)->Zr is vs c.σ c.H Q
 |[],[],vs,c,d,Q,ok,n,hi,a,w,q=>by
  rw[show sets [] _=pure () from rfl,ao]at w;show#[a,q c w ok n (λ_ _=>rfl) rfl]
 |[],u::us,vs,c,d,Q,ok,n,hi,a,w,q=>(bf.mp w).elim
 |i::is,[],vs,c,d,Q,ok,n,hi,a,w,q=>(bf.mp w).elim
 |i::is,u::us,vs,c,d,Q,ok,n,hi,a,w,q=>by
  rw[show sets _ _=eX i (k,u) >>= λ_=>sets is _ from rfl,ag]at w;have(v,r,rfl,h,A):=a;have l:k=.own\/k=.loc\/k=.any:=by cases k<;>simp[kE]at hk<;>simp
  have rt:aM C c0 c k u v:=by rw[<-hk];show aM.item h
  have(m,o):=ok.put n (hi i ⋯) l g rt;have es:eX i (k,u)=λst=>bD (.ok (),st.set i (bD (k,u))):=by cases k<;>simp[kE]at hk<;>rfl
  have(_,st',e,s):=w;rw[es]at e;cases e;show#[v,r,rfl,xF  hk g m o (λj f=>by exists hi j (by simp[f])) (by assumption) s λb p t x y hl=>?_];show q b p t x (λj f=>?_) ⋯;rw[y j (λz=>f (by simp[z])),hQ (λz=>f (by simp[z]))]
def K9(j:X.calm=b6)(m:C.K=X.K)(o:X.N.Nodup)(h:gc X es is)(hl:∀i∈is,i<⇑X.N):PG X (.Tuple es O pos) (tG C b6 is):=by
 rintro pins s σ H v u Q I rv ⟨c0,c,r,rfl,rfl,q,e,n,b,w⟩;have(t,y):=vK h;show Hl j (za o h) t y pins s c.σ c.H v u Q I rv ?_;have(k,z):=r;cases z with
 |tup us =>
  have(a',vs,rfl,f,g):=b.tuple e;rw[m]at f;have a:=by
   have d:∀(is:↑Nat) (l:↑_) (st:au) (P:Unit->au->Prop),W (sets is l) st P->⇑l=⇑is:=by
    intro is;induction is with
    |nil=>intro l st P w;cases l with
     |nil=>rfl
     |cons _ _=>show(bf.mp w).elim
    |cons i is A=>intro l st P w;cases l with
     |nil=>show(bf.mp w).elim
     |cons x l =>
      rw[show sets _ _=eX i x >>= λ_=>sets is l from rfl,ag]at w;have(_,_,_,w):=w;rw[k9,k9,A l _ _ w]
   exists d _ _ _ _ w
  show#[a',vs,rfl,f,by rw[<-g.len,a],?_];show xF  (by cases k<;>rfl) q e n (λi hi=>by rw[I.len];show hl i hi) (by cases k<;>show g) w λB p D G J L=>p B rfl D G J L
 |_=>cases is<;>show(bf.mp w).elim
section
variable{X:Cx}{C:Ct}{pins:List (hH×Obj)}{s:i4}{c0 c c1:Cf}
variable{a b d e o tg iter elt:jw}{es ifs:List jw}{m ma mb md me:M (Kd×U)}{ms:M (List (Kd×U))}{ta tb tc:M Bool}{pos p p2 apos Nu:Pos}
def zb{m:M α}{st}{Q}:W (inScope k m) st Q↔W m (kb k cc++st) λa st'=>Q a (st'.drop k):=by
 constructor
 .rintro⟨a,st',e,h⟩;unfold inScope at e;cases q:m (kb k cc++st) with
  |none=>simp_all
  |some r=>have(g,f):=r;rw[q]at e;cases e;show#[a,f,q,h]
 .rintro⟨a,st',e,h⟩;show#[a,_,by unfold inScope;rw[e],h]
abbrev Cf.ext(k:Nat)(c:Cf):Cf:={c with σ:=kb k cc++c.σ,st:=kb k cc++c.st,kid:=λj=>c.kid (j - k)}
abbrev Cf.cut(k:Nat)(c:Cf):Cf:={c with σ:=c.σ.drop k,st:=c.st.drop k,kid:=λj=>c.kid (k+j)}
def iK(h:(kb k cc++l)[j]?≈bD x):∃i,j=k+i/\l[i]?≈bD x:=by
 by_cases f:j<k
 .rw[qs ⋯]at h;simp_all
 .show#[j - k,⋯,?_];rw[pe ⋯]at h;exists h
def gf:(kb k cc++l)[k+i]?=l[i]?:=by
 rw[pe ⋯];simp
def By:(c.ext k).R1 r↔c.R1 r:=by
 constructor
 .rintro⟨j,g,u,h,l,f⟩;have(i,rfl,e):=iK l;rw[Cf.ext,gf]at f;show#[i,g,u,h,e,f]
 .rintro⟨i,g,u,h,l,f⟩;show#[_,g,u,h,by rw[Cf.ext,gf];show l,by rw[Cf.ext,gf];show f]
def qU{a}(h:(c.ext k).RD j a):∃i,j=k+i/\c.RD i a:=by
 have(u,r,g,f,l):=h;have(i,rfl,e):=iK g;rw[Cf.ext,gf]at f;show#[i,rfl,u,r,e,f,?_];have:(c.ext k).kid (k+i)=c.kid i:=by change c.kid _=_;simp
 simp_all
def K_(h:(c.ext k).R r):c.R r:=by
 rcases h with h|⟨j,h⟩
 .show .inl (By.mp h)
 .have(i,_,h):=qU h;show .inr #[i,h]
def Ok.ext(k)(f:Ok C c):Ok C (c.ext k)/\Nx c (c.ext k):=by
 show#[#[f.same,f.O8,f.par,f.io,by simp[Cf.ext,f.len],λj y u e=>?_,λi j k1 k2 u u' r z A l g w x=>?_,#[λj u r l g=>?_,λi j a z1 z2=>?_,λj a z1 z2=>?_]],#[#[λ_ _ h _=>h,λ_ o h=>#[o,h],λa h=>.inl (K_ h),λ_ h=>h,λ_ h=>.inl h]]]
 .have(i,rfl,B):=iK e;have(v,l,g):=f.sl i y u B;show#[v,by rw[Cf.ext,gf];show l,g]
 .have(n,rfl,D):=iK l;have(q,rfl,G):=iK g;rw[Cf.ext,gf]at w x;rw[f.inj n q k1 k2 u u' r z A D G w x]
 .have(i,rfl,e):=iK l;rw[Cf.ext,gf]at g;have:(c.ext k).kid (k+i)=c.kid i:=by change c.kid (k+i - k)=_;rw[Nat.add_sub_cancel_left]
  rw[this];show f.dd.kd i u r e g
 .have(n,rfl,t):=qU z1;have(q,rfl,H):=qU z2;rw[f.dd.dj n q a t H]
 .have(i,rfl,t):=qU z1;show f.dd.d1 i a t (By.mp z2)
def Bz{a}(h:(c.cut k).R1 a):c.R1 a:=by
 have(j,i,u,l,f,g):=h;rw[Cf.cut,KD]at f g;show#[_,i,u,l,f,g]
def qV{a}(h:(c.cut k).RD j a):c.RD (k+j) a:=by
 have(u,r,f,g,i):=h;rw[Cf.cut,KD]at f g;show#[u,r,f,g,i]
def Ok.cut(k)(f:Ok C c):Ok C (c.cut k)/\Nx c (c.cut k):=by
 show#[#[f.same,f.O8,f.par,f.io,by simp[Cf.cut,f.len],λj t u e=>?_,λi j k1 k2 u u' r w x g l n q=>?_,#[λj u r g l=>?_,λi j a z1 z2=>?_,λj a z1 z2=>f.dd.d1 _ a (qV z1) (Bz z2)]],#[#[λ_ _ h _=>h,λ_ o h=>#[o,h],λa h=>.inl (h.elim (λz=>.inl (Bz z)) λ⟨j,z⟩=>.inr #[k+j,qV z]),λ_ h=>h,λ_ h=>.inl h]]]
 .rw[Cf.cut,KD]at e;have(v,g,l):=f.sl _ t u e;show#[v,by rw[Cf.cut,KD];show g,l]
 .rw[Cf.cut,KD]at g l n q;have:=f.inj _ _ k1 k2 u u' r w x g l n q;lia
 .rw[Cf.cut,KD]at g l;show f.dd.kd _ u r g l
 .have:=f.dd.dj _ _ a (qV z1) (qV z2);lia
def ES(h:∀j,j∉ib k->g[j]?=(kb k cc++σ)[j]?)(hl:⇑g=⇑(kb k (cc:Option V)++σ)):∃f,⇑f=k/\g=f++σ:=by
 show#[g.take k,by simp_all,?_];apply ā;intro j;by_cases i:j<k
 .rw[qs ⋯,List.getElem?_take,ŵ i]
 .rw[h j ⋯,pe ⋯,pe ⋯];simp_all
def zc(e1:c1.σ=c0.σ)(NI:Ok C c1)(n1:Nx c0 c1)(hw:Walk C c1 rs xs J)(h3:W (cp k t tc me rs xs []) c1.st λus st'=>W (pure (Kd.own,U.lst us)) st' (c7 C c0 Q)):
  sA k J (tG C t (ib k)) (OY C tc) (NK C me) Q c0.σ c1.H:=by
 show#[λi m ys H=>∃c f,c.H=H/\c.σ=c0.σ/\Ok C c/\Nx c1 c/\m=⇑xs - i/\i<=⇑xs/\aq C c.S c.H f ys/\⇑f<=c8/\W (cp k t tc me rs (xs.drop i) f) c.st λus st'=>W (pure (Kd.own,U.lst us)) st' (c7 C c0 Q),#[⇑xs,c1,[],rfl,e1,NI,Nx.refl c1,by simp,kj _,rfl,kj _,by assumption],?_];rintro i m ys H ⟨c,f,rfl,G,n,q,rfl,hi,h,y,w⟩;show#[by rw[<-h.len];lia,?_];have g:nE rs c1 c:=λj u _=>by rw[G,e1]
 by_cases Og:i<⇑xs
 .right
  rw[U2 Og]at w;rw[show cp k t tc me rs (xs[i]::xs.drop (i+1)) f=az rs >>= λ_=>inScope k (d8 t (ib k) xs[i] >>= λ_=>tc >>= λb=>if b=b6 then(me >>= λr=>lift r >>= λu=>pure (bD u)) else pure cc) >>= λr=>match r with|some u=>if ⇑f<c8 then cp k t tc me rs (xs.drop (i+1)) (f++[u]) else M.fail|none=>cp k t tc me rs (xs.drop (i+1)) f from rfl,ag,bV]at w;have(Ru,w):=w;have(I,_):=hw c n q g Ru;have(V8,Zs,Xj):=I i xs[i] ⋯;show#[Zs,λPj H'=>∃c f,c.H=H'/\c.σ=c0.σ/\Ok C c/\Nx c1 c/\aq C c.S c.H f Pj/\⇑f<=c8/\W (cp k t tc me rs (xs.drop (i+1)) f) c.st λus st'=>W (pure (Kd.own,U.lst us)) st' (c7 C c0 Q),λPj H' ⟨c',Pn,z1,z2,z3,z4,z5,z6,z7⟩=>#[⇑xs - (i+1),⋯,c',Pn,z1,z2,z3,z4,rfl,Og,z5,z6,z7],λx H' hy=>?_];have(c2,rfl,e4,e5,N5,n2,rt):=Xj x H' hy;rw[ag,zb,ag]at w;have(Xk,nx):=N5.ext k;have L:aM C (c2.ext k) (c2.ext k) xs[i].1 xs[i].2 x:=by
   rcases V8 with z|z
   .rw[z]at rt ⊢;show rt
   .rw[z]at rt ⊢;show rt
  have eσ:(c2.ext k).σ=kb k cc++c0.σ:=by rw[Cf.ext];change kb k cc++c2.σ=_;rw[e4,G]
  show#[c2.ext k,c2.ext k,xs[i],eσ,rfl,Xk,Xk,Nx.refl _,L,?_];have N:(c2.ext k).st=kb k cc++c.st:=by rw[Cf.ext];change kb k cc++c2.st=_;rw[e5]
  rw[N];show w.mono λ_ Oa w3 c3 e6 P5 n3 V9 UK=>?_;subst e6;rw[eσ]at V9 UK;have(O,T,Y):=ES V9 UK;show#[O,T,Y,?_];have A:Nx c c3:=(n2.trans nx).trans n3;rw[ag]at w3;show#[c3,rfl,rfl,P5,w3.mono λb UY l D e7 e8 SE n4=>?_];subst e8;cases b with
  |false =>
   rw[Ŷ ke]at l ⊢;rw[ao]at l;have(Zt,nk):=SE.cut k;have nn:Nx c (D.cut k):=(A.trans n4).trans nk;show#[D.cut k,f,rfl,?_,Zt,q.trans nn,h.mv (n.mv nn),y,l];change D.σ.drop k=_;rw[e7,Y,Wt T]
  |true =>
   rw[ŵ rfl]at l ⊢;rw[ag]at l;show#[D,e7,rfl,SE,l.mono λr QY w5 c5 v e9 ab ac n5 al=>?_];subst ab;rw[ag]at w5;have(S',st',u,sS,am,n6,Zu,B,_,_):=f_ SE ac n5 al.w w5;rw[ao]at B
   dsimp only at B
   split at B
   .rename_i hz;have(Zt,nk):=am.cut k;have nn:Nx c (Cf.cut k {c5 with S:=S',st:=st' }):=((A.trans n4).trans n6).trans nk;show#[Cf.cut k {c5 with S:=S',st:=st' },f++[u],rfl,?_,Zt,q.trans nn,(h.mv (n.mv nn)).snoc Zu,by rw[mx];show hz,B];change c5.σ.drop k=_;rw[e9,Y,Wt T]
   .show(bf.mp B).elim
 .left
  have PQ:i=⇑xs:=⋯
  subst PQ;rw[Ĉ,show cp k t tc me rs [] f=az rs >>= λ_=>pure f from rfl,ag,bV,ao,ao]at w;have(_,I):=hw c n q g w.1;show#[I _ (hY _),λp hp=>c7.list w.2 G n (n1.trans q) h p hp]
def pB(j:Ok C c0)
  (h:W (ms >>= λrs=>az rs >>= λ_=>M.N1 (P4 l rs) >>= λxs=>cp k t tc me rs xs [] >>= λus=>pure (Kd.own,U.lst us)) c0.st (c7 C c0 Q)) :
  sC k (Rt C l ms) (tG C t (ib k)) (OY C tc) (NK C me) c0.σ c0.H Q:=by
 rw[ag]at h;show#[c0,rfl,rfl,j,?_];rw[ag];show h.mono λrs st1 f=>?_;rw[ag,bV]at f ⊢;show#[f.1,?_];have g:=f.2;rw[ag]at g ⊢;show g.mono λxs st2 i=>?_;rw[ao];intro c1 J n q r u w v;rw[ag]at i;subst q;show zc n r u v i
def BA(S:dg X N own scope)(f:X.calm=b6)(hi:PI X tg iter (Rt C g ms))
  (i:∀D s H ex,PG (OA X N scope D s H ex) tg (tG C t (ib ⇑own))) (j:∀D s H ex,RN (OA X N scope D s H ex) ifs (OY C tc)) (k:∀D s H ex,PE (OA X N scope D s H ex) elt (NK C me))
  (hs:∀x,Cd iter X.env x=pure x) :
  PE X (.ListComp elt [⟨tg,iter,ifs,0⟩] scope pos) (NK C (ms >>= λrs=>az rs >>= λ_=>M.N1 (P4 g rs) >>= λxs=>cp ⇑own t tc me rs xs [] >>= λus=>pure (.own,.lst us))):=by
 show PE.weak (D3 S f hi i j k hs) ?_;rintro σ H Q ⟨c0,rfl,rfl,l,h⟩;show pB l h
end
section
variable{a b d e o tg iter elt:jw}{es ifs:List jw}{m ma mb md me:M (Kd×U)}{ms:M (List (Kd×U))}{ta tb tc:M Bool}{pos p p2 apos Nu:Pos}{st:va}{rest body:List va}{f g mm:M Fl}{ns Xl:Nat->Bool}
def IJ(C:Ct)(c:Cf):Kd->U->V->Prop
 |.own,u,v=>∃r,v=.ref r/\C.H₀ r=cc/\¬c.S r/\¬c.R r/\eE C c.S c.H r u
 |.loc,u,v=>Rep C c.S c.H u v
 |.any,u,v=>Rep C (PS C c.S) c.H u v
 |_,_,_=>False
def M6(C:Ct)(Q:VK)(c:Cf):Kd->U->Prop
 |.io,u=>C.xw u c.H
 |k,u=>∀v,IJ C c k u v->Q v c.H
abbrev Fin(C:Ct)(D:Ends)(f:Fl)(c:Cf):Prop:=match f with
 |.nx=>D.nx c.σ c.H
 |.bk=>D.bk c.σ c.H
 |.ct=>D.ct c.σ c.H
 |.rt k u=>M6 C D.rt c k u
abbrev Kept(ns:Nat->Bool)(c h:Cf):Prop:=(∀j,ns j=b6->h.σ[j]?=c.σ[j]?)/\⇑h.σ=⇑c.σ
def Kept.refl:Kept ns c c:=#[λ_ _=>rfl,rfl]
def Kept.trans(h:Kept ns c i)(h':Kept ns i k):Kept ns c k:=#[λj z=>(h'.1 j z).trans (h.1 j z),h'.2.trans h.2]
def Kept.le(i:∀j,Xl j=b6->ns j=b6)(h:Kept ns c k):Kept Xl c k:=#[λj z=>h.1 j (i j z),h.2]
def Kept.of(h:i.σ=c.σ):Kept ns c i:=#[λj z=>by rw[h],by rw[h]]
abbrev jb(C:Ct)(c0:Cf)(ns:Nat->Bool)(D:Ends)(f:Fl)(st':au):Prop:=∀c,c.st=st'->Ok C c->Ns c0 c->Kept ns c0 c->Fin C D f c
inductive Oo(C:Ct)(ns:Nat->Bool)(m:M Fl)(D:Ends)(σ:L2.St)(H:Hp):Prop
 |mk:∀c0:Cf,c0.σ=σ->c0.H=H->Ok C c0->W m c0.st (jb C c0 ns D)->Oo C ns m D σ H
def BB(c:Ok C c1)(n:Ns c0 c1)(k:Kept ns c0 c1)(h:W mm c1.st (jb C c0 ns D)):Oo C ns mm D c1.σ c1.H :=
 #[c1,rfl,rfl,c,h.mono λf st i c2 e j l k2=>i c2 e j (n.trans l) (k.trans k2)]
def PS.weak(h:L2.PS X st t)(i:∀D σ H,t' D σ H->t D σ H):L2.PS X st t':=λpins s σ H D I q=>h pins s σ H D I (i D σ H q)
def OT.weak(h:OT X rest t)(i:∀D σ H,t' D σ H->t D σ H):OT X rest t':=λpins s σ H D I q=>h pins s σ H D I (i D σ H q)
def qW(i:∀j,Xl j=b6->ns j=b6)(h:Oo C Xl mm D σ H):Oo C ns mm D σ H :=
 let ⟨c0,c,k,l,w⟩:=h;⟨c0,c,k,l,w.mono λf st n c2 e q r k2=>n c2 e q r (k2.le i)⟩
def La:OT X [] (Oo C ns (pure .nx)):=by
 show OT.weak iE ?_;rintro D σ H ⟨c0,rfl,rfl,c,h⟩;rw[ao]at h;show h c0 rfl c (Ns.refl c0) Kept.refl
abbrev ET(m:M Fl)(f:Fl):M Fl:=match f with
 |.nx=>m
 |f=>pure f
def IK(j:L2.PS X st (Oo C ns f))(l:OT X rest (Oo C ns g)):OT X (st::rest) (Oo C ns (f >>= ET g)):=by
 show OT.weak (dy j l) ?_;rintro D σ H ⟨c0,rfl,rfl,n,h⟩;rw[ag]at h;show#[c0,rfl,rfl,n,h.mono λq st1 w c1 e c i k1=>?_];subst e;cases q with
 |nx=>show BB c i k1 w
 |bk=>rw[show ET g .bk=pure .bk from rfl,ao]at w;show w c1 rfl c i k1
 |ct=>rw[show ET g .ct=pure .ct from rfl,ao]at w;show w c1 rfl c i k1
 |rt k u=>rw[show ET g _=pure _ from rfl,ao]at w;show w c1 rfl c i k1
def Lb(i:PE X a (NK C ma))(hs:QA a cc pos.line X.env=pure cK):L2.PS X (.Expr a pos) (Oo C ns (ma >>= λ_=>pure .nx)):=by
 show PS.weak (iF i hs) ?_;rintro D σ H ⟨c0,rfl,rfl,j,h⟩;show aU j h λx c v t w=>?_;rw[ao]at w;have:=w c rfl t.ok t.nx (Kept.of t.hσ);rw[<-t.hσ];show this
def sZ(ok:Ok C c0)(t:RT C c0 c x v)(w:W (retS x) c.st (jb C c0 ns D)):D.rt v c.H:=by
 have(k,u):=x;have(G,l,n,r):=t;cases k with
 |own =>
  rw[show retS (.own,u)=pure (.rt .own u) from rfl,ao]at w;have(B,e,h1,h2,h3,h4):=r;show w c rfl l n (Kept.of G) v #[B,e,(ok.jP h1).1,h2,h3,h4]
 |loc =>
  rw[show retS (.loc,u)=pure (.rt .loc u) from rfl,ao]at w;show w c rfl l n (Kept.of G) v r
 |any =>
  rw[show retS (.any,u)=if NY u=b6 then pure (.rt .loc u) else pure (.rt .any u) from rfl]at w;split at w
  .rw[ao]at w;show w c rfl l n (Kept.of G) v (Rep.NY ⋯ r)
  .rw[ao]at w;show w c rfl l n (Kept.of G) v r
 |bor j =>
  have(fl,st',e,w):=w;rw[show retS (.bor j,u) c.st=match c.st[j]? with|some (bD (.own,u))=>bD _|_=>cc from rfl]at e;split at e
  .rename_i u' J;cases e;have SD:j<⇑c.st:=(eH.mp J).1;have A:∀(i:Nat) k u',(c.st.set j cc)[i]?≈bD (k,u')->i≠j/\c.st[i]?≈bD (k,u'):=λi k u' e=>by
    by_cases Q:i=j
    .simp_all
    .rw[hQ (mh Q)]at e;show#[Q,e]
   have(v',s,B,er,q1,q2,q3,q4):=l.sl j _ _ J;have L:c.σ[j]?≈bD v:=r.2;rw[L]at s;cases s;subst er;have T:∀a,({c with st:=c.st.set j cc}:Cf).R1 a->c.R1 a:=λa ⟨i,k,h,hk,s,y⟩=>#[i,k,h,hk,(A i k h s).2,y]
   have hR:∀a,({c with st:=c.st.set j cc}:Cf).R a->c.R a:=λa z=>z.elim (λz=>.inl (T a z)) λ⟨i,h,N,s,y,I⟩=>.inr #[i,h,N,(A i .A' h s).2,y,I];have SA:QO C {c with st:=c.st.set j cc}:=l.dd.of rfl (λi h e=>#[(A i .A' h e).2,rfl]) (λa z=>.inl (T a z)) (.up λ_ z=>z) λi a z=>#[(l.root (.inr #[i,z])).1,λo q=>q]
   have O:Ok C {c with st:=c.st.set j cc}:=#[l.same,l.O8,l.par,l.io,by simp[l.len],λi k h e=>l.sl i k h (A i k h e).2,λi Y k k' u1 h r hk OU s y I e4=>l.inj i Y k k' u1 h r hk OU (A i k u1 s).2 (A Y k' h y).2 I e4,SA]
   have nn:Ns c0 {c with st:=c.st.set j cc}:=#[n.keep,n.there,λa z=>n.roots a (hR a z),n.sub,n.new]
   show w _ rfl O nn (Kept.of G) (.ref B) #[B,rfl,q3,q1,λz=>?_,q4]
   .rcases z with⟨i,k,h,hk,s,y⟩|⟨i,h,N,s,y,I⟩
    .have(ne,OI):=A i k h s;show ne (l.inj i j k .own h _ B hk rfl OI J y L)
    .show l.dd.d1 i B #[h,N,(A i .A' h s).2,y,I] #[j,.own,_,rfl,J,L]
  .cases e
 |_=>show r.elim
def Lc(j:PE X a (NK C ma)):L2.PS X (.Return (bD a) pos) (Oo C ns (ma >>= retS)):=by
 show PS.weak (Hj j) ?_;rintro D σ H ⟨c0,rfl,rfl,i,h⟩;show aU i h λx c v t w=>sZ i t w
end
def nG(e:∀j,ns j=b6->j≠i)(f:Ok C c0)(t:RT C c0 c r v)(hi:i<⇑c.σ)(w:W (eX i r >>= λ_=>(pure .nx:M Fl)) c.st (jb C c0 ns D)):D.nx (c0.σ.set i (bD v)) c.H:=by
 rw[ag]at w;have(b,a,g,h,k,q):=qT  f t.ok t.nx hi t.rx w;rw[ao]at q;have z:=q b rfl h k #[λj l=>by rw[a,t.hσ,hQ (mh (e j l))],by rw[a,t.hσ];simp];have d:D.nx _ b.H:=z;rw[a,g,t.hσ]at d;show d
def Gy(e:∀j,ns j=b6->j≠i)(f:X.N.Nodup)(hi:X.N[i]?≈x)(g:Loc X.env.scope x)(k:X.fn x=b6\/X.env.scope.names.lookup x≈.local)(l:PE X a (NK C m))
  (hs:QA a (bD (.Name x b)) pos.line X.env=pure cK):L2.PS X (.Assign [.Name x b] a pos) (Oo C ns (m >>= λr=>eX i r >>= λ_=>pure .nx)):=by
 rintro pins s σ H D I ⟨c0,rfl,rfl,d,h⟩;have n:i<⇑c0.σ:=by rw[I.len];show(eH.mp hi).1
 show mP f hi g l hs k pins s _ c0.H D I (aU d h λr c v t w=>nG e d t (by rw[t.hσ];lia) w)
def IL(e:∀j,ns j=b6->j≠i)(S:dg X N own scope)(f:X.calm=b6)(g:X.N.Nodup)(b:X.N[i]?≈y)(k:X.env.scope.names.lookup y≈.local)
  (hi:PI X tg a (Rt C l ms)) (m:∀D s H ex,PG (OA X N scope D s H ex) tg (tG C t (ib ⇑own))) (o:∀D s H ex,RN (OA X N scope D s H ex) ifs (OY C p)) (q:∀D s H ex,PE (OA X N scope D s H ex) elt (NK C u))
  (z:QA (.ListComp elt [⟨tg,a,ifs,0⟩] scope pos) (bD (.Name y A)) B.line X.env=pure b6) (hs:∀x,Cd a X.env x=pure x) :
  L2.PS X (.Assign [.Name y A] (.ListComp elt [⟨tg,a,ifs,0⟩] scope pos) B)
   (Oo C ns ((ms >>= λrs=>az rs >>= λ_=>M.N1 (P4 l rs) >>= λxs=>cp ⇑own t p u rs xs [] >>= λus=>pure (.own,.lst us)) >>= λr=>eX i r >>= λ_=>pure .nx)):=by
 rintro pins s σ H D I ⟨c0,rfl,rfl,d,h⟩;have O:i<⇑c0.σ:=by rw[I.len];show(eH.mp b).1
 show D4 S f g b k hi m o q z hs pins s _ c0.H D I ?_;rw[ag]at h;show pB d (h.mono λr st1 w c v G J L n rt=>?_);subst J;show nG e d #[G,L,n,rt] ⋯ w
def IM(f:∀j,ns j=b6->j∉is)(g:PE X a (NK C i))(k:PG X tg (tG C b6 is))(hs:Wk [tg] a pos.line X.env=pure cK)(l:Yr [tg] a X.env=pure cc)(m:(Sj [tg] X.env).map (·.2)=[Vu tg X.env]):
  L2.PS X (.Assign [tg] a pos) (Oo C ns (i >>= λr=>d8 b6 is r >>= λ_=>pure .nx)):=by
 show PS.weak (uE g k hs l m) ?_;rintro D σ H ⟨c0,rfl,rfl,b,h⟩;show aU b h λr c v t w=>?_;rw[ag]at w;show#[c0,c,r,t.hσ,rfl,b,t.ok,t.nx,t.rx,w.mono λ_ st1 d n e o p q hl=>?_];subst e;rw[ao]at d;show d n rfl o p #[λj s=>by rw[q j (f j s),t.hσ],by rw[hl,t.hσ]]
def Le(d:PT X a (OY C i))(j:OT X ca (Oo C ns f))(k:OT X l (Oo C ns g)):L2.PS X (.If a ca l pos) (Oo C ns (i >>= λp=>if p=b6 then f else g)):=by
 show PS.weak (Gg d j k) ?_;rintro D σ H ⟨c0,rfl,rfl,m,h⟩;show g_ m h λp c b o n w=>?_;have e:=b.symm;rw[e];cases p with
 |_=>show BB o n (Kept.of b) w
def Lf(y:Zn (gs X.prog X.w) X.A X.env X.xe)(B:PT X a (OY C o))(G:OT X body (Oo C ns f)):L2.PS X (.While a body [] pos) (Oo C ns (nz o f n)):=by
 show PS.weak (Ap y B G) ?_;rintro D σ H ⟨c0,rfl,rfl,I,h⟩;show#[λm q H'=>∃c,c.H=H'/\c.σ=q/\Ok C c/\Ns c0 c/\Kept ns c0 c/\W (nz o f m) c.st _,#[n,c0,rfl,rfl,I,Ns.refl c0,Kept.refl,h],?_];rintro m q H' ⟨c,rfl,rfl,J,r,s,w⟩;cases m with
 |zero=>show(bf.mp w).elim
 |succ m =>
  show g_ J w λp c2 t u v b=>?_;have k2:Kept ns c c2:=Kept.of t;rw[<-t];cases p with
  |false =>
   rw[Ŷ ke]at b ⊢;rw[ao]at b;show b c2 rfl u (r.trans v) (s.trans k2)
  |true =>
   rw[ŵ rfl]at b ⊢;show#[λd x=>∃c,c.H=x/\c.σ=d/\Ok C c/\Ns c0 c/\Kept ns c0 c/\W _ c.st _,λd x z=>#[m,TK m,z],?_];rw[ag]at b;show#[c2,rfl,rfl,u,b.mono λL O g i e j N k3=>?_];subst e;have k:=(r.trans v).trans N;have l:=(s.trans k2).trans k3;cases L with
   |nx=>show#[i,rfl,rfl,j,k,l,g]
   |ct=>show#[i,rfl,rfl,j,k,l,g]
   |_=>rw[ao]at g;show g i rfl j k l
def Lg(hp:Zn (gs X.prog X.w) X.A X.env X.xe)(hc:X.calm=b6)(hi:PI X tg a (Rt C ik ms))(hg:PG X tg (tG C t is))(hb:OT X body (Oo C (Pk r) f))(hs:∀x,Cd a X.env x=pure x)
  (OG:∀j,ns j=b6->j∉is/\Pk r j=b6) :
  L2.PS X (.For tg a body [] pos) (Oo C ns (ms >>= λrs=>az rs >>= λ_=>M.N1 (P4 ik rs) >>= λxs=>if xx rs is r=b6 then forM t is f rs xs else M.fail)):=by
 show PS.weak (Hr hp hc hi hg hb hs) ?_;rintro D σ H ⟨c0,rfl,rfl,ok,h⟩;rw[ag]at h;show#[c0,rfl,rfl,ok,?_];rw[ag];show h.mono λrs st1 s=>?_;rw[ag,bV]at s ⊢;show#[s.1,?_];have h2:=s.2;rw[ag]at h2 ⊢;show h2.mono λxs st2 h3=>?_;rw[ao];intro c1 J e1 e2 NI n1 NF v;subst e2
 dsimp only at NF v
 split at h3
 .rename_i Up;have Zx:∀j u,(Kd.bor j,u)∈rs->j∉is/\Pk r j=b6:=λj u n=>by
   have:=lx.mp Up _ n;exists this
  show#[λi m d H'=>∃c,c.H=H'/\c.σ=d/\Ok C c/\Ns c1 c/\Kept ns c0 c/\nE rs c1 c/\m=⇑xs - i/\i<=⇑xs/\W (forM t is f rs (xs.drop i)) c.st (jb C c0 ns D),
   #[⇑xs,c1,rfl,e1,NI,Ns.refl c1,Kept.of e1,λ_ _ _=>rfl,by simp,kj _,by assumption],?_]
  rintro i m d H' ⟨c,rfl,rfl,y,o,kc,B,rfl,PQ,w⟩;by_cases Og:i<⇑xs
  .right
   rw[U2 Og,show forM t is f rs (xs[i]::xs.drop (i+1))=az rs >>= λ_=>d8 t is xs[i] >>= λ_=>f >>= λf'=>match f' with|.nx=>forM t is f rs (xs.drop (i+1))|.ct=>forM t is f rs (xs.drop (i+1))|.bk=>pure .nx|.rt k u=>pure (.rt k u) from rfl,ag,bV]at w;have(Ru,w):=w;have(G,_):=v c y o B Ru;have(V8,Zs,Xj):=G i xs[i] ⋯;show#[Zs,λd H'=>∃c,c.H=H'/\c.σ=d/\Ok C c/\Ns c1 c/\Kept ns c0 c/\nE rs c1 c/\W _ c.st (jb C c0 ns D),λd H' ⟨c',z1,z2,z3,z4,z5,z6,z7⟩=>#[⇑xs - (i+1),⋯,c',z1,z2,z3,z4,z5,z6,rfl,Og,z7],λx H' hy=>?_];have(c2,rfl,p,e5,N5,n2,rt):=Xj x H' hy;rw[ag]at w;have I:aM C c2 c2 xs[i].1 xs[i].2 x:=by
    rcases V8 with z|z
    .rw[z]at rt ⊢;show rt
    .rw[z]at rt ⊢;show rt
   show#[c2,c2,xs[i],p,rfl,N5,N5,Nx.refl c2,I,?_];rw[e5];show w.mono λ_ Oa w3 c3 e6 P5 n3 g UK=>?_;subst e6;rw[ag]at w3;show#[c3,rfl,rfl,P5,w3.mono λfl UY q b e L n4 N=>?_];subst e;have O:Ns c1 b:=((o.trans n2.toNs).trans n3.toNs).trans n4;have Q:Kept ns c0 b:=by
    show kc.trans #[λj hj=>?_,by rw[N.2,UK,p]];have(T,Y):=OG j hj;rw[N.1 j Y,g j T,p]
   have l:nE rs c1 b:=λj u n=>by
    have(T,Y):=Zx j u n;rw[N.1 j Y,g j T,p];show B j u n
   cases fl with
   |nx=>show#[b,rfl,rfl,L,O,Q,l,q]
   |ct=>show#[b,rfl,rfl,L,O,Q,l,q]
   |_=>rw[ao]at q;show q b rfl L (n1.toNs.trans O) Q
  .left
   have ab:i=⇑xs:=⋯
   subst ab;rw[Ĉ,show forM t is f rs []=az rs >>= λ_=>pure .nx from rfl,ag,bV,ao]at w;have(_,G):=v c y o B w.1;show#[G _ (hY _),w.2 c rfl y (n1.toNs.trans o) kc]
 .show(bf.mp h3).elim
def Ok.mod(d:Ok C c)(n:Ns c0 c)(hk:k.root=b6)(hi:c.st[i]?≈bD (k,u))(B:c.σ[i]?≈bD (.ref r))(N8:∀a,a≠r->H' a=c.H a)(T:∃o,H' r≈o)
  (new:Mv c.S c.H c.S H'->eE C c.S H' r u'):Ok C {c with H:=H',st:=c.st.set i (bD (k,u'))}/\Ns c0 {c with H:=H',st:=c.st.set i (bD (k,u'))}:=by
 have Y:c.R1 r:=#[i,k,u,hk,hi,B]
 have hR:c.R r:=.inl Y;have(G,q2,q3,o,ho,ab):=d.root hR;have OW:i<⇑c.st:=(eH.mp hi).1;have m:∀{a:hH} {b:HO},a≠r->c.H a≈b->H' a≈b:=λne e=>by rw[N8 _ ne];show e
 have D:Mv c.S c.H c.S H':=#[λ_ z=>z,λa b e t=>m (λz=>by simp_all) e,λa b z e=>m (λp=>G (p▸z)) e]
 have Sr:Mv (PS C c.S) c.H (PS C c.S) H':=#[λ_ z=>z,D.U8,λa b z e=>m (λp=>by subst p;show z.elim q2 G) e]
 have I:∀(j:Nat) k' w,(c.st.set i (bD (k,u')))[j]?≈bD (k',w)->j≠i->c.st[j]?≈bD (k',w):=λj k' w e ne=>by rw[hQ (mh ne)]at e;show e
 have f:∀(j:Nat) k' w,k'.root=b6->(c.st.set i (bD (k,u')))[j]?≈bD (k',w)->∃J,c.st[j]?≈bD (k',J):=λj k' w _ e=>by
  by_cases q:j=i
  .simp_all
  .show#[w,I j k' w e q]
 have b1:∀a,({c with H:=H',st:=c.st.set i (bD (k,u'))}:Cf).R1 a->c.R1 a:=λa N6=>by
  have(j,k',w,g,h,l):=N6;have(J,L):=f j k' w g h;show#[j,k',J,g,L,l]
 have dD:∀(j:Nat) (w:U),(c.st.set i (bD (k,u')))[j]?≈bD (.A',w)->c.st[j]?≈bD (.A',w):=λj w e=>by
  by_cases q:j=i
  .subst q;rw[fx OW]at e;cases e;cases hk
  .show I j .A' w e q
 have SA:QO C {c with H:=H',st:=c.st.set i (bD (k,u'))}:=d.dd.of rfl (λj w e=>#[dD j w e,rfl]) (λa z=>.inl (b1 a z)) D λj a z=>#[(d.root (.inr #[j,z])).1,λb e=>m (λp=>d.dd.d1 j a z (p▸Y)) e]
 show#[#[λa b e z=>?_,λa z=>?_,d.par,λa z=>?_,by simp[d.len],λj k' w e=>?_,λj1 j2 k1 k2 w1 w2 s g x h l N e4=>?_,SA],n.trans #[λa b e z=>m (λp=>z (p▸hR)) e,λa b e=>?_,λa z=>?_,λ_ z=>z,λ_ z=>.inl z]]
 .have g:=d.same a b e z;show m (λp=>?_) g;simp_all
 .have(g,b,x):=d.O8 a z;show#[g,b,m (λp=>G (p▸z)) x]
 .have(g,b,x):=d.io a z;show#[g,?_];by_cases A:a=r
  .subst A;show T
  .show#[b,m A x]
 .by_cases q:j=i
  .subst q;rw[fx OW]at e;cases e;have(v,h,l):=d.sl j _ _ hi;rw[B]at h;cases h;show#[.ref r,B,?_];have nr:=new D;cases k with
   |own=>have(s,y,z1,z2,O,_):=l;cases y;show#[r,rfl,z1,z2,O,nr]
   |io=>have(s,y,z1,z2,O,_):=l;cases y;show#[r,rfl,z1,z2,O,nr]
   |_=>cases hk
  .have e0:=I j k' w e q;have(v,h,l):=d.sl j k' w e0;show#[v,h,l.mv D Sr λOU s y=>?_];have(Xe,Px,z1,_):=l.rt OU;rw[y]at Px;cases Px;show#[z1,λb e=>m (λz=>?_) e];subst z;show q (d.inj j i k' k w u s OU hk e0 hi (by rw[h,y]) B)
 .have(Xm,L):=f j1 k1 w1 g h;have(Q,a2):=f j2 k2 w2 x l;show d.inj j1 j2 k1 k2 Xm Q s g x L a2 N e4
 .by_cases A:a=r
  .subst A;show T
  .show#[b,m A e]
 .rcases z with z|⟨j,w,s,h,l,N⟩
  .show .inl (.inl (b1 a z))
  .show .inl (.inr #[j,w,s,dD j w h,l,N])
inductive MdS(i:Nat)(f:U->Option U)(st:au)(Q:Unit->au->Prop):Prop
 |mk:∀k u u',k.root=b6->st[i]?≈bD (k,u)->f u≈u'->Q () (st.set i (bD (k,u')))->MdS i f st Q
def iL{f}{st}(h:W (modS i f) st Q):MdS i f st Q:=by
 have(_,st',e,q):=h;unfold modS at e;split at e
 .rename_i k u hs;split at e
  .rename_i hk;cases a:f u with
   |none=>simp_all
   |some u'=>rw[a]at e;cases e;show#[k,u,u',hk,hs,a,q]
  .cases e
 .cases e
inductive GtS(i:Nat)(st:au)(Q:Kd×U->au->Prop):Prop
 |mk:∀k u,k≠.A'->st[i]?≈bD (k,u)->Q (if k.root=b6 then .bor i else k,u) st->GtS i st Q
def eR{st}(h:W (dH i) st Q):GtS i st Q:=by
 have(r,st',e,q):=h;unfold dH at e;split at e
 .cases e
 .rename_i k u a hs;cases e;show#[k,u,λz=>a z,hs,q]
 .cases e
def Lh(L:C.K=X.K)(O:X.N[i]?≈x)(Q:OB X.env.scope x)(T:(x==("__debug__":Str))=cK)(Y:(x==("__classdict__":Str))=cK)(ha:PE X a (NK C ma))
  (OM:((vl g (i0 [a] X.env)).all (λx=>!x.1)&&(UB g (PU [] X.env)).all (λx=>x.1.isSome)
   && df ([a].length+⇑([]:↑QK)+(if ([]:↑QK).isEmpty then 0 else 1)<30))=b6)
  (NR:(b.endLine==g.line)=b6) (n:i0 [a] X.env=[(cK,p8 a X.env)]) :
  L2.PS X (.Expr (.Call (.Attribute (.Name x px) "append" b) [a] [] g) pos) (Oo C ns (dH i >>= λx=>Xc x.2 >>= λ_=>ma >>= λr=>lift r >>= λu=>modS i (Eo u) >>= λ_=>pure .nx)):=by
 show PS.weak (iF (pb F.plainAttrs_list F.slot_list_append F.type_list_append iG (a9 O Q T Y) (bB ha cC n) rfl OM NR n rfl)) ?_;rintro D σ H ⟨c0,rfl,rfl,f,h⟩;rw[ag]at h;have(k0,u0,SF,o,h):=eR h;have(p,l,m):=f.sl i k0 u0 o;show#[p,l,?_];cases u0 with
 |lst ZA =>
  have ZC:aM C c0 c0 (if k0.root=b6 then .bor i else k0) (.lst ZA) p:=by
   by_cases hk:k0.root=b6
   .rw[ŵ hk];show#[#[k0,hk,o],l]
   .cases k0 with
    |loc=>show m
    |any=>show m
    |bor j=>show m.elim
    |A'=>show(SF rfl).elim
    |_=>show absurd rfl hk
  have(s,Xg,ea,S4,_):=ZC.list f;show#[by rw[ea];show .inl #[rfl,Xg,L▸S4],?_];show aU f h λr c v t w=>?_;rw[ag]at w;have(S',st',u,sS,y,n1,d,A,_,_):=f_ f t.ok t.nx t.rx.w w;rw[ag]at A;have(k,u1,u2,hk,hs,e,q):=iL A;have B:c.σ[i]?≈bD (.ref s):=by rw[t.hσ,l,ea]
  cases u1 with
  |lst ys =>
   erw[Eo]at e;split at e
   .rename_i hz;cases e;have(v',e1,e2):=y.sl i k (.lst ys) hs;have G:=e1;rw[B]at G;cases G;have(r',er,_,_,_,ws,hw,I):=e2.rt hk;cases er;have Ve:=hw;show#[s,ws,v,ea,rfl,Ve,by rw[<-I.len];show hz,?_];rw[ao]at q;have(N5,n2):=Ok.mod   (u':=.lst (ys++[u])) y n1.toNs hk hs B (λa ne=>ai ne) ⟨_,aj⟩ λJ=>#[ws++[v],aj,(I.mv J).snoc (d.mv J)]
    have z:=q _ rfl N5 n2 (Kept.of t.hσ);rw[<-t.hσ];show z
   .cases e
  |_=>cases e
 |_=>rw[ag]at h;show(bf.mp h).elim
def Li(s:C.K=X.K)(O:X.N[i]?≈x)(Q:OB X.env.scope x)(T:(x==("__debug__":Str))=cK)(Y:(x==("__classdict__":Str))=cK)(ha:PE X a (NK C ma))
  (OM:((vl f (i0 [a] X.env)).all (λx=>!x.1)&&(UB f (PU [] X.env)).all (λx=>x.1.isSome)
   && df ([a].length+⇑([]:↑QK)+(if ([]:↑QK).isEmpty then 0 else 1)<30))=b6)
  (NR:(e.endLine==f.line)=b6) (u:i0 [a] X.env=[(cK,p8 a X.env)]) :
  L2.PS X (.Expr (.Call (.Attribute (.Name x px) "extend" e) [a] [] f) pos) (Oo C ns (dH i >>= λx=>Xc x.2 >>= λ_=>ma >>= λr=>modS i (qP r) >>= λ_=>pure .nx)):=by
 show PS.weak (iF (pb F.plainAttrs_list F.slot_list_extend F.type_list_extend vj (a9 O Q T Y) (bB ha cC u) rfl OM NR u rfl)) ?_;rintro D σ H ⟨c0,rfl,rfl,g,h⟩;rw[ag]at h;have(k0,u0,SF,y,h):=eR h;have(A,l,m):=g.sl i k0 u0 y;show#[A,l,?_];cases u0 with
 |lst ZA =>
  have ZC:aM C c0 c0 (if k0.root=b6 then .bor i else k0) (.lst ZA) A:=by
   by_cases hk:k0.root=b6
   .rw[ŵ hk];show#[#[k0,hk,y],l]
   .cases k0 with
    |loc=>show m
    |any=>show m
    |bor j=>show m.elim
    |A'=>show(SF rfl).elim
    |_=>show absurd rfl hk
  have(B,Xg,ea,S4,_):=ZC.list g;show#[by rw[ea];show .inl #[rfl,Xg,s▸S4],?_];show aU g h λr c v t w=>?_;rw[ag]at w;have(k,n,u2,hk,hs,d,q):=iL w;have G:c.σ[i]?≈bD (.ref B):=by rw[t.hσ,l,ea]
  have(rk,ru):=r;have key:∃ys zs b vs,n=.lst ys/\v=.ref b/\(N_ C.K c.H b vs\/Oi C.K c.H b vs)/\aq C c.S c.H zs vs/\⇑ys+⇑zs<=c8/\u2=.lst (ys++zs):=by
   cases ru with
   |lst zs =>
    cases n with
    |lst ys =>
     erw[qP]at d;split at d
     .rename_i hz;cases d;have(b,vs,ev,o,p):=t.rx.list t.ok;show#[_,_,b,vs,rfl,ev,.inl o,g9 hz.2 p,hz.1,rfl]
     .cases d
    |_=>simp[qP]at d
   |tup zs =>
    cases n with
    |lst ys =>
     erw[qP]at d;split at d
     .rename_i hz;cases d;have(b,vs,ev,o,p):=t.rx.tuple t.ok;show#[_,_,b,vs,rfl,ev,.inr o,g9 hz.2 p,hz.1,rfl]
     .cases d
    |_=>simp[qP]at d
   |_=>simp[qP]at d
  have(ys,zs,b,vs,rfl,rfl,hB,hz,hl,rfl):=key;have(v',I,e2):=t.ok.sl i k (.lst ys) hs;rw[G]at I;cases I;have(r',er,_,_,_,ws,hw,J):=e2.rt hk;cases er;show#[B,b,ws,vs,ea,rfl,hw,s▸hB,by rw[<-J.len,<-hz.len];show hl,?_];rw[ao]at q;have(N5,n2):=Ok.mod (c:=c)  (u':=.lst _) t.ok t.nx.toNs hk hs G (λa ne=>ai ne) ⟨_,aj⟩ λL=>#[ws++vs,aj,(J.mv L).append (hz.mv L)]
  have z:=q _ rfl N5 n2 (Kept.of t.hσ);rw[<-t.hσ];show z
 |_=>show(bf.mp h).elim
def p_.or(h:p_ X t)(h':p_ X t'):p_ X (λo i v H Q=>t o i v H Q\/t' o i v H Q):=λpins s σ H o i v a b u Q I c d e q =>
 q.elim (h pins s σ H o i v a b u Q I c d e) (h' pins s σ H o i v a b u Q I c d e)
def set_dict(b:X.A.units+1<C0):p_ X (λo i v H Q=>∃a H',o=.ref a/\yF H a i v H'/\Q H'):=by
 rintro pins s σ H o i v f h u Q I c d rv ⟨a,H',rfl,g,q⟩;cases c;show yH b I g d rv λj e=>#[H',e,q]
def BC{S}{kvs:↑(Key×V)}(a:kvs.map (·.1)=ks.map nC)(c:aq C S H us (kvs.map (·.2)))(f:Rep C S H u v):
  (putK kvs (nC y) v).map (·.1)=(dput ks us y u).1.map nC/\aq C S H (dput ks us y u).2 ((putK kvs (nC y) v).map (·.2)):=by
 have d:(kvs.any λkv=>df (kv.1=(nC y:Key)))=df (y∈ks):=by
  rw[jG];show(eQ (x:=y) a c).2
 unfold putK dput;rw[d];by_cases b:y∈ks
 .rw[ŵ (by exists b),ŵ b];constructor
  .rw[i8];rw[<-a];apply O5;intro p _;change(if p.1=nC y then(p.1,v) else p).1=p.1;split<;>rfl
  .clear d b;induction kvs generalizing ks us with
   |nil =>
    have:ks=[]:=by exists a.symm
    subst this;simp[aq]
   |cons p kvs g =>
    cases ks with
    |nil=>simp at a
    |cons k ks =>
     cases us with
     |nil=>simp[aq]at c
     |cons u0 us =>
      rw[i6,i6,SV]at a;have(i,j,e,l,h):=c;rw[i6]at e;cases e;rw[i6,X8,i6,i6];show#[_,_,rfl,?_,g a.2 h];by_cases hk:k=y
      .simp_all
      simp_all
 .rw[Ŷ (by exists b),Ŷ b];show#[by simp_all,by rw[mn];show c.snoc f]
def Lj(hP:C.P=X.prog)(hw:C.w=X.w)(hK:C.K=X.K)(hu:X.A.units+60<C0)(hN:X.N[i]?≈x)(hv:OB X.env.scope x)(hd:(x==("__debug__":Str))=cK)(NU:(x==("__classdict__":Str))=cK)
  (ha:PE X a (NK C ma)) (hb:PE X b (NK C mb)) (hs:Wk [.Subscript (.Name x I) b p] a pos.line X.env=pure cK) (SG:Yr [.Subscript (.Name x I) b p] a X.env=pure cc)
  (T:∀v,Vu (.Subscript (.Name x I) b p) X.env v=(do
   let J <-KX [v] (p8 (.Name x I) X.env)
   let Y <-KX [v,J] (p8 b X.env)
   WY p
   KX [v,J,Y] (WZ J Y v)
   Y0 [v,J,Y] [])) :
  L2.PS X (.Assign [.Subscript (.Name x I) b p] a pos) (Oo C ns (ma >>= λr=>dH i >>= λ_=>mb >>= λx=>cn [r,x] >>= λus=>modS i (Bj us) >>= λ_=>pure .nx)):=by
 show PS.weak (uE ha (Ao (a9 hN hv hd NU) hb (p_.or set_list (set_dict (X:=X) ⋯)) T) hs SG rfl) ?_;rintro D σ H ⟨c0,rfl,rfl,ok,h⟩;show aU ok h λr c v t w=>?_;rw[ag]at w;have(k0,u0,SF,OH,w):=eR w;have(v0,e0,QG):=t.ok.sl i k0 u0 OH;show#[v0,by rw[<-t.hσ];show e0,?_];rw[ag]at w;show#[c,t.hσ,rfl,t.ok,w.mono λy st2 w2 c2 l L e4 N5 n2 r2=>?_];subst e4;rw[ag]at w2;have ZD:=t.nx.trans n2;have rws:eu C c0 c2 [r,y] [v,l]:=#[v,[l],rfl,t.rx.w.on t.ok n2 (L.trans t.hσ.symm),#[l,[],rfl,(r2.w).from t.nx,rfl,λ_ i r' v' e _=>by simp at e],λhk i r' v' e5 e6 OU=>by
  cases i with
  |zero=>simp at e5 e6;subst e5 e6;show nA t.rx.w r2.w hk OU
  |succ i=>simp at e5]
 have(S',st',us,sS,NI,n1,f,w1):=hJ ok N5 ZD rws w2;rw[ag]at w1;have(k,O,u2,hk,Pz,d,q):=iL w1;rw[ao]at q;have hσ:c2.σ[i]?≈bD v0:=by rw[L,<-t.hσ];show e0
 have(v',e1,e2):=NI.sl i k O Pz;have OI:c2.σ[i]?≈bD v':=e1;rw[hσ]at OI;cases OI;have(m,er,z1,z2,z3,g):=e2.rt hk;subst er;have ab:({c2 with S:=S',st:=st' }:Cf).σ[i]?≈bD (.ref m):=hσ;obtain⟨Xm,ws,ew,n,al,am,an,s,ac⟩:∃u ws,us=[u,ws]/\Rep C S' c2.H u v/\∃(_:Unit) (_:Unit),True/\Rep C S' c2.H ws l/\True:=by
  cases us with
  |nil=>simp[aq]at f
  |cons u us =>
   have(_,_,e,q1,q2):=f;cases e;cases us with
   |nil=>simp[aq]at q2
   |cons u' us =>
    have(_,_,e,q3,q4):=q2;cases e;cases us with
    |nil=>show#[u,u',rfl,q1,(),(),ttt,q3,ttt]
    |cons _ _=>have(_,_,e,_):=q4;cases e
 subst ew;rw[show Bj [Xm,ws] O=gW ws Xm O from rfl]at d;have B:∀{H':Hp} ,(∀a,a≠m->H' a=c2.H a)->(∃o,H' m≈o)->(Mv S' c2.H S' H'->eE C S' H' m u2)->D.nx c0.σ H':=λ{H'} N8 hr new=>by
  have(P5,n3):=Ok.mod (c:={c2 with S:=S',st:=st' }) (H':=H') (u':=u2) NI n1.toNs hk Pz ab N8 hr new;have z:=q _ rfl P5 n3 (Kept.of L);rw[<-L];show z
 cases O with
 |lst xs =>
  cases ws with
  |int j =>
   erw[gW,g7]at d;have(j',hj,rfl):=d;have(vs,h1,G):=g;have ey:l=.int j:=s;show .inl #[m,vs,j,j',rfl,ey,h1,by rw[<-G.len];show hj,?_];show B (λa ne=>ai ne) ⟨_,aj⟩ λQ=>#[vs.set j' v,aj,(G.mv Q).set j' (n.mv Q)]
  |_=>simp[gW]at d
 |NA ks vs =>
  cases ws with
  |str y' =>
   erw[gW]at d;split at d
   .rename_i hz;cases d;have(kvs,h1,G,h3):=g;have ey:l=.str y':=s;subst ey;have hl:⇑kvs=⇑ks:=by have:=ż N3 G;exists this
    show .inr #[m,_,rfl,yF.k (k:=nC y') h1 (by rw[hl];show hz),?_];show B (λa ne=>ai ne) ⟨_,aj⟩ λQ=>?_;have(g1,g2):=BC (y:=y') G h3 n;show#[_,aj,g1,g2.mv Q]
   .cases d
  |_=>simp[gW]at d
 |_=>simp[gW]at d
def Ok.slot(d:Ok C c)(hn:k≠.A')(hs:c.st[i]?≈bD (k,u)):∃v,c.σ[i]?≈bD v/\aM C c c (if k.root=b6 then .bor i else k) u v:=by
 have(e,b,a):=d.sl i k u hs;show#[e,b,?_];by_cases hk:k.root=b6
 .rw[ŵ hk];show#[#[k,hk,hs],b]
 .cases k with
  |loc=>show a
  |any=>show a
  |bor j=>show a.elim
  |A'=>show(hn rfl).elim
  |_=>show absurd rfl hk
end TM
namespace TM
open PySem L2 PyProof.Rows PySem.W
def Ll(d:X.calm=b6)(f:Gl X x)(g:X.mg x≈.ref c)(i:(x==("__debug__":Str))=cK)(j:excIn X.K c U5 "ValueError.__new__"=b6)(k:PE X a (NK C l))(m:i0 [a] X.env=[(cK,p8 a X.env)])
  (n:∀H',C.xw (.str x) H'->∀pins σ s e b,Inv X pins σ H' s->cw X.prog X.w X.stack H' s e c cc .none H' b->X.xe (.ref e) b):L2.PS X (.Raise (bD (.Call (.Name x p) [a] [] r)) cc pos) (Oo C ns (l >>= λ_=>pure (.rt .io (.str x)))):=by
 show PS.weak (A4 d f g i j k m) ?_;rintro D σ H ⟨c0,rfl,rfl,o,h⟩;show aU o h λx q v t w=>?_;rw[ao]at w;show λpins s e b I F=>n _ (w q rfl t.ok t.nx (Kept.of t.hσ)) pins _ s e b I F
def Ok.kill(v)(b:Ok C c)(t:c.st[j]?≈cc):Ok C {c with σ:=c.σ.set j v}/\Nx c {c with σ:=c.σ.set j v}:=by
 have ne:∀(i:Nat) (r:Kd×U),c.st[i]?≈bD r->(c.σ.set j v)[i]?=c.σ[i]?:=λi r e=>hQ λz=>by simp_all
 have l:∀a,{c with σ:=c.σ.set j v}.R1 a->c.R1 a:=λa ⟨i,k,u,hk,d,f⟩=>#[i,k,u,hk,d,(ne i _ d)▸f]
 have n:QO C {c with σ:=c.σ.set j v}:=b.dd.of rfl (λi u e=>#[e,ne i _ e]) (λa z=>.inl (l a z)) (.up λ_ z=>z) λi a z=>#[(b.root (.inr #[i,z])).1,λo q=>q]
 show#[#[b.same,b.O8,b.par,b.io,by simp[b.len],λi k u e=>?_,λi m k k' u u' r hk p d f g s=>?_,n],#[λ_ _ h _=>h,λ_ o h=>#[o,h],λa z=>.inl ?_,λ_ h=>h,λ_ h=>.inl h]]
 .have(v,q,z):=b.sl i k u e;show#[v,(ne i _ e).trans q,z]
 .show b.inj i m k k' u u' r hk p d f ((ne i _ d)▸g) ((ne m _ f)▸s)
 .show z.imp (l a) λ⟨i,u,r,d,f,g⟩=>#[i,u,r,d,(ne i _ d)▸f,g]
end TM
namespace TM
open PySem L2 PyProof.Rows
def Ok.EU(d:Ok C c)(n:Ns c0 c)(hi:c.st[i]?≈bD (.A',u))(B:c.σ[i]?≈bD (.ref r))(N8:∀a,¬c.RD i a->H' a=c.H a)(N:∀a o,c.H a≈o->∃J,H' a≈J)
  (new:Mv c.S c.H c.S H'->ba C c.S H' r as' u') (O:∀a∈as',a∈c.kid i\/(¬c.R a/\c0.H a=cc)) :
  Ok C {c with H:=H',st:=c.st.set i (bD (.A',u')),kid:=λj=>if j=i then as' else c.kid j}/\Ns c0 {c with H:=H',st:=c.st.set i (bD (.A',u')),kid:=λj=>if j=i then as' else c.kid j}:=by
 have Q:i<⇑c.st:=(eH.mp hi).1;have rt:∀{a},c.RD i a->¬c.S a/\¬C.O7 a/\(C.H₀ a=cc\/C.IO a)/\∃o,c.H a≈o/\¬Tp o:=λz=>d.root (.inr #[i,z]);have h0:∀{a},c.RD i a->C.H₀ a=cc\/C.IO a:=λ⟨u1,r1,g,b,e3⟩=>(ba.fr (d.dd.kd i u1 r1 g b) _ (eT.mpr e3)).2.2;have q:∀{a:hH} {o:HO},¬c.RD i a->c.H a≈o->H' a≈o:=λz e=>by rw[N8 _ z];show e
 have L:Mv c.S c.H c.S H':=#[λ_ z=>z,λa o e t=>q (λz=>by
  have(_,_,_,J,l,nt):=rt z;rw[e]at l;cases l;show nt t) e,λa o z e=>q (λm=>(rt m).1 z) e]
 have Sr:Mv (PS C c.S) c.H (PS C c.S) H':=#[λ_ z=>z,L.U8,λa o z e=>q (λm=>z.elim (rt m).2.1 (rt m).1) e]
 have D:∀(j:Nat) k w,(c.st.set i (bD (.A',u')))[j]?≈bD (k,w)->j≠i->c.st[j]?≈bD (k,w):=λj k w e ne=>by rw[hQ (mh ne)]at e;show e
 have T:∀(j:Nat) k w,k.root=b6->(c.st.set i (bD (.A',u')))[j]?≈bD (k,w)->c.st[j]?≈bD (k,w):=λj k w hk e=>by
  by_cases f:j=i
  .subst f;rw[fx Q]at e;cases e;cases hk
  .show D j k w e f
 have b1:∀a,({c with H:=H',st:=c.st.set i (bD (.A',u')),kid:=λj=>if j=i then as' else c.kid j}:Cf).R1 a->c.R1 a:=λa ⟨j,k,w,hk,g,b⟩=>#[j,k,w,hk,T j k w hk g,b]
 have G:∀j a,({c with H:=H',st:=c.st.set i (bD (.A',u')),kid:=λj=>if j=i then as' else c.kid j}:Cf).RD j a->c.RD j a\/(j=i/\¬c.R a/\c0.H a=cc):=λj a N6=>by
  have(w,h,g,b,e3):=N6;by_cases f:j=i
  .subst f;have I:c.σ[j]?≈bD (.ref h):=b;rw[B]at I;cases I;rcases e3 with rfl|e3
   .show .inl #[u,_,hi,B,.inl rfl]
   .have Y:a∈as':=by exists e3
    rcases O a Y with z|z
    .show .inl #[u,_,hi,B,.inr z]
    .show .inr #[rfl,z]
  .have Y:a=h\/a∈c.kid j:=by simpa[f] using e3
   show .inl #[w,h,D j _ w g f,b,Y]
 show#[#[λa o e z=>q (λm=>(h0 m).elim (λy=>by rw[y]at e;cases e) z) (d.same a o e z),λa z=>?_,d.par,λa z=>?_,by simp[d.len],λj k w e=>?_,λx s k1 k2 w1 w2 h h1 h2 g b e3 e4=>d.inj x s k1 k2 w1 w2 h h1 h2 (T x k1 w1 h1 g) (T s k2 w2 h2 b) e3 e4,#[λj w h g b=>?_,λx s a z1 z2=>?_,λj a z1 z2=>?_]],#[λa o e z=>?_,λa o e=>?_,λa z=>?_,n.sub,n.new]]
 .have(q1,o,q2):=d.O8 a z;show#[q1,N a o q2]
 .have(q1,o,q2):=d.io a z;show#[q1,N a o q2]
 .by_cases f:j=i
  .subst f;rw[fx Q]at e;cases e;show#[.ref r,B,r,rfl]
  .have(v,g,b):=d.sl j k w (D j k w e f);show#[v,g,b.mv L Sr λhk h er=>?_];have(Xe,Px,z1,_):=b.rt hk;rw[er]at Px;cases Px;show#[z1,λo l=>q (λz=>d.dd.d1 i h z #[j,k,w,hk,D j k w e f,by rw[g,er]]) l]
 .by_cases f:j=i
  .subst f;rw[fx Q]at g;cases g;have I:c.σ[j]?≈bD (.ref h):=b;rw[B]at I;cases I;have z:=new L;exists z
  .have OI:=D j _ w g f;have OU:(if j=i then as' else c.kid j)=c.kid j:=Ŷ f;change ba C c.S H' h (if j=i then as' else c.kid j) w;rw[OU];show ba.mv L (λa ha=>#[(d.root (.inr #[j,w,h,OI,b,eT.mp ha])).1,λo l=>q (λz=>f (d.dd.dj j i a #[w,h,OI,b,eT.mp ha] z)) l]) (d.dd.kd j w h OI b)
 .rcases G x a z1 with p|⟨rfl,p,_⟩
  .rcases G s a z2 with A|⟨rfl,A,_⟩
   .show d.dd.dj x s a p A
   .show(A (.inr #[x,p])).elim
  .rcases G s a z2 with A|⟨rfl,A,_⟩
   .show(p (.inr #[s,A])).elim
   .rfl
 .rcases G j a z1 with p|⟨rfl,p,_⟩
  .show d.dd.d1 j a p (b1 a z2)
  .show p (.inl (b1 a z2))
 .show q (λm=>by
   rcases n.roots a (.inr #[i,m]) with y|y
   .show z y
   .rw[e]at y;cases y) (n.keep a o e z)
 .have(J,l):=n.there a o e;show N a J l
 .rcases z with z|⟨j,z⟩
  .show n.roots a (.inl (b1 a z))
  .rcases G j a z with y|⟨_,_,y⟩
   .show n.roots a (.inr #[j,y])
   .show .inr y
def Ok.newD(l:Ok C c)(x:c.H p=cc)(hi:i<⇑c.σ):
  Ok C {c with H:=upd c.H p (.dK []),σ:=c.σ.set i (bD (.ref p)),st:=c.st.set i (bD (.A',.NA [] [])),kid:=λj=>if j=i then [] else c.kid j}/\Ns c {c with H:=upd c.H p (.dK []),σ:=c.σ.set i (bD (.ref p)),st:=c.st.set i (bD (.A',.NA [] [])),kid:=λj=>if j=i then [] else c.kid j}:=by
 have(n,L):=l.lay (o:=.dK []) x;have(Y,q2,q3,q4,A):=l.jP x;have B:i<⇑c.st:=by rw[l.len];show hi
 have t:∀(j:Nat) k w,(c.st.set i (bD (.A',.NA [] [])))[j]?≈bD (k,w)->j≠i->c.st[j]?≈bD (k,w):=λj k w e ne=>by rw[hQ (mh ne)]at e;show e
 have q:∀(j:Nat),j≠i->(c.σ.set i (bD (.ref p)))[j]?=c.σ[j]?:=λj ne=>hQ (mh ne);have D:∀(j:Nat) k w,k.root=b6->(c.st.set i (bD (.A',.NA [] [])))[j]?≈bD (k,w)->j≠i/\c.st[j]?≈bD (k,w):=λj k w hk e=>by
  by_cases b:j=i
  .subst b;rw[fx B]at e;cases e;cases hk
  .show#[b,t j k w e b]
 have b1:∀a,({c with H:=upd c.H p (.dK []),σ:=c.σ.set i (bD (.ref p)),st:=c.st.set i (bD (.A',.NA [] [])),kid:=λj=>if j=i then [] else c.kid j}:Cf).R1 a->c.R1 a:=λa G=>by
  have(j,k,w,hk,d,f):=G;have(b,I):=D j k w hk d;show#[j,k,w,hk,I,by rw[<-q j b];show f]
 have r:∀j a,({c with H:=upd c.H p (.dK []),σ:=c.σ.set i (bD (.ref p)),st:=c.st.set i (bD (.A',.NA [] [])),kid:=λj=>if j=i then [] else c.kid j}:Cf).RD j a->(j≠i/\c.RD j a)\/(j=i/\a=p):=λj a G=>by
  have(w,g,d,f,e3):=G;by_cases b:j=i
  .subst b;have s:(c.σ.set j (bD (.ref p)))[j]?≈bD (.ref g):=f;rw[fx hi]at s;cases s;rcases e3 with rfl|e3
   .show .inr #[rfl,rfl]
   .simp at e3
  .have RW:a=g\/a∈c.kid j:=by simpa[b] using e3
   show .inl #[b,w,g,t j _ w d b,by rw[<-q j b];show f,RW]
 show#[#[n.same,n.O8,n.par,n.io,by simp[l.len],λj k w e=>?_,λm h k1 k2 N O g Q T d f e3 e4=>?_,#[λj w g d f=>?_,λm h a z1 z2=>?_,λj a z1 z2=>?_]],#[L.keep,L.there,λa z=>?_,λ_ z=>z,λ_ z=>.inl z]]
 .by_cases b:j=i
  .subst b;rw[fx B]at e;cases e;show#[.ref p,fx hi,p,rfl]
  .have(v,d,f):=n.sl j k w (t j k w e b);show#[v,(q j b).trans d,f]
 .have(Rk,a1):=D m k1 N Q d;have(Rm,a2):=D h k2 O T f;show l.inj m h k1 k2 N O g Q T a1 a2 ((q m Rk).symm.trans e3) ((q h Rm).symm.trans e4)
 .by_cases b:j=i
  .subst b;rw[fx B]at d;cases d;have s:(c.σ.set j (bD (.ref p)))[j]?≈bD (.ref g):=f;rw[fx hi]at s;cases s;change ba C c.S (upd c.H p (.dK [])) p (if j=j then [] else c.kid j) (.NA [] []);rw[ŵ rfl];show#[[],aj,rfl,rfl,by simp,λa ha=>by rw[kr.mp ha];show#[q2,q3,Y],rfl]
  .have I:=t j _ w d b;have z:=n.dd.kd j w g I ((q j b).symm.trans f);change ba C c.S (upd c.H p (.dK [])) g (if j=i then [] else c.kid j) w;rw[Ŷ b];show z
 .rcases r m a z1 with⟨_,u⟩|⟨rfl,rfl⟩
  .rcases r h a z2 with⟨_,J⟩|⟨rfl,rfl⟩
   .show l.dd.dj m h a u J
   .show(A (.inr #[m,u])).elim
  .rcases r h a z2 with⟨_,J⟩|⟨rfl,_⟩
   .show(A (.inr #[h,J])).elim
   .rfl
 .rcases r j a z1 with⟨_,u⟩|⟨rfl,rfl⟩
  .show l.dd.d1 j a u (b1 a z2)
  .show A (.inl (b1 a z2))
 .rcases z with z|⟨j,z⟩
  .show .inl (.inl (b1 a z))
  .rcases r j a z with⟨_,y⟩|⟨_,rfl⟩
   .show .inl (.inr #[j,y])
   .show .inr x
theorem d7.rep{S S'}(hs:∀a,S a->S' a):∀{us}{as},(∀a∈as,S' a)->d7 C S H us as->aq C S' H us (as.map V.ref)
 |[],as,_,h=>by cases h;rfl
 |u::us,as,c,h=>by
  have(a,as',ys,vs,rfl,rfl,d,e,f):=h;show#[_,_,rfl,#[a,vs,rfl,.inl #[c a ⋯,.inl d],e.mv (.up hs)],d7.rep hs (λb g=>c b (by simp[g])) f]
def Ok.M7(b:Ok C c)(n:Nx c0 c)(B:∃ks us,u=.NA ks us)(hi:c.st[i]?≈bD (.A',u))(s:c.σ[i]?≈bD (.ref r)):
  Ok C {c with S:=λa=>c.S a\/a∈c.kid i,st:=c.st.set i (bD (.own,u))}/\Nx c0 {c with S:=λa=>c.S a\/a∈c.kid i,st:=c.st.set i (bD (.own,u))}:=by
 have Q:i<⇑c.st:=(eH.mp hi).1;have(ks,us,B):=B;have T:=b.dd.kd i u r hi s;have fr:=ba.Za (B▸T);have mem:∀a,(a=r\/a∈c.kid i)->c.RD i a:=λa z=>#[u,r,hi,s,z]
 have up:Mv c.S c.H (λa=>c.S a\/a∈c.kid i) c.H:=.up λa=>.inl;have Y:Mv (PS C c.S) c.H (PS C λa=>c.S a\/a∈c.kid i) c.H:=.up λa z=>z.imp id .inl;have ZF:r∉c.kid i/\eE C (λa=>c.S a\/a∈c.kid i) c.H r u:=by
  subst B;have(kvs,D,G,h3,h4,h5,h6):=T;show#[(nH.mp h4).1,kvs,D,G,?_];rw[h3];show h6.rep (λa=>.inl) λa I=>.inr I
 have p:∀(j:Nat) k w,(c.st.set i (bD (.own,u)))[j]?≈bD (k,w)->j≠i->c.st[j]?≈bD (k,w):=λj k w e ne=>by rw[hQ (mh ne)]at e;show e
 have b1:∀a,({c with S:=λa=>c.S a\/a∈c.kid i,st:=c.st.set i (bD (.own,u))}:Cf).R1 a->c.R1 a\/a=r:=λa N6=>by
  have(j,k,w,hk,f,g):=N6;by_cases d:j=i
  .subst d;have O6:c.σ[j]?≈bD (.ref a):=g;rw[s]at O6;cases O6;show .inr rfl
  .show .inl #[j,k,w,hk,p j k w f d,g]
 have J:∀j a,({c with S:=λa=>c.S a\/a∈c.kid i,st:=c.st.set i (bD (.own,u))}:Cf).RD j a->j≠i/\c.RD j a:=λj a N6=>by
  have(w,h,f,g,t):=N6;by_cases d:j=i
  .subst d;rw[fx Q]at f;cases f
  .show#[d,w,h,p j _ w f d,g,t]
 show#[#[b.same,λa z=>?_,b.par,b.io,by simp[b.len],λj k w e=>?_,λm l k1 k2 L N h D G f g t e4=>?_,#[λj w h f g=>?_,λm l a z1 z2=>b.dd.dj m l a (J m a z1).2 (J l a z2).2,λj a z1 z2=>?_]],#[#[n.keep,n.there,λa z=>?_,λa z=>.inl (n.sub a z),λa z=>?_]]]
 .rcases z with z|z
  .show b.O8 a z
  .have(o,ho,_):=ba.there T a (f7 _ z);show#[(fr a (f7 _ z)).2.2,o,ho]
 .by_cases d:j=i
  .subst d;rw[fx Q]at e;cases e;have(q1,q2,q3):=fr r (il ..);show#[.ref r,s,r,rfl,λz=>z.elim q1 ZF.1,q2,q3,ZF.2]
  .have(v,f,g):=b.sl j k w (p j k w e d);show#[v,f,g.mv up Y λhk h er=>?_];have(Xe,Px,z1,_):=g.rt hk;rw[er]at Px;cases Px;show#[λz=>z.elim z1 λz=>b.dd.d1 i h (mem h (.inr z)) #[j,k,w,hk,p j k w e d,by rw[f,er]],λo q=>q]
 .by_cases O:m=i
  .by_cases x:l=i
   .rw[O,x]
   .subst O;have RW:c.σ[m]?≈bD (.ref h):=t;rw[s]at RW;cases RW;show(b.dd.d1 m r (mem r (.inl rfl)) #[l,k2,N,G,p l k2 N g x,e4]).elim
  .by_cases x:l=i
   .subst x;have A:c.σ[l]?≈bD (.ref h):=e4;rw[s]at A;cases A;show(b.dd.d1 l r (mem r (.inl rfl)) #[m,k1,L,D,p m k1 L f O,t]).elim
   .show b.inj m l k1 k2 L N h D G (p m k1 L f O) (p l k2 N g x) t e4
 .by_cases d:j=i
  .subst d;rw[fx Q]at f;cases f
  .have OI:=p j _ w f d;show ba.mv up (λa I=>#[λz=>z.elim (b.root (.inr #[j,w,h,OI,g,eT.mp I])).1 λz=>d (b.dd.dj j i a #[w,h,OI,g,eT.mp I] (mem a (.inr z))),λo q=>q]) (b.dd.kd j w h OI g)
 .have(d,y):=J j a z1;rcases b1 a z2 with z|z
  .show b.dd.d1 j a y z
  .subst z;show d (b.dd.dj j i a y (mem a (.inl rfl)))
 .rcases z with z|⟨j,z⟩
  .rcases b1 a z with z|rfl
   .show n.roots a (.inl z)
   .show n.roots a (.inr #[i,mem a (.inl rfl)])
  .show n.roots a (.inr #[j,(J j a z).2])
 .rcases z with z|z
  .show n.new a z
  .rcases n.roots a (.inr #[i,mem a (.inr z)]) with y|y
   .show .inr (.inl y)
   .show .inr (.inr y)
def EV(d:X.N[i]?≈x)(f:OB X.env.scope x)(g:(x==("__debug__":Str))=cK)(j:(x==("__classdict__":Str))=cK):PE X (.Name x pos) (NK C (Bg i)):=by
 have k:=mf (C:=C) (pos:=pos) d f g j;rintro pins s σ H Q I ⟨c0,rfl,rfl,b,r,st',e,h⟩;unfold Bg at e;split at e
 .rename_i ks us hs;cases e;have(v,c,o,rfl):=b.sl i _ _ hs;have(l,m):=b.M7 (Nx.refl c0) #[_,_,rfl] hs c;have n:=(eH.mp hs).1;show a9 d f g j pins s _ c0.H Q I #[_,c,h {c0 with S:=λa=>c0.S a\/a∈c0.kid i,st:=c0.st.set i _} _ rfl rfl l m ⟨⟨.own,rfl,fx n⟩,c⟩]
 .show k pins s _ c0.H Q I #[c0,rfl,rfl,b,r,st',e,h]
def iM{st}(h:W (jS i) st Q):∃ks us,st[i]?≈bD (.A',.NA ks us)/\Q (ks,us) st:=by
 have(r,st',e,q):=h;unfold jS at e;split at e
 .rename_i ks us hs;cases e;show#[ks,us,hs,q]
 .cases e
def iN{st}(h:W (gM x) st Q):∃y,x.2=.str y/\Q y st:=by
 unfold gM at h;split at h
 .rename_i y e;rw[ao]at h;show#[y,e,h]
 .show(bf.mp h).elim
inductive DcO(C:Ct)(c:Cf)(i:Nat)(ks:↑Str)(us:↑U):Prop
 |mk:∀(r:hH) (kvs:↑(Key×V)),c.σ[i]?≈bD (.ref r)->c.H r≈.dK kvs->kvs.map (·.1)=ks.map nC->kvs.map (·.2)=(c.kid i).map V.ref->(r::c.kid i).Nodup->d7 C c.S c.H us (c.kid i)->(∀y:Str,(eU kvs (nC y)).isSome=df (y∈ks))->(∀(y:Str) (u:U),eW ks us y≈u->∃v,eU kvs (nC y)≈v/\Rep C (λa=>c.S a\/a∈c.kid i) c.H u v)->DcO C c i ks us
def Ok.NA(d:Ok C c)(hi:c.st[i]?≈bD (.A',.NA ks us)):DcO C c i ks us:=by
 have(v,e,r,rfl):=d.sl i _ _ hi;have(kvs,j,b,f,k,m,g):=d.dd.kd i _ r hi e;have h:aq C (λa=>c.S a\/a∈c.kid i) c.H us (kvs.map (·.2)):=by rw[f];show g.rep (λa=>.inl) λa l=>.inr l
 show#[r,kvs,e,j,b,f,k,g,λy=>(eQ  b h).2,λy=>(eQ  b h).1]
def s9{k:Str->↑Str×↑U->M β}{b}{Z:V->V->Hp->Prop}(l:Ok C c0)(h:W (m >>= λx=>gM x >>= λy=>jS i >>= λd=>k y d) c0.st b)
  (hz:∀c y ks us r kvs,c.σ=c0.σ->Ok C c->Nx c0 c->c.H r≈.dK kvs->(eU kvs (nC y)).isSome=df (y∈ks)->W (k y (ks,us)) c.st b->Z (.str y) (.ref r) c.H) :
  NK C m c0.σ c0.H λv o=>∃f,c0.σ[i]?≈bD f/\Z v f o:=by
 show#[c0,rfl,rfl,l,?_];rw[ag]at h;show W.mono h λx st' w c v g hs a n r=>?_;subst hs;have(u,z):=x;rw[ag]at w;have(y,e,j):=iN w;clear w;subst e;have ev:=r.str a;subst ev;rw[ag]at j;have(ks,us,hs,w):=iM j;have(p,kvs,q,s,_,_,_,_,t,_):=a.NA hs;show#[_,by rw[<-g];show q,hz c y ks us p kvs g a n s (t y) w]
abbrev IQ(neg:Bool):ł:=if neg=b6 then .NotIn else .In
def IS(b:∀j,ns j=b6->j≠i)(c:X.N.Nodup)(hi:X.N[i]?≈x)(d:Loc X.env.scope x)(f:X.fn x=b6\/X.env.scope.names.lookup x≈.local)
  (hs:QA (.Dict [] [] p) (bD (.Name x a)) pos.line X.env=pure cK):L2.PS X (.Assign [.Name x a] (.Dict [] [] p) pos) (Oo C ns (Gu i >>= λ_=>pure .nx)):=by
 rintro pins s σ H D I ⟨c0,rfl,rfl,g,h⟩;have k:i<⇑c0.σ:=by rw[I.len];show(eH.mp hi).1
 show mP c hi d sr hs f pins s _ c0.H D I λq l=>?_;have(m,n):=g.newD l k;rw[ag]at h;have(_,st',e,w):=h;cases e;rw[ao]at w;show w _ rfl m n #[λj o=>hQ (mh (b j o)),by simp]
def EW(v:X.A.units+60<C0)(j:X.N[i]?≈x)(l:OB X.env.scope x)(m:(x==("__debug__":Str))=cK)(o:(x==("__classdict__":Str))=cK)(p:PE X a (NK C u))(q:R0 (IQ neg) (.Name x p2)=cK):
  PT X (.Compare a [IQ neg] [.Name x p2] pos) (OY C (u >>= λx=>gM x >>= λy=>jS i >>= λd=>pure (Zd neg y d.1))):=by
 rintro pins s σ H Q I ⟨c0,rfl,rfl,t,h⟩;cases neg with
 |false =>
  show Ai (HJ ⋯ p (a9 j l m o)) q pins s _ c0.H Q I (s9  t h λc y ks us r kvs b e n f g w=>?_);rw[ao]at w;show#[r,_,rfl,gP.k (k:=nC y) f,?_];rw[g];show#[_,rfl,w c b rfl e n]
 |true =>
  show Ai (yI ⋯ p (a9 j l m o)) q pins s _ c0.H Q I (s9  t h λc y ks us r kvs b e n f g w=>?_);rw[ao]at w;show#[r,_,rfl,gP.k (k:=nC y) f,?_];rw[g];show#[_,rfl,w c b rfl e n]
theorem d7.snoc{S}{a}(b:H a≈.lst vs)(c:aq C S H ys vs):∀{us}{as},d7 C S H us as->d7 C S H (us++[.lst ys]) (as++[a])
 |[],as,h=>by cases h;show#[a,[],ys,vs,rfl,rfl,b,c,rfl]
 |u::us,as,h=>by
  have(a',as',d,f,rfl,e,g,i,j):=h;show#[a',_,d,f,rfl,e,g,i,d7.snoc b c j]
def vL{st}(h:W (nv i y r) st Q):∃us ks vs,r=(.own,.lst us)/\st[i]?≈bD (.A',.NA ks vs)/\y∉ks/\⇑ks<c8/\Q () (st.set i (bD (.A',.NA (ks++[y]) (vs++[.lst us])))):=by
 have(k,u):=r;cases k<;>cases u<;>first|show(bf.mp h).elim|skip
 rename_i us;have(_,st',e,q):=h;unfold nv at e
 dsimp only at e
 split at e
 .rename_i ks vs hs;split at e
  .rename_i hz;cases e;show#[us,ks,vs,rfl,hs,hz.1,hz.2,q]
  .cases e
 .cases e
def IT{i}{x}{j}(hu:X.A.units+60<C0)(hN:X.N[i]?≈x)(hv:OB X.env.scope x)(hd:(x==("__debug__":Str))=cK)(NU:(x==("__classdict__":Str))=cK)
  (ha:PE X a (NK C ma)) (B:PE X b (NK C mb)) (hs:Wk [.Subscript (.Name x j) b p] a pos.line X.env=pure cK) (SG:Yr [.Subscript (.Name x j) b p] a X.env=pure cc)
  (G:∀v,Vu (.Subscript (.Name x j) b p) X.env v=(do
   let n <-KX [v] (p8 (.Name x j) X.env)
   let I <-KX [v,n] (p8 b X.env)
   WY p
   KX [v,n,I] (WZ n I v)
   Y0 [v,n,I] [])) :
  L2.PS X (.Assign [.Subscript (.Name x j) b p] a pos) (Oo C ns (ma >>= λr=>jS i >>= λ_=>mb >>= λx=>gM x >>= λy=>nv i y r >>= λ_=>pure .nx)):=by
 show PS.weak (uE ha (Ao (a9 hN hv hd NU) B (set_dict (X:=X) ⋯) G) hs SG rfl) ?_;rintro D σ H ⟨c0,rfl,rfl,Q,h⟩;show aU Q h λr c v t w=>?_;rw[ag]at w;have(ab,us0,OH,w):=iM w;have(T,Uq,Y,g0,_):=t.ok.NA OH;show#[.ref T,by rw[<-t.hσ];show Y,?_];rw[ag]at w;show#[c,t.hσ,rfl,t.ok,w.mono λy st2 w2 c2 vy s e4 u n2 r2=>?_];subst e4;rw[ag]at w2;have(ky,uy):=y;have(y,ey,w3):=iN w2
 dsimp only at ey r2
 subst ey;have ev:vy=.str y:=r2.str u;subst ev;rw[ag]at w3;have(us,ks,vs,J,f,L,l,q):=vL w3;subst J;rw[ao]at q;have(m,kvs,d,g1,g2,g3,g4,g5,g6,_):=u.NA f;have J:m=T:=by rw[s,<-t.hσ,Y]at d;cases d;rfl
 subst J;have(g,rfl,k1,k2,k3,N0,k4,k5):=t.rx.w.on t.ok n2.toNs (s.trans t.hσ.symm);have ZD:=t.nx.trans n2;have hl:⇑kvs=⇑ks:=by have:=ż N3 g2;exists this
 have Rx:eU kvs (nC y)=cc:=by
  have:=g6 y;rw[ŷ L]at this;cases hq:eU kvs (nC y) with
  |none=>rfl
  |some _=>rw[hq]at this;cases this
 show#[m,_,rfl,yF.k (k:=nC y) g1 (by rw[hl];show l),?_];rw[AG _ Rx];have ZF:g∉c2.kid i:=λz=>k3 (.inr #[i,_,_,f,d,.inr z]);have O:g≠m:=λz=>k3 (.inr #[i,_,_,f,d,.inl z]);have rd:=u.dd.kd i _ _ f d;have fr:=ba.Za rd;have(P5,n3):=Ok.EU (H':=upd c2.H m (.dK (kvs++[(nC y,.ref g)]))) (u':=.NA (ks++[y]) (vs++[.lst us])) (as':=c2.kid i++[g]) u ZD.toNs f d
  (λa ne=>ai λz=>ne #[_,_,f,d,.inl z]) (λa o e=>by
   by_cases hz:a=m
   .subst hz;show#[_,aj]
   .rw[ai hz];show#[o,e])
  (λmv=>by
   show#[_,aj,by simp_all,by rw[mn,g3,mn];rfl,?_,λa ha=>?_,?_]
   .rw[<-ĉ,mN];show#[g4,by simp,λa ha b B=>by
     have:b=g:=by exists B
     subst this;rintro rfl;simp_all]
   .rw[<-ĉ]at ha;rcases i7.mp ha with ha|ha
    .show fr a ha
    .have:a=g:=by exists ha
     subst this;have(z1,_,z3,_):=Q.jP k1;show#[k2,z3,z1]
   .show d7.snoc (by rw[ai O];show k4) (k5.mv mv) (d7.mv mv (λa ha o e=>by
     rw[ai (λz=>(nH.mp g4).1 (by rw[<-z];show ha))];show e) g5))
  (λa ha=>by
   rcases i7.mp ha with ha|ha
   .show .inl ha
   simp_all)
 have z:=q _ rfl P5 n3 (Kept.of s);rw[<-s];show z
theorem d7.at{S}:∀{ks}{us}{as}{kvs:↑(Key×V)}{u},kvs.map (·.1)=ks.map nC->kvs.map (·.2)=as.map V.ref->as.Nodup->d7 C S H us as->eW ks us y≈u ->
  ∃a ws ys,eU kvs (nC y)≈.ref a/\a∈as/\u=.lst ys/\H a≈.lst ws/\aq C S H ys ws/\∀H' c d,Mv S H S H'->H' a≈.lst d->aq C S H' c d->(∀b∈as,b≠a->H' b=H b)->d7 C S H' (lY ks us y (.lst c)) as
 |[],us,as,kvs,u,_,_,_,_,h=>by cases us<;>cases h
 |k::ks,[],as,kvs,u,_,_,_,_,h=>by cases h
 |k::ks,u0::us,as,kvs,u,f,l,hn,hk,h=>by
  have(a,as',ys,ws,rfl,rfl,t,v,w):=hk;cases kvs with
  |nil=>simp at f
  |cons p kvs =>
   rw[i6,i6,SV]at f l;rw[nH]at hn;by_cases m:k=y
   .subst m;erw[eW]at h;cases h;show#[a,ws,ys,by rw[fE f.1,l.1],by simp,rfl,t,v,λH' c d g n q i=>?_];erw[lY];show#[a,as',c,d,rfl,rfl,n,q,d7.mv g (λb j o e=>by rw[i b (by simp[j]) (λz=>hn.1 (z▸j))];show e) w]
   .simp only[eW,Ŷ m]at h;have(x,r,s,B,A,D,G,I,J):=d7.at f.2 l.2 hn.2 w h;show#[x,r,s,?_,by simp[A],D,G,I,λH' c d g n q i=>?_]
    .rw[fF ⋯];show B
    .simp only[lY,Ŷ m];have L:a≠x:=λz=>hn.1 (z▸A);show#[a,as',ys,ws,rfl,rfl,by rw[i a ⋯ L];show t,v.mv g,J H' c d g n q λb j=>i b (by simp[j])]
def vM{st}(h:W (ny i y u) st Q):∃ks vs xs,st[i]?≈bD (.A',.NA ks vs)/\eW ks vs y≈.lst xs/\⇑xs<c8/\Q () (st.set i (bD (.A',.NA ks (lY ks vs y (.lst (xs++[u])))))):=by
 have(_,st',e,q):=h;unfold ny at e;split at e
 .rename_i ks vs hs;split at e
  .rename_i xs a;split at e
   .rename_i hz;cases e;show#[ks,vs,xs,hs,a,hz,q]
   .cases e
  .cases e
 .cases e
abbrev zd(C:Ct)(m:M (Kd×U)):TE:=λσ H Q=>∃c0:Cf,c0.σ=σ/\c0.H=H/\Ok C c0/\W m c0.st λr st'=>∀c v,c.σ=σ->c.st=st'->Ok C c->Nx c0 c->(∀a o,c0.H a≈o->c.H a≈o)->aM C c0 c r.1 r.2 v->Q v c.H
def pC(b:Ok C c0)(h:W (d >>= k) c0.st e)
  (hz:∀x c v,RT C c0 c x v->(∀a o,c0.H a≈o->c.H a≈o)->W (k x) c.st e->Z v c.H):zd C d c0.σ c0.H Z:=by
 rw[ag]at h;show#[c0,rfl,rfl,b,h.mono λx st1 n c1 f g p i j l m=>hz x c1 f #[g,i,j,m] l ⋯]
def BD(d:X.N[i]?≈x)(f:OB X.env.scope x)(g:(x==("__debug__":Str))=cK)(l:(x==("__classdict__":Str))=cK):PE X (.Name x pos) (zd C (dH i)):=by
 show PE.weak (a9 d f g l) ?_;rintro σ H Q ⟨c0,rfl,rfl,b,r,st',e,h⟩;unfold dH at e;split at e
 .cases e
 .rename_i k u m hs;cases e;have(v,c,a):=b.sl i k u hs;show#[v,c,h c0 v rfl rfl b (Nx.refl c0) (λ_ _ z=>z) ?_];by_cases hk:k.root=b6
  .rw[ŵ hk];show#[#[k,hk,hs],c]
  .cases k with
   |loc=>show a
   |any=>show a
   |bor j=>show a.elim
   |A'=>show(m rfl).elim
   |_=>show absurd rfl hk
 .cases e
def jX(h:PE X e (tC v))(r:∀S H,Rep C S H u v):PE X e (zd C (pure (.loc,u))):=by
 show PE.weak h ?_;rintro σ H Q ⟨c0,rfl,rfl,a,h⟩;rw[ao]at h;show h c0 v rfl rfl a (Nx.refl c0) (λ_ _ z=>z) (r _ _)
def IU(hK:C.K=X.K)(hu:X.A.units+60<C0)(hN:X.N[i]?≈x)(hv:OB X.env.scope x)(hd:(x==("__debug__":Str))=cK)(NU:(x==("__classdict__":Str))=cK)(J:PE X a (zd C ma))(hb:PE X b (NK C mb))(V':HI b)
  (OM:((vl L (i0 [a] X.env)).all (λx=>!x.1)&&(UB L (PU [] X.env)).all (λx=>x.1.isSome)
   && df ([a].length+⇑([]:↑QK)+(if ([]:↑QK).isEmpty then 0 else 1)<30))=b6)
  (NR:(j.endLine==L.line)=b6) (NF:i0 [a] X.env=[(cK,p8 a X.env)]) :
  L2.PS X (.Expr (.Call (.Attribute (.Subscript (.Name x px) b p) "append" j) [a] [] L) pos) (Oo C ns (jS i >>= λ_=>mb >>= λx=>gM x >>= λy=>jS i >>= λd=>if y∈d.1 then(ma >>= λr=>lift r >>= λu=>ny i y u >>= λ_=>pure .nx) else M.fail)):=by
 show PS.weak (iF (pb F.plainAttrs_list F.slot_list_append F.type_list_append iG (D2 ⋯ (a9 hN hv hd NU) hb V') (bB J cC NF) rfl OM NR NF rfl)) ?_;rintro D σ H ⟨c0,rfl,rfl,ok,h⟩;rw[ag]at h;have(am,us0,OH,h):=iM h;have(r0,Uq,O,g0,_):=ok.NA OH;show#[.ref r0,O,?_];show aU ok h λry c vy t w=>?_;rw[ag]at w;have(ky,uy):=ry;have(y,ey,w1):=iN w
 dsimp only at ey
 subst ey;have ev:vy=.str y:=t.rx.str t.ok;subst ev;rw[ag]at w1;have(ks,us,hs,l):=iM w1
 dsimp only at l
 by_cases Q:y∈ks
 case neg=>rw[Ŷ Q]at l;show(bf.mp l).elim
 rw[ŵ Q]at l;have(T,kvs,f1,g1,g2,g3,g4,g5,g6,_):=t.ok.NA hs;have Y:T=r0:=by rw[t.hσ,O]at f1;cases f1;rfl
 subst Y;have Tt:=g6 y;rw[Ź Q]at Tt;have(v0,B):=vr.mp Tt;have OE:v0∈(c.kid i).map V.ref:=by
  rw[<-g3];unfold eU at B;have(q,hq,rfl):=g7.mp B;show B' (List.mem_of_find?_eq_some hq)
 have(f,ab,rfl):=j0.mp OE;have(RX,ZH):=g5.mem ab;show#[T,.ref f,rfl,by rw[<-B];show gP.k (k:=nC y) g1,Or.inl #[rfl,RX,.inl (.inl ZH)],?_];rw[<-t.hσ];show pC t.ok l λr g v t' yX w3=>?_;rw[ag]at w3;have(S',st',u,sS,NI,n1,m,w4,_,_):=f_ t.ok t'.ok t'.nx t'.rx.w w3;rw[ag]at w4;have(n,N0,xs,G,hx,hz,q):=vM w4;rw[ao]at q;have(I,Ur,k1,k2,k3,k4,k5,k6,_,_):=NI.NA G;have s:g.σ[i]?≈bD (.ref I):=k1;have Y:I=T:=by rw[t'.hσ,t.hσ,O]at s;cases s;rfl
 subst Y;have ac:g.H I≈.dK Ur:=k2;have ZI:Ur=kvs:=by have:=yX _ _ g1;rw[ac]at this;cases this;rfl
 subst ZI;have nd:=(nH.mp k5).2;have(a2,ws,ys,l1,l2,l3,l4,l5,l6):=d7.at k3 k4 nd k6 hx;cases l3;rw[B]at l1;cases l1;have al:g.H f≈.lst ws:=l4;show#[f,ws,v,rfl,rfl,al,by rw[<-l5.len];show hz,?_];have N8:f≠I:=λz=>(nH.mp k5).1 (z▸l2);have(N5,n2):=Ok.EU (c:={g with S:=S',st:=st' }) (H':=upd g.H f (.lst (ws++[v]))) (u':=.NA n (lY n N0 y (.lst (xs++[u])))) (as':=g.kid i) NI (t.nx.trans n1).toNs G k1
  (λa ne=>ai λz=>ne #[_,_,G,k1,.inr (z▸l2)]) (λa o e=>by
   by_cases hz:a=f
   .subst hz;show#[_,aj]
   .rw[ai hz];show#[o,e])
  (λmv=>#[Ur,by rw[ai (mh N8)];show k2,k3,k4,k5,ba.Za (NI.dd.kd i _ _ G k1),l6 _ _ _ mv aj ((l5.mv mv).snoc (m.mv mv)) λb _ ne=>ai ne])
  (λa J=>.inl J)
 have z:=q _ rfl N5 n2 (Kept.of (t'.hσ.trans t.hσ));rw[<-t'.hσ];show z
def BE{st}(h:W (Ze u) st Q):∃ks us,u=.NA ks us/\Q () st:=by
 cases u<;>first|show(bf.mp h).elim|skip
 show#[_,_,rfl,ao.mp h]
def pD{st}(h:W (yV x) st Q):∃j,x.2=.int j/\Q j st:=by
 unfold yV at h;split at h
 .rename_i y e;rw[ao]at h;show#[y,e,h]
 .show(bf.mp h).elim
def pE{st}(h:W (sV i) st Q):∃k us,k.root=b6/\st[i]?≈bD (k,.lst us)/\Q us st:=by
 have(r,st',e,q):=h;unfold sV at e;split at e
 .rename_i k us hs;split at e
  .rename_i hk;cases e;show#[k,_,hk,hs,q]
  .cases e
 .cases e
theorem s_:∀{ks}{us},y∈ks->⇑ks=⇑us->eW ks us y=cc->False
 |[],us,h,_,_=>by cases h
 |k::ks,[],_,h,_=>by simp at h
 |k::ks,u::us,h,hl,e=>by
  by_cases hk:k=y
  .simp[eW,hk]at e
  .simp only[eW,Ŷ hk]at e;rcases eT.mp h with h|h
   .show hk h.symm
   .show s_ h (by exists hl) e
def BF{i}{x}{G}(hu:X.A.units+60<C0)(hN:X.N[i]?≈x)(hv:OB X.env.scope x)(hd:(x==("__debug__":Str))=cK)(NU:(x==("__classdict__":Str))=cK)
  (ha:PE X a (NK C ma)) (hb:PE X b (NK C mb)) (hm:M2 X (.Name x G) "get" e a b Nu) :
  PE X (.Call (.Attribute (.Name x G) "get" e) [a,b] [] Nu) (NK C (dH i >>= λx=>Ze x.2 >>= λ_=>ma >>= λy=>gM y >>= λy=>mb >>= λz=>lift z >>= λu=>dH i >>= λx=>M.N1 (El x y u))):=by
 rintro pins s σ H Q I ⟨c0,rfl,rfl,o,h⟩;show AI ⋯ (a9 hN hv hd NU) ha hb hm pins s c0.σ c0.H Q I ?_;rw[ag]at h;have(k0,u0,ZJ,OH,h):=eR h;have(v0,J,t0):=o.slot ZJ OH;rw[ag]at h;have(ab,us0,f,h'):=BE h
 dsimp only at f
 subst f;have(p,Uq,rfl,g0,_):=t0.dict o;show#[.ref p,J,p,rfl,.inl #[Uq,.inl g0],?_];show aU o h' λry c vy t w=>?_;rw[ag]at w;have(ky,uy):=ry;have(y,L,w1):=iN w
 dsimp only at L
 subst L;have ev:vy=.str y:=t.rx.str t.ok;subst ev;rw[<-t.hσ];show aU t.ok w1 λz c2 vz g O=>?_;rw[ag]at O;have(S',st',u,sS,B,n1,j,T,_,_):=f_ t.ok g.ok g.nx g.rx.w O;rw[ag]at T;have(k,u1,D,Pz,w5):=eR T;have(r,d,q):=cy.mp w5;have(v1,e1,t1):=B.slot D Pz;have Y:c2.σ[i]?≈bD v1:=e1;rw[g.hσ,t.hσ,J]at Y;cases Y;cases u1<;>first|(erw[El]at d;cases d;done)|skip
 rename_i ks us;have(a1,kvs,ea,g1,g2,g3):=t1.dict B;cases ea;have Xn:c2.H p≈.dK kvs:=g1;show#[_,gP.k (k:=nC y) Xn,?_];erw[El]at d;have(l1,l2):=eQ (x:=y) g2 g3;have l:∀v:V,aM C c0 {c2 with S:=S',st:=st' } r.1 r.2 v->Q v c2.H:=λv z=>q {c2 with S:=S',st:=st' } v (g.hσ.trans t.hσ) rfl B (t.nx.trans n1) z;cases n:eW ks us y with
 |some w =>
  rw[n]at d;cases d;have(v,ev,rv):=l1 w n;rw[ev];show l v ?_;show aM.item (k:=if k.root=b6 then .bor i else k) rv
 |none =>
  rw[n]at d;cases d;have Rx:eU kvs (nC y)=cc:=by
   cases hq:eU kvs (nC y) with
   |none=>rfl
   |some v =>
    exfalso
    rw[hq]at l2;have hy:y∈ks:=⋯
    have m:⇑ks=⇑us:=by have h1:=ż N3 g2;have h2:=g3.len;simp at h1 h2;lia
    show s_ hy m n
  rw[Rx];show l vz j
def BG:Ki X (λo i H Q=>∃p xs j v,o=.ref p/\i=.int j/\H p≈.lst xs/\0<=j/\xs[j.toNat]?≈v/\Q v H):=by
 rintro pins s σ H o i h k Q I b c ⟨p,xs,j,v,rfl,rfl,d,h0,a,q⟩;cases b;have(t,rfl):=c;have(l,r,e,hz):=I.list (.inl (.inl d));have(w,f,g):=r.get a;have hn:=gO;have m:=(eH.mp a).1;show wpAny_getItem_list e.isList h0 ⋯ (by exists f) #[v,H,I,g,q]
def EX:WQ X (if sub=b6 then .Sub else .Add) (XU (Bh sub)):=by
 cases sub with
 |true=>show Hn
 |false=>show Hm
def Lm(hN:X.N[i]?≈x)(hv:OB X.env.scope x)(hd:(x==("__debug__":Str))=cK)(NU:(x==("__classdict__":Str))=cK)
  (ha:PE X a (zd C ma)) (hb:PE X b (NK C mb))
  (n:∀f g new,Ū b f g new=(do KX [new,f,g] (WZ f g new);Y0 [new,f,g] [];pure .next)) :
  L2.PS X (.AugAssign (.Subscript (.Name x px) b p) (if sub=b6 then .Sub else .Add) a pos) (Oo C ns (sV i >>= λ_=>mb >>= λy=>yV y >>= λj=>sV i >>= λus=>M.N1 (sW us j) >>= λo=>ma >>= λz=>yV z >>= λw=>modS i (gW (.int j) (.int (Bh sub o w))) >>= λ_=>pure .nx)):=by
 show PS.weak (DF (a9 hN hv hd NU) hb BG ha EX set_list n) ?_;rintro D σ H ⟨c0,rfl,rfl,J,h⟩;rw[ag]at h;have(k0,us0,Wa,OH,h):=pE h;have(v0,r,QG):=J.sl i _ _ OH;have(e,rfl,_,_,_,_):=QG.rt Wa;show#[.ref e,r,?_];show aU J h λry c vy t w=>?_;rw[ag]at w;have(ky,uy):=ry;have(j,L,O):=pD w
 dsimp only at L
 subst L;have ev:vy=.int j:=t.rx.int t.ok;subst ev;rw[ag]at O;have(k1,Xo,VX,Pz,Q):=pE O;rw[ag]at Q;have(o,ho,w3):=cy.mp Q;have(v1,T,s):=t.ok.sl i _ _ Pz;have(a1,rfl,_,_,_,Wb):=s.rt VX;rw[t.hσ,r]at T;cases T;have(vs,Y,g2):=Wb;unfold sW at ho;split at ho
 case isFalse=>cases ho
 rename_i u;split at ho
 case h_2=>cases ho
 rename_i o' ZK;cases ho;have(vo,v,A):=g2.get ZK;have B:vo=.int o:=A;subst B;show#[e,vs,j,_,rfl,rfl,Y,u,v,?_];rw[<-t.hσ];show pC t.ok w3 λz c2 vz d all2 w4=>?_;rw[ag]at w4;have(kz,uz):=z;have(w,ez,w5):=pD w4
 dsimp only at ez
 subst ez;have ev:vz=.int w:=d.rx.int d.ok;subst ev;show#[o,w,rfl,rfl,?_];rw[ag]at w5;have(k,u1,u2,hk,Qf,l,q):=iL w5;rw[ao]at q;have(v2,G,SY):=d.ok.sl i _ _ Qf;have(a2,rfl,_,_,_,Wc):=SY.rt hk;have I:=G;rw[d.hσ,t.hσ,r]at G;cases G;have Xn:c2.H e≈.lst vs:=all2 _ _ Y;cases u1 with
 |lst xs =>
  erw[gW,g7]at l;have(m,Sb,rfl):=l;have(ab,l1,l2):=Wc;rw[Xn]at l1;cases l1;show#[e,vs,j,m,rfl,rfl,Xn,by rw[<-l2.len];show Sb,?_];have(P5,n3):=Ok.mod (c:=c2) (H':=upd c2.H e (.lst (vs.set m (.int (Bh sub o w))))) (u':=.lst (xs.set m (.int (Bh sub o w)))) d.ok (t.nx.trans d.nx).toNs hk Qf I (λa ne=>ai ne) ⟨_,aj⟩ λmv=>#[_,aj,(l2.mv mv).set m rfl]
  have z:=q _ rfl P5 n3 (Kept.of (d.hσ.trans t.hσ));rw[<-d.hσ];show z
 |NA ks vs=>simp[gW]at l
 |_=>simp[gW]at l
def EY{ks:↑Str}(c:kvs.map (·.1)=ks.map nC)(d:kvs.map (·.2)=ns.map V.int):kvs=(ks.zip ns).map λp=>((nC p.1:Key),V.int p.2):=by
 induction kvs generalizing ks ns with
 |nil =>
  simp_all
 |cons kv kvs e =>
  cases ks with
  |nil=>cases c
  |cons k ks =>
   cases ns with
   |nil=>cases d
   |cons n ns =>
    have(a,b):=kv;erw[i6,SV]at c d;have(rfl,c):=c;have(rfl,d):=d;rw[e c d];rfl
theorem aq.of_map{S:hH->Prop}{f:α->U}{g:α->V}:∀{l:↑α},(∀x∈l,Rep C S H (f x) (g x))->aq C S H (l.map f) (l.map g)
 |[],_=>rfl
 |x::l,h=>#[g x,_,rfl,h x ⋯,aq.of_map λy a=>h y (by simp[a])]
def EZ(hc:X.calm=b6)(hK:C.K=X.K)(hg:Gl X "sorted")(hm:X.mg "sorted"=cc)(hN:X.N[i]?≈x)(hv:OB X.env.scope x)(hd:(x==("__debug__":Str))=cK)(NU:(x==("__classdict__":Str))=cK)(NR:(b.endLine==l.line)=b6):
  PE X (.Call (.Name "sorted" p) [.Call (.Attribute (.Name x n) "items" b) [] [] l] [] pos) (NK C (dH i >>= λx=>M.N1 (Bc x.2))):=by
 rintro pins s σ H Q I ⟨c0,rfl,rfl,m,h⟩;show nT (dC I hg hm (show so "sorted"≈.builtin "sorted" by decide +kernel) ?_ (by decide +kernel) (by decide +kernel));rw[ag]at h;have(k0,u0,ZJ,OH,h):=eR h;have(v0,e0,t0):=m.slot ZJ OH;have(r,c,g):=cy.mp h
 dsimp only at c
 unfold Bc at c;split at c
 rotate_left
 .cases c
 rename_i ks us;rw[ki]at c;have(ns,en,c):=c;split at c
 rotate_left
 .cases c
 rename_i ZL;cases c;have(Se,NP,G):=ZL;have(d,kvs,rfl,k,Wa,J):=t0.dict m;rw[lj en]at J;have ZI:=EY Wa (aq.ints J);subst ZI;have ek:((ks.zip ns).map (·.1))=ks:=Ć ⋯;have f:‹X› (p8 (.Call (.Attribute (.Name x n) "items" b) [] [] l) X.env) (λv s1=>‹X› (Qt (.builtin "sorted") [v]) (EP X pins c0.σ Q) X.xe s1) X.xe s:=by
  show ç rfl NR (ND (a9 hN hv hd NU pins s c0.σ c0.H (λv O=>v=.ref d/\O=c0.H) I ⟨_,e0,rfl,rfl⟩) λv s1 ZM=>?_);have(x1,O,Y,r1,z1,z2):=ZM;subst z1 z2;cases(show v=ku d from r1);have(h1,h2):=qp (T:="dict") Y (x:=.ref d) rfl (.inr (.inr (.inl #[rfl,.inl #[_,k]])));show#["dict","dict.items",F.plainAttrs_dict,F.slot_dict_items,F.type_dict_items,h1,h2,uk rfl (PySem.evalArgs_none (qL hc Y k (by rw[ek];show NP) (by rw[YT];lia) λas L hl nd S3 hL=>?_))];have q:c0.H L=cc:=S3 L ⋯;have t:(as.zip ((ks.zip ns).map RQ)).map (·.1)=as:=Ć (by rw[ei];lia);have u:∀p∈as.zip ((ks.zip ns).map RQ),p.1∈as:=λp B=>(Uo B).1;have same:fW c0.H (upd (lV c0.H (as.zip ((ks.zip ns).map RQ))) L (.lst ((lU ((ks.zip ns).map (·.1))).map λi=>V.ref (as.getD i 0)))):=λa o e=>by
   have n1:a≠L:=λy=>by rw[y,q]at e;cases e
   rw[ai n1,nj λp B y=>?_]
   .show e
   .have:=S3 p.1 (by simp[u p B]);rw[y,e]at this;cases this
  have(NT,n'):=m.grow (S':=c0.S) same (λa z=>.inl z) λa z=>z;have(q1,q2,q3,q4,q5):=m.jP q;show g {c0 with H:=upd (lV c0.H (as.zip ((ks.zip ns).map RQ))) L (.lst ((lU ((ks.zip ns).map (·.1))).map λi=>V.ref (as.getD i 0))),S:=c0.S} _ rfl rfl NT n' ⟨L,rfl,q,q2,q5,_,aj,?_⟩;change aq C c0.S _ ((Eh (ks.zip ns)).map yU) _;unfold Eh;rw[i8];show aq.of_map λj hj=>?_;have Sb:j<⇑(ks.zip ns):=by
   have:=uu.mp ((iI _).mem_iff.mp hj);rw[ei]at this;show this
  have YY:j<⇑as:=⋯
  have e1:(ks.zip ns).getD j (nS,0)=(ks.zip ns)[j]:=(List.getElem_eq_getD _).symm;have e2:as.getD j 0=as[j]:=by simp[S8,YY]
  change Rep C c0.S _ (yU ((ks.zip ns).getD j (nS,0))) (V.ref (as.getD j 0));rw[e1,e2];show#[as[j],RQ (ks.zip ns)[j],rfl,Oi.of ?_,#[_,_,rfl,rfl,_,_,rfl,rfl,rfl]];have N8:as[j]≠L:=λy=>hL (by rw[<-y];simp);show(ai N8).trans (xp (by rw[t];show nd) (vs:=RQ (ks.zip ns)[j]) ?_);show WO.mpr #[j,by rw[YT,ei];lia,?_];simp
 have eb:vl pos (i0 [.Call (.Attribute (.Name x n) "items" b) [] [] l] X.env)=[(cK,p8 (.Call (.Attribute (.Name x n) "items" b) [] [] l) X.env)]:=rfl;have D:UB pos (PU [] X.env)=[]:=rfl;rw[eb,D];show Bu f
@[reducible]noncomputable def RY(P:rS)(w:wk)(K:W.Frag)(H:Hp)(a IO:hH->Prop):Ct:=#[P,w,K,H,a,IO,λ_ _=>False]
def OQ.nth(t:OQ C c0 c rs vs){i:Nat}(h:rs[i]?≈r):∃v,vs[i]?≈v/\aM C c0 c r.1 r.2 v:=by
 have d:∀(l:↑(Kd×U)) (w:↑V),eu C c0 c l w->bg l c.st->∀(i:Nat) (r:Kd×U),l[i]?≈r->∃v,w[i]?≈v/\aM C c0 c r.1 r.2 v:=by
  intro l;induction l with
  |nil=>intro w _ _ i r e;simp at e
  |cons x l f =>
   intro w h hs i r e;have(v,t',rfl,g,j,_):=h;rw[eO]at hs;cases i with
   |zero=>simp at e;subst e;show#[v,rfl,g.t hs.1]
   |succ i=>have(k,a,b):=f t' j hs.2 i r (by exists e);show#[k,by simpa using a,b]
 show d rs vs t.rep t.RU i r h
def OQ.len(t:OQ C c0 c rs vs):⇑rs=⇑vs:=by
 have:=t.read.len;rw[ei]at this;show this
section
variable{X:Cx}{C:Ct}{a:jw}{ma:M (Kd×U)}{apos Nu:Pos}{i:Nat}{x:Str}{px:Pos}
def Ok.Ln(b:Ok C c)(hk:k.root=b6)(hs:c.st[i]?≈bD (k,.lst us)):∃a vs,c.σ[i]?≈bD (.ref a)/\c.H a≈.lst vs/\aq C c.S c.H us vs:=by
 have(v,d,e):=b.sl i k _ hs;have(r,rfl,_,_,_,vs,f,g):=e.rt hk;show#[r,vs,d,f,g]
def Ok.out(h:Ok C c)(n:Nx c0 c)(m:c.σ=c0.σ)(hk:k.root=b6)(hs:c.st[i]?≈bD (k,.lst us))(j:c.σ[i]?≈bD (.ref r))(p:aq C c.S c.H d b)(q:Rep C c.S c.H u v)(w:c7 C c0 Q (.loc,u) (c.st.set i (bD (k,.lst d)))):Q v (upd c.H r (.lst b)):=by
 have f:Mv c.S c.H c.S (upd c.H r (.lst b)):=by
  have(N,l,s):=h.sl i k _ hs;rw[j]at l;cases l;have(O,y,A,_,_,B):=s.rt hk;cases y;have(o,ho,g):=B.some;show#[λ_ z=>z,λa D e t=>by rw[ai (λz=>by subst z;rw[ho]at e;cases e;show g t)];show e,λa D z e=>by rw[ai (λG=>by subst G;show A z)];show e]
 have(I,J):=h.mod (H':=upd c.H r (.lst b)) (u':=.lst d) n.toNs hk hs j (λa ne=>ai ne) ⟨_,aj⟩ λL=>#[b,aj,p.mv L]
 show w {c with H:=upd c.H r (.lst b),st:=c.st.set i (bD (k,.lst d))} v m rfl I ⟨J⟩ (q.mv f)
def E1(g:X.N[i]?≈x)(j:OB X.env.scope x)(l:(x==("__debug__":Str))=cK)(m:(x==("__classdict__":Str))=cK)(n:(apos.endLine==Nu.line)=b6)(o:C.K=X.K):
  PE X (.Call (.Attribute (.Name x px) "pop" apos) [] [] Nu) (NK C (Bd i)):=by
 show PE.weak (AB F.plainAttrs_list F.slot_list_pop F.type_list_pop AE (a9 g j l m) rfl n) ?_;rintro σ H Q ⟨c0,rfl,rfl,c,h⟩;have(r,st',e,w):=h;unfold Bd at e;split at e
 .rename_i k us hs;split at e
  .rename_i hk;split at e
   .rename_i u q;cases e;have(p,vs,d,f,b):=c.Ln hk hs;have(v,s,t):=b.get q;have hl:=b.len;show#[_,d,.inl #[rfl,vs,o▸N_.of f],p,vs,v,rfl,rfl,f,by rw[<-hl];show s,?_];show c.out (Nx.refl c0) rfl hk hs d ?_ t w;rw[SU,SU,hl];show b.take _
   .cases e
  .cases e
 .cases e
end
structure P6(K:W.Frag)(d:Bool)(cl:hH):Prop where
 hc:Ro K d cl
 cls:RK K cl
 na:∀x∈(["rows","earlier","shelf"]:↑Str),jf K cl x
theorem tf:∀{us},d6 us=b6↔∀u∈us,NY u=b6
 |[]=>by simp[d6]
 |u::us=>by rw[d6,cb,tf];simp
section
variable{X:Cx}{C:Ct}{pins:List (hH×Obj)}{s:i4}{c0 c c1:Cf}{i:Nat}{x:Str}{px apos p1 p2 pos Nu:Pos}{u:U}{us:List U}
def Ok.BH(d:Ok C c)(hs:c.st[i]?≈bD (.A',.ob cK u us)):∃r cl b v a vs,c.σ[i]?≈bD (.ref r)/\c.kid i=[a]/\QN C c.S c.H r a u us cl b v vs:=by
 have(h,e,r,rfl):=d.sl i _ _ hs;have(cl,b,v,a,vs,f,g):=d.dd.kd i _ r hs e;show#[r,cl,b,v,a,vs,e,f,g]
def Ro.one{K}(h:Ro K d cl)(h':Ro K d a):cl=a:=by
 rw[Ro,h']at h;simp_all
def tm{st}(h:W (Sy i) st Q):∃u us,st[i]?≈bD (.A',.ob cK u us)/\Q (u,us) st:=by
 have(p,st',e,h):=h;unfold Sy at e;split at e
 .rename_i u us hs;cases e;show#[u,us,hs,h]
 .cases e
def tq{st}(h:W (Sz i f) st Q):∃u us w ws,st[i]?≈bD (.A',.ob cK u us)/\f u us≈(w,ws)/\NY w=b6/\d6 ws=b6/\Q () (st.set i (bD (.A',.ob cK w ws))):=by
 have(p,st',e,h):=h;unfold Sz at e;split at e
 .rename_i u us hs;split at e
  .rename_i w ws a;split at e
   .rename_i z;cases e;show#[u,us,w,ws,hs,a,z.1,z.2,h]
   .cases e
  .cases e
 .cases e
def BI(K:P6 X.K cK cl)(d:C.K=X.K)(e:X.N[i]?≈x)(f:OB X.env.scope x)(g:(x==("__debug__":Str))=cK)(j:(x==("__classdict__":Str))=cK):
  PE X (.Attribute (.Name x px) "rows" pos) (NK C (Sy i >>= λp=>pure (.loc,p.1))):=by
 show PE.weak (qg (a9 e f g j) rfl) ?_;rintro σ H Q ⟨c0,rfl,rfl,b,h⟩;rw[ag]at h;have(u,us,hs,h):=tm h;have(r,m,k,v,a,vs,l,_,o):=b.BH hs;cases(K.hc).one (d▸o.hc);rw[ao]at h;show#[_,l,r,cl,k,_,v,rfl,o.ins,K.cls,(K.na _ ⋯),rfl,h c0 v rfl rfl b (Nx.refl c0) o.rep]
def vN(a:X.N[i]?≈x)(b:OB X.env.scope x)(d:(x==("__debug__":Str))=cK)(e:(x==("__classdict__":Str))=cK):PE X (.Attribute (.Name x px) "earlier" pos) (Hy X.K (lQ i) "earlier"):=qg (a9 a b d e) rfl
def QN.ZN{S}(K:P6 X.K cK cl)(b:C.K=X.K)(o:QN C S H r a u us f d v vs)(e:σ[i]?≈bD (V.ref r))(q:Q (.ref a) H):Hy X.K (lQ i) "earlier" σ H Q:=by
 cases(K.hc).one (b▸o.hc);show#[_,e,r,cl,d,_,_,rfl,o.ins,K.cls,(K.na _ ⋯),rfl,q]
def BJ(K:P6 X.K cK cl)(d:C.K=X.K)(hu:X.A.units+60<C0)(k:X.N[i]?≈x)(m:OB X.env.scope x)(n:(x==("__debug__":Str))=cK)(q:(x==("__classdict__":Str))=cK):
  PT X (.Compare (.Attribute (.Name x px) "earlier" p1) [.Eq] [.List [] p2] pos) (OY C (Sy i >>= λp=>if Om 50 (.lst p.2)=b6 then pure p.2.isEmpty else M.fail)):=by
 rintro pins s σ H Q I ⟨c0,rfl,rfl,b,h⟩;rw[ag]at h;have(u,us,hs,h):=tm h;have(r,SH,dx,v,a,vs,t,_,o):=b.BH hs
 dsimp only at h
 split at h
 rotate_left
 .show(bf.mp h).elim
 rename_i w;rw[ao]at h;show QE (bin (R:=λx y j=>x=.ref a/\∃l,y=.ref l/\c0.H l=cc/\j=upd c0.H l (.lst [])) (vN k m n q) (uS cC) I (o.ZN K d t #[kj _,λl hl=>#[rfl,l,rfl,hl,rfl]]) λv' u' s2 x y j f B D ⟨G,l,J,hl,L⟩=>?_) rfl;subst G J L;have(O,g):=b.lay  hl;have T:a≠l:=λz=>by have:=o.lst;simp_all
 have Y:Rep C (λy=>c0.S y\/y=a\/y=l) (upd c0.H l (.lst [])) (.lst us) (.ref a):=#[a,vs,rfl,.inl #[.inr (.inl rfl),.inl (by rw[ai T];show o.lst)],o.PF.mv #[λy z=>.inl z,(b.mv g.toNs).U8,(b.mv g.toNs).W8]]
 have r2:Rep C (λy=>c0.S y\/y=a\/y=l) (upd c0.H l (.lst [])) (.lst []) (.ref l):=#[l,[],rfl,.inl #[.inr (.inr rfl),.inl aj],rfl]
 have z:=(Ip (A:=X.A)  (.of f d _ _ _ _ w Y B) (.of f d _ _ _ _ (by rfl) r2 D) ⋯).1;show z _ _ _ _ (q9 #[_,f,?_]);have e:cj (.lst us) (.lst [])=us.isEmpty:=by cases us<;>rfl
 rw[e];show h {c0 with H:=upd c0.H l (.lst [])} rfl rfl O g
def Ok.BK(y:Ok C c)(n:Ns c0 c)(hs:c.st[i]?≈bD (.A',.ob cK u us))(f:c.σ[i]?≈bD (.ref r))(hk:c.kid i=[a])(o:QN C c.S c.H r a u us cl k v vs)
 (l:∀b,b≠r->b≠a->H' b=c.H b) (A:H' r≈.ins cl k (Ti m a)) (B:H' a≈.lst p) (D:NY w=b6) (g:d6 ws=b6) (h:Rep C c.S c.H w m) (rws:aq C c.S c.H ws p) :
    ∃d,d.H=H'/\d.σ=c.σ/\d.S=c.S/\d.st=c.st.set i (bD (.A',.ob cK w ws))/\Ok C d/\Ns c0 d:=by
  have(G,I):=y.EU  (u':=.ob cK w ws)  n hs f (λb z=>l b (λq=>z #[_,_,hs,f,.inl q]) λq=>z #[_,_,hs,f,.inr ⋯]) (λb J e=>by
      by_cases L:b=r
      . simp_all
      . by_cases N:b=a
        . simp_all
        . show#[J,by rw[l b L N];show e])
    (λt=>#[cl,k,m,a,p,rfl,o.hc,A,o.ne,o.fr,D,h.mv t,B,g,rws.mv t]) (λb O=>.inl (by rw[hk];show O))
  show#[{c with H:=H',st:=c.st.set i _,kid:=λj=>if j=i then [a] else c.kid j},rfl,rfl,rfl,rfl,G,I]
def BL(K:P6 X.K cK cl)(j:C.K=X.K)(k:X.N[i]?≈x)(l:OB X.env.scope x)(m:(x==("__debug__":Str))=cK)(n:(x==("__classdict__":Str))=cK)(p:(apos.endLine==Nu.line)=b6):
  PE X (.Call (.Attribute (.Attribute (.Name x px) "earlier" p1) "pop" apos) [] [] Nu) (NK C (lX i)):=by
 show PE.weak (AB F.plainAttrs_list F.slot_list_pop F.type_list_pop AE (vN k l m n) rfl p) ?_;rintro σ H Q ⟨c0,rfl,rfl,d,Y,st',e,h⟩;unfold lX at e;split at e
 .rename_i u us hs;split at e
  .rename_i w q;cases e;have(r,SH,dx,v,a,vs,f,hk,o):=d.BH hs;have(y,t,z):=o.PF.get q;have hl:=o.PF.len;show o.ZN K j f #[.inl #[rfl,vs,N_.of o.lst],a,vs,y,rfl,rfl,o.lst,by rw[<-hl];show t,?_];have A:aq C c0.S c0.H us.dropLast vs.dropLast:=by
    rw[SU,SU,hl];show o.PF.take _
   have B:d6 us.dropLast=b6:=by
    have:=o.V3;rw[tf]at this ⊢;show λx D=>this x (List.dropLast_subset _ D)
   have(G,I,J,h3,L,O,g):=d.BK (Ns.refl c0) hs f hk o (H':=upd c0.H a _) (λb z1 z2=>ai z2) (by rw[ai o.ne];show o.ins) aj o.im B o.rep A;have T:=d.mv g;rw[<-I];show h G y J L O #[g] (z.mv T)
  .cases e
 .cases e
end
def Ok.M8(f:Ok C c)(n:Ns c0 c)(hi:i<⇑c.σ)(Q:ba C c.S c.H r as u)(A:∀b∈r::as,¬c.R b/\c0.H b=cc):
  Ok C {c with σ:=c.σ.set i (bD (.ref r)),st:=c.st.set i (bD (.A',u)),kid:=λj=>if j=i then as else c.kid j}/\Ns c0 {c with σ:=c.σ.set i (bD (.ref r)),st:=c.st.set i (bD (.A',u)),kid:=λj=>if j=i then as else c.kid j}:=by
 have D:i<⇑c.st:=by rw[f.len];show hi
 have B:∀(j:Nat) k w,(c.st.set i (bD (.A',u)))[j]?≈bD (k,w)->j≠i->c.st[j]?≈bD (k,w):=λj k w e ne=>by rw[hQ (mh ne)]at e;show e
 have q:∀(j:Nat),j≠i->(c.σ.set i (bD (.ref r)))[j]?=c.σ[j]?:=λj ne=>hQ (mh ne);have G:∀(j:Nat) k w,k.root=b6->(c.st.set i (bD (.A',u)))[j]?≈bD (k,w)->j≠i/\c.st[j]?≈bD (k,w):=λj k w hk e=>by
  by_cases d:j=i
  .subst d;rw[fx D]at e;cases e;cases hk
  .show#[d,B j k w e d]
 have b1:∀a,({c with σ:=c.σ.set i (bD (.ref r)),st:=c.st.set i (bD (.A',u)),kid:=λj=>if j=i then as else c.kid j}:Cf).R1 a->c.R1 a:=λa I=>by
  have(j,k,w,hk,g,h):=I;have(d,T):=G j k w hk g;show#[j,k,w,hk,T,by rw[<-q j d];show h]
 have s:∀j a,({c with σ:=c.σ.set i (bD (.ref r)),st:=c.st.set i (bD (.A',u)),kid:=λj=>if j=i then as else c.kid j}:Cf).RD j a->(j≠i/\c.RD j a)\/(j=i/\a∈r::as):=λj a I=>by
  have(w,l,g,h,e3):=I;by_cases d:j=i
  .subst d;have t:(c.σ.set j (bD (.ref r)))[j]?≈bD (.ref l):=h;rw[fx hi]at t;cases t;rcases e3 with rfl|e3
   .show .inr #[rfl,by simp]
   .show .inr #[rfl,f7 _ (by exists e3)]
  .have Y:a=l\/a∈c.kid j:=by simpa[d] using e3
   show .inl #[d,w,l,B j _ w g d,by rw[<-q j d];show h,Y]
 show#[#[f.same,f.O8,f.par,f.io,by simp[f.len],λj k w e=>?_,λp m k1 k2 J L l N O g h e3 e4=>?_,#[λj w l g h=>?_,λp m a z1 z2=>?_,λj a z1 z2=>?_]],#[n.keep,n.there,λa z=>?_,n.sub,n.new]]
 .by_cases d:j=i
  .subst d;rw[fx D]at e;cases e;show#[.ref r,fx hi,r,rfl]
  .have(v,g,h):=f.sl j k w (B j k w e d);show#[v,(q j d).trans g,h]
 .have(Rk,a1):=G p k1 J N g;have(Rm,a2):=G m k2 L O h;show f.inj p m k1 k2 J L l N O a1 a2 ((q p Rk).symm.trans e3) ((q m Rm).symm.trans e4)
 .by_cases d:j=i
  .subst d;rw[fx D]at g;cases g;have t:(c.σ.set j (bD (.ref r)))[j]?≈bD (.ref l):=h;rw[fx hi]at t;cases t;change ba C c.S c.H r (if j=j then as else c.kid j) u;rw[ŵ rfl];show Q
  .have z:=f.dd.kd j w l (B j _ w g d) ((q j d).symm.trans h);change ba C c.S c.H l (if j=i then as else c.kid j) w;rw[Ŷ d];show z
 .rcases s p a z1 with⟨_,o⟩|⟨rfl,o⟩
  .rcases s m a z2 with⟨_,x⟩|⟨rfl,x⟩
   .show f.dd.dj p m a o x
   .show((A a x).1 (.inr #[p,o])).elim
  .rcases s m a z2 with⟨_,x⟩|⟨rfl,_⟩
   .show((A a o).1 (.inr #[m,x])).elim
   .rfl
 .rcases s j a z1 with⟨_,o⟩|⟨rfl,o⟩
  .show f.dd.d1 j a o (b1 a z2)
  .show(A a o).1 (.inl (b1 a z2))
 .rcases z with z|⟨j,z⟩
  .show n.roots a (.inl (b1 a z))
  .rcases s j a z with⟨_,y⟩|⟨_,y⟩
   .show n.roots a (.inr #[j,y])
   .show .inr (A a y).2
def IW(K:P6 X.K cK cl)(y:C.K=X.K)(A:X.N[i]?≈x)(B:OB X.env.scope x)(G:(x==("__debug__":Str))=cK)(I:(x==("__classdict__":Str))=cK)(J:PE X e (NK C m))(hs:QA e (bD (.Attribute (.Name x L) "rows" O)) pos.line X.env=pure cK):
  L2.PS X (.Assign [.Attribute (.Name x L) "rows" O] e pos) (Oo C ns (m >>= λr=>lift r >>= λu=>Sz i (λ_ us=>bD (u,us)) >>= λ_=>pure .nx)):=by
 show PS.weak (qh (a9 A B G I) J hs) ?_;rintro D σ H ⟨c0,rfl,rfl,j,h⟩;show aU j h λr c v t w=>?_;rw[ag]at w;have(S',st',u,sS,k,Q,d,l,_,_):=f_ j t.ok t.nx t.rx.w w;rw[ag]at l;have(u0,us,w',ws,hs,T,Y,i2,q):=tq l;cases T;rw[ao]at q;have(f,SH,n,v0,a,vs,p,hk,o):=k.BH hs;cases(K.hc).one (y▸o.hc);have OI:c0.σ[i]?≈bD (.ref f):=by rw[<-t.hσ];show p
 show#[_,OI,f,cl,n,_,rfl,o.ins,K.cls,(K.na _ ⋯),by change 2<1000;lia,?_];have(g,h1,s,h3,h4,NT,n'):=k.BK  Q.toNs hs p hk o (H':=upd c.H f (.ins cl n (fw "rows" v (Ti v0 a))))   (λb z1 z2=>ai z1) (by rw[aj];rfl) (by rw[ai (mh o.ne)];show o.lst) Y o.V3 d o.PF;have z:=q g h4 NT n' (Kept.of (s.trans t.hσ));rw[show Fin C D .nx g=D.nx _ g.H from rfl,h1,s]at z;rw[<-t.hσ];show z
def IX(K:P6 X.K cK cl)(g:C.K=X.K)(j:X.N[i]?≈x)(k:OB X.env.scope x)(l:(x==("__debug__":Str))=cK)(m:(x==("__classdict__":Str))=cK)(s:(c.endLine==t.line)=b6):
  L2.PS X (.Expr (.Call (.Attribute (.Attribute (.Name x L) "earlier" O) "append" c) [.Attribute (.Name x p2) "rows" Q] [] t) pos) (Oo C ns (Sz i Ek >>= λ_=>pure .nx)):=by
 show PS.weak (iF (pb F.plainAttrs_list F.slot_list_append F.type_list_append iG (vN j k l m) (bB (qg  (a9 j k l m) rfl) cC) rfl rfl s rfl rfl)) ?_;rintro D σ H ⟨c0,rfl,rfl,n,h⟩;rw[ag]at h;have(u,us,w,ws,hs,d,T,y,q):=tq h;unfold Ek at d;split at d
 rotate_left
 .cases d
 cases d;rw[ao]at q;have(r,Y,A,v,a,vs,e,hk,o):=n.BH hs;have hl:=o.PF.len;unfold Am VF;show o.ZN K g e #[.inl #[rfl,vs,N_.of o.lst],?_];cases(K.hc).one (g▸o.hc);show#[_,e,r,cl,A,_,v,rfl,o.ins,K.cls,(K.na _ ⋯),rfl,a,vs,v,rfl,rfl,o.lst,⋯,?_];have(f,B,p,h3,G,I,J):=n.BK  (Ns.refl c0) hs e hk o  (λb z1 z2=>ai z2) (by rw[ai o.ne];show o.ins) aj o.im y o.rep (o.PF.snoc o.rep);have z:=q f G I J (Kept.of p);rw[show Fin C D .nx f=D.nx _ f.H from rfl,B,p]at z;show z
abbrev spN(cl:hH):Sp:=λvs H Q _=>∃x a,vs=[.ref x]/\H x≈.ins cl a []/\∀t l,H t=cc->H l=cc->t≠l->Q .Nz (upd (upd (upd H t (.tup [])) l (.lst [])) x (.ins cl a (Ti (.ref t) l)))
abbrev nmA:jw->Bool
 |.Name a _=>df (a="self")
 |_=>cK
abbrev atA(n:Str):jw->Bool
 |.Attribute o b _=>nmA o&&df (b=n)
 |_=>cK
abbrev Us(n:Str)(k:jw->Bool):va->Bool
 |.Assign ts e _=>(df (⇑ts=1)&&ts.all (atA n))&&k e
 |_=>cK
abbrev IY:jw->Bool
 |.Tuple es _ _=>es.isEmpty
 |_=>cK
abbrev IZ:jw->Bool
 |.List es _=>es.isEmpty
 |_=>cK
abbrev ZP:↑va->Bool
 |[a,b]=>Us "rows" IY a&&Us "earlier" IZ b
 |_=>cK
def BM(h:ZP b=b6):∃s1 a,b=[s1,a]/\Us "rows" IY s1=b6/\Us "earlier" IZ a=b6:=by
 cases b with
 |nil=>cases h
 |cons s1 b =>
  cases b with
  |nil=>cases h
  |cons a b =>
   cases b with
   |nil=>show#[s1,a,rfl,oa.mp (h)]
   |cons _ _=>cases h
def BN(h:atA n t=b6):∃c p2,t=.Attribute (.Name "self" c) n p2:=by
 cases t with
 |Attribute o b p2 =>
  have(d,e):=oa.mp (h);cases Ÿ e;cases o with
  |Name a c=>cases Ÿ (d);show#[c,p2,rfl]
  |_=>cases d
 |_=>cases h
def nI(h:Us n k s=b6):∃a p2 b e,s=.Assign [.Attribute (.Name "self" a) n p2] e b/\k e=b6:=by
 cases s with
 |Assign ts e b =>
  have h:((decide _&&ts.all _)&&k e)=b6:=h;erw[cb,Ŵ]at h;have((c,d),f):=h;have(t,rfl):=Wh.mp c;have(a,p2,rfl):=BN (lx.mp d t ⋯);show#[a,p2,b,e,rfl,f]
 |_=>cases h
def ze(h:IY e=b6):∃p q,e=.Tuple [] p q:=by
 cases e with
 |Tuple es p q=>cases my.mp (h);show#[p,q,rfl]
 |_=>cases h
def zf(h:IZ e=b6):∃p,e=.List [] p:=by
 cases e<;>first|(cases my.mp h;show#[_,rfl])|cases h
def E2{K}{st}(F:Q0 K "__init__" o st f u)(S:dc ["self"] ["self"] (aD st))(v:ZP (bP st)=b6)(p:OB (aD st) "self")(E:P6 K cK cl):
  dF P w K mg base S5 (k+1) f u ["self"] (spN cl):=by
 show F.ok S (λvs H Q E h=>by have(x,a,rfl,_):=h;rfl) λD A outer s H vs Q G I h=>?_;have(s1,J,B,C,d):=BM v;have(_,_,_,L,rfl,k1):=nI C;have(_,_,_,N,rfl,k2):=nI d;have(_,_,rfl):=ze k1;have(_,rfl):=zf k2;rw[B];have(x,a,rfl,b,q):=h;show#[_,dy (qh (a9 (i:=0) rfl p) (uR cC) rfl) (dy (qh (a9 (i:=0) rfl p) (uS cC) rfl) iE),?_];show#[kj _,λt g=>#[_,rfl,x,cl,a,[],rfl,?_,E.cls,(E.na _ ⋯),by decide,?_]]
 .rw[ai (λz=>by rw[z,g]at b;cases b)];show b
 .have j:x≠t:=λz=>by rw[z,g]at b;cases b
  show#[kj _,λl hl=>#[_,rfl,x,cl,a,fw "rows" (.ref t) [],rfl,?_,E.cls,(E.na _ ⋯),by change 1<1000;decide,?_]]
  .have m:x≠l:=λz=>by rw[<-z,aj]at hl;cases hl
   rw[ai m,aj]
  .have m:x≠l:=λz=>by rw[<-z,aj]at hl;cases hl
   have r:t≠l:=λz=>by rw[<-z,ai (mh j),aj]at hl;cases hl
   have z:=q t l g (by rw[ai (mh m),ai (mh r)]at hl;show hl) r;have e:upd (upd (upd (upd H t (.tup [])) x (.ins cl a (fw "rows" (.ref t) []))) l (.lst [])) x (.ins cl a (fw "earlier" (.ref l) (fw "rows" (.ref t) [])))=upd (upd (upd H t (.tup [])) l (.lst [])) x (.ins cl a (Ti (.ref t) l)):=by
    funext y
    by_cases c:y=x
    .subst c;rw[aj,aj];rfl
    .rw[ai c,ai c];by_cases n:y=l
     .subst n;rw[aj,aj]
     .rw[ai n,ai n,ai c]
   change Q .Nz _;simp_all
abbrev I0:jw->Bool
 |.Call f as ks _=>(match f with|.Name a _=>df (a="Shelf")|_=>cK)&&(as.isEmpty&&ks.isEmpty)
 |_=>cK
def zg(h:I0 e=b6):∃p q,e=.Call (.Name "Shelf" p) [] [] q:=by
 cases e with
 |Call f as ks q =>
  cases f with
  |Name a p =>
   have h:(decide _&&(as.isEmpty&&ks.isEmpty))=b6:=h;simp_all
  |_=>cases h
 |_=>cases h
abbrev I_:↑va->Bool
 |[a]=>Us "shelf" I0 a
 |_=>cK
def zh(h:I_ b=b6):∃s,b=[s]/\Us "shelf" I0 s=b6:=by
 cases b with
 |nil=>cases h
 |cons s b =>
  cases b with
  |nil=>show#[s,rfl,h]
  |cons _ _=>cases h
structure NwD(cl cd x dd:hH)(H H':Hp)(r t l dx:hH):Prop where
 old:∀y o,y≠x->H y≈o->H' y≈o
 hr:H r=cc
 hl:H l=cc
 ne:r≠l
 dk:H' x≈.ins cd dd [("shelf",.ref r)]
 sh:H' r≈.ins cl dx (Ti (.ref t) l)
 ls:H' l≈.lst []
 tu:H' t≈.tup []
abbrev ZR(cl a:hH):Sp:=λvs H Q _=>∃x dd,vs=[.ref x]/\H x≈.ins a dd []/\∀H' r t l b,NwD cl a x dd H H' r t l b->Q .Nz H'
def BO{K}{st}(F:Q0 K "__init__" p st f B)(S:dc ["self"] ["self"] (aD st))(C:I_ (bP st)=b6)(D:OB (aD st) "self")(I:∀X,X.env.scope=aD st->Gl X "Shelf")(E:P6 K b6 u)
  (M:Mk K cl J) (G:dF P w K mg base S5 1 J j ["self"] (spN cl)) (k:Binds K j ["self"] []) (L:mg "Shelf"≈.ref cl):dF P w K mg base S5 3 f B ["self"] (ZR cl u):=by
 show F.ok S (λvs H Q E h=>by have(x,a,rfl,_):=h;rfl) λOO A outer s H vs Q E' N h=>?_;have(s1,O,T):=zh C;have(_,_,_,e1,rfl,k1):=nI T;have(_,_,rfl):=zg k1;rw[O];have(x,dd,rfl,d,q):=h;show#[_,dy (qh (a9 (i:=0) rfl D) (se M G N (I _ rfl) L k .nil Gj) rfl) iE,?_];intro r a g Y N8;show#[r,a,rfl,aj,λt l b hl SJ=>#[rfl,?_]];have v:t≠r:=λz=>by rw[z,aj]at b;cases b
 have m:l≠r:=λz=>by rw[z,aj]at hl;cases hl
 rw[ai v]at b;rw[ai m]at hl;have ZS:t≠a:=λz=>by rw[z,aj]at b;cases b
 have n:l≠a:=λz=>by rw[z,aj]at hl;cases hl
 rw[ai ZS]at b;rw[ai n]at hl;have c:∀y o,H y≈o->upd (upd (upd (upd (upd H a (.own r)) r (.ins cl a [])) t (.tup [])) l (.lst [])) r (.ins cl a (Ti (.ref t) l)) y≈o:=λy o e=>by
  rw[ai (av e g),ai (av e hl),ai (av e b),ai (av e g),ai (av e Y)];show e
 show#[_,rfl,x,u,dd,[],rfl,c x _ d,E.cls,E.na _ ⋯,by decide,?_];show q _ r t l a #[λy o z e=>by rw[ai z];show c y o e,g,hl,mh m,aj,by rw[ai (mh (av d g)),aj],by rw[ai (mh (av d hl)),ai m,aj],by rw[ai (mh (av d b)),ai v,ai SJ,aj]]
structure Ja(C:Ct)(H:Hp)(r:hH)(as:↑hH)(o:U)(us:↑U)(vs:↑V):Prop where
 par:∀x,C.O7 x->PV H x/\¬C.IO x
 iod:∀x,C.IO x↔x∈r::as
 ob:ba C (λ_=>False) H r as o
 any:aq C C.O7 H us vs
structure tw(C:Ct)(H H':Hp)(S':hH->Prop)(r:hH)(o:U)(k:Kd)(u:U)(v:V):Prop where
 same:∀x y,H x≈y->¬C.IO x->H' x≈y
 there:∀x y,H x≈y->∃y',H' x≈y'
 new:∀x,S' x->H x=cc/\∃y,H' x≈y
 ob:∃as',(∀a∈as',C.IO a\/H a=cc)/\ba C S' H' r as' o
 loc:k=.loc->Rep C S' H' u v
abbrev Tu(P:rS)(w:wk)(K:W.Frag)(F:↑U->Option (Ex (Kd×U)))(f:Nat):Sp:=λvs H Q E=>⇑vs=f/\∃r b us d u0 us0 k u o as a IO,vs=.ref r::b/\F (.ob d u0 us0::us)≈.ok (k,.tup [u,o])/\Ja (RY P w K H a IO) H r as (.ob d u0 us0) us b /\
 (k=.loc/\(∀v H' S',tw (RY P w K H a IO) H H' S' r o k u v->Q v H') \/
  k=.io/\∃c,u=.str c/\∀e H' S',W.nsIn K i5 c≈bD (.ref e)->tw (RY P w K H a IO) H H' S' r o .io .Nz .Nz->E (.ref e) cc H')
def ba.rne{S}(h:ba C S H r as (.ob d u us)):r∉as:=by
 cases d with
 |false=>have(_,_,_,_,_,rfl,o):=h;exists o.ne
 |true=>have(_,_,_,_,_,_,_,_,rfl,k,o):=h;simpa using⟨k.ne,k.na⟩
def ba.Xq{S S'}(q:C.Eqv b)(c:∀x∈r::as,¬S' x/\¬b.O7 x/\(b.H₀ x=cc\/b.IO x))(h:ba C S H r as (.ob d u us)):ba b S' H r as (.ob d u us):=by
 have ob:∀{r a cl e v vs},(∀x∈[r,a],¬S' x/\¬b.O7 x/\(b.H₀ x=cc\/b.IO x))->QN C S H r a u us cl e v vs->QN b S' H r a u us cl e v vs:=λc o=>#[by rw[<-q.K];show o.hc,o.ins,o.ne,c,o.im,(o.rep.NY o.im).cg q,o.lst,o.V3,(o.PF.NY o.V3).cg q]
 cases d with
 |false=>have(_,_,_,_,_,rfl,o):=h;show#[_,_,_,_,_,rfl,ob c o]
 |true =>
  have(_,_,_,_,_,_,_,_,rfl,k,o):=h;show#[_,_,_,_,_,_,_,_,rfl,#[by rw[<-q.K];show k.hc,k.ins,k.ne,k.na,c _ il],ob (λx f=>c x (f7 _ f)) o]
def ba.ins{S}(h:ba C S H r as (.ob d u us)):∃cl c b,Ro C.K d cl/\H r≈.ins cl c b/\∀y,y∉(["rows","earlier","shelf"]:↑Str)->b.lookup y=cc:=by
 cases d with
 |false=>have(_,_,_,_,_,rfl,o):=h;show#[_,_,_,o.hc,o.ins,λy a=>by simp at a;simp[Ti,Pq,ź.mpr a.1,ź.mpr a.2.1]]
 |true=>have(_,_,_,_,_,_,_,_,rfl,k,o):=h;show#[_,_,_,k.hc,k.ins,λy a=>by simp at a;simp[Pq,ź.mpr a.2.2]]
structure Vw(C:Ct)(c:Cf)(i:Nat)(d d':Bool)(r r':hH)(as as':↑hH):Prop where
 at_:c.σ[i]?≈bD (.ref r)
 kid:c.kid i=as
 sub:∀x∈r'::as',x∈r::as
 rb:∀(S':hH->Prop) (H':Hp) (Ut:↑hH) (u:U) (us:↑U),(∀x∈r::as,x∉r'::as'->H' x=c.H x/\¬S' x)->(∀x∈Ut,x∈r'::as'\/c.H x=cc)->ba C S' H' r' Ut (.ob d' u us)->∃We,ba C S' H' r We (.ob d u us)/\∀x∈We,x∈as\/c.H x=cc
section
variable{X:Cx}{C:Ct}{c0 c:Cf}{i:Nat}{w d d':Bool}{u u':U}{us Oz:List U}{r r':hH}{as as':List hH}
def Ok.vw(m:Ok C c)(hs:c.st[i]?≈bD (.A',.ob d u us))(g:Xb w d≈d'):∃r r' as as',Vw C c i d d' r r' as as'/\ba C c.S c.H r' as' (.ob d' u us)/\(w=cK->r'=r)/\(w=b6->d=b6/\∃f dd,Ro C.K b6 f/\c.H r≈.ins f dd [("shelf",.ref r')]):=by
 have(B,j,r,rfl):=m.sl i _ _ hs;have n:=m.dd.kd i _ r hs j;cases w with
 |false =>
  cases g;show#[r,r,_,_,#[j,rfl,λx h=>h,λS' H' p u us _ b h=>#[p,h,λx z=>(b x z).imp (λy=>(eT.mp y).resolve_left λe=>by rw[e]at z;show h.rne z) id]],n,λ_=>rfl,λz=>by cases z]
 |true =>
  cases d with
  |false=>cases g
  |true =>
   cases g;have(f,dd,s,cl,l,v,a,vs,ea,k,o):=n;show#[r,s,_,[a],#[j,ea,λx h=>f7 _ h,λS' H' p u us A b h=>?_],#[cl,l,v,a,vs,rfl,o],(λz=>by cases z),λ_=>#[rfl,f,dd,k.hc,k.ins]];have(cl,l,v,q,vs,rfl,o2):=h;have t:=A r il (by simpa using⟨k.ne,k.na⟩);have b:=b q il;show#[_,#[f,dd,s,cl,l,v,q,vs,rfl,#[k.hc,t.1.trans k.ins,k.ne,λz=>?_,t.2,k.fr.2],o2],λx hx=>?_]
   .subst z;rcases b with z|z
    .simp[k.ne,k.na]at z
    .rw[k.ins]at z;cases z
   .rcases eT.mp hx with rfl|hx
    .show .inl il
    .rw[kr.mp hx];show b
def Ok.Gz(g:Ok C c)(n:Ns c0 c)(q:f.Eqv C)(hs:c.st[i]?≈bD (.A',.ob d u us))(vw:Vw C c i d d' r r' as as')(p:∀x,f.IO x↔x∈r'::as')
 {w} (b:tw f c.H H' S' r' (.ob d' u' Oz) k w v) :
    ∃h,h.H=H'/\h.σ=c.σ/\(∀x,h.S x↔c.S x\/S' x)/\h.st=c.st.set i (bD (.A',.ob d u' Oz))/\Ok C h/\Ns c0 h:=by
  classical
  let l:Hp:=λx=>if f.IO x then c.H x else H' x
  have s:∀x,¬f.IO x->l x=H' x:=λx z=>Ŷ z;have m:∀x,f.IO x->l x=c.H x:=λx z=>ŵ z;have t:∀x∈r::as,c.RD i x:=λx z=>#[_,r,hs,vw.at_,by rw[vw.kid];simp_all]
  have Q:=λx z=>t x (vw.sub x ((p x).mp z));have I:∀x∈r::as,¬S' x:=λx z a=>by
    have(_,_,_,y,e,_):=g.root (.inr #[i,t x z]);rw[(b.new x a).1]at e;cases e
  have T:fW c.H l:=λx y e=>by
    by_cases z:f.IO x
    . rw[m x z];show e
    . rw[s x z];show b.same x y e z
  have(Y,n1):=g.grow (H':=l) (S':=λx=>c.S x\/S' x) T (λx z=>z.imp id λz=>#[(b.new x z).1,by rw[s x λa=>I x (vw.sub x ((p x).mp a)) z];show(b.new x z).2]) λx=>.inl;have(Ut,A,J):=b.ob;have hf:=J.fr;have L:∀x∈r::as,¬(c.S x\/S' x)/\¬C.O7 x/\(C.H₀ x=cc\/C.IO x):=λx z=>by
    have(z1,z2,B,_):=g.root (.inr #[i,t x z]);show#[λa=>a.elim z1 (I x z),z2,B]
  have N:=λx z=>(A x z).imp (p x).mp id;have D:=J.Xq q λx o=>by
    have y:=(eT.mp o).elim (λz=>.inl (z▸il)) (N x);rcases y with y|y
    . show L x (vw.sub x y)
    . have(z1,z2,B,_,_):=g.jP y
      show#[λz=>z.elim z2 (hf x o).1,B,.inl z1]
  have(O,G,h3):=vw.rb _ H' Ut u' Oz (λx o z=>by
    have(_,_,_,y,e,_):=g.root (.inr #[i,t x o]);show#[(b.same x y e λa=>z ((p x).mp a)).trans e.symm,(L x o).1]) N D
  have(N5,n2):=Ok.EU  (H':=H') (u':=.ob d u' Oz) (as':=O) Y (n.trans n1.toNs) hs vw.at_
    (λx z=>(s x λa=>z (Q x a)).symm) (λx y e=>by
      by_cases z:f.IO x
      . rw[show({c with H:=l,S:=λx=>c.S x\/S' x}:Cf).H x=l x from rfl,m x z]at e
        show b.there x y e
      . show#[y,by rw[<-s x z];show e])
    (λ_=>G) (λy hy=>(h3 y hy).imp (λz=>by change y∈c.kid i;rw[vw.kid];show z) λz=>#[(g.jP z).2.2.2.2,n.none z])
  show#[{c with H:=H',S:=λx=>c.S x\/S' x,st:=c.st.set i (bD (.A',.ob d u' Oz)),kid:=λj=>if j=i then O else c.kid j},rfl,rfl,λx=>Ċ,rfl,N5,n2]
theorem aq.BP{S}:∀{us}{vs},⇑us=⇑vs->(∀(j:Nat) u,us[j]?≈u->∃v,vs[j]?≈v/\Rep C S H u v)->aq C S H us vs
 |[],[],_,_=>rfl
 |[],_::_,h,_=>nomatch h
 |_::_,[],h,_=>nomatch h
 |u::us,v::vs,h,f=>by
  have(a,e,r):=f 0 u rfl;cases e;show#[v,vs,rfl,r,aq.BP (by exists h) λj u e=>f (j+1) u e]
def OQ.M9(t:OQ C c0 c rs vs)(o:C.P=X.prog)(p:C.w=X.w)(s:C.K=X.K)(hs:c.st[i]?≈bD (.A',.ob d u us))(vw:Vw C c i d d' r r' as as')(A:ba C c.S c.H r' as' (.ob d' u us)):
  Ja (RY X.prog X.w X.K c.H (λx=>PV c.H x/\x∉r'::as') λx=>x∈r'::as') c.H r' as' (.ob d' u us) (rs.map (·.2)) vs:=by
 have b:C.Eqv (RY X.prog X.w X.K c.H (λx=>PV c.H x/\x∉r'::as') λx=>x∈r'::as'):=#[o,p,s]
 have g:∀x∈r'::as',c.RD i x:=λx z=>#[_,r,hs,vw.at_,by rw[vw.kid];show eT.mp (vw.sub x z)]
 have h:∀x,c.S x->PV c.H x/\x∉r'::as':=λx z=>#[t.ok.A8 x z,λj=>(t.ok.root (.inr #[i,g x j])).1 z]
 show#[λx z=>z,λx=>Ċ,A.Xq b λx l=>#[λz=>z,λz=>z.2 l,.inr l],aq.BP (by rw[ei];show t.len) λm w e=>?_];rw[sd,g7]at e;have((k',B),e,rfl):=e;have(v,b1,a):=t.nth e;show#[v,b1,Rep.cg b (u:=B) ?_];cases k' with
 |own =>
  have(q,rfl,_,D,n,f):=a;have(y,k,_):=f.some;show f.rep h #[#[y,k],λz=>n (.inr #[i,g q z])]
 |loc=>show Rep.mv (.up h) a
 |any=>show Rep.mv (.up λy z=>z.elim (λz=>#[t.ok.KR y (.inl z),λj=>(t.ok.root (.inr #[i,g y j])).2.1 z]) (h y)) a
 |bor G =>
  have(q,rfl,D,n,_,f):=t.ok.rootOf a.1 a.2;have(y,k,_):=f.some;have(k3,z1,z2):=a.1;show f.rep h #[#[y,k],λz=>t.ok.dd.d1 i q (g q z) #[G,k3,_,z1,z2,a.2]]
 |_=>show a.elim
def zi(h:sU k x≈p):k=.loc/\p=.inl (.loc,x)\/k=.io/\∃c,x=.str c/\p=.inr c:=by
 unfold sU at h;split at h
 .cases h;show .inl #[rfl,rfl]
 .cases h;show .inr #[rfl,_,rfl,rfl]
 .cases h
def zj(h:Be d o≈p):∃k x,o≈.ok (k,.tup [x,.ob d p.2.1 p.2.2])/\sU k x≈p.1:=by
 unfold Be at h;split at h
 .split at h
  .rename_i z;subst z;rw[g7]at h;have(r,a,rfl):=h;show#[_,_,rfl,a]
  .cases h
 .cases h
def nJ{st}(h:W (dR Γ f w i rs) st Q):∃d d' u us k x u' Oz p,st[i]?≈bD (.A',.ob d u us)/\Xb w d≈d'/\Γ f (.ob d' u us::rs.map (·.2))≈.ok (k,.tup [x,.ob d' u' Oz])/\sU k x≈p/\Q p (st.set i (bD (.A',.ob d u' Oz))):=by
 have(p,st',e,q):=h;unfold dR at e;split at e
 .rename_i d u us hs;rw[ki]at e;have(d',a,e):=e;rw[g7]at e;have(z,b,e):=e;have(k,x,g,j):=zj b;cases e;show#[d,d',u,us,k,x,_,_,_,hs,a,g,j,q]
 .cases e
end
end TM
namespace TM
open PySem L2 PyProof.Rows PySem.W
inductive Tw(X:Cx)(C:Ct)(pins:↑(hH×Obj))(c0:Cf)(Nw:Str->au->Prop)(v:g8)(s':i4):Prop
 |mk (c c2:Cf) (s1:i4) (ea T Cc:hH) (H':Hp) (cl:Str):v=.ref ea->c2.σ=c0.σ->Ok C c2->Nx c0 c2->Inv X pins c0.σ c.H s1->cw X.prog X.w X.stack c.H s1 ea Cc (bD T) .none H' s'->c2.H=H'->ï X.K i5 cl≈bD (.ref Cc)->Nw cl c2.st->Tw X C pins c0 Nw v s'
inductive ZT(X:Cx)(C:Ct)(pins:↑(hH×Obj))(c0:Cf)(Nw:Kd×U->au->Prop)(u:g8)(s':i4):Prop
 |mk (r:Kd×U) (c:Cf) (v:V):RT C c0 c r v->Inv X pins c0.σ c.H s'->RelV v u->Nw r c.st->ZT X C pins c0 Nw u s'
abbrev PR(X:Cx)(C:Ct)(e:jw)(m:M (Sum (Kd×U) Str)):Prop:=∀(pins:↑(hH×Obj)) (s:i4) (c0:Cf) (a:Sum (Kd×U) Str->au->Prop),Inv X pins c0.σ c0.H s->Ok C c0->W m c0.st a ->
 ‹X› (p8 e X.env) (ZT X C pins c0 λr st=>a (.inl r) st) (Tw X C pins c0 λcl st=>a (.inr cl) st) s
def Tw.mono(h:∀cl st,P cl st->a cl st)(z:Tw X C pins c0 P v b):Tw X C pins c0 a v b:=by
 have(c,c2,s1,ea,T,d,H',cl,e,f,g,n,I,F,i,hn,q):=z;show#[c,c2,s1,ea,T,d,H',cl,e,f,g,n,I,F,i,hn,h _ _ q]
def xG(h:PR X C e a):PE X e (NK C (a >>= Vb)):=by
 rintro pins s σ H Q I ⟨c0,rfl,rfl,b,w⟩;rw[ag]at w;show lg (h pins s c0 _ I b w) (λu f z=>?_) λv g z=>?_
 .have(r,c,v,t,d,rv,q):=z;show#[v,c.H,d,rv,ao.mp q c v t.hσ rfl t.ok t.nx t.rx]
 .have(_,_,_,_,_,_,_,_,_,_,_,_,_,_,_,_,q):=z;show(bf.mp q).elim
def BQ{us}(hP:C.P=X.prog)(hw:C.w=X.w)(hK:C.K=X.K)(hF:Γ f=F)(QV:∀us r,F us≈.ok r->⇑us=n)
  (G:dF X.prog X.w X.K X.mg X.base (PD X.prog X.w) kd fa fd ps (Tu X.prog X.w X.K F n)) (hr:cX kd X.A) (hb:Binds X.K fd ps []) (t:OQ C c0 c rs vs) (B:Inv X pins c.σ c.H s) (rv:Vals vs us) (h:W (dR Γ f w i rs) c.st j)
  (hq:∀r a,c.σ[i]?≈bD (.ref r)->(w=cK->a=r)->(w=b6->∃D dd,c.H r≈.ins D dd [("shelf",.ref a)])->a=q) :
  ‹X› (Qt (.ref fa) (.ref q::us)) (ZT X C pins c0 λr st=>j (.inl r) st) (Tw X C pins c0 λcl st=>j (.inr cl) st) s:=by
 have(d,d',u1,Xo,k,o,u',Oz,p,hs,hv,u,he,q0):=nJ h;rw[hF]at u;have(r,a,as,as',vw,rd,l,I):=t.ok.vw hs hv;have e:=hq r a vw.at_ l λz=>let ⟨_,D,dd,_,z⟩:=I z;⟨D,dd,z⟩;subst e;have J:(RY X.prog X.w X.K c.H (λx=>PV c.H x/\x∉a::as') λx=>x∈a::as').Eqv C:=#[hP.symm,hw.symm,hK.symm]
 have m:=t.M9 (X:=X) hP hw hK hs vw rd;have g:⇑(V.ref a::vs)=n:=by
  have z:=QV _ _ u;rw[<-z];simp[t.len]
 rcases zi he with⟨rfl,rfl⟩|⟨rfl,c',rfl,rfl⟩
 .have L:Tu X.prog X.w X.K F n (.ref a::vs) c.H (λv H'=>∃c2:Cf,RT C c0 c2 (.loc,o) v/\c2.H=H'/\j (.inl (.loc,o)) c2.st) E0:=#[g,a,vs,_,d',u1,Xo,.loc,o,_,as',_,_,rfl,u,m,.inl #[rfl,λv H' S' b=>by
   have(c2,y,N,h3,h4,O,Q):=t.ok.Gz (c0:=c0) t.nx.toNs J hs vw (λx=>Ċ) b;show#[c2,#[N.trans t.hσ,O,#[Q],?_],y,by simp_all];change Rep C c2.S c2.H o v;rw[y];show((b.loc rfl).cg J).mv (.up λx z=>(h3 x).mpr (.inr z))]]
  show lg (xu (us:=.ref a::us) (vs:=.ref a::vs) (EE:=Tw X C pins c0 λcl st=>j (.inr cl) st) G hr hb B (.cons rfl rv) L λ_ _ ⟨_,_,_,_,_,_,z⟩=>z.elim) (λv s2 z=>?_) λ_ _ z=>z;have(v',H2,I2,r2,c2,t2,l,q):=z;subst l;rw[t.hσ]at I2;show#[_,c2,v',t2,I2,r2,q]
 .have L:Tu X.prog X.w X.K F n (.ref a::vs) c.H (λ_ _=>False) (λv _ H'=>∃Y S',v=.ref Y/\ï X.K i5 c'≈bD (.ref Y)/\tw (RY X.prog X.w X.K c.H (λx=>PV c.H x/\x∉a::as') λx=>x∈a::as') c.H H' S' a (.ob d' u' Oz) .io .Nz .Nz):=#[g,a,vs,_,d',u1,Xo,.io,_,_,as',_,_,rfl,u,m,.inr #[rfl,_,rfl,λC1 H1 S1 y N=>#[C1,S1,rfl,y,N]]]
  show lg (xu (us:=.ref a::us) (vs:=.ref a::vs) (EE:=Tw X C pins c0 λcl st=>j (.inr cl) st) G hr hb B (.cons rfl rv) L λv s' z=>?_) (λv s2 ⟨_,_,_,_,z⟩=>z.elim) λ_ _ z=>z;have(ea,C1,T,H',e3,F',Y,S',e4,e5,bk):=z;cases e4;have(c2,l,I,g3,g4,O,Q):=t.ok.Gz (c0:=c0) t.nx.toNs J hs vw (λx=>Ċ) bk;show#[c,c2,s,ea,T,_,H',c',e3,I.trans t.hσ,O,#[Q],by rw[<-t.hσ];show B,F',l,e5,by rw[g4];show q0]
def OQ.none(a:Ok C c0):OQ C c0 c0 [] []:=#[rfl,a,Nx.refl c0,rfl,ttt]
def tD{st}{Q}(h:W (Q2 d i) st Q):∃u us,st[i]?≈bD (.A',.ob d u us)/\Q () st:=by
 have(p,st',e,h):=h;unfold Q2 at e;split at e
 .rename_i u us hs;split at e
  .rename_i z;subst z;cases e;show#[_,_,hs,h]
  .cases e
 .cases e
abbrev Wg(X:Cx)(o:jw)(m:Str)(as:↑jw)(p2 a:Pos):Prop:=∃c:Sem Bool,p8 (.Call (.Attribute o m p2) as [] a) X.env=(do
   let b <-p8 o X.env
   WY p2.atName
   let (f,first) <-KX [b] (ň b m c)
   ŧ a f first (vl a (i0 as X.env)) (UB a (PU [] X.env)))
def E3(b:((vl a (i0 as X.env)).all (λx=>!x.1)&&(UB a (PU [] X.env)).all (λx=>x.1.isSome)&&df (⇑as+⇑([]:↑QK)+(if ([]:↑QK).isEmpty then 0 else 1)<30))=b6)(c:(p2.endLine==a.line)=b6)(d:LF o m X.env (p8 o X.env)=p8 o X.env):
  Wg X o m as p2 a:=by
 have e:methodCallForm _ _ _=b6:=b;have f:methodCallPos b6 o X.env p2 a=pure a:=by unfold methodCallPos;simp[c]
 show#[do return (<-importBound o X.env).getD b6,?_];rw[arm_eval_Call,d];unfold methodCall calleeOf;rw[e,f];rfl
def xH{Q}{E}(b:Wg X o m as p2 c)(hs:∀e es,as=e::es->i0 (e::es) X.env=(cK,p8 e X.env)::i0 es X.env/\(vl c (i0 es X.env)).any (·.1)=cK)
  (h:H q≈.ins cl p i) (hl:i.lookup m=cc) (j:RK X.K cl) (d:Meth X.K cl m fa) (I:Inv X pins σ H s) (ho:‹X› (p8 o X.env) (EP X.OZ pins σ λv f=>v=.ref q/\f=H) (λ_ _=>False) s)
  (h0:as=[]->∀s1,Inv X pins σ H s1->‹X› (Qt (.ref fa) [.ref q]) Q E s1)
  (k:as≠[]->∀s1,Inv X pins σ H s1->‹X› (ĵ (vl c (i0 as X.env))) (λus g=>X.K.In g.heap/\‹X› (Qt (.ref fa) (.ref q::us)) Q E g) E s1) :
  ‹X› (p8 (.Call (.Attribute o m p2) as [] c) X.env) Q E s:=by
 have(r,b):=b;show W.methodCall_KW  (lg ho (λu' s1 z=>?_) λ_ _ z=>z.elim) b;have(t,f,a,l,ex,n):=z;subst ex n;obtain rfl:u'=ku q:=l;have a:=a.dE;show uN a h j d hl ?_;cases as with
 |nil=>show W.callWith_K0  a.Ph d.kp (h0 rfl s1 a)
 |cons e es=>show W.callWith_K   I.ok.mod.SR d.kp (k (λz=>nomatch z) s1 a) (hs e es rfl).1 (hs e es rfl).2
def M_(K:P6 X.K d cl)(k:C.P=X.prog)(l:C.w=X.w)(a:C.K=X.K)(B:X.N[i]?≈x)(D:OB X.env.scope x)(H:(x==("__debug__":Str))=cK)(J:(x==("__classdict__":Str))=cK)(n:Γ f=F)(o:∀us r,F us≈.ok r->⇑us=L)(G:dF X.prog X.w X.K X.mg X.base (PD X.prog X.w) O fa Q ps (Tu X.prog X.w X.K F L))(p:cX O X.A)(T:Meth X.K cl m fa)(v:Binds X.K Q ps [])(Y:m∉(["rows","earlier","shelf"]:↑Str))
  (ha:PA X.OZ as (OV C ms)) (hn:as=[]->ms=pure []) (hs:∀e es,as=e::es->i0 (e::es) X.env=(cK,p8 e X.env)::i0 es X.env/\(vl b (i0 es X.env)).any (·.1)=cK) (ht:Wg X (.Name x px) m as p2 b) :
  PR X C (.Call (.Attribute (.Name x px) m p2) as [] b) (Q2 d i >>= λ_=>ms >>= λrs=>az rs >>= λ_=>dR Γ f cK i rs):=by
 intro pins s c0 Nw I ok h;rw[ag]at h;have(u,us,OH,h):=tD h;have(r,q,_,_,vw,rd,g1,_):=ok.vw (w:=cK) OH rfl;cases g1 rfl;have(SH,dx,fs,hc,Pw,hl):=rd.ins;cases(K.hc).one (a▸hc);show xH ht hs Pw (hl m Y) K.cls T I (a9 (X:=X.OZ) B D H J pins s _ _ _ (I.gN _) #[_,vw.at_,rfl,rfl]) (λe s1 g=>?_) λe s1 g=>?_
 .subst e;rw[hn rfl,ag,ao,ag,bV]at h;show BQ k l a n o G p v (OQ.none ok) g .nil h.2 λr' q' e j _=>by rw[vw.at_]at e;cases e;show j rfl
 .show lg (args (X:=X.OZ) ha (g.gN _) ok h b) (λus s2 ⟨rs,c,vs,t,y,rv,w⟩=>#[y.Ph,?_]) λ_ _ z=>z.elim;show BQ k l a n o G p v t y.dE rv w λr' q' e j _=>by rw[t.hσ,vw.at_]at e;cases e;show j rfl
def Na(l:C.P=X.prog)(m:C.w=X.w)(n:C.K=X.K)(o:X.N[i]?≈x)(p:OB X.env.scope x)(v:(x==("__debug__":Str))=cK)(y:(x==("__classdict__":Str))=cK)(B:Γ f=F)(D:∀us r,F us≈.ok r->⇑us=J)(G:dF X.prog X.w X.K X.mg X.base (PD X.prog X.w) L fa O ps (Tu X.prog X.w X.K F J))(Q:cX L X.A)(T:Gl X f)(Y:X.mg f≈.ref fa)(Ul:W.keepIn X.K (.ref fa)=b6)(hb:Binds X.K O ps [])(Py:(f==("__debug__":Str))=cK)
  (ha:PA X.OZ as (OV C ms)) (OL:(vl j (i0 as X.env)).any (·.1)=cK) :
  PR X C (.Call (.Name f p0) (.Name x px::as) [] j) (Q2 d i >>= λ_=>ms >>= λrs=>az rs >>= λ_=>dR Γ f cK i rs):=by
 intro pins s c0 Nw I ok h;rw[ag]at h;have(u,us,OH,h):=tD h;have(r,q,_,_,vw,rd,g1,_):=ok.vw (w:=cK) OH rfl;cases g1 rfl;show nT (eD I T Y ?_ Py);rw[ag]at h;show W.callWith_K (h₀:=X.base) I.ok.mod.SR Ul (lg (bB (X:=X.OZ) (a9 (pos:=px) o p v y) ha rfl j pins s c0.σ c0.H (λws k=>∃rs c vs,ws=.ref r::vs/\c.H=k/\OQ C c0 c rs vs/\W (dR Γ f cK i rs) c.st Nw) (I.gN _) ⟨_,vw.at_,c0,rfl,rfl,ok,h.mono λrs st1 b c1 vs e1 g NI n1 r1=>?_⟩) (λws s1 z=>?_) λ_ _ z=>z.elim) rfl OL
 .rw[ag,bV]at b;subst g;show#[rs,c1,vs,rfl,rfl,#[e1,NI,n1,r1,b.1],b.2]
 .have(_,k,a,rv,rs,c,vs,rfl,rfl,t,w):=z;have a:=a.dE;cases rv with
  |cons ra rv =>
   cases ra;show#[a.Ph,BQ l m n B D G Q hb t (by rw[t.hσ];show a) rv w λr' q' e g _=>by rw[t.hσ,vw.at_]at e;cases e;show g rfl]
inductive Vg(C:Ct)(js:↑(Nat×Nat))(σ:L2.St)(H:Hp)(Q:↑V->Hp->Prop):Prop
 |mk (c0:Cf) (rs:↑(Kd×U)):c0.σ=σ->c0.H=H->Ok C c0->Tq c0.st js≈rs->(∀vs,OQ C c0 c0 rs vs->Q vs H)->Vg C js σ H Q
def E4:PA X [] (Vg C []):=by
 rintro pos pins s σ H Q I ⟨c0,rs,rfl,rfl,a,h,q⟩;cases h;show cC pos pins s _ c0.H Q I (q [] (OQ.none a))
def BR{st}(h:Zc st (j,n)≈r):∃k us,(k=.loc\/k=.any)/\st[j]?≈bD (k,.tup us)/\us[n]?≈r.2/\r.1=k:=by
 unfold Zc at h
 dsimp only at h
 split at h
 .rename_i us hs;rw[g7]at h;have(u,h,rfl):=h;show#[_,_,.inl rfl,hs,h,rfl]
 .rename_i us hs;rw[g7]at h;have(u,h,rfl):=h;show#[_,_,.inr rfl,hs,h,rfl]
 .cases h
def E5(g:C.K=X.K)(i:PE X e (WR (KA X.K) (lQ j) (tC (.int (n:Nat)))))(l:PA X es (Vg C js))(hs:i0 (e::es) X.env=(cK,p8 e X.env)::i0 es X.env):PA X (e::es) (Vg C ((j,n)::js)):=by
 rintro pos pins s σ H Q I ⟨c0,rs,rfl,rfl,b,h,q⟩;rw[Tq,ki]at h;have(r,m,h):=h;rw[g7]at h;have(rs,o,rfl):=h;have(k,us,hk,p,c,d):=BR m;have(u,J):=r
 dsimp only at c d
 subst d;have(v,w,x):=b.sl j _ _ p;have y:aM C c0 c0 u (.tup us) v:=by rcases hk with rfl|rfl<;>show x
 have(a,vs,rfl,A,B):=y.tuple b;have(f,D,G):=B.get c;show bB i l hs pos pins s _ c0.H Q I #[_,w,a,vs,n,f,rfl,rfl,g▸A,?_,c0,rs,rfl,rfl,b,o,λws t=>q _ #[rfl,b,Nx.refl c0,#[f,ws,rfl,?_,t.rep,λz=>?_],?_]]
 .show bN D
 .rcases hk with rfl|rfl<;>show G
 .simp_all
 .rcases hk with rfl|rfl<;>show t.RU
def Lo(j:P6 X.K b6 o)(K:P6 X.K cK cl)(p:C.P=X.prog)(u:C.w=X.w)(a:C.K=X.K)(Y:X.N[i]?≈x)(hv:OB X.env.scope x)(hd:(x==("__debug__":Str))=cK)(NU:(x==("__classdict__":Str))=cK)(v:Γ f=F)(y:∀us r,F us≈.ok r->⇑us=np)(G:dF X.prog X.w X.K X.mg X.base (PD X.prog X.w) kd fa fd ps (Tu X.prog X.w X.K F np))(B:cX kd X.A)(hm:Meth X.K cl m fa)(D:Binds X.K fd ps [])(hy:m∉(["rows","earlier","shelf"]:↑Str))
  (ha:PA X.OZ as (Vg C js)) (hn:as=[]->js=[]) (hs:∀e es,as=e::es->i0 (e::es) X.env=(cK,p8 e X.env)::i0 es X.env/\(vl k (i0 es X.env)).any (·.1)=cK) (ht:Wg X (.Attribute (.Name x px) "shelf" p1) m as p2 k) :
  PR X C (.Call (.Attribute (.Attribute (.Name x px) "shelf" p1) m p2) as [] k) (Uh js >>= λrs=>dR Γ f b6 i rs):=by
 intro pins s c0 Nw I ok h;rw[ag]at h;have(rs,st',e,h):=h;unfold Uh at e;rw[g7]at e;have(Q3,l,e):=e;cases e;have(d,d',u1,Xo,_,_,_,_,_,OH,J,_,_,_):=nJ h;have(r,q,_,_,vw,rd,_,g2):=ok.vw (w:=b6) OH J;have(rfl,ab,dd,QI,L):=g2 rfl;cases J;cases(j.hc).one (a▸QI);have(SH,dx,fs,hc,Pw,hl):=rd.ins;cases(K.hc).one (a▸hc);have O:∀b c:hH,c0.σ[i]?≈bD (.ref b)->(b6=cK->c=b)->(b6=b6->∃o dd,c0.H b≈.ins o dd [("shelf",.ref c)])->c=q:=λb c e _ g=>by
  rw[vw.at_]at e;cases e;have(_,_,g):=g rfl;rw[L]at g;cases g;rfl
 show xH ht hs Pw (hl m hy) K.cls hm I (qg (X:=X.OZ) (a9 Y hv hd NU) rfl pins s _ _ _ (I.gN _) #[_,vw.at_,r,_,dd,_,_,rfl,L,j.cls,j.na _ ⋯,rfl,rfl,rfl]) (λe s1 n=>?_) λe s1 n=>?_
 .rw[hn e]at l;cases l;show BQ p u a v y G B D (OQ.none ok) n .nil h O
 .show lg (ha k pins s1 _ _ (λvs Q=>Q=c0.H/\OQ C c0 c0 rs vs) (n.gN _) ⟨c0,rs,rfl,rfl,ok,l,λvs t=>#[rfl,t]⟩) (λus s2 z=>?_) λ_ _ z=>z.elim;have(vs,Q,T,rv,rfl,t):=z;show#[T.dE.Ph,BQ p u a v y G B D t T.dE rv h O]
def Lp(j:C.P=X.prog)(l:C.w=X.w)(m:C.K=X.K)(o:Γ f=F)(hk:∀us k u,F us≈.ok (k,u)->(k=.own\/k=.loc\/k=.any)/\⇑us=p)
  (G:dF X.prog X.w X.K X.mg X.base (PD X.prog X.w) x fa y ps (spT X.prog X.w X.K F p)) (B:cX x X.A) (D:Gl X f) (J:X.mg f≈.ref fa) (L:W.keepIn X.K (.ref fa)=b6) (N:Binds X.K y ps []) (O:(f==("__debug__":Str))=cK)
  (T:PR X C a Y) (d:i0 [a] X.env=[(cK,p8 a X.env)]):PR X C (.Call (.Name f p2) [a] [] p3) (Y >>= KY Γ f):=by
 intro pins s c0 g I ok h;rw[ag]at h;show nT (eD I D J ?_ O);show W.callWith_K   I.ok.mod.SR L ?_ d rfl;rw[d];show sg (lg (T pins s c0 _ I ok h) (λu s1 z=>y8 ?_) λv s1 z=>z.mono λcl st q=>ao.mp q);have(r,c,v,t,b,rv,w):=z;have w:W (az [r] >>= λ_=>ja Γ f _ >>= λr=>pure _) c.st g:=w;rw[ag,bV,ag]at w;have(NF,w):=w;have ta:OQ C c0 c [r] [v]:=#[t.hσ,t.ok,t.nx,#[v,[],rfl,t.rx.w,rfl,λ_ i r' v' e _ _=>by simp at e],NF]
 rw[<-t.hσ]at b;show#[b.Ph,lg (xD (X:=X.OZ) (Q:=λv H=>∃r c2,RT C c0 c2 r v/\c2.H=H/\g (.inl r) c2.st) j l m o hk G B N ta (b.gN _) (.cons rv .nil) (w.mono λr st q c v e1 e2 ok n rx=>#[r,c,#[e1,ok,n,rx],rfl,e2▸ao.mp q])) (λu2 s2 z=>?_) λ_ _ z=>z.elim];have(v2,H2,I2,r2,r1,c2,t2,rfl,q2):=z;show#[r1,c2,v2,t2,I2.dE,r2,q2]
def Jb(n:PR X C a o)(hk:PE X.OZ k (tC .Nz))(p:i0 [a,k] X.env=(cK,p8 a X.env)::i0 [k] X.env)(x:i0 [k] X.env=[(cK,p8 k X.env)]):PR X C (.Tuple [a,k] Q pos) (o >>= KZ):=by
 intro pins s c0 y I j h;rw[ag]at h;show Yi ?_;rw[p,x];show sg (lg (n pins s c0 _ I j h) (λu s1 z=>?_) λv s1 z=>z.mono λcl st q=>ao.mp q);have(r,c,v,t,A,rv,w):=z;have w:W (lift r >>= λu=>pure (.inl (.loc,.tup [u,.Nz]))) c.st y:=w;rw[ag]at w;have(S',st',l,T,B,D,d,m,_,_):=f_ j t.ok t.nx t.rx.w w;rw[ao]at m;show sg (lg (hk pins s1 c0.σ c.H (λv H=>v=.Nz/\H=c.H) (A.gN _) ⟨rfl,rfl⟩) (λG f z=>y8 ?_) λ_ _ z=>z.elim);have(Y,H2,g,i,rfl,rfl):=z;have g:=g.dE;show#[by change 2<=c8;decide,?_];have J:c.H ↥f=cc:=g.Ny.fresh (hY _);have(L,N,O):=Ok.A9 (c:={c with S:=S',st:=st' }) (us:=[l,.Nz]) (vs:=[v,.Nz]) B D J ⟨v,_,rfl,d,.Nz,[],rfl,rfl,rfl⟩;show#[(.loc,.tup [l,.Nz]),{c with S:=S',st:=st',H:=upd c.H ↥f (.tup [v,.Nz])},.ref ↥f,#[t.hσ,L,N,O],g.laid (t':=f.toks) (λb u e=>dt _ e) (hY _) ⟨by change 2<=c8;decide,[u,G],.cons rv (.cons i .nil),WH _ _⟩,rfl,m]
def Jc(i:PR X C a j)(k:∀c H',C.xw (.str c) H'->∀b T H pins σ s e d,ï X.K i5 c≈bD (.ref b)->Inv X pins σ H s->cw X.prog X.w X.stack H s e b T .none H' d->X.xe (.ref e) d):L2.PS X (.Return (bD a) pos) (Oo C ns (j >>= Im)):=by
 rintro pins s σ H D I ⟨c0,rfl,rfl,f,h⟩;rw[ag]at h;show YZ (lg (i pins s c0 _ I f h) (λu g z=>?_) λv g z=>?_)
 .have(r,c,v,t,l,rv,q):=z;show#[v,_,c.H,l,rv,sZ f t q]
 .have(c,c2,s1,ea,T,m,H',cl,rfl,n,o,p,x,F,rfl,hn,q):=z;rw[show Im _=pure _ from rfl,ao]at q;show k cl c2.H (q c2 rfl o p (Kept.of n)) m _ c.H pins _ s1 ea g hn x F
def Jd(K:P6 X.K cK cl)(v:P6 X.K b6 b)(m:C.K=X.K)(B:∀j,ns j=b6->j≠i)(J:X.N.Nodup)(n:X.N[i]?≈x)(L:Loc X.env.scope x)(O:X.fn x=b6\/X.env.scope.names.lookup x≈.local)(M:Mk X.K b Q)(G:dF X.prog X.w X.K X.mg X.base S5 3 Q T ["self"] (ZR cl b))(Y:cX 4 X.A)
  (hg:Gl X "Desk") (hm:X.mg "Desk"≈.ref b) (hb:Binds X.K T ["self"] []) :
  L2.PS X (.Assign [.Name x px] (.Call (.Name "Desk" p0) [] [] Nu) pos) (Oo C ns (λst=>bD (.ok .nx,st.set i (bD (.A',.ob b6 (.tup []) []))))):=by
 rintro pins s σ H D I ⟨c0,rfl,rfl,ok,fl,st',e,h⟩;cases e;have OW:i<⇑c0.σ:=by rw[I.len];show(eH.mp n).1
 show mP J n L (se M G Y hg hm hb .nil Gj) rfl O pins s c0.σ c0.H D I ?_;intro r c f Wd N8;show#[r,c,rfl,aj,λH' q t l g a=>#[rfl,?_]];have d:∀y,upd (upd c0.H c (.own r)) r (.ins b c []) y=cc->c0.H y=cc/\r≠y:=λy e=>by
  have p:y≠r:=λz=>by rw[z,aj]at e;cases e
  rw[ai p]at e;have y2:y≠c:=λz=>by rw[z,aj]at e;cases e
  rw[ai y2]at e;show#[e,mh p]
 have(u,rq):=d q a.hr;have(hl,rl):=d l a.hl;have(NI,n1):=ok.grow (H':=H')  (λy o e=>a.old y o (av e f) (by rw[ai (av e f),ai (av e Wd)];show e)) (λy z=>.inl z) λy z=>z;have k:∀y,c0.H y=cc->¬c0.S y/\¬C.O7 y/\(C.H₀ y=cc\/C.IO y):=λy e=>let z:=ok.jP e;⟨z.2.1,z.2.2.1,.inl z.1⟩;have rd:ba C c0.S H' r [q,l] (.ob b6 (.tup []) []):=#[b,c,q,cl,g,.ref t,l,[],rfl,#[m▸v.hc,a.dk,rq,rl,k r f],m▸K.hc,a.sh,a.ne,λy hy=>by
  rcases eT.mp hy with rfl|hy
  .show k _ u
  .rw[kr.mp hy];show k _ hl,rfl,#[t,[],rfl,Oi.of a.tu,rfl],a.ls,rfl,rfl]
 have(N5,n2):=Ok.M8  (i:=i) NI n1.toNs OW rd (λy hy=>by
  have e:c0.H y=cc:=by
   erw[eT,ą,or_false]at hy;rcases hy with rfl|rfl|rfl
   .lia
   .show u
   lia
  show#[(ok.jP e).2.2.2.2,e])
 show h _ rfl N5 n2 #[λj hj=>hQ (mh (B j hj)),by simp]
end TM
namespace TM
open PySem L2 PyProof.Rows
structure E6(C:Ct)(S:hH->Prop)(H:Hp)(us:↑U)(l:U)(r:hH)(vs:↑V):Prop where
 same:∀a o,C.H₀ a≈o->¬C.IO a->H a≈o
 O8:∀a,S a->C.H₀ a=cc/\∃o,H a≈o
 par:∀a,C.O7 a->(∃o,C.H₀ a≈o)/\¬C.IO a
 io:∀a,C.IO a->(∃o,C.H₀ a≈o)/\∃o,H a≈o
 rt:¬S r/\¬C.O7 r/\C.H₀ r=cc/\eE C S H r l
 rep:aq C S H us vs
structure GA(C:Ct)(S:hH->Prop)(H H':Hp)(S':hH->Prop)(r:hH)(w x:U)(v:V):Prop where
 keep:∀a o,H a≈o->a≠r->H' a≈o
 sub:∀a,S a->S' a
 new:∀a,S' a->S a\/(H a=cc/\∃o,H' a≈o)
 rt:eE C S' H' r w
 rep:Rep C S' H' x v
abbrev Xr(P:rS)(w:wk)(K:W.Frag)(F:↑U->Option (Ex (Kd×U))):Sp:=λvs H Q _=>⇑vs=4/\∃(C:Ct) (S:hH->Prop) (us:↑U) (l:U) (r:hH) (x y:U) (a:↑V),C.P=P/\C.w=w/\C.K=K/\vs=a++[.ref r]/\⇑us=3/\F (us++[l])≈.ok (.loc,.tup [x,y])/\E6 C S H us l r a /\
 ∀v H' S',GA C S H H' S' r y x v->Q v H'
def Ok.Nb(a:Ok C c){j:Nat}(d:c.st[j]?≈bD (.own,u))(b:aq C c.S c.H us vs):∃r,c.σ[j]?≈bD (.ref r)/\E6 C c.S c.H us u r vs:=by
 have(v,e,r,rfl,f,g,h,i):=a.sl j _ _ d;show#[r,e,a.same,a.O8,a.par,a.io,#[f,g,h,i],b]
def Ok.Lr(g:Ok C c)(n:Ns c0 c)(h:c.st[j]?≈bD (.own,u))(i:c.σ[j]?≈bD (.ref r))(b:GA C c.S c.H H' S' r w x v):
  Ok C {c with H:=H',S:=S',st:=c.st.set j (bD (.own,w))}/\Ns c0 {c with H:=H',S:=S',st:=c.st.set j (bD (.own,w))}:=by
 classical
 have(_,k,y,l,A,B,D,m):=g.sl j _ _ h;rw[i]at k;cases k;cases l;have(o,ho,_):=m.some;let d:Hp:=λa=>if a=r then c.H r else H' a
 have f:∀a,a≠r->d a=H' a:=λa z=>Ŷ z;have same:fW c.H d:=λa o e=>by
  by_cases z:a=r
  .subst z;show(ŵ rfl).trans e
  .rw[f a z];show b.keep a o e z
 have(p,q):=g.grow (H':=d) (S':=S') same (λa z=>(b.new a z).imp id λ⟨z1,z2⟩=>#[z1,by
  rw[f a λe=>by subst e;rw[ho]at z1;cases z1];show z2]) b.sub
 have(s,t,_):=b.rt.some;show Ok.mod (c:={c with H:=d,S:=S' }) (H':=H') (u':=w) p (n.trans q.toNs) rfl h i (λa z=>(f a z).symm) ⟨s,t⟩ λ_=>b.rt
def zk{st}(h:W (Ej Γ f rs) st Q):∃a b d j u0,rs=[a,b,d,(.bor j,u0)]/\W (cn [a,b,d]) st λus st1=>∃u x w,st1[j]?≈bD (.own,u)/\Γ f (us++[u])≈.ok (.loc,.tup [x,w])/\Q (.loc,x) (st1.set j (bD (.own,w))):=by
 unfold Ej at h;split at h
 .rename_i a b d j u0;show#[a,b,d,j,u0,rfl,?_];rw[ag]at h;show h.mono λus st1 c=>?_;have(r,st2,e,q):=c;unfold Ei at e;split at e
  .rename_i u g;split at e
   .rename_i x w i;cases e;show#[u,x,w,g,i,q]
   .cases e
  .cases e
 .show(bf.mp h).elim
theorem pF:∀{rs}{st}{Q},W (cn rs) st Q->W (cn rs) st λus st'=>⇑us=⇑rs/\Q us st'
 |[],st,Q,h=>by
  rw[show cn []=pure [] from rfl,ao]at h ⊢;show#[rfl,h]
 |r::rs,st,Q,h=>by
  rw[show cn _=lift r >>= λu=>cn rs >>= λus=>pure _ from rfl,ag]at h ⊢;show h.mono λu s1 a=>?_;rw[ag]at a ⊢;show(pF a).mono λus d b=>?_;have(e,c):=b;rw[ao]at c ⊢;simp_all
def E7(hP:C.P=X.prog)(hw:C.w=X.w)(hK:C.K=X.K)(hF:Γ f=F)
  (G:dF X.prog X.w X.K X.mg X.base (PD X.prog X.w) k fa fd ps (Xr X.prog X.w X.K F)) (hr:cX k X.A) (hg:Gl X f) (hm:X.mg f≈.ref fa) (Ul:W.keepIn X.K (.ref fa)=b6) (hb:Binds X.K fd ps [])
  (Py:(f==("__debug__":Str))=cK) (ha:PA X (e::es) (OV C ms)) (he:i0 (e::es) X.env=(cK,p8 e X.env)::i0 es X.env) (OL:(vl pos (i0 es X.env)).any (·.1)=cK) :
  PE X (.Call (.Name f p) (e::es) [] pos) (NK C (ms >>= λrs=>az rs >>= λ_=>Ej Γ f rs)):=by
 rintro pins s σ H Q I ⟨c0,rfl,rfl,ok,h⟩;show nT (eD I hg hm ?_ Py);show W.callWith_K (h₀:=X.base) I.ok.mod.SR Ul (ND (args ha I ok h pos) λus s1 ⟨rs,c,vs,t,I1,rv,w⟩=>#[I1.Ph,?_]) he OL;have(a,b,d,j,u0,rfl,w2):=zk w;obtain⟨o,t1,rfl,r1,⟨B,t2,rfl,r2,⟨D,t3,rfl,r3,⟨v4,t4,rfl,r4,r5,_⟩,n3⟩,O⟩,n1⟩:=t.rep;cases r5;have l:eu C c0 c [a,b,d] [o,B,D]:=#[o,_,rfl,r1,#[B,_,rfl,r2,#[D,_,rfl,r3,rfl,λ_ i J L e=>by simp],λhk i J L g N=>O hk i J L (by
   match i with
   |0=>show g
   |n+1=>cases n<;>cases g) (by
   match i with
   |0=>show N
   |n+1=>cases n<;>cases g)],λhk i J L g N=>n1 hk i J L (by
   match i with
   |0=>show g
   |1=>show g
   |n+2=>cases n<;>cases g) (by
   match i with
   |0=>show N
   |1=>show N
   |n+2=>cases n<;>cases g)]
 have(S',st',Oz,ac,NI,T,Y,m,u,x,y,hj,hf,q):=hJ ok t.ok t.nx l (pF w2);have e4:c.σ[j]?≈bD v4:=r4;have(r,e5,ab):=Ok.Nb  NI (j:=j) hj Y;rw[e4]at e5;cases e5;have Pl:Xr X.prog X.w X.K F [o,B,D,.ref r] c.H (λv H'=>Q v H') E0:=#[rfl,C,S',Oz,u,r,x,y,[o,B,D],hP,hw,hK,rfl,m,hF▸hf,ab,λv H' S2 bk=>by
  have(N5,O):=NI.Lr (c0:=c0) T.toNs hj e4 bk;show q {c with H:=H',S:=S2,st:=st'.set j (bD (.own,y))} v t.hσ rfl N5 ⟨O⟩ bk.rep]
 have z:=Av (Q:=Q) G hr hb .nil Gq I1 rv (by assumption);rw[t.hσ]at z;show z
end TM
namespace TM
open PySem L2 PyProof.Rows PySem.W
def zm{n:Nat}(g:∀m,ns m=b6->m≠i/\m≠j/\m≠k)(l:Ok C c0)(o:Ok C c)(p:Nx c0 c)(s:c.σ=c0.σ)(hi:i<⇑c.σ)(hs:fW c.H f)(t:f b≈.tup [.str "",.int n])(v w)
  (h:W (Bi i j k n) c.st (jb C c0 ns D)):D.nx ((((c0.σ.set j v).set k w).set i (bD (.ref b))).set j cc) f:=by
 have(r,st',e,q):=h;unfold Bi at e;split at e
 rotate_left
 .cases e
 rename_i u x;split at e
 rotate_left
 .cases e
 rename_i y;have(A,h2,B):=y;have(G,I):=o.kill cc u;have(J,L):=G.kill w (j:=k) x;have(N,O):=J.grow  (S':=c.S) hs (λa z=>.inl z) λa z=>z;have nn:=((p.trans I).trans L).trans O;have(d,Q,e2,T,Y,w'):=qT (r:=(.loc,.tup [.str "",.int n]))  (i:=i) l N nn (by exists hi) #[b,_,rfl,Oi.of t,_,_,rfl,rfl,_,_,rfl,rfl,rfl]  (by
   have z:W _ c.st _:=#[r,st',e,q]
   rw[ag]at z;show z.mono λ_ st z=>ao.mp z)
 have es:(((c0.σ.set j v).set k w).set i (bD (V.ref b))).set j cc=((c0.σ.set j cc).set k w).set i (bD (.ref b)):=by
  rw[ĭ _ _ A,ĭ _ _ (mh B),Ń]
 have z:D.nx d.σ d.H:=w' d rfl T Y #[λm hm=>by
  have(m1,m2,m3):=g m hm;rw[Q];rw[hQ (mh m1),hQ (mh m3),hQ (mh m2),s],by simp_all]
 simp_all
abbrev SuD(X:Cx)(c:↑va)(i j k:Nat)(p:Str×Nat):Prop:=∀(ea:hH) (oe:Obj) (ws:Array g8),oe.data=.fields ws->ws[2]?≈.none->∃t,OT (X.NP ea) c t/\∀D σ H u a,⇑σ=⇑X.N->σ[j]?≈bD (.ref ea)->H ea≈.Pf oe u->oe.cls=.ref a->ï X.K i5 p.1≈bD (.ref a) ->
 (∀H' w b,fW H H'->H' b≈.tup [.str "",.int (p.2:Nat)]->D.nx ((σ.set k (bD w)).set i (bD (.ref b))) H')->t D σ H
def Ls(OG:∀m,ns m=b6->m≠i/\m≠j/\m≠k)(hN:X.N.Nodup)(hj:X.N[j]?≈n)(hn:X.env.scope.names.lookup n≈.local)(hi:X.N[i]?≈y)(hy:Loc X.env.scope y)(ab:X.fn y=b6)
  (hr:PR X C a mr) (RO:QA a (bD (.Name y p1)) p4.line X.env=pure cK) (B:X.stack=X.env::X.outer/\X.env.frame≈X.env.locals) (hx:X.ex=[]) (ac:Gl X x) (Wd:(x==("__debug__":Str))=cK)
  (UU:∀p∈Qr,∃Y Dc,X.mg x≈.ref Dc/\ï X.K i5 p.1≈bD (.ref Y)/\exmOne X.K (.ref Y) (.ref Dc)≈b6/\SuD X (st1::NM) i j k p) :
  L2.PS X (.Try [.Assign [.Name y p1] a p4] [.ExceptHandler (bD (.Name x p5)) (bD n) (st1::NM) a1] [] [] pos) (Oo C ns (mr >>= En i j k Qr)):=by
 rintro pins s σ H D' I ⟨c0,rfl,rfl,ok,h⟩;have OW:i<⇑c0.σ:=by rw[I.len];show(eH.mp hi).1
 rw[ag]at h;show wpAny_Try_except (Zg (Ĵ (lg (hr pins s c0 _ I ok h) (λu s1 z=>?_) λv s1 z=>?_) RO))
 .have(r,c,v,t,I2,rv,q):=z;have q:W (eX i r >>= λ_=>pure .nx) c.st (jb C c0 ns D'):=q;show jE I2 hN hi hy rv (λs3 I3=>R5 (R5 #[_,_,I3,nG (λm hm=>(OG m hm).1) ok t (by rw[t.hσ];show OW) q])) (.inl ab)
 .have(c,c2,s0,ea,T,Y,H',cl,rfl,hσ,NZ,n0,f,J,al,am,w):=z;unfold En at w
  dsimp only at w
  split at w
  case h_2=>show(bf.mp w).elim
  rename_i nn ZW;have(D,Dc,Xs,a0,an,su):=UU _ (PySem.mem_of_lookup ZW);have eC:D=Y:=⋯
  subst eC;have QF:s0.heap.FunFrames X.base (X.env::X.outer):=by rw[<-B.1];show f.stack
  have Qi:∀b∈Oy (X.env::X.outer),c.H b=cc:=by rw[<-B.1];show f.iC
  have hA:X.A.frames≈(X.env::X.outer):=by rw[<-B.1];show f.ok.frames
  rw[B.1]at J;show J.note hA B.2 QF Qi λT2 s2 F2=>F2.land QF Qi λT3 s3 F3=>?_;have ap:∀{T:Option hH} {g:g8} {d:i4},cw X.prog X.w (X.env::X.outer) c.H s0 ea D T g H' d->Inv X pins c0.σ H' d:=λ{T g d} F=>f.Gf (ch:=[]) F.os (by rw[B.1];show F.un) F.Ny F.bare λb z=>nomatch z
  have Sn:ea≠X.env.locals/\ea∉X.fs:=by
   have(m,(o,_,_,ho,_),_):=f.loc;show#[λz=>?_,λz=>?_]
   .rw[<-z,J.new]at ho;cases ho
   .have(_,o,q,_):=QF.mem (RH.mpr (by
     have(env,h1,h2):=RH.mp z;show#[env,f7 _ h1,h2]))
    rw[J.new]at q;cases q
  have So:∀{T:Option hH} {g:g8} {d:i4} (E:g8->i4->Prop),cw X.prog X.w (X.env::X.outer) c.H s0 ea D T g H' d->∃oe ws,d.heap.get? ea≈oe/\oe.cls=.ref D/\oe.data=.fields ws/\ws[2]?≈.none/\Inv (X.So ea oe E) pins c0.σ H' d:=λ{T g d} E F=>by
   have(oe,vs,h1,h2,h3,h4,_):=F.exc;show#[oe,vs,h1,h2,h3,h4,(ap F).So h1 F.he Sn.1 Sn.2 λv z=>by rw[h3]at z;cases z]
  show wpAny_handleBy_cons (codeAny_handlers_test ?_) λz=>nomatch z
  have(a2,_,g1,g2,_,_,I3):=So (V7 (gs X.prog X.w) (X.A.mark (bD (.ref ea))) X.env λx d=>cameBackBy (gs X.prog X.w) X.A X.env X.xe x d) F3;show eD I3 ac Xs ?_ Wd;have LT:ĺ (gs X.prog X.w) s3.heap (Z_ (.ref ea)) (.ref D):=by
   show(ŭ g1).andThen ?_;rw[g2];show .now
  show(exm_one I3.Ph LT an).here (codeAny_handlers_suite_as ?_);show F3.land QF Qi λT4 s4 F4=>?_;have(L,ws,g3,g4,gd,g0,I4):=So (λ_ _=>False) F4;show jE (X:=X.So ea L λ_ _=>False) I4 hN hj (.inl hn) (v:=.ref ea) rfl (λs5 I5=>?_) (.inr hn);have g5:=(I5.pin (ea,L) il).1;have l:∀b o,s0.heap.get? b≈o->b≠ea:=λb o q z=>by rw[z,J.new]at q;cases q
  have as:Inv X pins (c0.σ.set j (bD (.ref ea))) (upd H' ea (.Pf L (.ext λ_=>True))) s5:=(I5.MZ I.ok).KQ g5 F4.he (by
    cases q:X.s₀.heap.get? ea with
    |none=>rfl
    |some o =>
     have(o',q'):=f.base.there ea o q ⋯;show absurd rfl (l ea o' q')) Sn.1 (λx c q=>by
    have(v,o,q,_):=f.cell x c q;show l c o q) (λp O=>l p.1 p.2 (f.pin p O).1)
  have(t,ht,hq):=su ea L ws gd g0;show lg (ht pins s5 _ _ {nx:=λσ H=>∃G w Q,fW (upd H' ea (.Pf L (.ext λ_=>True))) G/\G Q≈.tup [.str "",.int (nn:Nat)]/\σ=((c0.σ.set j (bD (.ref ea))).set k (bD w)).set i (bD (.ref Q))/\H=G,rt:=λ_ _=>False} as.NP ?_) (λg s6 z=>?_) λ_ _ z=>z.elim
  .show hq _ _ _ _ D (by rw[Ě];show I.len) (fx (by rw[I.len];show(eH.mp hj).1)) aj g4 am λG w Q sm O=>#[G,w,Q,sm,O,rfl,rfl]
  .cases g with
   |next =>
    have(_,_,I6,G,w',Q,sm,O,rfl,rfl):=z;show Inv.gone (X:=X.NP ea) I6 hN hj hn λs7 I7=>#[_,_,I7.M0 I.ok,zm OG ok NZ n0 hσ (by rw[hσ];show OW) (λa o e=>by rw[al]at e;show sm a o (by rw[ai (av e F4.he)];show e)) O _ _ w]
   |ret v=>have(_,_,_,_,_,z):=z;show z.elim
   |_=>have(_,_,_,z):=z;show z.elim
end TM
namespace TM
open PySem L2 PyProof.Rows
def tF{k:Str->M β}{st}{Q}(h:W (gM x >>= k) st Q):∃y,x.2=.str y/\W (k y) st Q:=by
 have(a,u):=x;cases u with
 |str y=>show#[y,rfl,h]
 |_=>show(bf.mp (ag.mp h |>.mono λ_ _ z=>z)).elim
def Lu(T:X.N[i]?≈x)(Y:OB X.env.scope x)(hd:(x==("__debug__":Str))=cK)(NU:(x==("__classdict__":Str))=cK)(hb:PE X b (NK C J))(Pa:LF b "replace" X.env (p8 b X.env)=p8 b X.env)(NR:(g.endLine==Nu.line)=b6)(N8:(c1==c2)=cK)(Qy:⇑c2<=14):
  L2.PS X (.If (.Compare (.Name x px) [.Eq] [.Constant (.str j) k1 p1] p2) [.Return (bD (.Call (.Attribute b "replace" g) [.Constant (.str c1) k2 p4,.Constant (.str c2) k3 p5] [] Nu)) p6] [] pos)
   (Oo C ns (dH i >>= λr=>gM r >>= λz=>if z=j then(J >>= λr=>gM r >>= λt=>yW t c1 c2) else pure .nx)):=by
 rintro pins s σ H D I ⟨c0,rfl,rfl,ok,h⟩;rw[ag]at h;show wpAny_If (QE (ND (mf (C:=C) T Y hd NU pins s c0.σ c0.H (λv q=>∃z c,c.H=q/\c.σ=c0.σ/\Ok C c/\Nx c0 c/\v=.str z/\W (if z=j then(J >>= λr=>gM r >>= λt=>yW t c1 c2) else pure .nx) c.st (jb C c0 ns D)) I ⟨c0,rfl,rfl,ok,h.mono λr st w c v B l m n G=>?_⟩) λv s1 ⟨x',q,I1,r1,z,c,B,l,L,O,e3,w⟩=>UH ?_) rfl)
 .have(y,o,w):=tF w;show#[y,c,rfl,B,m,n,by have(k,u):=r;dsimp only at o;subst o;show G.str m,by rw[l];show w]
 .subst B e3;show lg (wpAny_toks_of (n:=1) (show 1<=s1.toks+1 by lia) (Gi pins {s1 with toks:=s1.toks+1} c0.σ c.H (.str z) (.str j) v _ (λv H=>v=.bl (df (V.str z=V.str j))/\H=c.H) (I1.tok _) r1 ⟨_,rfl⟩ ⟨rfl,rfl,rfl⟩)) (λd s3 z=>?_) λ_ _ z=>z.2;have(ht,vz,H3,Q,r3,rfl,rfl):=z;cases r3;show q9 ?_;by_cases hz:z=j
  .rw[ŵ hz]at w;rw[ŵ (by rw[hz];simp)];rw[ag]at w;show Zg (YZ (WT Pa rfl NR rfl (lg (wpAny_toks_of ht (hb pins s3 c0.σ c.H (λv q=>∃t f,f.H=q/\f.σ=c0.σ/\Ok C f/\Nx c0 f/\v=.str t/\W (yW t c1 c2) f.st (jb C c0 ns D)) Q ⟨c,l,rfl,L,w.mono λr st w f v q1 q2 m n G=>?_⟩)) (λv2 A z=>?_) λ_ _ z=>z.2)))
   .have(y,o,w):=tF w;show#[y,f,rfl,q1,m,O.trans n,by have(k,u):=r;dsimp only at o;subst o;show G.str m,by rw[q2];show w]
   .have(ab,v4,H4,I4,r4,t,f,rfl,g1,SE,n4,rfl,w):=z;obtain⟨tk,rfl⟩:∃tk,v2=.str t tk:=r4;unfold yW at w;split at w
    rotate_left
    .show(bf.mp w).elim
    rename_i p;rw[ao]at w;show#["str","str.replace",F.plainAttrs_str,F.slot_str_replace,F.type_str_replace,Rg _ _ _,(λa z=>nomatch z),uk rfl (w6 (sg (UH (k:=k2) (pos:=p4) (sg (UH (k:=k3) (pos:=p5) (y8 ?_))))))];show SC.replaceW (show(A.toks:Nat)≠0 by lia) (show(A.toks+1:Nat)≠0 by lia) (show(A.toks:Nat)≠A.toks+1 by lia) N8 p Qy λt' k=>?_;show#[.str (YP t c1 c2),c0.σ,f.H,I4.tok _,#[_,rfl],w f rfl SE n4.toNs (Kept.of g1) _ rfl]
  .rw[Ŷ hz,ao]at w;rw[Ŷ λe=>hz (by cases Ÿ e;rfl)];have z:D.nx c.σ c.H:=w c rfl L O.toNs (Kept.of l);rw[l]at z;show R5 #[c0.σ,c.H,Q,z]
structure Ck where
 fns:↑Str
 gl:↑(Str×U)
 O1:↑Str
 xc:↑Str
 xd:↑(Str×Str)
 xi:↑(Str×Str×Bool)
 obs:↑(Str×Bool×Str)
abbrev qX:U->U->Bool
 |.int i,.int j=>df (i=j)
 |.str x,.str y=>df (x=y)
 |.bl a,.bl b=>a==b
 |.Nz,.Nz=>b6
 |_,_=>cK
def cR(h:qX u v=b6):u=v:=by
 cases u<;>cases v<;>simp[qX]at h<;>subst_vars<;>rfl
abbrev noStar:jw->Bool
 |.Starred _ _=>cK
 |_=>b6
abbrev fm:jw->Bool
 |.Slice _ _ _ _=>cK
 |_=>b6
abbrev vO:jw->Bool
 |.Set _ _ _=>cK
 |_=>b6
abbrev mj:jw->Bool
 |.Call (.Name _ _) [] [] _=>cK
 |_=>b6
abbrev dP:jw->Bool
 |.ListComp _ _ _ _=>cK
 |.SetComp _ _ _ _=>cK
 |.DictComp _ _ _ _ _=>cK
 |_=>b6
abbrev Je:jw->Bool
 |.Tuple _ _ _=>cK
 |_=>b6
abbrev OR(a:tP)(x:Str):Bool:=df (a.names.lookup x≈.globalImplicit)
abbrev hU(a:tP)(x:Str):Bool:=df (a.names.lookup x≈.local)||decide (a.names.lookup x≈.cell)||decide (a.names.lookup x≈.free)
abbrev jY(a:tP)(x:Str):Bool:=df (a.names.lookup x≈.local)||decide (a.names.lookup x≈.cell)
abbrev BS(a:tP)(x:Str):Bool:=df (a.names.lookup x≈.local)
abbrev bq(x:Str):Bool:=!(x==("__debug__":Str))&&!(x==("__classdict__":Str))
abbrev xI(N:↑Str)(a:tP)(fa:Str->Bool)(i:Nat):jw->Bool
 |.Name x _=>df (N[i]?≈x)&&jY a x&&(fa x||BS a x)
 |_=>cK
abbrev qY(N:↑Str)(a:tP)(fa:Str->Bool):↑Nat->↑jw->Bool
 |[],[]=>b6
 |i::is,e::es=>xI N a fa i e&&qY N a fa is es
 |_,_=>cK
abbrev jc:jw->↑Str
 |.Name x _=>[x]
 |.Tuple es _ _=>es.filterMap fun|.Name x _=>bD x|_=>cc
 |_=>[]
abbrev hide(a N:↑Str):↑Str:=match a.filter λx=>df (x∈N) with
 |[]=>N
 |[x]=>N.set (N.idxOf x) "."
 |x::y::_=>(N.set (N.idxOf x) ".").set (N.idxOf y) ".."
abbrev Vh(t:Bool)(N:↑Str)(a:tP)(fa:Str->Bool)(is:↑Nat):jw->Bool
 |.Name x p=>!t&&(match is with|[i]=>xI N a fa i (.Name x p)|_=>cK)
 |.Tuple es _ _=>t&&qY N a fa is es&&is.all λi=>df (i<⇑N)
 |_=>cK
abbrev isTup:jw->Bool
 |.Tuple _ _ _=>b6
 |_=>cK
abbrev nK(e:jw):Option (Str×↑jw):=match e with
 |.Call f as a _=>match f with
  |.Name x _=>if a.isEmpty=b6 then bD (x,as) else cc
  |_=>cc
 |_=>cc
def hV(h:nK e≈(x,as)):∃p q,e=.Call (.Name x p) as [] q:=by
 unfold nK at h;split at h
 .split at h
  .simp_all
  .cases h
 .cases h
abbrev hZ(a:tP)(tg:jw)(b:Ik)(e:jw):Option ↑jw:=match b with
 |.seq=>bD [e]
 |.Ol=>(nK e).bind λp=>if p.1="range"/\OR a p.1=b6/\⇑p.2=1 then bD p.2 else cc
 |.Su=>(nK e).bind λp=>if p.1="range"/\OR a p.1=b6/\⇑p.2=2 then bD p.2 else cc
 |.Tj=>(nK e).bind λp=>if p.1="enumerate"/\OR a p.1=b6/\⇑p.2=1/\isTup tg=b6 then bD p.2 else cc
 |_=>cc
abbrev simple:Bf->Bool:=λ_=>b6
abbrev zo(scope a:tP):tP:={scope with names:=scope.names.map λ(n,k)=>if (k==L'&&a.kind==.function&&a.names.lookup n==bD .cell)=b6 then(n,.cell) else(n,k)}
def bw [Decidable c]{f:c->Bool}{Q:Prop}(h:(if z:c then f z else cK)=b6)(g:c->∀z,f z=b6->Q):Q:=by
 split at h
 .rename_i z;show g z z h
 .cases h
abbrev aE(e:jw)(k:Str->Bool):Bool:=if h:e.ctorIdx=23 then T1 (motive_1:=λ_=>Bool) e h (λx _=>k x) else cK
def ar(h:aE e k=b6):∃x p,e=.Name x p/\k x=b6:=bw h λz=>T1 e z λ_ _ _ h=>#[_,_,rfl,h]
def aX{P:jw->Prop}(h:aE e k=b6)(fz:∀x p,k x=b6->P (.Name x p)):P e:=bw h λz=>T1 e z λ_ _ _ h=>fz _ _ h
abbrev bQ{α:Type}(l:↑α)(k:α->Bool):Bool:=match l with|[a]=>k a|_=>cK
def bG(h:bQ l k=b6):∃a,l=[a]/\k a=b6:=by
 unfold bQ at h;split at h
 .show#[_,rfl,h]
 grind
def fq{l}{k}{P:↑α->Prop}(h:bQ l k=b6)(fz:∀a,k a=b6->P ([a])):P l:=by
 unfold bQ at h;split at h
 .show fz _ h
 .cases h
abbrev d9(e:jw)(k:jw->↑jw->Pos->Bool):Bool:=if h:e.ctorIdx=16 then á (motive_1:=λ_=>Bool) e h (λf as a p=>a.isEmpty&&k f as p) else cK
def h_(h:d9 e k=b6):∃f as p,e=.Call f as [] p/\k f as p=b6:=bw h λz=>á e z λf as a p _ h=>by
 replace h:(a.isEmpty&&k f as p)=b6:=h
 rw[cb,my]at h;have(rfl,h):=h;show#[_,_,_,rfl,h]
def cz{P:jw->Prop}(h:d9 e k=b6)(fz:∀f as p,k f as p=b6->P (.Call f as [] p)):P e:=by
 have(f,as,p,rfl,z):=h_ h;show fz _ _ _ z
abbrev fC(e:jw)(k:jw->Str->Pos->Bool):Bool:=if h:e.ctorIdx=20 then Vr (motive_1:=λ_=>Bool) e h k else cK
def tH(h:fC e k=b6):∃o m p,e=.Attribute o m p/\k o m p=b6:=bw h λz=>Vr e z λ_ _ _ _ h=>#[_,_,_,rfl,h]
def dU{P:jw->Prop}(h:fC e k=b6)(fz:∀o m p,k o m p=b6->P (.Attribute o m p)):P e:=bw h λz=>Vr e z λ_ _ _ _ h=>fz _ _ _ h
abbrev GB(e:jw)(k:jw->ē->jw->Bool):Bool:=if h:e.ctorIdx=2 then É (motive_1:=λ_=>Bool) e h (λa op b _=>k a op b) else cK
def E8{P:jw->Prop}(h:GB e k=b6)(fz:∀a op b p,k a op b=b6->P (.BinOp a op b p)):P e:=bw h λz=>É e z λ_ _ _ _ _ h=>fz _ _ _ _ h
abbrev ll(e:jw)(k:jw->ł->jw->Bool):Bool:=if h:e.ctorIdx=15 then Uc (motive_1:=λ_=>Bool) e h (λa c bs _=>bQ c λop=>bQ bs λb=>k a op b) else cK
def jr(h:ll e k=b6):∃a op b p,e=.Compare a [op] [b] p/\k a op b=b6:=bw h λz=>Uc e z λa c bs q _ h=>by
 replace h:(bQ c λop=>bQ bs λb=>k a op b)=b6:=h
 have(op,rfl,z1):=bG h;have(b,rfl,z2):=bG z1;show#[_,_,_,_,rfl,z2]
def mq{P:jw->Prop}(h:ll e k=b6)(fz:∀a op b p,k a op b=b6->P (.Compare a [op] [b] p)):P e:=by
 have(a,op,b,p,rfl,z):=jr h;show fz _ _ _ _ z
abbrev cU(e:jw)(k:jw->Str->Pos->↑jw->Pos->Bool):Bool:=d9 e λf as b=>fC f λo m a=>k o m a as b
def ia(h:cU e k=b6):∃o m a as b,e=.Call (.Attribute o m a) as [] b/\k o m a as b=b6:=by
 have(f,as,p,rfl,h):=h_ h;have(o,m,q,rfl,h):=tH h;show#[_,_,_,_,_,rfl,h]
def cN{P:jw->Prop}(h:cU e k=b6)(fz:∀o m a as b,k o m a as b=b6->P (.Call (.Attribute o m a) as [] b)):P e:=by
 apply cz h;intro f as p h;apply dU h;intro o m q h;show fz _ _ _ _ _ h
abbrev lp(e:jw)(k:jw->jw->Bool):Bool:=if h:e.ctorIdx=21 then YK (motive_1:=λ_=>Bool) e h (λa b _=>k a b) else cK
def gh{P:jw->Prop}(h:lp e k=b6)(fz:∀a b p,k a b=b6->P (.Subscript a b p)):P e:=bw h λz=>YK e z λ_ _ _ _ h=>fz _ _ _ h
abbrev ZX:E->Bool
 |.var _=>b6
 |.cst _=>b6
 |_=>cK
abbrev eZ{α:Type}(l:↑α)(k:α->α->Bool):Bool:=match l with|[a,b]=>k a b|_=>cK
def dm(h:eZ l k=b6):∃a b,l=[a,b]/\k a b=b6:=by
 unfold eZ at h;split at h
 .show#[_,_,rfl,h]
 grind
def qZ{l}{k}{P:↑α->Prop}(h:eZ l k=b6)(fz:∀a b,k a b=b6->P ([a,b])):P l:=by
 unfold eZ at h;split at h
 .show fz _ _ h
 .cases h
abbrev nL(e:jw)(k:Const->Bool):Bool:=if h:e.ctorIdx=19 then VV (motive_1:=λ_=>Bool) e h (λc _ _=>k c) else cK
def gk(h:nL e k=b6):∃c q p,e=.Constant c q p/\k c=b6:=bw h λz=>VV e z λ_ _ _ _ h=>#[_,_,_,rfl,h]
def xJ{P:jw->Prop}(h:nL e k=b6)(fz:∀c q p,k c=b6->P (.Constant c q p)):P e:=bw h λz=>VV e z λ_ _ _ _ h=>fz _ _ _ h
abbrev Nc:Const->Option U
 |.int j=>bD (.int j)
 |.str y=>bD (.str y)
 |.bool y=>bD (.bl y)
 |.none=>bD .Nz
 |_=>cc
abbrev Nd(u:U)(c:Const):Bool:=match Nc c with|some v=>qX u v|none=>cK
abbrev BU(e:jw)(op:BoolOp)(k:↑jw->Bool):Bool:=if h:e.ctorIdx=0 then ZU (motive_1:=λ_=>Bool) e h (λo es _=>df (o=op)&&k es) else cK
def pG(h:BU e op k=b6):∃es p,e=.BoolOp op es p/\k es=b6:=bw h λz=>ZU e z λo es q _ h=>by
 replace h:(df (o=op)&&k es)=b6:=h
 rw[cb,Ŵ]at h;have(rfl,y):=h;show#[_,_,rfl,y]
def vP{P:jw->Prop}(h:BU e op k=b6)(fz:∀es p,k es=b6->P (.BoolOp op es p)):P e:=by
 have(es,p,rfl,z):=pG h;show fz _ _ z
abbrev E9(e:jw)(op:UnaryOp)(k:jw->Bool):Bool:=if h:e.ctorIdx=3 then Zv (motive_1:=λ_=>Bool) e h (λo a _=>df (o=op)&&k a) else cK
def zp(h:E9 e op k=b6):∃a p,e=.UnaryOp op a p/\k a=b6:=bw h λz=>Zv e z λo a q _ h=>by
 replace h:(df (o=op)&&k a)=b6:=h
 rw[cb,Ŵ]at h;have(rfl,y):=h;show#[_,_,rfl,y]
def vQ{P:jw->Prop}(h:E9 e op k=b6)(fz:∀a p,k a=b6->P (.UnaryOp op a p)):P e:=by
 have(a,p,rfl,z):=zp h;show fz _ _ z
abbrev lq(e:jw)(k:↑jw->Bool):Bool:=if h:e.ctorIdx=25 then XR (motive_1:=λ_=>Bool) e h (λl _ _=>k l) else cK
def gm(h:lq e k=b6):∃l q p,e=.Tuple l q p/\k l=b6:=bw h λz=>XR e z λ_ _ _ _ h=>#[_,_,_,rfl,h]
def E_{P:jw->Prop}(h:lq e k=b6)(fz:∀l q p,k l=b6->P (.Tuple l q p)):P e:=bw h λz=>XR e z λ_ _ _ _ h=>fz _ _ _ h
abbrev xK(e:jw)(k:↑jw->Bool):Bool:=if h:e.ctorIdx=24 then Ub (motive_1:=λ_=>Bool) e h (λl _=>k l) else cK
def vR(h:xK e k=b6):∃l p,e=.List l p/\k l=b6:=bw h λz=>Ub e z λ_ _ _ h=>#[_,_,rfl,h]
def Fb{P:jw->Prop}(h:xK e k=b6)(fz:∀l p,k l=b6->P (.List l p)):P e:=bw h λz=>Ub e z λ_ _ _ h=>fz _ _ h
abbrev Fc(e:jw):Bool:=if h:e.ctorIdx=6 then à (motive_1:=λ_=>Bool) e h (λa b _=>a.isEmpty&&b.isEmpty) else cK
def pH(h:Fc e=b6):∃p,e=.Dict [] [] p:=bw h λz=>à e z λa b q _ h=>by
 replace h:(a.isEmpty&&b.isEmpty)=b6:=h
 rw[cb,my,my]at h;have(rfl,rfl):=h;show#[_,rfl]
def Jf{P:jw->Prop}(h:Fc e=b6)(fz:∀p,P (.Dict [] [] p)):P e:=by
 have(p,rfl):=pH h;show fz _
abbrev BV(e:jw)(k:Option jw->Option jw->Bool):Bool:=if h:e.ctorIdx=26 then È (motive_1:=λ_=>Bool) e h (λa b c _=>c.isNone&&k a b) else cK
def vS(h:BV e k=b6):∃a b p,e=.Slice a b cc p/\k a b=b6:=bw h λz=>È e z λa b c q _ h=>by
 replace h:(c.isNone&&k a b)=b6:=h
 rw[cb,UN]at h;have(rfl,h):=h;show#[_,_,_,rfl,h]
def Fd{P:jw->Prop}(h:BV e k=b6)(fz:∀a b p,k a b=b6->P (.Slice a b cc p)):P e:=by
 have(a,b,p,rfl,z):=vS h;show fz _ _ _ z
abbrev Fe(e:jw)(k:jw->jw->jw->↑jw->tP->Bool):Bool:=if h:e.ctorIdx=8 then Y3 (motive_1:=λ_=>Bool) e h (λelt a b _=>bQ a λg=>df (g.is_async=0)&&k elt g.target g.iter g.ifs b) else cK
def fL(h:Fe e k=b6):∃elt tg a ifs b p,e=.ListComp elt [⟨tg,a,ifs,0⟩] b p/\k elt tg a ifs b=b6:=bw h λz=>Y3 e z λelt c b q _ h=>by
 replace h:(bQ c λg=>df (g.is_async=0)&&k elt g.target g.iter g.ifs b)=b6:=h
 have((tg,a,ifs,z),rfl,z1):=bG h;rw[cb,Ŵ]at z1;have(rfl,z1):=z1;show#[_,_,_,_,_,_,rfl,z1]
def Jg{P:jw->Prop}(h:Fe e k=b6)(fz:∀elt tg a ifs b p,k elt tg a ifs b=b6->P (.ListComp elt [⟨tg,a,ifs,0⟩] b p)):P e:=by
 have(elt,tg,a,ifs,b,p,rfl,z):=fL h;show fz _ _ _ _ _ _ z
abbrev BW(e:jw)(k:jw->ł->ł->jw->jw->Bool):Bool:=if h:e.ctorIdx=15 then Uc (motive_1:=λ_=>Bool) e h (λa d f _=>eZ d λp q=>eZ f λb c=>k a p q b c) else cK
def vT(h:BW e k=b6):∃a p q b c r,e=.Compare a [p,q] [b,c] r/\k a p q b c=b6:=bw h λz=>Uc e z λa d f q _ h=>by
 replace h:(eZ d λp q=>eZ f λb c=>k a p q b c)=b6:=h
 have(p,q,rfl,z1):=dm h;have(b,c,rfl,z2):=dm z1;show#[_,_,_,_,_,_,rfl,z2]
def Ff{P:jw->Prop}(h:BW e k=b6)(fz:∀a p q b c r,k a p q b c=b6->P (.Compare a [p,q] [b,c] r)):P e:=by
 have(a,p,q,b,c,r,rfl,z):=vT h;show fz _ _ _ _ _ _ z
abbrev isNm(e:jw)(n:Str):Bool:=aE e λx=>df (x=n)
def iO(h:isNm e n=b6):∃p,e=.Name n p:=by
 have(x,p,e,z):=ar h;show#[p,Ÿ z▸e]
abbrev nM(v:jw)(f:Str)(k:↑jw->Bool):Bool:=d9 v λg as _=>isNm g f&&k as
def eS(h:nM v f k=b6):∃as p q,v=.Call (.Name f p) as [] q/\k as=b6:=by
 have(g,as,q,rfl,z):=h_ h;rw[cb]at z;have(p,rfl):=iO z.1;show#[as,p,q,rfl,z.2]
def BX{P:jw->Prop}(h:nM v f k=b6)(fz:∀as p q,k as=b6->P (.Call (.Name f p) as [] q)):P v:=by
 have(as,p,q,rfl,z):=eS h;show fz _ _ _ z
abbrev Qs(N:↑Str)(a:tP)(i:Nat)(x:Str):Bool:=df (N[i]?≈x)&&hU a x&&bq x
abbrev Jh(e:jw):Bool:=xK e List.isEmpty
def zq(h:Jh e=b6):∃p,e=.List [] p:=by
 have(l,p,rfl,h):=vR h;cases my.mp h;show#[_,rfl]
def Ji{P:jw->Prop}(h:Jh e=b6)(fz:∀p,P (.List [] p)):P e:=by
 have(p,rfl):=zq h;show fz p
abbrev vU(l:↑jw)(k:jw->↑jw->Bool):Bool:=match l with|a::as=>k a as|[]=>cK
def lr(h:vU l k=b6):∃a as,l=a::as/\k a as=b6:=by
 cases l with
 |nil=>cases h
 |cons a as=>show#[a,as,rfl,h]
abbrev Xt(m:Str):Bool:=df (m∉(["","rows","earlier","shelf"]:↑Str))
abbrev Wl(n:Nat)(e:jw):Bool:=nL e λc=>if h:c.ctorIdx=2 then ã (motive:=λ_=>Bool) c h λi=>df (i=(n:Int)) else cK
def nN(h:Wl n e=b6):∃j p,e=.Constant (.int n) j p:=by
 have(c,q,p,rfl,h):=gk h;show bw h λz=>ã c z λi _ h=>by
  rw[Ÿ h];show#[_,_,rfl]
abbrev Wm(c:Str)(e:jw):Bool:=nL e λb=>if h:b.ctorIdx=5 then â (motive:=λ_=>Bool) b h λx=>df (x=c) else cK
def jZ(h:Wm c e=b6):∃j p,e=.Constant (.str c) j p:=by
 have(b,q,p,rfl,h):=gk h;show bw h λz=>â b z λi _ h=>by
  rw[Ÿ h];show#[_,_,rfl]
abbrev Jj(N:↑Str)(a:tP):↑(Nat×Nat)->↑jw->Bool
 |[],as=>as.isEmpty
 |p::js,as=>vU as λe es=>(lp e λo b=>aE o λx=>Qs N a p.1 x&&Wl p.2 b)&&Jj N a js es
abbrev ZY(k:Ck)(d:Bool)(f m:Str)(i:Nat)(N:↑Str)(b:tP)(q:↑jw->Bool)(e:jw):Bool:=cU e λo y a as c=>aE o λx=>df (y=m)&&df ((f,d,m)∈k.obs)&&Xt m&&Qs N b i x&&(a.endLine==c.line)&&df (⇑as<20)&&q as
abbrev ZZ(k:Ck)(f m:Str)(i:Nat)(js:↑(Nat×Nat))(N:↑Str)(c:tP)(e:jw):Bool:=cU e λo y b as d=>fC o λo1 a _=>aE o1 λx=>df (y=m)&&df (a="shelf")&&df ((f,cK,m)∈k.obs)&&Xt m&&Qs N c i x&&(b.endLine==d.line)&&df (⇑as<20)&&Jj N c js as
abbrev foB(k:Ck)(f:Str)(i:Nat)(N:↑Str)(b:tP)(q:↑jw->Bool)(e:jw):Bool:=d9 e λc as _=>aE c λy=>vU as λa as'=>aE a λx=>df (y=f)&&df ((f,b6,("":Str))∈k.obs)&&OR b y&&bq y&&Qs N b i x&&q as'
mutual
noncomputable def bM(k:Ck):E->↑Str->tP->jw->Bool
 |.var i,N,g,h=>aE h λx=>df (N[i]?≈x)&&hU g x&&bq x
 |.cst u,N,g,h=>nL h λc=>Nd u c
 |.PM x u,N,g,h=>aE h λy=>df (x=y)&&OR g x&&bq x&&k.gl.any λp=>df (p.1=x)&&qX p.2 u
 |.bin op a b,N,g,h=>GB h λa' z r=>df (op.op=z)&&bM k a N g a'&&bM k b N g r
 |.cmp op a b,N,g,h=>ll h λa' z r=>df (op.op=z)&&!R0 z r&&bM k a N g a'&&bM k b N g r
 |.Qn o1 o2 a b c,N,g,h=>BW h λa' p q r B=>df (o1.op=p)&&df (o2.op=q)&&!lastMarks [p,q] [r,B]&&bM k a N g a'&&bM k b N g r&&bM k c N g B
 |.and es,N,g,h=>BU h .And λl=>aO k es N g l
 |.or es,N,g,h=>BU h .Or λl=>aO k es N g l
 |.not a,N,g,h=>E9 h .Not λa'=>bM k a N g a'
 |.ite _ _ _,_,_,_=>cK
 |.neg a,N,g,h=>E9 h .USub λa'=>bM k a N g a'
 |.bad,_,_,_=>b6
 |.OD i,N,g,h=>fC h λo m _=>aE o λx=>df (m="rows")&&Qs N g i x
 |.PZ i,N,g,h=>ll h λa' op r=>fC a' λo m _=>aE o λx=>Jh r&&df (op=.Eq)&&df (m="earlier")&&Qs N g i x
 |.lX i,N,g,h=>cU h λo m j as v=>fC o λo2 m2 _=>aE o2 λx=>as.isEmpty&&df (m="pop")&&df (m2="earlier")&&(j.endLine==v.line)&&Qs N g i x
 |.Pc f i es,N,g,h=>foB k f i N g (λas=>aO k es N g as) h
 |.QP d f m i es,N,g,h=>ZY k d f m i N g (λas=>aO k es N g as) h
 |.Qb f m i js,N,g,h=>ZZ k f m i js N g h
 |.pop i,N,g,h=>cU h λo m j as v=>aE o λx=>as.isEmpty&&df (m="pop")&&df (N[i]?≈x)&&hU g x&&bq x&&(j.endLine==v.line)
 |.Sv _ _,_,_,_=>cK
 |.To f es,N,g,h=>d9 h λs l _=>aE s λx=>df (x=f)&&df (f∈k.O1)&&OR g x&&bq x&&!l.isEmpty&&aO k es N g l
 |.inD neg a i,N,g,h=>ll h λa' z r=>aE r λx=>df (IQ neg=z)&&!R0 z r&&df (N[i]?≈x)&&hU g x&&bq x&&bM k a N g a'
 |.U9 i,N,g,h=>aE h λx=>df (N[i]?≈x)&&hU g x&&bq x
 |.Qo i a b,N,g,h=>cU h λo m j as v=>aE o λx=>eZ as λa' r=>df (m="get")&&df (N[i]?≈x)&&hU g x&&bq x&&(j.endLine==v.line)&&noStar a'&&noStar r&&bM k a N g a'&&bM k b N g r
 |.U_ i,N,g,h=>d9 h λs as _=>aE s λf=>bQ as λc=>cU c λo m j bs v=>aE o λx=>bs.isEmpty&&df (f="sorted")&&OR g f&&df (m="items")&&df (N[i]?≈x)&&hU g x&&bq x&&(j.endLine==v.line)
 |.W_ _ _ _,_,_,_=>cK
 |.fst es,N,g,h=>cK
 |.Tn a T,N,g,h=>d9 h λs as _=>aE s λx=>eZ as λa' r=>aE r λy=>df (x="isinstance")&&df (y=T.name)&&OR g x&&OR g y&&noStar a'&&bM k a N g a'
 |.tup es,N,g,h=>lq h λl=>aO k es N g l
 |.lst es,N,g,h=>xK h λl=>aO k es N g l
 |.PY _,N,g,h=>Fc h
 |.idx a b,N,g,h=>lp h λa' r=>fm r&&bM k a N g a'&&bM k b N g r
 |.Po a lo hi,N,g,h=>lp h λa' r=>BV r λA C=>bM k a N g a'&&vV k lo N g A&&vV k hi N g C
 |.bi f es,N,g,h=>d9 h λs l _=>aE s λx=>df (x=f.name)&&simple f&&OR g x&&!l.isEmpty&&aO k es N g l
 |.Rq f es,N,g,h=>d9 h λs as _=>aE s λx=>bQ as λc=>d9 c λg' l _=>aE g' λy=>df (x=f.qR)&&df (y=f.jW)&&OR g x&&OR g y&&!l.isEmpty&&aO k es N g l
 |.OX m a es,N,g,h=>cU h λo name j l v=>df (name=m.name)&&mj o&&(j.endLine==v.line)&&!l.isEmpty&&df (⇑l<20)&&bM k a N g o&&aO k es N g l
 |.call f es,N,g,h=>d9 h λs l _=>aE s λx=>df (x=f)&&df (f∈k.fns)&&OR g x&&bq x&&!l.isEmpty&&aO k es N g l
 |.comp n t D src cond e,N,g,h=>Fe h λelt tg w ifs scope =>
   df (⇑(jc tg)=n)&&D6 (jc tg++hide (jc tg) N) (jc tg) scope g.names&&Vh t (jc tg++hide (jc tg) N) (zo scope g) (λx=>df (scope.names.lookup x≈.cell)) (ib n) tg&&vO w &&
   (match hZ g tg D w with
    |some as=>aO k src N g as
    |none=>cK) &&
   df (⇑ifs<=1)&&aO k cond (jc tg++hide (jc tg) N) (zo scope g) ifs&&bM k e (jc tg++hide (jc tg) N) (zo scope g) elt
noncomputable def aO(k:Ck):↑E->↑Str->tP->↑jw->Bool
 |[],_,_,a=>a.isEmpty
 |e::es,N,b,a=>match a with
  |e'::a=>noStar e'&&bM k e N b e'&&aO k es N b a
  |[]=>cK
noncomputable def vV(k:Ck):↑E->↑Str->tP->Option jw->Bool
 |[],_,_,o=>o.isNone
 |[e],N,a,o=>match o with
  |some b=>bM k e N a b
  |none=>cK
 |_::_::_,_,_,_=>cK
end
abbrev bR:↑Str:=["len","sorted","repr","max","min","all","any","list","tuple","str","int","range","enumerate","zip","reversed","set","dict","sum","isinstance","bool"]
abbrev vW(ck:Ck)(K:W.Frag)(mg:Str->Option g8):Prop:=∀D,(∃p∈ck.xi,p.2.1=D)->∃a,((∃b,a=.ref b/\mg D≈.ref b)\/(D="ValueError"/\a=.type "ValueError"/\mg D=cc))/\∀p∈ck.xi,p.2.1=D->∀C,W.nsIn K i5 p.1≈bD (.ref C)->gI K C=b6/\W.kitOne K (.ref C) a≈p.2.2
abbrev Xu(a:↑(Str×Str×Bool))(c:Str)(G:↑Str)(b:Bool):Prop:=(∃D,G=[D]/\(c,D,b)∈a)\/(b=cK/\2<=⇑G/\∀D∈G,(c,D,cK)∈a)
structure Uu(ck:Ck)(K:W.Frag)(mg:Str->Option g8):Prop where
 xc:∀x∈ck.xc,∃C,mg x≈.ref C/\W.nsIn K i5 x≈bD (.ref C)/\W.excIn K C U5 "ValueError.__new__"=b6
 xd:∀p∈ck.xd,∃C D,mg p.1≈.ref C/\W.nsIn K i5 p.1≈bD (.ref C)/\mg p.2≈.ref D/\W.exmOne K (.ref C) (.ref D)≈b6
 xi:vW ck K mg
inductive zr(P:rS)(w:wk)(K:W.Frag)(mg:Str->Option g8)(base:K2)(d:Nat)(F:↑U->Option (Ex (Kd×U)))(f:Str):Prop
 |mk (np:Nat) (fa:hH) (fd:VD) (ps:↑Str):dF P w K mg base (PD P w) d fa fd ps (spT P w K F np)->mg f≈.ref fa->W.keepIn K (.ref fa)=b6->Binds K fd ps []->(∀us k u,F us≈.ok (k,u)->(k=.own\/k=.loc\/k=.any)/\⇑us=np)->(∀us c,F us≈.exc c->⇑us=np)->zr P w K mg base d F f
inductive Lv(P:rS)(w:wk)(K:W.Frag)(mg:Str->Option g8)(base:K2)(d:Nat)(F:↑U->Option (Ex (Kd×U)))(f:Str)(b:Bool)(m:Str):Prop
 |mk (np:Nat) (fa:hH) (fd:VD) (ps:↑Str):dF P w K mg base (PD P w) d fa fd ps (Tu P w K F np)->(m=""->mg f≈.ref fa)->W.keepIn K (.ref fa)=b6->(m≠""->∀cl,Ro K b cl->Meth K cl m fa)->Binds K fd ps []->(∀us r,F us≈.ok r->⇑us=np)->Lv P w K mg base d F f b m
inductive Lw(P:rS)(w:wk)(K:W.Frag)(mg:Str->Option g8)(base:K2)(d:Nat)(F:↑U->Option (Ex (Kd×U)))(f:Str):Prop
 |mk (fa:hH) (fd:VD) (ps:↑Str):dF P w K mg base (PD P w) d fa fd ps (Xr P w K F)->mg f≈.ref fa->W.keepIn K (.ref fa)=b6->Binds K fd ps []->Lw P w K mg base d F f
inductive Wn(P:rS)(w:wk)(K:W.Frag)(mg:Str->Option g8)(base:K2):Prop
 |mk (cl cd fi fd:_):P6 K cK cl->P6 K b6 cd->Mk K cd fi->dF P w K mg base S5 3 fi fd ["self"] (ZR cl cd)->Binds K fd ["self"] []->mg "Desk"≈.ref cd->Wn P w K mg base
structure Wo(ck:Ck)(Γ:Tab)(P:rS)(w:wk)(K:W.Frag)(mg:Str->Option g8)(base:K2)(d:Nat):Prop where
 o:∀q∈ck.obs,Lv P w K mg base d (Γ q.1) q.1 q.2.1 q.2.2
 sh:Wn P w K mg base
 lv:4<=d
 n:∀f∈ck.O1,Lw P w K mg base d (Γ f) f
structure Gd(ck:Ck)(Γ:Tab)(C:Ct)(d:Nat)(X:Cx):Prop where
 P:C.P=X.prog
 w:C.w=X.w
 K:C.K=X.K
 u:X.A.units+60<C0
 calm:X.calm=b6
 room:cX d X.A
 blt:∀x∈bR,X.mg x=cc
 fns:∀f∈ck.fns,zr X.prog X.w X.K X.mg X.base d (Γ f) f
 P7:∀p∈ck.gl,∃val v,X.mg p.1≈val/\RelV v val/\∀S H,Rep C S H p.2 v
 O1:Wo ck Γ X.prog X.w X.K X.mg X.base d
def Gd.cx(g:Gd ck Γ C d X)(N)(a)(D)(s)(H)(ex):Gd ck Γ C d (OA X N a D s H ex) :=
 #[g.P,g.w,g.K,g.u,g.calm,g.room,g.blt,g.fns,g.P7,g.O1]
def cE(h:hU a x=b6):OB a x:=by
 unfold hU at h;erw[RB,Ŵ]at h;rcases h with(h|h)|h
 .show .inl h
 .show .inr (.inl h)
 .show .inr (.inr h)
def aF(h:bq x=b6):(x==("__debug__":Str))=cK/\(x==("__classdict__":Str))=cK:=by
 unfold bq at h;exists h
def a_(h:noStar e=b6):i0 (e::es) env=(cK,p8 e env)::i0 es env:=by
 cases e<;>first|rfl|cases h
def tI(h:fm e=b6):lZ e:=by
 intro o i;cases e<;>first|rfl|cases h
def vX(h:vO e=b6):∀x,Cd e env x=pure x:=by
 intro x;cases e<;>first|rfl|cases h
def j3(h:mj o=b6):LF o name env a=a:=by
 cases o with
 |Call f as ks p =>
  cases f with
  |Name x q=>cases as with
   |nil=>cases ks with
    |nil=>cases h
    |cons _ _=>rfl
   |cons _ _=>rfl
  |_=>rfl
 |_=>rfl
def bj(h:∀e∈es,noStar e=b6):(vl pos (i0 es env)).any (·.1)=cK/\(vl pos (i0 es env)).all (λx=>!x.1)=b6:=by
 induction es with
 |nil=>show#[rfl,rfl]
 |cons e es a =>
  rw[a_ (h e ⋯)];have:=a λb c=>h b (by simp[c])
  assumption
def bZ(h:aO k es N c a=b6):∀e∈a,noStar e=b6:=by
 induction es generalizing a with
 |nil =>
  cases a with
  |nil=>intro e he;cases he
  |cons _ _=>simp[aO]at h
 |cons x es b =>
  cases a with
  |nil=>intro e he;cases he
  |cons d a =>
   erw[aO,cb]at h;intro e he;rcases eT.mp he with rfl|he
   .show h.1.1
   .show b h.2 e he
def pI(a:∀x,fa x=b6->X.fn x=b6)(h:xI X.N X.env.scope fa i e=b6):vJ X e i:=by
 cases e with
 |Name x p =>
  erw[xI,cb,Ŵ,jY,RB,BS]at h;show#[x,p,rfl,h.1.1,?_,?_]
  .rcases h.1.2 with z|z
   .show .inl z
   .show .inr z
  .rcases h.2 with z|z
   .show .inl (a x z)
   .show .inr z
 |_=>cases h
theorem nO(a:∀x,fa x=b6->X.fn x=b6):∀{is}{es},qY X.N X.env.scope fa is es=b6->gc X es is
 |[],[],_=>.nil
 |[],_::_,h=>by cases h
 |_::_,[],h=>by cases h
 |i::is,e::es,h=>by
  erw[qY,cb]at h;show .cons (pI a h.1) (nO a h.2)
def xM(c:X.calm=b6)(d:C.K=X.K)(a:X.N.Nodup)(b:∀x,fa x=b6->X.fn x=b6)(h:Vh t X.N X.env.scope fa is tg=b6):PG X tg (tG C t is):=by
 cases tg with
 |Name x p =>
  erw[Vh,cb,nc]at h;have(rfl,h):=h;cases is with
  |nil=>cases h
  |cons i is=>cases is with
   |nil=>show II a (pI b h)
   |cons _ _=>cases h
 |Tuple es k p =>
  erw[Vh,cb,lx,Ŵ]at h;have((rfl,e),f):=h;show K9 c d a (nO b e) f
 |_=>cases h
def kG(a N):fy ((a++hide a N).drop ⇑a) N:=by
 rw[Wt rfl];unfold hide;split
 .show .refl N
 .show(fy.refl N).set _ (.inl rfl)
 .show((fy.refl N).set _ (.inl rfl)).set _ (.inr rfl)
abbrev Bf.isB:Bf->Bool
 |.len=>b6|.sorted=>b6|.repr=>b6|.max=>b6|.min=>b6|.all=>b6|.any=>b6|_=>cK
abbrev Bf.id:Bf->String
 |.len=>"len"|.sorted=>"sorted"|.repr=>"repr"|.max=>"max"|.min=>"min"|.all=>"all"|.any=>"any"
 |.list=>"list"|.tuple=>"tuple"|.str=>"str"|.int=>"int"
def Fg:∀f,simple f=b6->so f.name≈f.val/\f.name∈bR/\f.name≠"__name__"/\(f.name==("__debug__":Str))=cK:=by
 intro f h;cases f<;>first|show⟨by decide +kernel,by decide +kernel,by decide +kernel,by rfl⟩|(done)
def Jk:∀f,simple f=b6->(f.val=.builtin f.id\/f.val=.type f.id):=by
 intro f h;cases f<;>first|show .inl rfl|show .inr rfl|(done)
def Jl:∀f:B2,f.qR∈bR/\f.jW∈bR:=by
 intro f;cases f<;>show#[by decide +kernel,by decide +kernel]
def Fh:∀f:Mf,ō "str" f.name f.id/\Z_ (.builtin f.id)=pure (.type "method_descriptor"):=by
 intro f;cases f with
 |split=>show#[F.slot_str_split,F.type_str_split]
 |join=>show#[F.slot_str_join,F.type_str_join]
 |partition=>show#[F.slot_str_partition,F.type_str_partition]
 |endswith=>show#[F.slot_str_endswith,F.type_str_endswith]
def cq(h:OR X.env.scope x=b6):Gl X x:=by
 change X.env.kindOf x≈_;show Ÿ h
def Fi:("enumerate":Str)∈bR:=by decide +kernel
def j4:("isinstance":Str)∈bR:=by decide +kernel
def BY(T:Ss):T.name∈bR:=by cases T<;>decide +kernel
def xN:("range":Str)∈bR:=by decide +kernel
def GC(g:Gd ck Γ C d X)(h:hZ X.env.scope tg o i≈as)(n:PA X as (OV C (bH Γ src)))(r:∀a,as=[a]->∃e,src=[e]/\PE X a (NK C (ev Γ e)))(l:∀e∈as,noStar e=b6):PI X tg i (Rt C o (bH Γ src)):=by
 unfold hZ at h;split at h
 .cases h;have(e,rfl,s):=r _ rfl;show IG g.K s
 .rw[ki]at h;have((x,bs),j,h):=h;split at h
  .rename_i k;cases h;have(c,f,hl):=k
   dsimp only at c f hl
   subst c;have(p,q,rfl):=hV j;have(b,rfl):=Wh.mp hl;show EO (cq f) (g.blt _ xN) (a_ (l _ ⋯)) n
  .cases h
 .rw[ki]at h;have((x,bs),j,h):=h;split at h
  .rename_i k;cases h;have(c,f,hl):=k
   dsimp only at c f hl
   subst c;have(p,q,rfl):=hV j;obtain⟨b,m,rfl⟩:∃b m,bs=[b,m]:=by match bs,hl with|[b,m],_=>show#[b,m,rfl]
   have s1:=a_ (env:=X.env) (es:=[]) (l _ (f7 _ il));show ER (cq f) (g.blt _ xN) (by rw[a_ (l _ il),s1];rfl) s1 n
  .cases h
 .rw[ki]at h;have((x,bs),j,h):=h;split at h
  .rename_i k;cases h;have(c,f,hl,t):=k
   dsimp only at c f hl
   subst c;have(p,q,rfl):=hV j;have(b,rfl):=Wh.mp hl;cases tg with
   |Tuple es u ps=>show IH g.K (cq f) (g.blt _ Fi) (a_ (l _ ⋯)) n
   |_=>cases t
  .cases h
 .cases h
def Gd.OZ(g:Gd ck Γ C d X):Gd ck Γ C d X.OZ :=
 #[g.P,g.w,g.K,g.u,g.calm,g.room,g.blt,g.fns,g.P7,g.O1]
def GD{a:M α}{b:α->M β}{c:α->M γ}{g:γ->M δ}{st}{Q}(w:W (a >>= λx=>b x >>= λ_=>c x >>= g) st Q):W ((a >>= λx=>b x >>= λ_=>c x) >>= g) st Q:=by
 erw[ag]at w ⊢;show w
def bz:PT X e (OY C M.fail):=λpins s σ H Q I ⟨_,_,_,_,w⟩=>(bf.mp w).elim
def ic:PE X e (NK C M.fail):=λpins s σ H Q I ⟨_,_,_,_,w⟩=>(bf.mp w).elim
def PT.eqv(h:PT X e (OY C m))(i:∀st Q,W a st Q->W m st Q):PT X e (OY C a):=PT.weak h λσ H Q ⟨c0,b,c,d,w⟩=>#[c0,b,c,d,i _ _ w]
def Lx(g:Gd ck Γ C d X)(b:PA X a (OV C (bH Γ es)))
  (h:(df (x=f.name)&&simple f&&OR X.env.scope x&&!a.isEmpty&&aO ck es X.N X.env.scope a)=b6):PE X (.Call (.Name x p) a [] pos) (NK C (ev Γ (.bi f es))):=by
 erw[cb,Ŵ]at h;obtain⟨⟨⟨⟨rfl,c⟩,i⟩,m⟩,n⟩:=h;have(b1,j,b3,b4):=Fg f c;have k:=bZ n;cases a with
 |nil=>cases m
 |cons o l =>
  have st:=a_ (env:=X.env) (es:=l) (k o ⋯);have sn:=(bj (pos:=pos) (env:=X.env) (es:=l) λe q=>k e (by simp[q])).1;rcases Jk f c with hv|hv
  .show EI g.calm g.K g.room.gd g.u hv (cq i) (g.blt _ j) (by rw[b1,hv]) b3 b4 b st sn
  .show EJ g.calm g.K g.room.gd g.u hv (cq i) (g.blt _ j) (by rw[b1,hv]) b3 b4 b st sn
def Ly(g:Gd ck Γ C d X)(i:PA X a (OV C (bH Γ es)))
  (h:(df (x=f.qR)&&df (y=f.jW)&&OR X.env.scope x&&OR X.env.scope y&&!a.isEmpty&&aO ck es X.N X.env.scope a)=b6):PE X (.Call (.Name x p) [.Call (.Name y p2) a [] pos2] [] pos) (NK C (ev Γ (.Rq f es))):=by
 erw[cb,Ŵ]at h;obtain⟨⟨⟨⟨⟨rfl,rfl⟩,j⟩,k⟩,l⟩,m⟩:=h;have(b1,n):=Jl f;have b:=bZ m;cases a with
 |nil=>cases l
 |cons o c =>
  have st:=a_ (env:=X.env) (es:=c) (b o ⋯);have sn:=(bj (pos:=pos2) (env:=X.env) (es:=c) λe q=>b e (by simp[q])).1;show EN g.calm g.K (cq j) (g.blt _ b1) (cq k) (g.blt _ n) i st sn
def Lz(g:Gd ck Γ C d X)(l:PE X o (NK C (ev Γ a)))(n:PA X b (OV C (bH Γ es)))
  (h:(df (name=m.name)&&mj o&&(c.endLine==f.line)&&!b.isEmpty&&df (⇑b<20)&&bM ck a X.N X.env.scope o&&aO ck es X.N X.env.scope b)=b6):PE X (.Call (.Attribute o name c) b [] f) (NK C (ev Γ (.OX m a es))):=by
 erw[cb,Ŵ]at h;obtain⟨⟨⟨⟨⟨⟨rfl,p⟩,q⟩,r⟩,s⟩,x⟩,t⟩:=h;have i:=bZ t;have(s1,u):=Fh m;cases b with
 |nil=>cases r
 |cons k j =>
  have st:=a_ (env:=X.env) (es:=j) (i k ⋯);have sn:=(bj (pos:=f) (env:=X.env) (es:=j) λe v=>i e (by simp[v])).1;have w:=(bj (pos:=f) (env:=X.env)  i).2;show EL g.K s1 u l n (j3 p) ?_ q st sn;rw[w];have:⇑(k::j)+⇑([]:↑QK)+(if ([]:↑QK).isEmpty=b6 then 0 else 1)<30:=by simp at s ⊢;lia
  erw[Ź this];rfl
def BZ(g:Gd ck Γ C d X)(i:PA X a (OV C (bH Γ es)))
  (h:(df (x=f)&&df (f∈ck.fns)&&OR X.env.scope x&&bq x&&!a.isEmpty&&aO ck es X.N X.env.scope a)=b6):PE X (.Call (.Name x p) a [] pos) (NK C (ev Γ (.call f es))):=by
 erw[cb,Ŵ,nc]at h;obtain⟨⟨⟨⟨⟨rfl,j⟩,k⟩,l⟩,m⟩,n⟩:=h;have b:=bZ n;have(y,fa,z,ps,o,q,r,s,t,_):=(g.fns _ j)
 cases a with
 |nil=>cases m
 |cons u c =>
  have st:=a_ (env:=X.env) (es:=c) (b u ⋯);have sn:=(bj (pos:=pos) (env:=X.env) (es:=c) λe v=>b e (by simp[v])).1;show Bs g.P g.w g.K rfl t o g.room (cq k) q r s (aF l).1 i st sn
def LA(g:Gd ck Γ C d X)(i:PA X a (OV C (bH Γ es)))
  (h:(df (x=f)&&df (f∈ck.O1)&&OR X.env.scope x&&bq x&&!a.isEmpty&&aO ck es X.N X.env.scope a)=b6):PE X (.Call (.Name x p) a [] pos) (NK C (ev Γ (.To f es))):=by
 erw[cb,Ŵ,nc]at h;obtain⟨⟨⟨⟨⟨rfl,j⟩,k⟩,l⟩,m⟩,o⟩:=h;have b:=bZ o;have(fa,y,ps,q,r,s,t):=(g.O1.n _ j)
 cases a with
 |nil=>cases m
 |cons u c =>
  have st:=a_ (env:=X.env) (es:=c) (b u ⋯);have sn:=(bj (pos:=pos) (env:=X.env) (es:=c) λe v=>b e (by simp[v])).1;show E7 g.P g.w g.K rfl q g.room (cq k) r s t (aF l).1 i st sn
def dI{X:Cx}(h:Qs X.N X.env.scope i x=b6):X.N[i]?≈x/\OB X.env.scope x/\(x==("__debug__":Str))=cK/\(x==("__classdict__":Str))=cK:=by
 erw[Qs,cb,Ŵ]at h;have(a,b):=aF h.2;show#[h.1.1,cE h.1.2,a,b]
def GF{X:Cx}(a:∀e∈as,noStar e=b6):∀e es,as=e::es->i0 (e::es) X.env=(cK,p8 e X.env)::i0 es X.env/\(vl pos (i0 es X.env)).any (·.1)=cK:=λe es z=>by
 subst z;show#[a_ (a e ⋯),(bj λe b=>a e (by simp[b])).1]
def GG(b:∀e∈as,noStar e=b6)(f:⇑as<20)(c:(a.endLine==pos.line)=b6)(d:LF o m X.env (p8 o X.env)=p8 o X.env):Wg X o m as a pos :=
 E3 (by rw[(bj b).2];change(b6&&b6&&df (⇑as+0+0<30))=b6;grind) c d
def B0(h:Xt m=b6):m≠""/\m∉(["rows","earlier","shelf"]:↑Str):=by
 simpa[Xt] using h
def LB(g:Gd ck Γ C d X)(h:ZY ck b f m i X.N X.env.scope q j=b6)(k:∀as,q as=b6->PA X.OZ as (OV C (bH Γ es))/\(∀e∈as,noStar e=b6)/\(as=[]->es=[])):PR X C j (Pp Γ (.mt b f m i es)):=by
 apply cN h;intro o y a as Y z1;apply aX z1;intro x px z2;erw[cb,Ŵ]at z2;obtain⟨⟨⟨⟨⟨⟨rfl,l⟩,n⟩,p⟩,r⟩,s⟩,t⟩:=z2;have(np,fa,fd,ps,u,_,q3,v,A,B):=(g.O1.o _ l)
 have(D,c,G):=k as t;have(H,I,J,L):=dI p;have(O,Q):=B0 n;obtain⟨cl,K⟩:∃cl,P6 X.K b cl:=by
  have(cl,cd,_,_,K,T,_,_,_,_):=g.O1.sh;cases b with
  |false=>show#[_,K]
  |true=>show#[_,T]
 show M_ K g.P g.w g.K H I J L rfl B u g.room (v O cl K.hc) A Q D (λz=>by rw[G z];rfl) (GF c) (GG c s r rfl)
theorem GH(c:C.K=X.K):∀{js}{as},Jj X.N X.env.scope js as=b6->PA X as (Vg C js)/\(∀e∈as,noStar e=b6)/\(as=[]->js=[])
 |[],as,h=>by
  cases my.mp (h);show#[E4,(λe a=>nomatch a),λ_=>rfl]
 |p::js,as,h=>by
  have(e,es,rfl,z):=lr (h);rw[cb]at z;have h:=z;have(d,f,_):=GH c h.2;apply gh h.1;intro o b q z1;apply aX z1;intro x l z2;rw[cb]at z2;have(g,i,j,k):=dI z2.1;have(_,_,rfl):=nN z2.2;show#[E5 c (Kz km (a9 g i j k) mM λ_ _=>rfl) d rfl,λe a=>(eT.mp a).elim (λz=>by rw[z];rfl) (f e),λz=>nomatch z]
def LC(g:Gd ck Γ C d X)(h:ZZ ck f m i js X.N X.env.scope e=b6):PR X C e (Pp Γ (.Qb f m i js)):=by
 apply cN h;intro o y b as L z1;apply dU z1;intro o1 a O z1;apply aX z1;intro x Q z2;erw[cb,Ŵ]at z2;obtain⟨⟨⟨⟨⟨⟨⟨rfl,rfl⟩,j⟩,k⟩,l⟩,n⟩,p⟩,q⟩:=z2;have(T,fa,Y,ps,r,_,q3,s,t,u):=(g.O1.o _ j)
 have(v,c,z):=GH (X:=X.OZ) g.K q;have(A,B,D,G):=dI l;have(H,I):=B0 k;have(cl,cd,_,_,K,J,_,_,_,_):=g.O1.sh;show Lo J K g.P g.w g.K A B D G rfl u r g.room (s H cl K.hc) t I v z (GF c) (GG c p n rfl)
def LD(g:Gd ck Γ C d X)(h:foB ck f i X.N X.env.scope q c=b6)(j:∀as,q as=b6->PA X.OZ as (OV C (bH Γ es))/\(∀e∈as,noStar e=b6)/\(as=[]->es=[])):PR X C c (Q2 b6 i >>= λ_=>bH Γ es >>= λrs=>az rs >>= λ_=>dR Γ f cK i rs)/\∀b,isTrue c X.env b=(do let v <-b;WY c.pos;KX [v] (ģ v)):=by
 apply cz h;intro J as pos z1;apply aX z1;intro y L z1;have(a,as,rfl,z1):=lr z1;apply aX z1;intro x O z2;erw[cb,Ŵ]at z2;obtain⟨⟨⟨⟨⟨rfl,k⟩,l⟩,m⟩,n⟩,p⟩:=z2;have(Q,fa,T,ps,r,s,t,_,u,z):=(g.O1.o _ k)
 have(A,B,_):=j as p;have(D,G,H,I):=dI n;show#[Na g.P g.w g.K D G H I rfl z r g.room (cq l) (s rfl) t u (aF m).1 A (bj B).1,λ_=>rfl]
def e_(h:(b&&aO k es N a c)=b6):aO k es N a c=b6:=(oa.mp h).2
mutual
theorem bT:∀(e:E) (X:Cx) (k:jw),Gd ck Γ C d X->bM ck e X.N X.env.scope k=b6->PE X k (NK C (ev Γ e))
 |.var i,X,k,g,h=>by
  apply aX h;intro x B A;clear h;have h:=A;erw[cb,Ŵ]at h;have(Y,h4):=aF h.2;show mf h.1.1 (cE h.1.2) Y h4
 |.cst u,X,k,g,h=>by
  apply xJ h;intro c q0 B A;cases c with
  |int j=>have:=cR A;subst this;show jV mM λ_ _=>rfl
  |str y=>have:=cR A;subst this;show jV uD λ_ _=>rfl
  |bool y=>have:=cR A;subst this;show jV Ah λ_ _=>rfl
  |none=>have:=cR A;subst this;show jV uC λ_ _=>rfl
  |_=>cases A
 |.PM x u,X,k,g,h=>by
  apply aX h;intro y B A;clear h;have h:=A;erw[cb,Ŵ,Tb]at h;obtain⟨⟨⟨rfl,G⟩,J⟩,p,hp,e1,e2⟩:=h;have:=cR e2;subst this e1;have(val,v,q1,q2,q3):=g.P7 p hp;show jV (DB (cq G) q1 q2 (aF J).1) q3
 |.bin op a b,X,k,g,h=>by
  apply E8 h;intro a' Q4 b' B A;clear h;have h:=A;erw[cb,Ŵ]at h;have((rfl,G),J):=h;show Es g.K (bT a X _ g G) (bT b X _ g J)
 |.cmp op a b,X,k,g,h=>by
  apply mq h;intro a' Q4 b' B z1;have h:=z1;erw[cb,Ŵ,nc]at h;obtain⟨⟨⟨rfl,h0⟩,G⟩,J⟩:=h;show Et g.P g.w g.K g.u (bT a X _ g G) (bT b X _ g J) h0
 |.Qn o1 o2 a b c,X,k,g,h=>ic
 |.and es,X,k,g,h=>by
  apply vP h;intro NC B A;clear h;have h:=A;show B1 es X _ g h
 |.or es,X,k,g,h=>ic
 |.not a,X,k,g,h=>by
  apply vQ h;intro a' B A;clear h;have h:=A;show Ew (bT a X _ g h)
 |.neg a,X,k,g,h=>by
  apply vQ h;intro a' B A;clear h;have h:=A;show Ey (bT a X _ g h)
 |.bad,X,k,g,h=>ic
 |.OD i,X,k,g,h=>by
  apply dU h;intro o m q z1;apply aX z1;intro x px z2;erw[cb,Ŵ]at z2;have(rfl,G):=z2;have(w1,w2,w3,w4):=dI G;have(cl,_,_,_,K,_,_,_,_,_):=g.O1.sh;show BI K g.K w1 w2 w3 w4
 |.PZ i,X,k,g,h=>ic
 |.lX i,X,k,g,h=>by
  apply cN h;intro o m O as Nu z1;apply dU z1;intro o2 m2 q z2;apply aX z2;intro x px z3;erw[cb,Ŵ,my]at z3;obtain⟨⟨⟨⟨rfl,rfl⟩,rfl⟩,G⟩,J⟩:=z3;have(w1,w2,w3,w4):=dI J;have(cl,_,_,_,K,_,_,_,_,_):=g.O1.sh;show BL K g.K w1 w2 w3 w4 G
 |.Pc f i es,X,k,g,h=>xG (LD (es:=es) g h λas L=>#[iV es X.OZ as g.OZ L,bZ L,λz=>by subst z;cases es with|nil=>rfl|cons _ _=>simp[aO]at L]).1
 |.QP b f m i es,X,k,g,h=>xG (LB (es:=es) g h λas L=>#[iV es X.OZ as g.OZ L,bZ L,λz=>by subst z;cases es with|nil=>rfl|cons _ _=>simp[aO]at L])
 |.Qb f m i js,X,k,g,h=>xG (LC g h)
 |.pop i,X,k,g,h=>by
  apply cN h;intro o m O as Nu z1;apply aX z1;intro x px z2;erw[cb,Ŵ,my]at z2;obtain⟨⟨⟨⟨⟨rfl,rfl⟩,G⟩,J⟩,Y⟩,h4⟩:=z2;have(q1,q2):=aF Y;show E1 G (cE J) q1 q2 h4 g.K
 |.Sv i a,X,k,g,h=>absurd (show cK=b6 from h) ke
 |.To f es,X,k,g,h=>by
  apply cz h;intro f' as B z1;have(x,p1,rfl,z2):=ar z1;have h:=z2;show LA g (iV es X _ g (e_ h)) h
 |.inD neg a i,X,k,g,h=>ic
 |.U9 i,X,k,g,h=>by
  have(x,B,rfl,A):=ar h;clear h;have h:=A;erw[cb,Ŵ]at h;have(Y,h4):=aF h.2;show EV h.1.1 (cE h.1.2) Y h4
 |.Qo i a b,X,k,g,h=>by
  apply cN h;intro o m O as Nu z1;have(x,px,rfl,z2):=ar z1;apply qZ z2;intro a' b' z3;clear h z1;have z2:=z3;erw[cb,Ŵ]at z2;obtain⟨⟨⟨⟨⟨⟨⟨⟨rfl,G⟩,J⟩,Y⟩,h4⟩,h5⟩,h6⟩,L⟩,h8⟩:=z2;have(q1,q2):=aF Y;have sa:=bj (pos:=Nu) (env:=X.env) (es:=[a',b']) λe he=>by
   rcases eT.mp he with rfl|he
   .show h5
   .simp at he;subst he;show h6
  show BF g.u G (cE J) q1 q2 (bT a X _ g L) (bT b X _ g h8) #[rfl,by rw[sa.2];rfl,h4,by rw[a_ h5,a_ h6];rfl]
 |.U_ i,X,k,g,h=>by
  apply cz h;intro f' as _ z1;have(f,_,rfl,z2):=ar z1;apply fq z2;intro c z3;apply cN z3;intro o m O bs Nu z4;have(x,px,rfl,z5):=ar z4;erw[cb,Ŵ,my]at z5;obtain⟨⟨⟨⟨⟨⟨⟨rfl,rfl⟩,G⟩,rfl⟩,Y⟩,h4⟩,h5⟩,h6⟩:=z5;have(q1,q2):=aF h5;show EZ g.calm g.K (cq G) (g.blt _ (by decide +kernel)) Y (cE h4) q1 q2 h6
 |.W_ ln a b,X,k,g,h=>ic
 |.fst es,X,k,g,h=>ic
 |.Tn a T,X,k,g,h=>by
  apply cz h;intro f' as B z1;have(x,p1,rfl,z2):=ar z1;clear h z1;apply qZ z2;intro a' b' z4;have(y,p2,rfl,z3):=ar z4;have h:=z3;erw[cb,Ŵ]at h;obtain⟨⟨⟨⟨⟨rfl,rfl⟩,G⟩,J⟩,Y⟩,h4⟩:=h;show xC g.K (cq G) (g.blt _ j4) (cq J) (g.blt _ (BY T)) (bT a X _ g h4) (a_ Y)
 |.ite c a b,X,k,g,h=>absurd (show cK=b6 from h) ke
 |.tup es,X,k,g,h=>by
  apply E_ h;intro l q0 B A;clear h;have h:=A;show EC (iV es X _ g h)
 |.lst es,X,k,g,h=>by
  apply Fb h;intro l B A;clear h;have h:=A;show ED (iV es X _ g h)
 |.PY r,X,k,g,h=>by
  apply Jf h;intro B;show Br g.P g.w r
 |.idx a b,X,k,g,h=>by
  apply gh h;intro a' b' B A;clear h;have h:=A;erw[cb]at h;show EF g.K g.u (tI h.1.1) (bT a X _ g h.1.2) (bT b X _ g h.2)
 |.Po a lo hi,X,k,g,h=>by
  apply gh h;intro a' b' B z1;apply Fd z1;intro al PQ p1 A;clear h z1;erw[cb]at A;show EH g.K (bT a X _ g A.1.1) (LG lo X _ g A.1.2) (LG hi X _ g A.2)
 |.bi f es,X,k,g,h=>by
  apply cz h;intro f' as B z1;have(x,p1,rfl,z2):=ar z1;have h:=z2;show Lx g (iV es X _ g (e_ h)) h
 |.Rq f es,X,k,g,h=>by
  apply cz h;intro f' as B z1;have(x,p1,rfl,z2):=ar z1;apply fq z2;intro c z3;apply cz z3;intro g' as' p2 z4;have(y,p3,rfl,z5):=ar z4;have h:=z5;show Ly g (iV es X _ g (e_ h)) h
 |.OX m a es,X,k,g,h=>by
  apply cN h;intro o name O as Nu z1;have h:=z1;have h':=h;erw[cb]at h';show Lz g (bT a X _ g h'.1.2) (iV es X _ g (e_ h)) h
 |.call f es,X,k,g,h=>by
  apply cz h;intro f' as B z1;have(x,p1,rfl,z2):=ar z1;have h:=z2;show BZ g (iV es X _ g (e_ h)) h
 |.comp n t ik src cond e,X,k,g,h=>by
  apply Jg h;intro elt tg ab ifs scope B A;clear h;have h:=A;erw[cb,Ŵ]at h;obtain⟨⟨⟨⟨⟨⟨⟨G,J⟩,Y⟩,h4⟩,h5⟩,h6⟩,L⟩,h8⟩:=h;subst G;have S:=u9 (X:=X) rfl (kG _ _) J;split at h5
  .rename_i as ac;have NF:=bZ h5;have hI:PI X tg ab (Rt C ik (bH Γ src)):=GC g ac (iV src X _ g h5) (λa e=>by
    subst e;cases src with
    |nil=>simp[aO]at h5
    |cons e1 OC =>
     cases OC with
     |nil =>
      erw[aO,cb]at h5;show#[e1,rfl,bT e1 X _ g h5.1.2]
     |cons _ _=>simp[aO]at h5) NF
   show BA S g.calm hI (λD s H ex=>xM (fa:=λx=>df (scope.names.lookup x≈.cell)) g.calm g.K S.nd (λ_ z=>z) Y)
    (λD s H ex=>by
     cases ifs with
     |nil =>
      cases cond with
      |nil=>show λpins s σ H Q I ⟨c0,e1,e2,ok,w⟩=>w_ pins s σ H Q I (by subst e1 e2;rw[show aT Γ []=pure b6 from rfl,ao]at w;show w c0 rfl rfl ok (Nx.refl c0))
      |cons _ _=>simp[aO]at L
     |cons c1 cs =>
      cases cs with
      |nil =>
       cases cond with
       |nil=>simp[aO]at L
       |cons e1 OC =>
        cases OC with
        |nil =>
         erw[aO,cb]at L;show qz (q_ e1 (OA X _ scope D s H ex) c1 (g.cx _ _ _ _ _ _) L.1.2)
        |cons _ _=>simp[aO]at L
      |cons _ _=>simp at h6)
    (λD s H ex=>bT e (OA X _ scope D s H ex) elt (g.cx _ _ _ _ _ _) h8) (vX h4)
  .cases h5
theorem iV:∀(es:↑E) (X:Cx) (a:↑jw),Gd ck Γ C d X->aO ck es X.N X.env.scope a=b6->PA X a (OV C (bH Γ es))
 |[],X,a,g,h=>by
  cases a with
  |nil=>show EB
  |cons _ _=>simp[aO]at h
 |e::es,X,a,g,h=>by
  cases a with
  |nil=>simp[aO]at h
  |cons b a =>
   erw[aO,cb]at h;show Bp (bT e X b g h.1.2) (iV es X a g h.2) (a_ h.1.1)
theorem LG:∀(es:↑E) (X:Cx) (o:Option jw),Gd ck Γ C d X->vV ck es X.N X.env.scope o=b6->PO X o (tO C (Ui Γ es))
 |[],X,o,g,h=>by
  cases o with
  |none=>show iH
  |some _=>simp[vV]at h
 |[e],X,o,g,h=>by
  cases o with
  |none=>simp[vV]at h
  |some a=>erw[vV]at h;show yZ (bT e X a g h)
 |_::_::_,X,o,g,h=>by simp[vV]at h
theorem B1:∀(es:↑E) (X:Cx) (a:↑jw),Gd ck Γ C d X->aO ck es X.N X.env.scope a=b6->∀{pos},PE X (.BoolOp .And a pos) (NK C (jT Γ es))
 |[],X,a,g,h,pos=>ic
 |[e],X,a,g,h,pos=>by
  cases a with
  |nil=>simp[aO]at h
  |cons b a =>
   cases a with
   |nil=>erw[aO,cb]at h;show He (bT e X b g h.1.2)
   |cons _ _=>simp[aO]at h
 |e::c::es,X,a,g,h,pos=>by
  cases a with
  |nil=>simp[aO]at h
  |cons b a =>
   have h':noStar b=b6/\bM ck e X.N X.env.scope b=b6/\aO ck (c::es) X.N X.env.scope a=b6:=by
    rw[aO]at h;erw[cb]at h;show#[h.1.1,h.1.2,h.2]
   cases a with
   |nil=>have:=h'.2.2;simp[aO]at this
   |cons f i=>show snd_and (bT e X b g h'.2.1) (B1 (c::es) X _ g h'.2.2)
theorem q_:∀(e:E) (X:Cx) (j:jw),Gd ck Γ C d X->bM ck e X.N X.env.scope j=b6->PT X j (OY C (NQ Γ e))
 |.and es,X,j,g,h=>by
  apply vP h;intro Y s k;clear h;have h:=k;show(xO es X _ g h).pt
 |.or es,X,j,g,h=>by
  apply vP h;intro Y s k;clear h;have h:=k;show(B3 es X _ g h).pt
 |.not a,X,j,g,h=>by
  apply vQ h;intro a' s k;clear h;have h:=k;show Ez (q_ a X _ g h)
 |.cmp op a b,X,j,g,h=>by
  apply mq h;intro a' L B s z1;have h:=z1;erw[cb,Ŵ,nc]at h;obtain⟨⟨⟨rfl,h0⟩,l⟩,p⟩:=h;show Eu g.P g.w g.K g.u (bT a X _ g l) (bT b X _ g p) h0
 |.Qn o1 o2 a b c,X,j,g,h=>by
  apply Ff h;intro a' ab ac B c' s k;clear h;have h:=k;erw[cb,Ŵ,nc]at h;obtain⟨⟨⟨⟨⟨rfl,rfl⟩,h0⟩,l⟩,p⟩,v⟩:=h;show Bo g.P g.w g.K g.u (bT a X _ g l) (bT b X _ g p) (bT c X _ g v) h0
 |.var i,X,j,g,h=>by
  have(x,s,rfl,k):=ar h;erw[cb,Ŵ]at k;have(v,A):=aF k.2;show jU (mf k.1.1 (cE k.1.2) v A) g.K λ_=>rfl
 |.idx a b,X,j,g,h=>bz
 |.bi f es,X,j,g,h=>by
  apply cz h;intro O as s z1;have(x,G,rfl,z2):=ar z1;have h:=z2;show PT.eqv (jU (Lx g (iV es X _ g (e_ h)) h) g.K λ_=>rfl) λst Q w=>GD w
 |.Rq f es,X,j,g,h=>bz
 |.OX m a es,X,j,g,h=>bz
 |.call f es,X,j,g,h=>by
  apply cz h;intro O as s z1;have(x,G,rfl,z2):=ar z1;have h:=z2;show PT.eqv (jU (BZ g (iV es X _ g (e_ h)) h) g.K λ_=>rfl) λst Q w=>GD w
 |.cst u,X,j,g,h=>bz
 |.fst es,X,j,g,h=>bz
 |.PM x u,X,j,g,h=>bz
 |.neg a,X,j,g,h=>bz
 |.Tn a T,X,j,g,h=>by
  apply cz h;intro O as s z1;have(x,G,rfl,z2):=ar z1;clear h z1;apply qZ z2;intro a' B z4;have(y,p2,rfl,D):=ar z4;have h:=D;erw[cb,Ŵ]at h;obtain⟨⟨⟨⟨⟨rfl,rfl⟩,l⟩,p⟩,v⟩,A⟩:=h;show PT.eqv (jU (xC g.K (cq l) (g.blt _ j4) (cq p) (g.blt _ (BY T)) (bT a X _ g A) (a_ v)) g.K λ_=>rfl) λst Q w=>?_;have w:W (ev Γ a >>= λx=>M.N1 (sX x.2 T)) st Q:=w;erw[ag]at w ⊢;show W.mono w λx s1 H=>?_;have(b,e,I):=cy.mp H;show cy.mpr #[b,e,ao.mpr (cy.mpr #[b,rfl,I])]
 |.bad,X,j,g,h=>bz
 |.OD i,X,j,g,h=>bz
 |.PZ i,X,j,g,h=>by
  apply mq h;intro a' L B s z1;apply dU z1;intro o m q z2;have(x,px,rfl,D):=ar z2;erw[cb,Ŵ]at D;obtain⟨⟨⟨l,rfl⟩,rfl⟩,p⟩:=D;apply Ji l;intro p2;have(H,I,w3,w4):=dI p;have(cl,_,_,_,K,_,_,_,_,_):=g.O1.sh;show BJ K g.K g.u H I w3 w4
 |.lX i,X,j,g,h=>bz
 |.Pc f i es,X,j,g,h=>by
  have(l,p):=LD (es:=es) g h λas J=>#[iV es X.OZ as g.OZ J,bZ J,λz=>by subst z;cases es with|nil=>rfl|cons _ _=>simp[aO]at J]
  show jU (xG l) g.K p
 |.QP _ f m i es,X,j,g,h=>bz
 |.Qb f m i js,X,j,g,h=>bz
 |.pop i,X,j,g,h=>bz
 |.Sv i a,X,j,g,h=>bz
 |.To f es,X,j,g,h=>bz
 |.inD neg a i,X,j,g,h=>by
  apply mq h;intro a' L B s z1;have(x,G,rfl,z2):=ar z1;have h:=z2;erw[cb,Ŵ,nc]at h;obtain⟨⟨⟨⟨⟨rfl,h0⟩,l⟩,p⟩,v⟩,A⟩:=h;have(q1,q2):=aF v;show EW g.u l (cE p) q1 q2 (bT a X _ g A) h0
 |.U9 i,X,j,g,h=>bz
 |.W_ ln a b,X,j,g,h=>bz
 |.U_ i,X,j,g,h=>bz
 |.Qo i a b,X,j,g,h=>bz
 |.bin op a b,X,j,g,h=>bz
 |.ite c a b,X,j,g,h=>bz
 |.tup es,X,j,g,h=>bz
 |.lst es,X,j,g,h=>bz
 |.PY r,X,j,g,h=>bz
 |.Po a lo hi,X,j,g,h=>bz
 |.comp n t ik src cond e,X,j,g,h=>bz
theorem xO:∀(es:↑E) (X:Cx) (a:↑jw),Gd ck Γ C d X->aO ck es X.N X.env.scope a=b6->∀{pos},PW X (.BoolOp .And a pos) (OY C (aT Γ es))
 |[],X,a,g,h,pos=>by
  cases a with
  |nil =>
   rintro i pins s σ H Q I ⟨c0,rfl,rfl,f,w⟩;rw[show aT Γ []=pure b6 from rfl,ao]at w;show ű #[c0.H,I,w c0 rfl rfl f (Nx.refl c0)]
  |cons _ _=>simp[aO]at h
 |[e],X,a,g,h,pos=>by
  cases a with
  |nil=>simp[aO]at h
  |cons b a =>
   cases a with
   |nil=>erw[aO,cb]at h;show wU (q_ e X b g h.1.2)
   |cons _ _=>simp[aO]at h
 |e::c::es,X,a,g,h,pos=>by
  cases a with
  |nil=>simp[aO]at h
  |cons b a =>
   have h':noStar b=b6/\bM ck e X.N X.env.scope b=b6/\aO ck (c::es) X.N X.env.scope a=b6:=by
    rw[aO]at h;erw[cb]at h;show#[h.1.1,h.1.2,h.2]
   cases a with
   |nil=>have:=h'.2.2;simp[aO]at this
   |cons j k=>show EA (q_ e X b g h'.2.1) (xO (c::es) X _ g h'.2.2)
theorem B3:∀(es:↑E) (X:Cx) (a:↑jw),Gd ck Γ C d X->aO ck es X.N X.env.scope a=b6->∀{pos},PW X (.BoolOp .Or a pos) (OY C (gV Γ es))
 |[],X,a,g,h,pos=>by
  cases a with
  |nil =>
   rintro i pins s σ H Q I ⟨c0,rfl,rfl,f,w⟩;rw[show gV Γ []=pure cK from rfl,ao]at w;show isTrue_or_nil #[c0.H,I,w c0 rfl rfl f (Nx.refl c0)]
  |cons _ _=>simp[aO]at h
 |[e],X,a,g,h,pos=>by
  cases a with
  |nil=>simp[aO]at h
  |cons b a =>
   cases a with
   |nil=>erw[aO,cb]at h;show Hc (q_ e X b g h.1.2)
   |cons _ _=>simp[aO]at h
 |e::c::es,X,a,g,h,pos=>by
  cases a with
  |nil=>simp[aO]at h
  |cons b a =>
   have h':noStar b=b6/\bM ck e X.N X.env.scope b=b6/\aO ck (c::es) X.N X.env.scope a=b6:=by
    rw[aO]at h;erw[cb]at h;show#[h.1.1,h.1.2,h.2]
   cases a with
   |nil=>have:=h'.2.2;simp[aO]at this
   |cons j k=>show Iw (q_ e X b g h'.2.1) (B3 (c::es) X _ g h'.2.2)
end
def LH(g:Gd ck Γ C d X)(b:ZX e=b6)(h:bM ck e X.N X.env.scope f=b6):PE X f (zd C (ev Γ e)):=by
 cases e with
 |var i =>
  apply aX h;intro x k a;erw[cb,Ŵ]at a;have(l,m):=aF a.2;show BD a.1.1 (cE a.1.2) l m
 |cst u =>
  apply xJ h;intro c n k a;cases c with
  |int j=>have:=cR a;subst this;show jX mM λ_ _=>rfl
  |str y=>have:=cR a;subst this;show jX uD λ_ _=>rfl
  |bool y=>have:=cR a;subst this;show jX Ah λ_ _=>rfl
  |none=>have:=cR a;subst this;show jX uC λ_ _=>rfl
  |_=>cases a
 |_=>cases b
abbrev Wq(a:tP)(x:Str)(line:Nat):jw->Bool
 |.ListComp elt gens s pos=>df (a.names.lookup x≈.local)&&(line==pos.line)&&!(s.names.any λ(n,k)=>n==x&&(k==.local||k==.cell))
 |_=>cK
abbrev lu(s:va)(k:jw->Bool):Bool:=if h:s.ctorIdx=24 then Yj (motive_2:=λ_=>Bool) s h (λe _=>k e) else cK
def vY(h:lu s k=b6):∃e p,s=.Expr e p/\k e=b6:=bw h λz=>Yj s z λ_ _ _ h=>#[_,_,rfl,h]
def j5{P:va->Prop}(h:lu s k=b6)(fz:∀e p,k e=b6->P (.Expr e p)):P s:=bw h λz=>Yj s z λ_ _ _ h=>fz _ _ h
abbrev jd(s:va)(k:jw->jw->Bool):Bool:=if h:s.ctorIdx=5 then ZO (motive_2:=λ_=>Bool) s h (λts v _=>bQ ts λt=>k t v) else cK
def nP(h:jd s k=b6):∃t v p,s=.Assign [t] v p/\k t v=b6:=bw h λz=>ZO s z λts v q _ h=>by
 replace h:(bQ ts λt=>k t v)=b6:=h
 have(t,rfl,z1):=bG h;show#[_,_,_,rfl,h]
def gn{P:va->Prop}(h:jd s k=b6)(fz:∀t v p,k t v=b6->P (.Assign [t] v p)):P s:=by
 have(t,v,p,rfl,z):=nP h;show fz _ _ _ z
abbrev B4(s:va)(k:jw->Bool):Bool:=match s with|.Raise (bD e) cc _=>k e|_=>cK
def Fj{P:va->Prop}(h:B4 s k=b6)(fz:∀e p,k e=b6->P (.Raise (bD e) cc p)):P s:=by
 unfold B4 at h;split at h
 .show fz _ _ h
 .cases h
abbrev B5(s:va)(k:va->ExceptHandler->Bool):Bool:=match s with|.Try b hs [] [] _=>bQ b λb=>bQ hs λh=>k b h|_=>cK
def vZ(h:B5 s k=b6):∃b a p,s=.Try [b] [a] [] [] p/\k b a=b6:=by
 unfold B5 at h;split at h
 .have(b,rfl,z1):=bG h;apply fq z1;intro a z2;show#[_,_,_,rfl,z2]
 .cases h
abbrev B6(s:ExceptHandler)(k:jw->Str->va->↑va->Bool):Bool:=match s with|.ExceptHandler (bD t) (bD n) (b::bs) _=>k t n b bs|_=>cK
def v5(h:B6 s k=b6):∃t n b bs p,s=.ExceptHandler (bD t) (bD n) (b::bs) p/\k t n b bs=b6:=by
 unfold B6 at h;split at h
 .show#[_,_,_,_,_,rfl,h]
 .cases h
abbrev LJ(e:jw):Bool:=nL e λc=>df (c.ctorIdx=0)
def zt(h:LJ e=b6):∃j p,e=.Constant .none j p:=by
 have(c,q,p,rfl,h):=gk h;show Const.none.elim c (Ÿ h) #[_,_,rfl]
abbrev B7(s:va)(k:Str->jw->Bool):Bool:=jd s λt v=>aE t λy=>k y v
def kH(h:B7 s k=b6):∃y p v a,s=.Assign [.Name y p] v a/\k y v=b6:=by
 apply gn h;intro t v a z;apply aX z;intro y p z;show#[y,p,v,a,rfl,z]
def Jm{P:va->Prop}(h:B7 s k=b6)(fz:∀y p v a,k y v=b6->P (.Assign [.Name y p] v a)):P s:=by
 have(y,p,v,a,rfl,z):=kH h;show fz _ _ _ _ z
abbrev LK(e:jw)(k:Str->Pos->Bool):Bool:=if h:e.ctorIdx=23 then T1 (motive_1:=λ_=>Bool) e h k else cK
def Jn{P:jw->Prop}(h:LK e k=b6)(fz:∀x p,k x p=b6->P (.Name x p)):P e:=bw h λz=>T1 e z λ_ _ _ h=>fz _ _ h
abbrev GI(s:va)(k:jw->ē->jw->Bool):Bool:=if h:s.ctorIdx=7 then YH (motive_2:=λ_=>Bool) s h (λt op b _=>k t op b) else cK
def Fm{P:va->Prop}(h:GI s k=b6)(fz:∀t op b p,k t op b=b6->P (.AugAssign t op b p)):P s:=bw h λz=>YH s z λ_ _ _ _ _ h=>fz _ _ _ _ h
abbrev pJ(s:va)(k:Option jw->Bool):Bool:=if h:s.ctorIdx=3 then Xi (motive_2:=λ_=>Bool) s h (λv _=>k v) else cK
def nQ(h:pJ s k=b6):∃v p,s=.Return v p/\k v=b6:=bw h λz=>Xi s z λ_ _ _ h=>#[_,_,rfl,h]
def Fo{P:va->Prop}(h:pJ s k=b6)(fz:∀v p,k v=b6->P (.Return v p)):P s:=bw h λz=>Xi s z λ_ _ _ h=>fz _ _ h
abbrev B8(v:Option jw)(k:jw->Bool):Bool:=match v with|some e=>k e|none=>cK
def kI(h:B8 v k=b6):∃e,v≈e/\k e=b6:=by
 cases v with
 |none=>cases h
 |some e=>show#[e,rfl,h]
def Jo{P:Option jw->Prop}(h:B8 v k=b6)(fz:∀e,k e=b6->P (bD e)):P v:=by
 have(e,rfl,z):=kI h;show fz _ z
abbrev pK(s:va)(k:jw->↑va->↑va->Bool):Bool:=if h:s.ctorIdx=12 then Zm (motive_2:=λ_=>Bool) s h (λc a b _=>k c a b) else cK
def nR(h:pK s k=b6):∃c a b p,s=.If c a b p/\k c a b=b6:=bw h λz=>Zm s z λ_ _ _ _ _ h=>#[_,_,_,_,rfl,h]
def Fp{P:va->Prop}(h:pK s k=b6)(fz:∀c a b p,k c a b=b6->P (.If c a b p)):P s:=bw h λz=>Zm s z λ_ _ _ _ _ h=>fz _ _ _ _ h
abbrev B9(s:va)(k:jw->jw->↑va->Bool):Bool:=if h:s.ctorIdx=9 then ò (motive_2:=λ_=>Bool) s h (λt i b o _=>o.isEmpty&&k t i b) else cK
def v7(h:B9 s k=b6):∃t i b p,s=.For t i b [] p/\k t i b=b6:=bw h λz=>ò s z λt i b o q _ h=>by
 replace h:(o.isEmpty&&k t i b)=b6:=h
 rw[cb,my]at h;have(rfl,h):=h;show#[_,_,_,_,rfl,h]
def Fq{P:va->Prop}(h:B9 s k=b6)(fz:∀t i b p,k t i b=b6->P (.For t i b [] p)):P s:=by
 have(t,i,b,p,rfl,z):=v7 h;show fz _ _ _ _ z
abbrev Jp(s:va)(k:jw->↑va->Bool):Bool:=if h:s.ctorIdx=11 then Ã (motive_2:=λ_=>Bool) s h (λc b o _=>o.isEmpty&&k c b) else cK
def zu(h:Jp s k=b6):∃c b p,s=.While c b [] p/\k c b=b6:=bw h λz=>Ã s z λc b o q _ h=>by
 replace h:(o.isEmpty&&k c b)=b6:=h
 rw[cb,my]at h;have(rfl,h):=h;show#[_,_,_,rfl,h]
def Jq{P:va->Prop}(h:Jp s k=b6)(fz:∀c b p,k c b=b6->P (.While c b [] p)):P s:=by
 have(c,b,p,rfl,z):=zu h;show fz _ _ _ z
abbrev nU(a:tP):↑jw->↑Str->Bool
 |[],[]=>b6
 |e::es,D::b=>isNm e D&&OR a D&&bq D&&nU a es b
 |_,_=>cK
abbrev Wr(a:tP)(n:Str)(e:jw)(G:↑Str):Bool:=nM e "isinstance" λas=>eZ as λx y=>isNm x n&&if ⇑G=1 then nU a [y] G else lq y λl=>nU a l G&&df (⇑G<100)
abbrev Vi(a:tP)(n:Str):↑jw->List ↑Str->Bool
 |[],[]=>b6
 |e::es,G::Gs=>Wr a n e G&&Vi a n es Gs
 |_,_=>cK
abbrev LL(v:jw)(k:↑jw->Bool):Bool:=if h:v.ctorIdx=24 then Ub (motive_1:=λ_=>Bool) v h (λes _=>k es) else cK
def zw(h:LL v k=b6):∃es p,v=.List es p/\k es=b6:=bw h λz=>Ub v z λ_ _ _ h=>#[_,_,rfl,h]
abbrev Vj(a:↑(Str×Str×Bool))(c:Str)(G:↑Str)(b:Bool):Bool:=if ⇑G=1 then G.all λD=>df ((c,D,b)∈a) else !b&&df (2<=⇑G)&&G.all λD=>df ((c,D,cK)∈a)
abbrev LM(e:jw):Bool:=Wm "" e
def zx(h:LM e=b6):∃j p,e=.Constant (.str "") j p:=jZ h
abbrev LN(e:jw):Bool:=nL e λc=>if h:c.ctorIdx=1 then Ê (motive:=λ_=>Bool) c h id else cK
def zy(h:LN e=b6):∃j p,e=.Constant (.bool b6) j p:=by
 have(c,q,p,rfl,h):=gk h;show bw h λz=>Ê c z λi _ h=>by
  subst h;show#[_,_,rfl]
abbrev allB(N:↑Str)(a:tP)(k:Nat)(e:jw):Bool:=Fe e λelt tg b ifs scope=>aE elt λx=>aE tg λy=>aE b λz=>bQ ifs λc=>aE c λv=>df (y=x)&&df (v=x)&&Qs N a k z&&D6 ([x]++hide [x] N) [x] scope a.names&&(jY (zo scope a) x&&BS (zo scope a) x&&hU (zo scope a) x&&bq x)
abbrev Z0(N:↑Str)(c:tP)(i:Nat)(q:jw->Bool)(s:va):Bool:=B7 s λy v=>lq v λl=>eZ l λa b=>df (N[i]?≈y)&&jY c y&&LM a&&q b
abbrev LO(N:↑Str)(c:tP)(k:Nat)(e:jw):Bool:=cU e λo m b as d=>aE o λz=>bQ as λa=>df (m="index")&&Qs N c k z&&LN a&&(b.endLine==d.line)
abbrev s1B(N:↑Str)(a:tP)(k:Nat)(n:Str)(b:List ↑Str)(s:va):Bool:=B7 s λz v=>LL v λes=>df (N[k]?≈z)&&jY a z&&Vi a n es b
abbrev s2B(N:↑Str)(d:tP)(k:Nat)(n:Str)(G:↑Str)(s:va):Bool:=lu s λc=>cU c λo m b as e=>aE o λz=>bQ as λa=>df (m="append")&&Qs N d k z&&(b.endLine==e.line)&&noStar a&&Wr d n a G
abbrev s4B(N:↑Str)(d:tP)(i k:Nat)(n:Str)(s:va):Bool:=pK s λc a b=>BU c .And λes=>eZ es λe f=>bQ a λs1=>b.isEmpty&&Wr d n e ["ValueError"]&&Z0 N d i (LO N d k) s1&&ll f λl op r=>df (op=.Eq)&&Wl 1 r&&nM l "len" λas=>bQ as λa=>allB N d k a&&OR d "len"
abbrev Z1(N:↑Str)(a:tP)(i k:Nat)(n:Str)(b:List ↑Str)(G:↑Str)(s1:va)(ss:↑va):Bool:=match ss with
 |[c,d,e]=>s1B N a k n b s1&&s2B N a k n G c&&Z0 N a i (Wl 9) d&&s4B N a i k n e
 |_=>cK
abbrev Qu(n:Nat):↑Bool:=[n==0,n==1,n==2]
abbrev Xv(k:Ck)(x:Str)(a:List ↑Str)(G:↑Str)(p:Str×Nat):Bool:=df ((p.1,x)∈k.xd)&&df ((p.1,("ValueError":Str),b6)∈k.xi)&&df (p.2<4)&&df (⇑a=3)&&(a.zip (Qu p.2)).all (λr=>Vj k.xi p.1 r.1 r.2)&&Vj k.xi p.1 G (p.2==3)
abbrev B_(k:Ck):RE->↑Str->tP->jw->Bool
 |.mt d f m i es,N,c,e=>ZY k d f m i N c (λas=>aO k es N c as) e
 |.Qb f m i js,N,c,e=>ZZ k f m i js N c e
 |.arg f r,N,c,e=>nM e f λas=>bQ as λa=>df (f∈k.fns)&&OR c f&&bq f&&noStar a&&B_ k r N c a
 |.QQ r,N,c,e=>lq e λl=>eZ l λa b=>LJ b&&noStar a&&B_ k r N c a
mutual
noncomputable def zA(k:Ck):S->↑Str->tP->va->Bool
 |.set i e,N,d,s=>jd s λt v=>LK t λx p=>df (N[i]?≈x)&&jY d x&&df (d.kind=.function)&&bM k e N d v&&(dP v||Wq d x p.line v||(match v with|.ListComp _ _ _ _=>b6|_=>cK))&&(match e with|.comp _ _ _ _ _ _=>b6|_=>dP v)
 |.Qp is e,N,d,s=>jd s λt v=>lq t λ_=>Vh b6 N d (λ_=>b6) is t&&dP v&&Je v&&bM k e N d v
 |.put i a b,N,d,s=>jd s λt g=>lp t λo a'=>aE o λx=>df (N[i]?≈x)&&hU d x&&bq x&&dP g&&fm a'&&bM k a N d a'&&bM k b N d g
 |.app i e,N,d,s=>lu s λc=>cU c λo m f as h=>aE o λx=>bQ as λa=>df (m="append")&&df (N[i]?≈x)&&hU d x&&bq x&&(f.endLine==h.line)&&noStar a&&bM k e N d a
 |.Qq,_,_,_=>cK
 |.PH i,N,d,s=>B7 s λy v=>nM v "Desk" λas=>as.isEmpty&&df (N[i]?≈y)&&jY d y&&OR d "Desk"
 |.QR i e,N,d,s=>jd s λt v=>fC t λo m _=>aE o λx=>aE v λ_=>df (m="rows")&&Qs N d i x&&bM k e N d v
 |.QS i,N,d,s=>lu s λc=>cU c λo m f as h=>fC o λo1 m1 _=>aE o1 λx=>bQ as λa=>fC a λo2 m2 _=>aE o2 λB=>df (m="append")&&df (m1="earlier")&&df (m2="rows")&&df (B=x)&&(f.endLine==h.line)&&Qs N d i x
 |.ext i e,N,d,s=>lu s λc=>cU c λo m f as h=>aE o λx=>bQ as λa=>df (m="extend")&&df (N[i]?≈x)&&hU d x&&bq x&&(f.endLine==h.line)&&noStar a&&bM k e N d a
 |.bad,_,_,_=>b6
 |.newD i,N,d,s=>jd s λt v=>aE t λx=>Fc v&&df (N[i]?≈x)&&jY d x
 |.putD i a b,N,d,s=>jd s λt g=>lp t λo a'=>aE o λx=>df (N[i]?≈x)&&hU d x&&bq x&&dP g&&fm a'&&bM k a N d a'&&bM k b N d g
 |.P0 i a e,N,d,s=>lu s λc=>cU c λo m f as h=>lp o λC a'=>aE C λx=>bQ as λb=>df (m="append")&&df (N[i]?≈x)&&hU d x&&bq x&&fm a'&&(f.endLine==h.line)&&noStar b&&bM k a N d a'&&bM k e N d b&&ZX e
 |.aug sub i a e,N,d,s=>GI s λt op b=>lp t λo a'=>aE o λx=>df (op=if sub=b6 then .Sub else .Add)&&df (N[i]?≈x)&&hU d x&&bq x&&fm a'&&bM k a N d a'&&bM k e N d b&&ZX e
 |.W' _,_,_,_=>cK
 |.exp e,N,d,s=>lu s λu=>dP u&&bM k e N d u
 |.ret e,N,d,s=>pJ s λv=>B8 v λu=>bM k e N d u
 |.Sw,_,_,_=>cK
 |.ite c a b,N,d,s=>pK s λw a' g=>bM k c N d w&&eB k a N d a'&&eB k b N d g
 |.Oh t is D src body,N,d,s=>B9 s λtg q z=>Vh t N d (λ_=>b6) is tg&&vO q&&(match hZ d tg D q with
    |some as=>aO k src N d as
    |none=>cK)&&eB k body N d z
 |.Ue c body,N,d,s=>Jp s λw z=>bM k c N d w&&eB k body N d z
 |.brk,_,_,_=>cK
 |.cnt,_,_,_=>cK
 |.U' _,_,_,_=>cK
 |.Rr c e,N,d,s=>B4 s λr=>nM r c λas=>bQ as λa=>df (c∈k.xc)&&OR d c&&bq c&&noStar a&&bM k e N d a
 |.O4 r,N,d,s=>pJ s λv=>B8 v λe=>B_ k r N d e
 |.Sx i c b c1 c2,N,d,s=>pK s λt a o=>ll t λl op r=>aE l λx=>bQ a λs1=>pJ s1 λv=>B8 v λe=>cU e λg m f as h=>eZ as λH I=>o.isEmpty&&df (op=.Eq)&&Wm c r&&Qs N d i x&&df (m="replace")&&Wm c1 H&&Wm c2 I&&mj g&&(f.endLine==h.line)&&!(c1==c2)&&df (⇑c2<=14)&&bM k b N d g
 |.RS r i x J j l A G,N,d,s=>B5 s λb L=>jd b λty v=>aE ty λy=>B6 L λO n s1 ss=>(B_ k r N d v&&dP v&&df (N[i]?≈y)&&jY d y)&&(isNm O x&&OR d x&&bq x&&J.all (Xv k x A G))&&(df (N[j]?≈n)&&BS d n&&bq n&&OR d "isinstance")&&(Z1 N d i l n A G s1 ss&&df (i≠l/\j≠l/\i≠j)&&df (⇑A<100)&&df (d.kind=.function))
 |.Xa,_,_,_=>cK
noncomputable def eB(k:Ck):↑S->↑Str->tP->↑va->Bool
 |[],_,_,a=>a.isEmpty
 |s::ss,N,b,a=>match a with
  |s'::a=>zA k s N b s'&&eB k ss N b a
  |[]=>cK
end
section
variable{ck:Ck}{Γ:Tab}{C:Ct}{d:Nat}{X:Cx}
def ie(h:jY a x=b6):Loc a x:=by
 unfold jY at h;erw[RB,Ŵ]at h;show h
def ig(h:dP v=b6):QA v t line env=pure cK:=by
 cases v<;>first|rfl|cases h
def rf(h:dP v=b6):Wk [t] v line env=pure cK:=by
 show ig h
def Fs(h:fm i=b6):∀a b new,Ū i a b new=(do KX [new,a,b] (WZ a b new);Y0 [new,a,b] [];pure .next):=by
 intro a b new;cases i<;>first|rfl|cases h
def xP(h:fm i=b6):∀v,Vu (.Subscript o i p) env v=(do
   let a <-KX [v] (p8 o env)
   let b <-KX [v,a] (p8 i env)
   WY p
   KX [v,a,b] (WZ a b v)
   Y0 [v,a,b] []):=by
 intro v;cases i<;>first|rfl|cases h
structure Gs(ck:Ck)(Γ:Tab)(C:Ct)(d:Nat)(X:Cx):Prop where
 gd:Gd ck Γ C d X
 nd:X.N.Nodup
 fn:∀x,X.fn x=b6
 po:Zn (gs X.prog X.w) X.A X.env X.xe
 kd:X.env.scope.kind=.function
 xs:Uu ck X.K X.mg
 xl:∀c H',C.xw (.str c) H'->∀C' T H pins σ s e s',W.nsIn X.K i5 c≈bD (.ref C')->Inv X pins σ H s->cw X.prog X.w X.stack H s e C' T .none H' s'->X.xe (.ref e) s'
 sk:X.stack=X.env::X.outer/\X.env.frame≈X.env.locals
 ex:X.ex=[]
def xQ(g:Gd ck Γ C d X)(h:(match hZ X.env.scope tg i b with|some as=>aO ck src X.N X.env.scope as|none=>cK)=b6):PI X tg b (Rt C i (bH Γ src)):=by
 split at h
 .rename_i as c;show GC g c (iV src X _ g h) (λa e=>by
   subst e;cases src with
   |nil=>simp[aO]at h
   |cons f j =>
    cases j with
    |nil =>
     erw[aO,cb]at h;show#[f,rfl,bT f X _ g h.1.2]
    |cons _ _=>simp[aO]at h) (bZ h)
 .cases h
def nV{pos p a:Pos}(hk:X.env.scope.kind=.function):QA (.ListComp elt gens s pos) (bD (.Name x p)) a.line X.env=pure (Wq X.env.scope x p.line (.ListComp elt gens s pos)):=by
 have b:X.env.blockKind=.function:=by
  unfold Env.blockKind;rw[hk];rfl
 change pure (X.env.blockKind==.function&&X.env.kindOf x==bD _&&p.line==pos.line&&!(s.names.any λ(n,k)=>n==x&&(k==.local||k==.cell)))=_;unfold Wq;have:(X.env.kindOf x==bD NameKind.local)=df (X.env.scope.names.lookup x≈.local):=by
  unfold Env.kindOf;rw[ve];simp
 simp_all
def Jr{src cond}(G:Gs ck Γ C d X)(hi:X.N[i]?≈x)(u:jY X.env.scope x=b6)
  (h:bM ck (.comp n t v src cond e) X.N X.env.scope (.ListComp elt [⟨tg,a,ifs,0⟩] scope pos)=b6) (ns) (l:∀j,ns j=b6->j≠i) :
  L2.PS X (.Assign [.Name x p] (.ListComp elt [⟨tg,a,ifs,0⟩] scope pos) QL) (Oo C ns (ev Γ (.comp n t v src cond e) >>= λr=>eX i r >>= λ_=>pure .nx)):=by
 have g:=G.gd;have m:=bT _ X _ g h;cases c:Wq _ x _ _ with
 |false=>show Gy l G.nd hi (ie u) (.inl (G.fn x)) m (by rw[nV G.kd,c])
 |true =>
  have hl:=by
   erw[Wq,cb,Ŵ]at c;show c.1.1
  have(o,y,f,q,Z2,p',A,h0):=fL h;cases A;clear h m;erw[cb,Ŵ]at h0;obtain⟨⟨⟨⟨⟨⟨⟨B,J⟩,L⟩,O⟩,T⟩,Y⟩,b⟩,h8⟩:=h0;subst B;have S:=u9  rfl (kG _ _) J;show IL l S g.calm G.nd hi hl (xQ g T) (λD s H ex=>xM  g.calm g.K S.nd (λ_ z=>z) L)
   (λD s H ex=>by
    cases ifs with
    |nil =>
     cases cond with
     |nil=>show λpins s σ H Q I ⟨c0,k,e2,ok,w⟩=>w_ pins s σ H Q I (by subst k e2;rw[show aT Γ []=pure b6 from rfl,ao]at w;show w c0 rfl rfl ok (Nx.refl c0))
     |cons _ _=>simp[aO]at b
    |cons c1 cs =>
     cases cs with
     |nil =>
      cases cond with
      |nil=>simp[aO]at b
      |cons k OC =>
       cases OC with
       |nil =>
        erw[aO,cb]at b;show qz (q_ k _ c1 (g.cx _ _ _ _ _ _) b.1.2)
       |cons _ _=>simp[aO]at b
     |cons _ _=>simp at Y)
   (λD s H ex=>bT e _ elt (g.cx _ _ _ _ _ _) h8) (by rw[nV G.kd,c]) (vX O)
def Ft(G:Gs ck Γ C d X)(h:zA ck (.Rr c e) X.N X.env.scope b=b6):L2.PS X b (Oo C (Uj (.Rr c e)) (exec Γ (.Rr c e))):=by
 apply Fj h;intro r t g;apply BX g;intro as u p2 z1;apply fq z1;intro a f;erw[cb,Ŵ]at f;obtain⟨⟨⟨⟨i,j⟩,k⟩,l⟩,m⟩:=f;have(n,o,p,q):=G.xs.xc _ i;show Ll G.gd.calm (cq j) o (aF k).1 q (bT e X a G.gd m) (a_  l) λH' w pins σ s e b I F=>G.xl _ H' w n cc H' pins σ s e b p I F
def Ca(h:Vj a c G b=b6):Xu a c G b:=by
 unfold Vj at h;split at h
 .rename_i e
  match G,e with
  |[D],_=>show .inl #[D,rfl,by simp_all]
 .simp only[cb,nc,Ŵ]at h;show .inr #[h.1.1,h.1.2,λD f=>Ÿ (lx.mp h.2 D f)]
def GJ(m:vW ck X.K X.mg)(h:nU X.env.scope [e] [D]=b6)(f:(c,D,b)∈ck.xi):∃p j g,e=.Name D p/\PE X (.Name D p) (tC j)/\(∀u,RelV j u->u=g)/\∀a,W.nsIn X.K i5 c≈bD (.ref a)->gI X.K a=b6/\W.kitOne X.K (.ref a) g≈b:=by
 erw[nU,cb]at h;obtain⟨⟨⟨n,k⟩,o⟩,_⟩:=h;have(p,rfl):=iO n;have(g,q,l):=m D #[_,f,rfl];rcases q with⟨r,rfl,i⟩|⟨rfl,rfl,i⟩
 .show#[p,_,_,rfl,λpins s σ H Q I z=>eD I (cq k) i #[.ref r,H,I,rfl,z] (aF o).1,λu z=>z,λa hn=>l _ f rfl a hn]
 .show#[p,.ty _,_,rfl,wR (cq k) i (show so _≈_ by decide +kernel) rfl (by decide +kernel) (by rfl),λu z=>z,λa hn=>l _ f rfl a hn]
theorem Cb(a:vW ck X.K X.mg):∀{es}{G},nU X.env.scope es G=b6->(∀D∈G,(c,D,cK)∈ck.xi)->(∃ds,nq X c es ds)/\⇑es=⇑G
 |[],[],_,_=>#[#[[],.nil],rfl]
 |[],_::_,h,_=>by simp[nU]at h
 |_::_,[],h,_=>by simp[nU]at h
 |e::es,D::G,h,b=>by
  have f:nU X.env.scope [e] [D]=b6:=by
   erw[nU,cb]at h ⊢;show#[h.1,ttt]
  have g:=by
   erw[nU,cb]at h;show h.2
  have(p,k,l,rfl,k1,k2,k3):=GJ a f (b D il);have((ds,i),k5):=Cb a g λD j=>b D (f7 _ j);show#[#[_,.cons k1 k2 k3 i],by simp[k5]]
def GK(hi:X.N[j]?≈n)(g:OB X.env.scope n)(i:(n==("__debug__":Str))=cK)(k:(n==("__classdict__":Str))=cK)(m:Gl X "isinstance")(o:X.mg "isinstance"=cc)(q:vW ck X.K X.mg)(h:Wr X.env.scope n e G=b6)(t:Xu ck.xi c G b):PE X e (vv X.K j c b):=by
 have(as,p,A,rfl,u):=eS (show nM e "isinstance" _=b6 from h);have(x,y,rfl,a):=dm u;rw[cb]at a;have(B,rfl):=iO a.1;rcases t with⟨D,rfl,f⟩|⟨rfl,Qy,f⟩
 .have(p2,H,I,rfl,k1,k2,k3):=GJ q (a.2) f;show H9 hi g i k m o k1 k2 k3
 .have r:=a.2;rw[Ŷ ⋯]at r;have(l,J,p2,rfl,s):=gm r;rw[cb,Ŵ]at s;have((v,w),k5):=Cb q s.1 f;show H_ hi g i k m o w (λz=>by rw[z]at k5;simp at k5;lia) ⋯
theorem Ce(hi:X.N[j]?≈n)(f:OB X.env.scope n)(g:(n==("__debug__":Str))=cK)(i:(n==("__classdict__":Str))=cK)(k:Gl X "isinstance")(l:X.mg "isinstance"=cc)(m:vW ck X.K X.mg):
  ∀{es} {a} {bs},Vi X.env.scope n es a=b6->⇑a=⇑bs->(∀r∈a.zip bs,Xu ck.xi c r.1 r.2)->PA X es (xv X.K j c bs)
 |[],[],[],_,_,_=>cC
 |[],[],_::_,_,h,_=>by simp at h
 |[],_::_,_,h,_,_=>by simp[Vi]at h
 |_::_,[],_,h,_,_=>by simp[Vi]at h
 |_::_,_::_,[],_,h,_=>by simp at h
 |e::es,G::a,b::bs,h,hl,o=>by
  erw[Vi,cb]at h;have hs:i0 (e::es) X.env=(cK,p8 e X.env)::i0 es X.env:=by
   have(_,_,_,rfl,_):=eS (h.1);rfl
  show bB (GK hi f g i k l m h.1 (o _ il)) (Ce hi f g i k l m h.2 (by exists hl) λr p=>o r (f7 _ p)) hs
def Js(h:n<4):(Qu n++[n==3]).filter id=[b6]/\(Qu n++[n==3])[n]?≈b6/\∀m,m<n->(Qu n++[n==3])[m]?≠bD b6:=by
 match n,h with
 |0,_=>decide
 |1,_=>decide
 |2,_=>decide
 |3,_=>decide
abbrev Z4(X:Cx)(ck:Ck)(j:Nat)(n c:Str)(ea:hH):Prop:=∀{e:jw}{a:↑Str}{b:Bool},Wr X.env.scope n e a=b6->Xu ck.xi c a b->PE (X.NP ea) e (vv X.K j c b)
def Nf(G:Gs ck Γ C d X)(e:X.N[j]?≈n)(f:OB X.env.scope n)(o:(n=="__debug__")=cK/\(n=="__classdict__")=cK)(g:OR X.env.scope "isinstance"=b6)(i:⇑b=3)(l:(b.zip (Qu m)).all (λr=>Vj ck.xi c r.1 r.2)=b6)(h:s1B X.N X.env.scope k n b s=b6):L2.PS (X.NP ea) s (yp (Hz (xv X.K j c (Qu m))) (kS k))/\k<⇑X.N:=by
 have(z,t,v,u,rfl,p):=kH h;have(es,w,rfl,a):=zw p;erw[cb,Ŵ]at a;show#[mP (X:=X.NP ea) G.nd a.1.1 (ie a.1.2) (uS (Ce (X:=X.NP ea) (bs:=Qu m) e f o.1 o.2 (cq g) (G.gd.blt _ j4) G.xs.xi a.2 i λr q=>Ca (lx.mp l r q))) rfl (.inl (G.fn _)),(eH.mp a.1.1).1]
def Ng(i:Z4 X ck j n c ea)(l:Vj ck.xi c m b=b6)(h:s2B X.N X.env.scope k n m s=b6):L2.PS (X.NP ea) s (Am (VF X.K "list" wY (lQ k) (kX (vv X.K j c b) r_))):=by
 have(D,G,rfl,p):=vY h;have(o,H,f,as,I,rfl,q):=ia p;have(J,r,rfl,t):=ar q;have(L,rfl,g):=bG t;erw[cb,Ŵ]at g;obtain⟨⟨⟨⟨rfl,u⟩,v⟩,a⟩,w⟩:=g;have(x,y,z,A):=dI u;show iF (pb (X:=X.NP ea) F.plainAttrs_list F.slot_list_append F.type_list_append iG (a9 x y z A) (bB (i w (Ca l)) cC (a_ a)) rfl (by rw[(bj (λe B=>by rw[kr.mp B];show a)).2];rfl) v (a_ a) rfl) rfl
abbrev tPr(a:TE)(i:Nat):TS:=yp (Ku (kX (tC (.str "")) (kX a r_))) (kS i)
def LP(G:Gs ck Γ C d X)(h:Z0 X.N X.env.scope i q s=b6)(f:∀e,q e=b6->PE (X.NP ea) e g/\noStar e=b6):L2.PS (X.NP ea) s (tPr g i):=by
 have(y,u,v,w,rfl,j):=kH h;have(l,x,z,rfl,k):=gm j;have(a,b,rfl,c):=dm k;erw[cb,Ŵ]at c;obtain⟨⟨⟨m,n⟩,o⟩,p⟩:=c;have(_,_,rfl):=zx o;have(r,t):=f b p;show mP (X:=X.NP ea) G.nd m (ie n) (uR (bB uD (bB r cC (a_ t)))) rfl (.inl (G.fn _))
def Nh(c:LO X.N X.env.scope k e=b6):PE (X.NP ea) e (VF X.K "list" vp (lQ k) (kX (tC (.bl b6)) r_))/\noStar e=b6:=by
 have(o,r,a,as,s,rfl,f):=ia c;have(t,g,rfl,h):=ar f;have(u,rfl,b):=bG h;erw[cb,Ŵ]at b;obtain⟨⟨⟨rfl,i⟩,j⟩,l⟩:=b;have(m,n,p,q):=dI i;have(_,_,rfl):=zy j;show#[pb (X:=X.NP ea) F.plainAttrs_list F.slot_list_index F.type_list_index A3 (a9 m n p q) (bB Ah cC) rfl rfl l rfl rfl,rfl]
abbrev Jt(X:Cx)(k:Nat)(ea:hH)(oe:Obj):TE:=sC 1 (A5 X.K (lQ k) ea oe) (kS 0) (tB (lQ 0)) (lQ 0)
def Ni(l:oe.data=.fields ws)(m:ws[2]?≈.none)(h:allB X.N X.env.scope k e=b6):PE (X.NP ea) e (Jt X k ea oe)/\noStar e=b6:=by
 have(elt,tg,c,ifs,a,n,rfl,o):=fL h;have(J,p,rfl,q):=ar o;have(L,r,rfl,t):=ar q;have(O,u,rfl,v):=ar t;have(Q,rfl,w):=bG v;have(b,x,rfl,f):=ar w;erw[cb,Ŵ]at f;obtain⟨⟨⟨⟨rfl,rfl⟩,y⟩,z⟩,⟨⟨A,B⟩,g⟩,G⟩:=f;have(k1,k2,k3,I):=dI y;have(k5,j):=aF G;have S:=u9 (X:=X.NP ea) rfl (kG _ _) z;show#[A6 (X:=X.NP ea) (pos:=n) (tg:=.Name b r) (elt:=.Name b p) (ifs:=[.Name b x]) S rfl l m (a9 (pos:=u) k1 k2 k3 I) (λD s H ex=>qa (X:=OA (X.NP ea) _ a D s H ex) (i:=0) S.nd rfl (ie A) (.inr (Ÿ B))) (λD s H ex=>qz (Aj (a9 (X:=OA (X.NP ea) _ a D s H ex) (i:=0) rfl (cE g) k5 j))) (λD s H ex=>a9 (X:=OA (X.NP ea) _ a D s H ex) (i:=0) rfl (cE g) k5 j) λ_=>rfl,rfl]
abbrev tLn(a:TE):TE:=WR rEq (tCB (λxs H Q=>∃p ys,xs=[V.ref p]/\(N_ X.K H p ys\/Oi X.K H p ys)/\Q (V.int ⇑ys) H) (kX a r_)) (tC (.int ((1:Nat):Int)))
def Nj(G:Gs ck Γ C d X)(n:oe.data=.fields ws)(o:ws[2]?≈.none)(h:(ll e λl op r=>df (op=.Eq)&&Wl 1 r&&nM l "len" λas=>bQ as λa=>allB X.N X.env.scope k a&&OR X.env.scope "len")=b6):PT (X.NP ea) e (Aq (tLn (X:=X) (Jt X k ea oe))):=by
 have(l,op,r,q,rfl,m):=jr h;erw[cb,Ŵ]at m;have((rfl,c),f):=m;have(s,t,rfl):=nN c;have(u,v,w,rfl,x):=eS f;have(y,rfl,b):=bG x;rw[cb]at b;have(b,g):=b;have(PC,sn):=Ni (ea:=ea) n o b;have(_,_,_,_,_,_,rfl,_):=fL b;show DN (pos:=q) Gi (Ax (X:=X.NP ea) (p:=v) (pos:=w) fV (cq g) (G.gd.blt _ ⋯) PySem.boot_len (bB PC cC)) (mM (i:=((1:Nat):Int)) (j:=s) (pos:=t)) rfl
def Nk(G:Gs ck Γ C d X)(g:Z4 X ck j n c ea)(c2:(c,("ValueError":Str),b6)∈ck.xi)(l:oe.data=.fields ws)(m:ws[2]?≈.none)(h:s4B X.N X.env.scope i k n s=b6):L2.PS (X.NP ea) s (Kf (Ka (tB (vv X.K j c b6)) (Aq (tLn (X:=X) (Jt X k ea oe)))) (Hi (tPr (VF X.K "list" vp (lQ k) (kX (tC (.bl b6)) r_)) i) Al) Al):=by
 have(c0,x,b0,o,rfl,p):=nR h;have(q,r,rfl,t):=pG p;have(a,u,rfl,v):=dm t;have(y,rfl,e):=bG v;erw[cb,my]at e;obtain⟨⟨⟨rfl,f⟩,w⟩,b⟩:=e;show Gg (X:=X.NP ea) (pos:=o) (PW.pt (Ak (pos:=r) (Aj (g f (.inl #[_,rfl,c2])) (by have(_,_,_,rfl,_):=eS (show nM a "isinstance" _=b6 from f);intro _;rfl)) (wU (Nj G l m b)))) (dy (LP G w λ_=>Nh) iE) iE
def LQ(G:Gs ck Γ C d X)(hj:X.N[j]?≈n)(Xx:BS X.env.scope n=b6)(Ny:bq n=b6)(Xw:OR X.env.scope "isinstance"=b6)(J:i≠k/\j≠k/\i≠j)(hp:Xv ck x Ds Z6 p=b6)(h:Z1 X.N X.env.scope i k n Ds Z6 s1 ss=b6):SuD X (s1::ss) i j k p:=by
 intro ea oe ws hd L;have(c,m):=p;erw[Xv,cb,Ŵ]at hp;obtain⟨⟨⟨⟨⟨_,c2⟩,c3⟩,c4⟩,c5⟩,c6⟩:=hp;have(b1,b2,b3):=Js c3;unfold Z1 at h;split at h
 rotate_left
 .cases h
 rename_i s2 s3 s4;erw[cb]at h;obtain⟨⟨⟨z1,z2⟩,z3⟩,z4⟩:=h;have hv:OB X.env.scope n:=.inl (Ÿ Xx);have(o1,o2):=aF Ny;have kd:Z4 X ck j n c ea:=λh1 L=>GK (X:=X.NP ea) hj hv o1 o2 (cq Xw) (G.gd.blt _ j4) G.xs.xi h1 L;have(P1,w1):=Nf (ea:=ea) G hj hv #[o1,o2] Xw c4 c5 z1;show#[_,dy P1 (dy (Ng kd c6 z2) (dy (LP G z3 λe he=>by have(_,_,rfl):=nN he;show#[mM (i:=(9:Nat)),rfl]) (dy (Nk G kd c2 hd L z4) iE))),λD σ H u Cc hl hσ B O hn q=>?_];have Td:k < ⇑σ:=by rw[hl];show w1
 have hsz:(1000:Nat)<=c8:=⋯
 unfold Hi yp Hz;show sT hσ O hn (Qu m) H _ B λH1 o=>#[by rw[ei];change 3<=c8;lia,λa S9=>?_]
 have g1:(σ.set k (bD (V.ref a)))[k]?≈bD (.ref a):=fx Td;have g2:(σ.set k (bD (V.ref a)))[j]?≈bD (.ref ea):=by rw[hQ (mh J.2.1)];show hσ
 have e1:=o _ _ B;show#[.ref a,g1,.inl #[rfl,_,N_.of aj],ea,oe,u,Cc,g2,by rw[ai (av e1 S9)];show e1,O,hn,λQ r=>#[a,_,_,rfl,rfl,r _ _ aj,by rw[ei];change 3<c8;lia,?_]];have s:fW H (upd Q a (.lst ((Qu m).map V.bl++[.bl (m==3)]))):=λy f b=>by
  have y1:=o _ _ b;have t:=av y1 S9;rw[ai t];show r _ _ (by rw[ai t];show y1)
 show#[by change 2<=c8;lia,λp2 Yo=>?_];have g3:((σ.set k (bD (V.ref a))).set i (bD (V.ref p2)))[k]?≈bD (.ref a):=by rw[hQ J.1];show g1
 have g4:((σ.set k (bD (V.ref a))).set i (bD (V.ref p2)))[j]?≈bD (.ref ea):=by rw[hQ J.2.2];show g2
 have g:∀y f,upd Q a (.lst ((Qu m).map V.bl++[.bl (m==3)])) y≈f->upd (upd Q a (.lst ((Qu m).map V.bl++[.bl (m==3)]))) p2 (.tup [.str "",.int (9:Nat)]) y≈f:=λy f b=>by rw[ai (av b Yo)];show b
 show#[ea,oe,u,Cc,g4,g _ _ (s _ _ B),O,hn,λv w=>#[b6,rfl,?_]];have A:fW H v:=λy f b=>w _ _ (g _ _ (s _ _ b));have I:v a≈.lst ((Qu m++[m==3]).map V.bl):=by rw[mn];show w _ _ (g _ _ aj)
 change(if b6=b6 then _ else _);rw[ŵ rfl];show#[.ref a,g3,a,rfl,#[_,N_.of I],A7 (by simp[Qu]) I #[u,A _ _ B] λT Y=>#[T,_,rfl,.inl (N_.of aj),rfl,b6,?_,?_]]
 .rw[b1];rfl
 have l:∀y f,v y≈f->upd v T (.lst (((Qu m++[m==3]).filter id).map V.bl)) y≈f:=λy f b=>by rw[ai (av b Y)];show b
 change(if b6=b6 then _ else _);rw[ŵ rfl];show#[.ref a,g3,.inl #[rfl,_,N_.of (l _ _ I)],a,_,b6,m,rfl,rfl,l _ _ I,b2,b3,by change 2<=c8;lia,λp4 ab=>?_];have z:=q (upd (upd v T (.lst (((Qu m++[m==3]).filter id).map V.bl))) p4 (.tup [.str "",.int m])) (.ref a) p4 (λy f b=>by have t:=l _ _ (A _ _ b);rw[ai (av t ab)];show t) aj;change D.nx _ _;rw[Ń];show z
theorem Fu(G:Gd ck Γ C d X):∀r e,B_ ck r X.N X.env.scope e=b6->PR X C e (Pp Γ r)
 |.mt b f m i es,e,h=>LB (es:=es) G h λas g=>#[iV es X.OZ as G.OZ g,bZ g,λz=>by subst z;cases es with|nil=>rfl|cons _ _=>simp[aO]at g]
 |.Qb f m i js,e,h=>LC G h
 |.arg f r,e,h=>by
  have(as,p,A,rfl,z):=eS (show nM e f _=b6 from h);clear h;have(a,rfl,c):=bG z;erw[cb,Ŵ]at c;obtain⟨⟨⟨⟨j,k⟩,n⟩,o⟩,s⟩:=c;have(B,fa,D,ps,t,u,v,x,y,H):=(G.fns _ j)
  show Lp G.P G.w G.K rfl y t G.room (cq k) u v x (aF n).1 (Fu G r a s) (a_ (es:=[]) o)
 |.QQ r,e,h=>by
  have(l,q,p,rfl,z):=gm (show lq e _=b6 from h);clear h;have(a,b,rfl,c):=dm z;erw[cb]at c;have(_,_,rfl):=zt c.1.1;show Jb (Fu G r a c.2) uC (a_ c.1.2) rfl
def Fv(G:Gs ck Γ C d X)(h:zA ck (.Sx i c b c1 c2) X.N X.env.scope f=b6):L2.PS X f (Oo C (Uj (.Sx i c b c1 c2)) (exec Γ (.Sx i c b c1 c2))):=by
 have(t,a,o,p,rfl,z1):=nR (show pK f _=b6 from h);have(l,op,r,p2,rfl,z2):=jr z1;have(x,px,rfl,g):=ar z2;have(s1,rfl,j):=bG g;have(v,p6,rfl,k):=nQ j;have(e,rfl,n):=kI k;have(w,m,q,as,Nu,rfl,s):=ia n;have(a1,a2,rfl,u):=dm s;clear h z1 z2 g j k n s;erw[cb,Ŵ,my,nc]at u;obtain⟨⟨⟨⟨⟨⟨⟨⟨⟨⟨⟨rfl,rfl⟩,y⟩,z⟩,rfl⟩,A⟩,B⟩,D⟩,H⟩,I⟩,J⟩,L⟩:=u;have(_,_,rfl):=jZ y;have(_,_,rfl):=jZ A;have(_,_,rfl):=jZ B;have(O,Q,T,Y):=dI z;show Lu O Q T Y (bT b X w G.gd L) (j3 D) H I J
def Fw(G:Gs ck Γ C d X)(h:zA ck (.RS r i x c j l e f) X.N X.env.scope o=b6):L2.PS X o (Oo C (Uj (.RS r i x c j l e f)) (exec Γ (.RS r i x c j l e f))):=by
 have(b,hd,p,rfl,z1):=vZ (h);have(ty,v,p4,rfl,z2):=nP z1;have(y,p1,rfl,g):=ar z2;have(tx,n,s1,ss,q,rfl,z):=v5 g;clear h z1 z2 g;erw[cb,Ŵ]at z;obtain⟨⟨⟨⟨⟨⟨s,t⟩,u⟩,w⟩,⟨⟨b1,A⟩,b3⟩,b4⟩,⟨⟨c1,c2⟩,B⟩,D⟩,⟨⟨H,I⟩,d3⟩,d4⟩:=z;have(p5,rfl):=iO b1;show Ls (λm a=>by have a:(df (m≠i)&&(df (m≠j)&&df (m≠l)))=b6:=a;exists a) G.nd c1 (Ÿ c2) u (ie w) (G.fn _) (Fu G.gd r v s) (ig t) G.sk G.ex (cq A) (aF b3).1 λp J=>?_;have z:=lx.mp b4 p J;have k:=z;erw[Xv,cb,Ŵ]at k;have(L,O,r1,Q,T,Y):=G.xs.xd _ k.1.1.1.1.1;show#[L,O,T,Q,Y,LQ G c1 c2 B D I z H]
def Cg(G:Gs ck Γ C d X)(h:zA ck (.PH i) X.N X.env.scope b=b6):L2.PS X b (Oo C (Uj (.PH i)) (exec Γ (.PH i))):=by
 apply Jm h;intro y p v m z1;apply BX z1;intro as p2 n z2;erw[cb,Ŵ,my]at z2;obtain⟨⟨⟨rfl,c⟩,e⟩,f⟩:=z2;have(cl,o,q,r,K,g,M,F,k,l):=G.gd.O1.sh;show Jd K g G.gd.K (λj a=>by have a:df (j≠i)=b6:=a;exists a) G.nd c (ie e) (.inl (G.fn _)) M F (G.gd.room.mono G.gd.O1.lv) (cq f) l k
mutual
theorem Nl:∀(s:S) (X:Cx) (f:va),Gs ck Γ C d X->zA ck s X.N X.env.scope f=b6->L2.PS X f (Oo C (Uj s) (exec Γ s))
 |.set i e,X,f,G,h=>by
  apply gn h;intro t v p1 z1;apply Jn z1;intro x p z2;clear h z1;have h:=z2;erw[cb,Ŵ]at h;obtain⟨⟨⟨⟨⟨g,k⟩,J⟩,A⟩,L⟩,O⟩:=h;have OG:∀j,Uj (.set i e) j=b6->j≠i:=λj Q=>Ÿ (show df (j≠i)=b6 from Q);by_cases hc:dP v=b6
  .show Gy OG G.nd g (ie k) (.inl (G.fn x)) (bT e X v G.gd A) (ig hc)
  .cases e with
   |comp n t ik src cond e =>
    have(elt,tg,ac,ifs,scope,p3,rfl,_):=fL A;show Jr G g k A _ OG
   |_=>show absurd O hc
 |.Qp is e,X,f,G,h=>by
  apply gn h;intro t v p1 z1;have(es,kk,p,rfl,z2):=gm z1;clear h z1;have h:=z2;erw[cb]at h;obtain⟨⟨⟨g,k⟩,J⟩,A⟩:=h;show IM (λj Q=>Ÿ (show df (j∉is)=b6 from Q)) (bT e X v G.gd A) (xM (fa:=λ_=>b6) G.gd.calm G.gd.K G.nd (λx _=>G.fn x) g) (rf k) ?_ rfl;cases v<;>first|rfl|cases J
 |.put i a b,X,f,G,h=>by
  apply gn h;intro t v p z1;apply gh z1;intro o a' p1 z2;apply aX z2;intro x px B;erw[cb,Ŵ]at B;obtain⟨⟨⟨⟨⟨⟨g,k⟩,J⟩,A⟩,L⟩,O⟩,h7⟩:=B;have(T,Y):=aF J;show Lj G.gd.P G.gd.w G.gd.K G.gd.u g (cE k) T Y (bT b X _ G.gd h7) (bT a X _ G.gd O) (rf A) rfl (xP L)
 |.Qq,X,f,G,h=>by cases h
 |.PH i,X,f,G,h=>Cg G h
 |.QR i e,X,f,G,h=>by
  apply gn h;intro t v p1 z1;apply dU z1;intro o m q z2;apply aX z2;intro x px B;have(y,py,rfl,z4):=ar B;erw[cb,Ŵ]at z4;have((rfl,g),k):=z4;have(w1,w2,w3,w4):=dI g;have(cl,_,_,_,K,_,_,_,_,_):=G.gd.O1.sh;show IW K G.gd.K w1 w2 w3 w4 (bT e X _ G.gd k) rfl
 |.QS i,X,f,G,h=>by
  apply j5 h;intro c p0 z1;apply cN z1;intro o m ab as Nu z2;apply dU z2;intro o1 m1 T B;apply aX B;intro x px z4;apply fq z4;intro a z5;apply dU z5;intro o2 m2 Y z6;apply aX z6;intro x2 al z7;erw[cb,Ŵ]at z7;obtain⟨⟨⟨⟨⟨rfl,rfl⟩,rfl⟩,rfl⟩,g⟩,k⟩:=z7;have(w1,w2,w3,w4):=dI k;have(cl,_,_,_,K,_,_,_,_,_):=G.gd.O1.sh;show IX K G.gd.K w1 w2 w3 w4 g
 |.app i e,X,f,G,h=>by
  apply j5 h;intro c p0 z1;apply cN z1;intro o m ab as Nu z2;apply aX z2;intro x px B;apply fq B;intro a z4;erw[cb,Ŵ]at z4;obtain⟨⟨⟨⟨⟨⟨rfl,g⟩,k⟩,J⟩,A⟩,L⟩,O⟩:=z4;have(T,Y):=aF J;have st:=a_ (env:=X.env) (es:=[]) L;have sa:=(bj (pos:=Nu) (env:=X.env) (es:=[a]) λe he=>by simp at he;subst he;show L).2;show Lh G.gd.K g (cE k) T Y (bT e X _ G.gd O) ?_ A st;rw[sa];rfl
 |.ext i e,X,f,G,h=>by
  apply j5 h;intro c p0 z1;apply cN z1;intro o m ab as Nu z2;apply aX z2;intro x px B;apply fq B;intro a z4;erw[cb,Ŵ]at z4;obtain⟨⟨⟨⟨⟨⟨rfl,g⟩,k⟩,J⟩,A⟩,L⟩,O⟩:=z4;have(T,Y):=aF J;have st:=a_ (env:=X.env) (es:=[]) L;have sa:=(bj (pos:=Nu) (env:=X.env) (es:=[a]) λe he=>by simp at he;subst he;show L).2;show Li G.gd.K g (cE k) T Y (bT e X _ G.gd O) ?_ A st;rw[sa];rfl
 |.bad,X,f,G,h=>λpins sh σ H D I ⟨_,_,_,_,w⟩=>(bf.mp w).elim
 |.newD i,X,f,G,h=>by
  apply gn h;intro t v p1 z1;apply aX z1;intro x p z2;clear h z1;have h:=z2;erw[cb,Ŵ]at h;have(p2,rfl):=pH h.1.1;show IS (λj Q=>Ÿ (show df (j≠i)=b6 from Q)) G.nd h.1.2 (ie h.2) (.inl (G.fn _)) (ig rfl)
 |.putD i a b,X,f,G,h=>by
  apply gn h;intro t v p z1;apply gh z1;intro o a' p1 z2;apply aX z2;intro x px B;erw[cb,Ŵ]at B;obtain⟨⟨⟨⟨⟨⟨g,k⟩,J⟩,A⟩,L⟩,O⟩,h7⟩:=B;have(T,Y):=aF J;show IT G.gd.u g (cE k) T Y (bT b X _ G.gd h7) (bT a X _ G.gd O) (rf A) rfl (xP L)
 |.P0 i a e,X,f,G,h=>by
  apply j5 h;intro c p0 z1;apply cN z1;intro o m ab as Nu z2;apply gh z2;intro o' a' p1 B;apply aX B;intro x px z4;apply fq z4;intro b z5;erw[cb,Ŵ]at z5;obtain⟨⟨⟨⟨⟨⟨⟨⟨⟨rfl,g⟩,k⟩,J⟩,A⟩,L⟩,O⟩,h7⟩,h8⟩,h9⟩:=z5;have ha:=LH (C:=C) (Γ:=Γ) (d:=d) (ck:=ck) G.gd h9 h8;have(T,Y):=aF J;have st:=a_ (env:=X.env) (es:=[]) O;have sa:=(bj (pos:=Nu) (env:=X.env) (es:=[b]) λe he=>by simp at he;subst he;show O).2;show IU G.gd.K G.gd.u g (cE k) T Y ha (bT a X _ G.gd h7) (tI A) ?_ L st;rw[sa];rfl
 |.aug sub i a e,X,f,G,h=>by
  apply Fm h;intro t op b p z0;clear h;have h:=z0;apply gh h;intro o a' p1 z1;apply aX z1;intro x px z2;erw[cb,Ŵ]at z2;obtain⟨⟨⟨⟨⟨⟨⟨rfl,g⟩,k⟩,J⟩,A⟩,L⟩,O⟩,h7⟩:=z2;have ha:=LH (C:=C) (Γ:=Γ) (d:=d) (ck:=ck) G.gd h7 O;have(T,Y):=aF J;show Lm g (cE k) T Y ha (bT a X _ G.gd L) (Fs A)
 |.W' i,X,f,G,h=>absurd (show cK=b6 from h) ke
 |.exp e,X,f,G,h=>by
  apply j5 h;intro e' p z0;clear h;have h:=z0;erw[cb]at h;show Lb (bT e X _ G.gd h.2) (ig h.1)
 |.ret e,X,f,G,h=>by
  apply Fo h;intro v p z0;apply Jo z0;intro e' z1;clear h z0;have h:=z1;show Lc (bT e X _ G.gd h)
 |.Sw,X,f,G,h=>absurd (show cK=b6 from h) ke
 |.ite c a b,X,f,G,h=>by
  apply Fp h;intro c' a' b' p z0;clear h;have h:=z0;erw[cb]at h;have ha:=ly a X _ G h.1.2;have hb:=ly b X _ G h.2;show Le (q_ c X _ G.gd h.1.1) (OT.weak ha λD σ H z=>qW (λj Q=>(oa.mp (show(Pk a j&&Pk b j)=b6 from Q)).1) z) (OT.weak hb λD σ H z=>qW (λj Q=>(oa.mp (show(Pk a j&&Pk b j)=b6 from Q)).2) z)
 |.Oh t is ik src body,X,f,G,h=>by
  apply Fq h;intro tg ac P8 p z0;clear h;have h:=z0;rw[cb,cb,cb]at h;show Lg G.po G.gd.calm (xQ G.gd h.1.2) (xM (fa:=λ_=>b6) G.gd.calm G.gd.K G.nd (λx _=>G.fn x) h.1.1.1) (ly body X _ G h.2) (vX h.1.1.2) λj Q=>by have Q:(df (j∉is)&&Pk body j)=b6:=Q;exists Q
 |.Ue c body,X,f,G,h=>by
  apply Jq h;intro c' P8 p z0;clear h;have h:=z0;erw[cb]at h;show Lf G.po (q_ c X _ G.gd h.1) (ly body X _ G h.2)
 |.brk,X,f,G,h=>absurd (show cK=b6 from h) ke
 |.cnt,X,f,G,h=>absurd (show cK=b6 from h) ke
 |.U' is,X,f,G,h=>absurd (show cK=b6 from h) ke
 |.Rr c e,X,f,G,h=>Ft G h
 |.RS r i x Qr j l Ds Gp,X,f,G,h=>Fw G h
 |.Sx i c b c1 c2,X,f,G,h=>Fv G h
 |.O4 r,X,f,G,h=>by
  have(v,p,rfl,z):=nQ (show pJ f _=b6 from h);have(e,rfl,z):=kI z;show Jc (Fu G.gd r e z) G.xl
 |.Xa,X,f,G,h=>absurd (show cK=b6 from h) ke
theorem ly:∀(ss:↑S) (X:Cx) (a:↑va),Gs ck Γ C d X->eB ck ss X.N X.env.scope a=b6->OT X a (Oo C (Pk ss) (execs Γ ss))
 |[],X,a,G,h=>by
  cases a with
  |nil=>show La
  |cons _ _=>simp[eB]at h
 |s::ss,X,a,G,h=>by
  cases a with
  |nil=>simp[eB]at h
  |cons c a =>
   erw[eB,cb]at h;have e:=Nl s X c G h.1;have f:=ly ss X a G h.2;show IK (PS.weak e λD σ H z=>qW (λj b=>by erw[Pk,cb]at b;show b.1) z) (OT.weak f λD σ H z=>qW (λj b=>by erw[Pk,cb]at b;show b.2) z)
end
end
section
variable{ck:Ck}{Γ:Tab}{d:Nat}{P:rS}{w:wk}{K:PySem.W.Frag}{mg:Str->Option g8}{base:K2}
def iP{n i:Nat}(h:(start us n)[i]?≈bD (k,u)):us[i]?≈u/\k=if NY u=b6 then .loc else .any:=by
 unfold start at h;by_cases hi:i<⇑us
 .rw[qs ⋯,sd]at h;rw[Rv hi]at h ⊢;erw[ü,Zz,Prod.mk.injEq]at h;have(a,b):=h;subst b;show#[rfl,a.symm]
 .rw[pe ⋯,O']at h;simp_all
def dn{i:Nat}(h:vs[i]?≈v):(L2.start N vs)[i]?≈bD v:=by
 unfold L2.start;have hi:=(eH.mp h).1;rw[qs ⋯,sd,h];rfl
def Ci(p:∀a,f a->PV H a)(h:aq #[P,w,K,H,f,λ_=>False,q] f H us vs)(hn:⇑N=n):Ok ⟨P,w,K,H,f,λ_=>False,q⟩ ⟨λ_=>False,H,L2.start N vs,start us n,λ_=>[]⟩:=by
 have b:∀(j:Nat) (u:U),(start us n)[j]?≠bD (bD (.A',u)):=λj u e=>by
  have:=(iP e).2;split at this<;>cases this
 show#[λa o e _=>e,λa z=>z.elim,λa z=>#[p a z,λz=>z],λa z=>z.elim,?_,λi k u e=>?_,λi j k k' u u' r hk t g m x y=>?_,#[λj u r e _=>(b j u e).elim,λi j a ⟨u,_,e,_,_⟩=>(b i u e).elim,λj a ⟨u,_,e,_,_⟩=>(b j u e).elim]]
 .have:=h.len;simp[start,L2.start,hn];lia
 .have(g,m):=iP e;have(v,ev,c):=h.get g;show#[v,dn ev,?_];subst m;by_cases l:NY u=b6
  .rw[ŵ l];show Rep.NY l c
  .rw[Ŷ l];show Rep.mv (.up λa z=>.inl z) c
 .have(_,s):=iP g;subst s;split at hk<;>cases hk
def rg(h:bK Γ fn us≈.ok (k,u)):⇑us=fn.np/\((k=.own\/k=.loc\/k=.any)/\(∃st',execs Γ fn.body (start us fn.ns)≈(.ok (.rt k u),st'))\/(k=.loc/\u=.Nz/\∃st',execs Γ fn.body (start us fn.ns)≈(.ok .nx,st'))):=by
 unfold bK at h;split at h
 .rename_i hl;show#[hl,?_];split at h
  .rename_i e;cases h;show .inl #[.inl rfl,_,e]
  .rename_i e;cases h;show .inl #[.inr (.inl rfl),_,e]
  .rename_i e;cases h;show .inl #[.inr (.inr rfl),_,e]
  .rename_i e;cases h;show .inr #[rfl,rfl,_,e]
  .cases h
  .cases h
 .cases h
def tJ(h:bK Γ fn us≈.exc c):⇑us=fn.np/\∃st',execs Γ fn.body (start us fn.ns)≈(.ok (.rt .io (.str c)),st'):=by
 unfold bK at h;split at h
 .rename_i hl;show#[hl,?_];split at h
  .cases h
  .cases h
  .cases h
  .cases h
  .rename_i e;cases h;show#[_,e]
  .cases h
 .cases h
def GL{st}(F:Q0 K fn.name j st f fd)(S:dc N ps (aD st))(hN:⇑N=fn.ns)(PJ:⇑ps=fn.np)
  (RC:eB ck fn.body N (aD st) (bP st)=b6) (t:∀x∈bR,mg x=cc) (y:∀g∈ck.fns,zr P w K mg base d (Γ g) g)
  (P7:∀p∈ck.gl,∃val v,mg p.1≈val/\RelV v val/\∀C S H,Rep C S H p.2 v) (O1:Wo ck Γ P w K mg base d) (xs:Uu ck K mg):dF P w K mg base (PD P w) (d+1) f fd ps (spT P w K (bK Γ fn) fn.np):=by
 have(oc,od,kV,ab,pm,an,OO,ct,R_,rfl,lk,NU):=F.ex;show wV lk NU S (λvs H Q E h=>h.1.trans PJ.symm) λA outer s H vs Q E O h=>?_;have(hl,us,r,B,Y,D,J,b):=h;have Uk:=O.un;let l:Ct:=#[P,w,K,H,B,λ_=>False,λu H'=>∃c,u=.str c/\∀i,W.nsIn K i5 c≈bD (.ref i)->E (.ref i) cc H']
 have L:(Vd P w K H B).Eqv l:=#[rfl,rfl,rfl]
 have m:l.Eqv (Vd P w K H B):=#[rfl,rfl,rfl]
 have G:Gs ck Γ l d (qi (PD P w) P w K mg base N j _ f OO A outer s H E) :=
  #[#[rfl,rfl,rfl,by change(A.deeper _).units+60<C0;lia,rfl,O,t,y,λp hp=>let ⟨val,v,L,m,q3⟩:=P7 p hp;⟨val,v,L,m,q3 _⟩,O1],S.nd,λ_=>rfl,XA,S.kind,xs,
   λc H' ⟨c',e1,hE⟩ i T H2 pins σ s2 e s' hm I F=>by
    cases e1;show F.leave I.ok.frames rfl I.stack I.iC λT' PL F'=>#[e,i,T',H',rfl,F'.down I rfl rfl rfl,hE i hm],
   #[rfl,rfl]
   ,rfl
   ]
 show#[_,ly _ _ _ G RC,_,rfl,rfl,Ci D (J.cg L) hN,?_];cases r with
 |exc c =>
  have(_,st',e):=tJ Y;show#[_,st',e,λcf ec ok n kp=>#[c,rfl,λi hC=>b i cf.H hC λa o z=>ok.same a o z λz=>z]]
 |ok x =>
 have(k,u):=x;have(hk,b):=b;have(_,q):=rg Y;have mk:∀(c:Cf),Ok l c->∀v,IJ l c k u v->Back _ H c.H c.S k u v:=λc ok v r=>by
  show#[λa o e=>ok.same a o e λz=>z,λa z=>ok.O8 a z,λe=>?_,λe=>?_,λe=>?_]
  .subst e;have(r0,e,h1,h2,h3,h4):=r;show#[r0,e,h1,h2,h4.cg m]
  .subst e;show Rep.cg m r
  .subst e;show Rep.cg m r
 rcases q with⟨_,st',e⟩|⟨rfl,rfl,st',e⟩
 .rcases hk with rfl|rfl|rfl<;>show#[_,st',e,λc ec ok n kp v r=>b v c.H c.S (mk c ok v r)]
 .show#[_,st',e,λc ec ok n kp=>b .Nz c.H c.S (mk c ok .Nz rfl)]
def zB{d}(q:c.Eqv C)(g:c.O7=C.O7)(t:c.H₀=C.H₀)(h:c.IO=C.IO)(a:Ja c C.H₀ r as (.ob d u0 us0) us vs)(hn:⇑N=n)(hl:⇑us<n):Ok C #[λ_=>False,C.H₀,L2.start N (.ref r::vs),cD (.ob d u0 us0::us) n,λ_=>as]:=by
 have l:∀(j:Nat) (k:Kd) (u:U),(cD (.ob d u0 us0::us) n)[j]?≈bD (k,u)->(j=0/\k=.A'/\u=.ob d u0 us0)\/∃i,j=i+1/\us[i]?≈u/\k=if NY u=b6 then .loc else .any:=λj k u e=>by
  cases j with
  |zero=>cases e;show .inl #[rfl,rfl,rfl]
  |succ i=>show .inr #[i,rfl,iP (n:=n - 1) (by assumption)]
 have rt:∀(j:Nat) (k:Kd) (u:U),k.root=b6->(cD (.ob d u0 us0::us) n)[j]?≠bD (bD (k,u)):=λj k u hk e=>by
  rcases l j k u e with⟨_,rfl,_⟩|⟨_,_,_,rfl⟩
  .cases hk
  .split at hk<;>cases hk
 have b:∀(j:Nat) (u:U),(cD (.ob d u0 us0::us) n)[j]?≈bD (.A',u)->j=0/\u=.ob d u0 us0:=λj u e=>by
  rcases l j _ u e with⟨z,_,z2⟩|⟨_,_,_,z⟩
  .show#[z,z2]
  .split at z<;>cases z
 show#[λa o e _=>e,λa z=>z.elim,λx z=>by have:=a.par x (g▸z);show#[this.1,h▸this.2],λx z=>?_,?_,λj k u e=>?_,λi j k k' u u' r hk D m s G H=>(rt i k u hk m).elim,#[λj u I e s=>?_,λi j x ⟨u,_,e,_,_⟩ ⟨u',_,y,_,_⟩=>(b i u e).1.trans (b j u' y).1.symm,λj x _ ⟨i,k,u,hk,e,_⟩=>rt i k u hk e]]
 .have(o,ho,_):=ba.there a.ob x ((a.iod x).mp (h▸z));show#[#[o,ho],o,ho]
 .have:=a.any.len;simp[cD,start,L2.start,hn];lia
 .rcases l j k u e with⟨rfl,rfl,rfl⟩|⟨i,rfl,m,rfl⟩
  .show#[_,dn rfl,r,rfl]
  .have(v,b1,f):=a.any.get m;have f:=f.cg q;show#[v,dn (by exists b1),?_];by_cases p:NY u=b6
   .rw[ŵ p];show Rep.NY p f
   .rw[Ŷ p];show Rep.mv (.up λa z=>.inl (g▸z)) f
 .have(rfl,rfl):=b j u e;cases s;show a.ob.Xq q λx A=>by
   have(z1,z2,B):=a.ob.fr x A;show#[z1,g▸z2,t▸h▸B]
def xR(h:eY Γ fn body us≈.ok r):⇑us=fn.np/\∃f st k u o,execs Γ body (cD us fn.ns)≈(.ok f,st)/\Ts f≈(k,u)/\Xd st≈o/\r=(k,.tup [u,o]):=by
 unfold eY at h;split at h
 .rename_i hl;show#[hl,?_];split at h
  .rename_i f st e;rw[ki]at h;have(a,b,h):=h;rw[g7]at h;have(o,c,h):=h;cases h;show#[f,st,a.1,a.2,o,e,b,c,rfl]
  .cases h
 .cases h
def Cj{st}(h:Xd st≈o):∃d u us,o=.ob d u us/\st[0]?≈bD (.A',.ob d u us):=by
 unfold Xd at h;split at h
 .cases h;show#[_,_,_,rfl,rfl]
 .cases h
def Cm(h:Ts f≈(k,u)):f=.nx/\k=.loc/\u=.Nz\/k=.loc/\f=.rt .loc u\/∃c,k=.io/\u=.str c/\f=.rt .io (.str c):=by
 unfold Ts at h;split at h
 .cases h;show .inr (.inl #[rfl,rfl])
 .cases h;show .inr (.inr #[_,rfl,rfl,rfl])
 .cases h;show .inl #[rfl,rfl,rfl]
 .cases h
def Ju{st}(F:Q0 K x m st f fd)(S:dc N ps (aD st))(hN:⇑N=fn.ns)(PJ:⇑ps=fn.np)(SM:fn.np<=fn.ns)(OG:Pk body 0=b6)
  (RC:eB ck body N (aD st) (bP st)=b6) (D:∀x∈bR,mg x=cc) (J:∀g∈ck.fns,zr P w K mg base d (Γ g) g)
  (P7:∀p∈ck.gl,∃val v,mg p.1≈val/\RelV v val/\∀C S H,Rep C S H p.2 v) (O1:Wo ck Γ P w K mg base d) (xs:Uu ck K mg):dF P w K mg base (PD P w) (d+1) f fd ps (Tu P w K (eY Γ fn body) fn.np):=by
 have(oc,od,kV,ac,pm,an,OO,ct,R_,rfl,lk,NU):=F.ex;show wV lk NU S (λvs H Q E h=>h.1.trans PJ.symm) λA outer s H vs Q E hr h=>?_;have(hl,r,N0,us,d0,u0,us0,k,u,o,as,t,IO,rfl,N4,L,b):=h;have Uk:=hr.un;let l:Ct:=#[P,w,K,H,t,IO,λu H'=>∃c,u=.str c/\∀j,W.nsIn K i5 c≈bD (.ref j)->E (.ref j) cc H']
 have O:(RY P w K H t IO).Eqv l:=#[rfl,rfl,rfl]
 have B:l.Eqv (RY P w K H t IO):=#[rfl,rfl,rfl]
 have G:Gs ck Γ l d (qi (PD P w) P w K mg base N m (aD st) f OO A outer s H E) :=
  #[#[rfl,rfl,rfl,by change(A.deeper _).units+60<C0;lia,rfl,hr,D,J,λp hp=>let ⟨val,v,O,B,q3⟩:=P7 p hp;⟨val,v,O,B,q3 _⟩,O1],S.nd,λ_=>rfl,XA,S.kind,xs,
   λc H' ⟨c',Y,hE⟩ j T H2 pins σ s2 e s' hm I F=>by
    cases Y;show F.leave I.ok.frames rfl I.stack I.iC λT' PL F'=>#[e,j,T',H',rfl,F'.down I rfl rfl rfl,hE j hm],
   #[rfl,rfl],rfl]
 have(Ta,fl,st',k',u',o',e,Y,e2,e3):=xR N4;show#[_,ly body _ _ G RC,_,rfl,rfl,zB (C:=l) O rfl rfl rfl L hN (by grind),?_];cases e3;have(d2,u2,ab,rfl,NF):=Cj e2;have q:∀(c:Cf),c.st=st'->Ok l c->Kept (Pk body) #[λ_=>False,H,L2.start N (.ref r::N0),cD (.ob d0 u0 us0::us) fn.ns,λ_=>as] c->∀(k:Kd) (u:U) v,(k=.loc->IJ l c .loc u v)->tw (RY P w K H t IO) H c.H c.S r (.ob d2 u2 ab) k u v:=λc ec i kp k u v r2=>by
  rw[<-ec]at NF;have(v0,y1,r',y2):=i.sl 0 _ _ NF;subst y2;have Wz:=y1;rw[kp.1 0 OG]at Wz;cases Wz;have rd:=i.dd.kd 0 _ _ NF y1;show#[λx y z1 z2=>i.same x y z1 z2,λx y z1=>?_,λx z=>i.O8 x z,#[_,λa ha=>(rd.fr a (f7 _ ha)).2.2.symm,rd.Xq B rd.fr],λhk=>Rep.cg B (r2 hk)];by_cases z:IO x
  .show(i.io x z).2
  .show#[y,i.same x y z1 z]
 show#[fl,st',e,λc ec i n kp=>?_];have q:=q c ec i kp;rcases Cm Y with⟨rfl,rfl,rfl⟩|⟨rfl,rfl⟩|⟨c',rfl,rfl,rfl⟩
 .rcases b with⟨_,b⟩|⟨z,_⟩
  .show b .Nz c.H c.S (q .loc .Nz .Nz λ_=>rfl)
  .cases z
 .rcases b with⟨_,b⟩|⟨z,_⟩
  .show λv r=>b v c.H c.S (q .loc _ v λ_=>r)
  .cases z
 .rcases b with⟨z,_⟩|⟨_,c2,e5,b⟩
  .cases z
  .cases e5;show#[c',rfl,λj hC=>b j c.H c.S hC (q .io .Nz .Nz λz=>by rfl)]
def Fx(h:runN Γ fn body us≈.ok (.loc,.tup [x,y])):∃st,execs Γ body (fB us fn.ns)≈(.ok (.rt .loc x),st)/\st[3]?≈bD (.own,y):=by
 unfold runN at h;split at h
 .unfold Io at h;split at h
  .rename_i u st e;split at h
   .rename_i w a;cases h;show#[st,e,a]
   .cases h
  .cases h
 .cases h
def zC{S}(a:E6 C S H [x,y,z] l r [c,f,g])(v:⇑N=n)(hn:4<=n):Ok C #[S,H,L2.start N [c,f,g,.ref r],fB [x,y,z,l] n,λ_=>[]]/\∀b,Cf.R #[S,H,L2.start N [c,f,g,.ref r],fB [x,y,z,l] n,λ_=>[]] b->b=r:=by
 have o:∀(j:Nat) (k:Kd) (u:U),(fB [x,y,z,l] n)[j]?≈bD (k,u)->(k=.loc/\(j=0/\u=x\/j=1/\u=y\/j=2/\u=z))\/(j=3/\k=.own/\u=l):=λj k u e=>by
  match j with
  |0=>cases e;show .inl #[rfl,.inl #[rfl,rfl]]
  |1=>cases e;show .inl #[rfl,.inr (.inl #[rfl,rfl])]
  |2=>cases e;show .inl #[rfl,.inr (.inr #[rfl,rfl])]
  |3=>cases e;show .inr #[rfl,rfl,rfl]
  |j+4 =>
   have e:(kb (n - 4) (cc:Option (Kd×U)))[j]?≈bD (k,u):=e;rw[O']at e;split at e<;>cases e
 have s:(L2.start N [c,f,g,.ref r])[3]?≈bD (.ref r):=dn rfl;have(L,_,p,A,O,_,q,B,Q,_,t,D,G):=a.rep;cases p;cases q;cases t;have rt:∀(j:Nat) (k:Kd) (u:U),k.root=b6->(fB [x,y,z,l] n)[j]?≈bD (k,u)->j=3:=λj k u hk e=>by
  rcases o j k u e with⟨rfl,_⟩|⟨z,_⟩
  .cases hk
  .show z
 have h:∀(j:Nat) (u:U),(fB [x,y,z,l] n)[j]?≠bD (bD (.A',u)):=λj u e=>by
  rcases o j _ u e with⟨z,_⟩|⟨_,z,_⟩<;>cases z
 show#[#[a.same,a.O8,a.par,a.io,?_,λi k u e=>?_,λi j k k' u u' T hk I p q t G=>(rt i k u hk p).trans (rt j k' u' I q).symm,#[λj u r e _=>(h j u e).elim,λi j a ⟨u,_,e,_,_⟩=>(h i u e).elim,λj a ⟨u,_,e,_,_⟩=>(h j u e).elim]],λb J=>?_]
 .simp[fB,L2.start,v]
 .rcases o i k u e with⟨rfl,⟨rfl,rfl⟩|⟨rfl,rfl⟩|⟨rfl,rfl⟩⟩|⟨rfl,rfl,rfl⟩
  .show#[_,dn rfl,A]
  .show#[_,dn rfl,B]
  .show#[_,dn rfl,D]
  .show#[_,s,r,rfl,a.rt.1,a.rt.2.1,a.rt.2.2.1,a.rt.2.2.2]
 .rcases J with⟨j,k,u,hk,e,m⟩|⟨j,u,_,e,_,_⟩
  .have e:(fB [x,y,z,l] n)[j]?≈bD (k,u):=e;have m:(L2.start N [c,f,g,.ref r])[j]?≈bD (.ref b):=m;rw[rt j k u hk e,s]at m;cases m;rfl
  .show(h j u e).elim
def Jv{st}(F:Q0 K x i st f fd)(S:dc N ps (aD st))(hN:⇑N=fn.ns)(PJ:⇑ps=fn.np)(SM:4<=fn.ns)(QV:fn.np=4)(OG:Pk body 3=b6)
  (RC:eB ck body N (aD st) (bP st)=b6) (D:∀x∈bR,mg x=cc) (J:∀g∈ck.fns,zr P w K mg base d (Γ g) g)
  (P7:∀p∈ck.gl,∃val v,mg p.1≈val/\RelV v val/\∀C S H,Rep C S H p.2 v) (O1:Wo ck Γ P w K mg base d) (xs:Uu ck K mg):dF P w K mg base (PD P w) (d+1) f fd ps (Xr P w K (runN Γ fn body)):=by
 have(oc,od,kV,ab,pm,an,OO,ct,R_,rfl,lk,NU):=F.ex;show wV lk NU S (λvs H Q E h=>h.1.trans (QV▸PJ.symm)) λA outer s H vs Q E L h=>?_;have(hl,C,S0,us,l,r,u,y,N0,O,Y,hK,rfl,hu,N4,b,j):=h;have Uk:=L.un;let q:Ct:=#[P,w,K,C.H₀,C.O7,C.IO,λu H'=>∃c,u=.str c/\∀k,W.nsIn K i5 c≈bD (.ref k)->E (.ref k) cc H']
 have t:C.Eqv q:=#[O,Y,hK]
 have B:q.Eqv C:=#[O.symm,Y.symm,hK.symm]
 have G:Gs ck Γ q d (qi (PD P w) P w K mg base N i _ f OO A outer s H E) :=
  #[#[rfl,rfl,rfl,by change(A.deeper _).units+60<C0;lia,rfl,L,D,J,λp hp=>let ⟨val,v,t,B,q3⟩:=P7 p hp;⟨val,v,t,B,q3 _⟩,O1],S.nd,λ_=>rfl,XA,S.kind,xs,
   λc H' ⟨c',e1,hE⟩ k T H2 pins σ s2 e s' hm I F=>by
    cases e1;show F.leave I.ok.frames rfl I.stack I.iC λT' PL F'=>#[e,k,T',H',rfl,F'.down I rfl rfl rfl,hE k hm],
   #[rfl,rfl],rfl]
 have(st',e,e2):=Fx N4
 match us,hu with
 |[u1,u2,u3],_ =>
  match N0,b.rep.len with
  |[v1,v2,v3],_ =>
   have m:E6 q S0 H [u1,u2,u3] l r _:=#[b.same,b.O8,b.par,b.io,#[b.rt.1,b.rt.2.1,b.rt.2.2.1,b.rt.2.2.2.cg t],b.rep.cg t]
   have(O0,hR):=zC (N:=N)  m hN SM;show#[_,ly body _ _ G RC,_,rfl,rfl,O0,_,st',e,λc ec ok n kp v rv=>?_];rw[<-ec]at e2;have(v0,y1,r',rfl,y2,y3,y4,y5):=ok.sl 3 _ _ e2;have Wz:=y1;rw[kp.1 3 OG]at Wz;cases Wz;show j v c.H c.S #[λa o z1 z2=>n.keep a o z1 λz=>z2 (hR a z),n.sub,λa z=>?_,y5.cg B,Rep.cg B rv];rcases n.new a z with z'|z'|z'
   .show .inl z'
   .rw[hR a z']at z;show(y2 z).elim
   .show .inr #[z',(ok.O8 a z).2]
abbrev Fn.bd(fn:Fn):↑S:=match fn.ob with|some b=>b|none=>match fn.io with|some p=>p.2|none=>fn.body
abbrev Vk(fn:Fn):Bool:=match fn.ob with|some b=>Pk b 0|none=>match fn.io with|some p=>Pk p.2 3&&df (fn.np=4)|none=>b6
inductive Ld(ck:Ck)(K:W.Frag)(mg:Str->Option g8)(fn:Fn)(b:Bool)(m:Str):Prop
 |mk (x qual:Str) (st:va) (f:hH) (fd:VD) (N ps:↑Str):Q0 K x qual st f fd->(m=""->x=fn.name/\mg fn.name≈.ref f)->(m≠""->∀cl,Ro K b cl->Meth K cl m f)->Binds K fd ps []->dc N ps (aD st)->⇑N=fn.ns->⇑ps=fn.np->eB ck fn.bd N (aD st) (bP st)=b6->Vk fn=b6->fn.np<=fn.ns->Ld ck K mg fn b m
def Fy{Pg:↑Fn}(a:(Pg.map (·.name)).Nodup)(h:fn∈Pg):Pg.find? (λg=>df (g.name=fn.name))≈fn:=by
 induction Pg with
 |nil=>cases h
 |cons g Pg b =>
  rw[i6,nH]at a;rcases eT.mp h with rfl|h
  .simp
  .rw[List.find?_cons];have:df (g.name=fn.name)=cK:=by
    apply ŷ;intro z;show a.1 (z▸B' h)
   rw[this];show b a.2 h
def rh(a:(Pg.map (·.name)).Nodup)(h:fn∈Pg):N7 Pg (d+1) fn.name=iT (N7 Pg d) fn:=by
 funext us
 change(match Pg.find? λg=>decide _ with|some fn=>iT _ fn us|none=>cc)=_;rw[Fy a h]
def pL(h:fn.ob=cc)(a:fn.io=cc):iT Γ fn=bK Γ fn:=by unfold iT;rw[h,a]
def Fz(h:fn.ob≈b):iT Γ fn=eY Γ fn b:=by unfold iT;rw[h]
def FA(h:fn.ob=cc)(a:fn.io≈p):iT Γ fn=runN Γ fn p.2:=by unfold iT;rw[h,a]
abbrev Lq(ck:Ck)(Pg:↑Fn)(K:W.Frag)(mg:Str->Option g8):Prop:=∀g∈ck.O1,∃fn∈Pg,fn.name=g/\fn.ob=cc/\(∃p,fn.io≈p)/\Ld ck K mg fn b6 ""
def xS(NP:(Pg.map (·.name)).Nodup)(Qa:Lq ck Pg K mg)(L:∀x∈bR,mg x=cc)(P7:∀p∈ck.gl,∃val v,mg p.1≈val/\RelV v val/\∀C S H,Rep C S H p.2 v)
  (ld:∀g∈ck.fns,∃fn∈Pg,fn.name=g/\fn.ob=cc/\fn.io=cc/\Ld ck K mg fn b6 "") (lo:∀q∈ck.obs,∃fn∈Pg,fn.name=q.1/\(∃b,fn.ob≈b)/\Ld ck K mg fn q.2.1 q.2.2) (sh:Wn P w K mg base) (xs:Uu ck K mg):∀d,(∀g∈ck.fns,zr P w K mg base (d+4) (N7 Pg d g) g)/\Wo ck (N7 Pg d) P w K mg base (d+4):=by
 intro d;induction d with
 |zero =>
  show#[λg O=>?_,λq hq=>?_,sh,hY _,λg O=>?_]
  .have(fn,I,rfl,j,n,l):=ld g O;have(x,a,st,f,o,N,ps,F,t,_,B,S,J,D,_,_,_):=l;show#[fn.np,f,o,ps,#[λvs H Q E h=>h.1.trans D.symm,λA outer s H args us vs Q E _ _ _ _ h=>by have(_,us,r,_,e,_):=h;cases e],(t rfl).2,F.kp,B,λus k u e=>(by cases e),λus c e=>by cases e]
  .have(fn,I,e,_,l):=lo q hq;have(x,a,st,f,o,N,ps,F,t,RV,B,S,J,D,_,_,_):=l;show#[fn.np,f,o,ps,#[λvs H Q E h=>h.1.trans D.symm,λA outer s H args us vs Q E _ _ _ _ h=>by have(_,_,_,_,_,_,_,_,_,_,_,_,_,_,e,_):=h;cases e],λz=>e▸(t z).2,F.kp,RV,B,λus k e=>by cases e]
  .have(fn,I,rfl,j,(p,n),l):=Qa g O;have(x,a,st,f,o,N,ps,F,t,_,B,S,J,D,G,i,Y):=l;unfold Vk at i;rw[j,n]at i;erw[cb,Ŵ]at i;show#[f,o,ps,#[λvs H Q E h=>h.1.trans (i.2▸D.symm),λA outer s H args us vs Q E _ _ _ _ h=>by have(_,_,_,_,_,_,_,_,_,_,_,_,_,_,e,_):=h;cases e],(t rfl).2,F.kp,B]
 |succ d T =>
  show#[λg O=>?_,λq hq=>?_,sh,⋯,λg O=>?_]
  .have(fn,I,rfl,j,n,l):=ld g O;have(x,a,st,f,o,N,ps,F,t,_,B,S,J,D,G,_,_):=l;have(rfl,ab):=t rfl;rw[rh NP I,pL j n];rw[show fn.bd=fn.body by unfold Fn.bd;rw[j,n]]at G;show#[fn.np,f,o,ps,GL F S J D G L T.1 P7 T.2 xs,ab,F.kp,B,λus k u e=>?_,λus c e=>(tJ e).1];have(j,n):=rg e;show#[?_,j];rcases n with⟨z,_⟩|⟨z,_⟩
   .show z
   .show .inr (.inl z)
  .have(fn,I,e,(b,Q5),l):=lo q hq;have(y,bb,m):=q
   dsimp only at e Q5 l
   subst e;have(x,a,st,f,o,N,ps,F,t,RV,B,S,J,D,G,i,Y):=l;rw[rh NP I,Fz Q5];rw[show fn.bd=b by unfold Fn.bd;rw[Q5]]at G;unfold Vk at i;rw[Q5]at i;show#[fn.np,f,o,ps,Ju F S J D Y i G L T.1 P7 T.2 xs,λz=>(t z).2,F.kp,RV,B,λus r e=>(xR e).1]
  .have(fn,I,rfl,j,(p,n),l):=Qa g O;have(x,a,st,f,o,N,ps,F,t,_,B,S,J,D,G,i,Y):=l;rw[rh NP I,FA j n];rw[show fn.bd=p.2 by unfold Fn.bd;rw[j,n]]at G;unfold Vk at i;rw[j,n]at i;erw[cb,Ŵ]at i;show#[f,o,ps,Jv F S J D (i.2▸Y) i.2 i.1 G L T.1 P7 T.2 xs,(t rfl).2,F.kp,B]
end
abbrev FC(ns:↑Int):U:=.lst (ns.map .int)
theorem pM{S}:∀(ns:↑Int),aq C S H (ns.map .int) (ns.map V.int)
 |[]=>rfl
 |n::ns=>#[_,_,rfl,rfl,pM ns]
def v8(h:N_ C.K H a (ns.map V.int)):Rep C (PV H) H (FC ns) (.ref a):=by
 show#[a,_,rfl,?_,pM ns];rcases h with(h|⟨o,h⟩)|h
 .show .inl #[#[_,h],.inl h]
 .show .inl #[#[_,h],.inr #[o,h]]
 .show .inr h
theorem tK:∀{l:↑α},(∀a∈l,f a=g a)->l.filterMap f=l.filterMap g
 |[],_=>rfl
 |a::l,h=>by rw[O_,O_,h a ⋯,tK λb c=>h b (by simp[c])]
theorem xT:∀(l:↑Str) (us:↑g8),l.Nodup->⇑us=⇑l->l.filterMap (λn=>((l.zip us).lookup n).map (n,·))=l.zip us
 |[],_,_,_=>rfl
 |a::l,[],_,h=>nomatch h
 |a::l,u::us,b,h=>by
  rw[nH]at b;have c:=xT l us b.2 (by exists h);erw[X8,O_,sx,beq_self_eq_true,ü];congr 1
  conv=>rhs;rw[<-c]
  show tK λn hn=>?_;have:(n==a)=cK:=by
   rw[ź];rintro rfl;simp_all
  rw[this]
def Cn(l:↑Str)(us:↑g8)(h:⇑us=⇑l):l.filter (λn=>((l.zip us).lookup n).isNone)=[]:=by
 rw[Pr];intro n hn;induction l generalizing us with
 |nil=>cases hn
 |cons a l b =>
  cases us with
  |nil=>cases h
  |cons u us =>
   erw[X8,sx];cases e:n==a with
   |true=>simp
   |false =>
    rcases eT.mp hn with rfl|hn
    .simp at e
    .show b us (by exists h) hn
def Co{kV a pm b ct}(c:(as.map (·.arg)).Nodup)(hl:⇑us=⇑(as.map (·.arg))):
  ũ (W.fnOf x q #[[],as,cc,[],[],cc,[]] body scope .none kV a pm g b ct) #[us,[]]=pure ((as.map (·.arg)).zip us):=by
 have d:=xT _ us c hl;have e:=Cn _ us hl;change(if _ then _ else _)=_;rw[Ŷ (by simp[hl])];have f:∀k:Nat,¬(!(((as.map (·.arg)).take k).filter λn=>(((as.map (·.arg)).zip us).lookup n).isNone).isEmpty)=b6:=λk=>by
  rw[Pr.mpr λn hn=>Pr.mp e n (Ò hn)];show ke
 show(Ŷ (f _)).trans ?_;have hz:∀(l:↑Str) (i j:Nat),(l.drop i).zip ((cc.getD #v[]:Array g8).toList.drop j)=[]:=λl i j=>by simp
 show Eq.trans (ż (λz=>Bind.bind (forIn z _ _) _) (hz _ _ _)) ?_;show ż (pure:↑(Str×g8)->Sem (↑(Str×g8))) ((ż (List.filterMap _) (tE _)).trans d)
structure Me where
 fn:Fn
 x:Str
 i:Nat
 N:↑Str
 a:hH
 c:hH
 m:g8
 cr:Obj
abbrev Me.fd(top:Nat->va)(m:Me):VD:=W.fnOf m.x m.fn.name (fT (top m.i)) (bP (top m.i)) (aD (top m.i)) .none .none .none m.m cc (.ref m.c) .none
abbrev Me.fo(top:Nat->va)(m:Me):Obj:=#[.type "function",cc,.func (m.fd top),#v[]]
abbrev adr(ms:↑Me)(xa:↑hH):↑hH:=3::(ms.flatMap (λm=>[m.c,m.a])++xa)
abbrev Ov(top:Nat->va)(g:Gx)(ms:↑Me):W.Frag:=(3,g.1)::(ms.flatMap (λm=>[(m.c,m.cr),(m.a,m.fo top)])++g.2)
def xU(top)(g:Gx)(ms)(xa)(h:g.2.map (·.1)=xa):adr ms xa=(Ov top g ms).map (·.1):=by
 unfold adr Ov;rw[i6,mn,List.map_flatMap,h];rfl
abbrev Cp(v:Option (Option g8))(a:hH):Bool:=match v with|some (bD (.ref b))=>df (b=a)|_=>cK
def mw(h:Cp v a=b6):v≈bD (.ref a):=by
 unfold Cp at h;split at h
 .rw[Ÿ h]
 .cases h
abbrev nn(o:Option (Option g8)):Bool:=match o with|some cc=>b6|_=>cK
def GN(h:nn o=b6):o≈cc:=by
 unfold nn at h;split at h
 .rfl
 .cases h
abbrev LR(p:Arguments)(ps:↑Str):Bool:=p.posonlyargs.isEmpty&&p.vararg.isNone&&p.kwonlyargs.isEmpty&&p.kw_defaults.isEmpty&&p.kwarg.isNone&&p.defaults.isEmpty&&df (p.args.map (·.arg)=ps)
abbrev scB(N:↑Str)(b:Nat)(a:tP):Bool:=df (a.kind=.function)&&df (a.isCoroutine=cK)&&df (a.isGenerator=cK)&&decide N.Nodup&&(N.take b).all (jY a)&&a.names.all (λy=>df (y.2≠.free))
abbrev R3(K:W.Frag)(d:Bool):Option hH:=match W.nsIn K i5 (if d=b6 then "Desk" else "Shelf") with|some (bD (.ref C))=>bD C|_=>cc
abbrev Of(K:W.Frag)(C:hH)(x:Str)(a:hH):Bool:=Cp (W.findIn K (.ref C) x) a&&W.isFn K (.ref a)
abbrev WA(m:Me):Bool:=df (m.fn.name∈(["Desk.__init__","Desk.say","Desk.say_deed"]:↑Str))
abbrev Xy(K:W.Frag)(d:Bool)(x:Str)(a:hH):Bool:=match R3 K d with|some C=>Of K C x a|none=>cK
abbrev mOk(ck:Ck)(top:Nat->va)(K:W.Frag)(m:Me):Bool:=W.codeIn K (.ref m.c) m.fn.name&&W.keepIn K (.ref m.a)&&(if m.x=m.fn.name then Cp (W.nsIn K i5 m.fn.name) m.a else Xy K (WA m) m.x m.a)&&LR (fT (top m.i)) (m.N.take m.fn.np) &&
 scB m.N m.fn.np (aD (top m.i))&&df (⇑m.N=m.fn.ns)&&df (m.fn.np<=m.fn.ns)&&(eB ck m.fn.bd m.N (aD (top m.i)) (bP (top m.i))&&Vk m.fn)
abbrev glK(K:W.Frag)(p:Str×U):Bool:=match p.2,W.nsIn K i5 p.1 with
 |.int i,bD (bD (.int j _))=>df (i=j)
 |.str i,bD (bD (.str j _))=>df (i=j)
 |_,_=>cK
abbrev RF(ck:Ck)(top:Nat->va)(K:W.Frag)(ms:↑Me):Bool:=ms.all (mOk ck top K)&&bR.all (λy=>nn (W.nsIn K i5 y))&&ck.gl.all (glK K)&&df (K.map (·.1)).Nodup
def LU{K:W.Frag}(b:(K.map (·.1)).Nodup)(h:(a,o)∈K):K.lookup a≈o:=by
 induction K with
 |nil=>cases h
 |cons p K c =>
  rw[i6,nH]at b;rw[sx];rcases eT.mp h with rfl|h
  .simp
  .have:(a==p.1)=cK:=by
    rw[ź];rintro rfl;show b.1 (j0.mpr #[_,h,rfl])
   rw[this];show c b.2 h
def Cq(c:RF ck top (Ov top g ms) ms=b6)(h:m∈ms):Q0 (Ov top g ms) m.x m.fn.name (top m.i) m.a (m.fd top)/\(if m.x=m.fn.name then Cp (W.nsIn (Ov top g ms) i5 m.fn.name) m.a else Xy (Ov top g ms) (WA m) m.x m.a)=b6 /\
  (∀us,⇑us=⇑(m.N.take m.fn.np)->ũ (m.fd top) #[us,[]]=pure ((m.N.take m.fn.np).zip us))/\dc m.N (m.N.take m.fn.np) (aD (top m.i))/\⇑m.N=m.fn.ns/\⇑(m.N.take m.fn.np)=m.fn.np/\(eB ck m.fn.bd m.N (aD (top m.i)) (bP (top m.i))=b6/\Vk m.fn=b6/\m.fn.np<=m.fn.ns):=by
 erw[RF,cb,Ŵ]at c;have z:=lx.mp c.1.1.1 m h;erw[mOk,cb,Ŵ]at z;obtain⟨⟨⟨⟨⟨⟨⟨z1,z2⟩,l⟩,b⟩,d⟩,n⟩,o⟩,f⟩:=z;erw[scB,cb,Ŵ]at d;obtain⟨⟨⟨⟨⟨s1,p⟩,q⟩,j⟩,r⟩,s⟩:=d;have t:(Ov top g ms).lookup m.a≈m.fo top:=LU c.2 (eT.mpr (.inr (TX _ (List.mem_flatMap.mpr #[m,h,by simp]))));have hl:⇑(m.N.take m.fn.np)=m.fn.np:=⋯
 show#[HF t z1 z2,l,λus k=>?_,#[s1,p,q,j,by rw[hl],λx u=>?_,λy v=>?_],n,hl,f.1,f.2,o]
 .unfold Me.fd;revert b;cases fT _ with
  |mk w as A B C D G =>
   intro b;erw[LR,cb,my,UN,Ŵ]at b;obtain⟨⟨⟨⟨⟨⟨rfl,rfl⟩,rfl⟩,rfl⟩,rfl⟩,rfl⟩,e⟩:=b;rw[<-e]at k ⊢;show Co (by rw[e];show(ý _ _).nodup j) k
 .have:=lx.mp r x u;simpa[jY] using this
 .have:=lx.mp s y v;exists this
abbrev ckM(ck:Ck)(ms:↑Me):Bool:=ck.fns.all (λg=>ms.any λm=>df (m.fn.name=g)&&df (m.x=g)&&m.fn.ob.isNone&&m.fn.io.isNone) &&
 ck.obs.all (λq=>ms.any λm=>df (m.fn.name=q.1)&&m.fn.ob.isSome&&(if q.2.2="" then df (m.x=m.fn.name) else df (m.x=q.2.2)&&df (m.x≠m.fn.name)&&df (WA m=q.2.1)))
 && ck.O1.all (λg=>ms.any λm=>df (m.fn.name=g)&&df (m.x=g)&&m.fn.ob.isNone&&m.fn.io.isSome)
def Cr{h}{mg}(j:RF ck top (Ov top g ms) ms=b6)(X:(Ov top g ms).In h)(G:h.Ns i5 mg){m}(hi:m∈ms){b}{n:Str}(i:if n="" then m.x=m.fn.name else(m.x=n/\m.x≠m.fn.name)/\WA m=b):Ld ck (Ov top g ms) mg m.fn b n:=by
 have(a,b,c,d,e,f,k):=Cq j hi;show#[_,_,_,_,_,_,_,a,λz=>?_,λz cl l=>?_,.all c,d,e,f,k.1,k.2.1,k.2.2]
 .rw[ŵ z]at i;rw[ŵ i]at b;show#[i,W.mg_of X G (mw b)]
 .rw[Ŷ z]at i;rw[Ŷ i.1.2]at b;unfold Xy R3 at b;rw[i.2,show W.nsIn (Ov top g ms) i5 _=_ from l]at b;erw[Of,cb]at b;rw[<-i.1.1];show#[mw b.1,b.2,a.kp]
def Jw(f:RF ck top (Ov top g ms) ms=b6)(k:ckM ck ms=b6)(X:(Ov top g ms).In h)(G:h.Ns i5 mg):(∀g'∈ck.fns,∃fn∈ms.map (·.fn),fn.name=g'/\fn.ob=cc/\fn.io=cc/\Ld ck (Ov top g ms) mg fn b6 "")/\(∀q∈ck.obs,∃fn∈ms.map (·.fn),fn.name=q.1/\(∃b,fn.ob≈b)/\Ld ck (Ov top g ms) mg fn q.2.1 q.2.2)/\Lq ck (ms.map (·.fn)) (Ov top g ms) mg:=by
 erw[ckM,cb,lx,Tb,Ŵ,UN]at k;have((l,n),o):=k;show#[λg' i=>?_,λq p=>?_,λg' i=>?_]
 .obtain⟨m,a,⟨⟨c,d⟩,e⟩,j⟩:=l g' i;show#[m.fn,B' a,c,e,j,Cr f X G a (by rw[ŵ rfl,c,d])]
 .have(m,a,(c,d),e):=n q p;show#[m.fn,B' a,c,vr.mp d,Cr f X G a ?_];simp_all
 .obtain⟨m,a,⟨⟨c,d⟩,e⟩,j⟩:=o g' i;show#[m.fn,B' a,c,e,vr.mp j,Cr f X G a (by rw[ŵ rfl,c,d])]
abbrev Xz(top:Nat->va)(K:W.Frag)(ms:↑Me)(d:Bool)(a:va->Bool):Bool:=match R3 K d with
 |none=>cK
 |some C=>W.plainGet K C nS&&W.hasDictIn K C&&W.plainOver K C&&(W.findIn K (.ref C) "__setattr__"==bD (bD (.builtin "object.__setattr__")))&&(["rows","earlier","shelf"]:↑Str).all (λx=>nn (W.findIn K (.ref C) x))&&W.makesIn K C&&W.keepIn K (.ref C) &&
  ms.any λm=>df (m.x="__init__")&&df (m.x≠m.fn.name)&&df (m.fn.np=1)&&df (m.N=(["self"]:↑Str))&&a (top m.i)&&hU (aD (top m.i)) "self"&&df (WA m=d)
abbrev shB(top:Nat->va)(K:W.Frag)(ms:↑Me):Bool:=Xz top K ms cK (λst=>ZP (bP st))&&Xz top K ms b6 λst=>I_ (bP st)&&OR (aD st) "Shelf"
def Cs(f:RF ck top (Ov top g ms) ms=b6)(hs:Xz top (Ov top g ms) ms d j=b6)(X:(Ov top g ms).In h)(G:h.Ns i5 mg):∃(C:hH) (m:Me),P6 (Ov top g ms) d C/\Mk (Ov top g ms) C m.a/\Q0 (Ov top g ms) "__init__" m.fn.name (top m.i) m.a (m.fd top)/\dc ["self"] ["self"] (aD (top m.i))/\Binds (Ov top g ms) (m.fd top) ["self"] []/\j (top m.i)=b6/\OB (aD (top m.i)) "self"/\mg (if d=b6 then "Desk" else "Shelf")≈.ref C:=by
 unfold Xz at hs;split at hs
 .cases hs
 .rename_i C b;have c:=by
   unfold R3 at b;split at b
   .rename_i e;cases b;show e
   .cases b
  erw[cb,Tb,Ŵ]at hs;obtain⟨⟨⟨⟨⟨⟨⟨k,l⟩,n⟩,o⟩,p⟩,q⟩,r⟩,m,s,⟨⟨⟨⟨⟨⟨b1,t⟩,b3⟩,b4⟩,u⟩,v⟩,w⟩⟩:=hs;have(F,c1,c2,S,_,_,_):=Cq f s;rw[Ŷ t]at c1;unfold Xy at c1;rw[w,b]at c1;erw[Of,cb]at c1;rw[b3,b4]at c2 S;rw[b1]at F c1;show#[C,m,#[c,#[k,l,n,beq_iff_eq.mp o],λx y=>GN (lx.mp p x y)],#[q,mw c1.1,c1.2,r],F,S,.all c2,u,cE v,W.mg_of X G c]
def Jx(b:RF ck top (Ov top g ms) ms=b6)(hs:shB top (Ov top g ms) ms=b6)(X:(Ov top g ms).In h)(G:h.Ns i5 mg):Wn P w (Ov top g ms) mg base:=by
 have(d,f):=oa.mp hs;have(C,m,K,M,F,S,B,i,j,k):=Cs b d X G;have(l,s,c,n,o,S',p,a,q,r):=Cs b f X G;rw[cb]at a;show#[C,l,_,_,K,c,n,BO o S' a.1 q (λX e=>cq (by rw[e];show a.2)) c M (E2  F S i j K) B k,p,r]
def Jy(c:RF ck top (Ov top g ms) ms=b6)(X:(Ov top g ms).In h)(G:h.Ns i5 mg):∀p∈ck.gl,∃val v,mg p.1≈val/\RelV v val/\∀C S H,Rep C S H p.2 v:=by
 intro p d;erw[RF,cb]at c;have z:=lx.mp c.1.2 p d;unfold glK at z;split at z
 .rename_i i j k a b;obtain rfl:=Ÿ z;show#[_,.int i,W.mg_of X G b,#[_,rfl],λ_ _ _=>by rw[a];rfl]
 .rename_i i j k a b;obtain rfl:=Ÿ z;show#[_,.str i,W.mg_of X G b,#[_,rfl],λ_ _ _=>by rw[a];rfl]
 .cases z
abbrev gX(ck:Ck)(K:W.Frag):Bool:=ck.xc.all (λx=>match W.nsIn K i5 x with|some (bD (.ref C))=>W.excIn K C U5 "ValueError.__new__"|_=>cK)&&ck.xd.all λp=>match W.nsIn K i5 p.1,W.nsIn K i5 p.2 with
 |some (bD (.ref C)),bD (bD (.ref D))=>W.exmOne K (.ref C) (.ref D)==bD b6
 |_,_=>cK
abbrev Jz(K:W.Frag)(x:Str):Option hH:=match W.nsIn K i5 x with|some (bD (.ref C))=>bD C|_=>cc
abbrev clV(K:W.Frag)(D:Str):Option g8:=match W.nsIn K i5 D with|some (bD (.ref C))=>bD (.ref C)|some cc=>if D="ValueError" then bD (.type "ValueError") else cc|_=>cc
abbrev gY(ck:Ck)(K:W.Frag):Bool:=ck.xi.all (λp=>match Jz K p.1,clV K p.2.1 with|some C,bD a=>gI K C&&(W.kitOne K (.ref C) a==bD p.2.2)|_,_=>cK)
def zD{K}(h:Jz K x≈C):W.nsIn K i5 x≈bD (.ref C):=by
 unfold Jz at h;split at h
 .simp_all
 .cases h
def LV{K}(z:gY ck K=b6)(X:K.In h)(G:h.Ns i5 mg):vW ck K mg:=by
 intro D f;rw[gY,lx]at z;have(g,b,rfl):=f;have d:=z g b;split at d
 .rename_i l i m a;show#[i,?_,λp j e C hn=>?_]
  .unfold clV at a;split at a
   .rename_i e;cases a;show .inl #[_,rfl,W.mg_of X G e]
   .rename_i e;split at a
    .rename_i c;cases a;show .inr #[c,rfl,W.mg_none_of X G e]
    .cases a
   .cases a
  .have z1:=z p j;rw[e,a]at z1;split at z1
   .rename_i n k c o;have:=zD c;simp_all
   .cases z1
 .cases d
def JA{K}(z:gX ck K=b6)(X:K.In h)(G:h.Ns i5 mg)(a:vW ck K mg):Uu ck K mg:=by
 rw[gX,cb,lx,lx]at z;show#[λx c=>?_,λp d=>?_,a]
 .have:=z.1 x c;split at this
  .rename_i e;show#[_,W.mg_of X G e,e,this]
  simp_all
 .have:=z.2 p d;split at this
  .rename_i b f;show#[_,_,W.mg_of X G b,b,W.mg_of X G f,beq_iff_eq.mp this]
  simp_all
def walk{l:W.OpenLaw}{K:YI->W.Frag}
  (hn:l.most≈63) (o:d.params.defaults=[]) (r:cX (dp+5) Xf) (A:∀w h,B w h->(K w.params).In h)
  (j:(Pg.map (·.name)).Nodup) (D:fn.ob=cc) (I:fn.io=cc) (J:fn∈Pg) (RG:fn.name=d.name)
  (F:∀w mg fa h,(K w.params).In h->h.Ns i5 mg->mg d.name≈.ref fa ->
   (∀y∈bR,mg y=cc)/\(∀p∈ck.gl,∃val v,mg p.1≈val/\RelV v val/\∀C S H,Rep C S H p.2 v)/\((∀g∈ck.fns,∃fn∈Pg,fn.name=g/\fn.ob=cc/\fn.io=cc/\Ld ck (K w.params) mg fn b6 "")/\(∀q∈ck.obs,∃fn∈Pg,fn.name=q.1/\(∃b,fn.ob≈b)/\Ld ck (K w.params) mg fn q.2.1 q.2.2)/\Lq ck Pg (K w.params) mg)/\(∀base,Wn l.prog w (K w.params) mg base)/\Uu ck (K w.params) mg /\
   ∃c st i N,Q0 (K w.params) fn.name c st fa i/\dc N [x] (aD st)/\⇑N=fn.ns/\1=fn.np/\eB ck fn.body N (aD st) (bP st)=b6/\∀s u,ø s i #[[u],[]] [(x,u)])
  (T:∀ns,⇑ns<=63->N7 Pg (dp+1) fn.name [FC ns]≈.ok (.loc,.bl b6)) :
  W.WalkO q k XP B l.row.toRowW d [] (λf vs=>PySem.call f vs) :=
 L2.DZ    (CX:=λw=>PD l.prog w)  hn ⋯ o r A
  (λw mg fa h L G O=>by
   have(e,m,(ld,lo,hi),n,xs,c,st,i,N,Q,S,Y,PJ,hc,hb):=F w mg fa h L G O;show#[i,hb,λbase _ _=>GL Q S Y PJ hc e (xS j hi e m ld lo (n base) xs dp).1 m (xS j hi e m ld lo (n base) xs dp).2 xs])
  (λw H a ns hl _ hS=>by
   have t:=T ns hl;rw[rh j J,pL D I]at t;have QV:=(rg t).1.symm;show#[QV.symm,_,_,_,t,λ_ z=>z,#[_,_,rfl,v8 hS,rfl],.inr (.inl rfl),λv H' S' b=>b.loc rfl])
  λ_ _ _ _ _ ⟨_,_,_,_,_,_,z⟩=>z
def walk2{l:W.OpenLaw}{g:YI->Gx}
  (hn:l.most≈63) (z:d.params.defaults=[]) (A:cX (dp+5) Xf) (o:ms.map (·.fn)=Pg) (B:(Pg.map (·.name)).Nodup) (i:ckM ck ms=b6) (C:m.fn.ob=cc) (D:m.fn.io=cc) (p:m∈ms) (r:m.fn.name=d.name) (t:m.x=m.fn.name) (H:m.N.take m.fn.np=[x])
  (ok:∀P,RF ck top (Ov top (g P) ms) ms=b6) (I:∀P,((gX ck (Ov top (g P) ms)&&gY ck (Ov top (g P) ms))&&shB top (Ov top (g P) ms) ms)=b6) (J:∀P,(g P).2.map (·.1)=xa) (T:∀ns,⇑ns<=63->N7 Pg (dp+1) m.fn.name [FC ns]≈.ok (.loc,.bl b6)) :
  W.WalkO q j O (W.kHook (λP=>Ov top (g P) ms) (adr ms xa) λP=>xU top (g P) ms xa (J P)).says l.row.toRowW d [] (λf vs=>PySem.call f vs) :=
 walk hn z A (λw h Y=>W.kIn_of Y) B C D (o▸j0.mpr #[m,p,rfl]) r (λw mg fa h X G v=>by
  have hk:=ok w.params;have hz:=oa.mp (I w.params);have(a,b,c,e,f,k,n):=Cq hk p;rw[ŵ t]at b;rw[<-r,W.mg_of X G (mw b)]at v;cases v;rw[H]at c e k;rw[t]at a;show#[λy L=>W.mg_none_of X G (GN ?_),Jy hk X G,o▸Jw hk i X G,λbase=>Jx hk hz.2 X G,JA (oa.mp hz.1).1 X G (LV (oa.mp hz.1).2 X G),_,_,_,_,a,e,f,k,by have:=n.1;rw[show m.fn.bd=m.fn.body by unfold Fn.bd;simp_all]at this;lia,λs u=>.of_eq (c [u] rfl)];erw[RF,cb]at hk;show lx.mp hk.1.1.2 y L) T
end TM
namespace TM
open PySem L2
@[reducible]noncomputable def oL(xs:↑U):Kd×U:=(Kd.own,U.lst xs)
@[reducible]noncomputable def lI(i:Int):Kd×U:=(Kd.loc,U.int i)
@[reducible]noncomputable def zS(x:Str):Kd×U:=(Kd.loc,U.str x)
@[reducible]noncomputable def lT(xs:↑U):Kd×U:=(Kd.loc,U.tup xs)
@[reducible]noncomputable def aL(xs:↑U):Kd×U:=(Kd.any,U.lst xs)
@[reducible]noncomputable def bL(b:Bool):Kd×U:=(Kd.loc,U.bl b)
@[reducible]noncomputable def Sl:=Option (Kd×U)
@[reducible]noncomputable def cI(i:Int):E:=E.cst (U.int i)
@[reducible]noncomputable def cO:E:=cI 0
@[reducible]noncomputable def cA:E:=cI 1
@[reducible]noncomputable def cQ(x:Str):E:=E.cst (U.str x)
@[reducible]noncomputable def Nv:E:=E.var 0
@[reducible]noncomputable def NG:E:=E.var 1
@[reducible]noncomputable def NO:E:=E.var 2
@[reducible]noncomputable def NJ:E:=E.var 3
@[reducible]noncomputable def Oc:E:=E.var 4
@[reducible]noncomputable def Oq:E:=E.var 5
abbrev Run(m:M α)(st:au)(a:α)(st':au):Prop:=m st≈(.ok a,st')
def ae(c:Run m st a st1)(d:Run (f a) st1 b st2):Run (m >>= f) st b st2:=by
 change M.bind m f st=_;unfold M.bind;rw[c];show d
def aK:Run (pure a:M α) st a st:=rfl
def c9(h:o≈a):Run (M.N1 o) st a st:=by subst h;rfl
def bc(h:bg rs st):Run (az rs) st () st:=by change az rs st=_;unfold az;simp_all
abbrev kv(i:Nat)(k:Kd):Kd:=if k.root=b6 then .bor i else k
def ij(h:st[i]?≈bD (k,u))(hk:k≠.A':=by intro z;cases z):Run (dH i) st (kv i k,u) st:=by
 change dH i st=_;unfold dH;rw[h];cases k<;>first|rfl|show absurd rfl hk
def af(h:st[i]?≈bD (.loc,u)):Run (ev Γ (.var i)) st (.loc,u) st:=ij h
def aB(h:st[i]?≈bD (.any,u)):Run (ev Γ (.var i)) st (.any,u) st:=ij h
def aC(h:st[i]?≈bD (.own,u)):Run (ev Γ (.var i)) st (.bor i,u) st:=ij h
def ak:Run (ev Γ (.cst u)) st (.loc,u) st:=rfl
def lz:Run (ev Γ (.PM x u)) st (.loc,u) st:=rfl
def bu(c:Run (ev Γ a) st x st1)(d:Run (ev Γ b) st1 y st2)(e:bg [x,y] st2)(f:Qc op x y≈r):Run (ev Γ (.bin op a b)) st r st2 :=
 ae c (ae d (ae (bc e) (c9 f)))
def lA(d:Run (ev Γ a) st x st1)(e:Run (ev Γ b) st1 y st2)(f:bg [x,y] st2)(g:bO op x.2 y.2≈c):Run (ev Γ (.cmp op a b)) st (bL c) st2 :=
 ae d (ae e (ae (bc f) (ae (c9 g) aK)))
def aV(c:Run (ev Γ a) st x st1)(d:Run (ev Γ b) st1 y st2)(e:bg [x,y] st2)(f:lW x y.2≈r):Run (ev Γ (.idx a b)) st r st2 :=
 ae c (ae d (ae (bc e) (c9 f)))
def lC:Run (Ui Γ []) st cc st:=rfl
def lD(h:Run (ev Γ e) st (k,.int i) st1):Run (Ui Γ [e]) st (bD i) st1:=ae h rfl
def lE(c:Run (ev Γ a) st x st1)(d:Run (Ui Γ lo) st1 l st2)(e:Run (Ui Γ hi) st2 h b)(f:bg [x] b)(g:jQ x l h≈r):Run (ev Γ (.Po a lo hi)) st r b :=
 ae c (ae d (ae e (ae (bc f) (c9 g))))
def ah:Run (bH Γ []) st [] st:=rfl
def aa(a:Run (ev Γ e) st r st1)(b:Run (bH Γ es) st1 rs st2):Run (bH Γ (e::es)) st (r::rs) st2:=ae a (ae b aK)
def dW(a:Run (bH Γ es) st rs st1)(b:bg rs st1)(c:P2 f rs≈r):Run (ev Γ (.bi f es)) st r st1:=ae a (ae (bc b) (c9 c))
def Cu(a:Run (bH Γ es) st rs st1)(b:bg rs st1)(c:vC f rs≈r):Run (ev Γ (.Rq f es)) st r st1:=ae a (ae (bc b) (c9 c))
def fM(h0:Run (ev Γ a) st x st1)(b:Run (bH Γ es) st1 rs st2)(c:bg (x::rs) st2)(d:jR m x.2 rs≈r):Run (ev Γ (.OX m a es)) st r st2:=ae h0 (ae b (ae (bc c) (c9 d)))
def rj(h:Γ f us≈.ok r)(a:isAny r.1=cK):Run (ja Γ f us) st r st:=by
 have(k,u):=r;unfold ja;rw[h];cases k<;>first|rfl|cases a
def aG(a:Run (bH Γ es) st rs st1)(b:bg rs st1)(c:Γ f (rs.map (·.2))≈.ok r)(d:isAny r.1=cK:=by show rfl):Run (ev Γ (.call f es)) st r st1:=ae a (ae (bc b) (rj c d))
def dz(a:Run (bH Γ es) st rs st1)(b:bg rs st1)(c:Run (cn rs) st1 us st2)(d:⇑us<=c8):Run (ev Γ (.tup es)) st (lT us) st2:=by
 show ae a (ae (bc b) (ae c ?_));rw[ŵ d];rfl
def dX(a:Run (bH Γ es) st rs st1)(b:bg rs st1)(c:Run (cn rs) st1 us st2)(d:⇑us<=c8):Run (ev Γ (.lst es)) st (oL us) st2:=by
 show ae a (ae (bc b) (ae c ?_));rw[ŵ d];rfl
def v9:Run (ev Γ (.PY r)) st (.own,.NA [] []) st:=rfl
def xV:Run (lift (.own,u)) st u st:=rfl
def aH:Run (lift (.loc,u)) st u st:=rfl
def nW(h:NY u=b6):Run (lift (.any,u)) st u st:=by
 change(if NY u=b6 then pure u else M.fail) st=_;rw[ŵ h];rfl
def aP:Run (cn []) st [] st:=rfl
def aA(a:Run (lift r) st u st1)(b:Run (cn rs) st1 us st2):Run (cn (r::rs)) st (u::us) st2:=ae a (ae b aK)
def v_(h:Run (ev Γ e) st r st1):Run (jT Γ [e]) st r st1:=h
def JB(h:Run (ev Γ e) st (k,.bl p) st1)(a:if p=b6 then Run (jT Γ (b::es)) st1 r st2 else st2=st1/\r=(bL cK)):Run (jT Γ (e::b::es)) st r st2:=by
 show ae h ?_;cases p with
 |true=>show a
 |false=>have(rfl,rfl):=a;show aK
def Cv(h:Run (jT Γ es) st r st1):Run (ev Γ (.and es)) st r st1:=h
def aN(d:Run (ev Γ a) st x st1)(e:Run (ev Γ b) st1 y st2)(f:bg [x,y] st2)(g:bO op x.2 y.2≈c):Run (NQ Γ (.cmp op a b)) st c st2:=ae d (ae e (ae (bc f) (c9 g)))
def tL(h:Run (NQ Γ a) st c st1):Run (NQ Γ (.not a)) st (!c) st1:=ae h aK
def je(h:Run (aT Γ es) st c st1):Run (NQ Γ (.and es)) st c st1:=h
def rm(h:Run (gV Γ es) st c st1):Run (NQ Γ (.or es)) st c st1:=h
def fN:Run (aT Γ []) st b6 st:=rfl
def cV(h:Run (NQ Γ e) st c st1):Run (aT Γ [e]) st c st1:=h
def wa(h:Run (NQ Γ e) st b6 st1)(a:Run (aT Γ (b::es)) st1 c st2):Run (aT Γ (e::b::es)) st c st2:=ae h a
def Cw(h:Run (NQ Γ e) st cK st1):Run (aT Γ (e::a::es)) st cK st1:=ae h aK
def j6(h:Run (NQ Γ e) st c st1):Run (gV Γ [e]) st c st1:=h
def LW(h:Run (NQ Γ e) st b6 st1):Run (gV Γ (e::a::es)) st b6 st1:=ae h aK
def xW(h:Run (NQ Γ e) st cK st1)(a:Run (gV Γ (b::es)) st1 c st2):Run (gV Γ (e::b::es)) st c st2:=ae h a
def bo:Run (eX i (.own,u)) st () (st.set i (bD (.own,u))):=rfl
def aR:Run (eX i (.loc,u)) st () (st.set i (bD (.loc,u))):=rfl
def nX:Run (eX i (.any,u)) st () (st.set i (bD (.any,u))):=rfl
def LX(a:Run (ev Γ e) st r st1)(b:Run (eX i r) st1 () st2):Run (exec Γ (.set i e)) st .nx st2:=ae a (ae b aK)
def LY(h0:∃k' b,st[i]?≈bD (k',.lst b)/\k'≠.A')(c:Run (ev Γ e) st r st1)(d:Run (lift r) st1 u st2)(f:st2[i]?≈bD (k,.lst us))(hk:k.root=b6)(hl:⇑us<c8):
  Run (exec Γ (.app i e)) st .nx (st2.set i (bD (k,.lst (us++[u])))):=by
 have(k',b,h0,hn):=h0;show ae (ij h0 hn) (ae   rfl (ae c (ae d (ae (a:=()) ?_ aK))));change modS i _ st2=_;unfold modS;rw[f];erw[hk,if_true];have e:Eo u (.lst us)≈.lst (us++[u]):=by change(if ⇑us<c8 then _ else _)=_;simp_all
 rw[e]
def LZ(a:Run (ev Γ e) st r st1)(b:Run (retS r) st1 f st2):Run (exec Γ (.ret e)) st f st2:=ae a b
def j7:Run (retS (.own,u)) st (.rt .own u) st:=rfl
def bh:Run (retS (.loc,u)) st (.rt .loc u) st:=rfl
def GO(h:NY u=b6):Run (retS (.any,u)) st (.rt .loc u) st:=by
 change(if NY u=b6 then(pure _:M Fl) else pure _) st=_;rw[ŵ h];rfl
def tM(h:st[j]?≈bD (.own,u)):Run (retS (.bor j,u0)) st (.rt .own u) (st.set j cc):=by
 change(match st[j]? with|some (bD (.own,u))=>bD _|_=>cc)=_;rw[h]
def rn(d:Run (NQ Γ c) st b6 st1)(e:Run (execs Γ a) st1 f st2):Run (exec Γ (.ite c a b)) st f st2:=ae d e
def wc(d:Run (NQ Γ c) st cK st1)(e:Run (execs Γ b) st1 f st2):Run (exec Γ (.ite c a b)) st f st2:=ae d e
def bC:Run (execs Γ []) st .nx st:=rfl
def fb(a:Run (exec Γ s) st .nx st1)(b:Run (execs Γ ss) st1 f st2):Run (execs Γ (s::ss)) st f st2:=ae a b
def we(a:Run (exec Γ s) st (.rt k u) st1):Run (execs Γ (s::ss)) st (.rt k u) st1:=ae a aK
def aw(a:Run (ev Γ e) st r st1)(b:Run (eX i r) st1 () st2)(c:Run (execs Γ ss) st2 f d):Run (execs Γ (.set i e::ss)) st f d:=fb (LX a b) c
def tQ(h0:st[i]?≈bD (k',.lst h))(a:Run (ev Γ e) st r st1)(b:Run (lift r) st1 u st2)(c:st2[i]?≈bD (k,.lst us))(hk:k.root=b6)(hl:⇑us<c8)
  (d:Run (execs Γ ss) (st2.set i (bD (k,.lst (us++[u])))) f g) (hn:k'≠.A':=by intro z;cases z):Run (execs Γ (.app i e::ss)) st f g:=fb (LY #[_,_,h0,hn] a b c hk hl) d
def aS(a:Run (ev Γ e) st r st1)(b:Run (retS r) st1 (.rt k u) st2):Run (execs Γ (.ret e::ss)) st (.rt k u) st2:=we (LZ a b)
def jt(d:Run (NQ Γ c) st b6 st1)(e:Run (execs Γ a) st1 .nx st2)(g:Run (execs Γ ss) st2 f h):Run (execs Γ (.ite c a b::ss)) st f h:=fb (rn d e) g
def d_(d:Run (NQ Γ c) st cK st1)(e:Run (execs Γ b) st1 .nx st2)(g:Run (execs Γ ss) st2 f h):Run (execs Γ (.ite c a b::ss)) st f h:=fb (wc d e) g
def kJ(d:Run (NQ Γ c) st b6 st1)(e:Run (execs Γ a) st1 (.rt k u) st2):Run (execs Γ (.ite c a b::ss)) st (.rt k u) st2:=we (rn d e)
def L0(a:Run (bH Γ src) st rs st1)(b:bg rs st1)(c:P4 d rs≈xs)(e:xx rs is body=b6)(g:Run (forM t is (execs Γ body) rs xs) st1 f st2):
  Run (exec Γ (.Oh t is d src body)) st f st2:=by
 show ae a (ae (bc b) (ae (c9 c) ?_));rw[ŵ e];show g
def ip(a:Run (bH Γ src) st rs st1)(b:bg rs st1)(c:P4 d rs≈xs)(e:xx rs is body=b6)(g:Run (forM t is (execs Γ body) rs xs) st1 .nx st2)(h:Run (execs Γ ss) st2 f i):
  Run (execs Γ (.Oh t is d src body::ss)) st f i:=fb (L0 a b c e g) h
def GP(h:bg rs st):Run (forM t is body rs []) st .nx st:=ae (bc h) aK
def L3(h:bg rs st)(a:Run (d8 t is x) st () st1)(b:Run body st1 .nx st2)(c:Run (forM t is body rs xs) st2 f d):Run (forM t is body rs (x::xs)) st f d:=ae (bc h) (ae a (ae b c))
theorem xX(I:↑(Kd×U)->au->Prop)(hs:∀xs st,I xs st->bg rs st)(Č:∀x xs st,I (x::xs) st->∃st1 st2,Run (d8 t is x) st () st1/\Run body st1 .nx st2/\I xs st2):
  ∀xs st,I xs st->∃st',Run (forM t is body rs xs) st .nx st'/\I [] st'
 |[],st,h=>#[st,GP (hs _ _ h),h]
 |x::xs,st,h=>by
  have(s1,a,b,c,d):=Č x xs st h;have(e,f,g):=xX I hs Č xs a d;show#[e,L3 (hs _ _ h) b c f,g]
def iq(h:Run (eX i r) st () st1):Run (d8 cK [i] r) st () st1:=h
def ay(hn:⇑us=fn.np)(hk:k=.own\/k=.loc)(hs:start us fn.ns=st0)(h:Run (execs Γ fn.body) st0 (.rt k u) st):bK Γ fn us≈.ok (k,u):=by
 subst hs;unfold bK;rw[ŵ hn,h];rcases hk with rfl|rfl<;>rfl
def tS{cond}(h:bg src st):Run (cp k t cond elt src [] a) st a st:=ae (bc h) aK
def nY{cond}(h:bg src st)(e:Run (d8 t (ib k) x) (kb k cc++st) () s1)(f:Run cond s1 b6 g)(i:Run elt g r j)(l:Run (lift r) j u d)
  (hl:⇑c<c8) (n:Run (cp k t cond elt src xs (c++[u])) (d.drop k) us st2):Run (cp k t cond elt src (x::xs) c) st us st2:=by
 show ae (bc h) (ae (a:=bD u) (st1:=d.drop k) ?_ ?_)
 .change inScope k _ st=_;unfold inScope;have m:Run (d8 t _ x >>= λ_=>cond >>= λb=>if b=b6 then(elt >>= λr=>lift r >>= λu=>pure (bD u)) else pure cc) _ _ d :=
   ae e (ae f (ae i (ae  l rfl)))
  rw[m]
 simp_all
def wg{cond}(h:bg src st)(e:Run (d8 t (ib k) x) (kb k cc++st) () s1)(f:Run cond s1 cK d)
  (g:Run (cp k t cond elt src xs c) (d.drop k) us st2):Run (cp k t cond elt src (x::xs) c) st us st2:=by
 show ae (bc h) (ae (a:=cc)  ?_ g);change inScope k _ st=_;unfold inScope;have i:Run (d8 t _ x >>= λ_=>cond >>= λb=>if b=b6 then(elt >>= λr=>lift r >>= λu=>pure (bD u)) else pure cc) _ cc d :=
  ae e (ae f (rfl))
 rw[i]
def b_{src cond}(a:Run (bH Γ src) st rs st1)(b:bg rs st1)(c:P4 d rs≈xs)(f:Run (cp k t (aT Γ cond) (ev Γ e) rs xs []) st1 us st2):Run (ev Γ (.comp k t d src cond e)) st (oL us) st2 :=
 ae a (ae (bc b) (ae (c9 c) (ae f aK)))
theorem Cy{cond}(h:bg src st)(g)(b:Kd×U->Kd):∀xs a,⇑a+⇑xs<=c8 ->
  (∀x∈xs,x.1=.loc\/x.1=.any)->(∀x∈xs,Run cond (bD x::st) b6 (bD x::st)/\Run elt (bD x::st) (b x,g x) (bD x::st)/\Run (lift (b x,g x)) (bD x::st) (g x) (bD x::st))->Run (cp 1 cK cond elt src xs a) st (a++xs.map g) st
 |[],a,_,_,_=>by rw[Q6,tE];show tS h
 |x::xs,a,hl,hk,d=>by
  have(e,f,i):=d x ⋯;rw[k9]at hl;show nY     h ?_ e f i ⋯ ?_
  .have(k,u):=x;rcases hk _ (il ..) with z|z<;>(cases z;rfl)
  .have:=Cy h g b xs (a++[g x]) (by grind) (λy c=>hk y (by simp[c])) λy c=>d y (by simp[c]);simp_all
theorem nZ{cond}(h:bg src st)(p)(g)(c:Kd×U->Kd):∀xs a,⇑a+⇑xs<=c8 ->
  (∀x∈xs,x.1=.loc\/x.1=.any)->(∀x∈xs,Run cond (bD x::st) (p x) (bD x::st)/\Run elt (bD x::st) (c x,g x) (bD x::st)/\Run (lift (c x,g x)) (bD x::st) (g x) (bD x::st))->Run (cp 1 cK cond elt src xs a) st (a++(xs.filter p).map g) st
 |[],a,_,_,_=>by rw[YV,Q6,tE];show tS h
 |x::xs,a,hl,hk,e=>by
  have(d,j,l):=e x ⋯;rw[k9]at hl;have f:Run (d8 cK (ib 1) x) (kb 1 cc++st) () (bD x::st):=by
   have(k,u):=x;rcases hk _ (il ..) with z|z<;>(cases z;rfl)
  cases i:p x with
  |true =>
   rw[i]at d;show nY     h f d j l ⋯ ?_;have:=nZ h p g c xs (a++[g x]) (by grind) (λy b=>hk y (by simp[b])) λy b=>e y (by simp[b]);simp_all
  |false =>
   rw[i]at d;show wg   h f d ?_;have:=nZ h p g c xs a ⋯ (λy b=>hk y (by simp[b])) λy b=>e y (by simp[b]);simp_all
def L4(h:st[i]?≈bD (k,.lst us))(hk:k.root=b6)(a:us[⇑us - 1]?≈u):Run (ev Γ (.pop i)) st (.loc,u) (st.set i (bD (k,.lst us.dropLast))):=by
 change Bd i st=_;unfold Bd;simp_all
abbrev NW(Pg:↑Fn)(f:Str)(fn:Fn):Prop:=(Pg.find? λg=>df (g.name=f))≈fn
def xY(h:NW Pg f fn)(us):N7 Pg (d+1) f us=iT (N7 Pg d) fn us:=by
 change(match Pg.find? λg=>decide _ with|some fn=>iT _ fn us|none=>cc)=_;rw[h]
def ax(h:NW Pg f fn)(us)(a:fn.io=cc:=by rfl)(b:fn.ob=cc:=by rfl):N7 Pg (d+1) f us=bK (N7 Pg d) fn us:=by
 rw[xY h];unfold iT;rw[b,a]
def br(h:NW Pg f fn)(us)(a:fn.ob≈b):N7 Pg (d+1) f us=eY (N7 Pg d) fn b us:=by
 rw[xY h];unfold iT;rw[a]
def cu(h:0<j):Qc .mod (k,.int i) (k',.int j)≈lI (i % j):=by change(Ee i j).map _=_;rw[Ee,ŵ h];rfl
def Cz(h:0<j/\j<1073741824):Qc .Qm (k,.int i) (k',.int j)≈lI (i / j):=by change(Ed i j).map _=_;rw[Ed,ŵ h];rfl
def qc(h:(-(2 ^ 64)<i/\i<2 ^ 64)\/(-(2 ^ 64)<j/\j<2 ^ 64)):Qc .mul (k,.int i) (k',.int j)≈lI (i * j):=by change(Ec i j).map _=_;rw[Ec,ŵ h];rfl
def qd(h:0<=j/\j<=1000000/\i.natAbs<2 ^ 64):Qc .pow (k,.int i) (k',.int j)≈lI (i ^ j.toNat):=by change(Ef i j).map _=_;rw[Ef,ŵ h];rfl
def d5:Qc .add (k,.int i) (k',.int j)≈lI (i+j):=rfl
def aJ(h:Oe xs i≈u):lW (k,.lst xs) (.int i)≈(kE k,u):=by change(Oe xs i).map _=_;rw[h];rfl
def km(h:Oe xs i≈u):lW (k,.tup xs) (.int i)≈(kE k,u):=by change(Oe xs i).map _=_;rw[h];rfl
def xZ:Kd.own≠Kd.A':=⋯
local macro_rules
 |`(tactic| sizeOf_list_dec)=>`(tactic| first|exact bC|apply aw|apply tQ|apply aS|exact ak|exact af rfl|exact aB rfl|exact aC rfl|apply bu|apply lA|apply aV|apply dW|apply aG|apply fM|apply aN|exact ah|apply aa|apply dz|apply dX|exact aP|apply aA|exact aH|exact xV|(first|exact trivial|exact⟨⟨_,rfl,rfl⟩,trivial⟩|exact#[#[_,rfl,rfl],#[_,rfl,rfl],trivial])|exact d5|exact uH|exact cu (by first|lia|decide)|exact Cz (by first|lia|decide)|exact qc (by first|lia|decide)|exact qd (by decide)|exact aR|exact bo|exact nX|exact bh|exact j7|exact tM rfl|exact kj _|exact rfl|exact xZ)
abbrev wj(c k:Int):Int:=((c % 10 ^ 15+1) * 48271+k * k * 16807+k * 7919) % 2147483647 * 69621 % 2147483629
abbrev zE:Fn:=#["_law_mix",2,3,[.set 2 (.bin .add (.bin .add (.bin .mul (.bin .add (.bin .mod Nv (.bin .pow (cI 10) (cI 15))) cA) (cI 48271)) (.bin .mul (.bin .mul NG NG) (cI 16807))) (.bin .mul NG (cI 7919))),.ret (.bin .mod (.bin .mul (.bin .mod NO (cI 2147483647)) (cI 69621)) (cI 2147483629))]]
def FD(h0:0<=k)(a:k<2 ^ 63):bK Γ zE [.int c,.int k]≈.ok (lI (wj c k)):=by
 apply ay  rfl (.inr rfl) rfl
 repeat' sizeOf_list_dec
abbrev x9:Fn:=#["_law_cell",2,3,[.ite (.cmp .lt NG (.bi .len [Nv])) [.ret (.idx Nv NG)] [],.set 2 cO,.ite (.cmp .gt (.bi .len [Nv]) cO) [.set 2 (.idx Nv (.bin .mod NG (.bi .len [Nv])))] [],.ret (.bin .add (.bin .mul (cI 2) (.call "_law_mix" [NO,NG])) cA)]]
abbrev CA(Γ:Tab):Prop:=∀c k:Int,0<=k->k<2 ^ 63->Γ "_law_mix" [.int c,.int k]≈.ok (lI (wj c k))
def n9(h:df (i<j)=c):bO .lt (.int i) (.int j)≈c:=by subst h;rfl
def j8(h:df (j<i)=c):bO .gt (.int i) (.int j)≈c:=by subst h;rfl
def gp(h:(i==j)=c):bO .eq (.int i) (.int j)≈c:=by subst h;rfl
def mB:P2 .len [(k,.lst xs)]≈lI (⇑xs:Nat):=rfl
def j9:P2 .len [(k,.tup xs)]≈lI (⇑xs:Nat):=rfl
abbrev GQ(ns:↑Int)(k:Nat):Int:=if k<⇑ns then(ns[k]?).getD 0 else 2 * wj ((ns[k % ⇑ns]?).getD 0) k+1
def CB(f:CA Γ){k:Nat}(hk:k<2 ^ 62):bK Γ x9 [.lst (ns.map .int),.int k]≈.ok (lI (GQ ns k)):=by
 have b:∀c,Γ "_law_mix" [.int c,.int k]≈.ok (lI (wj c k)):=λc=>f c k ⋯ ⋯;unfold GQ;by_cases h:k<⇑ns
 .rw[ŵ h];have a:Oe (ns.map U.int) (k:Int)≈.int ((ns[k]?).getD 0):=bN (by simp[h]);apply ay (st0:=[bD (aL (ns.map .int)),bD (lI k),cc]) rfl (.inr rfl) rfl;apply kJ
  all_goals repeat' (first|show n9 (by simp[h])|show aJ a|show GO rfl|sizeOf_list_dec)
 .rw[Ŷ h];have d:bO .lt (.int k) (.int (⇑(ns.map U.int):Nat))≈cK:=n9 ⋯;by_cases hz:0<⇑ns
  .have hi:k % ⇑ns<⇑ns:=ų _ hz;have a:Oe (ns.map U.int) ((k:Int) % (⇑(ns.map U.int):Nat))≈.int ((ns[k % ⇑ns]?).getD 0):=by
    show bN (by simp[hi])
   have g:(0:Int)<(⇑(ns.map U.int):Nat):=⋯
   apply ay (st0:=[bD (aL (ns.map .int)),bD (lI k),cc]) rfl (.inr rfl) rfl;apply d_
   all_goals repeat' (first|show d|sizeOf_list_dec)
   apply jt
   all_goals repeat' (first|show j8 ⋯|show cu g|show aJ a|show b _|sizeOf_list_dec)
  .have e:ns=[]:=TZ ⋯;subst e;apply ay (st0:=[bD (aL ([].map .int)),bD (lI k),cc]) rfl (.inr rfl) rfl;apply d_
   all_goals repeat' (first|show d|sizeOf_list_dec)
   apply d_
   all_goals repeat' (first|show b _|sizeOf_list_dec)
abbrev rp:Fn:=#["_law_drawn",2,5,[.set 2 (.lst []),.set 3 (.bin .Qm Nv (cI 2)),.Oh cK [4] .Ol [NG] [.ite (.cmp .eq (.bin .mod Nv (cI 2)) cO) [.app 2 (.bin .mod NJ (cI 64)),.set 3 (.bin .Qm NJ (cI 64))] [.app 2 (.bin .mod (.bin .Qm (.call "_law_mix" [Nv,Oc]) (cI 7)) (cI 4096))]],.ret NO]]
def tT(x):P4 .Ol [x]=Bb x:=rfl
def wm(h:n<2 ^ 62):P4 .Ol [(k,.int (n:Nat))]≈((ib n).map λi:Nat=>(lI (0+(i:Int)))):=by
 rw[tT,Bb,ŵ ⋯,Sq]
abbrev ir(n:Nat)(xs:↑(Kd×U)):Prop:=∃i,i<=n/\xs=((ib n).drop i).map λi:Nat=>(lI (0+(i:Int)))
def ir.cons(h:ir n (x::xs)):∃i,i<n/\x=(lI (i:Nat))/\ir n xs/\i+⇑xs+1=n:=by
 have(i,hi,e):=h;by_cases a:i<n
 .rw[U2 (by exists a)]at e;cases e;show#[i,a,by simp,#[_,a,rfl],by simp;lia]
 .rw[List.drop_eq_nil_of_le (by grind)]at e;cases e
def ir.all(n):ir n ((ib n).map λi:Nat=>(lI (0+(i:Int)))):=#[0,kj _,rfl]
def zF(p:CA Γ)(hn:n<1000):∃ds:↑Int,⇑ds=n/\(∀d∈ds,0<=d)/\bK Γ rp [.int c,.int n]≈.ok (oL (ds.map .int)):=by
 have hsz:(1000:Nat)<=c8:=⋯
 let I:↑(Kd×U)->au->Prop:=λxs st=>∃(ds:↑Int) (us:↑U) (left:Int) (o:Sl),st=[bD (lI c),bD (lI n),bD (oL us),bD (lI left),o]/\us=ds.map .int/\(∀d∈ds,0<=d)/\⇑ds+⇑xs=n/\ir n xs;have a:=xX (t:=cK) (is:=[4]) (body:=execs Γ [.ite (.cmp .eq (.bin .mod Nv (cI 2)) cO)
    [.app 2 (.bin .mod NJ (cI 64)),
    .set 3 (.bin .Qm NJ (cI 64))]
    [.app 2 (.bin .mod (.bin .Qm (.call "_law_mix" [Nv,Oc]) (cI 7)) (cI 4096))]]) (rs:=[(lI n)]) I (λ_ _ _=>ttt) (λx xs st q=>by
  have(ds,us,left,o,e,b,h0,hl,r):=q;subst e;have f:⇑us=⇑ds:=by rw[b];simp
  have(i,hi,rfl,j,l):=r.cons;have s:Γ "_law_mix" [.int c,.int i]≈.ok (lI (wj c i)):=p c i ⋯ ⋯;rw[k9]at hl;by_cases m:c % 2=0
  .show#[[bD (lI c),bD (lI n),bD (oL us),bD (lI left),bD (lI i)],[bD (lI c),bD (lI n),bD (oL (us++[.int (left % 64)])),bD (lI (left / 64)),bD (lI i)],aR,?_,#[ds++[left % 64],_,left / 64,_,rfl,by simp[b],?_,by simp;lia,j]]
   .apply jt
    all_goals repeat' (first|show gp (by simp[m])|show(by rw[f];lia)|sizeOf_list_dec)
   .intro d g;rcases i7.mp g with z|z
    .show h0 d z
    .rw[kr.mp z];lia
  .show#[[bD (lI c),bD (lI n),bD (oL us),bD (lI left),bD (lI i)],[bD (lI c),bD (lI n),bD (oL (us++[.int (wj c i / 7 % 4096)])),bD (lI left),bD (lI i)],aR,?_,#[ds++[wj c i / 7 % 4096],_,left,_,rfl,by simp[b],?_,by simp;lia,j]]
   .apply d_
    all_goals repeat' (first|show gp (by simp[m])|show s|show(by rw[f];lia)|sizeOf_list_dec)
   .intro d g;rcases i7.mp g with z|z
    .show h0 d z
    .rw[kr.mp z];lia)
 have(st',u,ds,us,left,o,e,b,h0,hl,_):=a ((ib n).map λi:Nat=>(lI (0+(i:Int)))) [bD (lI c),bD (lI n),bD (oL []),bD (lI (c / 2)),cc] ⟨[],[],c / 2,cc,rfl,rfl,by simp,by simp,ir.all n⟩;subst e b;show#[ds,by simpa using hl,h0,?_];apply ay (st0:=[bD (lI c),bD (lI n),cc,cc,cc]) rfl (.inl rfl) rfl
 repeat' sizeOf_list_dec
 have h:=wm (k:=.loc) (n:=n) ⋯;refine' ip (rs:=[(lI n)]) (st1:=[bD (lI c),bD (lI n),bD (oL []),bD (lI (c / 2)),cc]) _ ttt h rfl u _
 all_goals repeat' sizeOf_list_dec
end TM
local macro_rules
 |`(tactic| sizeOf_list_dec)=>`(tactic| first|exact TM.bC|apply TM.aw|apply TM.tQ|apply TM.aS|exact TM.ak|exact TM.af rfl|exact TM.aB rfl|exact TM.aC rfl|apply TM.bu|apply TM.lA|apply TM.aV|apply TM.dW|apply TM.aG|apply TM.fM|apply TM.aN|exact TM.ah|apply TM.aa|apply TM.dz|apply TM.dX|exact TM.aP|apply TM.aA|exact TM.aH|exact TM.xV|(first|exact trivial|exact⟨⟨_,rfl,rfl⟩,trivial⟩|exact#[#[_,rfl,rfl],#[_,rfl,rfl],trivial])|exact TM.d5|exact TM.uH|exact TM.cu (by first|lia|decide)|exact TM.Cz (by first|lia|decide)|exact TM.qc (by first|lia|decide)|exact TM.qd (by decide)|exact TM.aR|exact TM.bo|exact TM.nX|exact TM.bh|exact TM.j7|exact TM.tM rfl|exact kj _|exact rfl|exact TM.xZ)
namespace NX
open PySem L2
abbrev bE(l:↑Nat):Prop:=cT l=b6\/∃a b k,l=a++47::b/\cT a=b6/\2<=k/\k<=99/\(~~~(qt k))=b
def len_list(x:Str):⇑x=⇑x.cps.toList:=by rfl
def pN(h0:0<=k)(a:k<=99):⇑(qt k)<=2:=by
 have(m,rfl):=VW h0;have b:m<100:=⋯
 clear h0 a;revert m;decide +kernel
def bE.len(h:bE l):1<=⇑l/\⇑l<=11:=by
 rcases h with h|⟨a,b,k,rfl,h,e,c,d⟩
 .have:=(cP l).mp h;lia
 .have:=(cP a).mp h;have hl:=pN  ⋯ c;rw[len_list,d]at hl;simp;lia
def bE.Nm(h:bE (~~~x)):∃y r,G' x Gn=y::r/\cT (~~~y)=b6:=by
 rcases h with h|⟨a,b,k,e,h,_⟩
 .show#[x,[],uZ (jH h),h]
 .have(r,c):=AK e (jH h) ⋯;show#[_,r,c,⋯]
theorem gJ:∀(ps:↑Str) a,(ps.foldl (λa p=>a++nS.cps++p.cps) a).toList=a.toList++(ps.map λp=>(~~~p)).flatten
 |[],a=>by simp
 |p::ps,a=>by
  rw[YU,gJ ps];have:nS.cps=#v[]:=rfl;simp[this]
def join_list(ts):(~~~(ri nS ts))=(ts.map λp=>(~~~p)).flatten:=by
 cases ts with
 |nil=>rfl
 |cons t ts =>
  change(ts.foldl _ t.cps).toList=_;rw[gJ];simp
abbrev one(c:Nat):Str:=#[#v[c]]
def join_ones(a):(~~~(ri nS (a.map one)))=a:=by
 rw[join_list,i8];induction a with
 |nil=>rfl
 |cons c a b=>rw[i6,Ā,b];rfl
def tU(a:↑Nat)(h:⇑a<=100):Vv nS (a.map one)=b6:=by
 unfold Vv;have e:=PySem.StrLaws.joinTotal nS (a.map one);have b:⇑nS=0:=rfl;have es:((a.map one).map (·.length)).sum=⇑a:=by
  rw[i8];clear h e;induction a with
  |nil=>rfl
  |cons c a d=>rw[i6,Ĭ,d];change 1+⇑a=⇑a+1;lia
 rw[e,b,es];have f:⇑a+⇑(a.map one) * 0<=100:=⋯
 revert f;generalize ⇑a+⇑(a.map one) * 0=m;revert m;decide
def JC(x)(j:Nat):(~~~(PySem.StrLaws.sliceText x cc (bD (j:Int))))=x.cps.toList.take j:=by
 by_cases h:j<=⇑x.cps.toList
 .rw[PySem.StrLaws.sliceText_to  ⟨⋯,⋯⟩];simp
 .have e:PySem.StrLaws.sliceText x cc (bD j)=PySem.StrLaws.sliceText x cc (bD ⇑x):=by
   unfold PySem.StrLaws.sliceText;have hl:=len_list x;have:PySem.Builtin.Str.strSliceIndices cc (bD j) 1 ⇑x=PySem.Builtin.Str.strSliceIndices cc (bD ⇑x) 1 ⇑x:=by
    have a:¬((j:Int)<0):=⋯
    have b:¬((⇑x:Int)<0):=⋯
    have c:min (j:Int) ⇑x=⇑x:=⋯
    simp[PySem.Builtin.Str.strSliceIndices,a,b,c]
   rw[this]
  have hl:=len_list x;rw[e,PySem.StrLaws.sliceText_to  ⟨⋯,⋯⟩,List.drop_zero,Sa   ⋯];rw[Sa ⋯]
def zG(d:cT a=b6)(e:∀c∈b,low c=b6):cT ((a++b).take 8)=b6:=by
 have h:=(cP a).mp d;show(cP _).mpr #[by grind,by grind,λc f=>?_];have g:=Ò f;rcases i7.mp g with m|m
 .show h.2.2 c m
 .have:=e c m;simp[low]at this;lia
def lF(a:∀c∈b,low c=b6)(d:1<=⇑b)(e:⇑b<=8):cT b=b6 :=
 (cP b).mpr #[d,e,λc f=>by have:=a c f;simp[low]at this;lia]
abbrev small:Str:="abcdefghijklmnopqrstuvwxyz"
def wo:(~~~small)=(ib 26).map (97+·):=by rfl
def n_(h0:0<=k)(a:k<26):Oe (~~~small) k≈(97+k.toNat):=by
 have(j,rfl):=VW h0;show bN ?_;rw[wo,sd,XM ⋯];rfl
def wq(h:j<26):low (97+j)=b6:=by simp[low];lia
abbrev tV(k:Nat):Str:=#[#v[97+k / 26,97+k % 26]]
def wt(h:k<40):cT (~~~(tV k))=b6:=by
 show lF (λc a=>?_) (by change 1<=2;decide) (by change 2<=8;decide);have b:=by simpa[tV] using a
 rcases b with rfl|rfl
 .show wq ⋯
 .show wq ⋯
theorem og [DecidableEq α]:∀{l m:↑α},l.Nodup->(∀x∈l,x∈m)->⇑l<=⇑m
 |[],_,_,_=>kj _
 |x::l,m,hn,h=>by
  have(b,c):=nH.mp hn;have d:=h x il;have e:=og   c λy a=>(Ó (by rintro rfl;show b a)).mpr (h y (f7 _ a))
  grind
abbrev dJ:↑Str:=(ib 40).map tV
def rA:dJ.Nodup:=by
 decide +kernel
def wu(names:↑Str)(h:⇑names<40):∃x∈dJ,x∉names:=by
 apply YE;intro a;have:=λx b=>YE λhn=>a #[x,b,hn];have:=og rA this;simp[dJ]at this;lia
end NX
namespace TM
open PySem L2 NX
def mC(h0:0<=z)(h:z<2 ^ 62):P4 .Ol [(k,.int z)]≈((ib z.toNat).map λi:Nat=>(lI (0+(i:Int)))):=by
 rw[tT,Bb,ŵ ⋯]
def mU(a:⇑x<=c8)(h:Oe (~~~x) i≈c):lW (k,.str x) (.int i)≈zS (NX.one c):=by
 erw[lW];rw[ŵ a,h];rfl
def oh:⇑small<=c8:=⋯
def bU{ds:↑Int}{i}(h:i<⇑ds):Oe (ds.map U.int) (i:Int)≈.int ((ds[i]?).getD 0):=bN (by simp[h])
theorem fO:∀ss,strsOf (ss.map U.str)≈ss
 |[]=>rfl
 |s::ss=>by change(strsOf _).map _=_;rw[fO ss];rfl
abbrev rB(a:E):Fn:=#["_law_name",2,6,[.set 2 (cQ "abcdefghijklmnopqrstuvwxyz"),.set 3 (.OX .join (cQ "") [.comp 1 cK .Ol [.bin .add cA (.bin .mod (.idx Nv cO) (cI 8))] [] (.idx NJ (.bin .mod (.idx NG (.bin .add (cI 4) Nv)) (cI 26)))]),.ite (.cmp .gt (.bi .len [NG]) cO) [.set 4 (.idx (.OX .split (.idx NG (.bin .mod (.idx Nv cA) (.bi .len [NG]))) [(cQ "/")]) cO),.ite (.cmp .eq (.bin .mod (.idx Nv (cI 2)) (cI 4)) cA) [.set 3 (.Po (.bin .add Oc NJ) [] [(cI 8)])] [],.ite (.cmp .eq (.bin .mod (.idx Nv (cI 2)) (cI 4)) (cI 2)) [.set 3 (.bin .add (.bin .add Oc (cQ "/")) (.bi .str [.bin .add (cI 2) (.bin .mod (.idx Nv (cI 3)) a)]))] []] [],.set 5 (.bin .add (.lst [NJ]) (.comp 1 cK .Ol [(cI 40)] [] (.bin .add (.idx NJ (.bin .Qm Nv (cI 26))) (.idx NJ (.bin .mod Nv (cI 26)))))),.ret (.idx (.comp 1 cK .seq [Oq] [.cmp .NH Nv NO] Nv) cO)]]
abbrev FE(a:E):Prop:=∀(Γ:Tab) (ds:↑Int),12<=⇑ds->(∀d∈ds,0<=d)->∃m:Int,0<m/\m<=98/\∀o1 o2 o3 o4 o5,Run (ev Γ a) [bD (aL (ds.map .int)),o1,o2,o3,o4,o5] (lI m) [bD (aL (ds.map .int)),o1,o2,o3,o4,o5]
@[reducible]noncomputable def L5:E:=cI 98
def FF:FE L5:=λ_ _ _ _=>#[98,by decide,by decide,λ_ _ _ _ _=>ak]
section
variable{Γ:Tab}{ds:List Int}
abbrev dd(ds:↑Int)(i:Nat):Int:=(ds[i]?).getD 0
def fP(h0:∀d∈ds,0<=d)(i):0<=dd ds i:=by
 unfold dd;cases e:ds[i]? with
 |none=>simp
 |some d=>show h0 d (n7 e)
def rC(m:12<=⇑ds)(h0:∀d∈ds,0<=d):∃b:↑Nat,(∀c∈b,low c=b6)/\1<=⇑b/\⇑b<=8 /\
  Run (ev Γ (.comp 1 cK .Ol [.bin .add cA (.bin .mod (.idx Nv cO) (cI 8))] [] (.idx NJ (.bin .mod (.idx NG (.bin .add (cI 4) Nv)) (cI 26)))))
   [bD (aL (ds.map .int)),o1,bD (zS small),o3,o4,o5] (oL ((b.map NX.one).map .str)) [bD (aL (ds.map .int)),o1,bD (zS small),o3,o4,o5]:=by
 have hz:=fP h0 0;let n:=(1+dd ds 0 % 8).toNat;have hn:n<=8/\1<=n:=by change(1+dd ds 0 % 8).toNat<=8/\1<=(1+dd ds 0 % 8).toNat;lia
 let f:Nat->Nat:=λi=>97+(dd ds (4+i) % 26).toNat;show#[(ib n).map f,?_,by simp;show hn.2,by simp;show hn.1,?_]
 .intro c h;have(i,_,rfl):=j0.mp h;have:=fP h0 (4+i);show wq ⋯
 .have a:Run (cp 1 cK (aT Γ []) (ev Γ (.idx NJ (.bin .mod (.idx NG (.bin .add (cI 4) Nv)) (cI 26)))) [(lI (1+dd ds 0 % 8))] ((ib n).map λi:Nat=>(lI (0+(i:Int)))) [])
    [bD (aL (ds.map .int)),o1,bD (zS small),o3,o4,o5] ([]++((ib n).map λi:Nat=>(lI (0+(i:Int)))).map λx=>match x.2 with|.int j=>.str (NX.one (97+(dd ds (4+j.toNat) % 26).toNat))|u=>u) [bD (aL (ds.map .int)),o1,bD (zS small),o3,o4,o5]:=by
   have o:(8:Nat)<=c8:=⋯
   show Cy (by show ttt) _ (λ_=>.loc) _ _ ⋯ (λx a=>?_) (λx a=>?_)
   .have(i,_,rfl):=j0.mp a;show .inl rfl
   .have(i,hi,rfl):=j0.mp a;have p:i<n:=by exists hi
    have g:Oe (ds.map U.int) (4+(0+(i:Int)))≈.int (dd ds (4+i)):=by
     rw[show(4+(0+(i:Int)))=((4+i:Nat):Int) by lia];show bU ⋯
    have q:=fP h0 (4+i);have hs:=n_ (k:=dd ds (4+i) % 26) ⋯ ⋯;show#[fN,?_,aH];erw[ŗ,Sq];rw[ŗ]at g
    repeat' (first|show aJ g|show mU oh hs|sizeOf_list_dec)
  have e:((ib n).map f).map NX.one=(ib n).map λi=>NX.one (97+(dd ds (4+i) % 26).toNat):=by rw[i8];rfl
  rw[e];have l:([]++((ib n).map λi:Nat=>(lI (0+(i:Int)))).map λx=>match x.2 with|.int j=>U.str (NX.one (97+(dd ds (4+j.toNat) % 26).toNat))|u=>u)=((ib n).map λi=>NX.one (97+(dd ds (4+i) % 26).toNat)).map U.str:=by
   simp
  rw[l]at a;show b_ (rs:=[(lI (1+dd ds 0 % 8))]) ?_ ttt (mC ⋯ ⋯) a
  repeat' (first|show aJ (bU (i:=0) ⋯)|sizeOf_list_dec)
def ft(h:⇑x+⇑y<=c8):Qc .add (k,.str x) (k',.str y)≈zS (x++y):=by
 erw[Qc,A_];simp_all
theorem fQ:∀(ss:↑Str) n,dQ n (ss.map U.str)=b6
 |[],n=>by rfl
 |s::ss,n=>by erw[i6,dQ,fQ ss n];rfl
theorem tW(x):∀(ss:↑Str),((ss.map U.str).any λy=>cj y (.str x))=df (x∈ss)
 |[]=>by simp
 |s::ss=>by
  rw[i6,į,tW x ss];have:cj (.str s) (.str x)=df (x=s):=by
   erw[cj]
   grind
  simp_all
def FG(x)(ss:↑Str):Ug (.str x) (ss.map U.str)≈df (x∈ss):=by
 unfold Ug;rw[ŵ #[by rfl,fQ ss 50],tW]
def iu{ss:↑Str}:bO .NH (.str x) (.lst (ss.map U.str))≈df (x∉ss):=by
 change(Ug _ _).map _=_;rw[FG];simp
def tX:Run (ev Γ (.comp 1 cK .Ol [(cI 40)] [] (.bin .add (.idx NJ (.bin .Qm Nv (cI 26))) (.idx NJ (.bin .mod Nv (cI 26))))))
   [o0,o1,bD (zS small),o3,o4,o5] (oL (dJ.map .str)) [o0,o1,bD (zS small),o3,o4,o5]:=by
 have f:(100:Nat)<=c8:=⋯
 have a:Run (cp 1 cK (aT Γ []) (ev Γ (.bin .add (.idx NJ (.bin .Qm Nv (cI 26))) (.idx NJ (.bin .mod Nv (cI 26))))) [(lI 40)] ((ib 40).map λi:Nat=>(lI (0+(i:Int)))) [])
   [o0,o1,bD (zS small),o3,o4,o5] ([]++((ib 40).map λi:Nat=>(lI (0+(i:Int)))).map λx=>match x.2 with|.int j=>.str (tV j.toNat)|u=>u) [o0,o1,bD (zS small),o3,o4,o5]:=by
  show Cy (by show ttt) _ (λ_=>.loc) _ _ ⋯ (λx a=>?_) (λx a=>?_)
  .have(i,_,rfl):=j0.mp a;show .inl rfl
  .have(i,hi,rfl):=j0.mp a;have g:i<40:=⋯
   show#[fN,?_,aH];simp;have b:=n_ (k:=(i:Int) / 26) ⋯ ⋯;have c:=n_ (k:=(i:Int) % 26) ⋯ ⋯;have d:((i:Int) / 26).toNat=i / 26:=⋯
   rw[d]at b
   repeat' (first|show mU oh b|show mU oh c|show ad|sizeOf_list_dec)
 have e:([]++((ib 40).map λi:Nat=>(lI (0+(i:Int)))).map λx=>match x.2 with|.int j=>U.str (tV j.toNat)|u=>u)=dJ.map U.str:=by
  rfl
 rw[e]at a;show b_ (rs:=[(lI 40)]) (by repeat' sizeOf_list_dec) ttt (mC ⋯ ⋯) a
def zH{names ts:↑Str}(hl:⇑ts<=1000):Run (ev Γ (.comp 1 cK .seq [Oq] [.cmp .NH Nv NO] Nv))
   [o0,bD (aL (names.map .str)),o2,o3,o4,bD (oL (ts.map .str))] (oL ((ts.filter λx=>df (x∉names)).map .str)) [o0,bD (aL (names.map .str)),o2,o3,o4,bD (oL (ts.map .str))]:=by
 have c:1000<=c8:=⋯
 have a:=nZ (cond:=aT Γ [.cmp .NH Nv NO]) (elt:=ev Γ Nv) (src:=[(.bor 5,.lst (ts.map .str))]) (st:=[o0,bD (aL _),o2,o3,o4,bD _]) #[#[.own,rfl,rfl],ttt]
  (λx=>match x.2 with|.str y=>df (y∉names)|_=>cK) (λx=>x.2) (λ_=>.loc) ((ts.map U.str).map λu=>(kE (.bor 5),u)) [] (by grind) (λx a=>by have(u,_,rfl):=j0.mp a;show .inl rfl) (λx a=>by
   have(u,b,rfl):=j0.mp a;have(y,_,rfl):=j0.mp b;show#[cV ?_,af rfl,aH]
   repeat' (first|show iu|sizeOf_list_dec))
 have e:([]++(((ts.map U.str).map λu=>(kE (.bor 5),u)).filter λx=>match x.2 with|.str y=>df (y∉names)|_=>cK).map λx=>x.2)=(ts.filter λx=>df (x∉names)).map U.str:=by
  rw[ě,ě,i8,i8];rfl
 rw[e]at a;show b_ (rs:=[(.bor 5,.lst _)]) (by repeat' sizeOf_list_dec) #[#[.own,rfl,rfl],ttt] rfl a
end
section
variable{Γ:Tab}{ds:List Int}
def zI{names:↑Str}(hn:⇑names<40)(l:bE (~~~a)):∃x st',bE (~~~x)/\x∉names /\
  Run (execs Γ [.set 5 (.bin .add (.lst [NJ]) (.comp 1 cK .Ol [(cI 40)] [] (.bin .add (.idx NJ (.bin .Qm Nv (cI 26))) (.idx NJ (.bin .mod Nv (cI 26)))))),
  .ret (.idx (.comp 1 cK .seq [Oq] [(.cmp .NH Nv NO)] Nv) cO)]) [o0,bD (aL (names.map .str)),bD (zS small),bD (zS a),o4,cc] (.rt .loc (.str x)) st':=by
 have m:1000<=c8:=⋯
 have(y,n,f):=wu names hn;have g:(a::dJ).filter (λx=>df (x∉names))≠[]:=λz=>by
  simp_all
 cases e:(a::dJ).filter _ with
 |nil=>show absurd e g
 |cons x c =>
  have i:x∈(a::dJ).filter (λx=>df (x∉names)):=by rw[e];simp
  have(b,j):=M'.mp i;have d:=zH (Γ:=Γ) (names:=names) (ts:=a::dJ) (by simp[dJ]) (o0:=o0) (o2:=bD (zS small)) (o3:=bD (zS a)) (o4:=o4);rw[e]at d;have ad:Qc .add (oL [.str a]) (oL (dJ.map U.str))≈oL ((a::dJ).map U.str):=by
   rfl
  show#[x,[o0,bD (aL (names.map .str)),bD (zS small),bD (zS a),o4,bD (oL ((a::dJ).map .str))],?_,by simpa using j,?_]
  .rcases eT.mp b with rfl|h
   .lia
   .have(k,hk,rfl):=j0.mp h;show .inl (wt ⋯)
  .show aw  (bu  (dX (aa (af rfl) ah) (by(first|show ttt|show⟨⟨_,rfl,rfl⟩,ttt⟩|show#[#[_,rfl,rfl],#[_,rfl,rfl],ttt])) (aA aH aP) (by grind)) tX ttt ad) bo ?_;show aS (aV d ak ttt (aJ (by show bN rfl))) bh
def CC(WB:FE o)(L:12<=⇑ds)(h0:∀d∈ds,0<=d){names:↑Str}(hn:⇑names<40)(hw:∀x∈names,bE (~~~x)):
  ∃x,bE (~~~x)/\x∉names/\bK Γ (rB o) [.lst (ds.map .int),.lst (names.map .str)]≈.ok (zS x):=by
 have(m,N,al,p):=WB Γ ds L h0;have h8:(1000:Nat)<=c8:=⋯
 have(b,O,q,j,WD):=rC (Γ:=Γ) L h0 (o1:=bD (aL (names.map .str))) (o3:=cc) (o4:=cc) (o5:=cc);have WE:jR .join (.str "") [(oL ((b.map NX.one).map U.str))]≈zS (ri nS (b.map NX.one)):=by
  change(strsOf ((b.map NX.one).map U.str)).bind _=_;rw[fO];change(if Vv nS (b.map NX.one)=b6 then _ else _)=_;rw[ŵ (tU b ⋯)];rfl
 let a:Str:=ri nS (b.map NX.one);have s:(~~~a)=b:=join_ones b;have Q:cT (~~~a)=b6:=by rw[s];show lF O q j
 have t:⇑a<=8:=by rw[len_list,s];show j
 have e:∀{f:Fl} {st':au} (ss:↑S),Run (execs Γ ss) [bD (aL (ds.map .int)),bD (aL (names.map .str)),bD (zS small),bD (zS a),cc,cc] f st' ->
   Run (execs Γ (.set 2 (cQ "abcdefghijklmnopqrstuvwxyz")::.set 3 (.OX .join (cQ "") [.comp 1 cK .Ol [.bin .add cA (.bin .mod (.idx Nv cO) (cI 8))] [] (.idx NJ (.bin .mod (.idx NG (.bin .add (cI 4) Nv)) (cI 26)))])::ss))
    [bD (aL (ds.map .int)),bD (aL (names.map .str)),cc,cc,cc,cc] f st':=λss h=>aw (r:=(zS small)) ak aR (aw (fM ak (aa WD ah) (by(first|show ttt|show⟨⟨_,rfl,rfl⟩,ttt⟩|show#[#[_,rfl,rfl],#[_,rfl,rfl],ttt])) WE) aR h)
 have k:∀(g:Str) (o4:Sl),bE (~~~g)->∃x st',bE (~~~x)/\x∉names/\Run (execs Γ [.set 5 (.bin .add (.lst [NJ]) (.comp 1 cK .Ol [(cI 40)] [] (.bin .add (.idx NJ (.bin .Qm Nv (cI 26))) (.idx NJ (.bin .mod Nv (cI 26)))))),
  .ret (.idx (.comp 1 cK .seq [Oq] [(.cmp .NH Nv NO)] Nv) cO)]) [bD (aL (ds.map .int)),bD (aL (names.map .str)),bD (zS small),bD (zS g),o4,cc] (.rt .loc (.str x)) st':=λg o4 u=>zI hn u
 by_cases hz:0<⇑names
 .
  have hi:(dd ds 1).toNat % ⇑names<⇑names:=ų _ hz;let nm:=names[(dd ds 1).toNat % ⇑names]'hi;have T:bE (~~~nm):=hw _ (F1 hi);have(y,r,Pl,v):=T.Nm;have Xj:⇑y<=8:=by rw[len_list];show((cP _).mp v).2.1
  have Xx:⇑nm<=11:=by rw[len_list];show T.len.2
  have w:=fP h0 1;have OP:Oe (names.map U.str) (dd ds 1 % (⇑(names.map U.str):Nat))≈.str nm:=by
   rw[ei,show dd ds 1 % (⇑names:Nat)=(((dd ds 1).toNat % ⇑names:Nat):Int) by rw[Int.natCast_emod,XQ w]];show bN (by simp[hi];rfl)
  have Ql:jR .split (.str nm) [(zS "/")]≈oL ((y::r).map U.str):=by
   change(if (Ya "/"==0)=cK/\⇑nm+2<=c8 then bD (oL ((G' nm "/").map .str)) else cc)=_;rw[ŵ #[by decide,⋯],show("/":Str)=Gn from rfl,Pl]
  have hp:(0:Int)<(⇑(names.map U.str):Nat):=⋯
  have z:lW (oL ((y::r).map U.str)) (.int 0)≈zS y:=aJ (by change Oe _ ((0:Nat):Int)=_;show bN rfl);have am:=fP h0 2;have an:=fP h0 3;have i1:Oe (ds.map U.int) 1≈.int (dd ds 1):=bU (i:=1) ⋯;have Y:Oe (ds.map U.int) 2≈.int (dd ds 2):=bU (i:=2) ⋯;have i3:Oe (ds.map U.int) 3≈.int (dd ds 3):=bU (i:=3) ⋯;have go:∀g:Str,bE (~~~g)->Run (execs Γ [.ite (.cmp .eq (.bin .mod (.idx Nv (cI 2)) (cI 4)) cA)
    [.set 3 (.Po (.bin .add Oc NJ) [] [(cI 8)])]
    [],
   .ite (.cmp .eq (.bin .mod (.idx Nv (cI 2)) (cI 4)) (cI 2))
    [.set 3 (.bin .add (.bin .add Oc (cQ "/")) (.bi .str [.bin .add (cI 2) (.bin .mod (.idx Nv (cI 3)) o)]))]
    []]) [bD (aL (ds.map .int)),bD (aL (names.map .str)),bD (zS small),bD (zS a),bD (zS y),cc] .nx [bD (aL (ds.map .int)),bD (aL (names.map .str)),bD (zS small),bD (zS g),bD (zS y),cc] ->
    ∃x,bE (~~~x)/\x∉names/\bK Γ (rB o) [.lst (ds.map .int),.lst (names.map .str)]≈.ok (zS x):=λg u hr=>by
   have(x,st',A,B,C):=k g (bD (zS y)) u;show#[x,A,B,ay (st0:=[bD (aL (ds.map .int)),bD (aL (names.map .str)),cc,cc,cc,cc]) rfl (.inr rfl) rfl (e _ (jt (st1:=[bD (aL (ds.map .int)),bD (aL (names.map .str)),bD (zS small),bD (zS a),cc,cc]) ?_ (aw (r:=(zS y)) (st1:=[bD (aL (ds.map .int)),bD (aL (names.map .str)),bD (zS small),bD (zS a),cc,cc]) ?_ aR hr) C))]
   .repeat' (first|show j8 ⋯|sizeOf_list_dec)
   .repeat' (first|show cu hp|show aJ OP|show aJ i1|show Ql|show z|sizeOf_list_dec)
  have D:∀{c:Bool} {o3 o4:Sl},(dd ds 2 % 4==1)=c->Run (NQ Γ (.cmp .eq (.bin .mod (.idx Nv (cI 2)) (cI 4)) cA)) [bD (aL (ds.map .int)),bD (aL (names.map .str)),bD (zS small),o3,o4,cc] c [bD (aL (ds.map .int)),bD (aL (names.map .str)),bD (zS small),o3,o4,cc]:=λG=>by
   repeat' (first|show aJ Y|show gp G|sizeOf_list_dec)
  have H:∀{c:Bool} {o3 o4:Sl},(dd ds 2 % 4==2)=c->Run (NQ Γ (.cmp .eq (.bin .mod (.idx Nv (cI 2)) (cI 4)) (cI 2))) [bD (aL (ds.map .int)),bD (aL (names.map .str)),bD (zS small),o3,o4,cc] c [bD (aL (ds.map .int)),bD (aL (names.map .str)),bD (zS small),o3,o4,cc]:=λG=>by
   repeat' (first|show aJ Y|show gp G|sizeOf_list_dec)
  by_cases Vl:dd ds 2 % 4=1
  .have I:⇑y+⇑a<=c8:=⋯
   have V':jQ (zS (y++a)) cc (bD 8)≈zS (PySem.StrLaws.sliceText (y++a) cc (bD 8)):=by
    erw[jQ];rw[ŵ (by rw[len_list];change(y.cps++a.cps).toList.length<=_;rw[XB,mx,<-len_list,<-len_list];lia)]
   show go (PySem.StrLaws.sliceText (y++a) cc (bD 8)) (.inl ?_) ?_
   .have:=JC (y++a) 8;rw[show((8:Nat):Int)=8 from rfl]at this;rw[this];change cT ((y.cps++a.cps).toList.take 8)=b6;rw[XB];show zG v (by rw[s];show O)
   .show jt (D (by simp[Vl])) (aw (lE (bu (af rfl) (af rfl) ttt (ft I)) lC (lD ak) ttt V') aR bC) (d_ (H (by simp[Vl])) bC bC)
  .by_cases J:dd ds 2 % 4=2
   .have Zp:=Uz (dd ds 3) (show m≠0 by lia);have RV:=Yd (dd ds 3) N;have Wa:0<=2+dd ds 3 % m:=⋯
    have l:2+dd ds 3 % m<=99:=⋯
    have ab:=pN Wa l;have Um:P2 .str [(lI (2+dd ds 3 % m))]≈zS (qt (2+dd ds 3 % m)):=by
     erw[P2,iS,Ba];rw[ŵ (by
      have:(2+dd ds 3 % m).natAbs<2 ^ 7:=⋯
      have h2:(2+dd ds 3 % m).natAbs≠0:=⋯
      have:=(Š h2).mpr this;lia)]
     rfl
    have ac:⇑(y++("/":Str))=⇑y+1:=by rw[len_list,len_list];change(y.cps++_).toList.length=_;rw[XB,mx];rfl
    have n:Run (ev Γ (.bin .add (cI 2) (.bin .mod (.idx Nv (cI 3)) o))) [bD (aL (ds.map .int)),bD (aL (names.map .str)),bD (zS small),bD (zS a),bD (zS y),cc] (lI (2+dd ds 3 % m)) [bD (aL (ds.map .int)),bD (aL (names.map .str)),bD (zS small),bD (zS a),bD (zS y),cc]:=bu ak (bu (aV (aB rfl) ak ttt (aJ i3)) (p _ _ _ _ _) ttt (cu N)) ttt d5;show go (y++"/"++qt (2+dd ds 3 % m)) (.inr #[(~~~y),(~~~(qt (2+dd ds 3 % m))),2+dd ds 3 % m,?_,v,⋯,l,rfl]) ?_
    .change((y.cps++#v[47])++(qt _).cps).toList=_;simp
    .show d_ (D (by simp[J])) bC (jt (H (by simp[J])) (aw (bu (bu (af rfl) ak ttt (ft (by change ⇑y+1<=c8;lia))) (dW (aa n ah) ttt Um) ttt (ft ⋯)) aR bC) bC)
   .show go a (.inl Q) ?_;show d_ (D (by simp[Vl])) bC (d_ (H (by simp[J])) bC bC)
 .have(x,st',A,B,C):=k a cc (.inl Q);show#[x,A,B,ay (st0:=[bD (aL (ds.map .int)),bD (aL (names.map .str)),cc,cc,cc,cc]) rfl (.inr rfl) rfl (e _ (d_ (st1:=[bD (aL (ds.map .int)),bD (aL (names.map .str)),bD (zS small),bD (zS a),cc,cc]) ?_ bC C))]
  repeat' (first|show j8 (ŷ (by erw[ei];lia))|sizeOf_list_dec)
end
abbrev rE(Γ:Tab):Prop:=∀(ns:↑Int) (k:Nat),k<2 ^ 62->∃z,Γ "_law_cell" [.lst (ns.map .int),.int (k:Nat)]≈.ok (lI z)
abbrev mD(Γ:Tab):Prop:=∀(c:Int) (n:Nat),n<1000->∃ds:↑Int,⇑ds=n/\(∀d∈ds,0<=d)/\Γ "_law_drawn" [.int c,.int (n:Nat)]≈.ok (oL (ds.map .int))
abbrev CD(Γ:Tab):Prop:=∀(ds:↑Int) (names:↑Str),12<=⇑ds->(∀d∈ds,0<=d)->⇑names<40->(∀x∈names,bE (~~~x))->∃x,bE (~~~x)/\x∉names/\Γ "_law_name" [.lst (ds.map .int),.lst (names.map .str)]≈.ok (zS x)
abbrev fNames:Fn:=#["_law_names",3,5,[.set 3 (.lst []),.Oh cK [4] .Ol [NO] [.app 3 (.call "_law_name" [.call "_law_drawn" [.call "_law_cell" [Nv,.bin .add NG Oc],(cI 12)],NJ])],.ret NJ]]
theorem zJ(hc:rE Γ)(hd:mD Γ)(hn:CD Γ){ns:List Int}(hb:b<1000)(hm:m<40):
    ∃names:List Str,names.length=m/\names.Nodup/\(∀x∈names,bE x.cps.toList)/\bK Γ fNames [.lst (ns.map .int),.int (b:Nat),.int (m:Nat)]=bD (.ok (oL (names.map .str))):=by
  have hsz:(1000:Nat)<=c8:=by decide
  let I:List (Kd×U)->au->Prop:=λxs st=>∃(names:List Str) (us:List U) (o:Sl),st=[bD (aL (ns.map .int)),bD (lI (b:Nat)),bD (lI (m:Nat)),bD (oL us),o]/\us=names.map .str/\names.Nodup/\(∀x∈names,bE x.cps.toList)/\names.length+xs.length=m/\ir m xs;have loop:=xX (t:=cK) (is:=[4]) (body:=execs Γ [.app 3 (.call "_law_name" [.call "_law_drawn" [.call "_law_cell" [Nv,.bin .add NG Oc],(cI 12)],NJ])]) (rs:=[(lI (m:Nat))]) I (λ_ _ _=>trivial) (λx xs st N6=>by
    obtain⟨names,us,o,e,e2,NP,hw,hl,hr⟩:=N6;subst e;obtain⟨i,hi,rfl,Pt,hlen⟩:=hr.cons;rw[k9]at hl;obtain⟨z,hz⟩:=hc ns (b+i) ⋯;rw[Int.natCast_add]at hz;obtain⟨ds,d1,d2,d3⟩:=hd z 12 ⋯;obtain⟨x,x1,x2,x3⟩:=hn ds names ⋯ d2 ⋯ hw;rw[<-e2]at x3;refine⟨[bD (aL (ns.map .int)),bD (lI (b:Nat)),bD (lI (m:Nat)),bD (oL us),bD (lI (i:Nat))],[bD (aL (ns.map .int)),bD (lI (b:Nat)),bD (lI (m:Nat)),bD (oL (us++[.str x])),bD (lI (i:Nat))],aR,?_,⟨names++[x],_,_,rfl,by simp[e2],?_,?_,by simp;lia,Pt⟩⟩
    · repeat' (first|exact hz|exact d3|exact x3|exact(by rw[e2,ei];lia)|sizeOf_list_dec)
    · rw[mN]
      exact ⟨NP, by simp, fun y hy w Ve => by have : w = x := by simpa using Ve
                                              subst this;rintro rfl;exact x2 hy⟩
    · intro y hy
      rcases i7.mp hy with h|h
      · exact hw y h
      · rw[kr.mp h];exact x1)
  obtain⟨st',N4,names,us,o,e,e2,NP,hw,hl,_⟩:=loop ((ib m).map λi:Nat=>(lI (0+(i:Int)))) [bD (aL (ns.map .int)),bD (lI (b:Nat)),bD (lI (m:Nat)),bD (oL []),cc] ⟨[],[],cc,rfl,rfl,by simp,by simp,by simp,ir.all m⟩;subst e e2;refine⟨names,by simpa using hl,NP,hw,?_⟩;apply ay (st0:=[bD (aL (ns.map .int)),bD (lI (b:Nat)),bD (lI (m:Nat)),cc,cc]) rfl (.inl rfl) rfl
  repeat' sizeOf_list_dec
  have hit:=wm (k:=.loc) (n:=m) ⋯;refine' ip (rs:=[(lI (m:Nat))]) (st1:=[bD (aL (ns.map .int)),bD (lI (b:Nat)),bD (lI (m:Nat)),bD (oL []),cc]) _ trivial hit rfl N4 _
  all_goals repeat' sizeOf_list_dec
abbrev lG:Fn:=#["_law_told",2,6,[.set 2 (.bi .len [NG]),.ite (.and [.cmp .gt (.bin .mod (.idx Nv (cI 2)) (cI 3)) cO,.cmp .gt (.bin .mod (.idx Nv cO) (.bi .len [NG])) cO]) [.set 2 (.bin .mod (.idx Nv cO) (.bi .len [NG]))] [],.set 3 (.lst []),.Oh cK [4] .Ol [.idx (.lst [cO,cO,cA,cA,cA,(cI 2),(cI 2),(cI 2),(cI 3),(cI 8)]) (.bin .mod (.idx Nv cA) (cI 10))] [.set 5 (.idx NG (.bin .mod (.idx Nv (.bin .add (cI 3) Oc)) NO)),.ite (.cmp .NH Oq NJ) [.app 3 Oq] []],.ret (.bi .tuple [NJ])]]
theorem Nn:∀j:Nat,j<10->∃q,q<=8/\Oe [U.int 0,.int 0,.int 1,.int 1,.int 1,.int 2,.int 2,.int 2,.int 3,.int 8] (j:Int)≈.int (q:Nat)
 |0,_=>⟨0,⋯,rfl⟩|1,_=>⟨0,⋯,rfl⟩|2,_=>⟨1,⋯,rfl⟩|3,_=>⟨1,⋯,rfl⟩|4,_=>#[1,⋯,rfl]
 |5,_=>⟨2,⋯,rfl⟩|6,_=>⟨2,⋯,rfl⟩|7,_=>⟨2,⋯,rfl⟩|8,_=>⟨3,⋯,rfl⟩|9,_=>#[8,⋯,rfl]
 |n+10,h=>absurd h ⋯
def JD(hz:0<=z)(a:0<t)(hl:t<=⇑xs):∃x∈xs,Oe xs (z % t)≈x:=by
 have b:=Uz z (by lia:t≠0);have e:=Yd z a;have(j,c):=VW b;have d:j<⇑xs:=⋯
 show#[_,F1 d,?_];rw[c];show bN ⋯
def rF{xs:↑Str}{z t:Int}(hz:0<=z)(a:0<t)(hl:t<=⇑xs):∃x∈xs,Oe (xs.map U.str) (z % t)≈.str x:=by
 have(u,b,e):=JD (xs:=xs.map _) hz a ⋯;have(x,c,rfl):=j0.mp b;show#[x,c,e]
def CF{Γ}{ds:↑Int}{names:↑Str}(hd:11<=⇑ds)(h0:∀d∈ds,0<=d)(hn:0<⇑names):
  ∃told:↑Str,⇑told<=8/\told.Nodup/\(∀x∈told,x∈names)/\bK Γ lG [.lst (ds.map .int),.lst (names.map .str)]≈.ok (lT (told.map .str)):=by
 have hsz:(1000:Nat)<=c8:=⋯
 have A:Oe (ds.map U.int) 0≈.int (dd ds 0):=bU (i:=0) ⋯;have Q:Oe (ds.map U.int) 1≈.int (dd ds 1):=bU (i:=1) ⋯;have T:Oe (ds.map U.int) 2≈.int (dd ds 2):=bU (i:=2) ⋯;have n0:=fP h0 0;have n1:=fP h0 1;have n2:=fP h0 2;have j:(0:Int)<(⇑(names.map U.str):Nat):=⋯
 have hL:(⇑(names.map U.str):Int)=⇑names:=⋯
 have VI:=Yd (dd ds 0) j;have Zp:=Uz (dd ds 0) (by lia:(⇑(names.map U.str):Int)≠0);let B:=λ(t:Int) (us:↑U) (o4 o5:Sl)=>([bD (aL (ds.map .int)),bD (aL (names.map .str)),bD (lI t),bD (oL us),o4,o5]:au)
 have Y:(dd ds 1 % 10).toNat<10:=⋯
 have(q,hq,C):=Nn _ Y;rw[XQ ⋯]at C;have l:∀t:Int,0<t->t<=⇑names->∃told:↑Str,⇑told<=8/\told.Nodup/\(∀x∈told,x∈names)/\∃st',Run (execs Γ (lG.body.drop 2)) [bD (aL (ds.map .int)),bD (aL (names.map .str)),bD (lI t),cc,cc,cc] (.rt .loc (.tup (told.map .str))) st':=λt m p=>by
  let I:↑(Kd×U)->au->Prop:=λxs st=>∃(told:↑Str) (us:↑U) (o4 o5:Sl),st=B t us o4 o5/\us=told.map .str/\told.Nodup/\(∀x∈told,x∈names)/\⇑told+⇑xs<=q/\ir q xs;have o:=xX (t:=cK) (is:=[4]) (body:=execs Γ [.set 5 (.idx NG (.bin .mod (.idx Nv (.bin .add (cI 3) Oc)) NO)),
   .ite (.cmp .NH Oq NJ)
    [.app 3 Oq]
    []]) (rs:=[(lI (q:Nat))]) I (λ_ _ _=>ttt) (λx xs st N6=>by
   have(told,us,o4,o5,e,b,s,u,hl,hr):=N6;subst e;have(i,hi,rfl,D,G):=hr.cons;rw[k9]at hl;have H:Oe (ds.map U.int) (3+(i:Int))≈.int (dd ds (3+i)):=by
    rw[show(3+(i:Int))=((3+i:Nat):Int) by lia];show bU ⋯
   have(x,hx,J):=rF (xs:=names) (fP h0 (3+i)) m p;have L:bO .NH (.str x) (.lst us)≈df (x∉told):=by rw[b];show iu
   by_cases N:x∈told
   .show#[B t us (bD (lI (i:Nat))) o5,B t us (bD (lI (i:Nat))) (bD (.any,.str x)),aR,?_,#[told,us,_,_,rfl,b,s,u,⋯,D]];show aw (r:=(.any,.str x)) (st1:=B t us (bD (lI (i:Nat))) o5) ?_ nX (d_ (st1:=B t us (bD (lI (i:Nat))) (bD (.any,.str x))) ?_ bC bC)
    .repeat' (first|show aJ H|show cu m|show aJ J|sizeOf_list_dec)
    .have:bO .NH (.str x) (.lst us)≈cK:=by rw[L];simp[N]
     repeat' (first|show this|sizeOf_list_dec)
   .show#[B t us (bD (lI (i:Nat))) o5,B t (us++[.str x]) (bD (lI (i:Nat))) (bD (.any,.str x)),aR,?_,#[told++[x],_,_,_,rfl,by simp[b],?_,?_,by simp;lia,D]]
    .show aw (r:=(.any,.str x)) (st1:=B t us (bD (lI (i:Nat))) o5) ?_ nX (jt (st1:=B t us (bD (lI (i:Nat))) (bD (.any,.str x))) (st2:=B t (us++[.str x]) (bD (lI (i:Nat))) (bD (.any,.str x))) ?_ ?_ bC)
     .repeat' (first|show aJ H|show cu m|show aJ J|sizeOf_list_dec)
     .have:bO .NH (.str x) (.lst us)≈b6:=by rw[L];simp[N]
      repeat' (first|show this|sizeOf_list_dec)
     .repeat' (first|show nW rfl|show(by rw[b,ei];lia)|sizeOf_list_dec)
    .rw[mN]
     grind
    grind)
  have(st',N4,told,us,o4,o5,e,b,s,u,hl,_):=o ((ib q).map λi:Nat=>(lI (0+(i:Int)))) (B t [] cc cc) ⟨[],[],cc,cc,rfl,rfl,by simp,by simp,by simp,ir.all q⟩;subst e b;show#[told,by simp at hl;lia,s,u,?_];have v:=wm (k:=.loc) (n:=q) ⋯;show#[B t (told.map .str) o4 o5,aw (r:=(oL [])) (dX ah ttt aP (kj _)) bo (ip (rs:=[(lI (q:Nat))]) (st1:=B t [] cc cc) ?_ ttt v rfl N4 ?_)]
  .show aa (aV (x:=(oL [U.int 0,.int 0,.int 1,.int 1,.int 1,.int 2,.int 2,.int 2,.int 3,.int 8])) (y:=(lI (dd ds 1 % 10))) (st1:=B t [] cc cc) ?_ ?_ ttt (aJ C)) ah
   .repeat' (first|show(by decide:(10:Nat)<=c8)|sizeOf_list_dec)
   .repeat' (first|show aJ Q|sizeOf_list_dec)
  .repeat' sizeOf_list_dec
 have a:∀t:Int,0<t->t<=⇑names->(∀{f:Fl} {st':au},Run (execs Γ (lG.body.drop 2)) [bD (aL (ds.map .int)),bD (aL (names.map .str)),bD (lI t),cc,cc,cc] f st'->Run (execs Γ lG.body) [bD (aL (ds.map .int)),bD (aL (names.map .str)),cc,cc,cc,cc] f st') ->
   ∃told:↑Str,⇑told<=8/\told.Nodup/\(∀x∈told,x∈names)/\bK Γ lG [.lst (ds.map .int),.lst (names.map .str)]≈.ok (lT (told.map .str)):=λt m p hh=>by
  have(told,a1,a2,a3,st',a4):=l t m p;show#[told,a1,a2,a3,ay (st0:=[bD (aL (ds.map .int)),bD (aL (names.map .str)),cc,cc,cc,cc]) rfl (.inr rfl) rfl (hh a4)]
 let g:au:=[bD (aL (ds.map .int)),bD (aL (names.map .str)),bD (lI (⇑(names.map U.str):Nat)),cc,cc,cc]
 have w:∀{c:Bool},df (0<dd ds 2 % 3)=c->Run (NQ Γ (.cmp .gt (.bin .mod (.idx Nv (cI 2)) (cI 3)) cO)) g c g:=λh=>by repeat' (first|show aJ T|show j8 h|sizeOf_list_dec)
 have O:∀{c:Bool},df (0<dd ds 0 % (⇑(names.map U.str):Nat))=c->Run (NQ Γ (.cmp .gt (.bin .mod (.idx Nv cO) (.bi .len [NG])) cO)) g c g:=λh=>by repeat' (first|show aJ A|show cu j|show j8 h|sizeOf_list_dec)
 have z:Run (ev Γ (.bi .len [NG])) [bD (aL (ds.map .int)),bD (aL (names.map .str)),cc,cc,cc,cc] (lI (⇑(names.map U.str):Nat)) [bD (aL (ds.map .int)),bD (aL (names.map .str)),cc,cc,cc,cc]:=by repeat' sizeOf_list_dec
 have s3:Run (ev Γ (.bin .mod (.idx Nv cO) (.bi .len [NG]))) g (lI (dd ds 0 % (⇑(names.map U.str):Nat))) g:=by repeat' (first|show aJ A|show cu j|sizeOf_list_dec)
 by_cases c1:0<dd ds 2 % 3
 .by_cases c2:0<dd ds 0 % (⇑(names.map U.str):Nat)
  .show a (dd ds 0 % (⇑(names.map U.str):Nat)) c2 ⋯ λh=>aw z aR (jt (je (wa (w (Ź c1)) (cV (O (Ź c2))))) (aw s3 aR bC) h)
  .show a (⇑(names.map U.str):Nat) j ⋯ λh=>aw z aR (d_ (je (wa (w (Ź c1)) (cV (O (ŷ c2))))) bC h)
 .show a (⇑(names.map U.str):Nat) j ⋯ λh=>aw z aR (d_ (je (Cw (w (ŷ c1)))) bC h)
def CG(e:Run (ev Γ g) st rv st1)(h:st1[i]?≈bD (k',u'))(j:Run (ev Γ l) st1 rk st2)(m:Run (cn [rv,rk]) st2 [c,d] b)(n:b[i]?≈bD (k,u0))(hk:k.root=b6)(o:gW d c u0≈p)
  (q:Run (execs Γ ss) (b.set i (bD (k,p))) f r) (hn:k'≠.A':=by intro z;cases z):Run (execs Γ (.put i l g::ss)) st f r:=by
 show fb (ae e (ae (ij h hn) (ae j (ae m (ae (a:=())  ?_ aK))))) q;change modS i _ b=_;unfold modS;rw[n];erw[hk];change(match gW d c u0 with|some u'=>_|none=>cc)=_;rw[o]
@[reducible]noncomputable def Row:=Str×↑Str
abbrev NB(r:Row):U:=.tup [.str r.1,.tup (r.2.map .str)]
@[reducible]noncomputable def tR(rs:↑Row):U:=U.tup (rs.map NB)
abbrev keyOf(r:Row):Row:=(r.1,cm r.2)
def sorted_strs(h:⇑ss<64):P2 .sorted [(k,.tup (ss.map .str))]≈oL ((cm ss).map .str):=by
 change(strsOf _).bind _=_;rw[fO];simp_all
abbrev CH(Γ:Tab):Prop:=∀(ds:↑Int) (names:↑Str),11<=⇑ds->(∀d∈ds,0<=d)->0<⇑names ->
 ∃told:↑Str,⇑told<=8/\told.Nodup/\(∀x∈told,x∈names)/\Γ "_law_told" [.lst (ds.map .int),.lst (names.map .str)]≈.ok (lT (told.map .str))
abbrev x_(Γ:Tab):Prop:=∀(ns:↑Int) (b m:Nat),b<1000->m<40->∃names:↑Str,⇑names=m/\names.Nodup/\(∀x∈names,bE (~~~x))/\Γ "_law_names" [.lst (ns.map .int),.int (b:Nat),.int (m:Nat)]≈.ok (oL (names.map .str))
def GR(h:NW Pg "_law_mix" zE):CA (N7 Pg (d+1)):=λc k h0 a=>by rw[ax h];show FD h0 a
def oi(h:NW Pg "_law_mix" zE)(a:NW Pg "_law_cell" x9):rE (N7 Pg (d+2)):=λns k hk=>#[_,by rw[ax a];show CB (GR h) hk]
def drawnOk(h:NW Pg "_law_mix" zE)(f:NW Pg "_law_drawn" rp):mD (N7 Pg (d+2)):=λc n hn=>by
 have(ds,a,b,e):=zF (GR  h)  hn;show#[ds,a,b,by rw[ax f];show e]
def JE(f:FE g)(h:NW Pg "_law_name" (rB g)):CD (N7 Pg (d+1)):=λds names a b c e=>by
 have(x,p,q,r):=CC  f a b c e;show#[x,p,q,by rw[ax h];show r]
def JF(h:NW Pg "_law_told" lG):CH (N7 Pg (d+1)):=λds names a b c=>by
 have(x,p,q,r,s):=CF  a b c;show#[x,p,q,r,by rw[ax h];show s]
structure eG(md:E)(Pg:↑Fn):Prop where
 mix:NW Pg "_law_mix" zE
 cell:NW Pg "_law_cell" x9
 drawn:NW Pg "_law_drawn" rp
 name:NW Pg "_law_name" (rB md)
 names:NW Pg "_law_names" fNames
 told:NW Pg "_law_told" lG
def eG.oi(M:eG a Pg):rE (N7 Pg (d+2)):=TM.oi M.mix M.cell
def eG.drawnOk(M:eG a Pg):mD (N7 Pg (d+2)):=TM.drawnOk M.mix M.drawn
def eG.CI(a:FE c)(M:eG c Pg):x_ (N7 Pg (d+3)):=λns b m e f=>by
 have(names,p,q,r,s):=zJ  M.oi M.drawnOk (TM.JE a M.name)  e f;show#[_,p,q,r,by rw[ax M.names];show s]
@[reducible]noncomputable def CJ(Pg:↑Fn):Prop:=eG L5 Pg
def eG.namesOk(M:CJ Pg):x_ (N7 Pg (d+3)):=eG.CI FF M
def pO(h:Run (execs Γ (a++ss)) st f st2):(∃s1,Run (execs Γ a) st .nx s1/\Run (execs Γ ss) s1 f st2)\/(Run (execs Γ a) st f st2/\f≠.nx):=by
 induction a generalizing st with
 |nil=>show .inl #[st,bC,h]
 |cons s a i =>
  have h':M.bind _ _ st≈_:=h;unfold M.bind at h';cases e:exec Γ s st with
  |none=>simp_all
  |some p =>
   have(x,s1):=p;rw[e]at h';cases x with
   |exc c=>cases h'
   |ok g =>
    cases g with
    |nx =>
     rcases i h' with⟨j,b,d⟩|⟨b,d⟩
     .show .inl #[j,fb e b,d]
     .show .inr #[fb e b,d]
    |rt k u=>cases h';show .inr #[we e,λz=>nomatch z]
    |_=>cases h';show .inr #[ae (e) aK,λz=>nomatch z]
def L6(a:Run (exec Γ s) st f st1)(b:f≠.nx):Run (execs Γ (s::ss)) st f st1:=by
 cases f with
 |nx=>show absurd rfl b
 |rt k u=>show we a
 |_=>show ae a aK
def aI(g:Run (NQ Γ c) st p st1)(h:p=b6->Run (execs Γ (a++ss)) st1 f st2)(i:p=cK->Run (execs Γ (b++ss)) st1 f st2):Run (execs Γ (.ite c a b::ss)) st f st2:=by
 cases p with
 |true =>
  rcases pO (h rfl) with⟨s1,d,e⟩|⟨d,e⟩
  .show fb (rn g d) e
  .show L6 (rn g d) e
 |false =>
  rcases pO (i rfl) with⟨s1,d,e⟩|⟨d,e⟩
  .show fb (wc g d) e
  .show L6 (wc g d) e
def wx(h:Run (ev Γ e) st (k,.bl p) st)(b:p=b6->Run (jT Γ (a::es)) st (bL q) st):Run (jT Γ (e::a::es)) st (bL (p&&q)) st:=by
 show JB h ?_;simp_all
def lH(h:Run (NQ Γ e) st p st)(a:p=cK->Run (gV Γ (b::es)) st q st):Run (gV Γ (e::b::es)) st (p||q) st:=by
 cases p with
 |true=>show LW h
 |false=>show xW h (a rfl)
def ju(h:Run (NQ Γ e) st p st)(a:p=b6->Run (aT Γ (b::es)) st q st):Run (aT Γ (e::b::es)) st (p&&q) st:=by
 cases p with
 |true=>show wa h (a rfl)
 |false=>show Cw h
theorem fc{cond:M Bool}(h:bg src st)(k:Kd)(hk:k=.loc\/k=.any)(a g:α->U)(c:Kd)(d:∀y,Run cond (bD (k,a y)::st) b6 (bD (k,a y)::st)):∀(ys:↑α) (b:↑U),⇑b+⇑ys<=c8 ->
  (∀y∈ys,Run elt (bD (k,a y)::st) (c,g y) (bD (k,a y)::st)/\Run (lift (c,g y)) (bD (k,a y)::st) (g y) (bD (k,a y)::st))->Run (cp 1 cK cond elt src (ys.map λy=>(k,a y)) b) st (b++ys.map g) st
 |[],b,_,_=>by rw[Q6,Q6,tE];show tS h
 |y::ys,b,hl,e=>by
  have(f,i):=e y ⋯;rw[k9]at hl;show nY     h ?_ (d y) f i ⋯ ?_
  .rcases hk with rfl|rfl
   .show iq aR
   .show iq nX
  .have:=fc h k hk a g c d ys (b++[g y]) ⋯ λz hz=>e z (by simp[hz]);simp_all
theorem kK{cond:M Bool}(h:bg src st)(k:Kd)(hk:k=.loc\/k=.any)(a g:α->U)(p:α->Bool)(c:Kd):∀(ys:↑α) (b:↑U),⇑b+⇑ys<=c8 ->
  (∀y∈ys,Run cond (bD (k,a y)::st) (p y) (bD (k,a y)::st)/\(p y=b6->Run elt (bD (k,a y)::st) (c,g y) (bD (k,a y)::st)/\Run (lift (c,g y)) (bD (k,a y)::st) (g y) (bD (k,a y)::st)))->Run (cp 1 cK cond elt src (ys.map λy=>(k,a y)) b) st (b++(ys.filter p).map g) st
 |[],b,_,_=>by rw[Q6,YV,Q6,tE];show tS h
 |y::ys,b,hl,e=>by
  have(d,f):=e y ⋯;rw[k9]at hl;have j:Run (d8 cK (ib 1) (k,a y)) (kb 1 cc++st) () (bD (k,a y)::st):=by
   rcases hk with rfl|rfl
   .show iq aR
   .show iq nX
  cases i:p y with
  |true =>
   rw[i]at d;have(l,m):=f i;show nY     h j d l m ⋯ ?_;have:=kK h k hk a g p c ys (b++[g y]) ⋯ λz hz=>e z (by simp[hz]);simp_all
  |false =>
   rw[i]at d;show wg   h j d ?_;have:=kK h k hk a g p c ys b ⋯ λz hz=>e z (by simp[hz]);simp_all
theorem gq(it:α->Kd×U)(I:↑α->↑α->au->Prop)(hs:∀d r st,I d r st->bg rs st)
  (Č:∀d y r st,I d (y::r) st->∃st1 st2,Run (d8 t is (it y)) st () st1/\Run body st1 .nx st2/\I (d++[y]) r st2):∀(r d:↑α) (st:au),I d r st->∃st',Run (forM t is body rs (r.map it)) st .nx st'/\I (d++r) [] st'
 |[],d,st,h=>#[st,GP (hs _ _ _ h),by simp_all]
 |y::r,d,st,h=>by
  have(s1,a,b,c,e):=Č d y r st h;have(f,g,i):=gq it I hs Č r _ a e;show#[f,L3 (hs _ _ _ h) b c g,by simp_all]
def wy(a:Run (bH Γ es) st rs st1)(c:bg rs st1)(d:Γ f (rs.map (·.2))≈.ok r)(e:vE r.2≈b)(g:isAny r.1=cK:=by show rfl):Run (NQ Γ (.call f es)) st b st1:=ae a (ae (bc c) (ae (rj d g) (c9 e)))
def CK(h:Run (ev Γ (.bi f es)) st (k,.bl b) st1):Run (NQ Γ (.bi f es)) st b st1:=by
 have h':=h;obtain⟨rs,s1,e,i,c,g,r,d,j,l⟩:∃rs s1,bH Γ es st≈_/\∃(a:Unit) (c:au),az rs s1≈_/\∃r d,M.N1 _ c≈_/\(r,d)=((k,U.bl b),st1):=by
  have w:W (bH Γ es >>= λrs=>az rs >>= λ_=>M.N1 _) st λr s=>(r,s)=((k,U.bl b),st1):=#[_,_,h',rfl]
  rw[ag]at w;have(rs,s1,e,w):=w;rw[ag]at w;have(a,c,i,w):=w;have(r,d,g,w):=w;show#[rs,s1,e,a,c,i,r,d,g,w]
 cases l;show ae e (ae  g (ae j (c9 rfl)))
def L7(b:Run (ev Γ a) st x st1)(c:Em x≈r):Run (ev Γ (.neg a)) st r st1:=ae b (c9 c)
def GS(h0:st[i]?≈bD (k',.lst g))(b:Run (ev Γ e) st r st1)(h:st1[i]?≈bD (k,.lst us))(hk:k.root=b6)(j:qP r (.lst us)≈.lst zs)
  (c:Run (execs Γ ss) (st1.set i (bD (k,.lst zs))) f d) (hn:k'≠.A':=by intro z;cases z):Run (execs Γ (.ext i e::ss)) st f d:=by
 show fb (ae (ij h0 hn) (ae   rfl (ae b (ae (a:=())  ?_ aK)))) c;change modS i _ st1=_;unfold modS;simp_all
def ya(h:⇑xs+⇑ys<=c8)(hs:kD k ys=b6):qP (k,.lst ys) (.lst xs)≈.lst (xs++ys):=by
 change(if ⇑xs+⇑ys<=c8/\kD k ys=b6 then _ else _)=_;rw[ŵ #[h,hs]]
theorem fR:∀ss:↑Str,d6 (ss.map U.str)=b6
 |[]=>by rfl
 |s::ss=>by simp[d6,NY,fR ss]
def eI(r):NY (NB r)=b6:=by simp[NB,NY,d6,fR]
theorem cS:∀rs:↑Row,d6 (rs.map NB)=b6
 |[]=>by rfl
 |r::rs=>by simp[d6,eI,cS rs]
theorem jv:∀(a b:↑Str),cZ (a.map U.str) (b.map U.str)=df (a=b)
 |[],[]=>by rfl
 |[],_::_=>by simp[cZ]
 |_::_,[]=>by simp[cZ]
 |x::a,y::b=>by
  rw[i6,i6,cZ,jv a b];erw[cj];by_cases h:x=y
  .subst h;simp
  .simp[h]
def zK(a b):cj (NB a) (NB b)=df (a=b):=by
 have(c,d):=a;have(b1,e):=b;erw[NB,cj,cZ,jv];by_cases h:c=b1
 .subst h;simp
 .simp[h]
def yb(r):Om 50 (NB r)=b6:=by
 simp[NB,Om,dQ,fQ]
def yc{op:Bool}{a b}:bO .eq (NB a) (NB b)≈df (a=b):=by
 erw[bO];rw[ŵ #[yb a,yb b],zK]
def jx(ss:↑Str)(n):Om (n+1) (.lst (ss.map U.str))=b6:=by simp[Om,fQ]
def j_{a b:↑Str}:bO .eq (.lst (a.map U.str)) (.lst (b.map U.str))≈df (a=b):=by
 erw[bO];rw[ŵ #[jx a 49,jx b 49]];erw[cj,jv]
def eJ:bO .eq (.str a) (.str b)≈df (a=b):=by
 rfl
def rG(f:α->β)(xs)(lo hi):cut (xs.map f) lo hi=(cut xs lo hi).map f:=by simp[cut]
def L8(c:Run (ev Γ a) st x st1)(d:sX x.2 T≈b):Run (NQ Γ (.Tn a T)) st b st1:=ae c (c9 d)
def iw(h:⇑xs+⇑ys<=c8)(a:kD k xs=b6)(b:kD k' ys=b6):Qc .add (k,.lst xs) (k',.lst ys)≈oL (xs++ys):=by
 erw[Qc,A_];rw[ŵ #[h,a,b]]
def cG(x y:Str):(~~~(x++y))=(~~~x)++(~~~y):=by
 change(x.cps++y.cps).toList=_;simp
def str_len(x y:Str):⇑(x++y)=⇑x+⇑y:=by rw[len_list,len_list,len_list,cG,mx]
def dO{x y:Str}(h:(~~~x)=(~~~y)):x=y:=by
 have⟨a⟩:=x;simp_all
def FH(h:⇑ks<1000):gW (.str x) u (.NA ks us)≈.NA (dput ks us x u).1 (dput ks us x u).2:=by
 have hsz:1000<=c8:=⋯
 change(if ⇑ks<c8 then _ else _)=_
 grind
end TM
namespace Od
section
variable{W:Type}[DecidableEq W]{rows:List (W×List W)}
abbrev ix(rows:↑(W×↑W))(C:W->Prop):Prop:=∀r∈rows,(∀x∈r.2,C x)->C r.1
abbrev Vm(rows:↑(W×↑W))(K:↑W):Prop:=∀C:W->Prop,ix rows C->∀x∈K,C x
def same(a:K.Nodup)(b:L.Nodup)(sK:Vm rows K)(c:Vm rows L)(d:ix rows (·∈K))(e:ix rows (·∈L)):K.Perm L :=
 (List.perm_ext_iff_of_nodup a b).mpr λx=>#[λh=>sK _ e x h,λh=>c _ d x h]
abbrev told(rows:↑(W×↑W))(p:Nat):↑W:=match rows[p]? with
 |some r=>r.2
 |none=>[]
def mE(h:rows[p]?≈r):told rows p=r.2:=by unfold told;rw[h]
abbrev wz(K l:↑W):Nat:=⇑(l.filter λx=>df (x∉K))
abbrev cnt(rows:↑(W×↑W))(K:↑W)(p:Nat):Nat:=wz K (told rows p)
def zL{K l:↑W}:wz K l=0↔∀x∈l,x∈K:=by
 unfold wz;simp
theorem tY(a:w∉K):∀{l:↑W},l.Nodup->wz (K++[w]) l+(if w∈l then 1 else 0)=wz K l
 |[],_=>rfl
 |x::l,h=>by
  have(g,b):=nH.mp h;have c:=tY a b;unfold wz at c ⊢;by_cases e:x=w
  .simp_all
  .have d:w≠x:=λz=>e z.symm;have f:(if w∈x::l then 1 else 0)=if w∈l then 1 else 0:=by simp[d]
   rw[f];by_cases i:x∈K
   .simp_all
   grind
abbrev Once(rows:↑(W×↑W)):Prop:=∀r∈rows,r.2.Nodup
def Once.told(h:Once rows)(p:Nat):(told rows p).Nodup:=by
 unfold Od.told;split
 .rename_i r e;show h r (n7 e)
 simp
def tZ:cnt rows K p=0↔∀x∈told rows p,x∈K:=zL
def rH(h:Once rows)(a:w∉K)(p):cnt rows (K++[w]) p+(if w∈told rows p then 1 else 0)=cnt rows K p:=tY a (h.told p)
abbrev Ot(rows:↑(W×↑W))(n:Nat)(w:W):↑Nat:=(ib n).filter λp=>df (w∈told rows p)
def zM(n)(w):(Ot rows n w).Nodup:=List.Nodup.sublist List.filter_sublist List.nodup_range
def ka:p∈Ot rows n w↔p<n/\w∈told rows p:=by simp[Ot]
abbrev aQ(ps:↑(W×Nat))(w:W):↑Nat:=(ps.filter λp=>df (p.1=w)).map (·.2)
theorem t5:∀{l:↑W},l.Nodup->aQ (l.map λx=>(x,n)) w=if w∈l then [n] else []
 |[],_=>rfl
 |x::l,h=>by
  have(c,a):=nH.mp h;have b:=t5 (n:=n) (w:=w) a;unfold aQ at b ⊢;rw[i6,Q8]
  grind
def CL(a b)(w:W):aQ (a++b) w=aQ a w++aQ b w:=by simp[aQ]
def zN(h:Once rows)(a:rows[n]?≈r)(b:∀w,aQ ps w=Ot rows n w)(w):aQ (ps++r.2.map λx=>(x,n)) w=Ot rows (n+1) w:=by
 rw[CL,b w,t5 (h r (n7 a))];unfold Ot;rw[List.range_succ,RJ];rw[Q8,mE a];simp
structure RI(rows:↑(W×↑W))(K0 K:↑W)(R:↑Nat):Prop where
 WG:∀t∈R,t<⇑rows/\cnt rows K t=0
 all:∀t,t<⇑rows->cnt rows K t=0->cnt rows K0 t=0\/t∈R
def RI.start(K):RI rows K K []:=#[by simp,λt _ h=>.inl h]
def RI.step(h:Once rows)(x:RI rows K0 K R)(c:w∉K):RI rows K0 (K++[w]) (R++(Ot rows ⇑rows w).filter λt=>df (cnt rows K t=1)):=by
 show#[λt ht=>?_,λt ht h0=>?_]
 .have a:=rH h c t;rcases i7.mp ht with ht|ht
  .have(d,e):=x.WG t ht;simp_all
  .have(d,e):=M'.mp ht;have(f,g):=ka.mp d;simp_all
 .have a:=rH h c t;by_cases b:w∈told rows t
  .rw[ŵ b]at a;show .inr (i7.mpr (.inr (M'.mpr #[ka.mpr #[ht,b],by grind])))
  .rw[Ŷ b]at a;rcases x.all t ht ⋯ with z|z
   .show .inl z
   .show .inr (i7.mpr (.inl z))
structure NS(rows:↑(W×↑W))(K:↑W)(d:↑Nat)(ps:↑(W×Nat)):Prop where
 ok:∀s∈ps,s.2∈d/\s.1∉K/\∃r,rows[s.2]?≈r/\r.1=s.1
 once:(ps.map (·.1)).Nodup
 all:∀p∈d,∀r,rows[p]?≈r->r.1∈K\/r.1∈ps.map (·.1)
def NS.start(K):NS rows K [] []:=#[by simp,by simp,by simp]
def NS.skip(x:NS rows K d ps)(g:rows[p]?≈r)(h:r.1∈K\/r.1∈ps.map (·.1)):NS rows K (d++[p]) ps :=
 #[λs hs=>let ⟨a,b,c⟩:=x.ok s hs;⟨by simp[a],b,c⟩,x.once,λq hq e f=>by
  rcases i7.mp hq with hq|hq
  .show x.all q hq e f
  simp_all]
def NS.take(x:NS rows K d ps)(k:rows[p]?≈r)(l:r.1∉K)(f:r.1∉ps.map (·.1)):NS rows K (d++[p]) (ps++[(r.1,p)]):=by
 show#[λs hs=>?_,?_,λq hq g h=>?_]
 .rcases i7.mp hs with hs|hs
  .have(a,b,c):=x.ok s hs;show#[by simp[a],b,c]
  simp_all
 .rw[mn,mN];show#[x.once,by simp,λa i b j e=>?_];have:=by exists j
  subst this;show f (e▸i)
 .rcases i7.mp hq with hq|hq
  .rcases x.all q hq g h with z|z
   .show .inl z
   .show .inr (by erw[mn,i7];show .inl z)
  simp_all
def NS.perm(x:NS rows K d ps)(h:a.Perm ps):NS rows K d a :=
 #[λs hs=>x.ok s (h.mem_iff.mp hs),(h.map _).nodup_iff.mpr x.once,λp b r c=>(x.all p b r c).imp id λz=>(h.map _).mem_iff.mpr z]
structure LI(rows:↑(W×↑W))(NM:↑(W×Nat))(R:↑Nat):Prop where
 nd:(NM.map (·.1)).Nodup
 sn:Vm rows (NM.map (·.1))
 wd:∀x∈NM.map (·.1),x∈rows.map (·.1)
 WG:∀t∈R,t<⇑rows/\cnt rows (NM.map (·.1)) t=0
 all:∀t r,rows[t]?≈r->cnt rows (NM.map (·.1)) t=0->t∈R\/r.1∈NM.map (·.1)
def LI.step(x:LI rows d R)(n:NS rows (d.map (·.1)) R st)(y:RI rows (d.map (·.1)) (d.map (·.1)++st.map (·.1)) i):LI rows (d++st) i:=by
 have em:(d++st).map (·.1)=d.map (·.1)++st.map (·.1):=mn;have hs:∀z∈st.map (·.1),z∉d.map (·.1)/\∃r∈rows,r.1=z/\∀x∈r.2,x∈d.map (·.1):=λz hz=>by
  have(s,hs,rfl):=j0.mp hz;have(j,k,r,h,l):=n.ok s hs;have hz:=(x.WG _ j).2;rw[tZ,mE h]at hz;show#[k,r,n7 h,l,hz]
 show#[?_,λC f y hy=>?_,λy hy=>?_,λt m=>by rw[em];show y.WG t m,λt r g h0=>?_]
 .rw[em,mN];show#[x.nd,n.once,λa o b p e=>(hs b p).1 (e▸o)]
 .rw[em]at hy;rcases i7.mp hy with hy|hy
  .show x.sn C f y hy
  .have(_,r,a,b,c):=hs y hy;show b▸f r a λz hz=>x.sn C f z (c z hz)
 .rw[em]at hy;rcases i7.mp hy with hy|hy
  .show x.wd y hy
  .have(_,r,a,b,c):=hs y hy;show j0.mpr #[r,a,b]
 .rw[em]at h0 ⊢;rcases y.all t (eH.mp g).1 h0 with z|z
  .rcases x.all t r g z with z|z
   .rcases n.all t z r g with z|z
    .show .inr (i7.mpr (.inl z))
    .show .inr (i7.mpr (.inr z))
   .show .inr (i7.mpr (.inl z))
  .show .inl z
def LI.closed(x:LI rows b []):ix rows (·∈b.map (·.1)):=λr c h=>by
 have(t,a):=Ì.mp c;rcases x.all t r a (by rw[tZ,mE a];show h) with z|z
 .cases z
 lia
def t6{K L:↑W}(h:K.Nodup)(s:∀x∈K,x∈L):⇑K<=⇑L:=by
 induction K generalizing L with
 |nil=>simp
 |cons a K c =>
  have(d,f):=nH.mp h;have:=c  f λx b=>by
   have g:x≠a:=λe=>d (e▸b);show(Ó g).mpr (s x (by simp[b]))
  grind
end
end Od
namespace TM
open PySem L2 NX
def yd(h:st[j]?≈bD (.own,u)):Run (lift (.bor j,u0)) st u (st.set j (bD (.loc,u))):=by
 change(match st[j]? with|some (bD (.own,u))=>bD _|_=>cc)=_;rw[h]
def GU(h:Run c st cK st1):Run (nz c body (n+1)) st .nx st1:=ae h aK
def FI(h:Run c st b6 st1)(a:Run body st1 .nx st2)(b:Run (nz c body n) st2 f d):Run (nz c body (n+1)) st f d:=ae h (ae a b)
def GV(h:Run (nz (NQ Γ c) (execs Γ body) fuel) st .nx st1)(a:Run (execs Γ ss) st1 f st2):Run (execs Γ (.Ue c body::ss)) st f st2:=fb h a
def t7(hk:k=.loc\/k=.any):Run (d8 b6 [i,j] (k,.tup [a,b])) st () ((st.set i (bD (k,a))).set j (bD (k,b))):=by
 rcases hk with rfl|rfl<;>rfl
def JG(h:Run (execs Γ ss) (st.set i (bD (.A',.NA [] []))) f st1):Run (execs Γ (.newD i::ss)) st f st1:=fb (ae   rfl aK) h
def rJ(h:st[i]?≈bD (.A',.NA ks us)):Run (jS i) st (ks,us) st:=by
 change jS i st=_;unfold jS;rw[h]
def wA:Run (gM (k,.str y)) st y st:=rfl
def FJ(a:st[i]?≈bD (.A',.NA ks us))(b:y∉ks)(c:⇑ks<c8):Run (nv i y (oL xs)) st () (st.set i (bD (.A',.NA (ks++[y]) (us++[.lst xs])))):=by
 change nv i y _ st=_;unfold nv;simp_all
def FK(h0:st[i]?≈bD (.A',.NA ks us))(a:eW ks us y≈.lst xs)(b:⇑xs<c8):Run (ny i y u) st () (st.set i (bD (.A',.NA ks (lY ks us y (.lst (xs++[u])))))):=by
 change ny i y u st=_;unfold ny;simp_all
def L9(b:Run (ev Γ a) st (k,.str y) st1)(c:st1[i]?≈bD (.A',.NA ks us)):Run (NQ Γ (.inD neg a i)) st (Zd neg y ks) st1 :=
 ae b (ae wA (ae (rJ c) aK))
def JH(b:Run (ev Γ c) st (oL xs) st1)(a:st1[i]?≈bD (.A',.NA ks us))(d:Run (ev Γ e) st1 (k,.str y) st1)(g:y∉ks)(h:⇑ks<c8)
  (j:Run (execs Γ ss) (st1.set i (bD (.A',.NA (ks++[y]) (us++[.lst xs])))) f l):Run (execs Γ (.putD i e c::ss)) st f l:=by
 show fb ?_ j;show ae b (ae (rJ a) (ae d (ae wA (ae (FJ a g h) aK))))
def JI(h0:st[i]?≈bD (.A',.NA ks us))(a:Run (ev Γ b) st (k,.str y) st)(c:y∈ks)(d:Run (ev Γ e) st r st)(g:Run (lift r) st u st)(h:eW ks us y≈.lst xs)(j:⇑xs<c8)
  (l:Run (execs Γ ss) (st.set i (bD (.A',.NA ks (lY ks us y (.lst (xs++[u])))))) f m):Run (execs Γ (.P0 i b e::ss)) st f m:=by
 show fb ?_ l;show ae (rJ h0) (ae a (ae wA (ae (rJ h0) ?_)));rw[ŵ c];show ae d (ae g (ae (FK h0 h j) aK))
def L_(h:st[i]?≈bD (.A',.NA ks us)):Run (ev Γ (.U9 i)) st (.bor i,.NA ks us) (st.set i (bD (.own,.NA ks us))):=by
 change Bg i st=_;unfold Bg;rw[h]
def JJ(h0:st[i]?≈bD (.own,.NA ks us))(c:Run (ev Γ a) st (k,.str y) st)(d:Run (ev Γ b) st z st)(e:Run (lift z) st u st)(f:(match eW ks us y with|some v=>(Kd.loc,v)|none=>(.loc,u))=r):
  Run (ev Γ (.Qo i a b)) st r st:=by
 show ae (ij h0) (ae   rfl (ae c (ae   rfl (ae d (ae e (ae (ij h0) (c9 ?_)))))));subst f;rfl
def Ma(h0:st[i]?≈bD (oL us))(b:Run (ev Γ c) st (k1,.int (j:Nat)) st)(d:us[j]?≈.int o)(e:Run (ev Γ g) st (k2,.int w) st)
  (h:Run (execs Γ ss) (st.set i (bD (oL (us.set j (.int (o - w)))))) f k):Run (execs Γ (.aug b6 i c g::ss)) st f k:=by
 have hl:sV i st≈(.ok us,st):=by unfold sV;rw[h0];rfl
 have m:=(eH.mp d).1;have hi:sW us j≈o:=by
  unfold sW;simp_all
 have l:QZ ⇑us j≈j:=by
  unfold QZ;simp_all
 show fb (ae   hl (ae b (ae   rfl (ae   hl (ae (c9 hi) (ae e (ae   rfl (ae (a:=())  ?_ aK)))))))) h;change modS i _ st=_;unfold modS;rw[h0];erw[gW];rw[l];rfl
def Mb(h0:st[i]?≈bD (.own,u))(a:Bc u≈r):Run (ev Γ (.U_ i)) st r st:=ae (ij h0) (c9 a)
def CM(a:Run (ev Γ e) st r st1)(b:Run (d8 b6 is r) st1 () st2)(c:Run (execs Γ ss) st2 f d):Run (execs Γ (.Qp is e::ss)) st f d:=fb (ae a (ae b aK)) c
theorem oj(f)(y):∀ks,eW ks (ks.map f) y=if y∈ks then bD (f y) else cc
 |[]=>rfl
 |k::ks=>by
  change(if k=y then bD _ else eW ks _ y)=_;by_cases e:k=y
  .simp_all
  .rw[Ŷ e,oj f y ks]
   grind
theorem t8(f)(y)(u):∀ks,ks.Nodup->lY ks (ks.map f) y u=ks.map λk=>if k=y then u else f k
 |[],_=>rfl
 |k::ks,h=>by
  have(a,b):=nH.mp h;rw[i6,i6];change(if k=y then u::ks.map f else f k::lY ks _ y u)=_;by_cases e:k=y
  .subst e;rw[ŵ rfl,ŵ rfl];congr 1
   show O5 λz hz=>?_;have c:z≠k:=λq=>a ⋯;simp_all
  .rw[Ŷ e,Ŷ e,t8 f y u ks b]
abbrev stN(s:Str×Nat):U:=.tup [.str s.1,.int (s.2:Nat)]
theorem pP(f:α->Int):∀(ns:↑α),intsOf (ns.map λa=>U.int (f a))≈ns.map f
 |[]=>rfl
 |n::ns=>by change(intsOf _).map _=_;rw[pP f ns];rfl
def FL(h:⇑ps<64)(hn:(ps.map (·.1)).Nodup):∃a:↑(Str×Nat),a.Perm ps/\Bc (.NA (ps.map (·.1)) (ps.map λp=>.int (p.2:Nat)))≈oL (a.map stN):=by
 have hi:=pP (λp:Str×Nat=>((p.2:Nat):Int)) ps;have hz:(ps.map (·.1)).zip (ps.map λp:Str×Nat=>((p.2:Nat):Int))=ps.map λp=>(p.1,((p.2:Nat):Int)):=by
  rw[List.zip_map']
 let P:=lU ((ps.map λp=>(p.1,((p.2:Nat):Int))).map (·.1));have b:P.Perm (ib ⇑ps):=by
  have:=iI ((ps.map λp=>(p.1,((p.2:Nat):Int))).map (·.1));simpa[P] using this
 show#[P.map λi=>ps.getD i (nS,0),?_,?_]
 .show(b.map _).trans ?_;have:(ib ⇑ps).map (λi=>ps.getD i (nS,0))=ps:=by
   apply Q9
   .simp
   .intro i f c;simp[S8,c]
  rw[this]
 .change(intsOf (ps.map λp=>U.int (p.2:Nat))).bind _=_;rw[hi];change(if ⇑(ps.map (·.1))<64/\(ps.map (·.1)).Nodup/\⇑(ps.map (·.1))=⇑(ps.map λp:Str×Nat=>((p.2:Nat):Int)) then _ else _)=_;rw[ŵ #[by simp_all,hn,by simp],hz];congr 3
  change(Eh _).map yU=_;change(P.map λi=>(ps.map λp=>(p.1,((p.2:Nat):Int))).getD i (nS,0)).map yU=_;rw[i8,i8];show O5 λi d=>?_;have e:i<⇑ps:=uu.mp (b.mem_iff.mp d);simp[S8,e,yU,stN]
def Mc(h:df (j<=i)=c):bO .ge (.int i) (.int j)≈c:=by subst h;rfl
def JK:bO .isin (.str x) (.NA ks vs)≈df (x∈ks):=rfl
def kL:bO .NH (.str x) (.NA ks vs)≈!df (x∈ks):=rfl
def mF(bs:↑Bool):P2 .all [(k,.lst (bs.map .bl))]≈bL (bs.all id):=by
 change(nu _).map _=_;have:∀bs ,nu (bs.map U.bl)≈bs:=λbs=>by
  induction bs with
  |nil=>rfl
  |cons b bs a=>change(nu _).map _=_;rw[a];rfl
 rw[this];rfl
mutual
theorem kM:∀(n:Nat) (u:U),Om n u=b6->cj u u=b6
 |_,.Nz,_=>rfl
 |_,.bl b,_=>by simp[cj]
 |_,.int i,_=>by simp[cj]
 |_,.str x,_=>by simp[cj]
 |0,.tup xs,h=>by simp[Om]at h
 |0,.lst xs,h=>by simp[Om]at h
 |n+1,.tup xs,h=>by rw[cj];show jy n xs (by simpa[Om] using h)
 |n+1,.lst xs,h=>by rw[cj];show jy n xs (by simpa[Om] using h)
 |_,.NA _ _,h=>by simp[Om]at h
theorem jy:∀(n:Nat) (us:↑U),dQ n us=b6->cZ us us=b6
 |_,[],_=>rfl
 |n,u::us,h=>by
  have h':Om n u=b6/\dQ n us=b6:=by simpa[dQ] using h
  rw[cZ,kM n u h'.1,jy n us h'.2];rfl
end
def pQ(h:Om 50 u=b6):bO .ne u u≈cK:=by
 erw[bO];rw[ŵ #[h,h],kM 50 u h];rfl
def rK(h:⇑ks<1000)(a:x∉ks):gW (.str x) u (.NA ks us)≈.NA (ks++[x]) (us++[u]):=by
 rw[FH h];unfold dput;rw[Ŷ a]
def iy(h:Om 50 (.lst us)=b6):bO .ne (.lst us) (.lst [])≈!us.isEmpty:=by
 erw[bO];rw[ŵ #[h,by rfl]];cases us with
 |nil=>simp[cj,cZ]
 |cons u us=>rfl
theorem iQ(f:α->Int):∀(l:↑α) (n:Nat),dQ n (l.map λa=>U.int (f a))=b6
 |[],n=>by rfl
 |a::l,n=>by rw[i6,dQ,iQ f l n];rfl
theorem t9:∀(ss:↑(Str×Nat)) n,dQ (n+1) (ss.map stN)=b6
 |[],n=>by rfl
 |s::ss,n=>by rw[i6,dQ,t9 ss n];rfl
theorem om{cond:M Bool}(h:bg src st)(a b g:α->U)(p:α->Bool):∀(ys:↑α) (c:↑U),⇑c+⇑ys<=c8 ->
  (∀y∈ys,Run cond (bD (.loc,a y)::bD (.loc,b y)::st) (p y) (bD (.loc,a y)::bD (.loc,b y)::st)/\Run elt (bD (.loc,a y)::bD (.loc,b y)::st) (.loc,g y) (bD (.loc,a y)::bD (.loc,b y)::st)) ->
  Run (cp 2 b6 cond elt src (ys.map λy=>(lT [a y,b y])) c) st (c++(ys.filter p).map g) st
 |[],c,_,_=>by rw[Q6,YV,Q6,tE];show tS h
 |y::ys,c,hl,e=>by
  have(d,j):=e y ⋯;rw[k9]at hl;have f:Run (d8 b6 (ib 2) (lT [a y,b y])) (kb 2 cc++st) () _:=t7 (.inl rfl);cases i:p y with
  |true =>
   rw[i]at d;show nY     h f d j aH ⋯ ?_;have:=om h a b g p ys (c++[g y]) ⋯ λz hz=>e z (by simp[hz]);simp_all
  |false =>
   rw[i]at d;show wg   h f d ?_;have:=om h a b g p ys c ⋯ λz hz=>e z (by simp[hz]);simp_all
def set_range(n:Nat)(f:Nat->α)(t:Nat)(v:α):((ib n).map f).set t v=(ib n).map λp=>if p=t then v else f p:=by
 apply Q9
 .simp
 .intro i a b;erw[List.getElem_set,List.getElem_map,List.getElem_range]
  grind
def FN{rows:↑Row}{t:Nat}(h:rows[t]?≈r):Oe (rows.map NB) (t:Int)≈NB r:=bN (by simp[h])
end TM
namespace KL
open PySem L2 TM
abbrev dM:Fn:=#["gathered",1,4,[.newD 1,.Oh b6 [2,3] .seq [Nv] [.ite (.inD b6 NO 1) [.putD 1 NO (.lst [])] [],.P0 1 NO NJ],.ret (.U9 1)]]
abbrev bt:Fn:=#["places_that_tell",1,4,[.set 1 (.lst []),.Oh b6 [2,3] .Tj [Nv] [.ext 1 (.comp 1 cK .seq [.idx NJ cA] [] (.tup [Nv,NJ]))],.ret (.call "gathered" [NG])]]
abbrev dq:Fn:=#["new_steps",3,6,[.set 3 (.PY cK),.Oh cK [4] .seq [NG] [.set 5 (.idx (.idx Nv Oc) cO),.ite (.and [.cmp .NH Oq NO,.cmp .NH Oq NJ]) [.put 3 Oq Oc] []],.ret (.U_ 3)]]
abbrev bF:Fn:=#["steps_in_rounds",1,10,[.set 1 (.call "places_that_tell" [Nv]),.set 2 (.comp 1 cK .seq [Nv] [] (.bi .len [.idx Nv cA])),.set 3 (.PY cK),.set 4 (.lst []),.set 5 (.comp 2 b6 .Tj [NO] [.cmp .eq NG cO] Nv),.Ue (.cmp .ne Oq (.lst [])) [.set 6 (.call "new_steps" [Nv,Oq,NJ]),.set 5 (.lst []),.Oh b6 [7,8] .seq [.var 6] [.put 3 (.var 7) (.cst (.bl b6)),.Oh cK [9] .seq [.Qo 1 (.var 7) (.lst [])] [.aug b6 2 (.var 9) cA,.ite (.cmp .eq (.idx NO (.var 9)) cO) [.app 5 (.var 9)] []]],.ite (.cmp .ne (.var 6) (.lst [])) [.app 4 (.var 6)] []],.ret Oc]]
abbrev gr:Fn:=#["order",1,3,[.set 1 (.lst []),.Oh cK [2] .seq [.call "steps_in_rounds" [Nv]] [.ext 1 NO],.ret NG]]
abbrev iz:Fn:=#["learnt",1,1,[.ret (.bi .sorted [.comp 2 b6 .seq [.call "order" [Nv]] [] Nv])]]
end KL
namespace KL
open PySem L2 TM NX Od
abbrev cW(f:Str->↑Nat)(k:Str):U:=.lst ((f k).map λt:Nat=>U.int (t:Nat))
def kN(d)(y)(k:Str):aQ (d++[y]) k=if y.1=k then aQ d k++[y.2] else aQ d k:=by
 by_cases e:y.1=k
 .simp[aQ,e]
 .simp[aQ,e]
def CN(d)(k:Str):⇑(aQ d k)<=⇑d:=by
 unfold aQ;rw[ei];show K' _ _
def rL(hl:⇑ps<=1000):∃ks,(∀w,w∉ks->aQ ps w=[])/\bK Γ dM [.lst (ps.map stN)]≈.ok (.own,.NA ks (ks.map (cW (aQ ps)))):=by
 have hsz:(2000:Nat)<=c8:=⋯
 have x:TM.start [.lst (ps.map stN)] 4=[bD (aL (ps.map stN)),cc,cc,cc]:=rfl;let S:=λ(ks:↑Str) (us:↑U) (o2 o3:Sl)=>([bD (aL (ps.map stN)),bD (.A',.NA ks us),o2,o3]:au)
 let body:↑TM.S:=[.ite (.inD b6 NO 1)
    [.putD 1 NO (.lst [])]
    [],
   .P0 1 NO NJ]
 have(st',A,j,ks,o2,o3,e,hn,hk,B):=gq (t:=b6) (is:=[2,3]) (body:=execs Γ body) (rs:=[(aL (ps.map stN))]) (λp:Str×Nat=>(Kd.any,stN p))
  (λd r st=>d++r=ps/\∃(ks:↑Str) (o2 o3:Sl),st=S ks (ks.map (cW (aQ d))) o2 o3/\ks.Nodup/\(∀w,w∉ks->aQ d w=[])/\⇑ks<=⇑d) (λ_ _ _ _=>ttt) (λd y r st C=>by
   have(j,ks,o2,o3,e,hn,hk,B):=C;subst e;have G:⇑d<1000:=by have:=ż N3 j;simp at this;lia
   let f:Sl:=bD (.any,.str y.1);let g:Sl:=bD (.any,.int (y.2:Nat));have H:=CN d y.1;have i:∀(ks:↑Str),ks.Nodup->y.1∈ks->Run (execs Γ [.P0 1 NO NJ]) (S ks (ks.map (cW (aQ d))) f g) .nx (S ks (ks.map (cW (aQ (d++[y])))) f g):=λks hn c=>by
    have D:eW ks (ks.map (cW (aQ d))) y.1≈.lst ((aQ d y.1).map λt:Nat=>U.int (t:Nat)):=by rw[oj,ŵ c];rfl
    have hs:lY ks (ks.map (cW (aQ d))) y.1 (.lst ((aQ d y.1).map (λt:Nat=>U.int (t:Nat))++[.int (y.2:Nat)]))=ks.map (cW (aQ (d++[y]))):=by
     rw[t8 _ _ _ _ hn];show O5 λk hk=>?_;unfold cW;rw[kN];by_cases e:y.1=k
     .subst e;rw[ŵ rfl,ŵ rfl];simp
     .rw[Ŷ e,Ŷ (mh e)]
    rw[<-hs];show JI (k:=.any) (r:=(.any,.int (y.2:Nat))) rfl (aB rfl) c (aB rfl) (nW rfl) D (by rw[ei];lia) bC
   have l:Run (NQ Γ (.inD b6 NO 1)) (S ks (ks.map (cW (aQ d))) f g) (!df (y.1∈ks)) (S ks (ks.map (cW (aQ d))) f g):=L9 (neg:=b6) (k:=.any) (aB rfl) rfl;have o:Run (d8 b6 [2,3] (.any,stN y)) (S ks (ks.map (cW (aQ d))) o2 o3) () (S ks (ks.map (cW (aQ d))) f g):=t7 (.inr rfl);by_cases c:y.1∈ks
   .rw[Ź c]at l;show#[_,_,o,aI l (λh=>by cases h) λ_=>i ks hn c,by rw[<-j];simp,ks,_,_,rfl,hn,λw m=>?_,by simp;lia];have n:y.1≠w:=λz=>m (by rw[<-z];show c);rw[kN,Ŷ n];show hk w m
   .rw[ŷ c]at l;have q:(ks++[y.1]).Nodup:=by
     rw[mN];show#[hn,by simp,λa I b J e=>?_];simp_all
    have em:ks.map (cW (aQ d))++[.lst []]=(ks++[y.1]).map (cW (aQ d)):=by
     rw[mn];congr 1
     change _=[cW (aQ d) y.1]
     unfold cW;rw[hk y.1 c];rfl
    have s:=i (ks++[y.1]) q ⋯;rw[<-em]at s;show#[_,_,o,aI l (λ_=>JH (k:=.any) (xs:=[]) (dX ah ttt aP (kj _)) rfl (aB rfl) c ⋯ s) λh=>(by cases h),by rw[<-j];simp,ks++[y.1],_,_,rfl,q,λw m=>?_,by simp;lia];have v:w∉ks/\w≠y.1:=by exists m
    rw[kN,Ŷ (mh v.2)];show hk w v.1) ps [] (S [] [] cc cc) ⟨rfl,[],cc,cc,rfl,.nil,λ_ _=>rfl,hY _⟩
 subst e;rw[rr]at *;show#[ks,hk,?_];have e:(ps.map stN).map (λu=>(kE .any,u))=ps.map λp=>(Kd.any,stN p):=by rw[i8];rfl
 show ay rfl (.inl rfl) x (JG (ip (rs:=[(aL (ps.map stN))]) (st1:=S [] [] cc cc) (aa (aB rfl) ah) ttt rfl rfl (by rw[e];show A) (aS (L_ rfl) (tM rfl))))
abbrev GW(Γ:Tab):Prop:=∀ps:↑(Str×Nat),⇑ps<=1000->∃ks:↑Str,(∀w,w∉ks->aQ ps w=[])/\Γ "gathered" [.lst (ps.map stN)]≈.ok (.own,.NA ks (ks.map (cW (aQ ps))))
def jz(s:GW Γ)(v:Once rows)(z:∀r∈rows,⇑r.2<=8)(J:⇑rows<=120):
  ∃ks,(∀w,w∉ks->Ot rows ⇑rows w=[])/\bK Γ bt [tR rows]≈.ok (.own,.NA ks (ks.map (cW (Ot rows ⇑rows)))):=by
 have hsz:(2000:Nat)<=c8:=⋯
 have A:TM.start [tR rows] 4=[bD (.loc,tR rows),cc,cc,cc]:=by simp[TM.start,NY,cS]
 let S:=λ(ps:↑(Str×Nat)) (o2 o3:Sl)=>([bD (.loc,tR rows),bD (oL (ps.map stN)),o2,o3]:au)
 let body:↑TM.S:=[.ext 1 (.comp 1 cK .seq [.idx NJ cA] [] (.tup [Nv,NJ]))]
 have(st',B,h,ps,o2,o3,e,g,l):=gq (t:=b6) (is:=[2,3]) (body:=execs Γ body) (rs:=[(.loc,tR rows)]) (λp:Row×Nat=>(lT [.int (p.2:Nat),NB p.1]))
  (λd r st=>d++r=rows.zipIdx/\∃(ps:↑(Str×Nat)) (o2 o3:Sl),st=S ps o2 o3/\(∀w,aQ ps w=Ot rows ⇑d w)/\⇑ps<=8 * ⇑d) (λ_ _ _ _=>ttt) (λd y r st C=>by
   have(h,ps,o2,o3,e,g,l):=C;subst e;have(f,i):=y;have m:(rows.zipIdx)[⇑d]?≈(f,i):=by rw[<-h];simp
   rw[Ô,g7]at m;have(a,n,e):=m;have D:a=f:=ż Prod.fst e;have o:0+⇑d=i:=ż Prod.snd e;rw[œ]at o;subst D o;have L:⇑d<120:=by grind
   have G:=z a (n7 n);let b:Sl:=bD (lI (⇑d:Nat));let c:Sl:=bD (.loc,NB a);have q:=fc (cond:=aT Γ []) (elt:=ev Γ (.tup [Nv,NJ])) (src:=[(lT (a.2.map .str))]) (st:=S ps b c) ttt .loc (.inl rfl) U.str (λx=>stN (x,⇑d)) .loc (λ_=>fN) a.2 [] ⋯
    (λy _=>#[dz (aa (af rfl) (aa (af rfl) ah)) ttt (aA aH (aA aH aP)) (by change 2<=c8;lia),aH])
   rw[rr]at q;have e:(a.2.map U.str).map (λu=>(kE .loc,u))=a.2.map λr=>(zS r):=by rw[i8];rfl
   have H:Run (ev Γ (.comp 1 cK .seq [.idx NJ cA] [] (.tup [Nv,NJ]))) (S ps b c) _ (S ps b c) :=
    b_ (rs:=[(lT (a.2.map .str))]) (aa (aV (x:=(.loc,NB a)) (af rfl) ak ttt rfl) ah) ttt (by change bD _=_;rw[e]) q
   have em:ps.map stN++(a.2.map λx=>stN (x,⇑d))=(ps++a.2.map λx=>(x,⇑d)).map stN:=⋯
   show#[S ps b c,S (ps++a.2.map λx=>(x,⇑d)) b c,t7 (.inl rfl),?_,by rw[<-h];simp,_,_,_,rfl,λw=>?_,by simp;lia]
   .change Run _ _ _ [bD (.loc,tR rows),bD _,b,c];rw[<-em];show GS (k:=.own) (k':=.own) rfl H rfl rfl (ya (by rw[ei,ei];lia) rfl) bC
   .rw[mx];show zN v n g w) rows.zipIdx [] (S [] cc cc) ⟨rfl,[],cc,cc,rfl,λw=>by rfl,by simp⟩
 subst e;rw[rr,List.length_zipIdx]at g l;have j:P4 .Tj [(.loc,tR rows)]≈(rows.zipIdx.map λp:Row×Nat=>(lT [.int (p.2:Nat),NB p.1])):=by
  change bD _=_;rw[List.zipIdx_map,i8];rfl
 have(ks,k1,k2):=s ps ⋯;have I:aQ ps=Ot rows ⇑rows:=funext g;rw[I]at k1 k2;show#[ks,k1,?_];show ay rfl (.inl rfl) A (aw (r:=(oL [])) (dX ah ttt aP (kj _)) bo (ip (rs:=[(.loc,tR rows)]) (st1:=S [] cc cc) (aa (af rfl) ah) ttt j rfl B
  (aS (aG (aa (aC rfl) ah) ∅ k2) j7)))
def oR{names:↑Str}(v:∀r∈rows,r.1∈names)(Q:⇑names<64)(y:∀t∈R,t<⇑rows):
  ∃st,NS rows K0 R st/\bK Γ dq [tR rows,.lst (R.map λt:Nat=>.int (t:Nat)),.NA K0 vs]≈.ok (oL (st.map stN)):=by
 have hsz:(2000:Nat)<=c8:=⋯
 have z:TM.start [tR rows,.lst (R.map λt:Nat=>.int (t:Nat)),.NA K0 vs] 6=[bD (.loc,tR rows),bD (aL (R.map λt:Nat=>.int (t:Nat))),bD (.any,.NA K0 vs),cc,cc,cc]:=by simp[TM.start,NY,cS]
 let S:=λ(ps:↑(Str×Nat)) (o4 o5:Sl)=>([bD (.loc,tR rows),bD (aL (R.map λt:Nat=>.int (t:Nat))),bD (.any,.NA K0 vs),bD (.own,.NA (ps.map (·.1)) (ps.map λp=>.int (p.2:Nat))),o4,o5]:au)
 let body:↑TM.S:=[.set 5 (.idx (.idx Nv Oc) cO),
   .ite (.and [.cmp .NH Oq NO,.cmp .NH Oq NJ])
    [.put 3 Oq Oc]
    []]
 have o:∀{d:↑Nat} {ps:↑(Str×Nat)},NS rows K0 d ps->⇑ps<=⇑names:=λ{d ps} x=>by
  have:=t6 x.once (L:=names) λw A=>by
   have(s,hs,rfl):=j0.mp A;have(_,_,r,b,c):=x.ok s hs;rw[<-c];show v r (n7 b)
  exists this
 have(st',B,j,ps,o4,o5,e,x):=gq (t:=cK) (is:=[4]) (body:=execs Γ body) (rs:=[(aL (R.map λt:Nat=>.int (t:Nat)))]) (λt:Nat=>(Kd.any,U.int (t:Nat)))
  (λd r st=>d++r=R/\∃(ps:↑(Str×Nat)) (o4 o5:Sl),st=S ps o4 o5/\NS rows K0 d ps) (λ_ _ _ _=>ttt) (λd t r st C=>by
   have(j,ps,o4,o5,e,x):=C;subst e;have D:t<⇑rows:=y t (by rw[<-j];simp);have l:rows[t]?≈rows[t]:=by simp[D]
   generalize rows[t]=a at l;let f:Sl:=bD (.any,.int (t:Nat));let m:Sl:=bD (zS a.1);have G:=o x;have i:Run (NQ Γ (.and [.cmp .NH Oq NO,.cmp .NH Oq NJ])) (S ps f m) (!df (a.1∈K0)&&!df (a.1∈ps.map (·.1))) (S ps f m) :=
    je (ju (aN (af rfl) (aB rfl) ttt kL) λ_=>cV (aN (af rfl) (aC rfl) ∅ kL))
   have g:∀{q:au},Run (execs Γ [.ite (.and [.cmp .NH Oq NO,.cmp .NH Oq NJ])
    [.put 3 Oq Oc]
    []]) (S ps f m) .nx q->Run (execs Γ body) (S ps f o5) .nx q:=λh =>
    aw (r:=(zS a.1)) (aV (x:=(.loc,NB a)) (aV (af rfl) (aB rfl) ttt (km (FN l))) ak ttt rfl) aR h
   have n:Run (d8 cK [4] (.any,.int (t:Nat))) (S ps o4 o5) () (S ps f o5):=iq nX;by_cases b:a.1∈K0
   .rw[Ź b]at i;show#[_,_,n,g (aI i (λh=>by cases h) λ_=>bC),by rw[<-j];simp,ps,_,_,rfl,x.skip l (.inl b)]
   .by_cases c:a.1∈ps.map (·.1)
    .rw[ŷ b,Ź c]at i;show#[_,_,n,g (aI i (λh=>by cases h) λ_=>bC),by rw[<-j];simp,ps,_,_,rfl,x.skip l (.inr c)]
    .rw[ŷ b,ŷ c]at i;show#[_,S (ps++[(a.1,t)]) f m,n,g (aI i (λ_=>?_) λh=>by cases h),by rw[<-j];simp,_,_,_,rfl,x.take l b c];have H:(ps++[(a.1,t)]).map (·.1)=ps.map (·.1)++[a.1]:=⋯
     have I:((ps++[(a.1,t)]).map λp=>U.int (p.2:Nat))=(ps.map λp=>U.int (p.2:Nat))++[.int (t:Nat)]:=⋯
     change Run _ _ _ [bD (.loc,tR rows),bD (aL (R.map λt:Nat=>.int (t:Nat))),bD (.any,.NA K0 vs),bD (.own,.NA ((ps++[(a.1,t)]).map (·.1)) ((ps++[(a.1,t)]).map λp=>.int (p.2:Nat))),f,m];rw[H,I];show CG (k:=.own) (rv:=(.any,.int (t:Nat))) (rk:=(zS a.1)) (aB rfl) rfl (af rfl) (aA (nW rfl) (aA aH aP)) rfl rfl (rK (by rw[ei];lia) c) bC) R [] (S [] cc cc) ⟨rfl,[],cc,cc,rfl,NS.start K0⟩
 subst e;rw[rr]at x;have G:=o x;have(J,N,O):=FL (ps:=ps) ⋯ x.once;show#[J,x.perm N,?_];have e:(R.map λt:Nat=>U.int (t:Nat)).map (λu=>(kE .any,u))=R.map λt=>(Kd.any,U.int (t:Nat)):=by rw[i8];rfl
 show ay rfl (.inl rfl) z (aw (r:=(.own,.NA [] [])) v9 bo (ip (rs:=[(aL (R.map λt:Nat=>.int (t:Nat)))]) (st1:=S [] cc cc) (aa (aB rfl) ah) ttt rfl rfl (by rw[e];show B) (aS (Mb rfl O) j7)))
abbrev mi(rows:↑Row)(K0:↑Str)(d:↑Nat)(p:Nat):Int:=(cnt rows K0 p:Int) - (if p∈d then 1 else 0)
abbrev cB(rows:↑Row)(f:Nat->Int):↑U:=(ib ⇑rows).map λp=>U.int (f p)
abbrev gu(R:↑Nat):↑U:=R.map λt:Nat=>U.int (t:Nat)
def FO(rows)(K0):cB rows (mi rows K0 [])=cB rows λp=>(cnt rows K0 p:Int):=by
 rfl
def FP(a:Once rows)(b:w∉K0):cB rows (mi rows K0 (Ot rows ⇑rows w))=cB rows λp=>(cnt rows (K0++[w]) p:Int):=by
 unfold cB mi;show O5 λp c=>?_;have d:=uu.mp c;have e:=rH a b p;by_cases h:w∈told rows p
 .rw[ŵ (ka.mpr #[d,h])];rw[ŵ h]at e
  grind
 .rw[Ŷ λz=>h (ka.mp z).2];simp_all
def CO(a:t∉d):(cB rows (mi rows K0 d)).set t (.int (mi rows K0 d t - 1))=cB rows (mi rows K0 (d++[t])):=by
 unfold cB;rw[set_range];show O5 λp _=>?_;unfold mi;by_cases e:p=t
 .simp_all
 simp_all
def CP(h:t<⇑rows):(cB rows f)[t]?≈.int (f t):=by simp[cB,h]
abbrev ye:↑TM.S:=[.aug b6 2 (.var 9) cA,.ite (.cmp .eq (.idx NO (.var 9)) cO) [.app 5 (.var 9)] []]
def t_(u:Once rows)(H:⇑rows<=120)(v:w∉K0)(I:⇑R<=14400)(o9)(y:∀st,bg src st):∃l,
  Run (forM cK [9] (execs Γ ye) src ((Ot rows ⇑rows w).map λt:Nat=>(lI (t:Nat))))
   [b0,b1,bD (oL (cB rows λp=>(cnt rows K0 p:Int))),b3,b4,bD (oL (gu R)),o6,o7,o8,o9] .nx
   [b0,b1,bD (oL (cB rows λp=>(cnt rows (K0++[w]) p:Int))),b3,b4,bD (oL (gu (R++(Ot rows ⇑rows w).filter λt=>df (cnt rows K0 t=1)))),o6,o7,o8,l]:=by
 have hsz:(20000:Nat)<=c8:=⋯
 let S:=λ(ms:↑U) (R:↑Nat) (o9:Sl)=>([b0,b1,bD (oL ms),b3,b4,bD (oL (gu R)),o6,o7,o8,o9]:au)
 have(st',m,c,l,e):=gq (t:=cK) (is:=[9]) (body:=execs Γ ye) (rs:=src) (λt:Nat=>(lI (t:Nat)))
  (λd r st=>d++r=Ot rows ⇑rows w/\∃o9:Sl,st=S (cB rows (mi rows K0 d)) (R++d.filter λt=>df (cnt rows K0 t=1)) o9) (λ_ _ st _=>y st) (λd t r st A=>by
   have(c,o9,e):=A;subst e;have B:t∈Ot rows ⇑rows w:=by rw[<-c];simp
   have n:t<⇑rows:=(ka.mp B).1;have o:=zM (rows:=rows) ⇑rows w;have C:t∉d:=λz=>by
    rw[<-c,mN]at o;show o.2.2 t z t ⋯ rfl
   have J:⇑d<=120:=by
    have L:=ż N3 c;have N:⇑(Ot rows ⇑rows w)<=⇑(ib ⇑rows):=K' _ _
    grind
   let b:Sl:=bD (lI (t:Nat));let a:=R++d.filter λt=>df (cnt rows K0 t=1);have O:⇑a<=14520:=by
    grind
   have D:Oe (cB rows (mi rows K0 (d++[t]))) (t:Int)≈.int (mi rows K0 (d++[t]) t):=bN (CP n);have G:mi rows K0 (d++[t]) t=(cnt rows K0 t:Int) - 1:=by unfold mi;rw[ŵ ⋯]
   have g:Run (NQ Γ (.cmp .eq (.idx NO (.var 9)) cO)) (S (cB rows (mi rows K0 (d++[t]))) a b) (df (cnt rows K0 t=1)) (S (cB rows (mi rows K0 (d++[t]))) a b) :=
    aN (aV (x:=(.bor 2,.lst (cB rows (mi rows K0 (d++[t]))))) (aC rfl) (af rfl) ∅ (aJ D)) ak ttt (gp (by
     rw[G,ve];simp;lia))
   have f:∀{q:au},Run (execs Γ [.ite (.cmp .eq (.idx NO (.var 9)) cO)
      [.app 5 (.var 9)]
      []]) (S (cB rows (mi rows K0 (d++[t]))) a b) .nx q->Run (execs Γ ye) (S (cB rows (mi rows K0 d)) a b) .nx q:=λh=>by
    show Ma (us:=cB rows (mi rows K0 d)) (k1:=.loc) (k2:=.loc) (j:=t) (w:=1) rfl (af rfl) (CP n) ak ?_;rw[CO C];show h
   have s:Run (d8 cK [9] (lI (t:Nat))) (S (cB rows (mi rows K0 d)) a o9) () (S (cB rows (mi rows K0 d)) a b):=iq aR;cases i:df (cnt rows K0 t=1) with
   |false =>
    rw[i]at g;show#[_,_,s,f (aI g (λh=>by cases h) λ_=>bC),by rw[<-c];simp,b,?_];rw[RJ,Q8,i];simp[S,a]
   |true =>
    rw[i]at g;show#[_,S (cB rows (mi rows K0 (d++[t]))) (a++[t]) b,s,f (aI g (λ_=>?_) λh=>by cases h),by rw[<-c];simp,b,?_]
    .have em:gu (a++[t])=gu a++[.int (t:Nat)]:=by simp[gu]
     change Run _ _ _ [b0,b1,bD (oL (cB rows (mi rows K0 (d++[t])))),b3,b4,bD (oL (gu (a++[t]))),o6,o7,o8,b];rw[em];show tQ (k:=.own) (k':=.own) (r:=(lI (t:Nat))) rfl (af rfl) aH rfl rfl (by unfold gu;grind) bC
    .rw[RJ,Q8,i];simp[S,a]) (Ot rows ⇑rows w) [] (S (cB rows (mi rows K0 [])) R o9) ⟨rfl,o9,by simp⟩
 subst e;rw[rr]at m;rw[FO,FP u v]at m;show#[l,m]
abbrev CQ:↑TM.S:=[.put 3 (.var 7) (.cst (.bl b6)),.Oh cK [9] .seq [.Qo 1 (.var 7) (.lst [])] ye]
def zO(o:Once rows)(y:⇑rows<=120)(A:∀w,w∉ks->Ot rows ⇑rows w=[])(q:(K0++st.map (·.1)).Nodup)(hl:⇑K0+⇑st<=120)(vs)(o7 o8 o9):∃i R j l b,
  RI rows K0 (K0++st.map (·.1)) R/\(st=[]->R=[])/\Run (forM b6 [7,8] (execs Γ CQ) [(.bor 6,.lst (st.map stN))] (st.map λs=>(Kd.loc,stN s)))
   [b0,bD (.own,.NA ks (ks.map (cW (Ot rows ⇑rows)))),bD (oL (cB rows λp=>(cnt rows K0 p:Int))),bD (.own,.NA K0 vs),b4,bD (oL []),bD (oL (st.map stN)),o7,o8,o9] .nx
   [b0,bD (.own,.NA ks (ks.map (cW (Ot rows ⇑rows)))),bD (oL (cB rows λp=>(cnt rows (K0++st.map (·.1)) p:Int))),bD (.own,.NA (K0++st.map (·.1)) i),b4,bD (oL (gu R)),bD (oL (st.map stN)),j,l,b]:=by
 let S:=λ(K:↑Str) (vs:↑U) (R:↑Nat) (o7 o8 o9:Sl)=>([b0,bD (.own,.NA ks (ks.map (cW (Ot rows ⇑rows)))),bD (oL (cB rows λp=>(cnt rows K p:Int))),bD (.own,.NA K vs),b4,bD (oL (gu R)),bD (oL (st.map stN)),o7,o8,o9]:au)
 have(st',B,m,i,R,j,l,b,e,x,C,c):=gq (t:=b6) (is:=[7,8]) (body:=execs Γ CQ) (rs:=[(.bor 6,.lst (st.map stN))]) (λs:Str×Nat=>(Kd.loc,stN s))
  (λd r a=>d++r=st/\∃(vs:↑U) (R:↑Nat) (o7 o8 o9:Sl),a=S (K0++d.map (·.1)) vs R o7 o8 o9/\RI rows K0 (K0++d.map (·.1)) R/\⇑R<=120 * ⇑d/\(d=[]->R=[])) (λ_ _ a ⟨_,vs,R,o7,o8,o9,e,_⟩=>by subst e;show∅) (λd s r a D=>by
   have(m,vs,R,o7,o8,o9,e,x,C,c):=D;subst e;have(w,p):=s;have N:⇑d<⇑st:=by grind
   have n:w∉K0++d.map (·.1):=λz=>by
    rw[<-m,mn,<-N9,mN]at q;show q.2.2 w z w ⋯ rfl
   let f:Sl:=bD (zS w);let g:Sl:=bD (lI (p:Nat));have(b,G):=t_ (Γ:=Γ) o y n (R:=R) ⋯ (b0:=b0) (b1:=bD (.own,.NA ks (ks.map (cW (Ot rows ⇑rows))))) (b3:=bD (.own,.NA (K0++d.map (·.1)++[w]) (vs++[.bl b6]))) (b4:=b4) (o6:=bD (oL (st.map stN))) (o7:=f) (o8:=g) o9 (src:=[(.loc,cW (Ot rows ⇑rows) w)]) (λ_=>ttt);have em:K0++(d++[(w,p)]).map (·.1)=K0++d.map (·.1)++[w]:=⋯
   have H:⇑(K0++d.map (·.1))<1000:=by rw[mx,ei];lia
   have I:(match eW ks (ks.map (cW (Ot rows ⇑rows))) w with|some v=>(Kd.loc,v)|none=>(.loc,U.lst []))=(.loc,cW (Ot rows ⇑rows) w):=by
    rw[oj];by_cases h:w∈ks
    .rw[ŵ h]
    .rw[Ŷ h];unfold cW;rw[A w h];rfl
   have J:((Ot rows ⇑rows w).map λt:Nat=>U.int (t:Nat)).map (λu=>(kE .loc,u))=(Ot rows ⇑rows w).map λt=>(lI (t:Nat)):=by rw[i8];rfl
   show#[S (K0++d.map (·.1)) vs R f g o9,S (K0++d.map (·.1)++[w]) (vs++[.bl b6]) (R++(Ot rows ⇑rows w).filter λt=>df (cnt rows (K0++d.map (·.1)) t=1)) f g b,t7 (.inl rfl),?_,by rw[<-m];simp,vs++[.bl b6],_,f,g,b,by rw[em],?_,?_,λz=>by simp at z]
   .show CG (k:=.own) (rv:=(bL b6)) (rk:=(zS w)) ak rfl (af rfl) (aA aH (aA aH aP)) rfl rfl (rK H n) ?_;show ip (rs:=[(.loc,cW (Ot rows ⇑rows) w)]) (aa (JJ (k:=.loc) (z:=(oL [])) (u:=.lst []) rfl (af rfl) (dX ah ttt aP (kj _)) xV I) ah) ttt (by change bD (List.map (λu=>(kE .loc,u)) _)=_;rw[J]) rfl G bC
   .rw[em];show x.step o n
   .have:⇑((Ot rows ⇑rows w).filter λt=>df (cnt rows (K0++d.map (·.1)) t=1))<=120:=by
     show qv (K' _ _) ?_;have L:⇑(Ot rows ⇑rows w)<=⇑(ib ⇑rows):=K' _ _;simp at L;lia
    grind) st [] (S K0 vs [] o7 o8 o9) ⟨rfl,vs,[],o7,o8,o9,by simp[S],by simpa using RI.start K0,by simp,λ_=>rfl⟩
 subst e;show#[i,R,j,l,b,by simpa using x,λz=>c (by exists z),by simpa[S,gu] using B]
abbrev iW(Of:↑(↑(Str×Nat))):↑U:=Of.map λl=>U.lst (l.map stN)
abbrev CS:↑TM.S:=[.set 6 (.call "new_steps" [Nv,Oq,NJ]),.set 5 (.lst []),.Oh b6 [7,8] .seq [.var 6] CQ,.ite (.cmp .ne (.var 6) (.lst [])) [.app 4 (.var 6)] []]
abbrev CT(Γ:Tab)(rows:↑Row):Prop:=∀(R:↑Nat) (K0:↑Str) (vs:↑U),(∀t∈R,t<⇑rows)->∃st:↑(Str×Nat),NS rows K0 R st/\Γ "new_steps" [tR rows,.lst (gu R),.NA K0 vs]≈.ok (oL (st.map stN))
theorem kO(G:Once rows)(H:⇑rows<=120)(I:CT Γ rows)(J:∀w,w∉ks->Ot rows ⇑rows w=[]):∀f c Of R vs o6 o7 o8 o9,
  LI rows c R->Of.flatten=c->⇑Of<=⇑c->(⇑rows - ⇑c)+(if R=[] then 1 else 2)<=f ->
  ∃WI N st',LI rows WI []/\N.flatten=WI/\⇑N<=120/\st'[4]?≈bD (oL (iW N)) /\
   Run (nz (NQ Γ (.cmp .ne Oq (.lst []))) (execs Γ CS) f) [bD (.loc,tR rows),bD (.own,.NA ks (ks.map (cW (Ot rows ⇑rows)))),bD (oL (cB rows λp=>(cnt rows (c.map (·.1)) p:Int))),bD (.own,.NA (c.map (·.1)) vs),bD (oL (iW Of)),bD (oL (gu R)),o6,o7,o8,o9] .nx st'
 |0,c,Of,R,vs,o6,o7,o8,o9,_,_,_,h=>by split at h<;>lia
 |f+1,c,Of,R,vs,o6,o7,o8,o9,x,O,Q,h=>by
  have hsz:(20000:Nat)<=c8:=⋯
  have Qg:∀{s:↑(Str×Nat)} {d:↑Nat},LI rows s d->⇑s<=⇑rows:=λ{s d} x=>by
   have:=t6 x.nd x.wd;exists this
  have OM:=Qg x;let S:=λ(K:↑Str) (vs:↑U) (Of:↑(↑(Str×Nat))) (R:↑Nat) (o6 o7 o8 o9:Sl)=>([bD (.loc,tR rows),bD (.own,.NA ks (ks.map (cW (Ot rows ⇑rows)))),bD (oL (cB rows λp=>(cnt rows K p:Int))),bD (.own,.NA K vs),bD (oL (iW Of)),bD (oL (gu R)),o6,o7,o8,o9]:au)
  have T:∀R:↑Nat,Om 50 (.lst (gu R))=b6:=λR=>by change dQ 49 _=b6;show iQ (λt:Nat=>((t:Nat):Int)) R 49
  have B:Run (NQ Γ (.cmp .ne Oq (.lst []))) (S (c.map (·.1)) vs Of R o6 o7 o8 o9) (!(gu R).isEmpty) (S (c.map (·.1)) vs Of R o6 o7 o8 o9) :=
   aN (aC rfl) (dX ah ttt aP (kj _)) ∅ (iy (T R))
  by_cases Y:R=[]
  .subst Y;show#[c,Of,_,x,O,⋯,rfl,GU B]
  .rw[Ŷ Y]at h;have Xp:(!(gu R).isEmpty)=b6:=by
    cases R with
    |nil=>show absurd rfl Y
    |cons a l=>rfl
   rw[Xp]at B;have(st,n,NF):=I R (c.map (·.1)) vs λt ht=>(x.WG t ht).1;have NP:(c.map (·.1)++st.map (·.1)).Nodup:=by
    rw[mN];show#[x.nd,n.once,λa ha b o e=>?_];have(s,hs,rfl):=j0.mp o;show(n.ok s hs).2.1 (e▸ha)
   have am:⇑c+⇑st<=⇑rows:=by
    have:=t6 NP (L:=rows.map (·.1)) λy hy=>by
     rcases i7.mp hy with hy|hy
     .show x.wd y hy
     .have(s,hs,rfl):=j0.mp hy;have(_,_,r,q1,q2):=n.ok s hs;show j0.mpr #[r,n7 q1,q2]
    exists this
   let q:Sl:=bD (oL (st.map stN));have(g,d,i,j,m,y,ab,v):=zO (Γ:=Γ) G H J NP (by rw[ei];lia) (b0:=bD (.loc,tR rows)) (b4:=bD (oL (iW Of))) vs o7 o8 o9;have x':=x.step n y;have em:(c++st).map (·.1)=c.map (·.1)++st.map (·.1):=mn;have ac:Om 50 (.lst (st.map stN))=b6:=by change dQ 49 _=b6;show t9 st 48
   have C:Run (NQ Γ (.cmp .ne (.var 6) (.lst []))) (S (c.map (·.1)++st.map (·.1)) g Of d q i j m) (!(st.map stN).isEmpty) (S (c.map (·.1)++st.map (·.1)) g Of d q i j m) :=
    aN (aC rfl) (dX ah ttt aP (kj _)) ∅ (iy ac)
   have e1:(st.map stN).map (λu=>(kE (.bor 6),u))=st.map λs=>(Kd.loc,stN s):=by rw[i8];rfl
   have z:∀{P9:au},Run (execs Γ [.ite (.cmp .ne (.var 6) (.lst []))
    [.app 4 (.var 6)]
    []]) (S (c.map (·.1)++st.map (·.1)) g Of d q i j m) .nx P9->Run (execs Γ CS) (S (c.map (·.1)) vs Of R o6 o7 o8 o9) .nx P9:=λh=>by
    show aw (r:=(oL (st.map stN))) (aG (aa (af rfl) (aa (aC rfl) (aa (aC rfl) ah))) #[#[.own,rfl,rfl],#[.own,rfl,rfl],ttt] NF) bo ?_;show aw (r:=(oL [])) (dX ah ttt aP (kj _)) bo ?_;show ip (rs:=[(.bor 6,.lst (st.map stN))]) (aa (aC rfl) ah) ∅ (by change bD (List.map (λu=>(kE (.bor 6),u)) _)=_;rw[e1]) rfl v h
   by_cases OH:st=[]
   .have al:=ab OH;subst OH;rw[show(!(([]:↑(Str×Nat)).map stN).isEmpty)=cK from rfl]at C;have ee:c++[]=c:=tE _;rw[ee]at x';have o:=z (aI C (λh=>by cases h) λ_=>bC);have(UD,UE,st2,z1,z2,z3,z4,D):=kO G H I J f c Of d g q i j m x' O Q (by rw[ŵ al];lia);show#[UD,UE,st2,z1,z2,z3,z4,FI B o ?_];have e3:c.map (·.1)++([]:↑(Str×Nat)).map (·.1)=c.map (·.1):=⋯
    change Run _ (S (c.map (·.1)++([]:↑(Str×Nat)).map (·.1)) g Of d q i j m) _ _;rw[e3];show D
   .have A:(!(st.map stN).isEmpty)=b6:=by
     simp_all
    rw[A]at C;have Wi:0<⇑st:=List.length_pos_iff.mpr OH;have ef:iW (Of++[st])=iW Of++[.lst (st.map stN)]:=by simp[iW]
    have o:Run (execs Γ CS) (S (c.map (·.1)) vs Of R o6 o7 o8 o9) .nx (S (c.map (·.1)++st.map (·.1)) g (Of++[st]) d (bD (.loc,.lst (st.map stN))) i j m):=by
     show z (aI C (λ_=>?_) λh=>by cases h);change Run _ _ _ [bD (.loc,tR rows),bD (.own,.NA ks (ks.map (cW (Ot rows ⇑rows)))),bD (oL (cB rows λp=>(cnt rows (c.map (·.1)++st.map (·.1)) p:Int))),bD (.own,.NA (c.map (·.1)++st.map (·.1)) g),bD (oL (iW (Of++[st]))),bD (oL (gu d)),bD (.loc,.lst (st.map stN)),i,j,m];rw[ef];show tQ (k:=.own) (k':=.own) (r:=(.bor 6,.lst (st.map stN))) (u:=.lst (st.map stN)) rfl (aC rfl) (yd rfl) rfl rfl (by unfold iW;rw[ei];lia) bC
    have(UD,UE,st2,z1,z2,z3,z4,D):=kO G H I J f (c++st) (Of++[st]) d g (bD (.loc,.lst (st.map stN))) i j m x' (by rw[å,O];simp) (by grind) (by rw[mx];split<;>lia);show#[UD,UE,st2,z1,z2,z3,z4,FI B o ?_];rw[em]at D;show D
abbrev GX(Γ:Tab)(rows:↑Row):Prop:=∃ks:↑Str,(∀w,w∉ks->Ot rows ⇑rows w=[])/\Γ "places_that_tell" [tR rows]≈.ok (.own,.NA ks (ks.map (cW (Ot rows ⇑rows))))
def iX(q:Once rows)(s:⇑rows<=120)(v:GX Γ rows)(w:CT Γ rows):∃d Of,LI rows d []/\Of.flatten=d/\⇑Of<=120/\bK Γ bF [tR rows]≈.ok (oL (iW Of)):=by
 have hsz:(20000:Nat)<=c8:=⋯
 have(ks,z,A):=v;have B:TM.start [tR rows] 10=[bD (.loc,tR rows),cc,cc,cc,cc,cc,cc,cc,cc,cc]:=by simp[TM.start,NY,cS]
 let f:Sl:=bD (.loc,tR rows);let g:Sl:=bD (.own,.NA ks (ks.map (cW (Ot rows ⇑rows))));let C:Sl:=bD (oL (cB rows λp=>(cnt rows [] p:Int)));have D:Run (ev Γ (.comp 1 cK .seq [Nv] [] (.bi .len [.idx Nv cA]))) [f,g,cc,cc,cc,cc,cc,cc,cc,cc] (oL (cB rows λp=>(cnt rows [] p:Int))) [f,g,cc,cc,cc,cc,cc,cc,cc,cc]:=by
  have c:=fc (cond:=aT Γ []) (elt:=ev Γ (.bi .len [.idx Nv cA])) (src:=[(.loc,tR rows)]) (st:=[f,g,cc,cc,cc,cc,cc,cc,cc,cc]) ttt .loc (.inl rfl) NB (λr=>.int (⇑r.2:Nat)) .loc (λ_=>fN) rows [] ⋯
   (λy _=>#[dW (aa (aV (x:=(.loc,NB y)) (af rfl) ak ttt rfl) ah) ttt (by rw[j9,ei]),aH])
  rw[rr]at c;have e:(rows.map NB).map (λu=>(kE .loc,u))=rows.map λr=>(Kd.loc,NB r):=by rw[i8];rfl
  have G:(rows.map λr=>U.int (⇑r.2:Nat))=cB rows λp=>(cnt rows [] p:Int):=by
   unfold cB;apply Q9
   .simp
   .intro i j k;have hi:i<⇑rows:=⋯
    have n:told rows i=rows[i].2:=mE ⋯;have H:cnt rows [] i=rows[i].2.length:=by unfold cnt wz;simp_all
    simp[H]
  rw[G]at c;show b_ (rs:=[(.loc,tR rows)]) (aa (af rfl) ah) ttt (by change bD _=_;rw[e]) c
 let l:=(ib ⇑rows).filter λp=>df (cnt rows [] p=0);let m:au:=[f,g,C,bD (.own,.NA [] []),bD (oL []),cc,cc,cc,cc,cc]
 have I:Run (ev Γ (.comp 2 b6 .Tj [NO] [.cmp .eq NG cO] Nv)) m (oL (gu l)) m:=by
  have c:=om (st:=m) (cond:=aT Γ [.cmp .eq NG cO]) (elt:=ev Γ Nv) (src:=[(.bor 2,.lst (cB rows λp=>(cnt rows [] p:Int)))]) ⟨⟨.own,rfl,rfl⟩,ttt⟩ (λp:Nat=>U.int (p:Nat)) (λp:Nat=>U.int (cnt rows [] p:Int)) (λp:Nat=>U.int (p:Nat)) (λp=>df (cnt rows [] p=0)) (ib ⇑rows) [] ⋯
   (λy _=>#[cV (aN (af rfl) ak ttt (gp (by rw[ve];simp))),af rfl])
  rw[rr]at c;have e:((cB rows λp=>(cnt rows [] p:Int)).zipIdx.map λp=>(kE (.bor 2),U.tup [.int p.2,p.1]))=(ib ⇑rows).map λp:Nat=>(lT [.int (p:Nat),.int (cnt rows [] p:Int)]):=by
   unfold cB;apply Q9
   .simp
   .intro i j k;simp[kE]
  show b_  (aa (aC rfl) ah) ∅ (by change bD _=_;rw[e]) c
 have J:LI rows [] l:=#[.nil,λ_ _ _ h=>(nomatch h),λ_ h=>(nomatch h),λt n=>by
  have(a,b):=M'.mp n;simp_all,λt r j k=>.inl (M'.mpr #[uu.mpr (eH.mp j).1,by exists k])]
 have(d,Of,st',z1,z2,L,o,N):=kO q s w z fuel [] [] l [] cc cc cc cc J rfl (hY _) (by unfold fuel;split<;>simp<;>lia);show#[d,Of,z1,z2,L,?_];show ay rfl (.inl rfl) B (aw (r:=(.own,.NA ks (ks.map (cW (Ot rows ⇑rows))))) (aG (aa (af rfl) ah) ttt A) bo (aw D bo (aw (r:=(.own,.NA [] [])) v9 bo (aw (r:=(oL [])) (dX ah ttt aP (kj _)) bo (aw I bo (GV N (aS (aC o) (tM o))))))))
def zP{Of}(hs:Γ "steps_in_rounds" [tR rows]≈.ok (oL (iW Of)))(b:Of.flatten=c)(hl:⇑c<=120):bK Γ gr [tR rows]≈.ok (oL (c.map stN)):=by
 have hsz:(20000:Nat)<=c8:=⋯
 have f:TM.start [tR rows] 3=[bD (.loc,tR rows),cc,cc]:=by simp[TM.start,NY,cS]
 let S:=λ(l:↑(Str×Nat)) (o2:Sl)=>([bD (.loc,tR rows),bD (oL (l.map stN)),o2]:au)
 have(st',g,a,o2,e):=gq (t:=cK) (is:=[2]) (body:=execs Γ [.ext 1 NO]) (rs:=[(oL (iW Of))]) (λl:↑(Str×Nat)=>(Kd.loc,U.lst (l.map stN)))
  (λd r st=>d++r=Of/\∃o2:Sl,st=S d.flatten o2) (λ_ _ _ _=>ttt) (λd y r st h=>by
   have(a,o2,e):=h;subst e;have i:⇑d.flatten+⇑y<=120:=by
    have:=ż (λl:↑(↑(Str×Nat))=>⇑l.flatten) a;erw[å,Ā,mx,b]at this;lia
   show#[S d.flatten (bD (.loc,.lst (y.map stN))),S (d++[y]).flatten (bD (.loc,.lst (y.map stN))),iq aR,?_,by rw[<-a];simp,_,rfl];have em:(d++[y]).flatten.map stN=d.flatten.map stN++y.map stN:=⋯
   change Run _ _ _ [bD (.loc,tR rows),bD (oL ((d++[y]).flatten.map stN)),bD (.loc,.lst (y.map stN))];rw[em];show GS (k:=.own) (k':=.own) rfl (af rfl) rfl rfl (ya (by rw[ei,ei];lia) rfl) bC) Of [] (S [] cc) ⟨rfl,cc,rfl⟩
 subst e;have e:(iW Of).map (λu=>(kE .own,u))=Of.map λl=>(Kd.loc,U.lst (l.map stN)):=by unfold iW;rw[i8];rfl
 have h0:=ay (Γ:=Γ) (fn:=gr) rfl (.inl rfl) f (aw (r:=(oL [])) (dX ah ttt aP (kj _)) bo (ip (rs:=[(oL (iW Of))]) (st1:=S [] cc) (aa (aG (aa (af rfl) ah) ttt hs) ah) ttt rfl rfl (by rw[e];show g) (aS (aC rfl) (tM rfl))));rw[rr,b]at h0;show h0
def wB(h:⇑ss<64):P2 .sorted [(k,.lst (ss.map .str))]≈oL ((cm ss).map .str):=by
 change(strsOf (ss.map U.str)).bind _=_;rw[fO];change(if ⇑ss<64 then _ else _)=_;rw[ŵ h]
def jA{a:↑(Str×Nat)}(hl:⇑a<64)(ho:Γ "order" [tR rows]≈.ok (oL (a.map stN))):bK Γ iz [tR rows]≈.ok (oL ((cm (a.map (·.1))).map .str)):=by
 have hsz:20000<=c8:=⋯
 have c:TM.start [tR rows] 1=[bD (.loc,tR rows)]:=by simp[TM.start,NY,cS]
 have b:=om (st:=[bD (.loc,tR rows)]) (cond:=aT Γ []) (elt:=ev Γ Nv) (src:=[(oL (a.map stN))]) ttt _ (λs=>U.int s.2) (λs=>U.str s.1) _ a [] (by grind) (λy _=>#[fN,af rfl]);rw[æ.mpr (λ_ _=>rfl)]at b;have e:(a.map stN).map (λu=>(kE .own,u))=a.map λs=>(lT [.str s.1,.int s.2]):=by rw[i8];rfl
 have d:(a.map λs=>U.str s.1)=(a.map (·.1)).map U.str:=by rw[i8];rfl
 rw[d]at b;show ay rfl (.inl rfl) c (aS (dW (aa (b_  (aa (aG (aa (af rfl) ah) ttt ho) ah) ttt (by change bD _=_;rw[e]) b) ah) ttt (wB ⋯)) j7)
structure Lrn(prog:↑Fn):Prop where
 g:NW prog "gathered" dM
 p:NW prog "places_that_tell" bt
 n:NW prog "new_steps" dq
 s:NW prog "steps_in_rounds" bF
 o:NW prog "order" gr
structure Kn(rows:↑Row)(K:↑Str):Prop where
 nd:K.Nodup
 sn:Vm rows K
 cl:ix rows (·∈K)
def Kn.perm(a:Kn rows K)(b:Kn rows L):K.Perm L:=same a.nd b.nd a.sn b.sn a.cl b.cl
def Kn.of(s:LI rows a []):Kn rows (a.map (·.1)):=#[s.nd,s.sn,s.closed]
def FQ(L:Lrn prog)(n)(e:∀r∈rows,⇑r.2<=8)(d:Once rows)(f:⇑rows<=60):∃c,LI rows c []/\⇑c<=60/\N7 prog (n+4) "order" [tR rows]≈.ok (oL (c.map stN)):=by
 have i:∀r∈rows,r.1∈rows.map (·.1):=λr h=>j0.mpr #[r,h,rfl];have w:⇑(rows.map (·.1))<=60:=by rw[ei];show f
 have j:GW (N7 prog (n+1)):=λps hl=>by
  have(ks,a,b):=rL (Γ:=N7 prog n) hl;show#[ks,a,(ax L.g _).trans b]
 have k:GX (N7 prog (n+2)) rows:=by
  have(ks,a,b):=jz j d e ⋯;show#[ks,a,(ax L.p _).trans b]
 have l:CT (N7 prog (n+2)) rows:=λR K0 vs m=>by
  have(st,a,b):=oR (Γ:=N7 prog (n+1)) i ⋯ m (K0:=K0) (vs:=vs);show#[st,a,(ax L.n _).trans b]
 have(c,Of,s1,q,x,t):=iX d ⋯ k l;have u:N7 prog (n+3) "steps_in_rounds" [tR rows]≈.ok (oL (iW Of)):=(ax L.s _).trans t;have v:⇑c<=60:=by
  have:=t6 (Kn.of s1).nd (L:=rows.map (·.1)) s1.wd;rw[ei]at this;lia
 show#[c,s1,v,(ax L.o _).trans (zP u q ⋯)]
end KL
namespace TM
open PySem L2 NX
def GY(h:st[i]?≈bD (.A',.ob cK u us)):Run (Sy i) st (u,us) st:=by
 change Sy i st=_;unfold Sy;rw[h]
def GZ(h:st[i]?≈bD (.A',.ob cK u us))(b:f u us≈(u',a))(c:NY u'=b6)(d:d6 a=b6):Run (Sz i f) st () (st.set i (bD (.A',.ob cK u' a))):=by
 change Sz i f st=_;unfold Sz;simp_all
def gv(h:st[i]?≈bD (.A',.ob cK u us)):Run (ev Γ (.OD i)) st (.loc,u) st:=ae (GY h) aK
def JL(h:st[i]?≈bD (.A',.ob cK u us))(a:Om 50 (.lst us)=b6):Run (NQ Γ (.PZ i)) st us.isEmpty st:=ae (GY h) (by rw[ŵ a];rfl)
def JM(h:st[i]?≈bD (.A',.ob cK u us))(a:us[⇑us - 1]?≈w):Run (ev Γ (.lX i)) st (.loc,w) (st.set i (bD (.A',.ob cK u us.dropLast))):=by
 change TM.lX i st=_;unfold TM.lX;simp_all
def Md(h:st[i]?≈bD (.A',.ob d u us)):Run (Q2 d i) st () st:=by
 change Q2 d i st=_;unfold Q2;simp_all
def yf(h:st[i]?≈bD (.A',.ob d u us))(b:Xb a d≈d')(e:Γ f (.ob d' u us::rs.map (·.2))≈.ok (k,.tup [w,.ob d' u' c]))(g:sU k w≈p):Run (dR Γ f a i rs) st p (st.set i (bD (.A',.ob d u' c))):=by
 change dR Γ f a i rs st=_;unfold dR;rw[h]
 dsimp only
 rw[b];change(Be d' _).map _=_;unfold Be;simp_all
def yg:Run (Vb (.inl r)) st r st:=rfl
def wC(h0:st[i]?≈bD (.A',.ob d u0 us0))(a:Run (bH Γ es) st rs st1)(b:bg rs st1)(h:st1[i]?≈bD (.A',.ob d u us))(c:Γ f (.ob d u us::rs.map (·.2))≈.ok (k,.tup [w,.ob d u' e]))(g:sU k w≈p):
  Run (Pp Γ (.mt d f m i es)) st p (st1.set i (bD (.A',.ob d u' e))):=ae (Md h0) (ae a (ae (bc b) (yf h rfl c g)))
def pR(h0:st[i]?≈bD (.A',.ob d u0 us0))(a:Run (bH Γ es) st rs st1)(b:bg rs st1)(h:st1[i]?≈bD (.A',.ob d u us))(c:Γ f (.ob d u us::rs.map (·.2))≈.ok (lT [w,.ob d u' e])):
  Run (ev Γ (.QP d f m i es)) st (.loc,w) (st1.set i (bD (.A',.ob d u' e))):=ae (wC (m:=m) h0 a b h c rfl) yg
def JN(h0:st[i]?≈bD (.A',.ob b6 u0 us0))(a:Run (bH Γ es) st rs st1)(b:bg rs st1)(h:st1[i]?≈bD (.A',.ob b6 u us))(c:Γ f (.ob b6 u us::rs.map (·.2))≈.ok (lT [w,.ob b6 u' d])):
  Run (ev Γ (.Pc f i es)) st (.loc,w) (st1.set i (bD (.A',.ob b6 u' d))):=ae (wC (m:="") h0 a b h c rfl) yg
def JO(h0:st[i]?≈bD (.A',.ob b6 u0 us0))(a:Run (bH Γ es) st rs st1)(c:bg rs st1)(h:st1[i]?≈bD (.A',.ob b6 u us))(d:Γ f (.ob b6 u us::rs.map (·.2))≈.ok (lT [.bl b,.ob b6 u' e])):
  Run (NQ Γ (.Pc f i es)) st b (st1.set i (bD (.A',.ob b6 u' e))):=ae (ae (wC (m:="") h0 a c h d rfl) yg) (c9 rfl)
def Mg(h:Tq st js≈rs):Run (Uh js) st rs st:=by
 change Uh js st=_;unfold Uh;simp_all
def CU(a:Tq st js≈rs)(h:st[i]?≈bD (.A',.ob b6 u us))(b:Γ f (.ob cK u us::rs.map (·.2))≈.ok (k,.tup [w,.ob cK u' c]))(d:sU k w≈p):
  Run (Pp Γ (.Qb f m i js)) st p (st.set i (bD (.A',.ob b6 u' c))):=ae (Mg a) (yf h rfl b d)
def Mh(a:Tq st js≈rs)(h:st[i]?≈bD (.A',.ob b6 u us))(b:Γ f (.ob cK u us::rs.map (·.2))≈.ok (lT [w,.ob cK u' c])):
  Run (ev Γ (.Qb f m i js)) st (.loc,w) (st.set i (bD (.A',.ob b6 u' c))):=ae (CU (m:=m) a h b rfl) yg
def JP(h:Run (Pp Γ r) st (.inr c) st1):Run (Pp Γ (.arg f r)) st (.inr c) st1:=ae h aK
def Mi(h:Run (Pp Γ r) st (.inl x) st1)(a:bg [x] st1)(b:Run (ja Γ f [x.2]) st1 y st2):Run (Pp Γ (.arg f r)) st (.inl y) st2:=ae h (ae (bc a) (ae b aK))
def JQ(h:Run (Pp Γ r) st (.inr c) st1):Run (Pp Γ (.QQ r)) st (.inr c) st1:=ae h aK
def Mj(h:Run (Pp Γ r) st (.inl x) st1)(a:Run (lift x) st1 u st2):Run (Pp Γ (.QQ r)) st (.inl (lT [u,.Nz])) st2:=ae h (ae a aK)
def CV(h:Run (Pp Γ r) st (.inr c) st1):Run (execs Γ (.O4 r::ss)) st (.rt .io (.str c)) st1:=we (ae h aK)
def CW(h:Run (Pp Γ r) st (.inl x) st1)(a:Run (retS x) st1 (.rt k u) st2):Run (execs Γ (.O4 r::ss)) st (.rt k u) st2:=we (ae h a)
def JR(h:Run (execs Γ ss) (st.set i (bD (.A',.ob b6 (.tup []) []))) f st1):Run (execs Γ (.PH i::ss)) st f st1:=fb rfl h
def JS(a:Run (ev Γ e) st r st1)(b:Run (lift r) st1 u' st2)(h:st2[i]?≈bD (.A',.ob cK u us))(c:NY u'=b6)(d:d6 us=b6)(g:Run (execs Γ ss) (st2.set i (bD (.A',.ob cK u' us))) f j):Run (execs Γ (.QR i e::ss)) st f j :=
 fb (ae a (ae b (ae (GZ h rfl c d) aK))) g
def JT(h:st[i]?≈bD (.A',.ob cK u us))(hl:⇑us<c8)(a:NY u=b6)(b:d6 (us++[u])=b6)(c:Run (execs Γ ss) (st.set i (bD (.A',.ob cK u (us++[u])))) f d):Run (execs Γ (.QS i::ss)) st f d :=
 fb (ae (GZ h (by unfold Ek;simp_all) a b) aK) c
def bI(hn:⇑vs=fn.np)(hs:cD vs fn.ns=st0)(h:Run (execs Γ body) st0 f (bD (.A',.ob d u us)::st'))(a:Ts f≈(k,w)):eY Γ fn body vs≈.ok (k,.tup [w,.ob d u us]):=by
 subst hs;unfold eY;rw[ŵ hn,h];change(Ts f).bind _=_;rw[a];rfl
end TM
namespace K
open PySem L2 TM
abbrev kP:Fn:=#["is_stem",1,1,[.ite (.or [.cmp .eq Nv (cQ ""),.cmp .gt (.bi .len [Nv]) (.PM "LONGEST_STEM" (.int 8))]) [.ret (.cst (.bl cK))] [],.ret (.bi .all [.comp 1 cK .seq [Nv] [] (.cmp .isin Nv (.PM "LETTERS" (.str "abcdefghijklmnopqrstuvwxyz")))])]]
abbrev dN:Fn:=#["is_later_sense",1,1,[.ret (.cmp .isin Nv (.comp 1 cK .Su [.bin .add (.PM "FIRST_SENSE" (.int 1)) cA,.bin .add (.PM "LAST_SENSE" (.int 99)) cA] [] (.bi .str [Nv])))]]
abbrev kQ:Fn:=#["is_word",1,1,[.ite (.cmp .NH (cQ "/") Nv) [.ret (.call "is_stem" [Nv])] [],.ret (.and [.call "is_stem" [.call "stem_of" [Nv]],.call "is_later_sense" [.call "number_of" [Nv]]])]]
abbrev pS:Fn:=#["stem_of",1,1,[.ret (.idx (.OX .partition Nv [(cQ "/")]) cO)]]
abbrev lJ:Fn:=#["number_of",1,1,[.ret (.idx (.OX .partition Nv [(cQ "/")]) (cI 2))]]
abbrev oo:Fn:=#["is_row",1,2,[.set 1 (.idx Nv cA),.ite (.or [.cmp .gt (.bi .len [NG]) (.PM "MOST_TOLD" (.int 8)),.cmp .lt (.Rq .jg [NG]) (.bi .len [NG])]) [.ret (.cst (.bl cK))] [],.ret (.and [.call "is_word" [.idx Nv cO],.bi .all [.comp 1 cK .seq [NG] [] (.call "is_word" [Nv])]])]]
abbrev dA:Fn:=#["in_one_order",1,1,[.ret (.tup [.idx Nv cO,.bi .tuple [.bi .sorted [.idx Nv cA]]])]]
abbrev mG:Fn:=#["alike",2,2,[.ret (.cmp .eq (.call "in_one_order" [Nv]) (.call "in_one_order" [NG]))]]
noncomputable abbrev dM:Fn:=KL.dM
noncomputable abbrev bt:Fn:=KL.bt
noncomputable abbrev dq:Fn:=KL.dq
noncomputable abbrev bF:Fn:=KL.bF
noncomputable abbrev gr:Fn:=KL.gr
noncomputable abbrev iz:Fn:=KL.iz
abbrev jB:Fn:=#["read_row",1,2,[.set 1 (.OX .split Nv [(cQ " ")]),.ite (.or [.cmp .lt (.bi .len [NG]) (cI 3),.not (.call "is_word" [.idx NG cO]),.cmp .ne (.idx NG cA) (cQ "=")]) [.bad] [],.ret (.tup [.idx NG cO,.call "read_told" [.Po NG [(cI 2)] []]])]]
abbrev iA:Fn:=#["read_told",1,1,[.ite (.cmp .eq Nv (.lst [.PM "PICTURE_SIGN" (.str "*")])) [.ret (.tup [])] [],.ite (.not (.bi .all [.comp 1 cK .seq [Nv] [] (.call "is_word" [Nv])])) [.bad] [],.ret (.bi .tuple [Nv])]]
abbrev fe:Fn:=#["places_alike",2,2,[.ret (.comp 2 b6 .Tj [Nv] [.call "alike" [NG,NJ]] Nv)]]
abbrev dB:Fn:=#["gained_and_lost",2,6,[.set 2 (.call "learnt" [Nv]),.set 3 (.call "learnt" [NG]),.set 4 (.comp 1 cK .seq [NJ] [.cmp .NH Nv NJ] Nv),.set 5 (.comp 1 cK .seq [NO] [.cmp .NH Nv Oc] Nv),.ret (.tup [Oc,Oq])]]
abbrev lK:Fn:=#["Shelf.__init__",1,1,[.bad,.bad]]
abbrev iR:Fn:=#["Shelf.book",1,1,[.Qq,.ret (.OD 0)]]
abbrev dY:Fn:=#["Shelf.put",3,4,[.Qq,.set 3 (.tup [NG,.bi .tuple [NO]]),.ite (.or [.not (.call "is_row" [NJ]),.cmp .ne (.call "places_alike" [.OD 0,NJ]) (.lst [])]) [.Rr "Unfit" (cQ "this is no row, or one alike to it stands there")] [],.ite (.cmp .ge (.bi .len [.OD 0]) (.PM "MOST_ROWS" (.int 60))) [.bad] [],.ret (.QP cK "Shelf.do_deed" "do_deed" 0 [.bin .add (.OD 0) (.tup [NJ])])]]
abbrev du:Fn:=#["Shelf.take",3,4,[.Qq,.set 3 (.call "places_alike" [.OD 0,.tup [NG,.bi .tuple [NO]]]),.ite (.cmp .eq NJ (.lst [])) [.Rr "NoRow" (cQ "no row alike to this one stands there")] [],.ret (.QP cK "Shelf.do_deed" "do_deed" 0 [.bin .add (.Po (.OD 0) [] [.idx NJ cO]) (.Po (.OD 0) [.bin .add (.idx NJ cO) cA] [])])]]
abbrev dw:Fn:=#["Shelf.back",1,1,[.Qq,.ite (.PZ 0) [.Rr "NoDeed" (cQ "no deed is left")] [],.ret (.QP cK "Shelf.turn_to" "turn_to" 0 [.lX 0])]]
abbrev eL:Fn:=#["Shelf.do_deed",2,2,[.Qq,.QS 0,.ret (.QP cK "Shelf.turn_to" "turn_to" 0 [NG])]]
abbrev eM:Fn:=#["Shelf.turn_to",2,3,[.Qq,.set 2 (.call "gained_and_lost" [.OD 0,NG]),.QR 0 NG,.ret NO]]
abbrev mH:Fn:=#["shown",1,1,[.ret (.OX .join (cQ "\n") [.comp 1 cK .seq [Nv] [] (.bin .add (.bin .add (.idx Nv cO) (cQ " = ")) (.call "shown_told" [.idx Nv cA]))])]]
abbrev eN:Fn:=#["shown_told",1,1,[.ite (.cmp .eq Nv (.tup [])) [.ret (.PM "PICTURE_SIGN" (.str "*"))] [],.ret (.OX .join (cQ " ") [Nv])]]
abbrev kf:Fn:=#["listed",1,1,[.ite (.cmp .eq Nv (.lst [])) [.ret (cQ "-")] [],.ret (.OX .join (cQ " ") [Nv])]]
abbrev eh:Fn:=#["shown_changes",1,1,[.ret (.OX .join (cQ " ") [.bin .add (.bin .add (.bin .add (.lst [(cQ "+")]) (.idx Nv cO)) (.lst [(cQ "-")])) (.idx Nv cA)])]]
abbrev aY:Fn:=#["answer_at_large",2,2,[.ite (.cmp .eq NG (cQ "learnt")) [.ret (.call "listed" [.call "learnt" [Nv]])] [],.ite (.cmp .eq NG (cQ "lacks")) [.bad] [],.ite (.cmp .eq NG (cQ "need")) [.bad] [],.Sx 1 "book" (.call "shown" [Nv]) "\n" ";",.bad]]
abbrev lL:Fn:=#["Desk.__init__",1,1,[.bad]]
abbrev c_:Fn:=#["Desk.say",2,3,[.Qq,.ite (.or [.not (.Tn NG .str),.cmp .isin (cQ "\n") NG]) [.bad] [],.ite (.cmp .eq NG (cQ "back")) [.O4 (.arg "shown_changes" (.Qb "Shelf.back" "back" 0 []))] [],.set 2 (.OX .partition NG [(cQ " ")]),.ite (.cmp .eq (.idx NO cA) (cQ "")) [.ret (.call "answer_at_large" [.Qb "Shelf.book" "book" 0 [],NG])] [],.ite (.or [.cmp .eq (.idx NO cO) (cQ "put"),.cmp .eq (.idx NO cO) (cQ "take")]) [.O4 (.mt b6 "Desk.say_deed" "say_deed" 0 [.idx NO cO,.call "read_row" [.idx NO (cI 2)]])] [],.bad]]
abbrev da:Fn:=#["Desk.say_deed",3,3,[.Qq,.ite (.cmp .eq NG (cQ "put")) [.O4 (.arg "shown_changes" (.Qb "Shelf.put" "put" 0 [(2,0),(2,1)]))] [],.O4 (.arg "shown_changes" (.Qb "Shelf.take" "take" 0 [(2,0),(2,1)]))]]
noncomputable abbrev pT:Fn:=TM.zE
noncomputable abbrev oq:Fn:=TM.x9
noncomputable abbrev lM:Fn:=TM.rp
abbrev ot:Fn:=#["_law_name",2,6,[.set 2 (cQ "abcdefghijklmnopqrstuvwxyz"),.set 3 (.OX .join (cQ "") [.comp 1 cK .Ol [.bin .add cA (.bin .mod (.idx Nv cO) (cI 8))] [] (.idx NJ (.bin .mod (.idx NG (.bin .add (cI 4) Nv)) (cI 26)))]),.ite (.cmp .gt (.bi .len [NG]) cO) [.set 4 (.idx (.OX .split (.idx NG (.bin .mod (.idx Nv cA) (.bi .len [NG]))) [(cQ "/")]) cO),.ite (.cmp .eq (.bin .mod (.idx Nv (cI 2)) (cI 4)) cA) [.set 3 (.Po (.bin .add Oc NJ) [] [(cI 8)])] [],.ite (.cmp .eq (.bin .mod (.idx Nv (cI 2)) (cI 4)) (cI 2)) [.set 3 (.bin .add (.bin .add Oc (cQ "/")) (.bi .str [.bin .add (cI 2) (.bin .mod (.idx Nv (cI 3)) (cI 98))]))] []] [],.set 5 (.bin .add (.lst [NJ]) (.comp 1 cK .Ol [(cI 40)] [] (.bin .add (.idx NJ (.bin .Qm Nv (cI 26))) (.idx NJ (.bin .mod Nv (cI 26)))))),.ret (.idx (.comp 1 cK .seq [Oq] [.cmp .NH Nv NO] Nv) cO)]]
noncomputable abbrev lN:Fn:=TM.fNames
noncomputable abbrev ou:Fn:=TM.lG
abbrev gw:Fn:=#["_law_learnt",1,5,[.set 1 (.PY cK),.set 2 (.cst (.bl b6)),.Ue NO [.set 2 (.cst (.bl cK)),.Oh b6 [3,4] .seq [Nv] [.ite (.and [.cmp .NH NJ NG,.bi .all [.comp 1 cK .seq [Oc] [] (.cmp .isin Nv NO)]]) [.put 1 NJ (.cst (.bl b6)),.set 2 (.cst (.bl b6))] []]],.ret (.bi .sorted [NG])]]
abbrev fu:Fn:=#["_law_there",2,2,[.ret (.comp 1 cK .seq [Nv] [.and [.cmp .eq (.idx Nv cO) (.idx NO cO),.cmp .eq (.bi .sorted [.idx Nv cA]) (.bi .sorted [.idx NO cA])]] Nv)]]
abbrev ff:Fn:=#["_law_text",1,1,[.ite (.cmp .eq (.idx Nv cA) (.tup [])) [.ret (.bin .add (.idx Nv cO) (cQ " = *"))] [],.ret (.bin .add (.bin .add (.idx Nv cO) (cQ " = ")) (.OX .join (cQ " ") [.idx Nv cA]))]]
abbrev gy:Fn:=#["_law_turn",2,4,[.set 2 (.comp 1 cK .seq [NG] [.cmp .NH Nv NG] Nv),.set 3 (.comp 1 cK .seq [Nv] [.cmp .NH Nv NO] Nv),.ret (.OX .join (cQ " ") [.bin .add (.bin .add (.bin .add (.lst [(cQ "+")]) NO) (.lst [(cQ "-")])) NJ])]]
abbrev fg:Fn:=#["_law_deed",3,7,[.set 3 (.tup [.idx NG (.bin .mod (.idx Nv cO) (.bi .len [NG])),.call "_law_told" [Nv,NG]]),.set 4 (.bin .mod (.idx Nv (cI 11)) (cI 12)),.set 5 (.Po (.Po NO [.bin .mod (.idx Nv (cI 12)) (.bi .max [cA,.bi .len [NO]])] []) [] [cA]),.ite (.and [.Qn .lt .lt (cI 5) Oc (cI 10),.cmp .ne Oq (.lst [])]) [.set 6 (.bin .mod (.idx Nv (cI 13)) (.bin .add (.bi .len [.idx (.idx Oq cO) cA]) cA)),.set 3 (.tup [.idx (.idx Oq cO) cO,.Rq .PX [.bin .add (.Po (.idx (.idx Oq cO) cA) [.var 6] []) (.Po (.idx (.idx Oq cO) cA) [] [.var 6])]])] [],.ite (.or [.cmp .eq Oc (cI 5),.and [.cmp .eq Oc (cI 11),.cmp .eq (.bin .mod (.idx Nv (cI 14)) (cI 3)) cO]]) [.set 3 (.tup [.idx NJ cO,.tup [.idx NJ cO,.idx NJ cO]])] [],.ite (.and [.or [.cmp .eq Oc (cI 4),.cmp .eq Oc (cI 11)],.cmp .eq (.bin .mod (.idx Nv (cI 14)) (cI 3)) cA]) [.set 3 (.tup [.idx NJ cO,.tup [(cQ "a"),(cQ "b"),(cQ "c"),(cQ "d"),(cQ "e"),(cQ "f"),(cQ "g"),(cQ "h"),(cQ "i")]])] [],.ite (.cmp .eq (.bin .mod (.idx Nv (cI 14)) (cI 5)) cO) [.ret (.tup [(cQ "back"),NJ])] [],.ret (.tup [.idx (.lst [(cQ "put"),(cQ "take")]) (.bi .int [.cmp .gt Oc (cI 6)]),NJ])]]
abbrev bp:Fn:=#["_law_behind",4,5,[.U' [3],.ite (.cmp .eq Nv (cQ "back")) [.ite (.cmp .eq NJ (.lst [])) [.ret (.tup [NO,(cI 2)])] [],.ret (.tup [.idx NJ (.neg cA),.cst .Nz])] [],.set 4 (.call "_law_there" [NO,NG]),.ite (.cmp .eq Nv (cQ "take")) [.ite (.cmp .eq Oc (.lst [])) [.ret (.tup [NO,cA])] [],.ret (.tup [.comp 1 cK .seq [NO] [.cmp .ne Nv (.idx Oq cO)] Nv,.cst .Nz])] [],.ite (.or [.cmp .ne Oc (.lst []),.cmp .gt (.bi .len [.idx NG cA]) (cI 8),.cmp .lt (.Rq .jg [.idx NG cA]) (.bi .len [.idx NG cA])]) [.ret (.tup [NO,cO])] [],.ret (.tup [.bin .add NO (.lst [NG]),.cst .Nz])]]
abbrev fh:Fn:=#["_law_said",2,5,[.Qq,.set 2 (.tup [(cQ ""),.cst .Nz]),.RS (.QQ (.mt b6 "Desk.say" "say" 0 [NG])) 2 "PrimerError" [("NoDeed",2),("NoRow",1),("Unfit",0)] 3 4 [["Unfit"],["NoRow"],["NoDeed"]] ["Lacking","NoText","TooMany","Unknown","Unlearnt"],.ret NO]]
abbrev dZ:Fn:=#["_law_right",2,4,[.Qq,.set 2 (.call "_law_learnt" [NG]),.set 3 (.OX .join (cQ " ") [NO]),.ite (.cmp .eq NO (.lst [])) [.set 3 (cQ "-")] [],.ret (.and [.cmp .eq (.QP b6 "Desk.say" "say" 0 [(cQ "book")]) (.OX .join (cQ ";") [.comp 1 cK .seq [NG] [] (.call "_law_text" [Nv])]),.cmp .eq (.QP b6 "Desk.say" "say" 0 [(cQ "learnt")]) NJ])]]
abbrev de:Fn:=#["_law_own_words",2,3,[.set 2 (.lst [(cQ "back"),(cQ "book"),(cQ "need"),(cQ "by"),(cQ "knot"),(cQ "learnt"),(cQ "lacks"),(cQ "put"),(cQ "take"),(cQ "round"),(cQ "price"),(cQ "read"),(cQ "under")]),.set 2 (.bin .add NO (.lst [(cQ "over"),(cQ "musts"),(cQ "why")])),.ret (.comp 1 cK .Ol [.bi .len [Nv]] [] (.idx NJ (.bin .mod (.bin .add NO Nv) (cI 16))))]]
abbrev ox:Fn:=#["law",1,13,[.set 1 (.call "_law_drawn" [.call "_law_cell" [Nv,cO],(cI 4)]),.set 2 (.call "_law_names" [Nv,cA,.bin .add cA (.bin .mod (.idx NG cO) (cI 14))]),.ite (.cmp .eq (.bin .mod (.idx NG (cI 2)) (cI 6)) cA) [.set 2 (.call "_law_own_words" [NO,.idx NG (cI 3)])] [],.PH 3,.set 4 (.lst []),.set 5 (.lst []),.ite (.not (.Pc "_law_right" 3 [Oc])) [.ret (.cst (.bl cK))] [],.Oh cK [6] .Ol [.bin .mod (.idx NG cA) (cI 31)] [.Qp [7,8] (.call "_law_deed" [.call "_law_drawn" [.call "_law_cell" [Nv,.bin .add (cI 20) (.var 6)],(cI 15)],NO,Oc]),.Qp [9,10] (.To "_law_behind" [.var 7,.var 8,Oc,Oq]),.set 11 (.bin .add (.bin .add (.var 7) (cQ " ")) (.call "_law_text" [.var 8])),.ite (.cmp .eq (.var 7) (cQ "back")) [.set 11 (.var 7)] [],.set 12 (.tup [(cQ ""),.var 10]),.ite (.cmp .is (.var 10) (.cst .Nz)) [.set 12 (.tup [.call "_law_turn" [.call "_law_learnt" [Oc],.call "_law_learnt" [.var 9]],.cst .Nz])] [],.ite (.cmp .ne (.Pc "_law_said" 3 [.var 11]) (.var 12)) [.ret (.cst (.bl cK))] [],.ite (.and [.cmp .is (.var 10) (.cst .Nz),.cmp .eq (.var 7) (cQ "back")]) [.exp (.pop 5)] [.ite (.cmp .is (.var 10) (.cst .Nz)) [.app 5 Oc] []],.set 4 (.var 9),.ite (.not (.Pc "_law_right" 3 [Oc])) [.ret (.cst (.bl cK))] []],.ret (.cst (.bl b6))]]
abbrev prog:↑Fn:=[kP,dN,kQ,pS,lJ,oo,dA,mG,dM,bt,dq,bF,gr,iz,jB,iA,fe,dB,lK,iR,dY,du,dw,eL,eM,mH,eN,kf,eh,aY,lL,c_,da,pT,oq,lM,ot,lN,ou,gw,fu,ff,gy,fg,bp,fh,dZ,de,ox]
abbrev ck:Ck:=#[(prog.filter λf=>f.io.isNone&&f.ob.isNone&&df (f.name∉(["Shelf.__init__","Desk.__init__"]:↑Str))).map (·.name),[("DEAREST_READ",(.int 2000)),("FIRST_SENSE",(.int 1)),("LAST_SENSE",(.int 99)),("LETTERS",(.str "abcdefghijklmnopqrstuvwxyz")),("LONGEST_STEM",(.int 8)),("MOST_NOT_LEARNT",(.int 5)),("MOST_ROWS",(.int 60)),("MOST_TOLD",(.int 8)),("PICTURE_SIGN",(.str "*"))],["_law_behind"],["NoDeed","NoRow","Unfit"],[("NoDeed","PrimerError"),("NoRow","PrimerError"),("Unfit","PrimerError")],([("NoDeed","Lacking",cK),("NoDeed","NoDeed",b6),("NoDeed","NoRow",cK),("NoDeed","NoText",cK),("NoDeed","TooMany",cK),("NoDeed","Unfit",cK),("NoDeed","Unknown",cK),("NoDeed","Unlearnt",cK),("NoDeed","ValueError",b6)]:↑(Str×Str×Bool))++([("NoRow","Lacking",cK),("NoRow","NoDeed",cK),("NoRow","NoRow",b6),("NoRow","NoText",cK),("NoRow","TooMany",cK),("NoRow","Unfit",cK),("NoRow","Unknown",cK),("NoRow","Unlearnt",cK),("NoRow","ValueError",b6)]:↑(Str×Str×Bool))++([("Unfit","Lacking",cK),("Unfit","NoDeed",cK),("Unfit","NoRow",cK),("Unfit","NoText",cK),("Unfit","TooMany",cK),("Unfit","Unfit",b6),("Unfit","Unknown",cK),("Unfit","Unlearnt",cK),("Unfit","ValueError",b6)]:↑(Str×Str×Bool)),[("Shelf.book",cK,"book"),("Shelf.put",cK,"put"),("Shelf.take",cK,"take"),("Shelf.back",cK,"back"),("Shelf.do_deed",cK,"do_deed"),("Shelf.turn_to",cK,"turn_to"),("Desk.say",b6,"say"),("Desk.say_deed",b6,"say_deed"),("_law_said",b6,""),("_law_right",b6,"")]]
end K
namespace TM
open PySem L2 NX
def FR(h0:0<=i)(a:i<=99):P2 .str [(k,.int i)]≈zS (qt i):=by
 erw[P2,iS,Ba];rw[ŵ (by
  by_cases hz:i.natAbs=0
  .rw[hz];decide
  .have:i.natAbs<2 ^ 7:=⋯
   have:=(Š hz).mpr this;lia)]
 rfl
theorem pV:∀(l D:↑Str),⇑(l.foldl fH D)<=⇑D+⇑l
 |[],D=>by simp
 |x::l,D=>by
  have h:=pV l (fH D x);have:⇑(fH D x)<=⇑D+1:=by unfold fH;split<;>simp
  grind
theorem ua:∀(l D:↑Str),D.Nodup->⇑D+⇑l<=⇑(l.foldl fH D)->(D++l).Nodup
 |[],D,h,_=>by simp_all
 |x::l,D,h,hl=>by
  rw[YU,k9]at hl;by_cases c:x∈D
  .have e:fH D x=D:=by unfold fH;rw[ŵ c]
   rw[e]at hl;have:=pV l D;lia
  .have e:fH D x=D++[x]:=by unfold fH;rw[Ŷ c]
   rw[e]at hl;have d:(D++[x]).Nodup:=by
    rw[mN];show#[h,by simp,λa f b g z=>c ?_];simp_all
   have:=ua l _ d (by rw[mx,Í];lia);simp_all
def yh(l):df (⇑(bX l)<⇑l)=!decide l.Nodup:=by
 by_cases h:l.Nodup
 .have a:=og h λx b=>(vd l x).mpr b;simp_all
 .have a:¬⇑l<=⇑(bX l):=λz=>h (ua l [] .nil (by simpa[bX] using z));simp_all
def oy(hl:⇑ss<=100):vC .jg [(k,.tup (ss.map .str))]≈lI (⇑(bX ss):Nat):=by
 have e:yT (.tup (ss.map U.str))≈bX ss:=by
  change(strsOf _).bind _=_;rw[fO];change(if ⇑ss+1<SS then _ else _)=_;rw[ŵ (by change ⇑ss+1<4096;lia)]
 change(yT _).map _=_;rw[e];rfl
def len_str(h:⇑x<=100000):P2 .len [(k,.str x)]≈lI (⇑x:Nat):=by
 have hsz:200000<=c8:=⋯
 change(if ⇑x<=c8 then bD _ else cc).map _=_
 grind
def yi(x)(c):Va #[#v[c]] x=df (c∈(~~~x)):=PySem.StrLaws.found_one x c
abbrev isNum(b:Str):Bool:=(ib 98).any λj:Nat=>df (qt (2+(j:Int))=b)
abbrev wb(x:Str):Bool:=if 47∈(~~~x) then cT (ko x "/").1.cps.toList&&isNum (ko x "/").2.2 else cT (~~~x)
def rM(h:bE (~~~x)):wb x=b6:=by
 unfold wb;rcases h with h|⟨a,b,k,e,h,k2,d,f⟩
 .rw[Ŷ (jH h)];show h
 .have c:=NX.qr e (jH h);rw[ŵ ⋯,show("/":Str)=⟨#v[47]⟩ from rfl,c,cb];show#[⋯,?_];unfold isNum;rw[Tb];show#[(k - 2).toNat,uu.mpr ⋯,Ź ?_];rw[show 2+(k - 2).toNat=k by lia];show TM.dO ⋯
structure Rw(r:Row):Prop where
 ln:⇑r.2<=40
 w:⇑r.1<=100
 ws:∀x∈r.2,⇑x<=100
abbrev fk(r:Row):Bool:=(df (⇑r.2<=8)&&decide r.2.Nodup)&&(wb r.1&&r.2.all wb)
def mI(h:fk r=b6):⇑r.2<=8:=by
 unfold fk at h;simp_all
def CY(h:fk r=b6):r.2.Nodup:=by
 unfold fk at h;simp_all
end TM
namespace K
open PySem L2 TM NX
def CZ(b:⇑x<=100000):bK Γ kP [.str x]≈.ok (bL (cT (~~~x))):=by
 have hsz:(200000:Nat)<=c8:=⋯
 have f:=len_list x;let S:au:=[bD (zS x)]
 have d:Run (NQ Γ (.or [.cmp .eq Nv (cQ ""),.cmp .gt (.bi .len [Nv]) (.PM "LONGEST_STEM" (.int 8))])) S (df (x="")||decide (8<⇑x)) S:=by
  show rm (lH (aN (af rfl) ak ttt eJ) λ_=>j6 (aN (dW (aa (af rfl) ah) ttt (len_str b)) lz ttt (j8 ?_)))
  grind
 have a:=fc (cond:=aT Γ []) (elt:=ev Γ (.cmp .isin Nv (.PM "LETTERS" (.str "abcdefghijklmnopqrstuvwxyz")))) (src:=[(zS x)]) (st:=S) ttt .loc (.inl rfl) (λc:Nat=>U.str #[#v[c]]) (λc=>U.bl (low c)) .loc (λ_=>fN) (~~~x) [] (by grind)
  (λc g=>#[lA (c:=low c) (af rfl) lz ttt (by
   change bD _=_;have:=uY "abcdefghijklmnopqrstuvwxyz" (by rfl) c;rw[show Va #[#v[c]] "abcdefghijklmnopqrstuvwxyz"=low c from this]),aH])
 rw[rr]at a;have e:=by
  have:=mF (k:=.own) (x.cps.toList.map low);rw[i8,Yh]at this;show this
 show ay (st:=S) rfl (.inr rfl) (rfl) (aI d (λz=>?_) λz=>?_)
 .have:cT (~~~x)=cK:=by
   rw[RB,Ŵ,Ŵ]at z;unfold cT;rcases z with rfl|z
   .rfl
   grind
  rw[this];show aS ak bh
 .have:cT (~~~x)=x.cps.toList.all low:=by
   rw[Bool.or_eq_false_iff,Ż,Ż]at z;unfold cT;have i:1<=⇑x.cps.toList:=by
    rcases Nat.eq_zero_or_pos ⇑x.cps.toList with h|h
    .show absurd (TM.dO (x:=x) (y:="") (by rw[TZ h];rfl)) z.1
    .show h
   simp_all
  rw[this];show aS (dW (aa (b_ (rs:=[(zS x)]) (aa (af rfl) ah) ttt rfl a) ah) ttt e) bh
def zQ:bK Γ dN [.str y]≈.ok (bL (isNum y)):=by
 have hsz:200000<=c8:=⋯
 let S:au:=[bD (zS y)]
 have a:=fc (cond:=aT Γ []) (elt:=ev Γ (.bi .str [Nv])) (src:=[(lI (1+1)),(lI (99+1))]) (st:=S) ttt .loc (.inl rfl) (λi:Nat=>U.int (2+i)) _ .loc (λ_=>fN) (ib 98) [] (by grind)
  (λi hi=>#[dW (aa (af rfl) ah) ttt (FR ⋯ (by grind)),aH])
 show ay rfl (.inr rfl) (rfl) (aS (lA  (af rfl) (b_  (aa (bu lz ak ttt d5) (aa (bu lz ak ttt d5) ah)) ttt rfl a) ttt ?_) bh);rfl
def C2(a:fn=⟨fn.name,1,1,[.ret (.idx (.OX .partition Nv [(cQ "/")]) (cI n))]⟩)(hl:⇑x<=100000)(h:Oe [U.str (ko x "/").1,.str (ko x "/").2.1,.str (ko x "/").2.2] n≈.str y):bK Γ fn [.str x]≈.ok (zS y):=by
 have hsz:200000<=c8:=⋯
 have b:jR .partition (.str x) [(zS "/")]≈lT [.str (ko x "/").1,.str (ko x "/").2.1,.str (ko x "/").2.2]:=by
  change(if (Ya "/"==0)=cK/\⇑x<=c8 then _ else _)=_;rw[ŵ #[by decide,⋯]]
 rw[a];show ay  rfl (.inr rfl) rfl (aS (aV (fM (af rfl) (aa ak ah) ttt b) ak ttt (km h)) bh)
def C3(h:⇑x<=100000):(ko x "/").1.length<=100000:=by
 rw[show("/":Str)=⟨#v[47]⟩ from rfl];by_cases c:47∈(~~~x)
 .have(a,b,e,hn):=sy c;rw[NX.qr e hn,len_list];rw[len_list,e]at h
  grind
 .rw[NX.iH c];show h
def C4(c:∀x,⇑x<=100000->Γ "is_stem" [.str x]≈.ok (bL (cT (~~~x))))(d:∀y,Γ "is_later_sense" [.str y]≈.ok (bL (isNum y)))
    (hs:∀x,⇑x<=100000->Γ "stem_of" [.str x]≈.ok (zS (ko x "/").1)) (hn:∀x,⇑x<=100000->Γ "number_of" [.str x]≈.ok (.loc,.str (ko x "/").2.2))
 (a:⇑x<=100000):bK Γ kQ [.str x]≈.ok (bL (wb x)):=by
  let S:au:=[bD (zS x)]
  have e:Run (NQ Γ (.cmp .NH (cQ "/") Nv)) S (!df (47∈(~~~x))) S:=aN ak (af rfl) ttt (by
    change(bD (Va "/" x)).map _=_;rw[show Va "/" x=df (47∈(~~~x)) from yi x 47];rfl)
  show ay (st:=S) rfl (.inr rfl) (show TM.start [.str x] 1=S from rfl) (aI e (λz=>?_) λz=>?_)
  . have b:47∉(~~~x):=by exists z
    unfold wb;rw[Ŷ b];show aS (aG (aa (af rfl) ah) ttt (c x a)) bh
  . have b:47∈(~~~x):=by exists z
    unfold wb;rw[ŵ b];show aS (Cv (wx (aG (aa (aG (aa (af rfl) ah) ttt (hs x a)) ah) ttt (c _ (C3 a))) λ_=>v_ (aG (aa (aG (aa (af rfl) ah) ttt (hn x a)) ah) ttt (d _)))) bh
abbrev gz(Γ:Tab)(f:Str):Prop:=∀x:Str,⇑x<=100000->Γ f [.str x]≈.ok (bL (wb x))
def zR(d:gz Γ f){ss:↑Str}(hs:∀x∈ss,⇑x<=100000)(hl:⇑ss<=100000)(h:Run (ev Γ e) st (k,u) st)(c:bg [(k,u)] st)(a:P4 .seq [(k,u)]≈(ss.map λx=>(zS x))):Run (ev Γ (.bi .all [.comp 1 cK .seq [e] [] (.call f [Nv])])) st (bL (ss.all wb)) st:=by
 have hsz:200000<=c8:=⋯
 have b:=fc (cond:=aT Γ []) (elt:=ev Γ (.call f [Nv]))   c .loc (.inl rfl) _ _ .loc (λ_=>fN) ss [] (by grind)
  (λx b=>#[aG (aa (af rfl) ah) ttt (d x (hs x b)),aH])
 have g:=by
  have:=mF (k:=.own) (ss.map wb);rw[i8,Yh]at this;show this
 show dW (aa (b_  (aa h ah) c a b) ah) ttt g
def FT(a:gz Γ "is_word")(h:Rw r):bK Γ oo [NB r]≈.ok (bL (fk r)):=by
 have hsz:(200000:Nat)<=c8:=⋯
 have e:=h.ln;have b:TM.start [NB r] 2=[bD (.loc,NB r),cc]:=by simp[TM.start,eI]
 let S:au:=[bD (.loc,NB r),bD (lT (r.2.map .str))]
 have gl:Run (ev Γ (.bi .len [NG])) S (lI (⇑r.2:Nat)) S:=by
  have h:=dW (Γ:=Γ) (st:=S) (f:=.len) (es:=[NG]) (aa (af rfl) ah) ttt (j9 (xs:=r.2.map U.str));simp_all
 have c:Run (NQ Γ (.or [.cmp .gt (.bi .len [NG]) (.PM "MOST_TOLD" (.int 8)),.cmp .lt (.Rq .jg [NG]) (.bi .len [NG])])) S (df (8<⇑r.2)||!decide r.2.Nodup) S:=by
  show rm (lH (aN gl lz ttt (j8 (by rw[ve];simp;lia))) λ_=>j6 (aN (Cu (aa (af rfl) ah) ttt (oy ⋯)) gl ttt (n9 ?_)));rw[<-yh,ve];simp
 show ay (st:=S) rfl (.inr rfl) b (aw (aV (x:=(.loc,NB r)) (af rfl) ak ttt rfl) aR (aI c (λz=>?_) λz=>?_))
 .have:fk r=cK:=by
   unfold fk
   grind
  rw[this];show aS ak bh
 .have:fk r=(wb r.1&&r.2.all wb):=by
   unfold fk;simp_all
  rw[this];show aS (Cv (wx (aG (aa (aV (x:=(.loc,NB r)) (af rfl) ak ttt rfl) ah) ttt (a r.1 (by have:=h.w;lia))) λ_=>v_ (zR a (λx d=>by have:=h.ws x d;lia) ⋯ (af rfl) ttt (by change bD _=_;rw[i8];rfl)))) bh
def FU(h:⇑r.2<64):bK Γ dA [NB r]≈.ok (.loc,NB (keyOf r)):=by
 have a:=sorted_strs (k:=.loc) (ss:=r.2) h;apply ay (st0:=[bD (.loc,NB r)]) rfl (.inr rfl) (by simp[TM.start,eI,dA])
 repeat' (first|show b|show c|show a|show(by decide:(2:Nat)<=c8)|sizeOf_list_dec)
end K
namespace K
open PySem L2 TM NX Od KL
def C5(h:st[i]?≈bD (bL b)):Run (NQ Γ (.var i)) st b st:=ae (ij h) (c9 rfl)
def wD{told a:↑Str}(hl:⇑told<=1000)(hi:st[i]?≈bD (.any,.tup (told.map .str)))(c:st[j]?≈bD (.own,w))(d:∀x,bO .isin (.str x) w≈df (x∈a)):
  Run (ev Γ (.bi .all [.comp 1 cK .seq [.var i] [] (.cmp .isin Nv (.var (j+1)))])) st (bL (told.all λx=>df (x∈a))) st:=by
 have hsz:1000<=c8:=⋯
 have b:=fc (cond:=aT Γ []) (elt:=ev Γ (.cmp _ Nv (.var (j+1)))) (src:=[(.any,.tup (told.map .str))])  ttt .any (.inr rfl) _ _ .loc (λ_=>fN) told [] ⋯
  (λy _=>#[lA (aB rfl) (aC (by assumption)) #[#[.own,rfl,by exists c],ttt] (d y),aH])
 have e:(told.map λx=>U.bl (df (x∈a)))=(told.map λx=>df (x∈a)).map U.bl:=by rw[i8];rfl
 rw[e]at b;have f:(told.all λx=>df (x∈a))=((told.map λx=>df (x∈a)).all id):=⋯
 rw[f];show dW (aa (b_  (aa (aB hi) ah) ttt (by change bD _=_;rw[i8];rfl) b) ah) ttt (mF _)
abbrev FV:↑TM.S:=[.ite (.and [.cmp .NH NJ NG,.bi .all [.comp 1 cK .seq [Oc] [] (.cmp .isin Nv NO)]]) [.put 1 NJ (.cst (.bl b6)),.set 2 (.cst (.bl b6))] []]
structure Lk(rows:↑Row)(K:↑Str):Prop where
 nd:K.Nodup
 snd:Vm rows K
 wds:∀x∈K,x∈rows.map (·.1)
abbrev lS(rows:↑Row)(K:↑Str)(vs:↑U)(b:Bool)(o3 o4:Sl):au:=[bD (aL (rows.map NB)),bD (.own,.NA K vs),bD (bL b),o3,o4]
def Lk.len(x:Lk rows K):⇑K<=⇑rows:=by
 have:=t6 x.nd x.wds;simp_all
def Lk.add(x:Lk rows K)(d:r∈rows)(g:r.1∉K)(f:∀y∈r.2,y∈K):Lk rows (K++[r.1]):=by
 show#[?_,λC c y hy=>?_,λy hy=>?_]
 .rw[mN];show#[x.nd,by simp,λa h b i e=>?_];simp_all
 .rcases i7.mp hy with hy|hy
  .show x.snd C c y hy
  .have:=by exists hy
   subst this;show c r d λz hz=>x.snd C c z (f z hz)
 .rcases i7.mp hy with hy|hy
  .show x.wds y hy
  .have:=by exists hy
   subst this;show j0.mpr #[r,d,rfl]
def C6(G:∀r∈rows,⇑r.2<=8)(A:⇑rows<=100)(x:Lk rows K0)(vs)(o3 o4):∃c p b q s,Lk rows c/\(b=b6->⇑K0<⇑c)/\(b=cK->c=K0/\ix rows (·∈K0)) /\
  Run (forM b6 [3,4] (execs Γ FV) [(aL (rows.map NB))] (rows.map λr=>(Kd.any,NB r))) (lS rows K0 vs cK o3 o4) .nx (lS rows c p b q s):=by
 have hsz:(20000:Nat)<=c8:=⋯
 have(st1,H,_,c,p,b,q,s,e,f,u,g):=gq (t:=b6) (is:=[3,4]) (body:=execs Γ FV) (rs:=[(aL (rows.map NB))]) (λr:Row=>(Kd.any,NB r))
  (λd r st=>d++r=rows/\∃(K:↑Str) (vs:↑U) (b:Bool) (o3 o4:Sl),st=lS rows K vs b o3 o4/\Lk rows K/\(b=b6->⇑K0<⇑K)/\(b=cK->K=K0/\∀r∈d,(∀y∈r.2,y∈K0)->r.1∈K0)) (λ_ _ _ _=>ttt) (λd a r st I=>by
   have(v,K,vs,b,o3,o4,e,f,u,g):=I;subst e;have B:a∈rows:=by rw[<-v];simp
   have J:=G a B;have N:=f.len;let l:Sl:=bD (.any,.str a.1);let m:Sl:=bD (.any,.tup (a.2.map .str));have n:Run (NQ Γ (.and [.cmp .NH NJ NG,.bi .all [.comp 1 cK .seq [Oc] [] (.cmp .isin Nv NO)]])) (lS rows K vs b l m) (!df (a.1∈K)&&a.2.all λy=>df (y∈K)) (lS rows K vs b l m) :=
    je (ju (aN (aB rfl) (aC rfl) ∅ kL) λ_=>cV (CK (wD (i:=4) (j:=1) (w:=.NA K vs) ⋯ rfl rfl λ_=>JK)))
   have C:Run (d8 b6 [3,4] (.any,NB a)) (lS rows K vs b o3 o4) () (lS rows K vs b l m):=t7 (.inr rfl);cases z:(!df (a.1∈K)&&a.2.all λy=>df (y∈K)) with
   |false =>
    rw[z]at n;show#[_,_,C,aI n (λh=>by cases h) λ_=>bC,by rw[<-v];simp,K,vs,b,_,_,rfl,f,u,λD=>#[(g D).1,λL Pt hz=>?_]];rcases i7.mp Pt with Pt|Pt
    .show(g D).2 L Pt hz
    grind
   |true =>
    rw[z]at n;have o:=z;erw[cb,nc,Ż,lx,Ŵ]at o;show#[_,lS rows (K++[a.1]) (vs++[.bl b6]) b6 l m,C,aI n (λ_=>?_) (λh=>by cases h),by rw[<-v];simp,K++[a.1],_,b6,_,_,rfl,f.add B o.1 o.2,λ_=>?_,λh=>by cases h]
    .show CG (k:=.own) (rv:=(bL b6)) (rk:=(.any,.str a.1)) ak rfl (aB rfl) (aA aH (aA (nW rfl) aP)) rfl rfl (rK ⋯ o.1) (aw ak aR bC)
    .rw[mx,Í]
     grind) rows [] (lS rows K0 vs cK o3 o4) ⟨rfl,K0,vs,cK,o3,o4,rfl,x,(λh=>by cases h),λ_=>#[rfl,λr A=>by cases A]⟩
 subst e;rw[rr]at g;show#[c,p,b,q,s,f,u,g,H]
theorem C7(k:∀r∈rows,⇑r.2<=8)(l:⇑rows<=100):∀f K0 vs o3 o4,Lk rows K0->⇑rows - ⇑K0+2<=f ->
  ∃a c d g,Lk rows a/\ix rows (·∈a)/\Run (nz (NQ Γ NO) (execs Γ [.set 2 (.cst (.bl cK)),.Oh b6 [3,4] .seq [Nv] FV]) f) (lS rows K0 vs b6 o3 o4) .nx (lS rows a c cK d g)
 |0,_,_,_,_,_,h=>by lia
 |f+1,K0,vs,o3,o4,x,h=>by
  have(a,c,b,d,g,i,n,o,p):=C6  k l x vs o3 o4;have q:(rows.map NB).map (λu=>(kE .any,u))=rows.map λr=>(Kd.any,NB r):=by rw[i8];rfl
  have m:Run (execs Γ [.set 2 _,.Oh b6 _ .seq [Nv] FV]) (lS rows K0 vs b6 o3 o4) .nx _ :=
   aw ak aR (ip   (aa (aB rfl) ah) ttt (by change bD _=_;rw[q]) rfl p bC)
  cases b with
  |false =>
   have(e,s):=o rfl;subst e;cases f with
   |zero=>lia
   |succ f=>show#[a,c,d,g,i,s,FI (C5 rfl) m (GU (C5 rfl))]
  |true =>
   have:=n rfl;have:=i.len;have(t,j,v,w,z1,z2,y):=C7 k l f a c d g i ⋯;show#[t,j,v,w,z1,z2,FI (C5 rfl) m y]
def jA(c:∀r∈rows,⇑r.2<=8)(g:⇑rows<=60):∃L,⇑L<64/\L.Nodup/\Vm rows L/\ix rows (·∈L)/\bK Γ gw [.lst (rows.map NB)]≈.ok (oL ((cm L).map .str)):=by
 have d:TM.start [.lst (rows.map NB)] 5=[bD (aL (rows.map NB)),cc,cc,cc,cc]:=by rfl
 have(L,vs,h,i,a,e,f):=C7  c ⋯ fuel [] [] cc cc #[.nil,(λC _ x b=>by cases b),(λx b=>by cases b)] (by unfold fuel;simp;lia);have hl:⇑L<64:=by
  have:=a.len;lia
 have hs:P2 .sorted [(.bor 1,.NA L vs)]≈oL ((cm L).map .str):=by
  change(if ⇑L<64 then _ else _)=_;rw[ŵ hl]
 show#[L,hl,a.nd,a.snd,e,ay rfl (.inl rfl) d (aw  v9 bo (aw ak aR (GV f (aS (dW (aa (aC rfl) ah) ∅ hs) j7))))]
abbrev tb(rs:↑Row):U:=tR rs
abbrev O9(p:List ↑Row):↑U:=p.map tb
abbrev Oj(rs:↑Row)(p:List ↑Row):U:=.ob cK (tb rs) (O9 p)
abbrev Ox(rs:↑Row)(p:List ↑Row):U:=.ob b6 (tb rs) (O9 p)
abbrev lw(rows:↑Row):↑Str:=open Classical in if h:∃L,Kn rows L then cm h.choose else []
def G0(h:Kn rows L):lw rows=cm L:=by
 unfold lw;rw[dif_pos #[L,h]];show sF ((VE #[L,h]).perm h)
abbrev gl(K L:↑Str):↑Str:=L.filter λx=>df (x∉K)
abbrev QW(a b:↑Row):U:=.tup [.lst ((gl (lw a) (lw b)).map .str),.lst ((gl (lw b) (lw a)).map .str)]
structure Bk(rs:↑Row):Prop where
 ok:∀r∈rs,fk r=b6
 ln:⇑rs<=60
def gA(rs):NY (tb rs)=b6:=by simp[tb,NY,cS]
theorem rN:∀p,d6 (O9 p)=b6
 |[]=>rfl
 |r::p=>by rw[O9,i6,d6,gA];show rN p
theorem rO(n):∀rs:↑Row,dQ (n+2) (rs.map NB)=b6
 |[]=>by rfl
 |r::rs=>by rw[i6,dQ,rO n rs];simp[NB,Om,dQ];show jx _ _
def JU(n)(rs):Om (n+3) (tb rs)=b6:=by
 show rO n rs
theorem ub(n):∀p,dQ (n+3) (O9 p)=b6
 |[]=>by rfl
 |r::p=>by rw[O9,i6,dQ,JU];show ub n p
def JV(K L):⇑(gl K L)<=⇑L:=K' _ _
abbrev LOk(Γ:Tab)(f:Str):Prop:=∀rs:↑Row,Bk rs->⇑(lw rs)<64/\Γ f [tb rs]≈.ok (oL ((lw rs).map .str))
def Ml(hi:st[i]?≈bD (oL (L.map .str)))(c:st[j]?≈bD (k,.lst (K.map .str)))(hk:k=.own\/k=.any)(hl:⇑L<=1000):Run (ev Γ (.comp 1 cK .seq [.var i] [.cmp .NH Nv (.var (j+1))] Nv)) st (oL ((gl K L).map .str)) st:=by
 have hsz:1000<=c8:=⋯
 have b:=kK (cond:=aT Γ [.cmp .NH Nv (.var (j+1))]) (elt:=ev Γ Nv) (src:=[(.bor i,.lst _)])  ⟨⟨.own,rfl,hi⟩,ttt⟩ .loc (.inl rfl) U.str _ (λx=>df (x∉K)) .loc L [] ⋯
  (λx b=>by
   have a:=c;show#[cV ?_,λ_=>#[af rfl,aH]];rcases hk with rfl|rfl
   .show aN (af rfl) (aC a) #[#[.own,rfl,a],ttt] iu
   .show aN (af rfl) (aB a) ttt iu)
 show b_  (aa (aC hi) ah) #[#[.own,rfl,hi],ttt] (by change bD _=_;rw[i8];rfl) b
def JW(a:LOk Γ "learnt")(h:Bk rows)(h':Bk rows'):bK Γ dB [tb rows,tb rows']≈.ok (.loc,QW rows rows'):=by
 have hsz:(1000:Nat)<=c8:=⋯
 have(g,d):=a rows h;have(l2,e):=a rows' h';let b:Sl:=bD (.loc,tb rows);let c:Sl:=bD (.loc,tb rows');have f:TM.start [tb rows,tb rows'] 6=[b,c,cc,cc,cc,cc]:=by simp[TM.start,gA,b,c]
 show ay rfl (.inr rfl) f (aw (aG (aa (af rfl) ah) ttt d) bo (aw (aG (aa (af rfl) ah) ttt e) bo
  (aw (Ml (i:=3)   rfl rfl (.inl rfl) ⋯) bo (aw (Ml    rfl rfl (.inl rfl) ⋯) bo
   (aS (dz  (aa (aC   rfl) (aa (aC rfl) ah)) #[#[.own,rfl,rfl],#[.own,rfl,rfl],ttt] (aA (yd rfl) (aA (yd rfl) aP)) (by change 2<=c8;lia)) bh)))))
abbrev ShT(Γ:Tab):Prop:=∀rs a p,Bk rs->Bk a->Γ "Shelf.turn_to" [Oj rs p,tb a]≈.ok (lT [QW rs a,Oj a p])
def C8(d:∀a b,Bk a->Bk b->Γ "gained_and_lost" [tb a,tb b]≈.ok (.loc,QW a b))(h:Bk rows)(h':Bk rows'):eY Γ eM (eM.body.drop 1) [Oj rows past,tb rows']≈.ok (lT [QW rows rows',Oj rows' past]):=by
 let c:Sl:=bD (.loc,tb rows');have e:cD [Oj rows past,tb rows'] 3=[bD (.A',Oj rows past),c,cc]:=by simp[cD,TM.start,gA,c]
 show bI  rfl e (aw (aG (aa (gv rfl) (aa (af rfl) ah)) ttt (d rows _ h h')) aR
  (JS  (af rfl) aH rfl (gA _) (rN _) (aS (af rfl) bh))) rfl
def C9(c:ShT Γ)(h:Bk rows)(h':Bk rows')(f:⇑past<=100):eY Γ eL (eL.body.drop 1) [Oj rows past,tb rows']≈.ok (lT [QW rows rows',Oj rows' (past++[rows])]):=by
 have hsz:1000<=c8:=⋯
 let b:Sl:=bD (.loc,tb rows');have d:cD [Oj rows past,tb rows'] 2=[bD (.A',Oj rows past),b]:=by simp[cD,TM.start,gA,b]
 have e:O9 (past++[rows])=O9 past++[tb rows]:=by simp[O9]
 have a:=c rows _ (past++[rows]) h h';unfold Oj at a ⊢;rw[e]at a ⊢;show bI  rfl d (JT   rfl (by unfold O9;grind) (gA _) (by rw[<-e];show rN _)
  (aS (pR  rfl (aa (af rfl) ah) ttt rfl a) bh)) rfl
def C_:eY Γ iR (iR.body.drop 1) [Oj rows past]≈.ok (lT [tb rows,Oj rows past]) :=
 bI  rfl rfl (aS (gv rfl) bh) rfl
def Dd(b:ShT Γ)(h:Bk rows)(h':Bk rows'):eY Γ dw (dw.body.drop 1) [Oj rows (past++[rows'])]≈.ok (lT [QW rows rows',Oj rows' past]):=by
 have e:O9 (past++[rows'])=O9 past++[tb rows']:=by simp[O9]
 have t:Run (NQ Γ (.PZ 0)) [bD (.A',Oj rows (past++[rows']))] cK [bD (.A',Oj rows (past++[rows']))]:=by
  have:=JL (Γ:=Γ) (i:=0) (st:=[bD (.A',Oj rows (past++[rows']))]) (u:=tb rows) (us:=O9 (past++[rows'])) rfl (by rw[Om];show ub 46 _);rw[e,show(O9 past++[tb rows']).isEmpty=cK by cases O9 past<;>rfl]at this;show this
 have a:=JM (Γ:=Γ) (i:=0) (st:=[bD (.A',Oj rows (past++[rows']))]) (u:=tb rows) (us:=O9 (past++[rows'])) (w:=tb rows') rfl (by rw[e];simp);rw[e,List.dropLast_concat]at a;show bI (st':=[]) rfl rfl (aI t (λz=>by cases z) λ_=>aS (pR rfl (aa a ah) ttt rfl (b rows rows' past h h')) bh) rfl
end K
namespace TM
open PySem L2 NX
def uc:jQ (k,tR rs) lo hi≈(kE k,.tup ((cut rs lo hi).map NB)):=by
 erw[jQ];rw[rG]
def ud(h:⇑a+⇑b<=c8):Qc .add (k,tR a) (k',tR b)≈(kT k k',.tup ((a++b).map NB)):=by
 change(if _ then _ else _)=_;simp_all
def G1(h:Run (ev Γ e) st x st1):Run (execs Γ (.Rr c e::ss)) st (.rt .io (.str c)) st1:=ae (ae h aK) aK
def wF(xs:↑α)(k:Nat):cut xs cc (bD (k:Int))=xs.take k:=by
 change(xs.drop 0).take (min k _ - 0)=_;simp
def oz(xs:↑α)(k:Nat):cut xs (bD (k:Int)) cc=xs.drop k:=by
 change(xs.drop (min k _)).take (⇑xs - min k _)=_;rw[Sa ⋯];simp
end TM
namespace K
open PySem L2 TM NX Od KL
abbrev Qw(r s:Row):Bool:=df (keyOf r=keyOf s)
def zT(a:∀r,⇑r.2<64->Γ "in_one_order" [NB r]≈.ok (.loc,NB (keyOf r)))(h:⇑r.2<64)(b:⇑s.2<64):bK Γ mG [NB r,NB s]≈.ok (bL (Qw r s)):=by
 apply ay (st0:=[bD (.loc,NB r),bD (.loc,NB s)]) rfl (.inr rfl) (by simp[TM.start,eI,mG])
 repeat' (first|show a r h|show a s b|show yc (op:=b6)|sizeOf_list_dec)
abbrev Q_(rows:↑Row)(r:Row):↑Nat:=(ib ⇑rows).filter λp=>Qw (rows.getD p ("",[])) r
abbrev Vo(Γ:Tab):Prop:=∀(rs:↑Row) (r:Row),Bk rs->⇑r.2<64->Γ "places_alike" [tb rs,NB r]≈.ok (oL ((Q_ rs r).map λn:Nat=>.int (n:Nat)))
def jz(c:∀r s,⇑r.2<64->⇑s.2<64->Γ "alike" [NB r,NB s]≈.ok (bL (Qw r s)))(a:Bk rows)(d:⇑r.2<64):bK Γ fe [tb rows,NB r]≈.ok (oL ((Q_ rows r).map λn:Nat=>.int (n:Nat))):=by
 have hsz:(2000:Nat)<=c8:=⋯
 have g:=a.ln;have f:TM.start [tb rows,NB r] 2=[bD (.loc,tb rows),bD (.loc,NB r)]:=by simp[TM.start,gA,eI]
 have b:=om (st:=[bD (.loc,tb rows),bD (.loc,NB r)]) (cond:=aT Γ [.call "alike" [NG,NJ]]) (elt:=ev Γ Nv) (src:=[(.loc,tb rows)]) ttt (λp:Nat=>U.int (p:Nat)) (λp:Nat=>NB (rows.getD p ("",[]))) (λp:Nat=>U.int (p:Nat)) _ (ib ⇑rows) [] (by grind)
  (λy h=>#[cV (wy (aa (af rfl) (aa (af rfl) ah)) ttt (c _ r (by
   have j:y<⇑rows:=⋯
   have e:rows.getD y ("",[])=rows[y]:=⋯
   rw[e];have:=mI (a.ok rows[y] (F1 _));lia) d) rfl),af rfl])
 rw[rr]at b;have e:((rows.map NB).zipIdx.map λp=>(kE .loc,U.tup [.int p.2,p.1]))=(ib ⇑rows).map λp:Nat=>(lT [.int (p:Nat),NB (rows.getD p ("",[]))]):=by
  apply Q9
  .simp
  .intro i k l;have hi:i<⇑rows:=⋯
   simp[kE,S8,hi]
 show ay rfl (.inl rfl) f (aS (b_ (rs:=[(.loc,tb rows)]) (aa (af rfl) ah) ttt (by change bD _=_;rw[e]) b) j7)
def rP:Q_ rows r=[]↔∀s∈rows,keyOf s≠keyOf r:=by
 unfold Q_;rw[Pr];constructor
 .intro h s hs e;have(i,hi,rfl):=WO.mp hs;show h i (uu.mpr hi) ?_;have a:rows.getD i ("",[])=rows[i]:=by simp[hi]
  rw[a,Qw,Ŵ];show e
 .intro h i hi e;have hi:=uu.mp hi;have a:rows.getD i ("",[])=rows[i]:=⋯
  rw[a,Qw,Ŵ]at e;show h _ (F1 _) e
def De(d:∀x∈a,keyOf x≠keyOf r)(hs:keyOf s=keyOf r):∃l,Q_ (a++s::b) r=⇑a::l:=by
 have h:(Q_ (a++s::b) r).head?≈⇑a:=by
  unfold Q_;rw[List.head?_filter,List.find?_range_eq_some];show#[by simp[Qw,hs],by simp,λj c=>?_];have e:(a++s::b).getD j ("",[])=a[j]:=by simp[qs c,c]
  rw[e];erw[Qw,nc,Ż];show d _ (F1 _)
 cases f:Q_ _ r with
 |nil=>simp_all
 |cons x l=>rw[f]at h;show#[l,by rw[vu h]]
abbrev rQ(Γ:Tab):Prop:=∀r:Row,Rw r->Γ "is_row" [NB r]≈.ok (bL (fk r))
abbrev ShD(Γ:Tab):Prop:=∀rs a p,Bk rs->Bk a->⇑p<=100->Γ "Shelf.do_deed" [Oj rs p,tb a]≈.ok (lT [QW rs a,Oj a (p++[rs])])
def fj:Run (ev Γ (.lst [])) st (oL []) st:=dX   ah ttt aP (kj _)
def ue(c:Vo Γ)(d:rQ Γ)(e:Bk rows)(a:Rw r)(h0:st[0]?≈bD (.A',Oj rows past))(b:st[3]?≈bD (.loc,NB r)):
  Run (NQ Γ (.or [.not (.call "is_row" [NJ]),.cmp .ne (.call "places_alike" [.OD 0,NJ]) (.lst [])])) st (!fk r||!(Q_ rows r).isEmpty) st:=by
 show rm (lH (tL (wy (aa (af b) ah) ttt (d r a) rfl)) λ_=>j6 (aN (aG (aa (gv h0) (aa (af b) ah)) ttt (c rows r e (by have:=a.ln;lia))) fj ttt ?_));have:=iy (us:=(Q_ rows r).map λn:Nat=>U.int n) (by show iQ _ _ _);simp_all
def FW{ts:↑Str}:cD [Oj rows past,.str w,.tup (ts.map .str)] 4=[bD (.A',Oj rows past),bD (zS w),bD (lT (ts.map .str)),cc]:=by simp[cD,TM.start,NY,fR]
def mJ(a:st[1]?≈bD (zS w))(b:st[2]?≈bD (lT (ts.map .str))):Run (ev Γ (.tup [NG,.bi .tuple [NO]])) st (.loc,NB (w,ts)) st :=
 dz (aa (af a) (aa (dW (aa (af b) ah) ttt rfl) ah)) ttt (aA aH (aA aH aP)) (by change 2<=c8;decide)
abbrev putSt(rows:↑Row)(past:List ↑Row)(r:Row)(o:Sl):au:=[bD (.A',Oj rows past),bD (zS r.1),bD (lT (r.2.map .str)),o]
def FX(c:Vo Γ)(d:rQ Γ)(e:ShD Γ)(a:Bk rows)(f:Rw r)(b:fk r=b6)(hn:∀s∈rows,keyOf s≠keyOf r)(hl:⇑rows<60)(g:⇑past<=100):
  eY Γ dY (dY.body.drop 1) [Oj rows past,.str r.1,.tup (r.2.map .str)]≈.ok (lT [QW rows (rows++[r]),Oj (rows++[r]) (past++[rows])]):=by
 have hsz:(2000:Nat)<=c8:=⋯
 have i:Bk (rows++[r]):=#[λx j=>(i7.mp j).elim (a.ok x) λh=>by rw[kr.mp h];show b,by simp;lia]
 let S:au:=putSt rows past r (bD (.loc,NB r));have t:=ue (Γ:=Γ) (st:=S)  c d a f rfl rfl;rw[rP.mpr hn,b]at t;have k:Run (NQ Γ (.cmp .ge (.bi .len [.OD 0]) (.PM "MOST_ROWS" (.int 60)))) S cK S:=aN (dW (aa (gv rfl) ah) ttt (j9)) lz ttt (Mc (by grind));show bI (st':=_) rfl FW (aw (mJ rfl rfl) aR
  (aI t (λz=>by cases z) λ_=>aI k (λz=>by cases z) λ_=>aS (pR (st:=S) rfl (aa (bu (gv   rfl) (dz (us:=[r].map NB) (aa (af rfl) ah) ttt (aA aH aP) (by change 1<=c8;lia)) ttt (ud (by grind))) ah) ttt rfl (e rows _ past a i g)) bh)) rfl
def Df(a:Vo Γ)(b:rQ Γ)(c:Bk rows)(d:Rw r)(h:fk r=cK\/∃s∈rows,keyOf s=keyOf r):
  eY Γ dY (dY.body.drop 1) [Oj rows past,.str r.1,.tup (r.2.map .str)]≈.ok (.io,.tup [.str "Unfit",Oj rows past]):=by
 let S:=putSt rows past r (bD (.loc,NB r));have t:=ue  (st:=S)  a b c d rfl rfl;have e:(!fk r||!(Q_ rows r).isEmpty)=b6:=by
  rcases h with h|⟨s,hs,h⟩
  .rw[h];rfl
  .cases f:(Q_ rows r).isEmpty with
   |false=>simp
   |true=>show absurd h (rP.mp (my.mp f) s hs)
 rw[e]at t;show bI  rfl FW (aw (mJ rfl rfl) aR (aI t (λ_=>G1 ak) λz=>by cases z)) rfl
def zU(b:Vo Γ)(c:Bk rows)(hl:⇑r.2<64)(hn:∀s∈rows,keyOf s≠keyOf r):
  eY Γ du (du.body.drop 1) [Oj rows past,.str r.1,.tup (r.2.map .str)]≈.ok (.io,.tup [.str "NoRow",Oj rows past]):=by
 have a:=b rows r c hl;rw[rP.mpr hn]at a;let S:=putSt rows past r (bD (oL []));have t:Run (NQ Γ (.cmp .eq NJ _)) S b6 S:=aN (aC rfl) fj ∅ rfl;show bI  rfl FW (aw (aG (aa (gv rfl) (aa (mJ rfl rfl) ah)) ttt a) bo (aI t (λ_=>G1 ak) λz=>by cases z)) rfl
def zV(rows):eY Γ dw (dw.body.drop 1) [Oj rows []]≈.ok (.io,.tup [.str "NoDeed",Oj rows []]):=by
 rfl
def Dg(g:Vo Γ)(h:ShD Γ)(c:Bk (a++r::b))(d:Bk (a++b))(hk:keyOf (r.1,ts)=keyOf r)(hl:⇑ts<64)(i:∀x∈a,keyOf x≠keyOf r)(m:⇑past<=100):
  eY Γ du (du.body.drop 1) [Oj (a++r::b) past,.str r.1,.tup (ts.map .str)]≈.ok (lT [QW (a++r::b) (a++b),Oj (a++b) (past++[a++r::b])]):=by
 have hsz:(2000:Nat)<=c8:=⋯
 have y:=c.ln;have e:=d.ln;have(l,o):=De (r:=(r.1,ts)) (a:=a) (b:=b) (s:=r) (by rw[hk];show i) hk.symm;let p:Sl:=bD (zS r.1);let q:Sl:=bD (lT (ts.map .str));let u:Sl:=bD (oL ((⇑a::l).map λn:Nat=>.int (n:Nat)));let S:au:=[bD (.A',Oj (a++r::b) past),p,q,u]
 have f:=g (a++r::b) (r.1,ts) c hl;rw[o]at f;have t:Run (NQ Γ (.cmp .eq NJ (.lst []))) S cK S:=by
  show aN (aC rfl) fj ∅ ?_;have v:Om 50 (.lst ((⇑a::l).map λn:Nat=>U.int (n:Nat)))=b6:=by rw[Om];show iQ _ _ _
  change(if _ then _ else _)=_;rw[ŵ #[v,rfl]];rfl
 have h0:Run (ev Γ (.idx NJ cO)) S _ S:=aV (aC rfl) ak ∅ (aJ (bN (j:=0) rfl));have s1:Run (ev Γ (.Po (.OD 0) [] [.idx NJ cO])) S (.loc,tR a) S:=by
  have:=uc (k:=.loc) (rs:=a++r::b) (lo:=cc) (hi:=bD (⇑a:Int));rw[wF,List.take_left'  rfl]at this;show lE (gv rfl) lC (lD h0) ttt this
 have w:Run (ev Γ (.Po (.OD 0) [.bin .add (.idx NJ cO) cA] [])) S (.loc,tR b) S:=by
  have:=uc (k:=.loc) (rs:=a++r::b) (lo:=bD ((⇑a+1:Nat):Int)) (hi:=cc);rw[oz,show a++r::b=(a++[r])++b by simp,Wt ⋯,show(a++[r])++b=a++r::b by simp]at this;show lE (gv rfl) (lD (bu h0 ak ttt d5)) lC ttt this
 show bI (st':=_) rfl FW (aw (aG (aa (gv rfl) (aa (mJ rfl rfl) ah)) ttt f) bo
  (aI t (λz=>by cases z) λ_=>aS (pR (st:=S) rfl (aa (bu s1 w ttt (ud (by grind))) ah) ttt rfl (h (a++r::b) (a++b) past c d m)) bh)) rfl
end K
namespace TM
open PySem L2 NX
abbrev jl(c:Nat):↑Str->↑Nat
 |[]=>[]
 |[x]=>(~~~x)
 |x::y::r=>(~~~x)++c::jl c (y::r)
def gB(c):∀xs,(~~~(ri #[#v[c]] xs))=jl c xs:=by
 have h:∀xs ,(~~~(Ü _ xs))=jl c xs:=λxs=>by
  match xs with
  |[]=>rfl
  |[x]=>rfl
  |x::y::r =>
   have a:=gB.go c (y::r);change(x++⟨#v[c]⟩++Ü _ _).cps.toList=_;rw[cG,cG,a,N9];rfl
 intro xs;change(Zy _ xs).cps.toList=_;rw[VO];show h xs
where go (c:Nat):∀xs ,(~~~(Ü _ xs))=jl c xs
 |[]=>rfl
 |[x]=>rfl
 |x::y::r=>by
  change(x++⟨#v[c]⟩++Ü _ _).cps.toList=_;rw[cG,cG,go c _,N9];rfl
theorem Dh:∀{xs ys},xs≠[]->ys≠[]->(∀x∈xs,c∉(~~~x))->(∀y∈ys,c∉(~~~y))->jl c xs=jl c ys->xs=ys
 |[],_,h,_,_,_,_=>absurd rfl h
 |_::_,[],_,h,_,_,_=>absurd rfl h
 |[x],[y],_,_,_,_,e=>by rw[TM.dO (e)]
 |[x],y::z::r,_,_,a,_,e=>by
  have e:(~~~x)=(~~~y)++c::jl c _:=e;show absurd (by rw[e];simp) (a x ⋯)
 |x::z::r,[y],_,_,_,b,e=>by
  have e:(~~~x)++c::jl c _=(~~~y):=e;show absurd (by rw[<-e];simp) (b y ⋯)
 |x::z::r,y::j::k,_,_,a,b,e=>by
  have(d,f):=qu e (a x ⋯) (b y ⋯);rw[TM.dO d,Dh (YD _ _) (YD _ _) (λx g=>a x (f7 _ g)) (λy i=>b y (f7 _ i)) f]
def oA(h:xs≠[])(hn:∀x∈xs,(~~~x)≠[])(a:∀x∈xs,c∉(~~~x)):G' (ri #[#v[c]] xs) ⟨#v[c]⟩=xs:=by
 have b:=StrLaws.join_split (ri #[#v[c]] xs) #[#v[c]];have e:jl c (G' (ri #[#v[c]] xs) #[#v[c]])=jl c xs:=by
  rw[<-gB.go,b,gB]
 show Dh (λz=>?_) h (StrLaws.split_free _ c) a e;rw[z]at e;cases xs with
 |nil=>show h rfl
 |cons x r =>
  cases r with
  |nil=>show hn x ⋯ e.symm
  |cons y r=>show absurd e.symm (by change (~~~x)++c::_≠[];simp)
def rR{x:Str}(h:bE (~~~x)):∀c∈(~~~x),47<=c:=by
 have d:∀n:_root_.Fin 100,∀c∈(~~~(qt n)),47<=c:=by decide +kernel
 rcases h with h|⟨a,b,k,e,h,k2,j,l⟩
 .have(f,g,i):=(cP _).mp h
  grind
 .have(f,g,i):=(cP _).mp h;rw[e];intro c hc;rcases i7.mp hc with hc|hc
  .grind
  .rcases eT.mp hc with rfl|hc
   .decide
   .have:=d #[k.toNat,⋯] c
    grind
theorem yj:∀{ss:↑Str},(∀x∈ss,⇑x<=n)->(ss.map (·.length)).sum<=n * ⇑ss
 |[],_=>kj _
 |x::ss,h=>by
  have:=yj λy a=>h y (f7 _ a);have:=h x il;rw[i6,Ĭ,k9,Nat.mul_succ];lia
def gC(h:∀x∈ss,⇑x<=n)(hs:⇑sep=1)(hl:(n+1) * ⇑ss<=1000000):Vv sep ss=b6/\⇑(ri sep ss)<=(n+1) * ⇑ss:=by
 have a:=yj h;show#[ŝ (by grind),?_];change(Zy sep ss).length<=_;rw[VO];have:=StrLaws.join_length_le sep ss
 grind
def iB(h:Vv sep ss=b6):jR .join (.str sep) [(k,.lst (ss.map .str))]≈zS (ri sep ss):=by
 change(strsOf _).bind _=_;simp_all
def uf(h:Vv sep ss=b6):jR .join (.str sep) [(k,.tup (ss.map .str))]≈zS (ri sep ss):=by
 change(strsOf _).bind _=_;simp_all
def zW(hs:⇑sep=1)(hl:⇑x<=1000000)(e:G' x sep=ss):jR .split (.str x) [(k,.str sep)]≈oL (ss.map .str):=by
 change(if (⇑sep==0)=cK/\⇑x+2<=c8 then bD _ else cc)=_;have hz:1000002<=c8:=⋯
 rw[ŵ #[by rw[hs];rfl,⋯],e]
def pW:bO .eq (.tup (ss.map U.str)) (.tup [])≈df (ss=[]):=by
 erw[bO];rw[ŵ #[by simp[Om,fQ],by rfl]];cases ss<;>simp[cj,cZ]
abbrev tl(r:Row):↑Str:=if r.2=[] then [("*":Str)] else r.2
abbrev aW(r:Row):Str:=r.1++(" = ":Str)++ri " " (tl r)
structure RowW(r:Row):Prop where
 Qg:⇑r.2<=9
 w1:bE (~~~r.1)
 w2:∀x∈r.2,bE (~~~x)
def gD(h:RowW r):1<=⇑(tl r)/\⇑(tl r)<=9:=by
 unfold tl;split
 .simp
 .rename_i z;show#[Nat.pos_of_ne_zero λe=>z (TZ e),h.Qg]
def yk(h:RowW r):∀x∈tl r,(~~~x)≠[]/\⇑x<=11/\∀c∈(~~~x),42<=c:=by
 intro x a;unfold tl at a;split at a
 .rw[kr.mp a];show#[by decide +kernel,by decide +kernel,by decide +kernel]
 .have b:=h.w2 x a;have:=b.len;show#[λz=>by simp_all,by show this.2,λc d=>by have:=rR b c d;lia]
def kg(h:RowW r):∀x∈r.1::("=":Str)::tl r,(~~~x)≠[]/\⇑x<=11/\∀c∈(~~~x),42<=c:=by
 intro x hx;rcases eT.mp hx with rfl|hx
 .have:=h.w1.len;show#[λz=>by simp_all,by show this.2,λc a=>by have:=rR h.w1 c a;lia]
 .rcases eT.mp hx with rfl|hx
  .show#[by decide +kernel,by decide +kernel,by decide +kernel]
  .show yk h x hx
def pX(h:RowW r):aW r=ri #[#v[32]] (r.1::("=":Str)::tl r):=by
 show TM.dO ?_;have e:(~~~(ri " " (tl r)))=jl 32 _:=gB 32 _;rw[aW,cG,cG,e,gB];have hl:=(gD h).1;cases q:tl r with
 |nil=>simp_all
 |cons y ys =>
  rw[N9];rfl
def wG(h:RowW r):G' (aW r) #[#v[32]]=r.1::("=":Str)::tl r:=by
 rw[pX h];show oA (YD _ _) (λx a=>(kg h x a).1) λx a b=>by have:=(kg h x a).2.2 32 b;lia
theorem Di:∀{xs},d∈jl c xs->d=c\/∃x∈xs,d∈(~~~x)
 |[],h=>by cases h
 |[x],h=>.inr #[x,by simp,h]
 |x::y::r,h=>by
  rcases i7.mp h with h|h
  .show .inr #[x,by simp,h]
  .rcases eT.mp h with h|h
   .show .inl h
   .rcases Di h with h|⟨z,a,b⟩
    .show .inl h
    .show .inr #[z,f7 _ a,b]
def gE(h:RowW r):(~~~(aW r))≠[]/\⇑(aW r)<=140/\∀c∈(~~~(aW r)),32<=c:=by
 have e:=gC (sep:=#[#v[32]])   (λx f=>(kg h x f).2.1) rfl (by have:=(gD h).2;grind);rw[pX h];show#[λz=>?_,qv e.2 (by have:=(gD h).2;grind),λc d=>?_]
 .rw[gB]at z;show absurd z (by change (~~~r.1)++32::_≠[];simp)
 .rw[gB]at d;rcases Di d with rfl|⟨x,a,b⟩
  .simp
  .have:=(kg h x a).2.2 c b;lia
abbrev textOf(rows:↑Row):Str:=ri #[#v[10]] (rows.map aW)
def ug(h:∀r∈rows,RowW r)(hl:⇑rows<=60):Vv ⟨#v[10]⟩ (rows.map aW)=b6/\⇑(textOf rows)<=10000:=by
 have a:=gC (sep:=#[#v[10]])   (λx b=>by
  have(r,c,rfl):=j0.mp b;show(gE (h r c)).2.1) rfl (by grind)
 show#[a.1,qv a.2 (by grind)]
def wH(h:∀r∈rows,RowW r)(hn:rows≠[]):G' (textOf rows) ⟨#v[10]⟩=rows.map aW:=by
 show oA (by exists hn) (λx a=>?_) λx a c=>?_
 .have(r,b,rfl):=j0.mp a;show(gE (h r b)).1
 .have(r,b,rfl):=j0.mp a;have:=(gE (h r b)).2.2 10 c;lia
def zX(h:∀r∈rows,RowW r):YP (textOf rows) "\n" ";"=ri ";" (rows.map aW):=by
 by_cases hn:rows=[]
 .subst hn;decide +kernel
 .rw[show("\n":Str)=⟨#v[10]⟩ from rfl,StrLaws.replace_one,wH h hn];show(VO _ _).symm
end TM
namespace K
open PySem L2 TM NX Od KL
def Vl(a:gz Γ f)(h:bE (~~~x)):Γ f [.str x]≈.ok (bL b6):=by
 have:=a x (by rw[len_list];have:=h.len;lia);rw[rM h]at this;lia
def wI(d:gz Γ f){ss:↑Str}(hs:∀x∈ss,bE (~~~x))(hl:⇑ss<=1000)(h:Run (ev Γ e) st (k,u) st)(c:bg [(k,u)] st)(a:P4 .seq [(k,u)]≈(ss.map λx=>(.any,U.str x))):Run (ev Γ (.bi .all [.comp 1 cK .seq [e] [] (.call f [Nv])])) st (bL b6) st:=by
 have hsz:2000<=c8:=⋯
 have b:=fc (cond:=aT Γ []) (elt:=ev Γ (.call f [Nv]))   c .any (.inr rfl) _ _ .loc (λ_=>fN) ss [] (by grind)
  (λx b=>#[aG (aa (aB rfl) ah) ttt (Vl d (hs x b)),aH])
 have g:=by
  have:=mF (k:=.own) (ss.map λ_=>b6);rw[i8,Yh,show ss.all _=b6 by simp]at this;show this
 show dW (aa (b_  (aa h ah) c a b) ah) ttt g
def Dj:bO .ne (.str a) (.str a)≈cK:=pQ rfl
def uh(ss:↑Str):NY (.tup (ss.map U.str))=b6:=by simp[NY,fR]
def zY(d:gz Γ "is_word")(h:RowW r):bK Γ iA [.lst ((tl r).map .str)]≈.ok (lT (r.2.map .str)):=by
 let S:au:=[bD (aL ((tl r).map .str))]
 have c:TM.start [.lst _] 1=S:=rfl;have b:Run (NQ Γ (.cmp .eq Nv (.lst [.PM "PICTURE_SIGN" _]))) S _ S :=
  aN (y:=(oL ([("*":Str)].map .str))) (aB rfl) (dX (aa lz ah) ttt (aA aH aP) ⋯) ttt j_
 by_cases e:r.2=[]
 .have a:tl r=[("*":Str)]:=by unfold tl;rw[ŵ e]
  rw[Ź a]at b;rw[e];show ay rfl (.inr rfl) c (kJ b (aS (dz ah ttt aP (kj _)) bh))
 .have a:tl r=r.2:=by unfold tl;rw[Ŷ e]
  have f:tl r≠[("*":Str)]:=λz=>by
   have g:("*":Str)∈r.2:=by rw[<-a,z];simp
   show absurd (rR (h.w2 _ g) 42 (by decide +kernel)) ⋯
  rw[ŷ f]at b;have i:∀x∈tl r,bE (~~~x):=by rw[a];show h.w2
  have j:=wI d (st:=S) (e:=.var 0)   i (by have:=(gD h).2;lia) (aB rfl) ttt (by change bD _=_;rw[i8];rfl);rw[<-a];show ay rfl (.inr rfl) c (aI b (λz=>by cases z) λ_=>aI (tL  (CK j)) (λz=>by cases z) λ_=>aS (dW  (aa (aB rfl) ah) ttt rfl) (GO (uh (tl r))))
def Dk(b:gz Γ "is_word")(h:RowW r)(d:Γ "read_told" [.lst ((tl r).map .str)]≈.ok (lT (r.2.map .str))):bK Γ jB [.str (aW r)]≈.ok (.loc,NB r):=by
 have hsz:(1000:Nat)<=c8:=⋯
 let L:=r.1::("=":Str)::tl r;let S:au:=[bD (zS (aW r)),bD (oL (L.map .str))]
 have e:jR .split (.str (aW r)) [(zS " ")]≈oL (L.map .str):=zW rfl (by have:=(gE h).2.1;lia) (wG h);have f:Oe (L.map U.str) 0≈.str r.1:=by show bN rfl
 have g:Oe (L.map U.str) 1≈.str "=":=by show bN rfl
 have a:Run (ev Γ (.idx NG cO)) S (zS r.1) S:=aV (aC rfl) ak ∅ (aJ f);have i:Run (NQ Γ (.or [.cmp .lt (.bi .len [NG]) (cI 3),.not _,.cmp .ne (.idx NG cA) (cQ "=")])) S cK S :=
  rm (xW (aN (dW (aa (aC rfl) ah) ∅ mB) ak ttt (n9 (ŷ (by
   have:=(gD h).1;rw[ei]
   grind)))) (xW (tL (c:=b6) (wy (aa a ah) ttt (Vl b h.w1) rfl)) (j6 (aN (aV (aC rfl) ak ∅ (aJ g)) ak ttt Dj))))
 have j:jQ (.bor 1,.lst (L.map .str)) (bD 2) cc≈oL ((tl r).map .str):=by
  change bD (oL (cut (L.map U.str) (bD ((2:Nat):Int)) cc))=_;unfold cut;rw[HT.DR,HT.Ay,Sa ⋯];rfl
 show ay rfl (.inr rfl) (rfl) (aw (fM (af rfl) (aa ak ah) ttt e) bo (aI i (λz=>by cases z) λ_ =>
  aS (dz (aa a (aa (aG (aa (lE (aC rfl) (lD ak) lC ∅ j) ah) ttt d) ah)) ttt (aA aH (aA aH aP)) (by change 2<=c8;lia)) bh))
def zZ(h:RowW r):bK Γ eN [.tup (r.2.map .str)]≈.ok (zS (ri " " (tl r))):=by
 let S:au:=[bD (lT (r.2.map .str))]
 have c:TM.start [.tup (r.2.map .str)] 1=S:=by simp[TM.start,uh,S]
 have a:Run (NQ Γ (.cmp .eq Nv _)) S _ S:=aN (af rfl) (dz ah ttt aP (kj _)) ttt pW;by_cases e:r.2=[]
 .rw[Ź e]at a;have b:ri " " (tl r)="*":=by unfold tl;rw[ŵ e];rfl
  rw[b];show ay rfl (.inr rfl) c (kJ a (aS lz bh))
 .rw[ŷ e]at a;have b:tl r=r.2:=by unfold tl;rw[Ŷ e]
  have d:=gC (sep:=" ")   (λx f=>(yk h x f).2.1) rfl (by have:=(gD h).2;lia);rw[b]at d ⊢;show ay rfl (.inr rfl) c (aI a (λz=>by cases z) λ_=>aS (fM ak (aa (af rfl) ah) ttt (uf d.1)) bh)
def Mm(h:RowW r)(c:Run (ev Γ a) st (zS r.1) st)(d:Run (ev Γ b) st (zS (ri " " (tl r))) st):Run (ev Γ (.bin .add (.bin .add a (cQ " = ")) b)) st (zS (aW r)) st:=by
 have hsz:1000<=c8:=⋯
 have f:=gC (sep:=" ")   (λx e=>(yk h x e).2.1) rfl (by have:=(gD h).2;lia);have g:=(gD h).2;have i:⇑r.1<=11:=by show h.w1.len.2
 have j:⇑(" = ":Str)=3:=by rfl
 show bu (bu c ak ttt (ft ⋯)) d ttt (ft (by rw[str_len];lia))
def z9(h:∀r∈rows,RowW r)(hl:⇑rows<=60)(c:∀r∈rows,Γ "shown_told" [.tup (r.2.map .str)]≈.ok (zS (ri " " (tl r)))):bK Γ mH [tR rows]≈.ok (zS (textOf rows)):=by
 have hsz:(1000:Nat)<=c8:=⋯
 let S:au:=[bD (.loc,tR rows)]
 have d:TM.start [tR rows] 1=S:=by simp[TM.start,NY,cS,S]
 have a:=fc (cond:=aT Γ []) (elt:=ev Γ (.bin .add (.bin .add (.idx Nv cO) _) (.call _ [.idx Nv cA]))) (src:=[(.loc,tR rows)]) (st:=S) ttt .loc (.inl rfl) NB _ .loc (λ_=>fN) rows [] (by grind)
  (λr b=>#[Mm (h r b) (aV  (af rfl) ak ttt rfl) (aG (aa (aV  (af rfl) ak ttt rfl) ah) ttt (c r b)),aH])
 have e:(rows.map λr=>U.str (aW r))=(rows.map aW).map U.str:=by rw[i8];rfl
 rw[e]at a;have f:P4 .seq [(.loc,tR rows)]≈(rows.map λr=>(Kd.loc,NB r)):=by change bD _=_;rw[i8];rfl
 show ay rfl (.inr rfl) d (aS (fM ak (aa (b_  (aa (af rfl) ah) ttt f a) ah) ttt (iB (ug h hl).1)) bh)
end K
namespace TM
open PySem L2 NX
def JX(h:Run (dH i) st (k,.str c) st)(a:Run (ev Γ b) st (k',.str t) st1)(hl:⇑t<=1048576):Run (execs Γ (.Sx i c b c1 c2::ss)) st (.rt .loc (.str (YP t c1 c2))) st1 :=
 we (ae h (ae (aK) (by rw[ŵ rfl];show ae a (ae (aK) (by unfold yW;rw[ŵ hl];rfl)))))
def JY(h:Run (Pp Γ r) st (.inl u) st1)(a:Run (eX i u) st1 () st2)(b:Run (execs Γ ss) st2 f c):Run (execs Γ (.RS r i x d j k e G::ss)) st f c :=
 fb (ae h (ae a aK)) b
def JZ{r}{i j k n:Nat}{x c}{a}{G}{ss}{f}(h:Run (Pp Γ r) st (.inr c) st1)(hl:b.lookup c≈n)(d:st1[j]?≈cc)(hk:st1[k]?≈cc)(e:i≠j/\i≠k/\j≠k)(g:Run (execs Γ ss) (st1.set i (bD (lT [.str "",.int n]))) f st2):Run (execs Γ (.RS r i x b j k a G::ss)) st f st2:=by
 show fb (ae h ?_) g;unfold En
 dsimp only
 rw[hl];change Bi i j k n st1=_;unfold Bi;rw[d,hk];show(ŵ e).trans rfl
end TM
namespace K
open PySem L2 TM NX Od KL
structure Gb(rows:↑Row):Prop where
 bk:Bk rows
 w:∀r∈rows,RowW r
def G2(h:Gb rows)(a:x∈lw rows):⇑x<=11:=by
 unfold lw at a;split at a
 .rename_i b;have hk:=VE b;have a:=(di _).mem_iff.mp a;show hk.sn (λy=>⇑y<=11) (λr c _=>by show(h.w r c).w1.len.2) x a
 grind
abbrev Ra(L:↑Str):Str:=if L=[] then "-" else ri " " L
abbrev pm(a b:↑Str):↑Str:=(([("+":Str)]++a)++[("-":Str)])++b
abbrev chg(K L:↑Str):Str:=ri " " (pm (gl K L) (gl L K))
def wJ(hl:⇑L<=200)(h:∀x∈L,⇑x<=11):Vv " " L=b6:=(gC  h rfl ⋯).1
def wK(hl:⇑L<64)(h:∀x∈L,⇑x<=11):bK Γ kf [.lst (L.map .str)]≈.ok (zS (Ra L)):=by
 let S:au:=[bD (aL (L.map .str))]
 have a:Run (NQ Γ (.cmp .eq Nv _)) S _ S:=aN (aB rfl) fj ttt (j_ (b:=[]));show ay (st:=S) rfl (.inr rfl) (rfl) (aI a (λz=>?_) λz=>?_)
 .rw[Ŵ]at z;unfold Ra;rw[ŵ z];show aS ak bh
 .rw[Ż]at z;unfold Ra;rw[Ŷ z];show aS (fM ak (aa (aB rfl) ah) ttt (iB (wJ ⋯ h))) bh
def J0(h:x∈gl K L):x∈L:=(M'.mp h).1
def Mn(e:⇑a<64)(f:⇑b<64)(c:∀x∈a,⇑x<=11)(d:∀x∈b,⇑x<=11):Vv " " (pm a b)=b6:=by
 show wJ (by simp[pm];lia) λx hx=>?_;erw[pm,i7,kr]at hx;rcases hx with((rfl|hx)|rfl)|hx
 .decide +kernel
 .show c x hx
 .decide +kernel
 .show d x hx
def Mo(g:⇑a<64)(h:⇑b<64)(i:∀x∈a,⇑x<=11)(j:∀x∈b,⇑x<=11)(m:Run (ev Γ n) st (k1,.lst (a.map .str)) st)(o:Run (ev Γ p) st (k2,.lst (b.map .str)) st)(s1:bg [(k1,.lst (a.map .str))] st)(q:bg [(k2,.lst (b.map .str))] st):
  Run (ev Γ (.OX .join (cQ " ") [.bin .add (.bin .add (.bin .add (.lst [(cQ "+")]) n) (.lst [(cQ "-")])) p])) st (zS (ri " " (pm a b))) st:=by
 have hsz:1000<=c8:=⋯
 have c:∀(k:Kd) (l:↑Str),kD k (l.map U.str)=b6:=λk l=>by simp[kD,fR]
 have one:∀s ,Run (ev Γ _) st (oL ([s].map .str)) st:=λs=>dX (aa ak ah) ttt (aA aH aP) (by change 1<=c8;lia);have d:=bu (one "+") m (s1) (iw ⋯ (c _ _) (c _ _));rw[<-mn]at d;have e:=bu d (one "-") ttt (iw ⋯ (c _ _) (c _ _));rw[<-mn]at e;have f:=bu e o (q) (iw ⋯ (c _ _) (c _ _));rw[<-mn]at f;show fM ak (aa f ah) ttt (iB (Mn g h i j))
structure WL(L:↑Str):Prop where
 ln:⇑L<64
 w:∀x∈L,⇑x<=11
def WL.gl(h:WL L):WL (gl K L):=#[Nat.lt_of_le_of_lt (JV K L) h.ln,λx a=>h.w x (J0 a)]
def ui(e:WL (lw a))(f:WL (lw b)):bK Γ eh [QW a b]≈.ok (zS (chg (lw a) (lw b))):=by
 have c:=WL.gl (K:=lw a) f;have d:=WL.gl (K:=lw b) e;show ay rfl (.inr rfl) (rfl) (aS (Mo  c.ln d.ln c.w d.w (aV  (aB rfl) ak ttt rfl) (aV  (aB rfl) ak ttt rfl) ttt ttt) bh)
def z_(a:WL K)(b:WL L):bK Γ gy [.lst (K.map .str),.lst (L.map .str)]≈.ok (zS (chg K L)):=by
 have c:=WL.gl (K:=K) b;have d:=WL.gl (K:=L) a;let g:Sl:=bD (aL (K.map .str));have go:∀(st:au) (i j:Nat) (A B:↑Str),st[i]?≈_->st[j]?≈_->⇑A<64->Run (ev Γ (.comp 1 cK .seq [.var i] _ Nv)) st (oL ((gl B A).map .str)) st:=λst i j A B hi f hl=>by
  have hsz:(1000:Nat)<=c8:=⋯
  have e:=kK (cond:=aT Γ [.cmp .NH Nv (.var (j+1))]) (elt:=ev Γ Nv) (src:=[(aL (A.map .str))]) (st:=st) ttt .any (.inr rfl) U.str U.str (λx=>df (x∉B)) .any A [] ⋯
   (λx e=>#[cV (aN (aB rfl) (aB f) ttt iu),λ_=>#[aB rfl,nW rfl]])
  show b_  (aa (aB hi) ah) ttt (by change bD _=_;rw[i8];rfl) e
 show ay rfl (.inr rfl) (rfl)
  (aw (go _ 1 0 L K rfl rfl b.ln) bo (aw (go _ 0 1 K L rfl rfl a.ln) bo (aS (Mo  c.ln d.ln c.w d.w (aC rfl) (aC rfl) ∅ ∅) bh)))
abbrev Dl(rows:↑Row):Str:=ri ";" (rows.map aW)
def Aa(hs:Γ "shown" [tb rows]≈.ok (zS (textOf rows)))(h:Gb rows):bK Γ aY [tb rows,.str "book"]≈.ok (zS (Dl rows)):=by
 let S:au:=[bD (.loc,tb rows),bD (zS "book")]
 have d:∀c:Str,c≠"book"->Run (NQ Γ (.cmp .eq NG (.cst (.str c)))) S cK S:=λc f=>by
  have:=aN (Γ:=Γ) (st:=S) (op:=.eq) (a:=.var 1) (b:=.cst (.str c)) (af rfl) ak ttt eJ;rw[ŷ f.symm]at this;show this
 have e:=JX (Γ:=Γ) (st:=S) (i:=1) (c:="book") (c1:="\n") (c2:=";") (b:=.call "shown" [Nv]) (ss:=[.bad]) (ij rfl) (aG (aa (af rfl) ah) ttt hs) (by have:=(ug h.w h.bk.ln).2;lia);rw[zX h.w]at e;show ay rfl (.inr rfl) (by simp[TM.start,gA,S,NY,aY]) (aI (d "learnt" ⋯) (λz=>by cases z) λ_=>aI (d "lacks" ⋯) (λz=>by cases z) λ_=>aI (d "need" ⋯) (λz=>by cases z) λ_=>e)
def wL(c:LOk Γ "learnt")(h:Gb rows)(hl:Γ "listed" [.lst ((lw rows).map .str)]≈.ok (zS (Ra (lw rows)))):bK Γ aY [tb rows,.str "learnt"]≈.ok (zS (Ra (lw rows))):=by
 let S:au:=[bD (.loc,tb rows),bD (zS "learnt")]
 have t:=aN (Γ:=Γ) (st:=S)  (a:=.var 1) (b:=.cst (.str "learnt")) (af rfl) ak ttt eJ;show ay rfl (.inr rfl) (by simp[TM.start,gA,S,NY,aY]) (kJ t (aS (aG (aa (aG (aa (af rfl) ah) ttt (c rows h.bk).2) ah) ttt hl) bh))
abbrev R3(o:Option Str)(rows rows':↑Row)(past':List ↑Row):Option (Ex (Kd×U)):=match o with
 |none=>bD (.ok (lT [QW rows rows',Oj rows' past']))
 |some c=>bD (.ok (.io,.tup [.str c,Oj rows' past']))
abbrev R6(o:Option Str)(rows rows':↑Row)(past':List ↑Row):Option (Ex (Kd×U)):=match o with
 |none=>bD (.ok (lT [.str (chg (lw rows) (lw rows')),Ox rows' past']))
 |some c=>bD (.ok (.io,.tup [.str c,Ox rows' past']))
abbrev FY(Γ:Tab):Prop:=∀a b:↑Row,Gb a->Gb b->Γ "shown_changes" [QW a b]≈.ok (zS (chg (lw a) (lw b)))
def Dm(e:FY Γ)(g:Gb rows)(h:Gb rows')(a:Tq (bD (.A',Ox rows past)::st') js≈rs)(b:Γ f (Oj rows past::rs.map (·.2))=R3 o rows rows' past'):
  ∃d k w,(∀ss,Run (execs Γ (.O4 (.arg "shown_changes" (.Qb f m 0 js))::ss)) (bD (.A',Ox rows past)::st') d (bD (.A',Ox rows' past')::st'))/\Ts d≈(k,w)/\R6 o rows rows' past'≈.ok (k,.tup [w,Ox rows' past']):=by
 cases o with
 |none=>show#[_,.loc,_,λss=>CW (Mi (CU    a rfl b rfl) ttt (rj (e rows _ g h) rfl)) bh,rfl,rfl]
 |some c=>show#[_,.io,_,λss=>CV (JP (CU    a rfl b rfl)),rfl,rfl]
def Dn{way:Str}(m:way="put"\/way="take")(f:FY Γ)(g:Gb rows)(h:Gb rows')(i:Γ (if way="put" then "Shelf.put" else "Shelf.take") [Oj rows past,.str r.1,.tup (r.2.map .str)]=R3 o rows rows' past'):
  eY Γ da (da.body.drop 1) [Ox rows past,.str way,NB r]=R6 o rows rows' past':=by
 let T:au:=[bD (zS way),bD (.loc,NB r)]
 have j:cD [Ox rows past,.str way,NB r] 3=bD (.A',Ox rows past)::T:=by simp[cD,TM.start,eI,NY,T]
 have l:=aN (Γ:=Γ) (st:=bD (.A',Ox rows past)::T)  (a:=.var 1) (b:=.cst (.str "put")) (af rfl) ak ttt eJ;rcases m with rfl|rfl
 .have(n,k,w,c,d,e):=Dm   (js:=[(2,0),(2,1)]) (st':=T) f g h rfl i;rw[e];show bI  rfl j (aI l (λ_=>c _) λz=>by cases z) d
 .have(n,k,w,c,d,e):=Dm   (js:=[(2,0),(2,1)]) (st':=T) f g h rfl i;rw[e];show bI  rfl j (aI l (λz=>by cases z) λ_=>c _) d
abbrev cH(way:Str)(r:Row):Str:=way++(" ":Str)++aW r
def Dp{way:Str}(a:way="put"\/way="take"):ko (cH way r) " "=(way,(" ":Str),aW r):=by
 have h:32∉(~~~way):=by rcases a with rfl|rfl<;>decide +kernel
 have e:(~~~(cH way r))=(~~~way)++32::(~~~(aW r)):=by rw[cH,cG,cG,N9];rfl
 rw[show(" ":Str)=⟨#v[32]⟩ from rfl,NX.qr e h]
def Dq{way:Str}(a:way="put"\/way="take")(h:RowW r):⇑(cH way r)<=200/\10∉(~~~(cH way r)):=by
 have hl:=gE h;have e:(~~~(cH way r))=(~~~way)++32::(~~~(aW r)):=by rw[cH,cG,cG,N9];rfl
 have hz:⇑way.cps.toList<=4/\10∉(~~~way):=by rcases a with rfl|rfl<;>decide +kernel
 have b:=hl.2.1;rw[len_list]at b;rw[len_list,e]
 grind
abbrev Qd(rows:↑Row)(past:List ↑Row)(line:Str)(x:Sl):au:=[bD (.A',Ox rows past),bD (zS line),x]
def oB(a:10∉(~~~line)):Run (NQ Γ (.or [.not (.Tn NG .str),.cmp .isin (cQ "\n") NG])) (Qd rows past line cc) cK (Qd rows past line cc) :=
 rm (xW (tL (c:=b6) (L8 (af rfl) rfl)) (j6 (aN ak (af rfl) ttt (by
  change bD _=_;rw[show Va "\n" line=decide _ from TM.yi line 10,ŷ a]))))
def oC:Run (NQ Γ (.cmp .eq NG (cQ "back"))) (Qd rows past line cc) (df (line="back")) (Qd rows past line cc):=aN (af rfl) ak ttt eJ
abbrev R7(p:Str×Str×Str):U:=.tup [.str p.1,.str p.2.1,.str p.2.2]
def uj(hl:⇑line<=1000):Run (ev Γ (.OX .partition NG [(cQ " ")])) (Qd rows past line cc) (.loc,R7 (ko line " ")) (Qd rows past line cc):=by
 have hsz:1000<=c8:=⋯
 show fM (af rfl) (aa ak ah) ttt ?_;change(if (Ya " "==0)=cK/\⇑line<=c8 then _ else _)=_;rw[ŵ #[by rfl,⋯]];rfl
def J1(h:[U.str p.1,.str p.2.1,.str p.2.2][n]?≈.str y):Run (ev Γ (.idx NO (.cst (.int (n:Nat))))) (Qd rows past line (bD (.loc,R7 p))) (zS y) (Qd rows past line (bD (.loc,R7 p))):=aV  (af rfl) ak ttt (km (bN h))
def FZ(h:[U.str p.1,.str p.2.1,.str p.2.2][n]?≈.str y):Run (NQ Γ (.cmp .eq (.idx NO (.cst (.int (n:Nat)))) (.cst (.str c)))) (Qd rows past line (bD (.loc,R7 p))) (df (y=c)) (Qd rows past line (bD (.loc,R7 p))):=aN (J1 h) ak ttt eJ
def F0{way:Str}(d:way="put"\/way="take")(h:RowW r)(e:Γ "read_row" [.str (aW r)]≈.ok (.loc,NB r))(f:Γ "Desk.say_deed" [Ox rows past,.str way,NB r]=R6 o rows rows' past'):
  eY Γ c_ (c_.body.drop 1) [Ox rows past,.str (cH way r)]=R6 o rows rows' past':=by
 have(hl,q):=Dq d h;have g:=Dp (r:=r) d;have i:=oC (Γ:=Γ) (rows:=rows) (past:=past) (line:=cH way r);rw[ŷ (λz=>by
  have:=ż (λs=>(ko s " ").2.1) z;erw[g]at this;revert this;decide +kernel)]at i
 have j:=uj (Γ:=Γ) (rows:=rows) (past:=past) (line:=cH way r) ⋯;rw[g]at j;let p:=(way,(" ":Str),aW r)
 have t:=FZ (Γ:=Γ) (rows:=rows) (past:=past) (line:=cH way r) (c:="") (p:=p) (n:=1) (y:=" ") rfl;have v:Run (NQ Γ (.or [.cmp .eq (.idx NO cO) (cQ "put"),.cmp .eq (.idx NO cO) (cQ "take")])) (Qd rows past (cH way r) (bD (.loc,R7 p))) b6 (Qd rows past (cH way r) (bD (.loc,R7 p))):=by
  have:=rm (lH (FZ (Γ:=Γ) (rows:=rows) (past:=past) (line:=cH way r) (c:="put") (p:=p) (n:=0) (y:=way) rfl) λ_=>j6 (FZ (c:="take") (n:=0) (y:=way) rfl))
  grind
 have l:=J1 (Γ:=Γ) (rows:=rows) (past:=past) (line:=cH way r) (p:=p) (n:=0) (y:=way) rfl;have m:=J1 (Γ:=Γ) (rows:=rows) (past:=past) (line:=cH way r) (p:=p) (n:=2) (y:=aW r) rfl;have x:cD [Ox rows past,.str (cH way r)] 3=Qd rows past (cH way r) cc:=rfl;have a:∃b k w,(∀ss,Run (execs Γ (.O4 (.mt b6 "Desk.say_deed" "say_deed" 0 [.idx NO cO,.call "read_row" [.idx NO (cI 2)]])::ss)) (Qd rows past (cH way r) (bD (.loc,R7 p))) b (Qd rows' past' (cH way r) (bD (.loc,R7 p))))/\Ts b≈(k,w)/\R6 o rows rows' past'≈.ok (k,.tup [w,Ox rows' past']):=by
  cases o with
  |none=>show#[_,.loc,_,λss=>CW (wC (u0:=tb rows) (us0:=O9 past) (u:=tb rows) (us:=O9 past) rfl (aa l (aa (aG (aa m ah) ttt e) ah)) ttt rfl f rfl) bh,rfl,rfl]
  |some c=>show#[_,.io,_,λss=>CV (wC (u0:=tb rows)  (u:=tb rows) (us:=O9 past) rfl (aa l (aa (aG (aa m ah) ttt e) ah)) ttt rfl f rfl),rfl,rfl]
 have(b,k,w,A,B,C):=a;rw[C];show bI  rfl x (aI (oB q) (λz=>by cases z) λ_=>aI i (λz=>by cases z) λ_=>aw j aR (aI t (λz=>by cases z) λ_=>aI v (λ_=>A _) λz=>by cases z)) B
def Dr(a:FY Γ)(b:Gb rows)(c:Gb rows')(d:Γ "Shelf.back" [Oj rows past]=R3 o rows rows' past'):eY Γ c_ (c_.body.drop 1) [Ox rows past,.str "back"]=R6 o rows rows' past':=by
 have(i,k,w,e,f,g):=Dm   (js:=[])  a b c rfl d;have h:=oC (Γ:=Γ) (rows:=rows) (past:=past) (line:="back");rw[g];show bI  rfl (rfl) (aI (oB (by decide +kernel)) (λz=>by cases z) λ_=>aI h (λ_=>e _) λz=>by cases z) f
def Dt(b:ko line " "=(line,nS,nS))(f:10∉(~~~line))(hl:⇑line<=1000)(g:line≠"back")(hk:Γ "Shelf.book" [Oj rows past]≈.ok (lT [tb rows,Oj rows past]))(h:Γ "answer_at_large" [tb rows,.str line]≈.ok (zS a)):
  eY Γ c_ (c_.body.drop 1) [Ox rows past,.str line]≈.ok (lT [.str a,Ox rows past]):=by
 have d:=oC (Γ:=Γ) (rows:=rows) (past:=past) (line:=line);rw[ŷ g]at d;have e:=uj (Γ:=Γ) (rows:=rows) (past:=past)  hl;rw[b]at e;let p:=(line,nS,nS)
 let S:=Qd rows past line (bD (.loc,R7 p));have j:=FZ (Γ:=Γ) (rows:=rows) (past:=past) (line:=line) (c:="") (p:=p) (n:=1) (y:=nS) rfl;have k:=Mh  (st:=S) (i:=0) (m:="book")  (js:=[])    rfl rfl hk;show bI  rfl (rfl) (aI (oB f) (λz=>by cases z) λ_=>aI d (λz=>by cases z) λ_=>aw e aR (aI j (λ_=>aS (aG (aa k (aa (af rfl) ah)) ttt h) bh) λz=>by cases z)) rfl
abbrev J2:↑(Str×Nat):=[("NoDeed",2),("NoRow",1),("Unfit",0)]
abbrev SO(o:Option Str)(rows rows':↑Row):U:=match o with
 |none=>.tup [.str (chg (lw rows) (lw rows')),.Nz]
 |some c=>.tup [.str "",.int (((J2.lookup c).getD 0:Nat):Int)]
def Du(ho:∀c,o≈c->(J2.lookup c).isSome=b6)(a:Γ "Desk.say" [Ox rows past,.str line]=R6 o rows rows' past'):eY Γ fh (fh.body.drop 1) [Ox rows past,.str line]≈.ok (lT [SO o rows rows',Ox rows' past']):=by
 have hsz:(100:Nat)<=c8:=⋯
 have b:Run (ev Γ _) [bD (.A',Ox rows past),bD (zS line),cc,cc,cc] _ _:=dz (us:=[.str "",.Nz]) (aa ak (aa ak ah)) ttt (aA aH (aA aH aP)) (by change 2<=c8;lia);cases o with
 |none=>show bI (st':=_) rfl (rfl) (aw b aR (JY (Mj (wC      rfl (aa (af rfl) ah) ttt rfl a rfl) aH) aR (aS (af rfl) bh))) rfl
 |some c =>
  have(n,hn):=vr.mp (ho c rfl);have e:SO (bD c) rows rows'=.tup [.str "",.int (n:Nat)]:=by change U.tup _=_;rw[hn];rfl
  rw[e];show bI (st':=_) rfl (rfl) (aw b aR (JZ (JQ (wC    (u:=tb rows)  rfl (aa (af rfl) ah) ttt rfl a rfl)) hn rfl rfl ⋯ (aS (af rfl) bh))) rfl
end K
namespace TM
open PySem L2 NX
def fS(h:Run (execs Γ body) (fB [x,y,z,l] fn.ns) (.rt .loc u) st')(a:st'[3]?≈bD (.own,w)):runN Γ fn body [x,y,z,l]≈.ok (lT [u,w]):=by
 show(ŵ rfl).trans ((ż Io h).trans ?_);change(match st'[3]? with|some (bD (.own,w))=>bD _|_=>cc)=_;rw[a]
def um(h:Om 50 (.lst us)=b6):bO .eq (.lst us) (.lst [])≈us.isEmpty:=by
 erw[bO];rw[ŵ #[h,rfl]];cases us<;>rfl
def Dv:bO .ne (NB a) (NB b)≈!df (a=b):=by
 have h:=yc (op:=b6) (a:=a) (b:=b);erw[bO]at h ⊢;simp_all
def F5(xs)(x:α):Oe (xs++[x]) (-1)≈x:=by
 unfold Oe QZ;rw[Ŷ ⋯,ŵ ⋯];change(xs++[x])[_]?=_;rw[show(-1+(⇑(xs++[x]):Nat):Int).toNat=⇑xs by simp;lia];simp
end TM
namespace K
open PySem L2 TM NX Od KL
abbrev lb(rs:↑Row):U:=.lst (rs.map NB)
def rV(n)(rs):Om (n+3) (lb rs)=b6:=by
 show rO n rs
abbrev pU(p:List ↑Row):U:=.lst (p.map lb)
theorem uo(n):∀p:List ↑Row,dQ (n+3) (p.map lb)=b6
 |[]=>by rfl
 |r::p=>by rw[i6,dQ,rV];show uo n p
def pY(h:RowW r):bK Γ ff [NB r]≈.ok (zS (aW r)):=by
 have hsz:(1000:Nat)<=c8:=⋯
 let S:au:=[bD (.loc,NB r)]
 have c:TM.start [NB r] 1=S:=by simp[TM.start,eI,S]
 have d:Run (ev Γ (.idx Nv cO)) S (zS r.1) S:=aV  (af rfl) ak ttt rfl;have f:Run (ev Γ (.idx Nv cA)) S _ S:=aV  (af rfl) ak ttt rfl;have a:=aN f (dz ah ttt aP (kj _)) ttt pW;have k:⇑r.1<=11:=by show h.w1.len.2
 by_cases e:r.2=[]
 .rw[Ź e]at a;have b:aW r=r.1++(" = *":Str):=by
   show TM.dO ?_;unfold aW tl;rw[ŵ e,cG,cG,cG,N9];rfl
  rw[b];show ay rfl (.inr rfl) c (kJ a (aS (bu d ak ttt (ft (by rw[show(" = *":Str).length=4 by rfl];lia))) bh))
 .rw[ŷ e]at a;have b:tl r=r.2:=by unfold tl;rw[Ŷ e]
  have g:=gC (sep:=" ") (n:=11) (ss:=tl r) (λx i=>(yk h x i).2.1) rfl (by have:=(gD h).2;lia);have j:Run (ev Γ (.OX .join (cQ " ") [.idx Nv cA])) S (zS (ri " " (tl r))) S:=by
   rw[b]at g ⊢;show fM ak (aa f ah) ttt (uf g.1)
  show ay rfl (.inr rfl) c (aI a (λz=>by cases z) λ_=>aS (Mm h d j) bh)
abbrev UI(rows:↑Row)(r:Row):↑Row:=rows.filter λs=>Qw s r
abbrev Mp(Γ:Tab):Prop:=∀(rs:↑Row) (x:Row),(∀s∈rs,⇑s.2<=8)->⇑rs<=100->⇑x.2<=9->Γ "_law_there" [lb rs,NB x]≈.ok (.own,lb (UI rs x))
def Ab(f:∀s∈rows,⇑s.2<=8)(hl:⇑rows<=100)(i:⇑r.2<=9):bK Γ fu [lb rows,NB r]≈.ok (.own,lb (UI rows r)):=by
 have hsz:(1000:Nat)<=c8:=⋯
 let a:Sl:=bD (.any,lb rows);let b:Sl:=bD (.loc,NB r);have g:TM.start [lb rows,NB r] 2=[a,b]:=by simp[TM.start,eI,lb,NY,a,b]
 have c:∀(k:Kd) (x:Row),lW (k,NB x) (.int 0)≈(kE k,.str x.1):=λ_ _=>rfl;have d:∀(k:Kd) (x:Row),lW (k,NB x) (.int 1)≈_:=λ_ _=>rfl;have h:=kK (cond:=aT Γ [.and [.cmp .eq (.idx Nv cO) (.idx NO cO),.cmp .eq (.bi .sorted [.idx Nv cA]) (.bi .sorted [.idx NO cA])]]) (elt:=ev Γ Nv) (src:=[(.any,lb rows)]) (st:=[a,b]) ttt .any (.inr rfl) NB NB (λs=>Qw s r) .any rows [] (by grind)
  (λs hs=>by
   have:=f s hs;have e:Qw s r=(df (s.1=r.1)&&df (cm s.2=cm r.2)):=by
    unfold Qw keyOf;simp
   rw[e];show#[cV (je (ju (aN (aV (aB rfl) ak ttt (c _ s)) (aV (af rfl) ak ttt (c _ r)) ttt eJ) λ_=>cV (aN (dW (aa (aV (aB rfl) ak ttt (d _ s)) ah) ttt (sorted_strs ⋯)) (dW (aa (aV (af rfl) ak ttt (d _ r)) ah) ttt (sorted_strs ⋯)) ttt j_))),λ_=>#[aB rfl,nW (eI s)]])
 show ay rfl (.inl rfl) g (aS (b_  (aa (aB rfl) ah) ttt (by change bD _=_;rw[i8];rfl) h) j7)
inductive Qx(r:Row)(rows:↑Row)(past:List ↑Row):Str->Option Str->↑Row->List ↑Row->Prop
 |p:fk r=b6->(∀s∈rows,keyOf s≠keyOf r)->Qx r rows past "put" cc (rows++[r]) (past++[rows])
 |px:(fk r=cK\/∃s∈rows,keyOf s=keyOf r)->Qx r rows past "put" (bD "Unfit") rows past
 |t:∀(a:↑Row) (s:Row) (b:↑Row),rows=a++s::b->keyOf s=keyOf r->(∀x∈a,keyOf x≠keyOf r)->(∀x∈b,keyOf x≠keyOf r)->Qx r rows past "take" cc (a++b) (past++[rows])
 |tx:(∀s∈rows,keyOf s≠keyOf r)->Qx r rows past "take" (bD "NoRow") rows past
 |b:∀(p:List ↑Row) (rs:↑Row),past=p++[rs]->Qx r rows past "back" cc rs p
 |bx:past=[]->Qx r rows past "back" (bD "NoDeed") rows past
abbrev oU(o:Option Str):U:=match o with
 |none=>.Nz
 |some c=>.int (((J2.lookup c).getD 0:Nat):Int)
def rW:(UI rows r).isEmpty=b6↔∀s∈rows,keyOf s≠keyOf r:=by
 unfold UI;simp[Qw]
abbrev bS(way:Str)(r:Row)(rows:↑Row)(past:List ↑Row)(x:Sl):au:=[bD (zS way),bD (.loc,NB r),bD (.loc,lb rows),bD (.own,pU past),x]
def G3:Run (NQ Γ (.cmp .eq Nv (.cst (.str c)))) (bS way r rows past x) (df (way=c)) (bS way r rows past x):=aN (af rfl) ak ttt eJ
def F6(a:Mp Γ)(b:∀s∈rows,⇑s.2<=8)(hl:⇑rows<=100)(c:⇑r.2<=9):Run (ev Γ (.call "_law_there" [NO,NG])) (bS way r rows past cc) (.own,lb (UI rows r)) (bS way r rows past cc):=aG (aa (af rfl) (aa (af rfl) ah)) ttt (a rows r b hl c)
def kh(hk:k=.own\/k=.loc)(a:Run (ev Γ c) st (k,u) st)(b:Run (ev Γ d) st (.loc,v) st):Run (execs Γ (.ret (.tup [c,d])::ss)) st (.rt .loc (.tup [u,v])) st:=by
 rcases hk with rfl|rfl
 .show aS (dz  (aa a (aa b ah)) ttt (aA xV (aA aH aP)) (by change 2<=c8;decide)) bh
 .show aS (dz  (aa a (aa b ah)) ttt (aA aH (aA aH aP)) (by change 2<=c8;decide)) bh
def wM(hT:Mp Γ)(L:Bk rows)(C:RowW r)(st:Qx r rows past way o rows' past'):runN Γ bp (bp.body.drop 1) [.str way,NB r,lb rows,pU past]≈.ok (lT [.tup [lb rows',oU o],pU past]):=by
 have hsz:(1000:Nat)<=c8:=⋯
 have h8:∀s∈rows,⇑s.2<=8:=λs hs=>mI (L.ok s hs);have SN:=L.ln;have v:=F6 (Γ:=Γ) (way:=way) (past:=past) hT h8 ⋯ C.Qg;obtain⟨T,w⟩:∃T,UI rows r=T:=#[_,rfl]
 rw[w]at v;let B:=bS way r rows past (bD (.own,lb T));have D:Run (NQ Γ (.cmp .eq Oc (.lst []))) B T.isEmpty B:=by
  have:=aN (Γ:=Γ) (st:=B) (op:=.eq) (a:=.var 4) (b:=.lst []) (aC rfl) fj ∅ (um (rV 47 _))
  rwa [YB]at this
 have tN:Run (NQ Γ (.cmp .ne Oc (.lst []))) B (!T.isEmpty) B:=by
  have:=aN (Γ:=Γ) (st:=B) (op:=.ne) (a:=.var 4) (b:=.lst []) (aC rfl) fj ∅ (iy (rV 47 _))
  rwa [YB]at this
 have u:=λc=>G3 (Γ:=Γ) (way:=way) (r:=r) (rows:=rows) (past:=past) (c:=c) (x:=cc);have G:=λc=>G3 (Γ:=Γ) (way:=way) (r:=r) (rows:=rows) (past:=past) (c:=c) (x:=bD (.own,lb T));have H:Run (NQ Γ (.cmp .eq NJ (.lst []))) (bS way r rows past cc) past.isEmpty (bS way r rows past cc):=by
  have:=aN (Γ:=Γ) (st:=bS way r rows past cc) (op:=.eq) (a:=.var 3) (b:=.lst []) (aC rfl) fj ∅ (um (us:=past.map lb) (by rw[Om];show uo 46 _))
  rwa [YB]at this
 have A:Run (ev Γ (.idx NG cA)) B (lT (r.2.map .str)) B:=aV (x:=(.loc,NB r)) (af rfl) ak ttt rfl;have gl:Run (ev Γ (.bi .len [.idx NG cA])) B (lI (⇑r.2:Nat)) B:=by
  have h:=dW (Γ:=Γ) (st:=B) (f:=.len) (aa A ah) ttt (j9 (xs:=r.2.map U.str));simp_all
 have N:fk r=(df (⇑r.2<=8)&&decide r.2.Nodup):=by
  unfold fk;rw[rM C.w1,lx.mpr λx n=>rM (C.w2 x n),Bool.true_and,İ]
 have I:Run (NQ Γ (.or [.cmp .ne Oc (.lst []),.cmp .gt (.bi .len [.idx NG cA]) (cI 8),.cmp .lt (.Rq .jg [.idx NG cA]) (.bi .len [.idx NG cA])])) B (!T.isEmpty||!fk r) B:=by
  have hf:=C.Qg;have:=rm (lH tN λ_=>lH (aN gl ak ttt (j8 (i:=(⇑r.2:Nat)) (j:=8) (c:=df (8<⇑r.2)) (by rw[ve];simp;lia))) λ_=>j6 (aN (Cu (aa A ah) ttt (oy ⋯)) gl ttt (n9 (c:=!decide r.2.Nodup) (by
   rw[<-yh,ve];simp))))
  grind
 cases st with
 |p g J =>
  have e:T=[]:=w▸my.mp (rW.mpr J);have d:=u "back";have m:=G "take";rw[ŷ ⋯]at d m;rw[g,show(!T.isEmpty)=cK by rw[e];rfl]at I;have ad:Run (ev Γ (.bin .add NO (.lst [NG]))) B (.own,lb (rows++[r])) B:=by
   have:=bu (Γ:=Γ) (st:=B) (a:=.var 2) (b:=.lst [NG]) (af rfl) (dX (us:=[r].map NB) (aa (af rfl) ah) ttt (aA aH aP) (by change 1<=c8;lia)) ttt (iw (k:=.loc) (k':=.own) (xs:=rows.map NB) (ys:=[r].map NB) ⋯ rfl rfl)
   rwa [<-mn]at this
  show fS (fn:=bp) (st':=B) (aI d (λz=>by cases z) λ_=>aw v bo (aI m (λz=>by cases z) λ_=>aI I (λz=>by cases z) λ_=>kh (.inl rfl) ad ak)) rfl
 |px g =>
  have d:=u "back";have m:=G "take";rw[ŷ ⋯]at d m;have e:(!T.isEmpty||!fk r)=b6:=by
   rcases g with h|⟨s,hs,h⟩
   .simp_all
   .cases q:T.isEmpty with
    |false=>rfl
    |true=>show absurd h (rW.mp (w▸q) s hs)
  rw[e]at I;show fS (fn:=bp) (st':=B) (aI d (λz=>by cases z) λ_=>aw v bo (aI m (λz=>by cases z) λ_=>aI I (λ_=>kh (.inr rfl) (af rfl) ak) λz=>by cases z)) rfl
 |tx g =>
  have e:T.isEmpty=b6:=w▸rW.mpr g;have d:=u "back";have m:=G "take";rw[ŷ ⋯]at d;rw[Ź rfl]at m;rw[e]at D;show fS (fn:=bp) (st':=B) (aI d (λz=>by cases z) λ_=>aw v bo (aI m (λ_=>aI D (λ_=>kh (.inr rfl) (af rfl) ak) λz=>by cases z) λz=>by cases z)) rfl
 |t a s b g J O Q =>
  have Y:∀l:↑Row,(∀x∈l,keyOf x≠keyOf r)->l.filter (λs=>Qw s r)=[]:=λl hl=>Pr.mpr λx n=>by simpa[Qw] using hl x n
  have e:T=[s]:=by
   rw[<-w,UI,g,RJ,Q8,ŵ (by simp[Qw,J]),Y a O,Y b Q];rfl
  have f1:∀l:↑Row,(∀x∈l,keyOf x≠keyOf r)->l.filter (λx=>!df (x=s))=l:=λl hl=>æ.mpr λx n=>by
   erw[nc,Ż];rintro rfl;show hl x n J
  have ef:rows.filter (λx=>!df (x=s))=a++b:=by
   rw[g,RJ,Q8,Ŷ ⋯,f1 a O,f1 b Q]
  have d:=u "back";have m:=G "take";rw[ŷ ⋯]at d;rw[Ź rfl]at m;rw[show T.isEmpty=cK by rw[e];rfl]at D;have n:=kK (cond:=aT Γ [.cmp .ne Nv (.idx Oq cO)]) (elt:=ev Γ Nv) (src:=[(.loc,lb rows)]) (st:=B) ttt .loc (.inl rfl) NB NB (λx=>!df (x=s)) .loc rows [] ⋯
   (λx n=>#[cV (aN (y:=(.loc,NB s)) (af rfl) (aV (x:=(.bor 5,lb T)) (aC rfl) ak ∅ (by rw[e];show aJ rfl)) ttt Dv),λ_=>#[af rfl,aH]])
  rw[rr,ef]at n;show fS (fn:=bp) (st':=B) (aI d (λz=>by cases z) λ_=>aw v bo (aI m (λ_=>aI D (λz=>by cases z) λ_=>kh (.inl rfl) (b_ (rs:=[(.loc,lb rows)]) (aa (af rfl) ah) ttt (by change bD _=_;rw[i8];rfl) n) ak) λz=>by cases z)) rfl
 |b _ _ g =>
  have d:=u "back";rw[Ź rfl]at d;rw[show past.isEmpty=cK by rw[g];cases past'<;>rfl]at H;have gi:Run (ev Γ (.idx NJ (.neg cA))) (bS "back" r rows past cc) (.loc,lb rows') (bS "back" r rows past cc):=aV (x:=(.bor 3,pU past)) (y:=(lI (-1))) (aC rfl) (L7 ak rfl) ∅ (aJ (by rw[g,mn];show F5 _ _));show fS (fn:=bp) (st':=bS "back" r rows past cc) (aI d (λ_=>aI H (λz=>by cases z) λ_=>kh (.inr rfl) gi ak) λz=>by cases z) rfl
 |bx g =>
  have d:=u "back";rw[Ź rfl]at d;rw[show past.isEmpty=b6 by rw[g];rfl]at H;show fS (fn:=bp) (st':=bS "back" r rows past cc) (aI d (λ_=>aI H (λ_=>kh (.inr rfl) (af rfl) ak) λz=>by cases z) λz=>by cases z) rfl
end K
namespace TM
open PySem L2 NX
def J3(d:Run (ev Γ a) st x st)(e:Run (ev Γ b) st y st)(f:Run (ev Γ c) st z st)(s1:bg [x,y] st)(g:bg [y,z] st)(h:bO o1 x.2 y.2≈p)(i:bO o2 y.2 z.2≈q):Run (NQ Γ (.Qn o1 o2 a b c)) st (p&&q) st:=by
 show ae d (ae e (ae (bc s1) (ae (c9 h) ?_)));cases p with
 |true=>show ae f (ae (bc g) (c9 i))
 |false=>rfl
def uw:jQ (k,.tup (ss.map .str)) lo hi≈(kE k,.tup ((cut ss lo hi).map .str)):=by
 erw[jQ];rw[rG]
def Dw{a b:↑Str}(h:⇑a+⇑b<=c8):Qc .add (k,.tup (a.map .str)) (k',.tup (b.map .str))≈(kT k k',.tup ((a++b).map .str)):=by
 change(if _ then _ else _)=_;simp_all
def uA(k):jQ (k,.lst (rs.map NB)) lo hi≈oL ((cut rs lo hi).map NB):=by
 erw[jQ];rw[ŵ (by unfold kD;rw[cS,Bool.or_true]),rG]
end TM
namespace K
open PySem L2 TM NX Od KL
section
variable{Γ:Tab}{names:List Str}{rows rows':List Row}{past past':List (List Row)}{r:Row}{ds:List Int}
abbrev uB:↑Str:=["a","b","c","d","e","f","g","h","i"]
def J4:∀x∈uB,bE (~~~x):=λx a=>.inl (lx.mp (by rfl:uB.all (λx=>cT (~~~x))=b6) x a)
abbrev dS(ds:↑Int)(names:↑Str)(rows:↑Row)(r:Row)(m:Int)(five:↑Row)(o6:Sl):au:=[bD (aL (ds.map .int)),bD (aL (names.map .str)),bD (.any,lb rows),bD (.loc,NB r),bD (lI m),bD (.own,lb five),o6]
variable{m:Int}{five:List Row}{o6:Sl}
def G4(hi:i<⇑ds)(a:0<t)(h0:st[0]?≈bD (aL (ds.map .int))):Run (ev Γ (.bin .mod (.idx Nv (.cst (.int (i:Nat)))) (cI t))) st (lI (dd ds i % t)) st :=
 bu (aV (aB h0) ak ttt (aJ (bU hi))) ak ttt (cu a)
def J5(hi:i<⇑ds)(a:0<t)(h0:st[0]?≈bD (aL (ds.map .int))):Run (NQ Γ (.cmp .eq (.bin .mod (.idx Nv (.cst (.int (i:Nat)))) (cI t)) (cI c))) st (dd ds i % t==c) st:=aN (G4 hi a h0) ak ttt (gp rfl)
def F7:Run (NQ Γ (.cmp .eq Oc (cI c))) (dS ds names rows r m five o6) (m==c) (dS ds names rows r m five o6):=aN (af rfl) ak ttt (gp rfl)
def F8:Run (ev Γ (.idx NJ cO)) (dS ds names rows r m five o6) (zS r.1) (dS ds names rows r m five o6):=aV  (af rfl) ak ttt rfl
def Dx(c:Run (ev Γ a) st (zS x) st)(d:Run (ev Γ b) st (lT (ts.map .str)) st):Run (ev Γ (.tup [a,b])) st (.loc,NB (x,ts)) st :=
 dz  (aa c (aa d ah)) ttt (aA aH (aA aH aP)) (by change 2<=c8;decide)
theorem wN:∀ss:↑Str,Run (bH Γ (ss.map λs=>E.cst (.str s))) st (ss.map λs=>(zS s)) st
 |[]=>ah
 |s::ss=>aa ak (wN ss)
theorem rX:∀us,Run (cn (us.map λu=>(Kd.loc,u))) st us st
 |[]=>aP
 |u::us=>aA aH (rX us)
theorem kR:∀us:↑U,bg (us.map λu=>(Kd.loc,u)) st
 |[]=>trivial
 |_::us=>kR us
def J6{ss:↑Str}(h:⇑ss<=100):Run (ev Γ (.tup (ss.map λs=>E.cst (.str s)))) st (lT (ss.map .str)) st:=by
 have hsz:100<=c8:=⋯
 have e:(ss.map λs=>(zS s))=(ss.map U.str).map λu=>(Kd.loc,u):=by rw[i8];rfl
 have a:=wN (Γ:=Γ) (st:=st) ss;rw[e]at a;show dz a (kR _) (rX _) (by grind)
def wO{ss:↑Str}(h:⇑ss<=100):Run (ev Γ (.lst (ss.map λs=>E.cst (.str s)))) st (oL (ss.map .str)) st:=by
 have hsz:100<=c8:=⋯
 have e:(ss.map λs=>(zS s))=(ss.map U.str).map λu=>(Kd.loc,u):=by rw[i8];rfl
 have a:=wN (Γ:=Γ) (st:=st) ss;rw[e]at a;show dX a (kR _) (rX _) (by rw[ei];lia)
abbrev Way(w:Str):Prop:=w="put"\/w="take"\/w="back"
abbrev DE(Γ:Tab)(ds:↑Int)(names:↑Str)(rows:↑Row)(m:Int)(five:↑Row)(ss:↑TM.S)(r:Row)(o6:Sl):Prop:=∃way a st',Way way/\RowW a/\Run (execs Γ ss) (dS ds names rows r m five o6) (.rt .loc (.tup [.str way,NB a])) st'
abbrev dT(n:Nat):↑TM.S:=fg.body.drop n
def Mq(hl:⇑ds=15)(h:RowW r):DE Γ ds names rows m five (dT 6) r o6:=by
 have t:=J5 (Γ:=Γ) (i:=14) (t:=5) (c:=0)  ⋯ ⋯ (st:=dS ds names rows r m five o6) rfl;cases z:(dd ds 14 % 5==0) with
 |true =>
  rw[z]at t;show#["back",r,_,.inr (.inr rfl),h,kJ t (kh (.inr rfl) ak (af rfl))]
 |false =>
  rw[z]at t;have hi:Run (ev Γ (.bi .int [.cmp .gt Oc (cI 6)])) _ _ (dS ds names rows r m five o6):=dW (aa (lA (af rfl) ak ttt (j8 rfl)) ah) ttt rfl;have a:=wO (Γ:=Γ) (st:=dS ds names rows r m five o6) (ss:=["put","take"]) ⋯;by_cases b:6<m
  .rw[Ź b]at hi;show#["take",r,_,.inr (.inl rfl),h,aI t (λz=>by cases z) λ_=>kh (.inr rfl) (aV a hi ttt (aJ (bN (j:=1) rfl))) (af rfl)]
  .rw[ŷ b]at hi;show#["put",r,_,.inl rfl,h,aI t (λz=>by cases z) λ_=>kh (.inr rfl) (aV a hi ttt (aJ (bN  rfl))) (af rfl)]
def Mr(hl:⇑ds=15)(h:RowW r):DE Γ ds names rows m five (dT 5) r o6:=by
 let S:=dS ds names rows r m five o6;have t:=je (ju (rm (lH (F7 (Γ:=Γ)    (r:=r)    (c:=4)) λ_=>j6 (F7 (c:=11)))) λ_=>cV (J5  (i:=14) (t:=3) (c:=1)  ⋯ ⋯ (st:=S) rfl));cases z:((m==4||m==11)&&(dd ds 14 % 3==1)) with
 |true =>
  rw[z]at t;have h':RowW (r.1,uB):=#[show ⇑uB<=9 by decide,h.w1,J4]
  have(w,d,st',a,b,c):=Mq       hl h';show#[w,d,st',a,b,aI t (λ_=>aw (Dx F8 (J6 (ss:=uB) ⋯)) aR c) λz=>by cases z]
 |false =>
  rw[z]at t;have(w,d,st',a,b,c):=Mq    (m:=m)   hl h;show#[w,d,st',a,b,aI t (λz=>by cases z) λ_=>c]
def Ms(hl:⇑ds=15)(h:RowW r):DE Γ ds names rows m five (dT 4) r o6:=by
 let S:=dS ds names rows r m five o6;have t:=rm (lH (F7  (ds:=ds)   (r:=r) (m:=m)  (o6:=o6) (c:=5)) λ_=>j6 (je (ju (F7 (c:=11)) λ_=>cV (J5 (Γ:=Γ) (i:=14) (t:=3) (c:=0) (ds:=ds) ⋯ ⋯ (st:=S) rfl))));cases z:((m==5)||((m==11)&&(dd ds 14 % 3==0))) with
 |true =>
  rw[z]at t;have h':RowW (r.1,[r.1,r.1]):=#[by simp,h.w1,λx e=>by rw[show x=r.1 by exists e];show h.w1]
  have(w,d,st',a,b,c):=Mr (Γ:=Γ)   (m:=m)   hl h';show#[w,d,st',a,b,aI t (λ_=>aw (Dx F8 (dz  (aa F8 (aa F8 ah)) ttt (aA aH (aA aH aP)) (by change 2<=c8;decide))) aR c) λz=>by cases z]
 |false =>
  rw[z]at t;have(w,d,st',a,b,c):=Mr (Γ:=Γ)   (m:=m)  (o6:=o6) hl h;show#[w,d,st',a,b,aI t (λz=>by cases z) λ_=>c]
def Np(hl:⇑ds=15)(h:RowW r)(C:∀s∈five,RowW s)(h0:∀d∈ds,0<=d):DE Γ ds names rows m five (dT 3) r o6:=by
 have hsz:(1000:Nat)<=c8:=⋯
 let S:=dS ds names rows r m five o6;have D:Run (NQ Γ (.cmp .ne Oq (.lst []))) S (!five.isEmpty) S:=by
  have:=aN (Γ:=Γ) (st:=S) (op:=.ne) (a:=.var 5) (b:=.lst []) (aC rfl) fj ∅ (iy (rV 47 _));simp_all
 have t:=je (ju (J3 (Γ:=Γ) (st:=S) (o1:=.lt) (o2:=.lt) (a:=cI 5) (b:=.var 4) (c:=cI 10) ak (af rfl) ak ttt ttt (n9 rfl) (n9 rfl)) λ_=>cV D);cases z:((df ((5:Int)<m)&&df (m<10))&&!five.isEmpty) with
 |false =>
  rw[z]at t;have(w,q,st',a,b,c):=Ms (Γ:=Γ) (names:=names) (rows:=rows) (m:=m) (five:=five) (o6:=o6) hl h;show#[w,q,st',a,b,aI t (λz=>by cases z) λ_=>c]
 |true =>
  rw[z]at t;obtain⟨s,g,G⟩:∃s g,five=s::g:=by
   cases five with
   |nil=>simp at z
   |cons s g=>show#[s,g,rfl]
  subst G;have hs:=C s ⋯;let n:Int:=dd ds 13 % ((⇑s.2:Nat)+1);have J:0<=n:=Uz _ ⋯;obtain⟨k,hk⟩:∃k:Nat,n=k:=#[n.toNat,⋯]
  let v:=dS ds names rows r m (s::g) o6;let p:=dS ds names rows r m (s::g) (bD (lI n));have A:∀{o:Sl},Run (ev Γ (.idx Oq cO)) (dS ds names rows r m (s::g) o) (.loc,NB s) (dS ds names rows r m (s::g) o):=aV (x:=(.bor 5,lb (s::g))) (aC rfl) ak ∅ (aJ (bN (j:=0) rfl));have l:∀{o:Sl},Run (ev Γ (.idx (.idx Oq cO) cA)) (dS ds names rows r m (s::g) o) (lT (s.2.map .str)) (dS ds names rows r m (s::g) o):=aV A ak ttt rfl;have H:Run (ev Γ (.bin .mod (.idx Nv (cI 13)) (.bin .add (.bi .len [.idx (.idx Oq cO) cA]) cA))) v (lI n) v:=by
   have B:=dW (Γ:=Γ) (st:=v) (f:=.len) (aa l ah) ttt (j9 (xs:=s.2.map U.str));rw[ei]at B;show bu (aV (aB rfl) ak ttt (aJ (bU (i:=13) ⋯))) (bu B ak ttt d5) ttt (cu ⋯)
  let ts:↑Str:=(s.2.drop k++s.2.take k).reverse;have h':RowW (s.1,ts):=by
   show#[?_,hs.w1,λx L=>hs.w2 x ?_]
   .have:=hs.Qg;simp[ts];lia
   grind
  have N:=hs.Qg;have s1:Run (ev Γ (.Po (.idx (.idx Oq cO) cA) [.var 6] [])) p (lT ((s.2.drop k).map .str)) p:=by
   have e:=uw (k:=.loc) (ss:=s.2) (lo:=bD n) (hi:=cc);rw[hk,oz]at e;show lE l (lD (af (u:=.int n) rfl)) lC ttt (by rw[hk];show e)
  have I:Run (ev Γ (.Po (.idx (.idx Oq cO) cA) [] [.var 6])) p (lT ((s.2.take k).map .str)) p:=by
   have e:=uw (k:=.loc) (ss:=s.2) (lo:=cc) (hi:=bD n);rw[hk,wF]at e;show lE l lC (lD (af (u:=.int n) rfl)) ttt (by rw[hk];show e)
  have y:vC .PX [(lT ((s.2.drop k++s.2.take k).map .str))]≈lT (ts.map .str):=by
   change bD (lT (((s.2.drop k++s.2.take k).map U.str).reverse))=_;rw[<-List.map_reverse]
  have(w,q,st',a,b,c):=Ms (Γ:=Γ) (names:=names) (rows:=rows) (m:=m) (five:=s::g) (o6:=bD (lI n)) hl h';show#[w,q,st',a,b,aI t (λ_=>aw H aR (aw (Dx (aV (x:=(.loc,NB s)) A ak ttt rfl) (Cu (aa (bu s1 I ttt (Dw ⋯)) ah) ttt y)) aR c)) λz=>by cases z]
def Ac(v:CH Γ)(hl:⇑ds=15)(h0:∀d∈ds,0<=d)(hn:0<⇑names)(l:∀x∈names,bE (~~~x))(y:∀s∈rows,RowW s)(z:⇑rows<=100):∃way h,Way way/\RowW h/\bK Γ fg [.lst (ds.map .int),.lst (names.map .str),lb rows]≈.ok (lT [.str way,NB h]):=by
 have hsz:(1000:Nat)<=c8:=⋯
 have(told,O,Q,A,B):=v ds names ⋯ h0 hn;have o:(0:Int)<(⇑(names.map U.str):Nat):=⋯
 have(nm,C,D):=rF (xs:=names) (t:=(⇑(names.map U.str):Nat)) (fP h0 0) o ⋯;have G:RowW (nm,told):=#[by grind,l nm C,λx H=>l x (A x H)]
 let p:Int:=if (⇑(rows.map NB):Nat)>(1:Int) then(⇑(rows.map NB):Nat) else 1
 have j:0<p:=by grind
 let n:Int:=dd ds 12 % p;have T:0<=n:=Uz _ ⋯;obtain⟨k,hk⟩:∃k:Nat,n=k:=#[n.toNat,⋯]
 let five:↑Row:=(rows.drop k).take 1;have I:∀s∈five,RowW s:=λs hs=>y s (List.drop_subset _ _ (List.take_subset _ _ hs));have(w,h,st',a,b,c):=Np (Γ:=Γ) (names:=names) (rows:=rows) (m:=dd ds 11 % 12) (five:=five) (o6:=cc) hl G I h0;let e:Sl:=bD (aL (ds.map .int));let f:Sl:=bD (aL (names.map .str));let g:Sl:=bD (.any,lb rows);have J:TM.start [.lst (ds.map .int),.lst (names.map .str),lb rows] 7=[e,f,g,cc,cc,cc,cc]:=rfl;have L:Run (ev Γ (.tup [.idx NG (.bin .mod (.idx Nv cO) (.bi .len [NG])),.call "_law_told" [Nv,NG]])) [e,f,g,cc,cc,cc,cc] (.loc,NB (nm,told)) [e,f,g,cc,cc,cc,cc] :=
  dz (us:=[.str nm,.tup (told.map .str)]) (aa (aV (aB rfl) (bu (aV (aB rfl) ak ttt (aJ (bU (i:=0) ⋯))) (dW (aa (aB rfl) ah) ttt mB) ttt (cu o)) ttt (aJ D)) (aa (aG (aa (aB rfl) (aa (aB rfl) ah)) ttt B) ah)) ttt (aA (nW rfl) (aA aH aP)) (by grind)
 have N:Run (ev Γ (.Po (.Po NO [.bin .mod (.idx Nv (cI 12)) (.bi .max [cA,.bi .len [NO]])] []) [] [cA])) [e,f,g,bD (.loc,NB (nm,told)),bD (lI (dd ds 11 % 12)),cc,cc] (.own,lb five) [e,f,g,bD (.loc,NB (nm,told)),bD (lI (dd ds 11 % 12)),cc,cc]:=by
  have q:=uA (rs:=rows) (lo:=bD n) (hi:=cc) .any;rw[hk,oz]at q;have u:=uA (rs:=rows.drop k) (lo:=cc) (hi:=bD ((1:Nat):Int)) .own;rw[wF]at u;show lE (lE (aB rfl) (lD (bu (r:=(lI n)) (aV (aB rfl) ak ttt (aJ (bU (i:=12) ⋯))) (dW (aa ak (aa (dW (aa (aB rfl) ah) ttt mB) ah)) ttt (rfl)) ttt (cu j))) lC (r:=(.own,lb (rows.drop k))) ttt (by rw[hk];show q)) lC (lD ak) ttt u
 show#[w,h,a,b,ay rfl (.inr rfl) J (aw L aR (aw (G4 (i:=11) ⋯ ⋯ rfl) aR (aw N bo c)))]
end
end K
namespace TM
open PySem L2 NX
def Mt(h:Run (ev Γ e) st x st1)(a:Run (execs Γ ss) st1 f st2):Run (execs Γ (.exp e::ss)) st f st2:=fb (ae h aK) a
def Mu(d:Run (bH Γ es) st [a,b,c,(.bor j,u0)] st1)(e:bg [a,b,c,(.bor j,u0)] st1)(g:Run (cn [a,b,c]) st1 us st2)(h:st2[j]?≈bD (.own,u))(i:Γ f (us++[u])≈.ok (lT [x,w])):Run (ev Γ (.To f es)) st (.loc,x) (st2.set j (bD (.own,w))):=by
 show ae d (ae (bc e) (ae g ?_));change Ei Γ f j us st2=_;unfold Ei;simp_all
end TM
namespace K
open PySem L2 TM NX Od KL
section
variable{Γ:Tab}{names:List Str}{rows rows':List Row}{past past':List (List Row)}{r:Row}{ds:List Int}{o:Option Str}{way:Str}
abbrev lO:↑Str:=["back","book","need","by","knot","learnt","lacks","put","take","round","price","read","under","over","musts","why"]
def Mw:∀x∈lO,bE (~~~x):=λx a=>.inl (lx.mp (by rfl:lO.all (λx=>cT (~~~x))=b6) x a)
def F9(h0:0<=k)(hl:⇑names<=100):∃ws:↑Str,⇑ws=⇑names/\(∀x∈ws,bE (~~~x))/\bK Γ de [.lst (names.map .str),.int k]≈.ok (oL (ws.map .str)):=by
 have hsz:(1000:Nat)<=c8:=⋯
 have c:∀j:Nat,∃x∈lO,Oe (lO.map U.str) ((k+(0+(j:Int))) % 16)≈.str x:=λj=>rF ⋯ ⋯ ⋯;let f:Nat->Str:=λj=>Classical.choose (c j);have d:=λj=>VE (c j);let e:Sl:=bD (aL (names.map .str));let g:Sl:=bD (lI k);let S:au:=[e,g,bD (oL (lO.map .str))]
 have h:=fc (cond:=aT Γ []) (elt:=ev Γ (.idx NJ (.bin .mod (.bin .add NO Nv) (cI 16)))) (src:=[(lI (⇑names:Nat))]) (st:=S) ttt .loc (.inl rfl) _ (λj=>U.str (f j)) .loc (λ_=>fN) (ib ⇑names) [] ⋯
  (λj i=>#[aV  (aC rfl) (bu (bu (af rfl) (af rfl) ttt d5) ak ttt (cu ⋯)) ∅ (aJ (d j).2),aH])
 rw[rr,show((ib ⇑names).map λj=>U.str (f j))=((ib ⇑names).map f).map U.str by rw[i8];rfl]at h;have ln:=dW (Γ:=Γ) (st:=S) (f:=.len) (es:=[Nv]) (aa (aB rfl) ah) ttt (mB (xs:=names.map U.str));rw[ei]at ln;have ad:Run (ev Γ _) [e,g,bD (oL ((lO.take 13).map .str))] (oL (lO.map .str)) _ :=
  bu (a:=.var 2) (b:=.lst _) (aC rfl) (wO  ⋯) ∅ (iw (k:=.bor 2) (k':=.own) (by change 16<=c8;decide) rfl rfl)
 show#[_,by simp,λx c=>?_,ay rfl (.inl rfl) (rfl) (aw (wO (ss:=lO.take 13) ⋯) bo (aw ad bo (aS (b_  (aa ln ah) ttt (mC (Int.natCast_nonneg _) ⋯) h) j7)))];have(j,_,rfl):=j0.mp c;show Mw _ (d j).1
abbrev F_(Γ:Tab):Prop:=∀rs:↑Row,Bk rs->⇑(lw rs)<64/\Γ "_law_learnt" [lb rs]≈.ok (oL ((lw rs).map .str))
def Dy(h:Om 50 u=b6):bO .eq u u≈b6:=by
 erw[bO];rw[ŵ #[h,h],kM 50 u h]
def Ad(v:F_ Γ)(h:Gb rows)(c:∀r,RowW r->Γ "_law_text" [NB r]≈.ok (zS (aW r)))(y:Γ "Desk.say" [Ox rows past,.str "book"]≈.ok (lT [.str (Dl rows),Ox rows past]))(hl:Γ "Desk.say" [Ox rows past,.str "learnt"]≈.ok (lT [.str (Ra (lw rows)),Ox rows past])):
  eY Γ dZ (dZ.body.drop 1) [Ox rows past,lb rows]≈.ok (lT [.bl b6,Ox rows past]):=by
 have hsz:(1000:Nat)<=c8:=⋯
 have(I,l2):=v rows h.bk;have J:=h.bk.ln;let k:Sl:=bD (.A',Ox rows past);let g:Sl:=bD (.any,lb rows);let j:Sl:=bD (oL ((lw rows).map .str));let S:au:=[k,g,j,bD (zS (Ra (lw rows)))]
 have s:=fc (cond:=aT Γ []) (elt:=ev Γ (.call "_law_text" [Nv])) (src:=[(.any,lb rows)]) (st:=S) ttt .any (.inr rfl) NB (λr=>U.str (aW r)) .loc (λ_=>fN) rows [] (by grind) (λr l=>#[aG (aa (aB rfl) ah) ttt (c r (h.w r l)),aH]);rw[rr,show(rows.map λr=>U.str (aW r))=(rows.map aW).map U.str by rw[i8];rfl]at s;have A:=(gC (sep:=";") (n:=140) (ss:=rows.map aW) (λx c=>by
  have(r,l,rfl):=j0.mp c;show(gE (h.w r l)).2.1) rfl (by grind)).1
 have B:Run (ev Γ (.OX .join (cQ ";") [.comp 1 cK .seq [NG] [] (.call "_law_text" [Nv])])) S (zS (Dl rows)) S:=fM ak (aa (b_ (rs:=[(.any,lb rows)]) (aa (aB rfl) ah) ttt (by change bD _=_;rw[i8];rfl) s) ah) ttt (iB A);have C:=pR (Γ:=Γ) (st:=S) (i:=0) (d:=b6) (f:="Desk.say") (m:="say") (es:=[(cQ "book")]) (u0:=tb rows) (us0:=O9 past) (u:=tb rows) (us:=O9 past) rfl (aa ak ah) ttt rfl y;have D:=pR (Γ:=Γ) (st:=S) (i:=0) (d:=b6) (f:="Desk.say") (m:="say") (es:=[(cQ "learnt")]) (u0:=tb rows) (us0:=O9 past) (u:=tb rows) (us:=O9 past) rfl (aa ak ah) ttt rfl hl;have t:Run (ev Γ (.and [.cmp .eq (.QP b6 "Desk.say" "say" 0 [(cQ "book")]) _,.cmp .eq (.QP b6 "Desk.say" "say" 0 [(cQ "learnt")]) NJ])) S (bL b6) S :=
  Cv (wx (p:=b6) (q:=b6) (lA C B ttt (Dy rfl)) λ_=>v_ (lA D (af rfl) ttt (Dy rfl)))
 have G:=fM (Γ:=Γ) (st:=[k,g,j,cc]) (m:=.join) (a:=.cst (.str " ")) (es:=[NO]) ak (aa (aC rfl) ah) ∅ (iB (wJ ⋯ λx c=>G2 h c));have H:=aN (Γ:=Γ) (st:=[k,g,j,bD (zS (ri " " (lw rows)))]) (op:=.eq) (a:=.var 2) (b:=.lst []) (aC rfl) fj ∅ (j_ (b:=[]));show bI (f:=.rt .loc (.bl b6)) (st':=[g,j,bD (zS (Ra (lw rows)))]) rfl (rfl) (aw (aG (aa (aB rfl) ah) ttt l2) bo (aw G aR (aI H (λz=>?_) λz=>?_))) rfl
 .rw[Ŵ]at z;have e:Ra (lw rows)="-":=by unfold Ra;rw[ŵ z]
  show aw (st2:=S) ak ?_ (aS t bh);change Run (eX 3 (zS "-")) _ () _;rw[show S=[k,g,j,bD (zS "-")] by erw[S,e]];show aR
 .rw[Ż]at z;have e:ri " " (lw rows)=Ra (lw rows):=by unfold Ra;simp_all
  rw[e];show aS t bh
end
structure Gr(j:Nat)(rows:↑Row):Prop where
 gb:Gb rows
 ky:(rows.map keyOf).Nodup
 ln:⇑rows<=j
structure IV(j:Nat)(rows:↑Row)(past:List ↑Row):Prop where
 r:Gr j rows
 p:∀q∈past,Gr j q
 l:⇑past<=j
def Gr.up(h:Gr j rows)(hi:j<=i):Gr i rows:=#[h.gb,h.ky,qv h.ln hi]
def IV.up(h:IV j rows past):IV (j+1) rows past:=#[h.r.up ⋯,λq a=>(h.p q a).up ⋯,by have:=h.l;lia]
def IV.put(h:IV j rows past)(a:Gr (j+1) rows'):IV (j+1) rows' (past++[rows]):=by
 show#[a,λq hq=>?_,by have:=h.l;simp;lia];rcases i7.mp hq with hq|hq
 .show(h.p q hq).up ⋯
 .rw[kr.mp hq];show h.r.up ⋯
def stp(h:IV j rows past)(n:RowW r)(f:Way way)(u:j<60):∃o rows' past',Qx r rows past way o rows' past'/\IV (j+1) rows' past':=by
 rcases f with rfl|rfl|rfl
 .by_cases d:fk r=b6
  .by_cases hn:∀s∈rows,keyOf s≠keyOf r
   .show#[cc,rows++[r],past++[rows],.p d hn,h.put #[#[#[λx hx=>?_,by have:=h.r.ln;simp;lia],λx hx=>?_],?_,by have:=h.r.ln;simp;lia]]
    .rcases i7.mp hx with hx|hx
     .show h.r.gb.bk.ok x hx
     .rw[kr.mp hx];show d
    .rcases i7.mp hx with hx|hx
     .show h.r.gb.w x hx
     simp_all
    .rw[mn,mN];show#[h.r.ky,by simp,λa g b i e=>?_];have(s,hs,rfl):=j0.mp g;show hn s hs (e.trans (by exists i))
   .show#[_,_,_,.px (.inr (by exists hn)),h.up]
  .show#[_,_,_,.px (.inl (by exists d)),h.up]
 .by_cases hn:∀s∈rows,keyOf s≠keyOf r
  .show#[_,_,_,.tx hn,h.up]
  .have hn:∃s∈rows,keyOf s=keyOf r:=by exists hn
   have(s,hs,e):=hn;have(a,b,c):=List.append_of_mem hs;have hk:=h.r.ky;rw[c,mn,i6,mN,nH]at hk;have sub:∀x∈a++b,x∈rows:=λx hx=>by rw[c];simp at hx ⊢;rcases hx with z|z<;>simp[z]
   have hl:=h.r.ln;have v:⇑(a++b)<=⇑rows:=by rw[c];simp
   show#[cc,a++b,past++[rows],.t a s b c e (λx hx z=>?_) (λx hx z=>?_),h.put #[#[#[λx hx=>h.r.gb.bk.ok x (sub x hx),⋯],λx hx=>h.r.gb.w x (sub x hx)],?_,⋯]]
   .show hk.2.2 _ (B' hx) _ il (z.trans e.symm)
   .show hk.2.1.1 (by rw[e,<-z];show B' hx)
   .rw[mn,mN];show#[hk.1,hk.2.1.2,λx hx y k=>hk.2.2 x hx y (f7 _ k)]
 .rcases List.eq_nil_or_concat past with e|⟨p,rs,e⟩
  .show#[_,_,_,.bx e,h.up]
  .rw[List.concat_eq_append]at e;show#[cc,rs,p,.b p rs e,(h.p rs (by simp[e])).up ⋯,λq m=>(h.p q (by simp[e,m])).up ⋯,?_];have:=h.l
   grind
abbrev ln(way:Str)(r:Row):Str:=if way="back" then way else cH way r
structure DH(Γ:Tab):Prop where
 WJ:∀{r rows past way o rows' past'},Gb rows->Gb rows'->⇑rows<60->⇑past<=100->RowW r->Qx r rows past way o rows' past'->Γ "_law_said" [Ox rows past,.str (ln way r)]≈.ok (lT [SO o rows rows',Ox rows' past'])
 beh:∀{r rows past way o rows' past'},Bk rows->RowW r->Qx r rows past way o rows' past'->Γ "_law_behind" [.str way,NB r,lb rows,pU past]≈.ok (lT [.tup [lb rows',oU o],pU past])
 rgt:∀rows past,Gb rows->Γ "_law_right" [Ox rows past,lb rows]≈.ok (lT [.bl b6,Ox rows past])
 UJ:F_ Γ
 trn:∀K L:↑Str,WL K->WL L->Γ "_law_turn" [.lst (K.map .str),.lst (L.map .str)]≈.ok (zS (chg K L))
 txt:∀r:Row,RowW r->Γ "_law_text" [NB r]≈.ok (zS (aW r))
 ded:∀(ds:↑Int) (names:↑Str) (rows:↑Row),⇑ds=15->(∀d∈ds,0<=d)->0<⇑names->(∀x∈names,bE (~~~x))->(∀s∈rows,RowW s)->⇑rows<=100->∃way r',Way way/\RowW r'/\Γ "_law_deed" [.lst (ds.map .int),.lst (names.map .str),lb rows]≈.ok (lT [.str way,NB r'])
 cell:rE Γ
 drawn:mD Γ
abbrev LS(ns ds:↑Int)(names:↑Str)(a:Kd)(rows:↑Row)(dr:↑Row)(dp past:List ↑Row)(o6 o7 o8 o9 o10 o11 o12:Sl):au :=
 [bD (aL (ns.map .int)),bD (oL (ds.map .int)),bD (oL (names.map .str)),bD (.A',Ox dr dp),bD (a,lb rows),bD (.own,pU past),o6,o7,o8,o9,o10,o11,o12]
def WL.lw(a:F_ Γ)(h:Gb rows):WL (lw rows):=#[(a rows h.bk).1,λx b=>G2 h b]
def v4(hk:a=.own\/a=.loc):∃k,Run (ev Γ Oc) (LS ns ds names a rows dr dp past o6 o7 o8 o9 o10 o11 o12) (k,lb rows) (LS ns ds names a rows dr dp past o6 o7 o8 o9 o10 o11 o12)/\(∀rs,bg rs (LS ns ds names a rows dr dp past o6 o7 o8 o9 o10 o11 o12)->bg ((k,lb rows)::rs) (LS ns ds names a rows dr dp past o6 o7 o8 o9 o10 o11 o12))/\Run (lift (k,lb rows)) (LS ns ds names a rows dr dp past o6 o7 o8 o9 o10 o11 o12) (lb rows) (LS ns ds names .loc rows dr dp past o6 o7 o8 o9 o10 o11 o12):=by
 rcases hk with rfl|rfl
 .show#[_,aC rfl,λrs h=>#[#[.own,rfl,rfl],h],yd rfl]
 .show#[.loc,af rfl,λrs h=>h,aH]
def yl{o:↑Row}(H:DH Γ)(h:Gb rows)(hk:c=.own\/c=.loc):Run (NQ Γ (.not (.Pc "_law_right" 3 [Oc]))) (LS ns ds names c rows rows past past o6 o7 o8 o9 o10 o11 o12) cK (LS ns ds names c rows rows past past o6 o7 o8 o9 o10 o11 o12):=by
 have(k,a,b,_):=v4                hk;show tL  (JO       rfl (aa a ah) (b [] ttt) rfl (H.rgt rows past h))
abbrev lB:↑TM.S:=match ox.body.getD 7 .bad with|.Oh _ _ _ _ b=>b|_=>[]
def J7:Om 50 (SO o rows rows')=b6:=by
 cases o<;>rfl
end K
namespace TM
open PySem L2 NX
def G5:Run (d8 b6 [i,j] (lT [x,y])) st () ((st.set i (bD (.loc,x))).set j (bD (.loc,y))):=rfl
end TM
namespace K
open PySem L2 TM NX Od KL
section
variable{Γ:Tab}{names:List Str}{rows rows':List Row}{past past':List (List Row)}{r:Row}{ns ds:List Int}{o:Option Str}{way:Str}{j:Nat}{o6 o11 o12:Sl}{k4:Kd}
abbrev LT(ns ds:↑Int)(names:↑Str)(rows dr rows':↑Row)(dp past:List ↑Row)(way:Str)(r:Row)(o:Option Str)(o6 o11 o12:Sl):au:=LS ns ds names .loc rows dr dp past o6 (bD (zS way)) (bD (.loc,NB r)) (bD (.loc,lb rows')) (bD (.loc,oU o)) o11 o12
def l8(H:DH Γ)(h:Gb rows'):Run (execs Γ (lB.drop 8)) (LT ns ds names rows rows' rows' past' past' way r o o6 o11 o12) .nx (LT ns ds names rows' rows' rows' past' past' way r o o6 o11 o12) :=
 aw  (af rfl) aR (aI (yl (o:=[]) H h (.inr rfl)) (λz=>by cases z) λ_=>bC)
def Dz:Run (NQ Γ (.cmp .is (.var 10) (.cst .Nz))) (LT ns ds names rows dr rows' dp past way r o o6 o11 o12) o.isNone (LT ns ds names rows dr rows' dp past way r o o6 o11 o12):=by
 show aN (af rfl) ak ttt ?_;cases o<;>rfl
def G6:Run (NQ Γ (.cmp .eq (.var 7) (cQ "back"))) (LT ns ds names rows dr rows' dp past way r o o6 o11 o12) (df (way="back")) (LT ns ds names rows dr rows' dp past way r o o6 o11 o12):=aN (af rfl) ak ttt eJ
def l7(H:DH Γ)(h:Gb rows')(l:⇑past<=100)(st:Qx r rows past way o rows' past'):Run (execs Γ (lB.drop 7)) (LT ns ds names rows rows' rows' past' past way r o o6 o11 o12) .nx (LT ns ds names rows' rows' rows' past' past' way r o o6 o11 o12):=by
 have hsz:(1000:Nat)<=c8:=⋯
 have t:=je (ju (Dz (Γ:=Γ) (ns:=ns) (ds:=ds) (names:=names) (rows:=rows) (rows':=rows') (dr:=rows') (dp:=past') (past:=past) (way:=way) (r:=r) (o:=o) (o6:=o6) (o11:=o11) (o12:=o12)) λ_=>cV G6);have d:=Dz (Γ:=Γ) (ns:=ns) (ds:=ds) (names:=names) (rows:=rows) (rows':=rows') (dr:=rows') (dp:=past') (past:=past) (way:=way) (r:=r) (o:=o) (o6:=o6) (o11:=o11) (o12:=o12);have f:=l8 (Γ:=Γ) (ns:=ns) (ds:=ds) (names:=names) (rows:=rows)  (past':=past') (way:=way) (r:=r) (o:=o) (o6:=o6) (o11:=o11) (o12:=o12) H h;have g:∀w:Str,∀c ,Run (execs Γ (.app 5 Oc::lB.drop 8)) (LT ns ds names rows rows' rows' (past++[rows]) past w r cc o6 o11 o12) .nx (LT ns ds names rows' rows' rows' (past++[rows]) (past++[rows]) w r cc o6 o11 o12):=λw c=>by
  have e:pU (past++[rows])=.lst (past.map lb++[lb rows]):=by simp[pU]
  show tQ (k:=.own)    rfl (af rfl) aH rfl rfl (by grind) ?_;rw[<-e];show c
 cases st with
 |p _ _ =>
  show aI t (λz=>by cases z) λ_=>aI d (λ_=>g _ f) λz=>by cases z
 |t a s b _ _ _ _ =>
  show aI t (λz=>by cases z) λ_=>aI d (λ_=>g _ f) λz=>by cases z
 |b _ _ e =>
  show aI t (λ_=>Mt (L4 (i:=5) (k:=.own)  (u:=lb rows') rfl rfl ⋯) ?_) λz=>by cases z
  rw[show(past.map lb).dropLast=past'.map lb by simp_all];show f
 |_=>show aI t (λz=>by cases z) λ_=>aI d (λz=>by cases z) λ_=>f
def l6(H:DH Γ)(g:Gb rows)(h:Gb rows')(b:RowW r)(hl:⇑rows<60)(a:⇑past<=100)(st:Qx r rows past way o rows' past'):Run (execs Γ (lB.drop 6)) (LT ns ds names rows rows rows' past past way r o o6 (bD (zS (ln way r))) (bD (.loc,SO o rows rows'))) .nx (LT ns ds names rows' rows' rows' past' past' way r o o6 (bD (zS (ln way r))) (bD (.loc,SO o rows rows'))):=by
 have q:=JN  (st:=LT ns ds names rows rows rows' past past way r o o6 _ (bD (.loc,SO o rows rows'))) (i:=3)  (es:=[.var 11])       rfl (aa (af rfl) ah) ttt rfl (H.WJ g h hl a b st);have t:=aN  q (af  (i:=12)  rfl) ttt (pQ J7);show aI t (λz=>by cases z) λ_=>l7 H h a st
def l4(H:DH Γ)(g:Gb rows)(h:Gb rows')(d:RowW r)(hl:⇑rows<60)(e:⇑past<=100)(st:Qx r rows past way o rows' past'):Run (execs Γ (lB.drop 4)) (LT ns ds names rows rows rows' past past way r o o6 (bD (zS (ln way r))) o12) .nx (LT ns ds names rows' rows' rows' past' past' way r o o6 (bD (zS (ln way r))) (bD (.loc,SO o rows rows'))):=by
 have hsz:1000<=c8:=⋯
 have c:=l6  (ns:=ns) (ds:=ds) (names:=names) (o6:=o6) H g h d hl e st;have a:=Dz (Γ:=Γ) (ns:=ns) (ds:=ds) (names:=names) (rows:=rows) (rows':=rows') (dr:=rows) (dp:=past) (past:=past) (way:=way) (r:=r) (o:=o) (o6:=o6) (o11:=bD (zS (ln way r))) (o12:=bD (lT [.str "",oU o]));have b:Run (ev Γ (.tup [(cQ ""),.var 10])) (LT ns ds names rows rows rows' past past way r o o6 (bD (zS (ln way r))) o12) _ _:=dz  (aa ak (aa (af rfl) ah)) ttt (aA aH (aA aH aP)) (by change 2<=c8;lia);cases o with
 |some x=>show aw b aR (aI a (λz=>by cases z) λ_=>c)
 |none =>
  have f:=(H.UJ rows g.bk).2;have l2:=(H.UJ _ h.bk).2;show aw b aR (aI a (λ_=>aw (dz  (aa (aG (aa (aG (aa (af rfl) ah) ttt f) (aa (aG (aa (af rfl) ah) ttt l2) ah)) ttt (H.trn _ _ (WL.lw H.UJ g) (WL.lw H.UJ h))) (aa ak ah)) ttt (aA aH (aA aH aP)) (by change 2<=c8;lia)) aR c) λz=>by cases z)
def l2(H:DH Γ)(g:Gb rows)(h:Gb rows')(b:RowW r)(d:Way way)(hl:⇑rows<60)(f:⇑past<=100)(st:Qx r rows past way o rows' past'):Run (execs Γ (lB.drop 2)) (LT ns ds names rows rows rows' past past way r o o6 o11 o12) .nx (LT ns ds names rows' rows' rows' past' past' way r o o6 (bD (zS (ln way r))) (bD (.loc,SO o rows rows'))):=by
 have hsz:1000<=c8:=⋯
 have k:⇑way<=4:=by rcases d with rfl|rfl|rfl<;>decide +kernel
 have l:⇑(" ":Str)=1:=by rfl
 have i:=(gE b).2.1;have c:=l4  (ns:=ns) (ds:=ds) (names:=names) (o6:=o6) (o12:=o12) H g h b hl f st;have s1:Run (ev Γ (.bin .add (.bin .add (.var 7) (cQ " ")) (.call _ [.var 8]))) _ _ (LT ns ds names rows rows rows' past past way r o o6 o11 o12) :=
  bu (bu (af rfl) ak ttt (ft ⋯)) (aG (aa (af rfl) ah) ttt (H.txt r b)) ttt (ft (by rw[str_len];lia))
 have t:=G6 (Γ:=Γ) (ns:=ns) (ds:=ds) (names:=names) (rows:=rows) (rows':=rows') (dr:=rows) (dp:=past) (past:=past) (way:=way) (r:=r) (o:=o) (o6:=o6) (o11:=bD (zS (cH way r))) (o12:=o12);by_cases a:way="back"
 .rw[Ź a]at t;have e:ln way r=way:=by unfold ln;rw[ŵ a]
  rw[e]at c ⊢;show aw s1 aR (aI t (λ_=>aw (af rfl) aR c) λz=>by cases z)
 .rw[ŷ a]at t;have e:ln way r=cH way r:=by unfold ln;rw[Ŷ a]
  rw[e]at c ⊢;show aw s1 aR (aI t (λz=>by cases z) λ_=>c)
def l0(H:DH Γ)(hn:0<⇑names)(p:∀x∈names,bE (~~~x))(d:IV j rows past)(O:j<40)(hk:k4=.own\/k4=.loc):∃rows' past' q s t f g h,IV (j+1) rows' past' /\
  Run (execs Γ lB) (LS ns ds names k4 rows rows past past (bD (lI (0+(j:Int)))) o7 o8 o9 o10 o11 o12) .nx (LS ns ds names .loc rows' rows' past' past' (bD (lI (0+(j:Int)))) q s t f g h):=by
 have v:=d.r.ln;have Q:=d.l;let i:Sl:=bD (lI (0+(j:Int)));have(z,hz):=H.cell ns (20+j) ⋯;have(es,y,A,B):=H.drawn z 15 ⋯;have(way,r,n,m,C):=H.ded es names rows y A hn p d.r.gb.w ⋯;have(o,rows',past',st,e):=stp d m n ⋯;have D:Γ "_law_cell" [.lst (ns.map .int),.int (20+(0+(j:Int)))]≈.ok (lI z):=by
  simp_all
 have(k,G,I,_):=v4 (Γ:=Γ) (ns:=ns) (ds:=ds) (names:=names) (rows:=rows) (dr:=rows) (dp:=past) (past:=past) (o6:=i) (o7:=o7) (o8:=o8) (o9:=o9) (o10:=o10) (o11:=o11) (o12:=o12) hk;have(k',b1,J,b3):=v4 (Γ:=Γ) (ns:=ns) (ds:=ds) (names:=names) (rows:=rows) (dr:=rows) (dp:=past) (past:=past) (o6:=i) (o7:=bD (zS way)) (o8:=bD (.loc,NB r)) (o9:=o9) (o10:=o10) (o11:=o11) (o12:=o12) hk;have L:Run (ev Γ (.call "_law_deed" [.call "_law_drawn" [.call "_law_cell" [Nv,.bin .add (cI 20) (.var 6)],(cI 15)],NO,Oc])) _ (lT [.str way,NB r]) _ :=
  aG  (aa (aG (aa (aG (aa (aB rfl) (aa (bu ak (af rfl) ttt d5) ah)) ttt D) (aa ak ah)) ttt B) (aa (aC rfl) (aa G ah))) #[#[.own,rfl,rfl],I [] ttt] C
 have N:Run (ev Γ (.To "_law_behind" [.var 7,.var 8,Oc,Oq])) _ (lT [lb rows',oU o]) _ :=
  Mu (a:=(zS way)) (b:=(.loc,NB r)) (c:=(k',lb rows)) (j:=5) (u0:=pU past) (u:=pU past) (w:=pU past)  (aa (af rfl) (aa (af rfl) (aa b1 (aa (aC rfl) ah)))) (J [(.bor 5,pU past)] ∅) (aA aH (aA aH (aA b3 aP))) rfl (H.beh d.r.gb.bk m st)
 have c:=l2 (Γ:=Γ) (ns:=ns) (ds:=ds) (names:=names) (o6:=i) (o11:=o11) (o12:=o12) H d.r.gb e.r.gb m n ⋯ ⋯ st;show#[rows',past',_,_,_,_,_,_,e,CM L G5 (CM N G5 c)]
def Ga(H:DH Γ)(h:∀x∈names,bE (~~~x))(hn:0<⇑names)(hN:⇑names<=100)(hd:⇑ds=4)(h0:∀d∈ds,0<=d)(D:Γ "_law_cell" [.lst (ns.map .int),.int 0]≈.ok (lI z))(b:Γ "_law_drawn" [.int z,.int 4]≈.ok (oL (ds.map .int)))
  (G:Γ "_law_names" [.lst (ns.map .int),.int 1,.int (1+dd ds 0 % 14)]≈.ok (oL (names.map .str)))
  (c:∃ws:↑Str,⇑ws=⇑names/\(∀x∈ws,bE (~~~x))/\Γ "_law_own_words" [.lst (names.map .str),.int (dd ds 3)]≈.ok (oL (ws.map .str))) :
  bK Γ ox [.lst (ns.map .int)]≈.ok (bL b6):=by
 have hsz:(2000:Nat)<=c8:=⋯
 have v:Gb []:=#[#[by simp,by simp],by simp]
 have k:IV 0 [] []:=#[#[v,by simp,by simp],by simp,by simp]
 have n0:=fP h0 1;let n:Nat:=(dd ds 1 % 31).toNat;have SM:dd ds 1 % 31=(n:Int):=⋯
 have w:n<31:=⋯
 have a:∀nm:↑Str,0<⇑nm->(∀x∈nm,bE (~~~x))->∃st',Run (execs Γ (ox.body.drop 3)) [bD (aL (ns.map .int)),bD (oL (ds.map .int)),bD (oL (nm.map .str)),cc,cc,cc,cc,cc,cc,cc,cc,cc,cc] (.rt .loc (.bl b6)) st':=λnm hn h=>by
  have(st',I,_):=gq (t:=cK) (is:=[6]) (body:=execs Γ lB) (rs:=[(lI (dd ds 1 % 31))]) (λi:Nat=>(lI (0+(i:Int))))
   (λd y st=>d++y=ib n/\∃k4 rows past o6 o7 o8 o9 o10 o11 o12,(k4=Kd.own\/k4=Kd.loc)/\IV ⇑d rows past/\st=LS ns ds nm k4 rows rows past past o6 o7 o8 o9 o10 o11 o12) (λ_ _ _ _=>ttt) (λd i y st J=>by
    have(b,k4,rows,past,o6,o7,o8,o9,o10,o11,o12,hk,L,e):=J;subst e;have m:=ż N3 b;simp at m;have hi:i=⇑d:=by
     have:=ż (λl=>l[⇑d]?) b;simp at this;rw[XM ⋯]at this;show vu this
    subst hi;have(rows',past',N,O,Q,p,s,u,T,run):=l0 (Γ:=Γ) (ns:=ns) (ds:=ds) (o7:=o7) (o8:=o8) (o9:=o9) (o10:=o10) (o11:=o11) (o12:=o12) H hn h L ⋯ hk;show#[LS ns ds nm k4 rows rows past past (bD (lI (0+(⇑d:Int)))) o7 o8 o9 o10 o11 o12,_,iq aR,run,by rw[<-b];simp,.loc,rows',past',_,N,O,Q,p,s,u,.inr rfl,by simp_all,rfl]) (ib n) [] (LS ns ds nm .own [] [] [] [] cc cc cc cc cc cc cc) ⟨rfl,.own,[],[],cc,cc,cc,cc,cc,cc,cc,.inl rfl,k,rfl⟩
  show#[st',JR (aw fj bo (aw fj bo (aI (yl (o:=[]) (rows:=[]) (past:=[]) H v (.inl rfl)) (λz=>by cases z) λ_=>ip (aa (bu (aV (aC rfl) ak ∅ (aJ (bU (i:=1) ⋯))) ak ttt (cu ⋯)) ah) ttt (mC (z:=dd ds 1 % 31) ⋯ ⋯) rfl I (aS ak bh))))]
 let f:au:=[bD (aL (ns.map .int)),cc,cc,cc,cc,cc,cc,cc,cc,cc,cc,cc,cc]
 have s1:Run (ev Γ (.call "_law_drawn" [.call "_law_cell" [Nv,cO],(cI 4)])) f (oL (ds.map .int)) f:=aG (aa (aG (aa (aB rfl) (aa ak ah)) ttt D) (aa ak ah)) ttt b;let A:au:=[bD (aL (ns.map .int)),bD (oL (ds.map .int)),cc,cc,cc,cc,cc,cc,cc,cc,cc,cc,cc]
 have B:Run (ev Γ (.call "_law_names" [Nv,cA,.bin .add cA (.bin .mod (.idx NG cO) (cI 14))])) A (oL (names.map .str)) A:=aG (aa (aB rfl) (aa ak (aa (bu ak (bu (aV (aC rfl) ak ∅ (aJ (bU (i:=0) ⋯))) ak ttt (cu ⋯)) ttt d5) ah))) ttt G;let C:au:=[bD (aL (ns.map .int)),bD (oL (ds.map .int)),bD (oL (names.map .str)),cc,cc,cc,cc,cc,cc,cc,cc,cc,cc]
 have g:Run (NQ Γ (.cmp .eq (.bin .mod (.idx NG (cI 2)) (cI 6)) cA)) C (dd ds 2 % 6==1) C:=aN (bu (aV (aC rfl) ak ∅ (aJ (bU (i:=2) ⋯))) ak ttt (cu ⋯)) ak ttt (gp rfl);have(ws,w1,Y,w3):=c;cases q:(dd ds 2 % 6==1) with
 |true =>
  rw[q]at g;have(st',run):=a ws ⋯ Y;show ay rfl (.inr rfl) (show TM.start [.lst (ns.map .int)] 13=f from rfl) (aw s1 bo (aw B bo (aI g (λ_=>aw (aG (aa (aC rfl) (aa (aV (aC rfl) ak ∅ (aJ (bU (i:=3) ⋯))) ah)) ∅ w3) bo run) λz=>by cases z)))
 |false =>
  rw[q]at g;have(st',run):=a names hn h;show ay rfl (.inr rfl) (show TM.start [.lst (ns.map .int)] 13=f from rfl) (aw s1 bo (aw B bo (aI g (λz=>by cases z) λ_=>run)))
end
end K
namespace TM
open PySem L2
def Ae(h:NW Pg x fn)(us)(a:fn.ob=cc)(hi:fn.io≈p):N7 Pg (d+1) x us=runN (N7 Pg d) fn p.2 us:=by
 change(match Pg.find? λg=>decide _ with|some fn=>iT _ fn us|none=>cc)=_;rw[h];change iT _ fn us=_;unfold iT;rw[a,hi]
end TM
namespace K
open PySem L2 TM NX Od KL
def makers:CJ prog:=#[rfl,rfl,rfl,rfl,rfl,rfl]
def UJ:Lrn prog:=#[rfl,rfl,rfl,rfl,rfl]
def lok(n):LOk (N7 prog (n+5)) "learnt":=λrs h=>by
 have(f,a,b,c):=FQ UJ n (λr d=>mI (h.ok r d)) (λr d=>CY (h.ok r d)) h.ln;have e:=G0 (Kn.of a);rw[e];show#[?_,(ax (show NW prog "learnt" _ from rfl) _).trans (KL.jA ⋯ c)];rw[(di _).length_eq,ei];lia
def Af(n):F_ (N7 prog (n+1)):=λrs h=>by
 have(L,l,a,b,c,d):=K.jA  (λr f=>mI (h.ok r f)) h.ln;have e:=G0 #[a,b,c];rw[e];show#[?_,(ax (show NW prog "_law_learnt" _ from rfl) _).trans d];rw[(di _).length_eq];show l
def Nq(n):∀a b,Bk a->Bk b->N7 prog (n+6) "gained_and_lost" [tb a,tb b]≈.ok (.loc,QW a b):=λa b c d=>(ax (show NW prog "gained_and_lost" _ from rfl) _).trans (JW (lok n) c d)
def sht(n):ShT (N7 prog (n+7)):=λrs a p h h'=>(br (show NW prog "Shelf.turn_to" _ from rfl) _ rfl).trans (C8 (Nq n) h h')
def shd(n):ShD (N7 prog (n+8)):=λrs b p h h' a=>(br (show NW prog "Shelf.do_deed" _ from rfl) _ rfl).trans (C9 (sht n) h h' a)
def XF(n):Vo (N7 prog (n+3)):=λrs r h a=>(ax (show NW prog "places_alike" _ from rfl) _).trans (K.jz (λr s b c=>(ax (show NW prog "alike" _ from rfl) _).trans (zT (λr h=>(ax (show NW prog "in_one_order" _ from rfl) _).trans (FU h)) b c)) h a)
def oE(d):gz (N7 prog (d+2)) "is_word":=λx h=>(ax (show NW prog "is_word" _ from rfl) _).trans (C4 (λx a=>(ax (show NW prog "is_stem" _ from rfl) _).trans (CZ a)) (λy=>(ax (show NW prog "is_later_sense" _ from rfl) _).trans zQ)
 (λx hl=>(ax (show NW prog "stem_of" _ from rfl) _).trans (C2 rfl hl rfl)) (λx hl=>(ax (show NW prog "number_of" _ from rfl) _).trans (C2 rfl hl rfl)) h)
def rws(n):rQ (N7 prog (n+3)):=λr h=>(ax (show NW prog "is_row" _ from rfl) _).trans (FT (oE n) h)
def Mx(n):FY (N7 prog (n+6)):=λa b c d=>(ax (show NW prog "shown_changes" _ from rfl) _).trans (ui (WL.lw (Af 0) c) (WL.lw (Af 0) d))
def Nr(n)(h:RowW r):N7 prog (n+4) "read_row" [.str (aW r)]≈.ok (.loc,NB r):=(ax (show NW prog "read_row" _ from rfl) _).trans (Dk (oE _) h ((ax (show NW prog "read_told" _ from rfl) _).trans (zY (oE n) h)))
def G7(h:RowW r):Rw r:=#[by have:=h.Qg;lia,by rw[len_list];have:=h.w1.len;lia,λx a=>by rw[len_list];have:=(h.w2 x a).len;lia]
def Nt(n)(j:Gb rows)(g:Gb rows')(hl:⇑rows<60)(l:⇑past<=100)(d:RowW r)(st:Qx r rows past way o rows' past'):N7 prog (n+11) "Desk.say" [Ox rows past,.str (ln way r)]=R6 o rows rows' past':=by
 have i:∀{way:Str},(way="put"\/way="take")->(N7 prog (n+9)) _ _=R3 o rows rows' past'->N7 prog (n+11) "Desk.say" [Ox rows past,.str (ln way r)]=R6 o rows rows' past':=λ{way} k h=>by
  have e:ln way r=cH way r:=by
   unfold ln;rw[Ŷ (by rcases k with rfl|rfl<;>decide)]
  rw[e];show(br (show NW prog "Desk.say" c_ from rfl) _ rfl).trans (F0 k d (Nr (n+6) d) ((br (show NW prog "Desk.say_deed" da from rfl) _ rfl).trans (Dn k (Mx (n+3)) j g h)))
 have m:(N7 prog (n+10)) "Shelf.back" [Oj rows past]=R3 o rows rows' past'->N7 prog (n+11) "Desk.say" [Ox rows past,.str (ln "back" r)]=R6 o rows rows' past':=λh=>(br (show NW prog "Desk.say" c_ from rfl) _ rfl).trans (Dr (Mx (n+4)) j g h);have bk:=j.bk;cases st with
 |p c f=>show i (.inl rfl) ((br (show NW prog "Shelf.put" dY from rfl) _ rfl).trans (FX (XF (n+5)) (rws (n+5)) (shd n) bk (G7 d) c f hl l))
 |px c=>show i (.inl rfl) ((br (show NW prog "Shelf.put" dY from rfl) _ rfl).trans (Df (XF (n+5)) (rws (n+5)) bk (G7 d) c))
 |t a s b c f q u =>
  subst c;have e:s.1=r.1:=(Prod.mk.inj f).1;have:=Dg (Γ:=N7 prog (n+8)) (r:=s) (a:=a) (b:=b) (ts:=r.2) (past:=past) (XF (n+5)) (shd n) bk g.bk (by rw[e];show f.symm) (by have:=d.Qg;lia) (by rw[f];show q) l;rw[e]at this;show i (.inr rfl) ((br (show NW prog "Shelf.take" du from rfl) _ rfl).trans this)
 |tx c=>show i (.inr rfl) ((br (show NW prog "Shelf.take" du from rfl) _ rfl).trans (zU (XF (n+5)) bk (by have:=d.Qg;lia) c))
 |b _ _ c =>
  subst c;show m ((br (show NW prog "Shelf.back" dw from rfl) _ rfl).trans (Dd (sht (n+2)) bk g.bk))
 |bx c =>
  subst c;show m ((br (show NW prog "Shelf.back" dw from rfl) _ rfl).trans (zV rows))
def My(n){line a:Str}(b:32∉(~~~line))(c:10∉(~~~line))(hl:⇑line<=1000)(d:line≠"back")(e:N7 prog (n+10) "answer_at_large" [tb rows,.str line]≈.ok (zS a)):N7 prog (n+11) "Desk.say" [Ox rows past,.str line]≈.ok (lT [.str a,Ox rows past]) :=
 (br (show NW prog "Desk.say" _ from rfl) _ rfl).trans (Dt (NX.iH b) c hl d ((br (show NW prog "Shelf.book" _ from rfl) _ rfl).trans C_) e)
def dh(n):DH (N7 prog (n+12)) where
 WJ:=λi j hl k h st=>(br (show NW prog "_law_said" fh from rfl) _ rfl).trans (Du (λc e=>by cases st<;>cases e<;>decide) (Nt n i j hl k h st))
 beh:=λl h st=>(Ae (show NW prog "_law_behind" bp from rfl) _ rfl rfl).trans (wM (λrs x a b c=>(ax (show NW prog "_law_there" fu from rfl) _).trans (Ab a b c)) l h st)
 rgt:=λrows past g=>(br (show NW prog "_law_right" dZ from rfl) _ rfl).trans (Ad (Af (n+10)) g (λr h=>(ax (show NW prog "_law_text" ff from rfl) _).trans (pY h))
  (My n (by decide +kernel) (by decide +kernel) (by decide +kernel) ⋯ ((ax (show NW prog "answer_at_large" aY from rfl) _).trans (Aa ((ax (show NW prog "shown" mH from rfl) _).trans (z9 g.w g.bk.ln λr h=>(ax (show NW prog "shown_told" eN from rfl) _).trans (zZ (g.w r h)))) g)))
  (My n (by decide +kernel) (by decide +kernel) (by decide +kernel) ⋯ ((ax (show NW prog "answer_at_large" aY from rfl) _).trans (wL (lok (n+4)) g ((ax (show NW prog "listed" kf from rfl) _).trans (wK (WL.lw (Af 0) g).ln (WL.lw (Af 0) g).w))))))
 UJ:=Af (n+11)
 trn:=λK L m o=>(ax (show NW prog "_law_turn" gy from rfl) _).trans (z_ m o)
 txt:=λr h=>(ax (show NW prog "_law_text" ff from rfl) _).trans (pY h)
 ded:=λds names rows a b c d e f=>by
  have(w,r,x,y,z):=Ac  (JF makers.told) a b c d e f;show#[w,r,x,y,(ax (show NW prog "_law_deed" fg from rfl) _).trans z]
 cell:=makers.oi
 drawn:=makers.drawnOk
def pure(ns)(i:⇑ns<=63):N7 prog 13 "law" [FC ns]≈.ok (bL b6):=by
 have(z,hz):=makers.oi ns 0 ⋯;have(ds,c,a,d):=makers.drawnOk z 4 ⋯;have(names,j,l,e,b):=makers.namesOk ns 1 (1+dd ds 0 % 14).toNat ⋯ ⋯;rw[XQ ⋯]at b;have(ws,f,g,h):=F9  (names:=names) (k:=dd ds 3) (fP a 3) ⋯;show(ax (show NW prog "law" ox from rfl) _).trans (Ga (dh 0) e ⋯ ⋯ c a hz d b #[ws,f,g,(ax (show NW prog "_law_own_words" de from rfl) _).trans h])
end K
namespace K
open PySem L2 TM PySem.W PyProof.Rows
abbrev mz(z:Mz)(f:Fn):Me:=#[f,z.x,z.i,z.N,z.a,z.c,z.m,z.cr]
abbrev ml:Me:=mz zl ox
abbrev ms:↑Me:=List.zipWith mz zs [kP,dN,kQ,pS,lJ,oo,dA,mG,dM,bt,dq,bF,gr,iz,jB,iA,fe,dB,lK,iR,dY,du,dw,eL,eM,mH,eN,kf,eh,aY,lL,c_,da,pT,oq,lM,ot,lN,ou,gw,fu,ff,gy,fg,bp,fh,dZ,de,ox]
abbrev hk:Hook:=kHook (λP=>Ov top (gx P) ms) (adr ms xa) λP=>xU top (gx P) ms xa rfl
def hz1:hk.obs=λs=>aZ.map s.heap.get?:=by kernel_rfl
def hz2(w):hk.val w=(fZ (gx w.params)).map λp=>bD p.2:=by kernel_rfl
def hl:LeftO PySem.Challenge.rw_primer_k71_deeds_at_the_desk.row.prog vw TC xt hk.obs hk.val 5000:=λw=>by
 have(s,e,a):=g7.mp (QX w);have b:=Qy w;have c:=UK w;have d:=hl4 w;rw[e]at b c d;have c:=vu c;rw[J8 e,hz1,hz2];show ż bD (VG (VG a (VG (ż (·.1) c) (VG (vu b) (VG (vu d) (ż (·.2.1) c))))) (ż (·.2.2) c))
def ho(P:YI):RF ck top (Ov top (gx P) ms) ms=b6:=by kernel_rfl
def hox(P:YI):((gX ck (Ov top (gx P) ms)&&gY ck (Ov top (gx P) ms))&&shB top (Ov top (gx P) ms) ms)=b6:=by kernel_rfl
end K
open PySem PySem.W PyProof.Rows K
theorem PySem.Challenge.cw_primer_k71_deeds_at_the_desk_holds : PySem.Challenge.rw_primer_k71_deeds_at_the_desk.Holds := by
 w_on
 refine holds_law hs λz => ?_;refine holds_open hl hk.of hk.keeps (λs e => xl_of s (oa.mp e).1) XL.keeps rfl rfl rfl (λs e => recFacts_of (oa.mp e).2) rfl z (by kernel_rfl) ⟨rfl, rfl, rfl, rfl, rfl, by decide +kernel⟩ ?hw ?a
 (case hw => w_witness2)
 exact TM.walk2 (l := PySem.Challenge.rw_primer_k71_deeds_at_the_desk) (Pg := prog) (ck := ck) (dp := 12) (x := "_law_script") (m := ml) rfl rfl ⟨rfl, by decide, by decide, rfl⟩ rfl (by decide +kernel) (by decide +kernel) rfl rfl (Ì.mpr ⟨48, rfl⟩) rfl rfl rfl ho hox (λ_ => rfl) K.pure
