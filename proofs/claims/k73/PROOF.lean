import PyProof.Rows.All
import OpenK.AllK
import PyProof.StrLawsChain
import PyProof.StrLawsFirst
import PyProof.Rows.StrNews2
import PyProof.DictItems
import PyProof.MeetsStr2
import PyProof.EqAt
import PyProof.EqKinds
import PyProof.StationsW
import PyProof.ExcBaseAll.ValueError
import PyProof.RulesAs
import PyProof.NsDelKeeps
import PyProof.ExcArgsOwn
import PyProof.ExcAttrAll.ValueError
import PyProof.IsiBase
import PyProof.StrCalls6
import PyProof.IsiNone
import PyProof.ToksMono
import PyProof.ReprBulk
import PyProof.StrLawsReplace
import PySem.Challenge.RW_primer_k73_refused_at_the_desk
set_option Elab.async false
set_option linter.all false
set_option bootstrap.genMatcherCode false
set_option maxRecDepth 100000
set_option maxHeartbeats 4000000
set_option genInjectivity false
set_option genSizeOf false
set_option autoImplicit true
set_option relaxedAutoImplicit true
open Option renaming some->b6,none->ef,map_eq_some_iff->i0,bind_eq_some_iff->mx,isSome_iff_exists->VL,ite_none_right_eq_some->Wu,isNone_iff_eq_none->Ã,map_eq_none_iff->Ø,isSome_map->Ĉ,getD_none->ζ,map_some->ύ
open PySem renaming wpAny_bind->cb,sizeLine->ei,wpAny_pure->eT,wpAny->gi,model->i5,Value->i7,starEach->j0,Addr->ke,Shared->kj,mainGlobals->kr,wpAny_mono->mu,Expr->nS,wpAny_newObj_type->ti,wpAny_Call_Name_kw->tj,eval->uv,wpAny_call_entry->wh,rawInt->y4,Program->DD,bootBuiltins->H8,wpAny_holding->K',wpAny_field->LF,wpAny_setField->O',wpAny_setState_of->Pq,wpAny_callSpecial?_slot->Pr,backTo->QX,World->Q1,wpAny_truthy_bool->RM,Stmt->RO,codeAny_builtin->RS,Scope->R0,Heap->Te,wpAny_of_eq->TH,compareOp->TY,wpAny_isInstance->Ve,cLine->VC,holding->VE,cellsFrom->V9,keywordEach->V',foldedSetIterable->Wd,Builtin->Wg,attributeBase->Wk,call->WH,swapsWith->WQ,scanBound->WS,wpAny_rule->Xq,sysModules->Xr,wpAny_updateSeq->XN,wpAny_specialOf->XO,wpAny_passesOwn->XQ,codeAny->Ya,Keyword->Yn,typeIs_str->YJ,binaryOp->YK,pyNext->YW,Around->Y3,plainId_quiet->Y6,wpAny_execs_nil->Y8,wpAny_pyIter_tuple->Za,tupleKind_room_in1->Zd,wpAny_getItem_str_slice->Zk,wpAny_typeOf->Zx,codeAny_mono->Zy,backToKw->ZC,wpAny_askSetting->ZV,call_meets->ZW,assignEach->ZY,JoinOk->ZZ,wpAny_attempt->À,behindInMarks->Á,call_isinstance->Æ,getItem->Ê,pushCells->Î,isSubtype->Ï,typeLookup->Ô,wpAny_loadPart_at->à,sliceBounds->á,notedBy->â,signature?_of->æ,assign->ç,relayAll->î,compEnvC->ï,FuncData->ð,wpAny_Call_method_late->ô,setItem->õ,relabel->ö,callerA->ø,wpAny_loadPart'->ü,post_val_or_str->ý,letOwnedTupleGo->þ,wpAny_isTrue_Compare1->Ā,builtinLookup_eq_fast->ā,wpAny_seqItems->Ċ,setField->ċ,pyIter->Č,entryFor_alias->č,entryFor->Ď,codeAny_extend_loopS->ď,codeAny_call_builtin->Đ,argsOk->đ,IsPart->Ē,treeTable->Ĕ,standAt->ĕ,wpAny_setEntries_of->Ě,wpAny_Tuple_spliced->ě,swapsWithSole->ģ,Params->Į,wpAny_pyIter_slot->ĺ,wpAny_pyIter_list->Ļ,wpAny_pyIter_enum->ļ,wpAny_Return_some->Ľ,sub_set_self->ľ,release->Ŀ,concat_meets->Ł,wpAny_execs_cons->ŉ,updateSeq->Ŋ,tupleKind->ŋ,noFill_tuple_add->Ō,entryFor_of_tree->ō,PassesOwn->ŏ,subscripted->Ŕ,typeLookup_type->ř,step->Ś,pushCells_keeps->ś,codeAny_of_tree->Ŝ,valueAt->Ţ,wpAny_runValue->Ŧ,wpAny_call->ŧ,wpAny_Expr_any->Ũ,isSubtype_type->ũ,isSubtype_stop->Ū,firstArgMember->ū,GenState->Ų,wpAny_standAt->ſ,wpAny_newList->Α,wpAny_handled->Β,wpAny_comprehension_free->Δ,swappedStores->Ε,seq_tuple_add->Ζ,strValues->Χ,pickOrder->Ψ,atKey->Ω,typeOf->μ,setNextDrawn->ν,collect->ξ,call_meetsIn->ο,IsEnum->υ,BindsTo->ω,wpAny_throw->ϖ,wpAny_alloc->ϗ,table->Ϙ,seqIndex_of->ϙ,raiseNew->Ϛ,bindL->ϛ,bindC->Ϝ,Operator->ϝ,NameKind->Ϟ,wpAny_load->ϴ,wpAny_Name->ϵ,wpAny_List_spliced->Ϸ,setAdd->ϸ,builtinsNs->Ϲ,WalksS->Ϻ,Slot->ϻ,wpAny_storeSet_of->aai,wpAny_setEpoch_of->aaj,wpAny_sequenceKey->aak,wpAny_assign_Name->aal,fits_of_scanBound->aam,wpAny_eqBool_str->aau,wpAny_eqBool_int->aav,checkBuiltinCall->aaw
open Bool renaming true->c4,false->df,and_eq_true->dt,eq_iff_iff->so,not_eq_true'->td,false_ne_true->tv,and_eq_true_iff->ve,false_eq_true->U3,or_eq_true->W9,and_false->X',not_eq_false'->Å,not_and->å,or_eq_false_iff->ó,or_true->ę,or_false->Ř,or_eq_true_iff->Φ,false_and->ϳ,not_true->aag,and_comm->aah
open PySem.Heap renaming get?_push_of_some->et,get?_push_size->gj,lt_size->i8,get?_update_self->sx,SameBut->Hf,get?_update_other->PF,size_push->XY,get?_update_ne->YG,ExtBut->į
open Decidable renaming decide->eL
open List renaming length_map->f7,mem_cons->gb,getElem?_eq_some_iff->gr,mem_cons_of_mem->ib,getElem?_set_self->i4,range->i9,mem_cons_self->ki,getElem?_set_ne->ko,map_map->k9,map_cons->lx,length_cons->l0,mem_map->mn,mem_append->my,mem_singleton->mN,length_append->nc,all_eq_true->nH,mem_append_right->oD,replicate->pz,getElem?_map->ri,map_append->ro,size_toArray->rS,mem_range->uk,mem_of_getElem?->va,nodup_cons->vl,getElem?_append_right->vu,nil_append->z8,nodup_append->C0,getElem?_append_left->K0,lookup_cons->LS,isEmpty_iff->M',append_nil->P',getElem_mem->Qx,cons_ne_nil->QC,any_eq_true->QL,append_assoc->RA,length_take->R_,getElem?_eq_getElem->Sk,mem_append_left->S0,eq_nil_of_length_eq_zero->Td,filter_eq_nil_iff->Ud,getElem?_drop->U2,mem_of_mem_take->VV,mem_map_of_mem->Wh,filterMap_cons->Wi,ext_getElem->Wj,lookup->WO,mem_filter->W4,take_append_drop->Xf,take_sublist->XC,map_nil->YF,map_congr_left->YH,mem_filterMap->YV,length->Y4,getElem?_replicate->Y5,take_of_length_le->Y_,length_range->Y',not_mem_nil->Zn,length_drop->Zo,getD->Zu,of_mem_zip->ZR,getElem_of_mem->Z',pairwise_cons->Ä,drop_eq_getElem_cons->É,reverse_cons->Í,isEmpty_map->Ù,length_eq_one_iff->ä,length_replicate->ì,nodup_nil->ñ,mem_iff_getElem->ò,zip_cons_cons->ĉ,flatten_cons->Ė,any_eq_false->ė,all_map->Ę,take_length->ĩ,cons_append->Ī,length_zip->ĵ,length_nil->Ķ,foldl_cons->ķ,filter_nil->ĸ,drop_left'->Ĺ,sum_cons->Ŗ,getElem?_take_of_lt->ŗ,length_eq_zero_iff->š,length_filter_le->ŷ,getElem?_eq_none->Ÿ,mem_erase_of_ne->Ž,getElem?_zipIdx->ž,length_reverse->Τ,getElem?_range->Υ,getElem_range->η,count_eq_zero->θ,ext_getElem?->ώ,drop_sublist->Ϗ,mem_flatten->ϑ,map_fst_zip->ϒ,getElem_inj->ϓ,drop_length->ϔ,length_set->Ϫ,forIn_cons->ϫ,filter_map->Ϭ,take_succ->ϰ,forIn_nil->ϱ,findIdx?->aae,any_cons->aaf,map_id->aaD
open PySem.PyData renaming keyHash->gn
open Nat renaming le_refl->gs,ne_of_lt->ku,lt_of_lt_of_le->lg,zero_le->mh,le_trans->pe,lt_irrefl->y0,ne_of_gt->Sv,le_of_lt->Ue,lt_succ_self->Wv,lt_succ_of_lt->XE,le_succ->ZP,le_of_eq->ë,pos_of_ne_zero->ē,zero_add->Ġ,lt_trans->ġ,mod_lt->œ,succ_le_succ->Ϩ,not_lt_of_lt->ϩ,add_le_add->aad
open PySem.Txt renaming partition->kb,split->rD,join->Ds,replace->Ĵ,endswith->aay
open PySem.Value renaming ref->rr,none->tp,str->Rt,type->Ug,builtin->Ë,bool->Ú,isStrOf->ÿ,isStrOf_shape->ź,int->ρ,isInt->aan,float->aao,bytes->aap
open Ne renaming symm->sg
open Array renaming length_toList->sP,getElem?_eq_some_iff->Up,getElem?_toList->Xe,toList_append->û,getElem?_eq_getElem->ň,toArray_toList->Ź,toList_push->ι
open PySem.Obj renaming mapSeq->tr,data_mapFields->La,isFreed_of_fields->U9,cls_mapFields->Ze,mapFields->Õ,putSet->é
open Sum renaming inr->tA,inl->ť
open PySem.Calls renaming spliced_cons->vr,spliced_nil->Q9,evalArgs_plain->Sq,callWith_builtin->TQ,Constant_str->Â,Name_function_global->ń,call_function_entry->Ņ
open PySem.Builtin.List renaming listExtendWith->y6,listLengthHint->P7,listTooLong->RK,listSameRef->XD,listItems->ĥ,listUpdate->aaG,listFitsIndex->aaH
open PySem.Str renaming empty->B',length->è,ofString->Ĝ,join->Θ
open PySem.Heap.SameBut renaming update->KD,refl->Ő
open PyProof.Rows renaming slot_tuple_getitem->Od,seqObj->RB,callWith_type1->Sy,callWith_builtin1->VA,size_push'->Xy,StrsAre->Ì,AllBare->ã,listUpdate_at->Ħ,joinOk_of->ħ,IsTup->Ĩ,envOfC->Ĳ,Subscript_->Ŷ,subscriptTail_builtinR->ϊ,listItems_at->ϋ,IntsAre->ό,seqEpoch_at->ϧ,sortedHeap->aab,args_tuple_getitem->aac,call_isinstance_yes->aaI
open PySem.Builtin.Str renaming occurrences->Pe,strSliceIndices->Zl,partsBetween->Z0,strKind->ņ,glued->ŕ
open Option.some renaming inj->R'
open False renaming elim->Uo
open PySem.StrLaws renaming sliceText->Vf,glued_eq_join->Û,split_free->Ů,join_split->ů,strSub_toList->Η
open PySem.NameKind renaming free->Vx,cell->WJ
open PySem.W renaming OpenLaw->VJ,kas_sort->ZF,openGood->Ŭ,nsIn->ŭ,looks_findIn->π
open PySem.SetTable renaming grown->V5,below->YL,orStandIn->ţ,layClean->ű,relaid->Ι,laid->τ
open Int renaming eq_ofNat_of_zero_le->WD,toNat_natCast->Zj,emod_lt_of_pos->Ç,emod_nonneg->í,toNat_of_nonneg->Ą,natCast_add->ϲ,zero_add->aaF
open PySem.Builtin.Slice renaming slicePlaces->WT,sliceAdjust->ZK,sliceApplied->ă,slicePartIndex->aaz,sliceFields->aaA
open PyProof.Rows.F renaming plain_set_update_loop->WU,entry_set_update_loop->Ñ
open PySem.Builtin.Tuple renaming tupleExact->Xs,tupleItemsOf->Ă
open PySem.AutoSeq1 renaming wpAny_loadPart'->Yp,idx_int->ż
open PySem.Builtin.SmallTypes renaming nextOf->Y9
open PySem.Around renaming under_plainId->Zm,under->ć
open PySem.Expr.Name renaming elim->ZL
open LT renaming lt->ZS
open PySem.Shared renaming TypeIs->È
open PySem.Expr.Attribute renaming elim->Ð
open List.cons renaming injEq->Ò
open ForInStep renaming yield->Ó
open Prod renaming ext->Ö
open PySem.SeqAt renaming EqAt->Ü,ne_of_list_tuple->Ş,RcAt->Κ,RcNeAt->aaa
open PySem.Expr.List renaming elim->Ý
open PySem.Expr.Constant renaming elim->Þ
open True renaming intro->ß
open PySem.Builtin.Frozenset renaming difference->ê,sizeOf->ú,updateFrom->Ϡ,unchanged->ϡ,slot0->Ϣ,newClass->ϣ,isAnySet->Ϥ,baseOf->ϥ,addrOf->Ϧ
open PySem.Stmt.Return renaming elim->ù
open PySem.Expr.Tuple renaming elim->ą
open PySem.Code renaming quiet_builtin->Ć,frames->Ż,isGuard->aas,isFrame->aat
open PySem.Stmt.Expr renaming elim->ĝ
open PySem.F renaming args_str_split_2->Ğ,entry_str_split->İ,slot_str_split->ł,slot_gs_get->ų,typeOf_object_class->ε,excBase_ValueError->χ,args_list_extend_2->ψ,entry_list_extend->ϐ,slot_list_extend->ϟ,attr_ValueError->ϭ
open PyProof.Rows.IsTup renaming new->ğ
open Iff renaming rfl->Ģ
open PySem.Moved renaming trans->Ĥ,refl->Λ
open List.Sublist renaming length_le->ī,count_le->ĳ
open Classical renaming byContradiction->Ĭ,choose_spec->Ň
open PySem.Stmt.AugAssign renaming elim->ĭ
open PySem.Expr.Subscript renaming elim->ı
open PySem.pickOrder renaming go->ŀ
open PySem.Expr.ListComp renaming elim->Ń
open PySem.Stmt.If renaming elim->Ŏ
open PySem.Expr.UnaryOp renaming elim->ő
open PySem.Expr.Compare renaming elim->Œ
open PySem.Stmt.Assign renaming elim->ŝ
open PySem.ItemsOf renaming nil->ş
open PySem.Expr.BoolOp renaming elim->Š
open PySem.PassesOwn renaming leaving->Ť
open PySem.Stmt.While renaming elim->Ű
open PySem.Expr.Slice renaming elim->Ŵ
open PySem.Expr.BinOp renaming elim->ŵ
open PySem.Manifest renaming owners->Μ
open PySem.Expr.Dict renaming elim->Ν
open PySem.Expr.Call renaming elim->Ξ
open PySem.Const.str renaming elim->Ο
open PySem.Const.int renaming elim->Ρ
open PySem.Stmt.For renaming elim->ς
open String renaming ofList->ϕ
open PyProof.Rows.LSm renaming range_all->Ϯ,kept_iter->ϯ
open PySem.SetTable.below renaming go->aaq
open PySem.Heap.IsSliceOf renaming new->aar
open PySem.Walks renaming list->aax
open PySem.Builtin.Range renaming rangeSize->aaB
open PUnit renaming unit->aaC
open List.Pairwise renaming nil->aaE
local macro_rules|`(def $a:declId $b:optDeclSig $c:declVal)=>`(noncomputable def $a:declId $b:optDeclSig $c:declVal)
local macro_rules|`(def $a:declId $b* : $t :=$v)=>do let k:=t.raw;let u:=k.getKind;if k.isIdent||u==`Lean.Parser.Term.prop||u==`num||u==`coeNotation||u==`Lean.Parser.Term.app&&(k[0].getId==`M||k[0].getId==`Option||k[0].getKind==`num)then Lean.Macro.throwUnsupported else`(theorem $a:declId $b* : $t :=$v)
local macro_rules|`(abbrev $a:declId $b:optDeclSig $c:declVal)=>`(@[reducible]noncomputable def $a:declId $b:optDeclSig $c:declVal)
local macro_rules|`(tactic|show $t)=>`(tactic|refine $t)
local macro_rules|`(tactic|let $d:letDecl)=>`(tactic|have $d:letDecl)
local macro_rules|`(tactic|let⟨$a⟩:=$t)=>do let p<-`(Lean.Parser.Tactic.rcasesPatLo|$(⟨a⟩):ident);`(tactic|obtain⟨$p⟩:=$t)
local macro_rules|`(tactic|let($a,$b,*):=$t)=>do let g:=fun(x:Lean.Term)=>if x.raw.isIdent then`(Lean.Parser.Tactic.rcasesPatLo|$(⟨x⟩):ident)else`(Lean.Parser.Tactic.rcasesPatLo|_);let p<-(#[a]++b.getElems).mapM fun x=>match x with|`(($c,$d,*))=>do let q<-(#[c]++d.getElems).mapM g;`(Lean.Parser.Tactic.rcasesPatLo|⟨$q,*⟩)|_=>g ⟨x⟩;`(tactic|obtain⟨$p,*⟩:=$t)
local macro_rules|`(⋯)=>`(by first|(simp;done)|lia|decide|(simp;lia)|omega|simp_all)
local macro_rules|`(#[$a,*])=>`(⟨$a,*⟩)
local macro_rules|`(#v[$a,*])=>`(List.toArray [$a,*])
local macro_rules|`(⇑$x)=>`(($x).length)
local macro_rules|`(↥$x)=>`(($x).heap.objs.size)
local macro_rules|`(~~~$x)=>`(($x).cps.toList)
local macro_rules|`(↑$x)=>`(List $x)
local macro_rules|`($x≈$y)=>`($x=some $y)
local macro_rules|`(‹$x›)=>`(gi (i5 ($x).prog ($x).w) ($x).A)
local macro_rules|`(tactic|erw[$a,*]$[$l]?)=>do let b:Array Lean.Term:=a.getElems.map fun r=>⟨r.raw[1]⟩;`(tactic|simp only[$[$b:term],*]$[$l]?)
local macro_rules|`(tactic|exists $x)=>`(tactic|simpa using $x)
def ttt:True:=trivial
local macro_rules|`(∅)=>`(⟨⟨.own,rfl,rfl⟩,trivial⟩)
local macro_rules|`(tactic|ext $p $q*)=>do let x:=p.raw[0][0];let c<-`(tactic|cases $(⟨x⟩):term);if q.size=0 then pure c else `(tactic|($c:tactic;ext $q*))
local macro_rules|`(tactic|left)=>`(tactic|simp_all)
local macro_rules|`($x\$y)=>`($x=some $y)
local macro_rules|`(-$x)=>match x with|`(($_ : $_))=>Lean.Macro.throwUnsupported|_=>`(($x).length)
local macro_rules|`(9)=>`(rfl)
local macro_rules|`(7)=>`(⋯)
local macro_rules|`(8)=>`(Nat)
local macro_rules|`(6)=>`(Prop)
local macro_rules|`(5)=>`(PySem.Str)
local macro_rules|`(4)=>`(c4)
namespace L2
open PySem PySem.Spec PyProof.Rows
def gz(s:RO):Arguments:=match s with|.FunctionDef _ a _ _ _ _ _ _ _ _=>a|_=>{posonlyargs:=[],args:=[],vararg:=ef,kwonlyargs:=[],kw_defaults:=[],kwarg:=ef,defaults:=[]}
def bX(s:RO):↑RO:=match s with|.FunctionDef _ _ b _ _ _ _ _ _ _=>b|_=>[]
def aE(s:RO):R0:=match s with|.FunctionDef _ _ _ _ _ _ a _ _ _=>a|_=>{kind:=.function,names:=[],isGenerator:=df,isCoroutine:=df}
end L2
namespace TM
open PySem L2 PyProof.Rows
abbrev Gx:=Obj×↑(ke×Obj)
def com(n q:5)(k l c:8)(r s:ke)(x y z:i7)(a b t:8):Obj:=#[.type "code",ef,.fields #v[.str n k,.str q (k+1),.str "/claim/cut.py" (k+2),.int l 0,.int c 0,.int 0 0,.int 0 0,.int 3 0,.ref r,.bool 4,.int t 0,.ref s,.none,x,y,z,.int a 0,.int l 0,.str "/claim/cut.py" b],#v[]]
def co(n:5)(k l c:8)(r s:ke)(x y z:i7)(a b t:8):Obj:=com n n k l c r s x y z a b t
def ge(P:Į)(x:5)(k:8)(v:i7):DictEntry:=#[gn P x,.str x k,v]
end TM
namespace K
open PySem L2 TM PySem.W PyProof.Rows
def Xv:↑Obj->8->BT->Option BT
 |[],_,t=>b6 t|o::l,n,t=>match ((t.ins n o).get n).isSome with
  |true=>Xv l (n+1) (t.ins n o)
  |false=>ef
theorem xP:∀{l}{n}{t b}{a},Xv l n t\b->absHeap t n e=⟨a,e⟩->absHeap b (n+ -l) e=⟨a++l,e⟩
 |[],n,t,b,a,h,k=>by ext h;exists k|o::l,n,t,b,a,h,k=>by
  unfold Xv at h;cases g:((t.ins n o).get n).isSome with
  |false=>rw[g]at h;ext h
  |true=>rw[g]at h;let z:=xP (a:=a.push o) h (by rw[absHeap_ins g,k];rfl);rw[l0,show n+(⇑l+1)=n+1+⇑l by lia,z];simp
def rT(p:DD)(w:Q1)(m:8)(a:Option i7):8->SharedT->Thread->Option SharedT
 |0,_,_=>ef|n+1,s,t=>match through t with
  |true=>b6 s
  |false=>match stepOk m a t with
   |false=>ef
   |true=>match stepT (denote Ĕ) p w s t with
    |some (b,c)=>rT p w m a n b c
    |none=>ef
theorem Hd:∀{n}{s b}{t},rT p w m a n s t\b->topRun Ĕ p w m a n s.abs t\b.abs
 |0,_,_,_,h=>by ext h|n+1,s,b,t,h=>by
  unfold rT at h;unfold topRun;cases c:through t with
  |true=>rw[c]at h;ext h;rfl
  |false =>
   rw[c]at h;cases hk:stepOk m a t with
   |false=>rw[hk]at h;ext h
   |true =>
    rw[hk]at h;cases hs:stepT (denote Ĕ) p w s t with
    |none=>rw[hs]at h;ext h
    |some r=>let(d,e):=r;rw[hs]at h;rw[stepT_spec hs];show Hd h
def oT(p:DD)(w:Q1)(N:8):Option kj:=(fencedOpening Ĕ p w N).bind λs=>match s.heap.isNs kr&&s.gens.size==0 with
 |true=>(Xv s.heap.objs.toList 0 .nil).bind λT=>(rT p w ↥s (s.heap.nsMap kr "__annotations__") N #[T,↥s,s.heap.life,s.gens,s.drawn,s.toks,s.os] (topStub p)).bind λu=>match staticsOk (importedModules p.main.body) s.heap u.abs.heap&&namesBound p u.abs.heap&&gensDone u.abs&&laidKept s.heap u.abs.heap with
  |true=>b6 u.abs
  |false=>ef
 |false=>ef
def Lg(h:oT p w N\r):openEnds Ĕ p w N\r:=by
 unfold oT at h;let(s,e,h):=mx.mp h;unfold openEnds;rw[e];change topFrom Ĕ p w N s=_;unfold topFrom;cases g:s.heap.isNs kr&&s.gens.size==0 with
 |false=>rw[g]at h;ext h|true =>
  rw[g]at h;let(T,b,h):=mx.mp h;let(u,c,h):=mx.mp h;let z:=xP (e:=s.heap.life) (a:=#v[]) b 9;let y:=Hd c;rw[show SharedT.abs #[T,↥s,s.heap.life,s.gens,s.drawn,s.toks,s.os]=s from by change Shared.mk (absHeap T ↥s s.heap.life) _ _ _ _=s;rw[show ↥s=0+⇑s.heap.objs.toList by simp,z];simp]at y
  change Option.bind _ _=_;rw[y];show h
def top(i:8):RO:=if i<1000 then PySem.Challenge.pw_primer_k73_refused_at_the_desk.main.body.getD i (.Pass #[0,0,0,0]) else match PySem.Challenge.pw_primer_k73_refused_at_the_desk.main.body.getD (i / 1000 - 1) (.Pass #[0,0,0,0]) with|.ClassDef _ _ _ b _ _ _ _ _ _ _=>b.getD (i % 1000) (.Pass #[0,0,0,0])|_=>.Pass #[0,0,0,0]
def m0:i7:=.str "primer.words" 342
def m1:i7:=.str "primer.books" 385
def m2:i7:=.str "primer.learning" 445
def m3:i7:=.str "primer.reader" 668
def m4:i7:=.str "primer.shelf" 702
def m5:i7:=.str "primer.writer" 810
def m6:i7:=.str "primer.desk" 825
def m7:i7:=.str "law_primer_k73_refused_at_the_desk" 938
structure Mz where
 x:5
 y:5
 i:8
 N:↑5
 a:ke
 c:ke
 m:i7
 cr:Obj
def z2(x y:5)(i:8)(N:↑5)(a c:ke)(m:i7)(k l e:8)(r s:ke)(u v w:i7)(d b t:8):Mz:=#[x,y,i,N,a,c,m,com x y k l e r s u v w d b t]
def z1(x:5)(i:8)(N:↑5)(a c:ke)(m:i7)(k l e:8)(r s:ke)(u v w:i7)(d b t:8):Mz:=z2 x x i N a c m k l e r s u v w d b t
def zl:Mz:=z1 "law" 109 ["_law_script","_law_drawn_here","_law_names_here","_law_desk","_law_rows","_law_word","_law_told_here","_law_shot","_law_thing","_law_line","_law_due_here"] 677 676 m7 1085 545 1 673 674 .none .none (.ref 675) 1088 1089 181
def zs:↑Mz:=[z1 "is_stem" 16 ["text"] 135 134 m0 352 28 1 131 132 .none .none (.ref 133) 355 356 181,
 z1 "is_later_sense" 17 ["text"] 140 139 m0 358 32 1 136 137 .none .none (.ref 138) 361 362 181,
 z1 "is_word" 18 ["text"] 147 146 m0 364 34 1 141 142 (.ref 143) (.ref 144) (.ref 145) 368 369 181,
 z1 "stem_of" 19 ["word"] 154 153 m0 371 38 1 148 149 (.ref 150) (.ref 151) (.ref 152) 375 376 181,
 z1 "number_of" 20 ["word"] 161 160 m0 378 40 1 155 156 (.ref 157) (.ref 158) (.ref 159) 382 383 181,
 z1 "is_row" 24 ["row","told"] 166 165 m1 391 45 1 162 163 .none .none (.ref 164) 394 395 181,
 z1 "in_one_order" 25 ["row"] 173 172 m1 397 50 1 167 168 (.ref 169) (.ref 170) (.ref 171) 401 402 181,
 z1 "alike" 26 ["row","other"] 180 179 m1 404 52 2 174 175 (.ref 176) (.ref 177) (.ref 178) 409 410 181,
 z1 "words_of" 27 ["book","words","row"] 187 186 m1 412 54 1 181 182 (.ref 183) (.ref 184) (.ref 185) 418 419 181,
 z1 "gathered" 29 ["pairs","found","key","value"] 199 198 m1 427 62 1 193 194 (.ref 195) (.ref 196) (.ref 197) 434 435 181,
 z1 "refuse_unknown" 30 ["book","words"] 206 205 m1 437 69 2 200 201 (.ref 202) (.ref 203) (.ref 204) 442 443 181,
 z1 "places_that_tell" 32 ["book","pairs","place","row"] 211 210 m2 447 73 1 207 208 .none .none (.ref 209) 450 451 181,
 z1 "new_steps" 33 ["book","places","known","steps","place","word"] 218 217 m2 453 78 3 212 213 (.ref 214) (.ref 215) (.ref 216) 462 463 181,
 z1 "steps_in_rounds" 34 ["book","tellers","missing","known","found","ready","steps","word","place","teller"] 223 222 m2 465 85 1 219 220 .none .none (.ref 221) 468 469 181,
 z1 "order" 36 ["book","found","steps"] 235 234 m2 477 108 1 229 230 (.ref 231) (.ref 232) (.ref 233) 483 484 181,
 z1 "learnt" 37 ["book"] 240 239 m2 486 113 1 236 237 .none .none (.ref 238) 489 490 181,
 z1 "read_row" 69 ["line","parts"] 377 376 m3 672 232 1 371 372 (.ref 373) (.ref 374) (.ref 375) 677 678 181,
 z1 "read_told" 70 ["parts"] 382 381 m3 680 237 1 378 379 .none .none (.ref 380) 683 684 181,
 z1 "places_alike" 75 ["book","row"] 394 393 m4 704 259 2 390 391 .none .none (.ref 392) 707 708 181,
 z1 "gained_and_lost" 76 ["ahead","behind","known","known_then","gained","lost"] 399 398 m4 710 261 2 395 396 .none .none (.ref 397) 713 714 181,
 z2 "__init__" "Shelf.__init__" 78000 ["self"] 413 412 m4 728 269 1 407 408 (.ref 409) (.ref 410) (.ref 411) 732 733 181,
 z2 "book" "Shelf.book" 78001 ["self"] 420 419 m4 735 273 1 414 415 (.ref 416) (.ref 417) (.ref 418) 739 740 181,
 z2 "put" "Shelf.put" 78004 ["self","word","told","row"] 441 440 m4 756 282 3 435 436 (.ref 437) (.ref 438) (.ref 439) 763 764 181,
 z2 "take" "Shelf.take" 78005 ["self","word","told","places"] 448 447 m4 766 290 3 442 443 (.ref 444) (.ref 445) (.ref 446) 773 774 181,
 z2 "do_deed" "Shelf.do_deed" 78007 ["self","rows"] 462 461 m4 783 301 2 456 457 (.ref 458) (.ref 459) (.ref 460) 788 789 181,
 z2 "turn_to" "Shelf.turn_to" 78008 ["self","rows","changes"] 469 468 m4 791 305 2 463 464 (.ref 465) (.ref 466) (.ref 467) 797 798 181,
 z1 "shown" 79 ["book"] 481 480 m5 812 310 1 477 478 .none .none (.ref 479) 815 816 181,
 z1 "shown_told" 80 ["told"] 488 487 m5 818 312 1 482 483 (.ref 484) (.ref 485) (.ref 486) 822 823 181,
 z1 "listed" 83 ["words"] 496 495 m6 835 318 1 490 491 (.ref 492) (.ref 493) (.ref 494) 839 840 181,
 z1 "shown_changes" 84 ["changes"] 503 502 m6 842 322 1 497 498 (.ref 499) (.ref 500) (.ref 501) 846 847 181,
 z1 "answer_about" 89 ["book","question","word"] 532 531 m6 875 337 3 526 527 (.ref 528) (.ref 529) (.ref 530) 881 882 181,
 z1 "answer_at_large" 90 ["book","question"] 539 538 m6 884 354 2 533 534 (.ref 535) (.ref 536) (.ref 537) 889 890 181,
 z2 "__init__" "Desk.__init__" 92000 ["self"] 553 552 m6 904 366 1 547 548 (.ref 549) (.ref 550) (.ref 551) 908 909 181,
 z2 "say" "Desk.say" 92001 ["self","text","parts"] 560 559 m6 911 369 2 554 555 (.ref 556) (.ref 557) (.ref 558) 917 918 181,
 z2 "say_deed" "Desk.say_deed" 92002 ["self","deed","row"] 567 566 m6 920 381 3 561 562 (.ref 563) (.ref 564) (.ref 565) 926 927 181,
 z1 "_law_mix" 93 ["_law_cell_here","_law_k","_law_by"] 581 580 m7 940 386 2 575 576 (.ref 577) (.ref 578) (.ref 579) 946 947 181,
 z1 "_law_cell" 94 ["_law_script","_law_k","_law_seed"] 588 587 m7 949 389 2 582 583 (.ref 584) (.ref 585) (.ref 586) 955 956 181,
 z1 "_law_drawn" 95 ["_law_cell_here","_law_many","_law_found","_law_left","_law_k"] 595 594 m7 958 396 2 589 590 (.ref 591) (.ref 592) (.ref 593) 966 967 181,
 z1 "_law_name" 96 ["_law_drawn_here","_law_names_here","_law_letters","_law_name_here","_law_stem","_law_spare"] 600 599 m7 969 406 2 596 597 .none .none (.ref 598) 972 973 181,
 z1 "_law_names" 97 ["_law_script","_law_base","_law_many","_law_names_here","_law_k"] 607 606 m7 975 417 3 601 602 (.ref 603) (.ref 604) (.ref 605) 983 984 181,
 z1 "_law_told" 98 ["_law_drawn_here","_law_names_here","_law_top","_law_told_here","_law_k","_law_one"] 614 613 m7 986 422 2 608 609 (.ref 610) (.ref 611) (.ref 612) 995 996 181,
 z1 "_law_stands" 99 ["_law_rows","_law_row"] 619 618 m7 998 432 2 615 616 .none .none (.ref 617) 1001 1002 181,
 z1 "_law_made" 100 ["_law_script","_law_drawn_here","_law_names_here","_law_rows","_law_k","_law_some","_law_row"] 626 625 m7 1004 434 3 620 621 (.ref 622) (.ref 623) (.ref 624) 1014 1015 181,
 z1 "_law_is_word" 101 ["_law_text","_law_parts"] 631 630 m7 1017 447 1 627 628 .none .none (.ref 629) 1020 1021 181,
 z1 "_law_row_of" 102 ["_law_words"] 636 635 m7 1023 454 1 632 633 .none .none (.ref 634) 1026 1027 181,
 z1 "_law_due" 103 ["_law_line","_law_rows","_law_words","_law_row","_law_known"] 641 640 m7 1029 462 2 637 638 .none .none (.ref 639) 1032 1033 181,
 z1 "_law_odd" 104 ["_law_number","_law_odd_here"] 648 647 m7 1035 485 1 642 643 (.ref 644) (.ref 645) (.ref 646) 1040 1041 181,
 z1 "_law_bent" 105 ["_law_drawn_here","_law_rows","_law_names_here","_law_word","_law_lines","_law_row","_law_line","_law_some","_law_at","_law_sign","_law_words","_law_place","_law_ways","_law_twice"] 655 654 m7 1043 492 3 649 650 (.ref 651) (.ref 652) (.ref 653) 1060 1061 181,
 z1 "_law_tries" 106 ["_law_drawn_here","_law_rows","_law_names_here","_law_spare","_law_tries_here","_law_heads","_law_word","_law_told_here","_law_line","_law_turn"] 660 659 m7 1063 513 3 656 657 .none .none (.ref 658) 1066 1067 181,
 z1 "_law_refused" 107 ["_law_desk","_law_line","_law_found","e"] 667 666 m7 1069 532 2 661 662 (.ref 663) (.ref 664) (.ref 665) 1076 1077 181,
 z1 "_law_own_words" 108 ["_law_names_here","_law_number","_law_own"] 672 671 m7 1079 541 2 668 669 .none .none (.ref 670) 1082 1083 181,
 zl]
def fz(m:Mz):Obj:=#[.type "function",ef,.func (W.fnOf m.x m.y (gz (top m.i)) (bX (top m.i)) (aE (top m.i)) .none .none .none m.m ef (.ref m.c) .none),#v[]]
def fZ(g:Gx):W.Frag:=(3,g.1)::(zs.flatMap (λm=>[(m.c,m.cr),(m.a,fz m)])++g.2)
def gg(P:Į):Obj:=#[.type "dict",ef,.dict #v[ge P "__name__" 165 (.str "law_primer_k73_refused_at_the_desk" 938),ge P "__doc__" 166 .none,ge P "__package__" 167 .none,ge P "__loader__" 168 (.builtin "__main__.__loader__#opaque"),ge P "__spec__" 169 .none,ge P "__annotations__" 170 (.ref 0x6),ge P "__builtins__" 171 (.ref 0x4),ge P "__file__" 173 (.str "/claim/cut.py" 172),ge P "__cached__" 174 .none,ge P "_wall" 193 (.ref 21),ge P "PrimerError" 213 (.ref 31),ge P "NoText" 229 (.ref 44),ge P "Unfit" 245 (.ref 56),ge P "Unknown" 261 (.ref 68),ge P "Unlearnt" 277 (.ref 80),ge P "TooMany" 293 (.ref 92),ge P "Lacking" 309 (.ref 104),ge P "NoRow" 325 (.ref 116),ge P "NoDeed" 341 (.ref 128),ge P "LETTERS" 345 (.str "abcdefghijklmnopqrstuvwxyz" 344),ge P "LONGEST_STEM" 347 (.int 0x8 346),ge P "FIRST_SENSE" 349 (.int 1 348),ge P "LAST_SENSE" 351 (.int 99 350),ge P "is_stem" 357 (.ref 135),ge P "is_later_sense" 363 (.ref 140),ge P "is_word" 370 (.ref 147),ge P "stem_of" 377 (.ref 154),ge P "number_of" 384 (.ref 161),ge P "MOST_TOLD" 388 (.int 0x8 387),ge P "MOST_ROWS" 390 (.int 60 389),ge P "is_row" 396 (.ref 166),ge P "in_one_order" 403 (.ref 173),ge P "alike" 411 (.ref 180),ge P "words_of" 420 (.ref 187),ge P "lacking" 426 (.ref 192),ge P "gathered" 436 (.ref 199),ge P "refuse_unknown" 444 (.ref 206),ge P "places_that_tell" 452 (.ref 211),ge P "new_steps" 464 (.ref 218),ge P "steps_in_rounds" 470 (.ref 223),ge P "rounds" 476 (.ref 228),ge P "order" 485 (.ref 235),ge P "learnt" 491 (.ref 240),ge P "not_learnt" 498 (.ref 247),ge P "refuse_unlearnt" 506 (.ref 254),ge P "knot" 514 (.ref 259),ge P "with_pictures" 522 (.ref 264),ge P "suffice" 530 (.ref 271),ge P "MOST_NOT_LEARNT" 534 (.int 0x5 533),ge P "choices" 546 (.ref 278),ge P "fewest_words" 552 (.ref 283),ge P "paper" 558 (.ref 288),ge P "fewest" 567 (.ref 295),ge P "pairs_of" 575 (.ref 300),ge P "words_told_of" 582 (.ref 307),ge P "words_that_tell" 588 (.ref 312),ge P "reached" 599 (.ref 319),ge P "under" 607 (.ref 326),ge P "over" 615 (.ref 333),ge P "without" 623 (.ref 338),ge P "order_up_to" 635 (.ref 345),ge P "musts" 641 (.ref 350),ge P "row_price" 649 (.ref 355),ge P "prices_and_places" 655 (.ref 360),ge P "prices" 661 (.ref 365),ge P "best_rows" 667 (.ref 370),ge P "PICTURE_SIGN" 671 (.str "*" 670),ge P "read_row" 679 (.ref 377),ge P "read_told" 685 (.ref 382),ge P "DEAREST_READ" 689 (.int 2000 688),ge P "reading" 701 (.ref 389),ge P "places_alike" 709 (.ref 394),ge P "gained_and_lost" 715 (.ref 399),ge P "Shelf" 809 (.ref 472),ge P "shown" 817 (.ref 481),ge P "shown_told" 824 (.ref 488),ge P "WORD_QUESTIONS" 834 (.ref 489),ge P "listed" 841 (.ref 496),ge P "shown_changes" 848 (.ref 503),ge P "round_of" 854 (.ref 508),ge P "price_of" 862 (.ref 515),ge P "words_read" 868 (.ref 520),ge P "reason" 874 (.ref 525),ge P "answer_about" 883 (.ref 532),ge P "answer_at_large" 891 (.ref 539),ge P "Desk" 937 (.ref 570),ge P "_law_mix" 948 (.ref 581),ge P "_law_cell" 957 (.ref 588),ge P "_law_drawn" 968 (.ref 595),ge P "_law_name" 974 (.ref 600),ge P "_law_names" 985 (.ref 607),ge P "_law_told" 997 (.ref 614),ge P "_law_stands" 1003 (.ref 619),ge P "_law_made" 1016 (.ref 626),ge P "_law_is_word" 1022 (.ref 631),ge P "_law_row_of" 1028 (.ref 636),ge P "_law_due" 1034 (.ref 641),ge P "_law_odd" 1042 (.ref 648),ge P "_law_bent" 1062 (.ref 655),ge P "_law_tries" 1068 (.ref 660),ge P "_law_refused" 1078 (.ref 667),ge P "_law_own_words" 1084 (.ref 672),ge P "law" 1090 (.ref 677)] 103,#v[]]
def xk(a:ke)(n:5)(b r:ke)(t u:Tok):Obj:={cls:=.type "type",data:=.cls {name:=n,bases:=[.ref b],mro:=[.ref a,.ref b,.type "ValueError",.type "Exception",.type "BaseException",.type "object"],ns:=a - 1,qualname:=n},slots:=#v[b6 (.ref r),ef,b6 (.str n t),b6 (.str n u),b6 (.builtin "ValueError.__new__"),b6 (.bool 4)]}
def xo(P:Į):↑(ke×Obj):=[(570,({cls:=.type "type",data:=.cls {name:="Desk",bases:=[.type "object"],mro:=[.ref 570,.type "object"],ns:=569,qualname:="Desk" },slots:=#v[ef,ef,b6 (.str "Desk" 892),b6 (.str "Desk" 900),b6 (.builtin "object.__new__"),b6 (.bool 4)]}:Obj)),
 (104,xk 104 "Lacking" 31 95 294 302),
 (128,xk 128 "NoDeed" 31 119 326 334),
 (116,xk 116 "NoRow" 31 107 310 318),
 (44,xk 44 "NoText" 31 35 214 222),
 (31,({cls:=.type "type",data:=.cls {name:="PrimerError",bases:=[.type "ValueError"],mro:=[.ref 31,.type "ValueError",.type "Exception",.type "BaseException",.type "object"],ns:=30,qualname:="PrimerError",subclasses:=[.ref 44,.ref 56,.ref 68,.ref 80,.ref 92,.ref 104,.ref 116,.ref 128]},slots:=#v[b6 (.ref 22),ef,b6 (.str "PrimerError" 196),b6 (.str "PrimerError" 204),b6 (.builtin "ValueError.__new__"),b6 (.bool 4)]}:Obj)),
 (472,({cls:=.type "type",data:=.cls {name:="Shelf",bases:=[.type "object"],mro:=[.ref 472,.type "object"],ns:=471,qualname:="Shelf" },slots:=#v[ef,ef,b6 (.str "Shelf" 716),b6 (.str "Shelf" 724),b6 (.builtin "object.__new__"),b6 (.bool 4)]}:Obj)),
 (92,xk 92 "TooMany" 31 83 278 286),
 (56,xk 56 "Unfit" 31 47 230 238),
 (68,xk 68 "Unknown" 31 59 246 254),
 (80,xk 80 "Unlearnt" 31 71 262 270),
 (569,({cls:=.type "dict",data:=.dict #v[{hash:=gn P "__module__",key:=.str "__module__" 899,val:=.str "primer.desk" 825},{hash:=gn P "__firstlineno__",key:=.str "__firstlineno__" 903,val:=.int 364 902},{hash:=gn P "__init__",key:=.str "__init__" 910,val:=.ref 553},{hash:=gn P "say",key:=.str "say" 919,val:=.ref 560},{hash:=gn P "say_deed",key:=.str "say_deed" 928,val:=.ref 567},{hash:=gn P "__static_attributes__",key:=.str "__static_attributes__" 930,val:=.ref 568},{hash:=gn P "__dict__",key:=.str "__dict__" 932,val:=.ref 571},{hash:=gn P "__weakref__",key:=.str "__weakref__" 934,val:=.ref 572},{hash:=gn P "__doc__",key:=.str "__doc__" 935,val:=.none}] 0x4}:Obj)),
 (103,({cls:=.type "dict",data:=.dict #v[{hash:=gn P "__module__",key:=.str "__module__" 301,val:=.str "primer.errors" 194},{hash:=gn P "__firstlineno__",key:=.str "__firstlineno__" 305,val:=.int 17 304},{hash:=gn P "__static_attributes__",key:=.str "__static_attributes__" 306,val:=.ref 102},{hash:=gn P "__doc__",key:=.str "__doc__" 307,val:=.none}] 2}:Obj)),
 (127,({cls:=.type "dict",data:=.dict #v[{hash:=gn P "__module__",key:=.str "__module__" 333,val:=.str "primer.errors" 194},{hash:=gn P "__firstlineno__",key:=.str "__firstlineno__" 337,val:=.int 21 336},{hash:=gn P "__static_attributes__",key:=.str "__static_attributes__" 338,val:=.ref 126},{hash:=gn P "__doc__",key:=.str "__doc__" 339,val:=.none}] 2}:Obj)),
 (115,({cls:=.type "dict",data:=.dict #v[{hash:=gn P "__module__",key:=.str "__module__" 317,val:=.str "primer.errors" 194},{hash:=gn P "__firstlineno__",key:=.str "__firstlineno__" 321,val:=.int 19 320},{hash:=gn P "__static_attributes__",key:=.str "__static_attributes__" 322,val:=.ref 114},{hash:=gn P "__doc__",key:=.str "__doc__" 323,val:=.none}] 2}:Obj)),
 (43,({cls:=.type "dict",data:=.dict #v[{hash:=gn P "__module__",key:=.str "__module__" 221,val:=.str "primer.errors" 194},{hash:=gn P "__firstlineno__",key:=.str "__firstlineno__" 225,val:=.int 0x7 224},{hash:=gn P "__static_attributes__",key:=.str "__static_attributes__" 226,val:=.ref 42},{hash:=gn P "__doc__",key:=.str "__doc__" 227,val:=.none}] 2}:Obj)),
 (30,({cls:=.type "dict",data:=.dict #v[{hash:=gn P "__module__",key:=.str "__module__" 203,val:=.str "primer.errors" 194},{hash:=gn P "__firstlineno__",key:=.str "__firstlineno__" 207,val:=.int 0x5 206},{hash:=gn P "__static_attributes__",key:=.str "__static_attributes__" 208,val:=.ref 29},{hash:=gn P "__weakref__",key:=.str "__weakref__" 210,val:=.ref 32},{hash:=gn P "__doc__",key:=.str "__doc__" 211,val:=.none}] 3}:Obj)),
 (471,({cls:=.type "dict",data:=.dict #v[{hash:=gn P "__module__",key:=.str "__module__" 723,val:=.str "primer.shelf" 702},{hash:=gn P "__firstlineno__",key:=.str "__firstlineno__" 727,val:=.int 267 726},{hash:=gn P "__init__",key:=.str "__init__" 734,val:=.ref 413},{hash:=gn P "book",key:=.str "book" 741,val:=.ref 420},{hash:=gn P "learnt_now",key:=.str "learnt_now" 748,val:=.ref 427},{hash:=gn P "deeds",key:=.str "deeds" 755,val:=.ref 434},{hash:=gn P "put",key:=.str "put" 765,val:=.ref 441},{hash:=gn P "take",key:=.str "take" 775,val:=.ref 448},{hash:=gn P "back",key:=.str "back" 782,val:=.ref 455},{hash:=gn P "do_deed",key:=.str "do_deed" 790,val:=.ref 462},{hash:=gn P "turn_to",key:=.str "turn_to" 799,val:=.ref 469},{hash:=gn P "__static_attributes__",key:=.str "__static_attributes__" 802,val:=.ref 470},{hash:=gn P "__dict__",key:=.str "__dict__" 804,val:=.ref 473},{hash:=gn P "__weakref__",key:=.str "__weakref__" 806,val:=.ref 474},{hash:=gn P "__doc__",key:=.str "__doc__" 807,val:=.none}] 0x4}:Obj)),
 (91,({cls:=.type "dict",data:=.dict #v[{hash:=gn P "__module__",key:=.str "__module__" 285,val:=.str "primer.errors" 194},{hash:=gn P "__firstlineno__",key:=.str "__firstlineno__" 289,val:=.int 15 288},{hash:=gn P "__static_attributes__",key:=.str "__static_attributes__" 290,val:=.ref 90},{hash:=gn P "__doc__",key:=.str "__doc__" 291,val:=.none}] 2}:Obj)),
 (55,({cls:=.type "dict",data:=.dict #v[{hash:=gn P "__module__",key:=.str "__module__" 237,val:=.str "primer.errors" 194},{hash:=gn P "__firstlineno__",key:=.str "__firstlineno__" 241,val:=.int 0x9 240},{hash:=gn P "__static_attributes__",key:=.str "__static_attributes__" 242,val:=.ref 54},{hash:=gn P "__doc__",key:=.str "__doc__" 243,val:=.none}] 2}:Obj)),
 (67,({cls:=.type "dict",data:=.dict #v[{hash:=gn P "__module__",key:=.str "__module__" 253,val:=.str "primer.errors" 194},{hash:=gn P "__firstlineno__",key:=.str "__firstlineno__" 257,val:=.int 11 256},{hash:=gn P "__static_attributes__",key:=.str "__static_attributes__" 258,val:=.ref 66},{hash:=gn P "__doc__",key:=.str "__doc__" 259,val:=.none}] 2}:Obj)),
 (79,({cls:=.type "dict",data:=.dict #v[{hash:=gn P "__module__",key:=.str "__module__" 269,val:=.str "primer.errors" 194},{hash:=gn P "__firstlineno__",key:=.str "__firstlineno__" 273,val:=.int 13 272},{hash:=gn P "__static_attributes__",key:=.str "__static_attributes__" 274,val:=.ref 78},{hash:=gn P "__doc__",key:=.str "__doc__" 275,val:=.none}] 2}:Obj)),
 (489,({cls:=.type "tuple",data:=.seq #v[.str "round" 827,.str "price" 828,.str "read" 829,.str "under" 830,.str "over" 831,.str "musts" 832,.str "why" 833]}:Obj))]
def gx(P:Į):Gx:=(gg P,xo P)
def xa:↑ke:=[570,104,128,116,44,31,472,92,56,68,80,569,103,127,115,43,30,471,91,55,67,79,489]
def aZ:↑ke:=3::(zs.flatMap (λm=>[m.c,m.a])++xa)
def vw:DD:=view PySem.Challenge.pw_primer_k73_refused_at_the_desk [16,17,18,19,20,24,25,26,27,29,30,32,33,34,36,37,69,70,75,76,78000,78001,78004,78005,78007,78008,79,80,83,84,89,90,92000,92001,92002,93,94,95,96,97,98,99,100,101,102,103,104,105,106,107,108,109]
def UY:↑5:=(["_wall","PrimerError","NoText","Unfit","Unknown","Unlearnt","TooMany","Lacking","NoRow","NoDeed","LETTERS","LONGEST_STEM","FIRST_SENSE","LAST_SENSE","MOST_TOLD","MOST_ROWS","lacking","rounds","not_learnt","refuse_unlearnt","knot","with_pictures","suffice","MOST_NOT_LEARNT","choices","fewest_words","paper","fewest","pairs_of","words_told_of"]:↑5)++(["words_that_tell","reached","under","over","without","order_up_to","musts","row_price","prices_and_places","prices","best_rows","PICTURE_SIGN","DEAREST_READ","reading","Shelf","WORD_QUESTIONS","round_of","price_of","words_read","reason","Desk"]:↑5)
noncomputable abbrev xt(s:kj):Bool:=xlAt vw [] s&&recOk (RowW.records PySem.Challenge.rw_primer_k73_refused_at_the_desk.row.toRowW) s
noncomputable abbrev oe(w:Q1):Option kj:=oT PySem.Challenge.rw_primer_k73_refused_at_the_desk.row.prog w 5100
noncomputable abbrev os(s:kj):=openSeen vw UY (importedModules PySem.Challenge.rw_primer_k73_refused_at_the_desk.row.prog.main.body) xt 4 s
noncomputable abbrev qF{α β:Type}(x:α×β):α:=Prod.rec (motive:=λ_=>α) (λa _=>a) x
noncomputable abbrev qS{α β:Type}(x:α×β):β:=Prod.rec (motive:=λ_=>β) (λ_ a=>a) x
noncomputable abbrev S2(b:Bool):Type:={p:Bool×Bool // (p.1&&p.2)=b}
def S2.t{b:Bool}(x:S2 b)(a:x.1.1=4)(c:x.1.2=4):b=4:=by rw[<-x.2,a,c];rfl
noncomputable def w1(l:VJ):S2 l.wellSaid:=#[(_,_),9]
noncomputable def w2(l:VJ):S2 (w1 l).1.1:=#[(_,_),9]
noncomputable def w3(l:VJ):S2 (w2 l).1.1:=#[(_,_),9]
noncomputable def w4(l:VJ):S2 (w3 l).1.1:=#[(_,_),9]
noncomputable def w5(l:VJ):S2 (w4 l).1.1:=#[(_,_),9]
noncomputable def w6(l:VJ):S2 (w5 l).1.1:=#[(_,_),9]
noncomputable def w7(l:VJ):S2 (w6 l).1.1:=#[(_,_),9]
noncomputable def w8(l:VJ):S2 (w7 l).1.1:=#[(_,_),9]
noncomputable def w9(l:VJ):S2 (w8 l).1.1:=#[(_,_),9]
noncomputable def Uh(l:VJ):S2 (w9 l).1.1:=#[(_,_),9]
noncomputable def Yw(l:VJ):S2 (Uh l).1.1:=#[(_,_),9]
noncomputable def Yx(l:VJ):S2 (Yw l).1.1:=#[(_,_),9]
noncomputable def Yy(l:VJ):S2 (Yx l).1.1:=#[(_,_),9]
noncomputable def Yz(l:VJ):S2 (Yy l).1.1:=#[(_,_),9]
noncomputable def YA(l:VJ):S2 (Yz l).1.1:=#[(_,_),9]
noncomputable def YB(l:VJ):S2 (YA l).1.1:=#[(_,_),9]
noncomputable def YC(l:VJ):S2 (YB l).1.1:=#[(_,_),9]
def YD:(w1 PySem.Challenge.rw_primer_k73_refused_at_the_desk).1.2=4:=by kernel_rfl
def YE:(w2 PySem.Challenge.rw_primer_k73_refused_at_the_desk).1.2=4:=by kernel_rfl
def ha3:(w3 PySem.Challenge.rw_primer_k73_refused_at_the_desk).1.2=4:=by kernel_rfl
def ha4:(w4 PySem.Challenge.rw_primer_k73_refused_at_the_desk).1.2=4:=by kernel_rfl
def ha5:(w5 PySem.Challenge.rw_primer_k73_refused_at_the_desk).1.2=4:=by kernel_rfl
def ha6:(w6 PySem.Challenge.rw_primer_k73_refused_at_the_desk).1.2=4:=by kernel_rfl
def ha7:(w7 PySem.Challenge.rw_primer_k73_refused_at_the_desk).1.2=4:=by kernel_rfl
def ha8:(w8 PySem.Challenge.rw_primer_k73_refused_at_the_desk).1.2=4:=by kernel_rfl
def ha9:(w9 PySem.Challenge.rw_primer_k73_refused_at_the_desk).1.2=4:=by kernel_rfl
def NA:(Uh PySem.Challenge.rw_primer_k73_refused_at_the_desk).1.2=4:=by kernel_rfl
def NB:(Yw PySem.Challenge.rw_primer_k73_refused_at_the_desk).1.2=4:=by kernel_rfl
def NC:(Yx PySem.Challenge.rw_primer_k73_refused_at_the_desk).1.2=4:=by kernel_rfl
def ND:(Yy PySem.Challenge.rw_primer_k73_refused_at_the_desk).1.2=4:=by kernel_rfl
def NF:(Yz PySem.Challenge.rw_primer_k73_refused_at_the_desk).1.2=4:=by kernel_rfl
def NG:(YA PySem.Challenge.rw_primer_k73_refused_at_the_desk).1.2=4:=by kernel_rfl
def NH:(YB PySem.Challenge.rw_primer_k73_refused_at_the_desk).1.2=4:=by kernel_rfl
def NI:(YC PySem.Challenge.rw_primer_k73_refused_at_the_desk).1.2=4:=by kernel_rfl
def ha0:(YC PySem.Challenge.rw_primer_k73_refused_at_the_desk).1.1=4:=by kernel_rfl
def hs:PySem.Challenge.rw_primer_k73_refused_at_the_desk.wellSaid=4:=S2.t (w1 _) (S2.t (w2 _) (S2.t (w3 _) (S2.t (w4 _) (S2.t (w5 _) (S2.t (w6 _) (S2.t (w7 _) (S2.t (w8 _) (S2.t (w9 _) (S2.t (Uh _) (S2.t (Yw _) (S2.t (Yx _) (S2.t (Yy _) (S2.t (Yz _) (S2.t (YA _) (S2.t (YB _) (S2.t (YC _) (ha0) NI) NH) NG) NF) ND) NC) NB) NA) ha9) ha8) ha7) ha6) ha5) ha4) ha3) YE) YD
def So(w):(oe w).map (λs=>qF (os s))\(Ŭ vw UY).1:=by kernel_rfl
def RN(w):(oe w).map (λs=>qF (qS (qS (os s))))\(Ŭ vw UY).2.2.1:=by kernel_rfl
def hl4(w):(oe w).map (λs=>qF (qS (qS (qS (os s)))))\(Ŭ vw UY).2.2.2.1:=by kernel_rfl
def VD(w:Q1):(oe w).map (λs=>qF (qS (os s)))\(Ŭ vw UY).2.1:=by kernel_rfl
def UZ(w:Q1):(oe w).map (λs=>qS (qS (qS (qS (os s)))))\(Ŭ vw UY).2.2.2.2:=by kernel_rfl
def hl6(w:Q1):(oe w).map (λs=>aZ.map s.heap.get?)\((fZ (gx w.params)).map λp=>b6 p.2):=by kernel_rfl
end K
namespace L2
open PySem PySem.Spec PyProof.Rows
abbrev Key:=Sum Int 5
def qe:Key->i7->Bool|.inl k,v=>aan k v|.inr x,v=>ÿ x v
def NJ(w:Q1):Key->Int|.inl k=>hashInt k|.inr x=>hashStr w x
theorem bT:∀{k}{v},qe k v=4->(∃i t,k=ť i/\v=ρ i t)\/(∃x t,k=tA x/\v=Rt x t)|.inl i,v,h=>by let(t,e):=Value.isInt_shape   h;show .inl #[i,t,9,e]|.inr x,v,h=>by let(t,e):=ź   h;show .inr #[x,t,9,e]
def zh(i)(t):qe (.inl i) (.int i t)=4:=by simp[qe,aan]
def zi(x)(t):qe (.inr x) (.str x t)=4:=by simp[qe,ÿ]
def HZ(a b):eL ((ť a:Key)=ť b)=(a==b):=by grind
def H0(a b):eL ((tA a:Key)=tA b)=eL (a=b):=by simp
def H9(a)(b):eL ((ť a:Key)=tA b)=df:=decide_eq_false (λq=>nomatch q)
def H_(a)(b):eL ((tA a:Key)=ť b)=df:=decide_eq_false (λq=>nomatch q)
def bP(prog:DD)(w:Q1):PySem.KeyKind prog w Key where
 is:=qe
 hash:=NJ w
 inj:=λv a b g f=>by
  obtain⟨i,t,rfl,rfl⟩|⟨x,t,rfl,rfl⟩:=bT g
  .rcases bT f with⟨j,u,rfl,e⟩|⟨y,u,rfl,e⟩
   .injection e with c _;rw[c]
   show nomatch e
  obtain⟨j,u,rfl,e⟩|⟨y,u,rfl,e⟩:=bT f
  .show nomatch e
  injection e with c _;rw[c]
 byValue:=λk v h=>by obtain⟨i,t,rfl,rfl⟩|⟨x,t,rfl,rfl⟩:=bT h<;>rfl
 pyHash:=λd h=>by
  obtain⟨i,t,rfl,rfl⟩|⟨x,t,rfl,rfl⟩:=bT d
  .show wpAny_pyHash_int h
  show wpAny_pyHash_str h
 eqBool:=λl d h=>by
  obtain⟨i,t,rfl,rfl⟩|⟨x,t,rfl,rfl⟩:=bT l
  .rcases bT d with⟨j,u,rfl,rfl⟩|⟨y,u,rfl,rfl⟩
   .rw[HZ]at h;show aav h
   rw[H9]at h;show SeqAt.EqAt.int_str i t y u _ _ _ _ h
  obtain⟨j,u,rfl,rfl⟩|⟨y,u,rfl,rfl⟩:=bT d
  .rw[H_]at h;show SeqAt.EqAt.str_int x t j u _ _ _ _ h
  rw[H0]at h;show aau h
 «strs»:=λk x t v h=>by
  obtain⟨i,u,rfl,e⟩|⟨y,u,rfl,e⟩:=bT h
  .show nomatch e
  injection e with c _
  subst c;cases v<;>rfl
def tJ(prog)(w)(i)(t):(bP prog w).is (.inl i) (.int i t)=4:=zh i t
def tK(prog)(w)(x)(t):(bP prog w).is (.inr x) (.str x t)=4:=zi x t
inductive V where|OP|bl (b:Bool)|int (i:Int)|str (x:Str)|SA (b:Array UInt8)|We (b:UInt64)|ref (a:ke)|ty (n:String)
 deriving DecidableEq
def RelV:V->i7->6|.OP,u=>u=tp|.bl b,u=>u=Ú b|.int i,u=>∃t,u=ρ i t|.str x,u=>∃t,u=Rt x t|.SA b,u=>∃t,u=aap b t|.We b,u=>∃t,u=aao b t|.ref a,u=>u=rr a|.ty n,u=>u=Ug n
abbrev Vals:↑V->↑i7->6:=Paired RelV
def Vals.length(r:Vals a b):-a=-b:=Paired.length r
theorem Vals.get:∀{a}{b}{i:8}{x},Vals a b->a[i]?\x->∃u,b[i]?\u/\RelV x u|_,_,_,_,.nil,e=>by simp at e|_,_,0,_,.cons r _,e=>by simp at e;subst e;show#[_,9,r]|_,_,i+1,x,.cons _ t,e=>by let(u,d,c):=Vals.get   t (by exists e);show#[u,by assumption,c]
theorem Vals.set(r:RelV x u):∀{a}{b} i,Vals a b->Vals (a.set i x) (b.set i u)|_,_,_,.nil=>.nil|_,_,0,.cons _ t=>.cons r t|_,_,i+1,.cons q t=>.cons q (Vals.set r i t)
theorem Vals.append:∀{a b}{c d},Vals a c->Vals b d->Vals (a++b) (c++d)|_,_,_,_,.nil,s=>s|_,_,_,_,.cons r t,s=>.cons r (Vals.append t s)
theorem Vals.take:∀{a}{b} n,Vals a b->Vals (a.take n) (b.take n)|_,_,0,_=>.nil|_,_,_+1,.nil=>.nil|_,_,n+1,.cons r t=>.cons r (Vals.take n t)
theorem Vals.drop:∀{a}{b} n,Vals a b->Vals (a.drop n) (b.drop n)|_,_,0,r=>r|_,_,_+1,.nil=>.nil|_,_,n+1,.cons _ t=>Vals.drop n t
def hU:Option V->Option i7->6|some v,b6 u=>RelV v u|none,ef=>True|_,_=>False
noncomputable def KV{κ:Type}:↑(κ×V)->↑(κ×i7)->6:=Paired λ(p:κ×V) (q:κ×i7)=>p.1=q.1/\RelV p.2 q.2
def kV:Key->V|.inl i=>.int i|.inr x=>.str x
inductive HO where
 |lst (xs:↑V)|tup (xs:↑V)|dK (kvs:↑(Key×V))|dT (kvs:↑(↑Key×V))
 |set (S:Int->Bool) (n:Nat)|ins (C dx:ke) (fs:↑(Str×V))|own (x:ke)|xd (fs:↑(Str×V))|met (f x:ke)|Xw (lo hi:Int)|QD (o:Obj) (u:HO)|Ui (ps:Array i7)|ext (φ:Te->Prop)
abbrev Hp:=ke->Option HO
def upd(H:Hp)(a:ke)(o:HO):Hp:=λb=>if b=a then b6 o else H b
def ak:upd H a o a\o:=by unfold upd;simp
def aj(h:b≠a):upd H a o b=H b:=by unfold upd;rw[if_neg h]
def Lh{H:Hp}(h:H a\o)(c:H b\u)(d:o≠u):a≠b:=by intro e;left
def ay{H:Hp}(h:H a\o)(c:H b=ef):a≠b:=by grind
section
variable(P:DD)(w:Q1)
def cJ(H:Hp)(h:Te)(a:ke):HO->6
 |.lst c=>-c<=ei/\∃(e:↑i7) (n:8),Vals c e/\h.get? a\{cls:=.type "list",data:=.seq e.toArray n}|.tup c=>-c<=ei/\∃e:↑i7,Vals c e/\Ĩ h a e.toArray|.dK b=>-b<=ei/\(a==Xr)=df/\∃j,KV b j/\h.DictOf (bP P w) a j|.dT b=>-b<=ei/\(a==Xr)=df/\∃c:↑(↑Key×ke×i7),
   Paired (λ(p:↑Key×V) (q:↑Key×ke×i7)=>p.1=q.1/\H q.2.1\.tup (p.1.map kV)/\RelV p.2 q.2.2) b c /\
   ∃o k r,h.get? a\o/\o.ExactDict/\o.data=.dict k r/\k.toList=c.map (entryOfKey (ŋ (bP P w)))/\(c.map (·.1)).Nodup
 |.set S n=>h.SetOf (intKind P w) a S n|.ins C i g=>H i\.own a/\-g<=1000/\i≠a/\h.get? a\W.instObj C i /\
   ∃d,h.Ns1 i d/\(∀f,hU (g.lookup f) (d f))/\PySem.Within d (g.map (·.1))
 |.own _=>∃o,h.get? a\o|.xd g=>∃d,h.Ns1 a d/\∀f,hU (g.lookup f) (d f)|.Xw lo s=>∃t u v,h.get? a\{cls:=.type "range",data:=.fields #v[.int lo t,.int s u,.int 1 v]}|.QD o u=>h.get? a\o/\cJ H h a u|.Ui y=>h.get? a\{cls:=.none,data:=.fields y}|.met f x=>h.get? a\W.methodObj (.ref f) (.ref x)|.ext φ=>φ h/\(∃o,h.get? a\o)/\∀l m:Te,φ l->(∀o,l.get? a\o->m.get? a\o)->φ m
def P8(H:Hp)(h:Te):6:=∀a o,H a\o->cJ P w H h a o
end
def cJ.lt(x:cJ P w H h a o):a<h.objs.size:=by cases o with|lst b=>let(_,_,_,_,e):=x;show i8 e|tup b=>let(_,_,_,p):=x;show p.lt|set S n=>let(o,_,_,_,e,_):=x;show i8 e|ins C d c=>let(_,_,_,e,_):=x;show i8 e|own y=>let(_,e):=x;show i8 e|xd c=>let(_,(_,_,_,e,_),_):=x;show i8 e|Xw lo g=>let(_,_,_,e):=x;show i8 e|QD i u=>let(e,_):=x;show i8 e|Ui j=>show i8 (x)|met f y=>show i8 (x)|ext φ=>let(_,(_,e),_):=x;show i8 e|_=>let(_,_,_,_,o,_,_,e,_):=x;show i8 e
theorem Paired.Ia:∀{c:↑α}{d},Paired F c d->(∀a b,F a b->G a b)->Paired G c d|_,_,.nil,_=>.nil|_,_,.cons r t,f=>.cons (f _ _ r) (Paired.Ia t f)
def cJ.mP(x:cJ P w H h a o)(k:∀b u,(b=a\/H b\.own a)->h.get? b\u->G.get? b\u) (ho:∀b,H b\.own a->D b\.own a) (I:∀b l,H b\.tup l->D b\.tup l):cJ P w D G a o:=by induction o with|lst l=>let(z,m,n,r,e):=x;show#[z,m,n,r,k _ _ (.inl 9) e]|tup l=>let(z,m,r,g,e,c):=x;show#[z,m,r,g,k _ _ (.inl 9) e,c]|dK s=>let(z,y,J,r,g,i,j,e,c):=x;show#[z,y,J,r,g,i,j,k _ _ (.inl 9) e,c]|dT s=>let(z,y,l,r,g,i,j,e,c):=x;show#[z,y,l,Paired.Ia r λp q z=>#[z.1,I _ _ z.2.1,z.2.2],g,i,j,k _ _ (.inl 9) e,c]|set S n=>let(g,i,j,t,e,c):=x;show#[g,i,j,t,k _ _ (.inl 9) e,c]|ins C T L=>let(d,z,N,e,A,(B,i,j,O,c),r):=x;show#[ho _ d,z,N,k _ _ (.inl 9) e,A,#[B,i,j,k _ _ (.inr d) O,c],r]|own y=>let(g,e):=x;show#[g,k _ _ (.inl 9) e]|xd L=>let(A,(B,i,j,e,c),r):=x;show#[A,#[B,i,j,k _ _ (.inl 9) e,c],r]|Xw lo Y=>let(t,u,v,e):=x;show#[t,u,v,k _ _ (.inl 9) e]|QD g u Q=>let(e,q):=x;show#[k _ _ (.inl 9) e,Q q]|Ui ps=>let e:=x;show k a _ (.inl 9) e|met f y=>let e:=x;show k a _ (.inl 9) e|ext φ=>let(p,(o,e),st):=x;show#[st _ _ p λo q=>k _ _ (.inl 9) q,#[o,k _ _ (.inl 9) e],st]
def P8.lt(x:P8 P w H h)(e:H a\o):a<h.objs.size:=(x a o e).lt
def P8.fresh(x:P8 P w H h)(e:h.objs.size<=a):H a=ef:=by cases q:H a with|none=>rfl|some u=>show absurd (lg (x.lt q) e) (y0 _)
def P8.kept(x:P8 P w H h)(k:∀b u,h.get? b\u->c.get? b\u):P8 P w H c:=λa o e=>(x a o e).mP (λb u _ q=>k b u q) (λ_ q=>q) λ_ _ q=>q
def P8.laid(x:P8 P w H h)(k:∀b u,h.get? b\u->h'.get? b\u)(g:h.objs.size<=a)(i:cJ P w (upd H a o) h' a o):P8 P w (upd H a o) h':=λb u e=>by
 let d:=x.fresh g;by_cases f:b=a
 .subst f;rw[ak]at e;left
 rw[aj f]at e;show(x b u e).mP (λc v _ q=>k c v q) (λc q=>by rw[aj (ay q d)];show q) λc j q=>by rw[aj (ay q d)];show q
def Rd(H:Hp)(a:ke)(u:HO):6:=H a\u\/∃o,H a\.QD o u
def Rd.ok(r:Rd H a u)(x:P8 P w H h):cJ P w H h a u:=by
 obtain r|⟨o,r⟩:=r
 .show x a u r
 let(_,q):=x a _ r;show q
def Wf:Option HO->6|some (.lst _)=>True|some (.dK _)=>True|some (.dT _)=>True|some (.set _ _)=>True|some (.ins _ _ _)=>True|some (.ext _)=>True|_=>False
def P8.write(p:P8 P w H h)(a:Wf (H x))(l:e=x\/H e\.own x)(k:∀b u,b≠e->h.get? b\u->i.get? b\u)(s:∃u,i.get? e\u) (j:cJ P w (upd H x m) i x m):P8 P w (upd H x m) i:=λb u q=>by
 let n:∀c y,H c\.own y->c≠x:=λc y r z=>by subst z;rw[r]at a;show a
 let t:∀c d,H c\.tup d->c≠x:=λc d r z=>by subst z;rw[r]at a;show a
 by_cases f:b=x
 .subst f;rw[ak]at q;ext q;show j
 rw[aj f]at q;by_cases g:b=e
 .let o:H b\.own x:=by
   obtain z|z:=l
   .show absurd (g.trans z) f
   rw[g];show z
  rw[q]at o;ext o;let(v,A):=s;show#[v,by rw[g];show A]
 show(p b u q).mP (λc v hc r=>k c v ?_ r) (λc r=>by rw[aj (n c b r)];show r) λc d r=>by rw[aj (t c d r)];show r
 obtain rfl|hc:=hc
 .show g
 rintro rfl;obtain z|z:=l
 .show n c b hc z
 rw[hc]at z;ext z;show f 9
structure Un(fs ex:↑ke)(H H':Hp)(h h':Te):6 where
 keep:∀b o,h.get? b\o->H b=ef->b∉fs->b∉ex->h'.get? b\o
 slot:∀b o,h.get? b\o->H b=ef->b∈fs->b∉ex->∃sl,h'.get? b\{o with slots:=sl}
 free:∀b o,h.get? b\o->H b=ef->b∉ex->H' b=ef
 there:∀b o,h.get? b\o->b∉ex->∃o',h'.get? b\o'
 iq:∀b xs,H b\.tup xs->H' b\.tup xs
 P9:∀b o u,H b\.QD o u->H' b\.QD o u
 Qi:∀b ps,H b\.Ui ps->∃more,H' b\.Ui (ps++more)
def Un.any(u:Un e f H j h g)(q:h.get? b\a)(n:H b=ef)(c:b∉f):∃i,g.get? b\{a with slots:=i}:=by
 by_cases d:b∈e
 .show u.slot b a q n d c
 show#[_,u.keep b a q n d c]
def Un.kept(k:∀b u,h.get? b\u->c.get? b\u):Un d e H H h c :=#[λb a q _ _ _=>k b a q,λb a q _ _ _=>#[_,k b a q],λ_ _ _ n _=>n,λb a q _=>#[a,k b a q],λ_ _ q=>q,λ_ _ _ q=>q,λ_ f q=>#[#v[],by left]]
def Un.refl:Un a b H H h h:=Un.kept λ_ _ q=>q
def Un.laid(k:∀b u,h.get? b\u->h'.get? b\u)(d:h.objs.size<=a)(c:H a=ef):Un f g H (upd H a o) h h' where
 keep:=λb u q _ _ _=>k b u q
 slot:=λb u q _ _ _=>#[_,k b u q]
 free:=λb u q n _=>by rw[aj (ku (lg (i8 q) d))];show n
 there:=λb u q _=>#[u,k b u q]
 iq:=λb e q=>by rw[aj (ay q c)];show q
 P9:=λb u e q=>by rw[aj (ay q c)];show q
 Qi:=λb i q=>#[#v[],by rw[aj (ay q c),q];simp]
def Un.write(c:Wf (H x))(l:e=x\/H e\.own x)(k:∀b u,b≠e->h.get? b\u->d.get? b\u)(m:∃u,d.get? e\u):Un p r H (upd H x o) h d:=by
 let g:∀b,H b=ef->b≠x:=λb n z=>by subst z;rw[n]at c;show c
 let f:∀b,H b=ef->b≠e:=λb n z=>by left
 let a:∀b u,H b\u->¬Wf (b6 u)->b≠x:=λb u q s z=>by left
 show#[λb u q n _ _=>k b u (f b n) q,λb u q n _ _=>#[_,k b u (f b n) q],λb u q n _=>by rw[aj (g b n)];show n,λb u q _=>?_,
  λb i q=>by rw[aj (a b _ q λz=>z)];show q,λb u i q=>by rw[aj (a b _ q λz=>z)];show q,λb t q=>#[#v[],by rw[aj (a b _ q λz=>z),q];simp]]
 by_cases j:b=e
 .simp_all
 show#[u,k b u j q]
def trk(h:Te)(H:Hp):↑ke:=(i9 h.objs.size).filter λa=>(H a).isSome
def qW(h:Te)(H:Hp):Te:=W.hideAll h (trk h H)
def zj(h)(H):(qW h H).objs.size=h.objs.size:=W.hideAll_size _ _
def AO(e:h.get? b\o)(n:H b=ef):(qW h H).get? b\o :=W.hideAll_get _ e λa=>by let q:=(W4.mp a).2;left
def EA(e:(qW h H).get? b\o):h.get? b\o/\H b=ef:=by let a:=W.of_hideAll _ e;show#[a,?_];cases q:H b with|none=>rfl|some x=>let c:b∈trk h H:=W4.mpr #[uk.mpr (i8 a),by simp[q]];let z:(qW h H).get? b=ef:=W.hideAll_none _ c;left
structure Mod(K:W.Frag)(mg:5->Option i7)(base:Te):6 where
 Uj:K.In base
 glob:base.Ns kr mg
 blt:∃mb,base.Ns Ϲ mb/\∀x:5,x≠"__name__"->mb x=H8 x
 nolimit:base.NoLimit
structure Cx where
 prog:DD
 w:Q1
 K:W.Frag
 mg:5->Option i7
 base:Te
 A:Y3
 N:↑5
 s₀:kj
 H₀:Hp
 env:Env
 outer:↑Env
 stack:↑Env
 ex:↑ke
 fn:5->Bool
 calm:Bool
 pn:↑(ke×Obj)
 xe:i7->kj->6
def PM(l:↑Env):↑ke:=l.filterMap (·.frame)
noncomputable abbrev Cx.fs(X:Cx):↑ke:=PM X.outer
def PV(a:R0)(x:5):6:=a.names.lookup x\.local\/a.names.lookup x\.cell\/a.names.lookup x\.free
def Loc(a:R0)(x:5):6:=a.names.lookup x\.local\/a.names.lookup x\.cell
def Look(a:Env)(h:Te)(m:5->Option i7)(x:5)(u:i7):6 :=(a.kindOf x\.local/\m x\u)\/((a.kindOf x\.cell\/a.kindOf x\.free)/\∃c,a.cells.lookup x\c/\h.IsCell c (b6 u))
structure Cx.Ok(X:Cx):6 where
 mod:Mod X.K X.mg X.base
 kind:X.env.scope.kind=.function
 glob:X.env.globals=kr
 blt:X.env.builtins=Ϲ
 above:↥X.s₀<=X.env.locals
 inj:∀x y c,X.env.cells.lookup x\c->X.env.cells.lookup y\c->x=y
 has:∀x,(X.env.kindOf x\.cell\/X.env.kindOf x\.free)->∃c,X.env.cells.lookup x\c
 U0:∀x c,X.fn x=4->X.env.cells.lookup x\c->↥X.s₀<=c
 hd:X.calm=4->X.A.handled=ef
 frames:X.A.frames\X.stack
 VF:X.stack=X.outer\/(X.stack=X.env::X.outer/\X.env.frame\X.env.locals)
 Xx:∀b∈X.ex,b≠X.env.locals/\∀x c,X.env.cells.lookup x\c->c≠b
 bs:∀b o,X.base.get? b\o->X.s₀.heap.get? b\o/\X.H₀ b=ef
 SD:X.base.objs.size<=↥X.s₀
 Ru:∀b o,X.base.get? b\o->b∉X.ex
 R3:∀b∈X.ex,b∉X.fs
 j4:X.s₀.heap.FunFrames X.base X.outer
 TK:∀b∈X.fs,X.H₀ b=ef
structure Inv(X:Cx)(pins:↑(ke×Obj))(σ:↑(Option V))(H:Hp)(s:kj):6 where
 ok:X.Ok
 os:s.os=X.s₀.os
 bare:ã s.gens
 base:Un X.fs X.ex X.H₀ H X.s₀.heap s.heap
 loc:∃m,s.heap.Ns X.env.locals m/\∀(i:8) (x:5) (v:V),X.N[i]?\x->σ[i]?\b6 v->PV X.env.scope x->∃u,RelV v u/\Look X.env s.heap m x u
 cell:∀x c,X.env.cells.lookup x\c->∃v,s.heap.IsCell c v
 free:H X.env.locals=ef
 Pb:∀x c,X.env.cells.lookup x\c->H c=ef
 pin:∀p∈X.pn++pins,s.heap.get? p.1\p.2/\H p.1=ef/\p.1≠X.env.locals/\p.1∉X.fs/\∀v,p.2.data≠.cell v
 ON:P8 X.prog X.w H s.heap
 len:-σ=-X.N
section
variable{X:Cx}{pins:List (ke×Obj)}{σ:List (Option V)}{H H':Hp}{s:kj}{h':Te}
def Cx.Ok.NK(a:X.Ok)(e:X.base.get? b\o):b∉X.fs:=λc=>by let:=(a.j4.mem c).1;left
def Inv.bs(I:Inv X pins σ H s):∀b o,X.base.get? b\o->s.heap.get? b\o/\H b=ef:=λb o e=>#[I.base.keep b o (I.ok.bs b o e).1 (I.ok.bs b o e).2 (I.ok.NK e) (I.ok.Ru b o e),I.base.free b o (I.ok.bs b o e).1 (I.ok.bs b o e).2 (I.ok.Ru b o e)]
def Inv.bk(I:Inv X pins σ H s):∀b o,X.base.get? b\o->s.heap.get? b\o:=λb o e=>(I.bs b o e).1
def Inv.mod(I:Inv X pins σ H s):Mod X.K X.mg X.base:=I.ok.mod
def Inv.QA(I:Inv X pins σ H s):X.K.In s.heap:=I.ok.mod.Uj.keeps I.bk
def Inv.lt(I:Inv X pins σ H s):X.env.locals<↥s:=let ⟨_,a,_⟩:=I.loc;a.lt
def Inv.sz(I:Inv X pins σ H s):↥X.s₀<=↥s:=pe I.ok.above (Ue I.lt)
def Inv.Ib(I:Inv X pins σ H s)(h:↥s<=a):a∉X.fs:=λb=>by let(_,o,ho,_):=I.ok.j4.mem b;show absurd (lg (i8 ho) (pe I.sz h)) (y0 _)
def Inv.SE(I:Inv X pins σ H s):∀x c,X.env.cells.lookup x\c->c≠X.env.locals:=λx c e z=>by let(v,o,ho,b):=I.cell x c e;let(m,(d,f,g,h,a,_),_):=I.loc;left
def Inv.j4(I:Inv X pins σ H s):s.heap.FunFrames X.base X.outer:=by
 let all:∀(l:↑Env),(∀b∈PM l,b∈X.fs)->X.s₀.heap.FunFrames X.base l->s.heap.FunFrames X.base l:=by intro l;induction l with|nil=>intro _ _;trivial|cons f r g=>intro hs hl;let(hk,(L,o,a,h,ho,i),j):=hl;let c:=hs L (by unfold PM;rw[Wi,a];show ki);let(k,e):=I.base.slot L o ho (I.ok.TK L c) c λz=>I.ok.R3 L z c;show#[hk,#[L,_,a,h,e,i],g (λb d=>hs b (by unfold PM;rw[Wi,a];show ib _ d)) j]
 show all _ (λ_ d=>d) I.ok.j4
def Inv.stack(I:Inv X pins σ H s):s.heap.FunFrames X.base X.stack:=by
 obtain e|⟨e,a⟩:=I.ok.VF
 .rw[e];show I.j4
 rw[e];let(m,b,_):=I.loc;show .cons (by rw[I.ok.kind];decide) a b ?_ I.j4;show Heap.get?_none_of_le (pe I.ok.SD I.ok.above)
def Inv.nF(I:Inv X pins σ H s):∀b∈PM X.stack,b∈X.env.locals::X.fs:=λb a=>by
 obtain e|⟨e,c⟩:=I.ok.VF
 .simp_all
 rw[e]at a;unfold PM at a;rw[Wi,c]at a;show a
def Inv.j5(I:Inv X pins σ H s):∀b∈PM X.stack,H b=ef:=λb hb=>by
 obtain e|hb:=gb.mp (I.nF b hb)
 .rw[e];show I.free
 let(_,o,ho,_):=I.ok.j4.mem hb;show I.base.free b o ho (I.ok.TK b hb) λz=>I.ok.R3 b z hb
def Inv.step{ch:↑ke}(I:Inv X pins σ H s) (C:∀b∈ch,(b∈X.ex\/↥X.s₀<=b)/\b≠X.env.locals/\(∀x c,X.env.cells.lookup x\c->c≠b)/\∀p∈X.pn++pins,p.1≠b) (g:∀b o,b≠X.env.locals->b∉X.fs->b∉ch->s.heap.get? b\o->H b=ef->h'.get? b\o) (t:∀b o,b≠X.env.locals->b∈X.fs->b∉ch->s.heap.get? b\o->H b=ef->∃T,h'.get? b\{o with slots:=T}) (f:∀b o,b∉ch->s.heap.get? b\o->H b=ef->H' b=ef) (A:∀b o,b∉ch->s.heap.get? b\o->∃D,h'.get? b\D) (iq:∀b y,H b\.tup y->H' b\.tup y) (P9:∀b o u,H b\.QD o u->H' b\.QD o u) (Qi:∀b N,H b\.Ui N->∃G,H' b\.Ui (N++G)) (ns:∀m,s.heap.Ns X.env.locals m->h'.Ns X.env.locals m) (ON:P8 X.prog X.w H' h') (hg:ã g') :Inv X pins σ H' {s with heap:=h',gens:=g',drawn:=d',toks:=t' }:=by
 let J:∀b o,X.s₀.heap.get? b\o->b≠X.env.locals:=λb o e=>ku (lg (i8 e) I.ok.above);let O:∀b o,X.s₀.heap.get? b\o->b∉X.ex->b∉ch:=λb o e a B=>by
  obtain z|z:=(C b B).1
  .show a z
  show absurd (lg (i8 e) z) (y0 _)
 let h:∀x c,X.env.cells.lookup x\c->∀v,s.heap.IsCell c v->h'.IsCell c v:=λx c e v Pj=>by
  let(o,ho,Y):=Pj;let L:c∉ch:=λz=>(C c z).2.2.1 x c e 9;by_cases hc:c∈X.fs
  .let(T,q):=t c o (I.SE x c e) hc L ho (I.Pb x c e);show#[_,q,Y]
  show#[o,g c o (I.SE x c e) hc L ho (I.Pb x c e),Y]
 show#[I.ok,I.os,hg,#[λb o e n B a=>?_,λb o e n B a=>?_,λb o e n a=>?_,λb o e a=>?_,λb y e=>iq b y (I.base.iq b y e),λb o y e=>P9 b o y (I.base.P9 b o y e),λb N e=>?_],?_,λx c e=>?_,?_,λx c e=>?_,λp hp=>?_,ON,I.len]
 .show g b o (J b o e) B (O b o e a) (I.base.keep b o e n B a) (I.base.free b o e n a)
 .let(T,j):=I.base.slot b o e n B a;let(VG,Q):=t b _ (J b o e) B (O b o e a) j (I.base.free b o e n a);show#[VG,Q]
 .let(D,j):=I.base.there b o e a;show f b D (O b o e a) j (I.base.free b o e n a)
 .let(D,j):=I.base.there b o e a;show A b D (O b o e a) j
 .let(m1,j):=I.base.Qi b N e;let(m2,Q):=Qi b _ j;show#[m1++m2,by left]
 .let(m,hn,hl):=I.loc;show#[m,ns m hn,λi x v j Q e3=>?_];let(u,r,l):=hl i x v j Q e3;show#[u,r,?_];obtain l|⟨k,c,e,z⟩:=l
  .show .inl l
  show .inr #[k,c,e,h x c e _ z]
 .let(v,z):=I.cell x c e;show#[v,h x c e v z]
 .let(m,(o,_,_,ho,_),_):=I.loc;show f _ o (λz=>(C _ z).2.1 9) ho I.free
 .let(v,o,ho,Y):=I.cell x c e;show f c o (λz=>(C c z).2.2.1 x c e 9) ho (I.Pb x c e)
 let(e,n,ne,nf,d):=I.pin p hp;let L:p.1∉ch:=λz=>(C p.1 z).2.2.2 p hp 9;show#[g p.1 p.2 ne nf L e n,f p.1 p.2 L e n,ne,nf,d]
def Inv.un(I:Inv X pins σ H s)(u:Un X.fs [] H H' s.heap h')(d:P8 X.prog X.w H' h'):Inv X pins σ H' {s with heap:=h',toks:=t' }:=by let(m,(o,k,l,ho,r),_):=id I.loc;let(p,f):=u.any ho I.free 7;show I.step   (ch:=[]) (λ_ z=>nomatch z) (λb o _ a _ e n=>u.keep b o e n a 7) (λb o _ a _ e n=>u.slot b o e n a 7) (λb o _ e n=>u.free b o e n 7) (λb o _ e=>u.there b o e 7) u.iq u.P9 u.Qi (λq g=>by let(t,h,i,c,j):=g;rw[ho]at c;ext c;show#[_,h,i,f,j]) d I.bare
def Inv.call(I:Inv X pins σ H s)(u:Un (PM X.stack) h H H' s.heap h')(i:P8 X.prog X.w H' h')(j:ã k) (f:∀b∈h,(b∈X.ex\/↥X.s₀<=b)/\b≠X.env.locals/\(∀x c,X.env.cells.lookup x\c->c≠b)/\∀p∈X.pn++pins,p.1≠b) :Inv X pins σ H' {s with heap:=h',gens:=k,drawn:=A,toks:=B }:=by let(m,(o,C,D,ho,r),_):=id I.loc;let(G,d):=u.any ho I.free λz=>(f _ z).2.1 9;show I.step  f (λb o d l a e n=>u.keep b o e n (λz=>(gb.mp (I.nF b z)).elim d l) a) (λb o _ _ a e n=>u.any e n a) (λb o a e n=>u.free b o e n a) (λb o a e=>u.there b o e a) u.iq u.P9 u.Qi (λJ q=>by let(L,t,v,g,y):=q;rw[ho]at g;ext g;show#[_,t,v,d,y]) i j
def Inv.turned(I:Inv X pins σ H s)(k:∀b o,b≠it->s.heap.get? b\o->h'.get? b\o)(y:H it=ef)(d:it≠X.env.locals) (g:it∈X.ex\/↥X.s₀<=it) (h:∀x c,X.env.cells.lookup x\c->c≠it) (i:∀p∈X.pn++pins,p.1≠it):Inv X pins σ H {s with heap:=h',toks:=t' }:=by
 let f:∀b u,H b\u->b≠it:=λb u e z=>by left
 show I.step (g':=s.gens) (d':=s.drawn) (ch:=[it]) (λb j=>?_) (λb o _ _ a e _=>k b o (λz=>a (by simp[z])) e) (λb o _ _ a e _=>#[o.slots,k b o (λz=>a (by simp[z])) e]) (λ_ _ _ _ n=>n)
  (λb o a e=>#[o,k b o (λz=>a (by simp[z])) e]) (λ_ _ e=>e) (λ_ _ _ e=>e) (λb A e=>#[#v[],by left]) (λm l=>?_) (λb u e=>?_) I.bare
 .let e:b=it:=by exists j
  subst e;show#[g,d,h,i]
 .let(o,t,w,ho,r):=l;show#[o,t,w,k _ o (sg d) ho,r]
 show(I.ON b u e).mP (λc v a q=>k c v ?_ q) (λ_ q=>q) λ_ _ q=>q;obtain z|z:=a
 .rw[z];show f b u e
 show f c _ z
def Inv.tok(I:Inv X pins σ H s)(t):Inv X pins σ H {s with toks:=t}:=I.un  (t':=t) Un.refl I.ON
def Inv.kept(I:Inv X pins σ H s)(k:∀b u,s.heap.get? b\u->h'.get? b\u):Inv X pins σ H {s with heap:=h',toks:=t' }:=I.un (Un.kept k) (I.ON.kept k)
def Inv.laid(I:Inv X pins σ H s)(k:∀b u,s.heap.get? b\u->h'.get? b\u)(c:↥s<=a)(d:cJ X.prog X.w (upd H a o) h' a o):Inv X pins σ (upd H a o) {s with heap:=h',toks:=t' }:=I.un (Un.laid k c (I.ON.fresh c)) (I.ON.laid k c d)
def Inv.write(I:Inv X pins σ H s)(c:Wf (H x))(d:e=x\/H e\.own x)(k:∀b u,b≠e->s.heap.get? b\u->h'.get? b\u)(f:∃u,h'.get? e\u) (a:cJ X.prog X.w (upd H x o) h' x o):Inv X pins σ (upd H x o) {s with heap:=h',toks:=g }:=I.un (Un.write c d k f) (I.ON.write c d k f a)
def Inv.weak(I:Inv X pins σ H s)(hl:-a=-σ)(w:∀(i:8) v,a[i]?\b6 v->σ[i]?\b6 v):Inv X pins a H s :=#[I.ok,I.os,I.bare,I.base,let ⟨m,b,c⟩:=I.loc;⟨m,b,λi x v d e f=>c i x v d (w i v e) f⟩,I.cell,I.free,I.Pb,I.pin,I.ON,hl.trans I.len]
def Inv.fG(I:Inv X pins σ H s)(h:∀p∈a,s.heap.get? p.1\p.2/\H p.1=ef/\p.1≠X.env.locals/\p.1∉X.fs/\∀v,p.2.data≠.cell v):Inv X a σ H s :=#[I.ok,I.os,I.bare,I.base,I.loc,I.cell,I.free,I.Pb,λp b=>(my.mp b).elim (λz=>I.pin p (S0 _ z)) (h p),I.ON,I.len]
def j6{N:↑5}(c:N.Nodup){i j:8}(a:N[i]?\x)(b:N[j]?\x):i=j:=by let(f,d):=gr.mp a;let(g,e):=gr.mp b;show(ϓ c).mp (d.trans e.symm)
def qf(I:Inv X pins σ H s)(hN:X.N.Nodup)(G:X.N[i]?\x)(l:Loc X.env.scope x)(r:RelV v u) (h:∀Y,Inv X pins (σ.set i (b6 v)) H Y->(∃a,Hf a s.heap Y.heap/\(a=X.env.locals\/X.env.cells.lookup x\a))->Q () Y) (hf:X.fn x=4\/X.env.scope.names.lookup x\.local:=by first|show .inl 9|show .inr 9|assumption):gi M A (storeName X.env x u) Q E s:=by
 let(m,hn,hl):=id I.loc;let U1:(X.env.scope.kind==.class||(X.env.scope.kind==.module&&X.env.locals != X.env.globals))=df:=by rw[I.ok.kind];rfl
 let J:i < -σ:=by rw[I.len];show(gr.mp G).1
 let SE:=I.SE;let f:∀{a:ke} {h':Te},(∃o,s.heap.get? a\o/\H a=ef)->Hf a s.heap h'->P8 X.prog X.w H h':=λ{a h'} ha hs b ob e=>by
  let(_,_,Pn):=ha;show(I.ON b ob e).mP (λc w' t q=>(hs.2 c ?_).trans q) (λ_ q=>q) λ_ _ q=>q
  grind
 obtain hk|hk:=l
 .show wpAny_storeName_local hk hn (λh' Um hs=>?_) U1;let(oL,_,_,TL,_):=id hn;show h _ #[I.ok,I.os,I.bare,#[λb o e n C l=>?_,λb o e n C l=>?_,I.base.free,λb o e l=>?_,I.base.iq,I.base.P9,I.base.Qi],#[_,Um,λj y v' g B e3=>?_],λy c e=>?_,I.free,I.Pb,λp hp=>?_,f #[oL,TL,I.free] hs,by exists I.len] ⟨_,hs,.inl 9⟩
  .show(hs.2 b (ku (lg (i8 e) I.ok.above))).trans (I.base.keep b o e n C l)
  .let(sl,g):=I.base.slot b o e n C l;show#[sl,(hs.2 b (ku (lg (i8 e) I.ok.above))).trans g]
  .let(o',g):=I.base.there b o e l;show#[o',(hs.2 b (ku (lg (i8 e) I.ok.above))).trans g]
  .by_cases D:j=i
   .subst D;rw[G]at g;ext g;rw[i4 J]at B;ext B;show#[u,r,.inl #[hk,by simp]]
   rw[ko (sg D)]at B;let(u',r',q):=hl j y v' g B e3;show#[u',r',?_];obtain⟨k,e⟩|⟨k,c,e,z⟩:=q
   .show .inl #[k,?_];let:y≠x:=λe=>D (j6 hN g (e▸G));simp[this,e]
   show .inr #[k,c,e,z.sameBut hs (SE y c e)]
  .let(w',z):=I.cell y c e;show#[w',z.sameBut hs (SE y c e)]
  let(e,n,O,nf,d):=I.pin p hp;show#[(hs.2 p.1 O).trans e,n,O,nf,d]
 let SF:X.fn x=4:=by left
 let(c,t):=I.ok.has x (.inl hk);let(w',z):=I.cell x c t;show wpAny_storeName_cell I.ok.kind hk t z (λh' VH hs=>?_);let(oc,ab,ac):=id z;show h {s with heap:=h' } ⟨I.ok,I.os,I.bare,⟨λb o e n C l=>?_,λb o e n C l=>?_,I.base.free,λb o e l=>?_,I.base.iq,I.base.P9,I.base.Qi⟩,⟨m,hn.sameBut hs (sg (SE x c t)),λj y v' g B e3=>?_⟩,λy T e=>?_,I.free,I.Pb,λp hp=>?_,f ⟨oc,ab,I.Pb x c t⟩ hs,by exists I.len⟩ ⟨c,hs,.inr t⟩
 .show(hs.2 b (ku (lg (i8 e) (I.ok.U0 x c SF t)))).trans (I.base.keep b o e n C l)
 .let(sl,g):=I.base.slot b o e n C l;show#[sl,(hs.2 b (ku (lg (i8 e) (I.ok.U0 x c SF t)))).trans g]
 .let(o',g):=I.base.there b o e l;show#[o',(hs.2 b (ku (lg (i8 e) (I.ok.U0 x c SF t)))).trans g]
 .by_cases D:j=i
  .subst D;rw[G]at g;ext g;rw[i4 J]at B;ext B;show#[u,r,.inr #[.inl hk,c,t,VH]]
  rw[ko (sg D)]at B;let(u',r',q):=hl j y v' g B e3;show#[u',r',?_];obtain q|⟨k,T,e,z'⟩:=q
  .show .inl q
  show .inr #[k,T,e,z'.sameBut hs ?_];rintro rfl;show D (j6 hN g (I.ok.inj _ _ _ e t▸G))
 .by_cases L:T=c
  .subst L;show#[_,VH]
  let(w2,z2):=I.cell y T e;show#[w2,z2.sameBut hs L]
 let(e,n,O,nf,d):=I.pin p hp;show#[(hs.2 p.1 ?_).trans e,n,O,nf,d];intro q;left
def nG(I:Inv X pins σ H s)(b:X.N.Nodup)(c:X.N[i]?\x)(d:Loc X.env.scope x)(r:RelV v u) (h:∀a,Inv X pins (σ.set i (b6 v)) H a->Q () a) (e:X.fn x=4\/X.env.scope.names.lookup x\.local:=by first|show .inl 9|show .inr 9|assumption):gi M A (storeName X.env x u) Q E s :=qf I b c d r (λa f _=>h a f) e
def Inv.He(I:Inv X pins σ H s)(ho:a.os=s.os)(u:Un (PM X.stack) ch H H' s.heap a.heap)(d:P8 X.prog X.w H' a.heap)(f:ã a.gens) (g:∀b∈ch,(b∈X.ex\/↥X.s₀<=b)/\b≠X.env.locals/\(∀x c,X.env.cells.lookup x\c->c≠b)/\∀p∈X.pn++pins,p.1≠b):Inv X pins σ H' a:=by let(h',h,i,j,k):=a;let e:=ho;subst e;show I.call    u d f g
end
abbrev XK:=i7->Option ke->Hp->6
abbrev St:=↑(Option V)
abbrev VK:=V->Hp->6
abbrev TE:=St->Hp->VK->6
abbrev TT:=St->Hp->(Bool->Hp->6)->6
abbrev TA:=St->Hp->(↑V->Hp->6)->6
structure Ends where
 nx:St->Hp->6
 rt:VK
 bk:St->Hp->6:=λ_ _=>False
 ct:St->Hp->6:=λ_ _=>False
abbrev TS:=Ends->St->Hp->6
inductive EP(X:Cx)(pins:↑(ke×Obj))(σ:St)(Q:VK)(u:i7)(s':kj):6|mk (v:V) (H':Hp):Inv X pins σ H' s'->RelV v u->Q v H'->EP X pins σ Q u s'
def TP(X:Cx)(a:↑(ke×Obj))(σ:St)(Q:Bool->Hp->6)(b:Bool)(d:kj):6:=∃c,Inv X a σ c d/\Q b c
inductive AP(X:Cx)(pins:↑(ke×Obj))(σ:St)(Q:↑V->Hp->6)(us:↑i7)(s':kj):6|mk (vs:↑V) (H':Hp):Inv X pins σ H' s'->Vals vs us->Q vs H'->AP X pins σ Q us s'
def SP(X:Cx)(a:↑(ke×Obj))(D:Ends)(f:Flow)(d:kj):6 :=match f with|.next=>∃c b,Inv X a c b d/\D.nx c b|.brk=>∃c b,Inv X a c b d/\D.bk c b|.cont=>∃c b,Inv X a c b d/\D.ct c b|.ret u=>∃v c b,Inv X a c b d/\RelV v u/\D.rt v b
def PE(X:Cx)(e:nS)(t:TE):6 :=∀(a:↑(ke×Obj)) (s:kj) (σ:St) (H:Hp) (Q:VK),Inv X a σ H s->t σ H Q->‹X› (uv e X.env) (EP X a σ Q) X.xe s
def PT(X:Cx)(e:nS)(t:TT):6 :=∀(a:↑(ke×Obj)) (s:kj) (σ:St) (H:Hp) (Q:Bool->Hp->6),Inv X a σ H s->t σ H Q->‹X› (isTrue e X.env (uv e X.env)) (TP X a σ Q) X.xe s
def PW(X:Cx)(e:nS)(t:TT):6 :=∀(b:Sem i7) (a:↑(ke×Obj)) (s:kj) (σ:St) (H:Hp) (Q:Bool->Hp->6),Inv X a σ H s->t σ H Q->‹X› (isTrue e X.env b) (TP X a σ Q) X.xe s
def PW.pt(h:PW X e t):PT X e t:=h _
def PA(X:Cx)(c:↑nS)(t:TA):6 :=∀(b:Pos) (a:↑(ke×Obj)) (s:kj) (σ:St) (H:Hp) (Q:↑V->Hp->6),Inv X a σ H s->t σ H Q->‹X› (spliced (QX b (j0 c X.env))) (AP X a σ Q) X.xe s
def PS(X:Cx)(st:RO)(t:TS):6 :=∀(a:↑(ke×Obj)) (s:kj) (σ:St) (H:Hp) (D:Ends),Inv X a σ H s->t D σ H->‹X› (exec st X.env) (SP X a D) X.xe s
def Qj(X:Cx)(st:↑RO)(t:TS):6 :=∀(a:↑(ke×Obj)) (s:kj) (σ:St) (H:Hp) (D:Ends),Inv X a σ H s->t D σ H->‹X› (execs st X.env) (SP X a D) X.xe s
def OV(h:gi M A t Q E s)(b:∀a s,Q a s->c a s):gi M A t c E s:=mu h b λ_ _ x=>x
def AQ(i:8):TE:=λσ H Q=>∃v,σ[i]?\b6 v/\Q v H
def tC(v:V):TE:=λ_ H Q=>Q v H
def br(j:X.N[i]?\x)(k:PV X.env.scope x)(d:(x==("__debug__":5))=df:=by decide)(n:(x==("__classdict__":5))=df:=by decide):PE X (.Name x pos) (AQ i):=by
 intro b s σ H Q I h;let(v,e,h):=h;let(m,o,hl):=I.loc;let(u,r,l):=hl i x v j e k;let a:EP X b σ Q u s:=#[v,H,I,r,h]
 obtain⟨hk,p⟩|⟨hk,c,f,g⟩:=l
 .show ϵ (wpAny_loadName_local I.ok.kind hk o p a) d
 obtain hk|hk:=hk
 .show ϵ (wpAny_loadName_cell I.ok.kind hk f g a) d
 show ϵ (wpAny_loadName_free I.ok.kind hk f g a n) d
def vB:PE X (.Constant (.int i) j a) (tC (.int i)):=λ_ _ _ H _ I h=>wpAny_Constant_int #[.int i,H,I.tok _,#[_,9],h]
def Hg:PE X (.Constant (.bool b) j a) (tC (.bl b)):=λ_ _ _ H _ I h=>Constant_bool #[.bl b,H,I,9,h]
def AR:PE X (.Constant .none j a) (tC .OP):=λ_ _ _ H _ I h=>Constant_none #[.OP,H,I,9,h]
def AS:PE X (.Constant (.str x) j a) (tC (.str x)):=λ_ _ _ H _ I h=>Â #[.str x,H,I.tok _,#[_,9],h]
def Gl(X:Cx)(x:5):6:=X.env.kindOf x\.globalImplicit
def eO(I:Inv X a σ H s)(b:Gl X x)(c:X.mg x\u)(h:Q u s) (d:(x==("__debug__":5))=df:=by decide):‹X› (uv (.Name x e) X.env) Q E s :=ń I.ok.kind b (Calls.loadGlobal_global (by rw[I.ok.glob];show I.mod.glob.keeps I.bk) c h) d
def dr(I:Inv X a σ H s)(b:Gl X x)(c:X.mg x=ef)(d:H8 x\u)(h:Q u s) (e:x≠"__name__":=by decide) (f:(x==("__debug__":5))=df:=by decide):‹X› (uv (.Name x g) X.env) Q E s:=by let(k,i,j):=I.mod.blt;show ń I.ok.kind b (Calls.loadGlobal_builtin (by rw[I.ok.glob];show I.mod.glob.keeps I.bk) c (by rw[I.ok.blt];show i.keeps I.bk) ((j x e).trans d) h) f
def EB(a:Gl X x)(b:X.mg x\u)(r:RelV v u)(c:(x==("__debug__":5))=df:=by decide):PE X (.Name x d) (tC v) :=λ_ _ _ H _ I h=>eO I a b #[v,H,I,r,h] c
def xQ(a:Gl X x)(b:X.mg x=ef)(c:H8 x\u)(r:RelV v u)(d:x≠"__name__":=by decide)(e:(x==("__debug__":5))=df:=by decide):PE X (.Name x f) (tC v) :=λ_ _ _ H _ I h=>dr I a b c #[v,H,I,r,h] d e
def PC(X:Cx)(d:CmpOp)(a b:nS)(t:TE):6 :=
 ∀(c:↑(ke×Obj)) (s:kj) (σ:St) (H:Hp) (Q:VK),Inv X c σ H s->t σ H Q ->
  ‹X› (uv a X.env) (λv e=>‹X› (uv b X.env) (λu f=>‹X› (TY d v u) (EP X c σ Q) X.xe f) X.xe e) X.xe s
def tB(t:TE):TT:=λσ H Q=>t σ H λx a=>∃c,x=.bl c/\Q c a
def AU(h:PC X g a b t)(f:Á g b=df:=by first|show p _ 7 7|rfl):PT X (.Compare a [g] [b] i) (tB t):=by intro e s σ H Q I j;show Ā (OV (h e s σ H _ I j) λv r f=>OV f λu w k=>OV k λc y ⟨x,l,m,n,o⟩=>?_) f;let(d,rfl,q):=o;ext n;show RM #[l,m,q]
def NM(t u:TT):TT:=λσ H Q=>t σ H λc a=>if c=4 then u σ a Q else Q df a
def tOr(t u:TT):TT:=λσ H Q=>t σ H λc a=>if c=4 then Q 4 a else u σ a Q
def NO(t:TT):TT:=λσ H Q=>t σ H λc a=>Q (!c) a
def EC(d:PT X a f):PW X (.BoolOp .And [a] g) f:=by intro i b s σ H Q I h;show isTrue_and (OV (d b s σ H Q I h) λc j e=>?_);cases c with|true=>show isTrue_and_nil e|false=>show e
def Ic(d:PT X a f):PW X (.BoolOp .Or [a] g) f:=by intro i b s σ H Q I h;show isTrue_or (OV (d b s σ H Q I h) λc j e=>?_);cases c with|false=>show isTrue_or_nil e|true=>show e
def Ie(l:PT X a m)(n:PW X (.BoolOp .And (b::e) f) o):PW X (.BoolOp .And (a::b::e) f) (NM m o):=by intro p d s σ H Q I h;show isTrue_and (OV (l d s σ H _ I h) λc q g=>?_);let(i,j,k):=g;cases c with|true=>show n p d q σ i Q j k|false=>show#[i,j,k]
def Li(l:PT X a m)(n:PW X (.BoolOp .Or (b::e) f) o):PW X (.BoolOp .Or (a::b::e) f) (tOr m o):=by intro p d s σ H Q I h;show isTrue_or (OV (l d s σ H _ I h) λc q g=>?_);let(i,j,k):=g;cases c with|true=>show#[i,j,k]|false=>show n p d q σ i Q j k
def Ig(c:PT X a d):PT X (.UnaryOp .Not a e) (NO d):=by intro b s σ H Q I h;show isTrue_not (c b s σ H _ I h)
def Lj(b tb:TE):TE:=λσ H Q=>b σ H λx a=>∃c,x=.bl c/\if c=4 then tb σ a Q else Q (.bl df) a
def NP(b tb:TE):TE:=λσ H Q=>b σ H λx a=>∃c,x=.bl c/\if c=4 then Q (.bl 4) a else tb σ a Q
def Lk(a:TE):TE:=λσ H Q=>a σ H λx b=>∃c,x=.bl c/\Q (.bl (!c)) b
def AV(h:PE X a t):PE X (.BoolOp e [a] c) t:=λb s σ H Q I d=>BoolOp_one (h b s σ H Q I d)
def Ih(l:PE X a m)(n:PE X (.BoolOp .And (b::e) g) tb):PE X (.BoolOp .And (a::b::e) g) (Lj m tb):=by intro d s σ H Q I h;show BoolOp_and (OV (l d s σ H _ I h) λv o i=>?_);let(x,j,k,p,f):=i;let(c,rfl,f):=f;ext p;show RM ?_;cases c with|true=>show n d o σ j Q k f|false=>show#[.bl _,j,k,9,f]
def Ll(l:PE X a m)(n:PE X (.BoolOp .Or (b::e) g) tb):PE X (.BoolOp .Or (a::b::e) g) (NP m tb):=by intro d s σ H Q I h;show BoolOp_or (OV (l d s σ H _ I h) λv o i=>?_);let(x,j,k,p,f):=i;let(c,rfl,f):=f;ext p;show RM ?_;cases c with|false=>show n d o σ j Q k f|true=>show#[.bl 4,j,k,9,f]
def Ii(f:PE X a g):PE X (.UnaryOp .Not a i) (Lk g):=by intro b s σ H Q I h;show UnaryOp_ (OV (f b s σ H _ I h) λv m d=>?_);let(x,j,k,l,e):=d;let(c,rfl,e):=e;ext l;show not_of (RM #[.bl (!c),j,k,9,e])
def Py(K:W.Frag)(H:Hp)(a:ke)(c:↑V):6 :=
 Rd H a (.lst c) \/
  ∃(o:Obj) (b:Array i7) (n:8),K.lookup a\o/\o.cls=.type "list"/\o.dict=ef/\o.data=.seq b n/\b.size<=ei/\Vals c b.toList
def Pu(K:W.Frag)(H:Hp)(a:ke)(c:↑V):6 :=
 Rd H a (.tup c) \/
  ∃(o:Obj) (b:Array i7) (n:8),K.lookup a\o/\o.cls=.type "tuple"/\o.data=.seq b n/\b.size<=ei/\Vals c b.toList
def NQ:i7->Option V|.none=>b6 .OP|.bool b=>b6 (.bl b)|.int i _=>b6 (.int i)|.str x _=>b6 (.str x)|.bytes b _=>b6 (.SA b)|.float b _=>b6 (.We b)|.ref a=>b6 (.ref a)|.type n=>b6 (.ty n)|_=>ef
def RelV.abs(r:RelV x u):NQ u\x:=by cases x with|OP=>ext r;rfl|bl _=>ext r;rfl|ref _=>ext r;rfl|ty _=>ext r;rfl|_=>let(t,rfl):=r;rfl
def RelV.inj(r:RelV x u)(q:RelV y u):x=y:=R' (r.abs.symm.trans q.abs)
theorem Vals.inj:∀{a b}{c},Vals a c->Vals b c->a=b|_,_,_,.nil,.nil=>9|_,_,_,.cons r t,.cons d e=>by rw[r.inj d,Vals.inj t e]
def Py.of{K}(h:H a\.lst b):Py K H a b:=.inl (.inl h)
def Pu.of{K}(h:H a\.tup b):Pu K H a b:=.inl (.inl h)
inductive IvL(s:kj)(a:ke)(xs:↑V):6|mk (G':↑i7):Vals xs G'->PlainL s.heap a G'.toArray->⇑xs<=ei->IvL s a xs
def Inv.list(I:Inv X c σ H s)(h:Py X.K H a d):IvL s a d:=by
 obtain h|⟨o,b,n,hk,f,g,hs,i,r⟩:=h
 .let(z,b,n,r,e):=h.ok I.ON;show#[b,r,#[_,n,e,9,9,9],z]
 show#[b.toList,r,#[o,n,I.QA a o hk,f,g,by exists hs],?_];let e:=-r;erw[sP]at e;lia
inductive IvT(s:kj)(a:ke)(xs:↑V):6|mk (G':↑i7):Vals xs G'->Ĩ s.heap a G'.toArray->⇑xs<=ei->IvT s a xs
def Inv.tuple(I:Inv X c σ H s)(h:Pu X.K H a d):IvT s a d:=by
 obtain h|⟨o,b,n,hk,f,hs,g,r⟩:=h
 .let(z,b,r,p):=h.ok I.ON;show#[b,r,p,z]
 show#[b.toList,r,#[o,I.QA a o hk,f,n,by exists hs],?_];let e:=-r;erw[sP]at e;lia
def Inv.tL(I:Inv X c σ H s)(h:Py X.K H a f)(g:Py X.K H a i):f=i:=by
 let(j,r,(o,n,e,_,_,d),_):=I.list h;let(b,k,(l,m,p,_,_,q),_):=I.list g;let:j=b:=7
 subst this;show r.inj k
def Inv.qg(I:Inv X c σ H s)(h:Pu X.K H a f)(g:Pu X.K H a i):f=i:=by
 let(j,r,(o,e,_,n,d),_):=I.tuple h;let(b,k,(l,m,_,p,q),_):=I.tuple g;let:j=b:=7
 subst this;show r.inj k
abbrev Cx.fP(X:Cx)(E:i7->kj->6):Cx:={X with xe:=E}
abbrev Cx.P4(X:Cx):Cx:=X.fP λ_ _=>False
def Cx.Ok.fP{X:Cx}(a:X.Ok)(E):((X.fP E).Ok):=#[a.mod,a.kind,a.glob,a.blt,a.above,a.inj,a.has,a.U0,a.hd,a.frames,a.VF,a.Xx,a.bs,a.SD,a.Ru,a.R3,a.j4,a.TK]
def Cx.Ok.da{X:Cx}(a:(X.fP E).Ok):(X.Ok):=#[a.mod,a.kind,a.glob,a.blt,a.above,a.inj,a.has,a.U0,a.hd,a.frames,a.VF,a.Xx,a.bs,a.SD,a.Ru,a.R3,a.j4,a.TK]
def Inv.fP(I:Inv X a σ H s)(E):Inv (X.fP E) a σ H s:=#[I.ok.fP E,I.os,I.bare,I.base,I.loc,I.cell,I.free,I.Pb,I.pin,I.ON,I.len]
def Inv.da(I:Inv (X.fP E) a σ H s):Inv X a σ H s:=#[I.ok.da,I.os,I.bare,I.base,I.loc,I.cell,I.free,I.Pb,I.pin,I.ON,I.len]
def SP.da(h:SP (X.fP E) a D f d):SP X a D f d:=by cases f with|ret u=>let(v,b,c,I,r,q):=h;show#[v,b,c,I.da,r,q]|_=>let(b,c,I,q):=h;show#[b,c,I.da,q]
def Qj.P4{st}(h:Qj X.P4 st t):Qj X st t:=λa s σ H D I b=>mu (h a s σ H D (I.fP _) b) (λ_ _ q=>q.da) λ_ _ z=>Uo z
section
variable{X:Cx}{st:RO}{rest:List RO}{t u:TS}{e:nS}{te:TE}{pos:Pos}
def Lm:TS:=λD σ H=>D.nx σ H
def Ln(t u:TS):TS:=λD σ H=>t {D with nx:=u D} σ H
def mY:Qj X [] Lm:=λ_ _ σ H _ I h=>Y8 #[σ,H,I,h]
def fc(b:PS X st t)(c:Qj X rest u):Qj X (st::rest) (Ln t u):=by intro a s σ H D I h;show ŉ (OV (b a s σ H _ I h) λf d q=>?_);cases f with|next=>let(g,i,j,q):=q;show c a d g i D j q|_=>show q
def Inv.quiet(I:Inv X a σ H s):interactive X.env=df:=by simp[interactive,I.ok.kind]
def AW(te:TE):TS:=λD σ H=>te σ H λ_ a=>D.nx σ a
def iU(b:PE X e te)(hs:WQ e ef pos.line X.env=pure df:=by rfl):PS X (.Expr e pos) (AW te):=by intro a s σ H D I h;show Ũ (OV (b a s σ H _ I h) λv g ⟨x,c,d,i,f⟩=>#[σ,c,d,f]) I.quiet hs
def NR(te:TE):TS:=λD σ H=>te σ H D.rt
def Ij(b:PE X e te):PS X (.Return (b6 e) pos) (NR te):=by intro a s σ H D I h;show Ľ (OV (b a s σ H _ I h) λv i ⟨x,c,d,f,g⟩=>#[x,σ,c,d,f,g])
def NT(c:TT)(t u:TS):TS:=λD σ H=>c σ H λb a=>if b=4 then t D σ a else u D σ a
def Lo(m:PT X c n)(o:Qj X a t)(p:Qj X b u):PS X (.If c a b pos) (NT n t u):=by intro f s σ H D I h;show wpAny_If (OV (m f s σ H _ I h) λd i g=>?_);let(j,k,l):=g;cases d with|true=>show o f i σ j D k l|false=>show p f i σ j D k l
end
abbrev TG:=V->St->Hp->(St->Hp->6)->6
abbrev VI:=↑V->St->Hp->(St->Hp->6)->6
def PG(X:Cx)(a:nS)(t:TG):6 :=
 ∀(b:↑(ke×Obj)) (s:kj) (σ:St) (H:Hp) (v:V) (u:i7) (Q:St->Hp->6),Inv X b σ H s->RelV v u->t v σ H Q ->
  ‹X› (ç a X.env u) (λ_ e=>∃c d,Inv X b c d e/\Q c d) X.xe s
def Wm(X:Cx)(f:↑nS)(t:VI):6 :=
 ∀(a:↑(ke×Obj)) (s:kj) (σ:St) (H:Hp) (b:↑V) (c:↑i7) (Q:St->Hp->6),Inv X a σ H s->Vals b c->t b σ H Q ->
  ‹X› (assignInOrder ((ZY f X.env).map (·.2)) c) (λ_ g=>∃d e,Inv X a d e g/\Q d e) X.xe s
abbrev Il:=V->V->V->Hp->(Hp->6)->6
def qX(X:Cx)(t:Il):6 :=
 ∀(a:↑(ke×Obj)) (s:kj) (σ:St) (H:Hp) (o i v:V) (b c u:i7) (Q:Hp->6),Inv X a σ H s->RelV o b->RelV i c->RelV v u->t o i v H Q ->
  ‹X› (õ b c u) (λ_ e=>∃d,Inv X a σ d e/\Q d) X.xe s
abbrev YI:=V->V->Hp->VK->6
def Xz(X:Cx)(b:ϝ)(t:YI):6 :=
 ∀(a:↑(ke×Obj)) (s:kj) (σ:St) (H:Hp) (x y:V) (v u:i7) (Q:VK),Inv X a σ H s->RelV x v->RelV y u->t x y H Q ->
  ‹X› (inplaceOp b v u) (EP X a σ Q) X.xe s
def tM(i:8):TG:=λv σ H Q=>Q (σ.set i (b6 v)) H
def xR(b:X.N.Nodup)(c:X.N[i]?\x)(d:Loc X.env.scope x)(e:X.fn x=4\/X.env.scope.names.lookup x\.local:=by first|show .inl 9|show .inr 9|assumption):PG X (.Name x f) (tM i):=by intro a s σ H v u Q I r h;show aal (nG I b c d r (λj g=>#[_,H,g,h]) e)
def Lp:VI:=λa σ H Q=>a=[]/\Q σ H
def Hh(t:TG)(u:VI):VI:=λa σ H Q=>∃v r,a=v::r/\t v σ H λb c=>u r b c Q
def ED:Wm X [] Lp:=by intro a s σ H b c Q I r h;let(e,h):=h;show assignInOrder_nil #[σ,H,I,h]
def AX(d:PG X e t)(f:Wm X b u) (hs:(ZY (e::b) X.env).map (·.2)=ç e X.env::(ZY b X.env).map (·.2):=by rfl):Wm X (e::b) (Hh t u):=by intro a s σ H o p Q I r h;let(v,q,g,h):=h;subst g;cases r with|cons r i=>rw[hs];show assignInOrder_cons (OV (d a s σ H _ _ _ I r h) λ_ j c=>?_);let(k,l,m,n):=c;show f a j k l _ _ Q m i n
def NU(K:W.Frag)(n:8)(t:VI):TG:=λv σ H Q=>∃a b,v=.ref a/\Pu K H a b/\-b=n/\t b σ H Q
def Im(g:X.calm=4)(h:Wm X d t) (i:-ZY d X.env=n:=by rfl) (j:(ZY d X.env).findIdx? (·.1)=ef:=by rfl):PG X (.Tuple d k l) (NU X.K n t):=by intro c s σ H v u Q I r f;let(a,m,p,q,hl,f):=f;subst p;ext r;let(A,w,x,B):=I.tuple q;show assign_Tuple_tuple (I.ok.hd g) x (by simp[i,<-hl,⇑w]) j λC y=>?_;let z:=I.kept (t':=s.toks) λb o e=>y b o (ku (i8 e)) e;show h c _ σ H m _ Q z 7 f
def NV(a b:TE)(t:Il):TG:=λv σ H Q=>a σ H λo c=>b σ c λi d=>t o i v d λe=>Q σ e
def AY(ho:PE X o g)(j:PE X i k)(hs:qX X t) (l:∀v,ç (.Subscript o i c) X.env v=(do
   let b <-VE [v] (uv o X.env)
   let d <-VE [v,b] (uv i X.env)
   ĕ c
   VE [v,b,d] (õ b d v)
   Ŀ [v,b,d] []):=by intro _;rfl):PG X (.Subscript o i c) (NV g k t):=by
 intro a s σ H v u Q I r h;rw[l];show cb (K' (OV (ho a s σ H _ I h) λb m e=>?_));let(x,n,p,q,w):=e;show cb (K' (OV (j a m σ n _ p w) λd z f=>?_));let(y,A,B,C,D):=f;show cb (ſ (cb (K' (OV (hs a z σ A x y v b d u _ B q C r D) λ_ O G=>?_))));let(J,L,N):=G;show wpAny_release #[σ,J,L,N]
def AZ(a:TE)(g:TG):TS:=λD σ H=>a σ H λx b=>g x σ b D.nx
def A0(d:PE X e f)(i:PG X b g)(hs:ģ [b] e c.line X.env=pure df:=by rfl)(j:Ε [b] e X.env=pure ef:=by rfl) (k:(ZY [b] X.env).map (·.2)=[ç b X.env]:=by rfl):PS X (.Assign [b] e c) (AZ f g):=by intro a s σ H D I h;show wpAny_Assign_stores (OV (d a s σ H _ I h) λv l ⟨x,m,n,o,p⟩=>?_) hs j;rw[k];show OV (i a l σ m x v _ n o p) λ_ r q=>q
def qY(d:X.N.Nodup)(f:X.N[i]?\x)(g:Loc X.env.scope x)(j:PE X e k)(hs:WQ e (b6 (.Name x a)) c.line X.env=pure df:=by rfl)(l:X.fn x=4\/X.env.scope.names.lookup x\.local:=by first|show .inl 9|show .inr 9|assumption):PS X (.Assign [.Name x a] e c) (AZ k (tM i)):=by intro b s σ H D I h;show wpAny_Assign_Name (OV (j b s σ H _ I h) λv r ⟨y,m,n,o,p⟩=>?_) hs;show nG n d f g o (λt q=>#[_,m,q,p]) l
def Lq(a b c:TE)(d:V->V->Hp->VK->6)(e:YI)(f:Il):TS:=λD σ H=>a σ H λo g=>b σ g λi h=>d o i h λx j=>c σ j λy k=>e x y k λz l=>f o i z l λm=>D.nx σ m
def Lr(X:Cx)(t:V->V->Hp->VK->6):6 :=
 ∀(a:↑(ke×Obj)) (s:kj) (σ:St) (H:Hp) (o i:V) (b c:i7) (Q:VK),Inv X a σ H s->RelV o b->RelV i c->t o i H Q ->
  ‹X› (Ê b c) (EP X a σ Q) X.xe s
def EF(ho:PE X o n)(p:PE X i q)(r:Lr X t)(u:PE X e w)(x:Xz X y z)(hs:qX X A) (B:∀c d b,augStore i c d b=(do VE [b,c,d] (õ c d b);Ŀ [b,c,d] [];pure .next):=by intros;rfl):PS X (.AugAssign (.Subscript o i g) y e C) (Lq n q w t z A):=by intro a s σ H D I h;show wpAny_AugAssign_SubscriptAny (OV (ho a s σ H _ I h) λc G ⟨j,J,L,k,N⟩=>?_) B;show OV (p a G σ J _ L N) λd O Q=>?_;let(l,T,Y,m,q2):=Q;show OV (r a O σ T j l c d _ Y k m q2) λf s3 YM=>?_;let(x3,H3,I3,r3,q3):=YM;show OV (u a s3 σ H3 _ I3 q3) λv s4 YN=>?_;let(x4,H4,I4,r4,q4):=YN;show OV (x a s4 σ H4 x3 x4 f v _ I4 r3 r4 q4) λb s5 YO=>?_;let(x5,H5,I5,r5,q5):=YO;show OV (hs a s5 σ H5 j l x5 c d b _ I5 k m r5 q5) λ_ s6 ⟨H6,I6,q6⟩=>#[σ,H6,I6,q6]
def YQ(f:Int->Int->Int):YI:=λx y H Q=>∃i j,x=.int i/\y=.int j/\Q (.int (f i j)) H
def Io:Xz X .Add (YQ λi j=>i+j):=by intro a s σ H x y v u Q I b c h;let(i,j,d,e,q):=h;subst d;subst e;let(t,rfl):=b;let(f,rfl):=c;show iadd_int #[.int _,H,I.tok _,#[_,9],q]
def Ip:Xz X .Sub (YQ λi j=>i - j):=by intro a s σ H x y v u Q I b c h;let(i,j,d,e,q):=h;subst d;subst e;let(t,rfl):=b;let(f,rfl):=c;show isub_int #[.int _,H,I.tok _,#[_,9],q]
def Iq(c:TT)(tb:TS):TS:=λD σ H=>∃W:8->St->Hp->6,(∃m,W m σ H)/\∀m σ H,W m σ H ->
 c σ H λb a=>if b=4 then ∃N:St->Hp->6,(∀d e,N d e->∃f,f<m/\W f d e)/\tb {D with nx:=N,ct:=N,bk:=D.nx} σ a else D.nx σ a
def A1(r:ŏ (i5 X.prog X.w) X.A X.env X.xe)(B:PT X c C)(G:Qj X d tb):PS X (.While c d [] J) (Iq C tb):=by
 intro a s σ H D I h;let(W,(m0,L),e):=h;show wpAny_While (codeAny_whileLoop (λn O=>∃t u,Inv X a t u O/\W n t u) ?_ m0 ⟨σ,H,I,L⟩);rintro n Q ⟨j,v,T,w1⟩;show XQ r (OV (B a Q j v _ T (e n j v w1)) λb Y YR=>?_);let(x,y,k):=YR;cases b with
 |true =>
  let(N,z,k):=k;show XQ r (OV (G a Y j x _ y k) λf s3 l=>?_);cases f with
  |next=>let(g,i,m,o):=l;let(p,q,w3):=z g i o;show#[p,q,g,i,m,w3]
  |cont=>let(g,i,m,o):=l;let(p,q,w3):=z g i o;show#[p,q,g,i,m,w3]
  |_=>show l
 |false=>show Y8 #[j,x,y,k]
structure It where
 go:8->Hp->6
 Wn:8->Hp->V->Hp->6
 stop:8->Hp->6
def ic(X:Cx)(a:↑(ke×Obj))(H:Hp)(b:ke):6 :=H b=ef/\b≠X.env.locals/\b∉X.fs/\(b∈X.ex\/↥X.s₀<=b)/\(∀x c,X.env.cells.lookup x\c->c≠b)/\∀p∈X.pn++a,p.1≠b
def Inv.A2(I:Inv X a σ H s)(d:↥s<=b)(f:g b=ef):ic X a g b:=by
 show#[f,Sv (lg I.lt d),I.Ib d,.inr (pe I.sz d),λx c e z=>?_,λp h z=>?_]
 .let(v,q):=I.cell x c e;show absurd (lg q.lt 7) (y0 _)
 show absurd (lg (i8 (I.pin p h).1) 7) (y0 _)
structure Turn(P:DD)(w:Q1)(K:W.Frag)(tg:nS)(J:It)(fp:↑ke)(it:ke)(tn:8->Te->6):6 where
 mem:it∈fp
 obj:∀i h,tn i h->∀b∈fp,∃o,h.get? b\o/\∀v,o.data≠.cell v
 keep:∀i h h',tn i h->(∀b∈fp,∀o,h.get? b\o->h'.get? b\o)->tn i h'
 item:∀(X:Cx),X.prog=P->X.w=w->X.K=K->X.calm=4->∀(i:8) (pins:↑(ke×Obj)) (s:kj) (σ:St) (H:Hp) (E:i7->kj->6),Inv X pins σ H s->(∀b∈fp,ic X pins H b)->tn i s.heap->J.go i H ->
  gi (i5 P w) X.A (YW (.ref it)) (λr s1=>∃u,r\u /\
   gi (i5 P w) X.A (þ tg (.ref it) u) (λ_ s2=>∃x H',Inv X pins σ H' s2/\RelV x u/\J.Wn i H x H'/\tn (i+1) s2.heap/\∀b∈fp,H' b=ef) E s1) E s
 done:∀(X:Cx),X.prog=P->X.w=w->X.K=K->X.calm=4->∀(i:8) (pins:↑(ke×Obj)) (s:kj) (σ:St) (H:Hp) (E:i7->kj->6),Inv X pins σ H s->(∀b∈fp,ic X pins H b)->tn i s.heap->J.stop i H ->
  gi (i5 P w) X.A (YW (.ref it)) (λr s1=>r=ef/\Inv X pins σ H s1) E s
 self:∀(A:Y3) (i:8) (s:kj) (Q:i7->kj->6) (E:i7->kj->6),tn i s.heap->Q (.ref it) s->gi (i5 P w) A (Č (.ref it)) Q E s
abbrev TI:=St->Hp->(It->Hp->6)->6
inductive YS(X:Cx)(pins:↑(ke×Obj))(σ:St)(tg:nS)(R:It->Hp->6)(Wo:i7)(s2:kj):6|mk (it:ke) (fp:↑ke) (tn:Nat->Te->Prop) (J:It) (H':Hp):Wo=.ref it->Inv X pins σ H' s2->Turn X.prog X.w X.K tg J fp it tn->tn 0 s2.heap->(∀b∈fp,ic X pins H' b)->R J H'->YS X pins σ tg R Wo s2
def PI(X:Cx)(c b:nS)(d:TI):6 :=
 ∀(a:↑(ke×Obj)) (s:kj) (σ:St) (H:Hp) (R:It->Hp->6),Inv X a σ H s->d σ H R ->
  ‹X› (uv b X.env) (λv e=>‹X› (Č v) (YS X a σ c R) X.xe e) X.xe s
def xS(ho:s.heap.get? b\o)(c:o.cls=.type n)(d:o.data=.fields e) (g:["enumerate","zip","dict_itemiterator","dict_reverseitemiterator","odict_iterator","itertools.zip_longest","itertools.pairwise"].contains n=df) (a:Q () s):gi M A (þ f (.ref b) u) Q E s:=by
  cases f<;>first
    | show eT a| (cases u<;>first
        | show eT a
        | (show cb (ϴ ho ?_)
           rw[c,d];change gi M A (if (["enumerate","zip","dict_itemiterator","dict_reverseitemiterator","odict_iterator","itertools.zip_longest","itertools.pairwise"].contains n&&e[0]?==b6 _)=4 then _ else _) Q E s;rw[if_neg (by grind)];show eT a))
def YT(K:W.Frag)(a:ke):It :=#[λi H=>∃b x,Py K H a b/\b[i]?\x,λi H x c=>c=H/\∀b,Py K H a b->b[i]?\x,λi H=>∃b,Py K H a b/\-b<=i]
def YU(K:W.Frag)(a:ke):It :=#[λi H=>∃b x,Pu K H a b/\b[i]?\x,λi H x c=>c=H/\∀b,Pu K H a b->b[i]?\x,λi H=>∃b,Pu K H a b/\-b<=i]
def Wq(lo:Int)(n:8):It:=#[λi _=>i<n,λi H x a=>a=H/\x=.int (lo+i),λi _=>n<=i]
def zk{K}(a f):Turn P w K tg (YT K a) [f] f (λi h=>h.IsListIter f a i) where
 mem:=7
 obj:=λi h st b g=>by let(o,e,c,d):=st;left
 keep:=λi h J st k=>st.at λo e=>k f 7 o e
 item:=by intro X q r t L i j s σ H E I m st v;subst q r t;let(N,x,n,y):=v;let(O,z,p,Q):=I.list n;let(u,hu,T):=z.get y;let(A,B,Y,C,D,G):=m f 7;show wpAny_pyNext_list_item st p.isList (x:=u) 7 λJ l sb=>?_;let I1:=I.turned (t':=s.toks) (λb o g e=>(sb.2 b g).trans e) A B C D G;let(o,e,c,d):=id l;show#[u,9,xS  e c d 7 #[x,H,I1,T,#[9,λys hy=>by rw[I.tL hy n];show y],l,λb g=>(m b g).1]]
 done:=by intro X q r t L i j s σ H E I m st v;subst q r t;let(N,n,y):=v;let(O,z,p,Q):=I.list n;let(A,B,Y,C,D,G):=m f 7;let hl:=-z;show wpAny_pyNext_list_end (I.ok.hd L) st p.isList 7 λJ eb=>#[9,I.turned  (λb o g e=>eb b o g e) A B C D G]
 self:=λ_ _ _ _ _ st h=>wpAny_pyIter_listiter st h
def vC{K}(a f):Turn P w K tg (YU K a) [f] f (λi h=>h.IsTupleIter f a i) where
 mem:=7
 obj:=λi h st b g=>by let(o,e,c,d):=st;left
 keep:=λi h J st k=>st.at λo e=>k f 7 o e
 item:=by intro X q r t L i j s σ H E I m st v;subst q r t;let(N,x,n,y):=v;let(O,z,p,Q):=I.tuple n;let(u,hu,T):=z.get y;let(A,B,Y,C,D,G):=m f 7;show wpAny_pyNext_tuple_item st (p) (x:=u) 7 λJ l sb=>?_;let I1:=I.turned (t':=s.toks) (λb o g e=>(sb.2 b g).trans e) A B C D G;let(o,e,c,d):=id l;show#[u,9,xS  e c d 7 #[x,H,I1,T,#[9,λys hy=>by rw[I.qg hy n];show y],l,λb g=>(m b g).1]]
 done:=by intro X q r t L i j s σ H E I m st v;subst q r t;let(N,n,y):=v;let(O,z,p,Q):=I.tuple n;let(A,B,Y,C,D,G):=m f 7;let hl:=-z;show wpAny_pyNext_tuple_end (I.ok.hd L) st (p) 7 λJ eb=>#[9,I.turned  (λb o g e=>eb b o g e) A B C D G]
 self:=λ_ _ _ _ _ st h=>wpAny_pyIter_tupleiter st h
def vE{K}(c)(lo)(n):Turn P w K N (Wq lo n) [c] c (λi h=>IsRangeIter h c (lo+(i:8) * 1) ((n:Int) - (i:8)) 1) where
 mem:=7
 obj:=λi h st b d=>by left
 keep:=λi h j st k=>k c 7 _ st
 item:=by intro X y z A l i a s σ H E I g st m;subst y z A;let(p,q,B,r,u,x):=g c 7;let W:=Walks.range (prog:=X.prog) (w:=X.w) (I.ok.hd l) c lo 1 n;show W.item i s _ _ m st λv j C D f G=>?_;let(t,rfl):=D;let J:Inv X a σ H {s with heap:=j,toks:=C}:=I.turned (λb o d e=>G b o (by exists d) e) p q r u x;show#[_,9,xS   f 9 9 7 #[.int _,H,J,#[t,?_],#[9,9],f,λb d=>(g b d).1]];simp
 done:=by intro X y z A l i a s σ H E I g st m;let(p,q,B,r,u,x):=g c 7;show wpAny_pyNext_range_end (I.ok.hd l) st (by let:n<=i:=m;lia) λj L=>#[9,I.turned  (λb o d e=>L b o d e) p q r u x]
 self:=λ_ _ _ _ _ st h=>wpAny_pyIter_rangeiter st h
def Ls(K:W.Frag)(tl:TE):TI:=λσ H R=>tl σ H λx b=>∃a,x=.ref a/\(∃c,Py K b a c)/\R (YT K a) b
def NW(K:W.Frag)(tl:TE):TI:=λσ H R=>tl σ H λx b=>∃a,x=.ref a/\(∃c,Pu K b a c)/\R (YU K a) b
def EG(hl:PE X l tl):PI X n l (Ls X.K tl):=by
 intro c s σ H R I h;show OV (hl c s σ H _ I h) λv r f=>?_;let(x,g,d,i,j):=f;let(a,e,(t,k),q):=j;subst e;ext i;let(u,w,p,y):=d.list k;show Ļ p.isList ?_;show#[_,_,_,_,g,9,d.kept  λb o e=>et _ e,zk a _,#[_,gj _ 9,9,9],λb m=>?_,q];let e:=by exists m
 subst e;show d.A2 (gs _) (d.ON.fresh (gs _))
def Ir(hl:PE X l tl):PI X n l (NW X.K tl):=by
 intro c s σ H R I h;show OV (hl c s σ H _ I h) λv r f=>?_;let(x,g,d,i,j):=f;let(a,e,(t,k),q):=j;subst e;ext i;let(u,w,p,y):=d.tuple k;show Za (p) ?_;show#[_,_,_,_,g,9,d.kept  λb o e=>et _ e,vC a _,#[_,gj _ 9,9,9],λb m=>?_,q];let e:=by exists m
 subst e;show d.A2 (gs _) (d.ON.fresh (gs _))
def tN{lo a}(I:Inv X c σ H s)(f:-((2 ^ 62):Int)<=lo)(g:lo<2 ^ 62)(h:-((2 ^ 62):Int)<=a)(i:a<2 ^ 62) (q:R (Wq lo (a - lo).toNat) H):‹X› (Č (.ref ↥s)) (YS X c σ n R) E {s with heap:=s.heap.push {cls:=.type "range",data:=.fields #v[.int lo t,.int a u,.int 1 v]},toks:=j}:=by
 show wpAny_pyIter_range (IsRange.new ..) (small_one f g h i) ?_;let d:Inv X c σ H {s with heap:=s.heap.push {cls:=.type "range",data:=.fields #v[.int lo t,.int a u,.int 1 v]},toks:=j}:=I.kept λb o e=>et _ e;show#[_,_,_,_,H,9,
  d.kept  λb o e=>et _ e,vE _ lo _,?_,λb k=>?_,q]
 .let l:lo+(0:8) * 1=lo:=7
  let m:(a - lo).toNat - (0:8)=aaB lo a 1:=by rw[rangeSize_one];lia
  rw[l,m];show gj _ 9
 let e:b=(s.heap.push {cls:=.type "range",data:=.fields #v[.int lo t,.int a u,.int 1 v]}).objs.size:=by exists k
 subst e;show d.A2 (gs _) (d.ON.fresh (gs _))
def Lu(a:TA):TI:=λσ H R=>a σ H λb c=>∃j:Int,b=[.int j]/\-((2 ^ 62):Int)<=j/\j<2 ^ 62/\R (Wq 0 j.toNat) c
def Lv(a:TA):TI:=λσ H R=>a σ H λb c=>∃i j:Int,b=[.int i,.int j]/\(-((2 ^ 62):Int)<=i/\i<2 ^ 62/\-((2 ^ 62):Int)<=j/\j<2 ^ 62)/\R (Wq i (j - i).toNat) c
def zm(f:Gl X "range")(g:X.mg "range"=ef)(i:PA X [a] k)(hs:j0 [a] X.env=[(df,uv a X.env)]:=by rfl):PI X u (.Call (.Name "range" p) [a] [] c) (Lu k):=by intro b s σ H R I h;show Call_ (dr I f g boot_range (Sy (OV (i c b s σ H _ I h) λv w ⟨x,y,l,m,d⟩=>?_) hs 9));let(j,e,d,n,q):=d;subst e;cases m with|cons r o=>ext o;let(t,rfl):=r;show call_range_1 (tN l 7 7 d n 7)
def zo(k:Gl X "range")(l:X.mg "range"=ef)(m:PA X [a,b] n)(hs:j0 [a,b] X.env=[(df,uv a X.env),(df,uv b X.env)]:=by rfl)(o:j0 [b] X.env=[(df,uv b X.env)]:=by rfl):PI X A (.Call (.Name "range" p) [a,b] [] d) (Lv n):=by
 intro c s σ H R I h;show Call_ (dr I k l boot_range (Sy (OV (m d c s σ H _ I h) λB C ⟨D,G,u,v,f⟩=>?_) 7 (by rw[o];rfl)));let(i,j,e,(f,w,x,y),q):=f;subst e;cases v with
 |cons r g =>
  cases g with
  |cons z g=>ext g;let(t,rfl):=r;let(J,rfl):=z;show call_range_2 (tN u f w x y q)
def NX(d:TI)(g:TG)(tb:TS):TS:=λD σ H=>d σ H λJ e=>∃W:8->8->St->Hp->6,(∃m,W 0 m σ e)/\∀i m σ H,W i m σ H ->
 (J.stop i H/\D.nx σ H)\/(J.go i H/\∃N:St->Hp->6,(∀b a,N b a->∃c,c<m/\W (i+1) c b a)/\∀x a,J.Wn i H x a->g x σ a λf h=>tb {D with nx:=N,ct:=N,bk:=D.nx} f h)
def qZ(a:↑ke)(h:Te):↑(ke×Obj):=a.filterMap λb=>(h.get? b).map λo=>(b,o)
def gA(a:b∈c)(e:h.get? b\o):(b,o)∈qZ c h:=YV.mpr #[b,a,by rw[e];rfl]
def zp(a:p∈qZ c h):p.1∈c/\h.get? p.1\p.2:=by let(b,d,e):=YV.mp a;cases q:h.get? b with|none=>left|some o=>rw[q]at e;let f:=R' e;subst f;show#[d,q]
def Inv.pinned(I:Inv X a σ H s)(g:∀b∈c,ic X a H b)(ho:∀b∈c,∃o,s.heap.get? b\o/\∀v,o.data≠.cell v):Inv X (a++qZ c s.heap) σ H s :=I.fG λp h=>(my.mp h).elim (λz=>I.pin p (oD _ z)) λz=>by let(f,e):=zp z;let(i,j,k,_):=g p.1 f;let(o,l,d):=ho p.1 f;left
def Inv.nI(I:Inv X (a++c) σ H s):Inv X a σ H s:=I.fG λp b=>I.pin p (oD _ (S0 _ b))
def Iu(y:ŏ (i5 X.prog X.w) X.A X.env X.xe)(hc:X.calm=4)(hi:PI X tg q wi)(hg:PG X tg g)(c:Qj X z tb) (hs:∀x,Wd q X.env x=pure x:=by intro _;rfl):PS X (.For tg q z [] ab) (NX wi g tb):=by
 intro a s σ H D I h;show wpAny_For (OV (hi a s σ H _ I h) λv s1 h1=>OV h1 λWo s2 h2=>?_) hs;let(it,O,tn,J,H2,e,I2,T,Y,f2,W,(m0,w0),B):=h2;subst e;let U4:∀{j:Hp},(∀b∈O,j b=ef)->∀b∈O,ic X a j b:=λhn b c=>#[hn b c,(f2 b c).2]
 show codeAny_forLoop_any (λn s'=>∃i C j,Inv X a C j s'/\tn i s'.heap/\(∀b∈O,j b=ef)/\W i n C j) ?_ m0 ⟨0,σ,H2,I2,Y,λb c=>(f2 b c).1,w0⟩;rintro n s3 ⟨i,G,Q,I3,Pw,Wr,w3⟩;obtain⟨L,qn⟩|⟨go,N,hN,Ś⟩:=B i n G Q w3
 .show XQ y (OV (T.done X 9 9 9 hc i a s3 G Q X.xe I3 (U4 Wr) Pw L) λr s4 YX=>?_);let(hr,I4):=YX;subst hr;show Y8 #[G,Q,I4,qn]
 show XQ y (OV (T.item X 9 9 9 hc i a s3 G Q X.xe I3 (U4 Wr) Pw go) λr s4 YY=>?_);let(u,hr,h4):=YY;subst hr;show XQ y (OV h4 λ_ s5 YZ=>?_);let(x,H5,I5,r5,y5,Sr,Y0):=YZ;let Y1:=I5.pinned (U4 Y0) (T.obj _ _ Sr);show XQ y (OV (hg _ s5 G H5 x u _ Y1 r5 (Ś x H5 y5)) λ_ s6 Y2=>?_);let(σ6,H6,I6,q6):=Y2;show XQ y (OV (c _ s6 σ6 H6 _ I6 q6) λf s7 t=>?_);let again:∀{k:St} {l:Hp},Inv X _ k l s7->N k l->∃m,m<n/\∃i C j,Inv X a C j s7/\tn i _/\(∀b∈O,j b=ef)/\W i m C j:=λ{k l} p n7=>by let(m',hm,w7):=hN k l n7;show#[m',hm,i+1,k,l,p.nI,T.keep _ _ _ Sr λb c o e=>(p.pin (b,o) (oD _ (oD _ (gA c e)))).1,λb c=>?_,w7];let(o,e,d):=T.obj _ _ Sr b c;show(p.pin _ (oD _ (oD _ (gA c e)))).2.1
 cases f with|brk=>let(k,l,p,t):=t;show#[k,l,p.nI,t]|ret v=>let(x7,k,l,p,r7,t):=t;show#[x7,k,l,p.nI,r7,t]|_=>let(k,l,p,n7):=t;show again p n7
abbrev R2:=V->V->Hp->VK->6
def Qy(X:Cx)(f:i7->i7->Sem i7)(r:R2):6 :=
 ∀(a:↑(ke×Obj)) (s:kj) (σ:St) (H:Hp) (x y:V) (v u:i7) (Q:VK),Inv X a σ H s->RelV x v->RelV y u->r x y H Q ->
  ‹X› (f v u) (EP X a σ Q) X.xe s
def ie(X:Cx)(f:i7)(r:↑V->Hp->VK->6):6 :=
 ∀(a:↑(ke×Obj)) (s:kj) (σ:St) (H:Hp) (b:↑V) (c:↑i7) (Q:VK),Inv X a σ H s->Vals b c->r b H Q ->
  ‹X› (WH f c) (EP X a σ Q) X.xe s
def NY(X:Cx)(r:V->Hp->(Bool->Hp->6)->6):6 :=
 ∀(a:↑(ke×Obj)) (s:kj) (σ:St) (H:Hp) (x:V) (v:i7) (Q:Bool->Hp->6),Inv X a σ H s->RelV x v->r x H Q ->
  ‹X› (truthy v) (TP X a σ Q) X.xe s
def tOp(r:R2)(a tb:TE):TE:=λσ H Q=>a σ H λx b=>tb σ b λy c=>r x y c Q
def rI(C:Int->Int->6)(g:Int->Int->V):R2:=λx y H Q=>∃i j,x=.int i/\y=.int j/\C i j/\Q (g i j) H
def U5(g:Int->Int->V):R2:=λx y H Q=>∃i j,x=.int i/\y=.int j/\Q (g i j) H
def NZ(i:PE X a j)(k:PE X b tb){R:V->V->Hp->6}(I:Inv X c σ H s) (h:j σ H λx g=>tb σ g λy d=>R x y d) {f:i7->i7->Sem i7} (l:∀v u e x y d,Inv X c σ d e->RelV x v->RelV y u->R x y d->‹X› (f v u) Q X.xe e) :
  ‹X› (uv a X.env) (λv m=>‹X› (uv b X.env) (λu n=>‹X› (f v u) Q X.xe n) X.xe m) X.xe s:=by
 show OV (i c s σ H _ I h) λv o p=>?_;let(x,g,q,r,t):=p;show OV (k c o σ g _ q t) λu e z=>?_;let(y,d,B,C,D):=z;show l v u e x y d B r C D
def XA{g:Int->Int->Int} (rule:∀i j t u s Q E,C i j->Q (.int (g i j) s.toks) {s with toks:=s.toks+1}->‹X› (f (.int i t) (.int j u)) Q E s) :Qy X f (rI C λi j=>.int (g i j)):=by intro a s σ H x y v u Q I b c h;let(i,j,rfl,rfl,d,q):=h;let(t,rfl):=b;let(e,rfl):=c;show rule i j t e s _ _ d #[.int _,H,I.tok _,#[_,9],q]
def Lw{g:Int->Int->Int} (rule:∀i j t u s Q E,Q (.int (g i j) s.toks) {s with toks:=s.toks+1}->‹X› (f (.int i t) (.int j u)) Q E s) :Qy X f (U5 λi j=>.int (g i j)):=by intro a s σ H x y v u Q I b c h;let(i,j,rfl,rfl,q):=h;let(t,rfl):=b;let(d,rfl):=c;show rule i j t d s _ _ #[.int _,H,I.tok _,#[_,9],q]
def Iv{g:Int->Int->Bool} (rule:∀i j t u s Q E,Q (.bool (g i j)) s->‹X› (f (.int i t) (.int j u)) Q E s) :Qy X f (U5 λi j=>.bl (g i j)):=by intro a s σ H x y v u Q I b c h;let(i,j,rfl,rfl,q):=h;let(t,rfl):=b;let(d,rfl):=c;show rule i j t d s _ _ #[.bl _,H,I,9,q]
def N0(i j:Int):6:=0<j/\j<1073741824
def N1(i j:Int):6:=0<=j/\j<=1000000/\i.natAbs<2 ^ 64
def Iw(i j:Int):6:=(-((2 ^ 64):Int)<i/\i<2 ^ 64)\/(-((2 ^ 64):Int)<j/\j<2 ^ 64)
def Iw.ok(h:Iw i j):IntMulOk i j:=by
 obtain⟨a,b⟩|⟨a,b⟩:=h
 .show .of_left (intBits_le_64 a b)
 show .of_right (intBits_le_64 a b)
def du:Qy X (YK .Add) (U5 λi j=>.int (i+j)):=Lw λ_ _ _ _ _ _ _ q=>add_int q
def vF:Qy X (YK .Sub) (U5 λi j=>.int (i - j)):=Lw λ_ _ _ _ _ _ _ q=>sub_int q
def q9:Qy X (YK .Mult) (rI Iw λi j=>.int (i * j)):=XA λ_ _ _ _ _ _ _ a q=>mul_int q a.ok
def EH:Qy X (YK .FloorDiv) (rI N0 λi j=>.int (i / j)):=XA λi j _ _ _ _ _ a q=>by let b:=a.1;let c:=a.2;show floordiv_int 7 (by rw[Int.fdiv_eq_ediv_of_nonneg i ⋯];show q) (.inl (PyProof.noPylong_small 7))
def bR:Qy X (YK .Mod) (rI (λ_ j=>0<j) λi j=>.int (i % j)):=XA λi j _ _ _ _ _ a q=>by show mod_int' 7 (by rw[Int.fmod_eq_emod_of_nonneg i ⋯];show q)
def q_:Qy X (YK .Pow) (rI N1 λi j=>.int (i ^ j.toNat)):=XA λ_ _ _ _ _ _ _ a q=>pow_int_small a.1 a.2.1 a.2.2 q
def N2:V->V->Bool
 |.OP,.OP=>4|.OP,.int _=>4|.int _,.OP=>4|.OP,.bl _=>4|.bl _,.OP=>4|.OP,.str _=>4|.str _,.OP=>4
 |.int _,.int _=>4|.bl _,.bl _=>4|.str _,.str _=>4|.SA _,.SA _=>4
 |.int _,.str _=>4|.str _,.int _=>4|.bl _,.str _=>4|.str _,.bl _=>4
 |_,_=>df
def rEq:R2:=λx y H Q=>N2 x y=4/\Q (.bl (eL (x=y))) H
def vG [BEq α][LawfulBEq α][DecidableEq α]{i j:α}{f:α->V}(h:f i=f j->i=j):eL (f i=f j)=(i==j):=by
 by_cases e:i=j
 .subst e;simp
 rw[decide_eq_false λz=>e (h z)];show(beq_eq_false_iff_ne.mpr e).symm
def EI:eL (V.int i=V.int j)=(i==j):=vG λz=>by ext z;rfl
def Iy:eL (V.bl i=V.bl j)=(i==j):=vG λz=>by ext z;rfl
def EJ:eL (V.str i=V.str j)=(i==j):=vG λz=>by ext z;rfl
def EK:eL (V.SA i=V.SA j)=(i.toList==j.toList):=by
 by_cases e:i=j
 .subst e;simp
 rw[decide_eq_false λz=>e (by ext z;rfl)];show(beq_eq_false_iff_ne.mpr λz=>e (Array.toList_inj.mp z)).symm
def bZ(I:Inv X a σ H s)(q:Q (.bl k) H)(e:k=b):EP X a σ Q (.bool b) s:=by subst e;show#[.bl k,H,I,9,q]
def Lx:Qy X (TY .Eq) rEq:=by
 intro d s σ H x y v u Q I c a h;let(hs,q):=h;cases x with
 |OP =>
  ext c;cases y with
  |OP=>ext a;show PySem.EqNone.eq_none_none (bZ I q 7)
  |bl j=>ext a;show PySem.EqNone.eq_none_bool (bZ I q 7)
  |int j=>let(b,rfl):=a;show PySem.EqNone.eq_none_int (bZ I q 7)
  |str j=>let(b,rfl):=a;show PySem.EqNone.eq_none_str (bZ I q 7)
  |_=>show absurd (show df=4 from hs) tv
 |bl i =>
  ext c;cases y with
  |OP=>ext a;show PySem.EqNone.eq_bool_none (bZ I q 7)
  |bl j=>ext a;show eq_bool (bZ I q Iy)
  |str j=>let(b,rfl):=a;show PySem.EqMixed.eq_bool_str (bZ I q 7)
  |_=>show absurd (show df=4 from hs) tv
 |int i =>
  let(t,rfl):=c;cases y with
  |OP=>ext a;show PySem.EqNone.eq_int_none (bZ I q 7)
  |int j=>let(b,rfl):=a;show eq_int (bZ I q EI)
  |str j=>let(b,rfl):=a;show PySem.EqMixed.eq_int_str (bZ I q 7)
  |_=>show absurd (show df=4 from hs) tv
 |str i =>
  let(t,rfl):=c;cases y with
  |OP=>ext a;show PySem.EqNone.eq_str_none (bZ I q 7)
  |bl j=>ext a;show PySem.EqMixed.eq_str_bool (bZ I q 7)
  |int j=>let(b,rfl):=a;show PySem.EqMixed.eq_str_int (bZ I q 7)
  |str j=>let(b,rfl):=a;show eq_str (bZ I q EJ)
  |_=>show absurd (show df=4 from hs) tv
 |SA i =>
  let(t,rfl):=c;cases y with
  |SA j=>let(b,rfl):=a;show W.eq_bytes (bZ I q EK)
  |_=>show absurd (show df=4 from hs) tv
 |_=>cases y<;>show absurd (show df=4 from hs) tv
def Ly:Qy X (TY .Lt) (U5 λi j=>.bl (eL (i<j))):=Iv λ_ _ _ _ _ _ _ q=>lt_int q
def Lz:Qy X (TY .Gt) (U5 λi j=>.bl (eL (j<i))):=Iv λ_ _ _ _ _ _ _ q=>gt_int q
def LA:Qy X (TY .GtE) (U5 λi j=>.bl (eL (j<=i))):=Iv λ_ _ _ _ _ _ _ q=>ge_int q
def zq:Qy X (TY .In) (λx y H Q=>∃i j,x=.str i/\y=.str j/\Q (.bl (!(Pe j i 0 ⇑j 1).isEmpty)) H):=by intro a s σ H x y v u Q I b c h;let(i,j,rfl,rfl,q):=h;let(t,rfl):=b;let(d,rfl):=c;show in_str (bZ I q 9)
def Iz:Qy X (TY .Is) (λx y H Q=>y=.OP/\Q (.bl (eL (x=.OP))) H):=by
 intro a s σ H x y v u Q I b c h;let(rfl,q):=h;ext c;show is_none_gen (bZ I q ?_);cases x<;>first
  |(rfl)|(let(t,rfl):=b;rfl)
def EL:Qy X (TY .IsNot) (λx y H Q=>y=.OP/\Q (.bl (!eL (x=.OP))) H):=by
 intro a s σ H x y v u Q I b c h;let(rfl,q):=h;ext c;show isnot_none_gen (bZ I q ?_);cases x<;>first
  |(ext b;rfl)|(let(t,rfl):=b;rfl)
def LB(K:W.Frag)(x:V)(H:Hp)(k:Bool):6 :=match x with|.OP=>k=df|.bl b=>k=b|.int i=>k=(i != 0)|.str y=>-y<=ei/\k=((-y:Int) != 0)|.SA y=>y.size<=ei/\k=((y.size:Int) != 0)|.ref p=>(∃a,Py K H p a/\k=!a.isEmpty)\/(∃a,Pu K H p a/\k=!a.isEmpty)\/∃c,H p\.dK c/\k=!c.isEmpty|_=>False
def vH(r:KV a b):(!b.isEmpty)=!a.isEmpty:=by cases r<;>rfl
def nJ(r:Vals a b):(!b.toArray.isEmpty)=!a.isEmpty:=by cases r<;>simp
def ig:(ei:8)<2 ^ 63:=7
def IA:NY X (λx H Q=>∃k,LB X.K x H k/\Q k H):=by
 intro n s σ H x v Q I f h;let(k,e,q):=h;let hl:=ig;let hs:ei=16777216:=sizeLine_eq;cases x with
 |OP=>ext f;let a:k=df:=e;subst a;show truthy_none #[H,I,q]|bl b=>ext f;let a:k=b:=e;subst a;show RM #[H,I,q]|int i=>let(t,rfl):=f;let a:k=(i != 0):=e;subst a;show PySem.P.truthy_int #[H,I,q]|str y=>let(t,rfl):=f;obtain⟨u,a⟩:-y<=ei/\k=((-y:Int) != 0):=e;subst a;show PySem.P.truthy_str 7 #[H,I.tok _,q]|SA y=>let(t,rfl):=f;obtain⟨u,a⟩:y.size<=ei/\k=((y.size:Int) != 0):=e;subst a;show W.truthy_bytes 7 #[H,I.tok _,q]|ref p =>
  ext f;let a:=e;obtain⟨z,g,a⟩|⟨z,g,a⟩|⟨d,g,a⟩:=a
  .subst a;let(A,r,l,o):=I.list g;let c:=-r;show wpAny_truthy_list l.isList (by erw[rS];lia) #[H,I.tok _,by rw[nJ r];show q]
  .subst a;let(A,r,l,o):=I.tuple g;let c:=-r;show truthy_tuple l (by erw[rS];lia) #[H,I.tok _,by rw[nJ r];show q]
  subst a;obtain⟨o,B,j,r,m⟩:-d<=ei/\(p==Xr)=df/\∃j,KV d j/\s.heap.DictOf (bP X.prog X.w) p j:=I.ON p _ g;let c:-d=-j:=Paired.length r;show wpAny_truthy_dict B m 7 #[H,I.tok _,by rw[vH r];show q]
 |_=>show(show False from e).elim
def A3(e:PE X a f)(g:∀b,isTrue a X.env b=(do let v <-b;ĕ a.pos;VE [v] (truthy v))):PT X a (λσ H Q=>f σ H λx d=>∃k,LB X.K x d k/\Q k d):=by intro c s σ H Q I h;show isTrue_plain (OV (e c s σ H _ I h) λv i ⟨x,j,l,m,n⟩=>IA c i σ j x v Q l m n) (g _)
def vI:Qy X (YK .Add) (λx y H Q=>∃i j,x=.str i/\y=.str j/\-i+ -j<=ei/\Q (.str (i++j)) H):=by intro a s σ H x y v u Q I b c h;let(i,j,rfl,rfl,d,q):=h;let(t,rfl):=b;let(e,rfl):=c;show add_str (λe f=>#[.str _,H,I.tok _,#[_,9],q]) d
def vals1(r:Vals [x] a):∃u,a=[u]/\RelV x u:=by cases r with|cons b c=>ext c;show#[_,9,b]
def vals2(r:Vals [x,y] b):∃u a,b=[u,a]/\RelV x u/\RelV y a:=by
 cases r with
 |cons c d =>
  cases d with
  |cons e f=>ext f;show#[_,_,9,c,e]
def zr(d:X.calm=4):ie X (.builtin "max") (λb H Q=>∃i j,b=[.int i,.int j]/\Q (.int (if j>i then j else i)) H):=by
 intro c s σ H b e Q I r h;let(i,j,rfl,q):=h;let(u,f,rfl,(t,rfl),(g,rfl)):=vals2 r;show max_two_ints (I.ok.hd d) λl m k=>#[_,H,I.kept k,?_,q]
 by_cases a:j>i
 .rw[if_pos a,if_pos a];show#[_,9]
 rw[if_neg a,if_neg a];show#[_,9]
def zt(d:X.calm=4):ie X (.builtin "min") (λb H Q=>∃i j,b=[.int i,.int j]/\Q (.int (if j<i then j else i)) H):=by
 intro c s σ H b e Q I r h;let(i,j,rfl,q):=h;let(u,f,rfl,(t,rfl),(g,rfl)):=vals2 r;show min_two_ints (I.ok.hd d) λl m k=>#[_,H,I.kept k,?_,q]
 by_cases a:j<i
 .rw[if_pos a,if_pos a];show#[_,9]
 rw[if_neg a,if_neg a];show#[_,9]
def zu:ie X (.type "int") (λa H Q=>(∃i,a=[.int i]/\Q (.int i) H)\/∃k,a=[.bl k]/\Q (.int (if k then 1 else 0)) H):=by
 intro b s σ H a d Q I r h;obtain⟨i,rfl,q⟩|⟨k,rfl,q⟩:=h
 .let(u,rfl,t,rfl):=vals1 r;show call_int_int #[.int i,H,I,#[_,9],q]
 let(u,rfl,c):=vals1 r;ext c;show call_int_bool #[.int _,H,I.tok _,#[_,9],q]
def rf:ie X (.type "str") (λa H Q=>∃i,a=[.int i]/\i.natAbs.log2<1920/\Q (.str (toString i)) H):=by intro b s σ H a d Q I r h;let(i,rfl,c,q):=h;let(u,rfl,t,rfl):=vals1 r;show PySem.P.str_of_int c #[.str _,H,I.tok _,#[_,9],q]
structure vJ(h:Te)(x dx C:ke)(mA:5->Option i7):6 where
 obj:h.get? x\W.instObj C dx
 ns:h.Ns1 dx mA
 ne:dx≠x
def zv{h:Te}(n:h.Ns1 f g):∃c,h.get? f\c/\∀b,W.lookIn b c\g b:=by
 let(o,d,p,ho,i,hk,_,j):=n;show#[o,ho,λb=>?_];let e:=j b;unfold nsFind findBy at e;rw[<-Array.find?_toList]at e;unfold W.lookIn;rw[i]
 dsimp only
 split
 .rename_i y q;rw[q]at e;show congrArg b6 e
 rename_i q;rw[q]at e;let a:d.toList.any (·.refKey)=df:=by rw[ė];intro y k;let(z,t,l):=hk y (Array.mem_toList_iff.mp k);simp[DictEntry.refKey,l]
 let m:¬d.toList.any (·.refKey)=4:=by rw[a];show tv
 rw[if_neg m];show congrArg b6 e
def vJ.look(I:vJ h x c C d):∃b,W.InstAt h x (W.instObj C c) C (b6 b)/\∀a,W.lookIn a b\d a :=
 let ⟨b,ho,hl⟩:=zv I.ns
 ⟨b,⟨I.obj,9,9,ho⟩,hl⟩
section
variable{prog:DD}{w:Q1}{A:Y3}{E:i7->kj->6}{s:kj}{K:PySem.W.Frag}{x dx C f:ke}{mA:5->Option i7}{name:5}{v:i7}
def get_map(X:K.In s.heap)(I:vJ s.heap x dx C mA)(c:W.plainGet K C name=4)(d:W.hasDictIn K C=4) (e:W.findIn K (.ref C) name\ef) (g:mA name\v) (a:W.handedIn v=4) (h:Q v {s with toks:=s.toks+1}) :gi (i5 prog w) A (getAttr (.ref x) name b) Q E s:=by let(i,J,hl):=I.look;show W.get_value X J (W.plainGet_of c).1 (W.findObj_own d e 9 (by rw[hl,g])) a h
def A4(X:K.In s.heap)(I:vJ s.heap x dx C mA)(a:W.plainGet K C name=4) (b:W.findIn K (.ref C) name\b6 (.ref f)) (c:W.isFn K (.ref f)=4) (d:mA name=ef) (h:Q (.ref f,[.ref x]) s) :gi (i5 prog w) A (getMethod (.ref x) name g) Q E s:=by let(e,J,hl):=I.look;show W.method_fn X J (W.plainGet_of a).1 (W.plainGet_of a).2 b (beq_iff_eq.mp c) (by change(W.lookIn name e).map (·.isSome)\df;rw[hl,d];rfl) h
def EM(X:K.In s.heap)(I:vJ s.heap x dx C mA) (hs:W.findIn K (.ref C) "__setattr__"\b6 (.builtin "object.__setattr__")) (l:W.plainOver K C=4) (m:W.takerIn K C name\ef) (n:W.hasDictIn K C=4) (o:PySem.Within mA p) (q:-p<=ei) (h:∀c,vJ c x dx C (λy=>if y=name then b6 v else mA y)->Hf dx s.heap c->Q () {s with heap:=c,toks:=s.toks+2}) :gi (i5 prog w) A (setAttr (.ref x) name v) Q E s:=by let(D,J,hl):=I.look;show W.set_plain X J hs (W.osa_open (s:={s with toks:=s.toks+1}) (r:=ef) X J l m λb=>?_);let(G,t,d):=W.any_some n;let u:s.heap.get? x\⟨.ref C,b6 dx,.plain,#v[]⟩:=I.obj;show cb (eT (cb (cb (wpAny_loadPart u (cb (W.Looks.here (s:={s with toks:=s.toks+1}) (W.looks_clsIn X t) ?_))))));rw[d];show eT (a:=b6 dx) (cb (eT (cb ?_)));show wpAny_nsSet1 (s:={s with toks:=s.toks+1}) I.ns λc j k=>?_;let(H,z,B,e,g,i):=j.count (PySem.Within.cons name v o);show cb (wpAny_lookBehind e (by rw[g];show pastItsLine_dict (pe i (by rw[l0];lia))) ?_);show eT (h _ #[(k.2 _ (sg I.ne)).trans I.obj,j,I.ne] k)
def A5(X:K.In s.heap)(e:W.makesIn K C=4) (i:W.findIn K (.ref C) "__init__"\b6 (.ref f)) (j:W.typeIn K (.ref f)\.type "function") (h:Ya (i5 prog w) (A.under (.builtin "type.__call__" ⟨.ref C::b,c⟩)) (.call (.ref f) #[.ref (↥s+1)::b,c]) (W.InitBack (↥s+1) R)
   {s with heap:=(s.heap.push W.emptyDict).push (W.instObj C ↥s)}) :
  Ya (i5 prog w) A (.call (.ref C) #[b,c]) R s:=by
 let(k,g,d,t,os):=s;show W.make_core (W.makes_of X e) (W.looks_findIn X i) (λa=>W.bind_fn X a j) (.inl 9) h
end
def fJ(f:5)(v:V):↑(5 ×V)->↑(5 ×V)|[]=>[(f,v)]|(g,x)::r=>if g=f then(g,v)::r else(g,x)::fJ f v r
theorem lW(f g)(v):∀b,(fJ f v b).lookup g=if g=f then b6 v else b.lookup g
 |[]=>by
  change WO g [(f,v)]=_;by_cases h:g=f
  .let a:(g==f)=4:=beq_iff_eq.mpr h;erw[WO,a,if_pos h]
  let a:(g==f)=df:=beq_eq_false_iff_ne.mpr h;erw[WO,a,if_neg h]
 |(k,x)::r=>by
  let c:=lW f g v r;rw[show fJ f v ((k,x)::r)=(if k=f then(k,v)::r else(k,x)::fJ f v r) from rfl];by_cases hk:k=f
  .rw[if_pos hk];by_cases h:g=k
   .let a:(g==k)=4:=beq_iff_eq.mpr h;erw[WO,a,if_pos (h.trans hk)]
   let a:(g==k)=df:=beq_eq_false_iff_ne.mpr h;erw[WO,a,if_neg (λe:g=f=>h (e.trans hk.symm))]
  rw[if_neg hk];by_cases h:g=k
  .let a:(g==k)=4:=beq_iff_eq.mpr h;erw[WO,a,if_neg (λe:g=f=>hk (h.symm.trans e))]
  let a:(g==k)=df:=beq_eq_false_iff_ne.mpr h;erw[WO,a];show c
theorem k8(f)(v):∀a,f∈(fJ f v a).map (·.1)/\∀g,g∈a.map (·.1)->g∈(fJ f v a).map (·.1)
 |[]=>#[by simp[fJ],λg h=>by simp at h]|(k,x)::r=>by
  let(b,c):=k8 f v r;rw[show fJ f v ((k,x)::r)=(if k=f then(k,v)::r else(k,x)::fJ f v r) from rfl];by_cases hk:k=f
  .rw[if_pos hk];subst hk;show#[by simp,λg h=>by exists h]
  rw[if_neg hk];show#[?_,λg h=>?_]
  .rw[lx];show ib _ b
  rw[lx]at h ⊢;obtain e|e:=gb.mp h
  .show gb.mpr (.inl e)
  show ib _ (c g e)
theorem lX(f)(v):∀a,-fJ f v a<=-a+1
 |[]=>by simp[fJ]|(k,x)::r=>by
  let b:=lX f v r;rw[show fJ f v ((k,x)::r)=(if k=f then(k,v)::r else(k,x)::fJ f v r) from rfl];by_cases hk:k=f
  .rw[if_pos hk,l0,l0];lia
  rw[if_neg hk,l0,l0];lia
def hU.some_of(r:hU (b6 v) o):∃u,o\u/\RelV v u:=by cases o with|none=>show(r).elim|some u=>show#[u,9,r]
def hU.none_of(r:hU ef o):o=ef:=by cases o with|none=>rfl|some u=>show(r).elim
def zw(r:RelV v u):W.handedIn u=4:=by cases v with|OP=>cases(show u=tp from r);rfl|bl b=>cases(show u=Ú b from r);rfl|int i=>let(t,e):=(show ∃t,u=ρ i t from r);ext e;rfl|str x=>let(t,e):=(show ∃t,u=Rt x t from r);ext e;rfl|SA b=>let(t,e):=(show ∃t,u=aap b t from r);ext e;rfl|We b=>let(t,e):=(show ∃t,u=aao b t from r);ext e;rfl|ref a=>cases(show u=rr a from r);rfl|ty n=>cases(show u=Ug n from r);rfl
def rg(i:P8 P w H h)(e:H a\.ins C g c):∃b,vJ h a g C b/\(∀f,hU (c.lookup f) (b f))/\PySem.Within b (c.map (·.1))/\-c<=1000/\H g\.own a:=by
 let(d,z,j,k,b,n,r,q):=(show cJ P w H h a (.ins C g c) from i a _ e)
 show#[b,#[k,n,j],r,q,z,d]
structure Tf(K:W.Frag)(C:ke):6 where
 pg:W.plainGet K C B'=4
 hd:W.hasDictIn K C=4
 po:W.plainOver K C=4
 sa:W.findIn K (.ref C) "__setattr__"\b6 (.builtin "object.__setattr__")
def Tf.get{K}(c:Tf K C)(f):W.plainGet K C f=4:=c.pg
def jE(K:W.Frag)(C:ke)(f:5):6:=W.findIn K (.ref C) f\ef
def jE.LC{K}(n:jE K C f):W.takerIn K C f\ef:=by unfold W.takerIn;rw[show W.findIn K (.ref C) f\ef from n];rfl
structure Meth(K:W.Frag)(C:ke)(m:5)(f:ke):6 where
 at_:W.findIn K (.ref C) m\b6 (.ref f)
 fn:W.isFn K (.ref f)=4
 kp:W.keepIn K (.ref f)=4
def vK(I:Inv X d σ H s)(e:H a\.ins C p j)(c:Tf X.K C)(n:jE X.K C f)(l:j.lookup f\v) (h:∀u g,Inv X d σ H g->RelV v u->Q u g):gi (i5 X.prog X.w) A (getAttr (.ref a) f b) Q E s:=by let(k,O,r,_,_,_):=rg I.ON e;let(u,m,i):=hU.some_of (v:=v) (o:=k f) (by rw[<-l];show r f);show get_map I.QA O (c.get f) c.hd n m (zw i) (h u _ (I.tok _) i)
def vL(I:Inv X b σ H s)(e:H a\.ins C j d)(c:Tf X.K C)(k:Meth X.K C m g)(l:d.lookup m=ef) (h:Q (.ref g,[.ref a]) s):gi (i5 X.prog X.w) A (getMethod (.ref a) m n) Q E s:=by let(f,O,r,_,_,_):=rg I.ON e;let i:f m=ef:=hU.none_of (by rw[<-l];show r m);show A4 I.QA O (c.get m) k.at_ k.fn i h
def vM(I:Inv X i σ H s)(e:H a\.ins C j d)(c:Tf X.K C)(n:jE X.K C f)(hl:-d<1000)(t:RelV y u) (h:∀l,Inv X i σ (upd H a (.ins C j (fJ f y d))) l->Q () l):gi (i5 X.prog X.w) A (setAttr (.ref a) f u) Q E s:=by
 let(m,O,r,p,_,ho):=rg I.ON e;let v:-d.map (·.1)<=ei:=by rw[f7,sizeLine_eq];lia
 show EM I.QA O c.sa c.po n.LC c.hd p v λB k D=>h _ ?_;let G:∃o,B.get? j\o:=let ⟨o,_,_,J,_⟩:=k.ns;⟨o,J⟩;show I.write (x:=a) (e:=j) (by rw[e];show ß) (.inr ho) (λb q L z=>(D.2 b L).trans z) G ?_;show#[by rw[aj O.ne];show ho,?_,O.ne,k.obj,_,k.ns,λg=>?_,λg N=>?_]
 .let:=lX f y d;lia
 .change hU ((fJ f y d).lookup g) (if g=f then b6 u else m g);rw[lW];by_cases q:g=f
  .rw[if_pos q,if_pos q];show t
  rw[if_neg q,if_neg q];show r g
 by_cases q:g=f
 .rw[q];show(k8 f y d).1
 show(k8 f y d).2 g (p g λz=>N ?_);change(if g=f then b6 u else m g)=ef;rw[if_neg q];show z
def Inv.made(I:Inv X c σ H s):Inv X c σ (upd (upd H ↥s (.own (↥s+1))) (↥s+1) (.ins C ↥s []))
  {s with heap:=(s.heap.push W.emptyDict).push (W.instObj C ↥s)}:=by
 let d:(s.heap.push W.emptyDict).get? ↥s\W.emptyDict:=gj s.heap 9;let g:((s.heap.push W.emptyDict).push (W.instObj C ↥s)).get? (↥s+1)\(W.instObj C ↥s):=by
  let:=gj (s.heap.push W.emptyDict) (o:=W.instObj C ↥s) 9
  rwa [XY]at this
 let h:(s.heap.push W.emptyDict).Ns ↥s (λ_=>ef):=#[W.emptyDict,#v[],_,d,9,(λe i=>absurd i 7),λ_=>9]
 let j:=I.laid (a:=↥s) (o:=.own (↥s+1)) (h':=s.heap.push W.emptyDict) (t':=s.toks) (λb u q=>et _ q) (gs _) ⟨_,d⟩;show j.laid (a:=↥s+1) (o:=.ins C ↥s []) (t':=s.toks) (λb u q=>et _ q) (ë (XY _ _)) ?_;let f:↥s≠↥s+1:=ku (Wv _);show#[by rw[aj f,ak],mh _,f,g,λ_=>ef,(Heap.Ns1.of_empty h).at λo q=>et _ q,λ_=>ß,λy k=>absurd 9 k]
def EN(b:Wk e f a (uv e a)=uv e a) (h:gi (i5 prog w) A (uv e a) (λo c=>gi (i5 prog w) A (getAttr o f 4) Q E c) E s):gi (i5 prog w) A (uv (.Attribute e f d) a) Q E s :=Attribute_any_ h (by rw[arm_eval_Attribute,b])
def IB(K:W.Frag)(d:TE)(f:5):TE:=λσ H Q=>d σ H λx b=>∃a C e c v,x=.ref a/\b a\.ins C e c/\Tf K C/\jE K C f/\c.lookup f\v/\Q v b
def N3(K:W.Frag)(e g:TE)(f:5):TS:=λD σ H=>g σ H λy h=>e σ h λx c=>∃a C d b,x=.ref a/\c a\.ins C d b/\Tf K C/\jE K C f/\-b<1000 /\
 D.nx σ (upd c a (.ins C d (fJ f y b)))
def rh(d:PE X e g)(i:Wk e f X.env (uv e X.env)=uv e X.env):PE X (.Attribute e f j) (IB X.K g f):=by intro b s σ H Q I h;show EN i (OV (d b s σ H _ I h) λu z k=>?_);let(x,m,o,p,a,C,A,B,v,r,t,c,n,l,q):=k;subst r;obtain rfl:u=rr a:=p;show vK o t c n l λD G w y=>#[v,m,w,y,q]
def rj(i:PE X o j)(k:PE X b m)(hs:WQ b (b6 (.Attribute o f e)) g.line X.env=pure df):PS X (.Assign [.Attribute o f e] b g) (N3 X.K j m f):=by intro d s σ H D I h;show plainObj_wpAny_Assign_Attribute (OV (k d s σ H _ I h) λu p ⟨y,r,t,v,q⟩=>OV (i d p σ r _ t q) λw N ⟨x,O,z,A,a,C,Q,T,B,G,c,n,l,J⟩=>?_) hs;subst B;obtain rfl:w=rr a:=A;show vM z G c n l v λY L=>#[σ,_,L,J]
inductive nK(K:W.Frag)(H:Hp):V->i7->6 where
 |OP:nK K H .OP (.type "NoneType")|bl (x:Bool):nK K H (.bl x) (.type "bool")|int (i:Int):nK K H (.int i) (.type "int")|str (x:Str):nK K H (.str x) (.type "str")|We (x:UInt64):nK K H (.We x) (.type "float")|lst {a:ke} {xs:↑V} (e:H a\.lst xs):nK K H (.ref a) (.type "list")|QD {a:ke} {o:Obj} {xs:↑V} (e:H a\.QD o (.lst xs)):nK K H (.ref a) (.type "list")|tup {a:ke} {xs:↑V} (e:H a\.tup xs):nK K H (.ref a) (.type "tuple")|dK {a:ke} {kvs:↑(Key×V)} (e:H a\.dK kvs):nK K H (.ref a) (.type "dict")|dT {a:ke} {kvs:↑(↑Key×V)} (e:H a\.dT kvs):nK K H (.ref a) (.type "dict")|ins {a C dx:ke} {fs:↑(Str×V)} (e:H a\.ins C dx fs) (cl:Tf K C) (ha:W.findIn K (.ref C) "__class__"\b6 (.builtin "object.__class__"))
   (hn:W.specialIn K (.builtin "object.__class__") "__get__"\b6 (.builtin "getset_descriptor.__get__")) (TN:W.takesIn K (.builtin "object.__class__")\c4)
   (hm:W.mroIn K C (.type "object")\c4):nK K H (.ref a) (.ref C)
structure cY(k:8)(A:Y3):6 where
 hd:A.handled=ef
 dp:A.depth+3 * k+0x5<recursionLimit
 un:A.units+16 * k+200<VC
 gd:A.guards\[]
def cY.mono(r:cY k A)(h:j<=k):cY j A:=#[r.hd,by let:=r.dp;lia,by let:=r.un;lia,r.gd]
def cY.deeper(r:cY (k+1) A)(a):cY k (A.deeper a) :=#[r.hd,by let:=r.dp;change A.depth+1+3 * k+0x5 < _;lia,by let:=r.un;change A.units+3+16 * k+200 < _;lia,r.gd]
def vN{A:Y3}:(A.under (.builtin "type.__call__" ⟨.ref C::a,b⟩)).depth=A.depth+1:=by first|rfl|simp[ć,Code.weight,aas,Code.isCaller,Ż,aat,guardIds]
def vO{A:Y3}:(A.under (.builtin "type.__call__" ⟨.ref C::a,b⟩)).units=A.units+1:=by first|rfl|simp[ć,Code.cUnits,Ż]
def cY.make(r:cY (k+1) A)(C)(a)(b):cY k (A.under (.builtin "type.__call__" ⟨.ref C::a,b⟩)) :=#[r.hd,by let:=r.dp;rw[vN];lia,by let:=r.un;rw[vO];lia,by first|show r.gd|(simp[ć,aas,Ż,aat,guardIds];show r.gd)|(change _=_;show r.gd)]
def cY.depth(r:cY k A):A.depth<recursionLimit:=by let:=r.dp;lia
def EO:TA:=λ_ H Q=>Q [] H
def A6(a:TE)(b:TA):TA:=λσ H Q=>a σ H λx c=>b σ c λd e=>Q (x::d) e
def dw:PA X [] EO:=λ_ _ _ _ H Q I h=>Q9 #[[],H,I,.nil,h]
def bY(d:PE X e f)(g:PA X b t)(hs:j0 (e::b) X.env=(df,uv e X.env)::j0 b X.env:=by rfl):PA X (e::b) (A6 f t):=by intro c a s σ H Q I h;rw[hs];show vr (OV (d a s σ H _ I h) λu i j=>?_);let(x,k,l,m,n):=j;show OV (g c a i σ k _ l n) λv w ⟨y,o,p,q,r⟩=>#[_,o,p,.cons m q,r]
def N4(t:TA):TE:=λσ H Q=>t σ H λa b=>-a<=ei/\∀p,b p=ef->Q (.ref p) (upd b p (.tup a))
def ER(t:TA):TE:=λσ H Q=>t σ H λa b=>-a<=ei/\∀p,b p=ef->Q (.ref p) (upd b p (.lst a))
def A7(h:PA X i t):PE X (.Tuple i n d) (N4 t):=by intro a s σ H Q I j;show ě (OV (h d a s σ H _ I j) λk c ⟨l,f,g,r,z,q⟩=>#[by rw[<-⇑r];show z,?_]);let m:f ↥c=ef:=g.ON.fresh (gs _);show#[.ref ↥c,upd f ↥c (.tup l),g.laid (t':=c.toks) (λb u e=>et _ e) (gs _) ?_,9,q _ m];show#[z,k,r,#[_,gj _ 9,9,_,9]]
def vP(h:PA X i t):PE X (.List i d) (ER t):=by intro a s σ H Q I j;show Ϸ (OV (h d a s σ H _ I j) λk c ⟨l,f,g,r,z,q⟩=>#[by rw[<-⇑r];show z,?_]);let m:f ↥c=ef:=g.ON.fresh (gs _);show#[.ref ↥c,upd f ↥c (.lst l),g.laid (t':=c.toks) (λb u e=>et _ e) (gs _) ?_,9,q _ m];show#[z,k,0,r,gj _ 9]
abbrev Sp:=↑V->Hp->VK->XK->6
abbrev U7:=↑Env->Hp->kj->XK->i7->kj->6
structure vQ(P:DD)(w:Q1)(K:W.Frag)(mg:5->Option i7)(base:Te)(A:Y3)(outer:↑Env)(s:kj)(H:Hp):6 where
 frames:A.frames\outer
 mod:Mod K mg base
 bs:∀b o,base.get? b\o->s.heap.get? b\o/\H b=ef
 SD:base.objs.size<=↥s
 j4:s.heap.FunFrames base outer
 TK:∀b∈PM outer,H b=ef
 ON:P8 P w H s.heap
 bare:ã s.gens
def CE(a:↑Env)(P:DD)(w:Q1)(H:Hp)(s:kj)(Q:VK)(u:i7)(b:kj):6 :=∃v c,b.os=s.os/\ã b.gens/\Un (PM a) [] H c s.heap b.heap/\P8 P w c b.heap/\RelV v u/\Q v c
def CR(c:U7)(a:↑Env)(P:DD)(w:Q1)(H:Hp)(s:kj)(Q:VK)(E:XK)(r:Result)(b:kj):6 :=match r with|.ok (.ret u)=>CE a P w H s Q u b|.ok _=>False|.error e=>c a H s E e b
structure d7(P:DD)(w:Q1)(K:W.Frag)(mg:5->Option i7)(base:Te)(CX:U7)(k:8)(f:ke)(fd:ð)(ps:↑5)(sp:Sp):6 where
 len:∀vs H Q E,sp vs H Q E->-vs=-ps
 run:∀(A:Y3) (outer:↑Env) (s:kj) (H:Hp) (args:Args) (us:↑i7) (vs:↑V) (Q:VK) (E:XK),cY k A->vQ P w K mg base A outer s H->ω s fd args (ps.zip us)->Vals vs us->sp vs H Q E ->
  Ya (i5 P w) A (.call (.ref f) args) (CR CX outer P w H s Q E) s
def vQ.make{K}(e:vQ P w K c b A a s H)(C)(d)(f):vQ P w K c b (A.under (.builtin "type.__call__" ⟨.ref C::d,f⟩)) a s H:=#[by first|show e.frames|(simpa[ć,Code.envs,pushEnvs] using e.frames),e.mod,e.bs,e.SD,e.j4,e.TK,e.ON,e.bare]
def Inv.IC(I:Inv X a σ H s):vQ X.prog X.w X.K X.mg X.base X.A X.stack s H :=#[I.ok.frames,I.ok.mod,I.bs,pe I.ok.SD I.sz,I.stack,I.j5,I.ON,I.bare]
def Inv.after(I:Inv X a σ H s)(h:CE X.stack X.prog X.w H s Q u e):EP X a σ Q u e:=by let(v,f,os,c,i,j,r,q):=h;let(l,g,d,t,k):=e;obtain rfl:k=s.os:=os;show#[v,f,I.call      i j c (λb z=>absurd z 7),r,q]
def LD(C:ke)(c:Sp)(d:↑V)(E:XK)(t:TA):TE:=λσ H Q=>t σ H λe b=>∀x a,b x=ef->b a=ef->a≠x ->
 c (.ref x::(e++d)) (upd (upd b a (.own x)) x (.ins C a [])) (λv f=>v=.OP/\Q (.ref x) f) E
def Binds(K:W.Frag)(d:ð)(b:↑5)(c:↑i7):6 :=∀(s:kj) (a:↑i7),K.In s.heap->-(a++c)=-b->ω s d #[a,[]] (b.zip (a++c))
def Binds.all{K}(h:∀a,-a=-b->bindArgs c #[a,[]]=pure (b.zip a)):Binds K c b []:=λs a _ hl=>by rw[P']at hl ⊢;show .of_eq (h a hl)
def Passes(c:U7)(X:Cx)(E:XK):6:=∀(a:↑(ke×Obj)) (σ:St) (H:Hp) (s:kj) (e:i7) (b:kj),Inv X a σ H s->c X.stack H s E e b->X.xe e b
def ID(F:d7 X.prog X.w X.K X.mg X.base j k f l d m)(n:cY k X.A)(o:Binds X.K l d g)(p:Vals q g)(t:Passes j X E) (I:Inv X a σ H s) (r:Vals v b) (h:m (v++q) H Q E):‹X› (WH (.ref f) b) (EP X a σ Q) X.xe s:=by
 let i:=r.append p;let hl:-(b++g)=-d:=by rw[<-⇑i];show F.len _ _ _ _ h
 show ŧ (Zy (F.run X.A _ s H _ _ _ Q E n I.IC (o s b I.QA hl) i h) λr x c=>?_);cases r with
 |error e=>show t a σ H s e x I c|ok y =>
  cases y with
  |ret u=>show I.after c
  |cont=>assumption
  |_=>show Uo c
structure Mk(K:W.Frag)(C f:ke):6 where
 makes:W.makesIn K C=4
 init:W.findIn K (.ref C) "__init__"\b6 (.ref f)
 fn:W.isFn K (.ref f)=4
 kp:W.keepIn K (.ref C)=4
def A8(M:Mk X.K C f)(F:d7 X.prog X.w X.K X.mg X.base o k f p i q)(t:cY (k+1) X.A)(y:Binds X.K p i b)(z:Vals j b) (B:Passes o X E) (I:Inv X a σ H s) (r:Vals l us) (h:∀x c,H x=ef->H c=ef->c≠x->q (.ref x::(l++j)) (upd (upd H c (.own x)) x (.ins C c [])) (λv D=>v=.OP/\Q (.ref x) D) E) :
  ‹X› (WH (.ref C) us) (EP X a σ Q) X.xe s:=by
 let m:=h (↥s+1) ↥s (I.ON.fresh (ZP _)) (I.ON.fresh (gs _)) (ku (Wv _));let d:=Inv.made (C:=C) I;let n:Vals (V.ref (↥s+1)::(l++j)) (rr (↥s+1)::(us++b)):=.cons 9 (r.append z);let hl:⇑(rr (↥s+1)::us++b)=-i:=by let e:=-n;rw[F.len _ _ _ _ m]at e;show e.symm
 show ŧ (A5 (f:=f) I.QA M.makes M.init (beq_iff_eq.mp M.fn) (Zy (F.run _ X.stack _ _ #[rr (↥s+1)::us,[]] (rr (↥s+1)::(us++b)) _ _ E (t.make C us [])
  (d.IC.make C us []) (y _ (rr (↥s+1)::us) d.QA hl) n m) λr G g=>?_))
 cases r with
 |error e=>show B a σ _ _ e G d g|ok J =>
  cases J with
  |ret u=>let(v,L,N,O,ev,T):=d.after g;subst ev;show#[O,#[V.ref (↥s+1),L,N,9,T]]
  |_=>show Uo g
def tP(M:Mk X.K C f)(F:d7 X.prog X.w X.K X.mg X.base b k f c d e)(g:cY (k+1) X.A)(i:Gl X x)(j:X.mg x\.ref C)(l:Binds X.K c d m)(n:Vals o m)(q:Passes b X E) (r:(x==("__debug__":5))=df:=by decide):PE X (.Call (.Name x p) [] [] t) (LD C e o E EO):=by intro a s σ H Q I h;show tj (eO I i j ?_ r);show W.callWith_K0 I.QA M.kp (A8 (us:=[]) M F g l n q I .nil h)
structure dy(N P:↑5)(sc:R0):6 where
 kind:sc.kind=.function
 co:sc.isCoroutine=df
 gen:sc.isGenerator=df
 nd:N.Nodup
 pre:N.take ⇑P=P
 par:∀x∈P,sc.names.lookup x\.local\/sc.names.lookup x\.cell
 U8:∀y∈sc.names,y.2≠.free
theorem qh{kindOf}:∀{a}{m},(∀v,(x,v)∉a)->ϛ kindOf a m x=m x
 |[],_,_=>9|(n,v)::r,m,h=>by
  unfold ϛ;rw[qh λw b=>h w (ib _ b)];split
  .let:x≠n:=by rintro rfl;show h v ki
   simp[this]
  rfl
theorem qi{kindOf}:∀{a}{m},(∀v,(x,v)∉a)->Ϝ kindOf a m x=m x
 |[],_,_=>9|(n,v)::r,m,h=>by
  unfold Ϝ;rw[qi λw b=>h w (ib _ b)];split
  .rfl
  let:x≠n:=by rintro rfl;show h v ki
  simp[this]
theorem qj{kindOf}:∀{P:↑5}{a}{i:8}{m},P.Nodup->P[i]?\x->a[i]?\v->kindOf x\.local ->
  ϛ kindOf (P.zip a) m x\v
 |[],_,_,_,_,h,_,_=>by simp at h|_::_,[],_,_,_,_,h,_=>by simp at h|p::P,w::a,0,m,b,c,d,hk=>by simp at c d;subst c;subst d;change ϛ _ ((p,w)::P.zip a) m p=_;unfold ϛ;rw[qh λv e=>(vl.mp b).1 (ZR e).1,if_pos hk];simp|p::P,w::a,i+1,m,b,c,d,hk=>by unfold ϛ;show qj  (vl.mp b).2 (by assumption) (by assumption) hk
theorem qk{kindOf}:∀{P:↑5}{a}{i:8}{m},P.Nodup->P[i]?\x->a[i]?\v->kindOf x≠b6 .local ->
  Ϝ kindOf (P.zip a) m x\v
 |[],_,_,_,_,h,_,_=>by simp at h|_::_,[],_,_,_,_,h,_=>by simp at h|p::P,w::a,0,m,b,c,d,hk=>by simp at c d;subst c;subst d;change Ϝ _ ((p,w)::P.zip a) m p=_;unfold Ϝ;rw[qi λv e=>(vl.mp b).1 (ZR e).1,if_neg hk];simp|p::P,w::a,i+1,m,b,c,d,hk=>by unfold Ϝ;show qk  (vl.mp b).2 (by assumption) (by assumption) hk
def start(N:↑5)(a:↑V):St:=a.map b6++pz (-N - -a) ef
def tQ(i:U7)(P:DD)(w:Q1)(K:W.Frag)(j:5->Option i7)(d:Te)(N:↑5)(c:5)(a:R0)(f:ke)(g:i7)(A:Y3)(b:↑Env)(s:kj)(H:Hp)(E:XK):Cx where
 prog:=P
 w:=w
 K:=K
 mg:=j
 base:=d
 A:=A.deeper (Ĳ c a ↥s f g)
 N:=N
 s₀:=s
 H₀:=H
 env:=Ĳ c a ↥s f g
 outer:=b
 stack:=Ĳ c a ↥s f g::b
 ex:=[]
 calm:=4
 fn:=λ_=>4
 pn:=[]
 xe:=λe k=>gi (i5 P w) (A.deeper (Ĳ c a ↥s f g)) (leaving (Ĳ c a ↥s f g) e) (λ_ h=>i b H s E e h) (λl h=>i b H s E l h) k
def tS{a:R0}(h:a.names.lookup x\.cell):∃c,(V9 n a.names []).lookup x\c:=by let q:=W.cellsFrom_some _ n [] (.inl h);show VL.mp q
def zx{K} (S:dy N o a) (T:A.handled=ef) (j:vQ P w K L l A d s H) (hl:-t=-o) (r:Vals t O) (x:InCallC s ↥s (ϛ (Ĳ g a ↥s f I).kindOf (o.zip O) λ_=>ef) (V9 (↥s+1) a.names []) (Ϝ (Ĳ g a ↥s f I).kindOf (o.zip O) λ_=>ef) Y) :Inv (tQ CX P w K L l N g a f I A d s H E) [] (start N t) H Y:=by
 let Qr:-o<=-N:=by let:=congrArg Y4 S.pre;grind
 let(D,tk,rfl,hk):=x.done;let J:∀b:ke,b∉(tQ CX P w K L l N g a f I A d s H E).ex:=λb z=>absurd (show b∈([]:↑ke) from z) 7;show#[#[j.mod,S.kind,9,9,gs _,λy z c D m=>?_,λy hy=>?_,λy c _ h=>?_,λ_=>T,Around.frames_deeper j.frames,.inr #[9,9],λb z=>absurd z (J b),j.bs,j.SD,λb _ _=>J b,λb z=>absurd z (J b),j.j4,j.TK],
  9,j.bare,Un.kept hk,#[_,x.toInCall.ns,λi y v D m h3=>?_],λy c h=>#[_,x.cell y c h],j.ON.fresh (gs _),λy c h=>?_,λp B=>absurd (show p∈([]:↑(ke×Obj)) from B) 7,j.ON.kept hk,?_]
 .show name_of_addr x.apart (PySem.mem_of_lookup D) (PySem.mem_of_lookup m)
 .rcases hy with hy|hy
  .show tS hy
  show absurd 9 (S.U8 _ (PySem.mem_of_lookup hy))
 .show Ue (x.above y c (PySem.mem_of_lookup h))
 .let G:i< -t:=by
   unfold start at m;by_cases G:i< -t
   .show G
   rw[vu (by exists G)]at m;rw[Y5]at m;left
  let ha:t[i]?\v:=by unfold start at m;rw[K0 (by exists G),ri]at m;left
  let(u,Q,rv):=r.get ha;let B:o[i]?\y:=by rw[<-S.pre,ŗ ⋯];show D
  let C:o.Nodup:=by rw[<-S.pre];show S.nd.sublist (XC _ _)
  show#[u,rv,?_];obtain k|k:=S.par y (va B)
  .show .inl #[k,qj C B Q k]
  let(c,e):=tS (n:=↥s+1) k;show .inr #[.inl k,c,e,?_];let q:=x.cell y c e;rw[qk C B Q (by change a.names.lookup y≠_;rw[k];decide)]at q;show q
 .show j.ON.fresh (Ue (x.above y c (PySem.mem_of_lookup h)))
 unfold start;change _=-N;left
def A9{K:W.Frag}{dV kV p pm m ct oc} (lk:K.lookup f\#[oc,od,.func (W.fnOf z d h j a dV kV p pm an m ct),Uq]) (O5:W.codeIn K m d=4) (S:dy N L a) (B:∀i H Q E,sp i H Q E->-i=-L) (QB:∀A c s H i Q E,cY k (A.deeper (Ĳ d a ↥s f m))->sp i H Q E ->
      ∃t,Qj (tQ O P w K T g N d a f m A c s H E) j t/\t {nx:=λ_ l=>Q .OP l,rt:=Q} (start N i) H) :
    d7 P w K T g O (k+1) f (W.fnOf z d h j a dV kV p pm an m ct) L sp:=by
  show#[B,λA c s H args us i Q E Y C hb r PZ=>?_];let hl:=B _ _ _ _ PZ;let KX:=C.mod.Uj.keeps λb o e=>(C.bs b o e).1;let ab:=C.mod.nolimit.keeps λb o e=>(C.bs b o e).1;let Wt:∀y∈L.zip us,a.names.lookup y.1\.local\/(a.names.lookup y.1\.cell/\((V9 (↥s+1) a.names []).lookup y.1).isSome=4):=λ⟨n,v⟩ hy=>by
    obtain q|q:=S.par n (ZR hy).1
    . show .inl q
    . show .inr #[q,W.cellsFrom_some _ _ _ (.inl q)]
  show codeAny_call_function Y.depth (KX _ _ lk) 9 S.co S.gen 9 (W.codeRec_of KX O5) (hb _ _ _ _ ?_);show wpAny_newFunctionEnv_cells S.kind Wt λac he s1 x=>?_;subst he;show#[ab.keeps x.toInCall.keep,codeAny_func ?_];let(t,ht,hq):=QB A c s H i Q E (Y.deeper _) PZ;let I:Inv (tQ O P w K T g N d a f m A c s H E) [] (start N i) H s1:=zx S Y.hd C hl r x;show mu (ht [] s1 (start N i) H _ I hq) (λfl s' hs=>?_) λe s' hs=>hs;let D:∀{G:St} {l:Hp} {v:V} {u:i7},Inv (tQ O P w K T g N d a f m A c s H E) [] G l s'->RelV v u->Q v l->CE c P w H s Q u s' :=λ{G l v u} J rv q=>#[v,l,J.os,J.bare,J.base,J.ON,rv,q]
  cases fl with| ret u=>let(v,G,l,J,rv,q):=hs;show D J rv q| next=>let(G,l,J,q):=hs;show D (v:=V.OP)  J 9 q| brk=>let(_,_,_,q):=hs;show Uo q| cont=>let(_,_,_,q):=hs;left
end L2
namespace HT
open PySem PyProof.Rows
section
open PySem.SeqAt
open PySem.AutoSeq1 (wpAny_loadPart')
open PySem.MeetsSeq PySem.MeetsSeq2 PySem.MeetsSeq3
end
def ES(u:Ĩ s.heap t c.toArray)(v:Ĩ s.heap b a.toArray)(i:c≠[]) (x:a=[]->Q (.ref t) s) (y:a≠[]->Q (.ref ↥s) {s with heap:=s.heap.push {cls:=.type "tuple",data:=.seq (c++a).toArray}}) (h:-c+ -a<=ei):gi (i5 prog w) A (YK .Add (.ref t) (.ref b)) Q E s:=by
 let((cls,dd,j,k),ho,l,n,m):=id u;let((z,o,data2,p),f,q,r,d):=id v;simp only at l m q d;subst l m q d;let e:c.toArray++a.toArray=(c++a).toArray:=7
 by_cases g:a=[]
 .show Ł #[_,ho,9] #[_,f,9] Ō Ζ F.slot_tuple_add F.entry_tuple_add (F.args_tuple_add_2 _ _)
   (tuple_addW1 t b c.toArray a.toArray n r dd o k p (by exists i) (by simp[g])) #[ho,f,x g]
 show Ł #[_,ho,9] #[_,f,9] Ō Ζ F.slot_tuple_add F.entry_tuple_add (F.args_tuple_add_2 _ _)
  (tuple_addW2 t b c.toArray a.toArray n r dd o k p (by exists i) (by exists g) (by rw[rS,rS];show h)) #[ho,f,?_]
 rw[e];show y g
def O3(n d:8):Option Int->8|none=>d|some v=>if v<0 then(v+(n:Int)).toNat else min v.toNat n
def tT(n d):O3 n d ef=d:=9
def xT(n d k:8):O3 n d (b6 (k:Int))=min k n:=by rfl
def IE(n d)(b:d<=n)(o):O3 n d o<=n:=by
 cases o with
 |none=>show b|some v =>
  change(if v<0 then(v+(n:Int)).toNat else min v.toNat n)<=n;by_cases a:v<0
  .rw[if_pos a];lia
  rw[if_neg a];show Nat.min_le_right _ _
def xU(v)(n d:8):(if v<0 then max (v+(n:Int)) 0 else min v (n:Int))=((O3 n d (b6 v):8):Int):=by
 change(if v<0 then max (v+(n:Int)) 0 else min v (n:Int))=(((if v<0 then(v+(n:Int)).toNat else min v.toNat n):8):Int)
 by_cases a:v<0
 .simp only[if_pos a];lia
 simp only[if_neg a];lia
def vR(lo a)(n:8):ZK lo a 1 (n:Int)=(((O3 n 0 lo:8):Int),((O3 n n a:8):Int)):=by
 let b:¬((1:Int)<0):=7
 unfold ZK;erw[b,if_false];show Ö ?_ ?_
 .cases lo with|none=>rfl|some v=>show xU v n 0
 cases a with|none=>rfl|some v=>show xU v n n
def vS(i j:8):WT (i:Int) (j:Int) 1=j - i:=by
 unfold WT;let a:(1:Int)>0:=7
 erw[a,if_true,Int.ediv_one];split<;>lia
def nL(p:Ē v o)(h:Q o s):gi (i5 prog w) A (aaz v) Q E s:=by cases p with|none=>show slicePart_none h|int i t=>show slicePart_int h
def fQ{lo a}{n:8}(hs:s.heap.IsSliceOf f d e .none)(g:Ē d lo)(i:Ē e a) (h:Q (((O3 n 0 lo:8):Int),1,O3 n n a - O3 n 0 lo) s):gi (i5 prog w) A (ă (.ref f) (pure (n:Int))) Q E s:=by let(os,b,j,c):=id hs;unfold ă aaA;show cb (cb (LF b c (x:=d) 9 (cb (LF b c (x:=e) 9 (cb (LF b c (x:=.none) 9 (eT ?_)))))));show cb (slicePart_none ?_);change gi _ _ (if ((1:Int)==0)=4 then _ else _) _ _ s;rw[if_neg ⋯];show cb (nL g (cb (nL i (cb (eT ?_)))));change gi _ _ (match ZK lo a 1 (n:Int) with|(lo,a)=>pure (lo,(1:Int),WT lo a 1)) _ _ s;rw[vR lo a n];change gi _ _ (pure (((O3 n 0 lo:8):Int),(1:Int),WT ((O3 n 0 lo:8):Int) ((O3 n n a:8):Int) 1)) _ _ s;rw[vS];show eT h
def A_(a:Array i7)(i k:8):((i9 k).filterMap λ(m:Nat)=>a[((i:Int)+(m:Int) * 1).toNat]?).toArray=((a.toList.drop i).take k).toArray:=by
 let e:(λ(m:Nat)=>a[((i:Int)+(m:Int) * 1).toNat]?)=λm=>a[i+m]?:=by
  funext m
  let:((i:Int)+(m:Int) * 1).toNat=i+m:=7
  rw[this]
 rw[e];let:=pick_run a i k;rw[List.filterMap_map]at this;let b:((λx=>a[x]?) ∘ λx=>i+x)=λm=>a[i+m]?:=9;rw[b]at this;rw[this]
def j7{lo b}(c:Ĩ s.heap t a)(hs:s.heap.IsSliceOf e f g .none)(i:Ē f lo)(j:Ē g b) (k:¬(O3 a.size 0 lo=0/\O3 a.size a.size b=a.size)) (h:Q (.ref ↥s) {s with heap:=s.heap.push {cls:=.type "tuple",data:=.seq ((a.toList.drop (O3 a.size 0 lo)).take (O3 a.size a.size b - O3 a.size 0 lo)).toArray}}) (l:a.size<=ei):gi (i5 prog w) A (Ê (.ref t) (.ref e)) Q E s:=by
 let d:sizeOk (.seq ((a.toList.drop (O3 a.size 0 lo)).take (O3 a.size a.size b - O3 a.size 0 lo)).toArray):=by change((a.toList.drop (O3 a.size 0 lo)).take (O3 a.size a.size b - O3 a.size 0 lo)).toArray.size<=ei;rw[rS,R_,Zo,sP];lia
 let u:O3 a.size a.size b<=a.size:=IE _ _ (gs _) b;let(os,n,o,v):=id hs;let p:s.TypeIs (.ref e) "slice":=#[os,n,o]
 unfold Ê
 try with_reducible show K' ?_
 first|show cb (eT ?_)|skip
 show cb (aak c.typeIs 7 ?_);show cb (Pr (name:=Ĝ "__getitem__") c.typeIs Od
  (wh Od c.typeIs entry_tuple_getitem ?_ (aac _ _)))
 change gi _ _ (Ă (.ref t) >>= _) _ _ s;show cb (tupleItemsOf_ c ?_);show cb (Zx p ?_);rw[if_pos ⋯];show cb (fQ hs i j ?_);let r:¬((((O3 a.size 0 lo:8):Int)==0&&(1:Int)==1&&(O3 a.size a.size b - O3 a.size 0 lo)==a.size)=4):=by intro q;rw[dt,dt]at q;let x:((O3 a.size 0 lo:8):Int)=0:=eq_of_beq q.1.1;let y:O3 a.size a.size b - O3 a.size 0 lo=a.size:=eq_of_beq q.2;show k #[7,7]
 change gi _ _ (if (((O3 a.size 0 lo:8):Int)==0&&(1:Int)==1&&(O3 a.size a.size b - O3 a.size 0 lo)==a.size)=4 then _ else _) _ _ s;rw[if_neg r,A_]
 first
  |show cb (m:=Xs _) (ti (eT #[_,9,eT h]) d)|show cb (m:=Xs _) (ti (cb (eT (eT #[_,9,eT h]))) d)|show cb (cb (m:=Xs _) (ti (eT (eT #[_,9,eT h])) d))|show cb (cb (m:=Xs _) (ti (eT #[_,9,eT h]) d))
end HT
namespace L2
open PySem PySem.Spec PyProof.Rows
abbrev TO:=St->Hp->(Option Int->Hp->6)->6
def PO(X:Cx)(e:Option nS)(t:TO):6 :=
 ∀(a:↑(ke×Obj)) (s:kj) (σ:St) (H:Hp) (Q:Option Int->Hp->6),Inv X a σ H s->t σ H Q ->
  ‹X› (evalPart e X.env) (λu c=>∃o b,Inv X a σ b c/\Ē u o/\Q o b) X.xe s
def ET:TO:=λ_ H Q=>Q ef H
def LG(t:TE):TO:=λσ H Q=>t σ H λx a=>∃i,x=.int i/\Q (b6 i) a
section
variable{X:Cx}{e:nS}{te:TE}{lo hi:Option nS}{tl th:TO}{pos p2:Pos}
def EU:PO X ef ET:=by intro a s σ H Q I h;show eT #[ef,H,I,.none,h]
def EV(h:PE X e te):PO X (b6 e) (LG te):=by intro a s σ H Q I b;show OV (h a s σ H _ I b) λu k c=>?_;let(x,d,f,g,j):=c;let(i,rfl,q):=j;let(t,rfl):=g;show#[_,d,f,.int i t,q]
def Tg(X:Cx)(r:V->Option Int->Option Int->Hp->VK->6):6 :=
 ∀(a:↑(ke×Obj)) (s:kj) (σ:St) (H:Hp) (x:V) (v b c:i7) (lo hi:Option Int) (d:ke) (Q:VK),Inv X a σ H s->RelV x v->s.heap.IsSliceOf d b c .none->Ē b lo->Ē c hi->r x lo hi H Q ->
  ∃T id,Ô (.type T) "__getitem__"=pure (b6 (.builtin id))/\s.TypeIs v T/\‹X› (Ê v (.ref d)) (EP X a σ Q) X.xe s
def Tg.or(h:Tg X r)(j:Tg X k):Tg X (λx lo hi H Q=>r x lo hi H Q\/k x lo hi H Q):=by
 intro a s σ H x v b c lo hi d Q I f hs g i q;obtain q|q:=q
 .show h a s σ H x v b c lo hi d Q I f hs g i q
 show j a s σ H x v b c lo hi d Q I f hs g i q
def tSl(r:V->Option Int->Option Int->Hp->VK->6)(te:TE)(tl th:TO):TE:=λσ H Q=>te σ H λx a=>tl σ a λl b=>th σ b λu c=>r x l u c Q
def Ba(i:Tg X r)(j:PE X e te)(hl:PO X lo tl)(k:PO X hi th):PE X (.Subscript e (.Slice lo hi ef p2) pos) (tSl r te tl th):=by intro a s σ H Q I h;show Ŷ (OV (j a s σ H _ I h) λv m n=>?_);let(x,o,p,t,w):=n;show wpAny_Slice (OV (hl a m σ o _ p w) λc y ⟨l,z,A,B,C⟩=>OV (k a y σ z _ A C) λd f D=>?_);let(u,g,G,J,L):=D;show eT ?_;let N:Inv X a σ g {f with heap:=f.heap.push {cls:=.type "slice",data:=.fields #v[c,d,.none]}}:=G.kept  λb ob q=>et _ q;let(T,id,O,Y,hg):=i a _ σ g x v c d l u _ Q N t (aar ..) B J L;show tail_any  Y O hg (by rfl)
def vT(a:↑V)(lo hi:Option Int):↑V:=(a.drop (HT.O3 ⇑a 0 lo)).take (HT.O3 ⇑a ⇑a hi - HT.O3 ⇑a 0 lo)
def lY(a)(lo hi):-vT a lo hi<=-a:=by unfold vT;rw[R_,Zo];lia
noncomputable def LH(K:W.Frag):V->Option Int->Option Int->Hp->VK->6:=λx lo hi H Q=>∃a b,x=.ref a/\Pu K H a b /\
 ¬(HT.O3 ⇑b 0 lo=0/\HT.O3 ⇑b ⇑b hi=-b)/\∀p,H p=ef->Q (.ref p) (upd H p (.tup (vT b lo hi)))
def IF:Tg X (LH X.K):=by
 intro f s σ H x v t u lo hi w Q I j hs k l h;let(a,d,rfl,m,n,q):=h;ext j;let(p,r,g,i):=I.tuple m;let c:p.toArray.size=-d:=by rw[rS];show r.length.symm
 show#["tuple",_,Od.lookup,g.typeIs,?_];show HT.j7 g hs k l (by rw[c];show n) ?_ (by rw[c];show i);rw[c];show#[.ref ↥s,_,I.laid (t':=s.toks) (o:=.tup (vT d lo hi)) (λb y q=>et _ q) (gs _) ?_,9,q _ (I.ON.fresh (gs _))];show#[pe (lY d lo hi) i,_,(r.drop (HT.O3 ⇑d 0 lo)).take (HT.O3 ⇑d ⇑d hi - HT.O3 ⇑d 0 lo),ğ _ _]
def LJ(K:W.Frag):R2:=λx y H Q=>∃a b d c,x=.ref a/\y=.ref b/\Pu K H a d/\Pu K H b c/\d≠[]/\-d+ -c<=ei /\
 (c=[]->Q (.ref a) H)/\(c≠[]->∀p,H p=ef->Q (.ref p) (upd H p (.tup (d++c))))
def Vals.rm(r:Vals a b):b=[]↔a=[]:=by cases r with|_=>simp
def EW:Qy X (YK .Add) (LJ X.K):=by intro f s σ H x y v u Q I i j h;let(a,b,k,l,rfl,rfl,m,n,p,g,r,t):=h;ext i j;let(B,d,A,_):=I.tuple m;let(C,c,p2,_):=I.tuple n;show HT.ES A p2 (λz=>p (d.rm.mp z)) (λz=>#[.ref a,H,I,9,r (c.rm.mp z)]) (λz=>?_) (by rw[<-⇑d,<-⇑c];show g);show#[.ref ↥s,_,I.laid (t':=s.toks) (o:=.tup (k++l)) (λb D q=>et _ q) (gs _) ?_,9,t (λw=>z (c.rm.mpr w)) _ (I.ON.fresh (gs _))];show#[by rw[nc];show g,_,d.append c,ğ _ _]
end
def SH(n:8)(i:Int):Option 8:=if 0<=i then(if i<n then b6 i.toNat else ef) else if -((n:Int):Int)<=i then b6 (i+n).toNat else ef
def Px{α:Type}(a:↑α)(i:Int):Option α:=(SH ⇑a i).bind λj=>a[j]?
def xV{n}(h:SH n i\j):seqIndex? i n\j/\j<n/\-((n:Int):Int)<=i/\i<n:=by
 unfold SH at h;by_cases b:0<=i
 .rw[if_pos b]at h;by_cases a:i<n
  .rw[if_pos a]at h;let e:=R' h;show#[by rw[ϙ b a,e],7,7,a]
  left
 rw[if_neg b]at h;by_cases a:-(n:Int)<=i
 .rw[if_pos a]at h;let e:=R' h;show#[by rw[seqIndex_neg ⋯ a,e],7,a,7]
 left
def rn(h:Px a i\v):∃j,seqIndex? i ⇑a\j/\a[j]?\v/\j< -a/\-((-a:Int):Int)<=i/\i< -a:=by unfold Px at h;cases e:SH ⇑a i with|none=>left|some j=>rw[e]at h;let(b,c,d,f):=xV e;show#[j,b,h,c,d,f]
def bo{j:8}(h:a[j]?\v):Px a (j:Int)\v:=by
 let b:=(gr.mp h).1;let e:SH ⇑a j\j:=by unfold SH;left
 unfold Px;rw[e];show h
def mZ(b:nS):6:=∀o i,Ŕ b df o i=operate [o,i] (Ê o i)
def XB(X:Cx)(r:R2):6 :=
 ∀(c a:nS) (b:↑(ke×Obj)) (s:kj) (σ:St) (H:Hp) (x y:V) (v u:i7) (Q:VK),Inv X b σ H s->RelV x v->RelV y u->r x y H Q ->
  Ŕ a df v u=operate [v,u] (Ê v u)->‹X› (subscriptTail c a v u) (EP X b σ Q) X.xe s
def VN(X:Cx)(id:String)(r:V->↑V->Hp->VK->6):6 :=
 ∀(a:↑(ke×Obj)) (s:kj) (σ:St) (H:Hp) (x:V) (b:↑V) (v:i7) (c:↑i7) (Q:VK),Inv X a σ H s->RelV x v->Vals b c->r x b H Q ->
  ‹X› (WH (.builtin id) (v::c)) (EP X a σ Q) X.xe s
section
def LK(d:XB X r)(f:PE X a g)(i:PE X b tb)(hs:mZ b):PE X (.Subscript a b j) (tOp r g tb):=by intro c s σ H Q I h;show Ŷ (NZ f i I h λv u k x y l m n p q=>d a b c k σ l x y v u Q m n p q (hs _ _))
def N5(K:W.Frag):R2:=λx y H Q=>∃p a i v,x=.ref p/\y=.int i/\Py K H p a/\Px a i\v/\Q v H
def LL(K:W.Frag):R2:=λx y H Q=>∃p a i v,x=.ref p/\y=.int i/\Pu K H p a/\Px a i\v/\Q v H
def N6:R2:=λx y H Q=>∃z i c,x=.str z/\y=.int i/\-z<=ei/\Px (~~~z) i\c/\Q (.str #[#v[c]]) H
def EX:XB X (N5 X.K):=by
 intro c d a s σ H x y v u Q I n A h hs;let(p,O,i,z,rfl,rfl,B,C,q):=h;ext n;let(t,rfl):=A;let(D,r,f,Y):=I.list B;let(j,k,G,h3,J,L):=rn C;let(w,l,N):=r.get G;let hl:=-r;let hn:=ig;let b:EP X a σ Q w s:=#[z,H,I,N,q]
 by_cases m:0<=i
 .let g:i.toNat=j:=by rw[ϙ m L]at k;left
  show item_listR f.isList m 7 (by rw[g];exists l) b hs
 let g:(i+(D.toArray.size:Int)).toNat=j:=by rw[seqIndex_neg ⋯ J]at k;left
 show ϊ  f.isList.typeIs slot_list_getitem.lookup
  (wpAny_getItem_list_neg  f.isList 7 7 7 (by rw[g];exists l) #[9,b]) hs
def k_:XB X (LL X.K):=by
 intro b c a s σ H x y v u Q I g k h hs;let(p,C,i,z,rfl,rfl,l,m,q):=h;ext g;let(t,rfl):=k;let(D,r,f,G):=I.tuple l;let(j,J,n,L,N,O):=rn m;let(w,A,B):=r.get n;let hl:=-r;let Y:=ig;let d:EP X a σ Q w s:=#[z,H,I,B,q]
 show ϊ  f.typeIs slot_tuple_getitem.lookup
  (getItem_tuple (j:=j)  f 7 7 7 (by exists A) #[9,d]) hs
def jF:XB X N6:=by
 intro a b d s σ H x y v u Q I g k h hs;let(z,i,c,rfl,rfl,w,l,q):=h;let(t,rfl):=g;let(A,rfl):=k;let(j,f,m,B,n,p):=rn l;let hl:-z.cps.toList=-z:=by rfl
 rw[hl]at f n p;let C:=ig;show tail_any (YJ s z t) slot_str_getitem.lookup (getItem_str  (by grind) (by rw[f];exists m) #[.str _,H,I.tok _,#[_,9],q]) hs
def vU(a:↑i7)(n j)(u):tr (·.setIfInBounds j u) {cls:=.type "list",data:=.seq a.toArray n}={cls:=.type "list",data:=.seq (a.set j u).toArray n}:=by simp[tr]
def Inv.lst(I:Inv X b σ H s)(h:H p\.lst c):∃a n,Vals c a/\s.heap.get? p\{cls:=.type "list",data:=.seq a.toArray n}/\-c<=ei:=by let(z,a,n,r,e):=I.ON p _ h;show#[a,n,r,e,z]
def Inv.IG{d a:↑i7}(I:Inv X c σ H s)(h:H p\.lst m) (ho:s.heap.get? p\{cls:=.type "list",data:=.seq d.toArray n}) (g:f {cls:=.type "list",data:=.seq d.toArray n}={cls:=.type "list",data:=.seq a.toArray i }) (r:Vals j a) (k:-j<=ei) (t) :Inv X c σ (upd H p (.lst j)) {s with heap:=s.heap.update p f,toks:=t}:=by
 let e:(s.heap.update p f).get? p\{cls:=.type "list",data:=.seq a.toArray i }:=by rw[sx f ho (by rw[g]<;>rfl),g]
 show I.write   (by rw[h];trivial) (.inl 9) (λb u l q=>(PF _ _ (sg l)).trans q) ⟨_,e⟩ ?_;show#[k,a,i,r,e]
noncomputable def LM:V->V->V->Hp->(Hp->6)->6:=λo i v H Q=>∃p a k j,o=.ref p/\i=.int k/\H p\.lst a/\SH ⇑a k\j/\Q (upd H p (.lst (a.set j v)))
def set_list:qX X LM:=by
 intro a s σ H o i v A B u Q I l m w h;let(p,C,k,j,rfl,rfl,b,x,q):=h;ext l;let(t,rfl):=m;let(c,n,r,ho,D):=I.lst b;let(d,G,y,z):=xV x;let hl:=-r;let J:=ig;let f :=I.IG b ho (vU c n j u) (r.set w j) 7 s.toks
 by_cases g:0<=k
 .let hk:k.toNat=j:=by rw[ϙ g z]at d;left
  show W.ki_setAt ho g 7 7 (by rw[hk];show#[_,f,q])
 let hk:(k+c.toArray.size).toNat=j:=by rw[seqIndex_neg ⋯ y]at d;left
 show W.ki_setBack ho 7 7 7 (by rw[hk];show#[_,f,q])
def rp(lo a)(n):(á lo a ef n).1=((HT.O3 n 0 lo:8):Int)/\(á lo a ef n).2.1=((HT.O3 n n a:8):Int)/\(á lo a ef n).2.2=1:=by
 show#[?_,?_,9]
 .cases lo with
  |none=>simp[á,HT.O3]|some i =>
   erw[á,HT.O3,ζ,show(1:Int)>0 by decide,if_true];by_cases h:i<0
   .simp only[h,if_true]<;>lia
   simp only[h,if_false]<;>lia
 cases a with
 |none=>rfl|some i =>
  erw[á,HT.O3,ζ,show(1:Int)>0 by decide,if_true];by_cases h:i<0
  .simp only[h,if_true]<;>lia
  simp only[h,if_false]<;>lia
def pR(a:↑i7)(lo b):slicePick a.toArray lo b ef=((a.drop (HT.O3 ⇑a 0 lo)).take (HT.O3 ⇑a ⇑a b - HT.O3 ⇑a 0 lo)).toArray:=by let(c,d,f):=rp lo b _;unfold slicePick;rw[c,d,f];erw[sliceRange_one,pick_run]<;>rfl
noncomputable def LN(K:W.Frag):V->Option Int->Option Int->Hp->VK->6:=λx lo c H Q=>∃a b,x=.ref a/\Py K H a b/\∀p,H p=ef->Q (.ref p) (upd H p (.lst (vT b lo c)))
def EY:Tg X (LN X.K):=by intro d s σ H x v p u lo g w Q I i hs j k h;let(a,l,rfl,m,q):=h;ext i;let(y,r,f,n):=I.list m;let c:=-r;show#[_,_,slot_list_getitem.lookup,f.isList.typeIs,?_];show wpAny_getItem_list_slice f.isList hs j k .none 7 ?_ 7;rw[pR,<-c];show#[.ref _,_,I.laid   (λb z q=>et _ q) (gs _) ?_,9,q _ (I.ON.fresh (gs _))];show#[pe (lY l lo g) n,_,0,(r.drop _).take _,gj _ 9]
def rB:Qy X (TY .NotIn) (λx y H Q=>∃i j,x=.str i/\y=.str j/\Q (.bl (!(!(Pe j i 0 ⇑j 1).isEmpty))) H):=by intro a s σ H x y v u Q I b c h;let(i,j,rfl,rfl,q):=h;let(t,rfl):=b;let(d,rfl):=c;show notIn_str #[.bl _,H,I,9,q]
def j9:ie X (.builtin "len") (λf H Q=>∃p b,f=[.ref p]/\(Py X.K H p b\/Pu X.K H p b)/\Q (.int ⇑b) H):=by
 intro g s σ H f l Q I r h;let(p,b,rfl,hq,q):=h;let(u,rfl,i):=vals1 r;ext i;let m:=ig;obtain hq|hq:=hq
 .let(j,c,d,k):=I.list hq;let a:=-c;show Calls.call_len_list d.isList (by erw[rS]<;>lia) #[.int _,H,I.tok _,#[_,by rw[rS,a]],q]
 let(j,c,d,k):=I.tuple hq;let a:=-c;show len_tuple d (by erw[rS]<;>lia) #[.int _,H,I.tok _,#[_,by rw[rS,a]],q]
def rC:ie X (.builtin "len") (λa H Q=>∃z,a=[.str z]/\-z<=ei/\Q (.int ⇑z) H):=by intro b s σ H a c Q I r h;let(z,rfl,d,q):=h;let(u,rfl,t,rfl):=vals1 r;let f:=ig;show len_str 7 #[.int _,H,I.tok _,#[_,9],q]
def j_:ie X (.type "list") (λA H Q=>∃p c,A=[.ref p]/\(Py X.K H p c\/Pu X.K H p c)/\∀l,H l=ef->Q (.ref l) (upd H l (.lst c))):=by
 intro i s σ H A D Q I r h;let(p,c,rfl,hq,q):=h;let(u,rfl,C):=vals1 r;ext C;let j:∀(d:↑_),Vals c d->-c<=ei->∀(a:Te) (g:8),(∀b B,s.heap.get? b\B->a.get? b\B) ->
   a.get? _\_->EP X i σ Q _ _:=λd f k a g m e =>
  #[.ref _,_,I.laid (t':=s.toks) m (gs _) (show cJ _ X.w _ a _ (.lst c) from#[k,d,g,f,e]),9,q _ (I.ON.fresh (gs _))]
 obtain hq|hq:=hq
 .let(d,f,x,k):=I.list hq;let v:=-f;let(o,ho,y,n,z):=x.isList;show call_list_seq p (.inl 9) ho y z (λa g m e=>j d f k a g m e) 7
 let(d,f,x,k):=I.tuple hq;let v:=-f;let(o,ho,y,n,z):=x;show call_list_seq p (.inr 9) ho y z (λa g m e=>j d f k a g m e) (by simp<;>lia)
def jt:ie X (.type "tuple") (λg H Q=>∃p a,g=[.ref p]/\((Py X.K H p a/\∀l,H l=ef->Q (.ref l) (upd H l (.tup a)))\/(Pu X.K H p a/\Q (.ref p) H))):=by
 intro i s σ H g z Q I r h;let(p,a,rfl,h):=h;let(u,rfl,v):=vals1 r;ext v;obtain⟨c,q⟩|⟨c,q⟩:=h
 .let(j,d,f,k):=I.list c;let m:=-d;show call_tuple_list f.isList (λA x=>?_) 7;let n:=I.kept (t':=s.toks) x;let y :=n.laid (t':=s.toks) (λb o e=>et _ e) (gs _) (show cJ _ X.w _ _ _ (.tup a) from#[k,j,d,ğ _ _])
  show#[.ref _,_,y,9,q _ (n.ON.fresh (gs _))]
 let(j,d,f,k):=I.tuple c;show call_tuple_same f #[.ref p,H,I,9,q]
def Zb(K:W.Frag)(T:String)(x:V)(H:Hp):6:=match x with
 |.str _=>T="str"|.int _=>T="int"|.ref p=>(T="list"/\∃b,Py K H p b)\/(T="tuple"/\∃o,K.lookup p\o/\o.cls=.type "tuple"/\o.dict=ef) \/
   (T="dict"/\((∃a,H p\.dK a)\/∃a,H p\.dT a))\/(T="set"/\∃S n,H p\.set S n)
 |_=>False
def vV(I:Inv X j σ H s)(r:RelV x v)(d:Zb X.K T x H):s.TypeIs v T/\∀a,v=.ref a->∃k,s.heap.get? a\k/\k.dict=ef:=by
 cases x with
 |str z=>let(t,rfl):=r;cases(d);show#[YJ s z t,λ_ e=>nomatch e]|int i=>let(t,rfl):=r;cases(d);show#[typeIs_int s i t,λ_ e=>nomatch e]|ref p =>
  ext r;obtain⟨rfl,u,m⟩|⟨rfl,o,hk,q,f⟩|⟨rfl,hk⟩|⟨rfl,S,n,hk⟩:=d
  .let(w,_,l,_):=I.list m;show#[l.isList.typeIs,λa e=>?_];ext e;let(o,n,e,c,f,_):=l;show#[o,e,f]
  .show#[#[o,I.QA p o hk,q],λa e=>?_];ext e;show#[o,I.QA _ o hk,f]
  .let z:∃o,s.heap.get? p\o/\o.ExactDict:=by
    obtain⟨g,hk⟩|⟨g,hk⟩:=hk
    .let(_,_,_,_,o,_,_,e,b,_):=I.ON p _ hk;show#[o,e,b]
    let(_,_,_,_,o,_,_,e,b,_):=I.ON p _ hk;show#[o,e,b]
   let(o,e,b):=z;show#[#[o,e,b.1],λa h=>?_];ext h;show#[o,e,b.2.1]
  let(o,_,_,_,e,b,_):=I.ON p _ hk;show#[#[o,e,b.1],λa h=>?_];ext h;show#[o,e,b.2.1]
 |_=>show Uo d
def Zc(K:W.Frag)(T:String)(r:V->↑V->Hp->VK->6)(to:TE)(t:TA):TE:=λσ H Q=>to σ H λx a=>Zb K T x a/\t σ a λb c=>r x b c Q
variable{o e:nS}{es:List nS}{to:TE}{t:TA}{name:5}{apos N':Pos}{T id:String}{r:V->List V->Hp->VK->6}
def tU(g:PlainAttrs T)(b:ϻ T name id)(i:μ (.builtin id)=pure (.type "method_descriptor"))(j:VN X id r)(ho:PE X o to)(k:PA X (e::es) t) (l:Wk o name X.env (uv o X.env)=uv o X.env:=by rfl) (m:((QX N' (j0 (e::es) X.env)).all (λx=>!x.1)&&(ZC N' (V' [] X.env)).all (λx=>x.1.isSome)
   && eL (⇑(e::es)+⇑([]:↑Yn)+(if ([]:↑Yn).isEmpty then 0 else 1)<30))=4:=by rfl)
  (n:(apos.endLine==N'.line)=4:=by rfl) (hs:j0 (e::es) X.env=(df,uv e X.env)::j0 es X.env:=by rfl) (O:(QX N' (j0 es X.env)).any (·.1)=df:=by rfl) :
  PE X (.Call (.Attribute o name apos) (e::es) [] N') (Zc X.K T r to t):=by
 intro a s σ H Q I h;show ô l m n 9 (OV (ho a s σ H _ I h) λv p q=>?_);let(x,u,c,d,w,y):=q;let(z,A):=vV c d w;show#[T,id,g,b,i,z,A,?_];let f:=k N' a p σ u _ c y;rw[hs]at f ⊢;show TQ (by assumption) (Sq ?_);show OV f λB C ⟨D,G,J,L,N⟩=>j a C σ G x D v B Q J d L N
end
def MtM(X:Cx)(id:String)(r:V->↑V->Hp->VK->6):6 :=
 ∀(a:↑(ke×Obj)) (s:kj) (σ:St) (H:Hp) (x:V) (b:↑V) (v:i7) (c:↑i7) (Q:VK),Inv X a σ H s->RelV x v->Vals b c->r x b H Q ->
  ‹X› (WH (.builtin id) (v::c)) (EP X a σ Q) X.xe s
theorem Vals.one:∀{x}{a},Vals [x] a->∃u,a=[u]/\RelV x u|_,_,.cons r .nil=>#[_,9,r]
def Vals.reverse(h:Vals a b):Vals a.reverse b.reverse:=by induction h with|nil=>show .nil|cons r t c=>rw[Í,Í];show Vals.append c (.cons r .nil)
def Inv.la{b its':↑i7}(I:Inv X a σ H s)(d:H l\.lst m) (e:s.heap.get? l\{cls:=.type "list",data:=.seq b.toArray n}) (g:f b.toArray=its'.toArray) (h:Vals c its') (i:-c<=ei) :Inv X a σ (upd H l (.lst c)) {s with heap:=s.heap.update l (tr f),toks:=o }:=by let q:=PySem.IsL.update e f;rw[g]at q;show I.write   (by rw[d];show ttt) (.inl 9) (λp u j k=>(PF _ _ (sg j)).trans k) ⟨_,q⟩ ?_;show#[i,its',_,h,q]
def Inv.N7(I:Inv X a σ H s)(d:Vals b c)(e:-b<=ei):Inv X a σ (upd H ↥s (.lst b)) {s with heap:=s.heap.push {cls:=.type "list",data:=.seq c.toArray},toks:=f } :=I.laid (λ_ _ q=>et _ q) (gs _) ⟨e,c,0,d,gj _ 9⟩
def Inv.fresh(I:Inv X a σ H s):H ↥s=ef:=I.ON.fresh (gs _)
inductive IvM(s:kj)(l:ke)(xs:↑V):6|mk (hz:⇑xs<=ei) (G':↑i7) (n:Nat):Vals xs G'->⇑xs=⇑G'->s.heap.get? l\{cls:=.type "list",data:=.seq G'.toArray n}->IvM s l xs
def Inv.LO(I:Inv X a σ H s)(b:H l\.lst c):IvM s l c:=by let(z,d,n,r,e):=I.ON l _ b;show#[z,d,n,r,-r,e]
def Bb(h:n<=ei):RK n=df:=by unfold RK;left
noncomputable def EZ:V->↑V->Hp->VK->6:=λx b H Q=>∃l a y,x=.ref l/\b=[y]/\H l\.lst a/\-a<ei/\Q .OP (upd H l (.lst (a++[y])))
def lh:MtM X "list.append" EZ:=by
 intro a s σ H x i v j Q I d f h;let(l,k,y,rfl,rfl,b,m,q):=h;ext d;let(u,rfl,g):=f.one;let(z,c,n,r,hl,e):=I.LO b;show ZW F.slot_list_append #[_,e,9] F.entry_list_append (F.args_list_append_2 _ _) (PySem.list_append l c.toArray n u 7) #[e,?_];show#[.OP,_,I.la (its':=c++[u]) b e 7 (r.append (.cons g .nil)) ?_,9,q]
 grind
section
set_option maxRecDepth 100000 in
end
end L2
namespace Att
open PySem PySem.W PySem.Calls PyProof.Rows
def mQ:∀c d,WellAll P h d (c.map WData.int)->ό d c:=by
 intro c;induction c with
 |nil=>intro d w;ext w;show .nil|cons n c e =>
  intro d w;cases w with
  |cons a b=>ext a;show .cons _ _ (e _ b)
def zy{l:VJ}(k:l.most\n) (i:l.row.toRowW.claim.pre args=4) (m:WellAll P h c args) :∃a j b,c=[rr a]/\args=[WData.list (b.map WData.int)]/\h.get? a\{cls:=.type "list",data:=.seq j.toArray}/\ό j b/\-b<=n:=by
 let g:WShape.hasAll [] args _=4:=(pre_splitW i).1;let o:=(pre_splitW i).2;let(d,r,rfl,p,q):=hasAllW_cons g;obtain rfl:=hasAllW_nil q;let(u,rfl,s):=hasW_list p;let(b,rfl):=items_int s;let e:-b<=n:=by
  let f:=by let f:=(holds_andW o).1;rw[k]at f;show f
  let v:=condW_of f (w_not (w_lt w_lit (w_len_list (w_arg 9))));left
 cases m with
 |cons w1 w2 =>
  ext w2;cases w1 with
  |list ho t=>show#[_,_,b,9,9,ho,mQ b _ t,e]
def zA(l:VJ)(args):l.row.toRowW.claim.post args (.bool 4) args=4 :=
 postW_of
  (show WShape.has [] _ _=4 by rfl)
  (w_eq_bool (w_res 9) w_lit) 9
def tV{l:VJ} (z:l.most\n) (A:d.params.defaults=[]) (WH:∀w t b k u i o pm m c a h p,
   Ground q e [] B w t k u b.heap->C w b.heap ->
   b.heap.get? i\o->o.data=.func (docDef d.name d.params d.body d.scope pm m c)->b.heap.CodeRec m d.name->k d.name\.ref i ->
   b.heap.get? a\{cls:=.type "list",data:=.seq h.toArray}->ό h p->-p<=n->b.gens=#v[] ->
   Ya (i5 l.prog w) ø (.call (.ref i) #[[.ref a],[]]) (λr s=>r=.ok (.ret (.bool 4))/\OldK b.heap s.heap/\s.os=b.os/\ã s.gens) b) :
  WalkO q e B C l.row.toRowW d [] (λf h=>PySem.call f h):=by
 intro w t b k u G Y i o pm m c D kV ho H I v J L args x as N y Ut O Q;obtain rfl:D=.none:=Dflts.none v A;obtain rfl:kV=.none:=Dflts.noKw v;let(a,h,p,rfl,rfl,T,g,j):=zy z N O;show enter_call (Zy (WH w t b k u i o pm m c a h p G Y ho (fd_plain H) I J T g j L) λr s hq=>?_);let(rfl,h2,h3,h4):=hq;show#[.inl #[_,_,[],9,λ_=>9,.bool 4,zA l _,λ_=>#[aaE,λ_ hm=>(nomatch hm)]],h2,h3,h4]
end Att
namespace L2
open PySem PySem.Spec PyProof.Rows
theorem ql:∀{a}{b},ό a b->Vals (b.map V.int) a|_,_,.nil=>.nil|_,_,.cons n t h=>.cons #[t,9] (ql h)
def IH(H:Hp):6:=∀b,H b=ef\/∃o a,H b\.QD o (.lst a)
def Bc{K} (L:K.In c.heap) (N:c.heap.Ns kr A) (i:c.heap.Ns Ϲ O) (I:∀x:5,x≠"__name__"->O x=H8 x) (Zf:c.heap.NoLimit) (hg:c.gens=#v[]) (J:c.heap.get? a\{cls:=.type "list",data:=.seq l.toArray}) (Q:ό l B) (hl:-B<=ei) (hr:cY k ø) (F:∀f:Te,K.In f->f.Ns kr A->d7 P w K A f CX k T fd [x] sp) (Wy:∀s u,ω s fd #[[u],[]] [(x,u)]) (PZ:∀H:Hp,IH H->Py K H a (B.map V.int)->sp [.ref a] H (λv _=>v=.bl 4) λ_ _ _=>False) (Zg:∀H e g,CX [] H c (λ_ _ _=>False) e g->False) :Ya (i5 P w) ø (.call (.ref T) #[[.ref a],[]]) (λr g=>r=.ok (.ret (.bool 4))/\OldK c.heap g.heap/\g.os=c.os/\ã g.gens) c:=by
 let Y:=ql Q;let Zh:=-Q;let j:∀H:Hp,IH H->Py K H a (B.map V.int)->P8 P w H c.heap->(∀b,H b≠ef->b=a)->(H a≠ef->K.lookup a=ef) ->
   Ya (i5 P w) ø (.call (.ref T) #[[.ref a],[]]) (λr g=>r=.ok (.ret (.bool 4))/\OldK c.heap g.heap/\g.os=c.os/\ã g.gens) c:=by
  intro H hO hS ON hA hK;let kJ:∀{b:ke} {o:Obj},c.heap.get? b\o->H b=ef->(qW c.heap H).get? b\o:=λe n=>AO e n;let Ws:∀{b:ke} {o:Obj} {C:Array DictEntry} {D:8},c.heap.get? b\o->o.data=.dict C D->H b=ef:=λ{b o C D} e d=>by grind
  let G:∀{b:ke} {m:5->Option i7},c.heap.Ns b m->(qW c.heap H).Ns b m:=λ{b m} ⟨o,C,D,e,d,r⟩=>#[o,C,D,kJ e (Ws e d),d,r]
  let p:K.In (qW c.heap H):=λb o e=>kJ (L b o e) (by grind)
  let hM:Mod K A (qW c.heap H):=#[p,G N,#[O,G i,I],let ⟨mc,h1,h2⟩:=Zf;⟨mc,G h1,h2⟩]
  let e0:vQ P w K A (qW c.heap H) ø [] c H:=#[9,hM,λb o e=>EA e,ë (zj _ _),ttt,λb i=>absurd (show b∈([]:↑ke) from i) 7,ON,.of_eq hg]
  show Zy ((F _ p (G N)).run ø [] c H #[[.ref a],[]] [.ref a] [.ref a] _ _ hr e0 (Wy c (.ref a)) (.cons 9 .nil) (PZ H hO hS)) λr g h=>?_;cases r with
  |error e=>show(Zg H e g h).elim|ok fl =>
   cases fl with
   |ret u =>
    let(v,H',os,t,un,Zi,r',q):=h;let q':v=.bl 4:=q;subst q';obtain rfl:u=Ú 4:=r';show#[9,OldK.of_keep λb o e=>?_,os,t];cases q:H b with
    |none=>show un.keep b o e q (by intro z;show absurd (show b∈([]:↑ke) from z) 7) 7
    |some u =>
     obtain z|⟨ob,xs,z⟩:=hO b
     .rw[q]at z;ext z
     let z2:=un.P9 b ob _ z;let(e1,_):=ON b _ z;let(e2,_):=Zi b _ z2;rw[e]at e1;ext e1;show e2
   |_=>show Uo h
 cases hk:K.lookup a with
 |some o=>let e:=L a o hk;rw[J]at e;ext e;show j (λ_=>ef) (λ_=>.inl 9) (.inr #[_,l.toArray,_,hk,9,9,9,by rw[rS,Zh];show hl,by exists Y]) (λb u z=>by let y:(ef:Option HO)\u:=z;ext y) (λb z=>absurd 9 z) λz=>absurd 9 z|none =>
  show j (λb=>if b=a then b6 (.QD {cls:=.type "list",data:=.seq l.toArray} (.lst (B.map V.int))) else ef) (λb=>?_) (.inl (.inr #[{cls:=.type "list",data:=.seq l.toArray},if_pos 9])) (λb u z=>?_) (λb z=>?_) λ_=>hk
  .by_cases i:b=a
   .show .inr #[_,_,if_pos i]
   show .inl (if_neg i)
  .by_cases i:b=a
   .let y:=(if_pos i).symm.trans z;ext y;subst i;show#[J,by rw[f7];show hl,l,_,Y,J]
   let y:=(if_neg i).symm.trans z;ext y
  left
def E1{l:W.OpenLaw}{K:Į->W.Frag}{CX:Q1->U7}{A:Q1->Sp} (D:l.most\n) (I:n<=ei) (J:d.params.defaults=[]) (L:cY k ø) (N:∀w h,O w h->(K w.params).In h) (F:∀w m p h,(K w.params).In h->h.Ns kr m->m d.name\.ref p ->
   ∃t,(∀s u,ω s t #[[u],[]] [(x,u)]) /\
    ∀c,(K w.params).In c->c.Ns kr m->d7 l.prog w (K w.params) m c (CX w) k p t [x] (A w))
  (Q:∀w H a (r:↑Int),-r<=n->IH H->Py (K w.params) H a (r.map V.int)->A w [.ref a] H (λv _=>v=.bl 4) λ_ _ _=>False)
  (Zg:∀w H s e y,CX w [] H s (λ_ _ _=>False) e y->False) :
  W.WalkO q z XP O l.row.toRowW d [] (λf B=>PySem.call f B):=by
 show Att.tV D J λw s₀ s₁ m mb p o pm cd ab a B r G Y ho hd O5 Wx U_ j i hg=>?_;let C:=N w _ Y;let(t,hb,hF):=F w m p _ C G.T.g Wx;show Bc C G.T.g G.T.b G.T.builtins G.T.nolimit hg U_ j (pe i I) L hF hb (λH hO hS=>Q w H a r i hO hS) λH e y=>Zg w H s₁ e y
abbrev Uu:U7:=λ_ _ _ _ _ _=>False
abbrev E0:XK:=λ_ _ _=>False
def Hi:Passes Uu X E0:=λ_ _ _ _ _ _ _ h=>h.elim
inductive LP(K:W.Frag)(x qual:5)(st:RO)(f:ke)(fd:ð):6|mk (oc:i7) (od:Option ke) (kV doc pm:i7) (an:Option ke) (Qm ct:i7) (Uq:Array (Option i7)):fd=W.fnOf x qual (gz st) (bX st) (aE st) .none kV doc pm an Qm ct->K.lookup f\⟨oc,od,.func fd,Uq⟩->W.codeIn K Qm qual=c4->LP K x qual st f fd
structure SJ(K:W.Frag)(x qual:5)(st:RO)(f:ke)(fd:ð):6 where
 ex:LP K x qual st f fd
 kp:W.keepIn K (.ref f)=4
section
variable{P:DD}{w:Q1}{K:PySem.W.Frag}{mg:5->Option i7}{base:Te}
def SJ.ok{st}(F:SJ K x b st f j)(S:dy N g (aE st))(e:∀c H Q E,i c H Q E->-c=-g) (l:∀d A a s H c Q E,cY k (A.deeper (Ĳ b (aE st) ↥s f d))->i c H Q E ->
   ∃t,Qj (tQ Uu P w K mg base N b (aE st) f d A a s H E).P4 (bX st) t/\t {nx:=λ_ m=>Q .OP m,rt:=Q} (start N c) H):d7 P w K mg base Uu (k+1) f j g i:=by
 let(u,v,kV,n,pm,y,d,z,B,rfl,lk,o):=F.ex;show A9 lk o S e λA a s H c Q E p r=>?_;let(t,h,q):=l d A _ s H c Q E p r;show#[t,h.P4,q]
def II{st}{kV b pm d e}(l:K.lookup f\#[h,i,.func (W.fnOf x a (gz st) (bX st) (aE st) .none kV b pm g d e),j]) (c:W.codeIn K d a=4) (k:W.keepIn K (.ref f)=4):SJ K x a st f (W.fnOf x a (gz st) (bX st) (aE st) .none kV b pm g d e):=#[#[h,i,kV,b,pm,g,d,e,j,9,l,c],k]
end
def hV(H a:Hp):6:=∀b o,H b\o->a b\o
section
variable{κ:Type}[DecidableEq κ]
def fe(a:↑(κ×V))(k:κ):Option V:=(a.find? λkv=>eL (kv.1=k)).map (·.2)
def putK(a:↑(κ×V))(k:κ)(v:V):↑(κ×V) :=if (a.any λkv=>eL (kv.1=k))=4 then a.map (λkv=>if kv.1=k then(kv.1,v) else kv) else a++[(k,v)]
def fR{p}{k:κ}(e:p.1=k):fe (p::r) k\p.2:=by simp[fe,e]
def fS{p}{k:κ}(e:¬p.1=k):fe (p::r) k=fe r k:=by simp[fe,e]
theorem ka(k:κ):∀a,(a.any λkv=>eL (kv.1=k))=(fe a k).isSome
 |[]=>9|p::r=>by
  rw[aaf];by_cases e:p.1=k
  .simp only[fR e,decide_eq_true e,Bool.true_or,Option.isSome_some]
  rw[fS e,decide_eq_false e];show ka k r
def lZ(a)(k:κ)(v:V):-putK a k v<=-a+1:=by
 unfold putK
 grind
def Be{k:κ}(v)(h:fe a k=ef):putK a k v=a++[(k,v)]:=by unfold putK;rw[ka,h];rfl
def hU.fT(r:hU o u):o.isSome=u.isSome:=by
 cases o with
 |none=>cases u with
  |none=>rfl
  |some _=>show(r).elim
 |some _=>cases u with
  |none=>show(r).elim
  |some _=>rfl
def hU.getD(r:hU o u)(a:RelV d b):RelV (o.getD d) (u.getD b):=by
 cases o with
 |none=>cases u with
  |none=>show a
  |some _=>show(r).elim
 |some _=>cases u with
  |none=>show(r).elim
  |some _=>show r
def KV.val(r:KV a g)(k:κ):hU (fe a k) (Ţ g k):=by
 induction r with
 |nil=>show ß|@cons p q l c h t i =>
  let(f,j):=h;by_cases e:p.1=k
  .let d:=f.symm.trans e;let b:Ţ (q::c) k\q.2:=by simp[Ţ,d]
   rw[fR e,b];show j
  let d:¬q.1=k:=λz=>e (f.trans z);let b:Ţ (q::c) k=Ţ c k:=by simp[Ţ,d]
  rw[fS e,b];show i
def KV.any(r:KV a b)(k:κ):(a.any λkv=>eL (kv.1=k))=b.any λkv=>eL (kv.1=k):=by induction r with|nil=>rfl|cons h t c=>left
def KV.IJ(r:KV b c)(k:κ)(d:RelV y u):KV (b.map λkv=>if kv.1=k then(kv.1,y) else kv) (c.map λkv=>if kv.1=k then(kv.1,u) else kv):=by
 unfold KV at r ⊢;induction r with
 |nil=>show .nil|@cons p q i j h t f =>
  rw[lx,lx];show .cons ?_ f;let(a,g):=h;by_cases e:p.1=k
  .rw[if_pos e,if_pos (a.symm.trans e)];show#[a,d]
  rw[if_neg e,if_neg (λz=>e (a.trans z))];show#[a,g]
def KV.put(r:KV a b)(k:κ)(c:RelV y u):KV (putK a k y) (stored b k u):=by
 unfold putK stored;rw[r.any k];by_cases e:(b.any λkv=>eL (kv.1=k))=4
 .rw[if_pos e,if_pos e];show r.IJ k c
 rw[if_neg e,if_neg e];show Paired.snoc r #[9,c]
def KV.length(r:KV a b):-a=-b:=Paired.length r
end
def qm(r:RelV (kV k) u):(bP P w).is k u=4:=by cases k with|inl i=>let(t,e):=(r);subst e;show tJ P w i t|inr x=>let(t,e):=(r);subst e;show tK P w x t
theorem qo:∀{a}{b},Vals (a.map kV) b->ItemsAre (bP P w) a b
 |[],_,r=>by ext r;show .nil|k::a,_,r=>by
  cases r with
  |cons h t=>show .cons (qm h) (qo t)
abbrev KT(H:Hp):↑(↑Key×V)->↑(↑Key×ke×i7)->6:=Paired λp q=>p.1=q.1/\H q.2.1\.tup (p.1.map kV)/\RelV p.2 q.2.2
def KT.val(r:KT H a g)(k):hU (fe a k) ((Ω g k).map (·.2)):=by
 induction r with
 |nil=>show ß|@cons p q l c h t i =>
  let(f,_,j):=h;by_cases e:p.1=k
  .let d:=f.symm.trans e;let b:Ω (q::c) k\q.2:=by simp[Ω,d]
   rw[fR e,b];show j
  let d:¬q.1=k:=λz=>e (f.trans z);let b:Ω (q::c) k=Ω c k:=by simp[Ω,d]
  rw[fS e,b];show i
def KT.IJ(r:KT H b d)(k)(f:RelV y u):KT H (b.map λkv=>if kv.1=k then(kv.1,y) else kv) (d.map (putAt k u)):=by
 induction r with
 |nil=>show .nil|@cons p q j l h t g =>
  rw[lx,lx];show .cons ?_ g;let(a,c,i):=h;unfold putAt;by_cases e:p.1=k
  .rw[if_pos e,if_pos (a.symm.trans e)];show#[a,c,f]
  rw[if_neg e,if_neg (λz=>e (a.trans z))];show#[a,c,i]
def KT.put(r:KT H a c)(k)(f:H b\.tup (k.map kV))(d:RelV y u):KT H (putK a k y) (storedH c k b u):=by
 let e:(a.any λkv=>eL (kv.1=k))=(Ω c k).isSome:=by rw[ka,(r.val k).fT,Ĉ]
 unfold putK storedH;rw[e];by_cases q:(Ω c k).isSome=4
 .rw[if_pos q,if_pos q];show r.IJ k d
 rw[if_neg q,if_neg q];show Paired.snoc r #[9,f,d]
def KT.keeps(r:KT H a d)(e:∀b c,H b\.tup c->f b\.tup c):KT f a d :=Paired.Ia r λ_ _ z=>#[z.1,e _ _ z.2.1,z.2.2]
def Hj(b:P8 P w H h)(e:Rd H a u):cJ P w H h a u:=e.ok b
def nM(d:P8 P w H h)(e:Rd H a (.dK b)):-b<=ei/\(a==Xr)=df/\∃c,KV b c/\h.DictOf (bP P w) a c :=Hj d e
def Hk(d:P8 P w H h)(e:H a\.dK b):-b<=ei/\(a==Xr)=df/\∃c,KV b c/\h.DictOf (bP P w) a c:=nM d (.inl e)
def lj(b:P8 P w H h)(e:H a\.tup (c.map kV)):(ŋ (bP P w)).is h c a:=by
 let(_,i,r,o,d,f,n,g):=(b a _ e)
 show#[o,_,n,d,f,g,by exists qo r]
def nN(d:P8 P w H h)(e:Rd H a (.dT b)):-b<=ei/\(a==Xr)=df /\ ∃c,KT H b c/\h.DictOfH (ŋ (bP P w)) a c:=by
 let(z,y,c,r,o,f,g,i,j,k,n,s):=(Hj d e)
 show#[z,y,c,r,o,f,g,i,j,k,n,λx hx=>?_,s];let all:∀{l:↑_} {m:↑_},KT H l m->∀x∈m,(ŋ (bP P w)).is h x.1 x.2.1:=by
  intro l m q;induction q with
  |nil=>simp|@cons p q v A B t u =>
   intro x hx;obtain e|hx:=gb.mp hx
   .show lj d 7
   show u x hx
 show all r x hx
def LQ(d:P8 P w H h)(e:H a\.dT b):-b<=ei/\(a==Xr)=df /\ ∃c,KT H b c/\h.DictOfH (ŋ (bP P w)) a c:=nN d (.inl e)
def ij(H:Hp)(a:ke)(y:V)(r:Option V):6 :=(∃c k,Rd H a (.dK c)/\y=kV k/\r=fe c k)\/∃c k b,Rd H a (.dT c)/\y=.ref b/\H b\.tup (k.map kV)/\r=fe c k
def zB(H:Hp)(a:ke)(y v:V)(d:Hp):6 :=
 (∃c k,H a\.dK c/\y=kV k/\-c<ei/\d=upd H a (.dK (putK c k v))) \/
 ∃c k b,H a\.dT c/\y=.ref b/\H b\.tup (k.map kV)/\-c<ei/\d=upd H a (.dT (putK c k v))
def ij.k{H}{a}{b}{k}(e:H a\.dK b):ij H a (kV k) (fe b k):=.inl #[b,k,.inl e,9,9]
def zB.k{H}{a}{b}{k}{v}(e:H a\.dK b)(hl:-b<ei):zB H a (kV k) v (upd H a (.dK (putK b k v))):=.inl #[b,k,e,9,hl,9]
def Inv.big(I:Inv X a σ H s):Xr<↥s:=by let h:=(I.mod.glob.keeps I.bk).lt;show ġ 7 h
def zC(r:A.units+1<VC)(I:Inv X f σ H s)(g:ij H a y (b6 v))(o:RelV y u)(h:∀d q,Inv X f σ H q->RelV v d->Q d q):gi (i5 X.prog X.w) A (Ê (.ref a) u) Q E s:=by
 obtain⟨i,k,e,j,l⟩|⟨i,k,b,e,j,t,l⟩:=g
 .subst j;let(z,x,D,c,dd):=nM I.ON e;let(d,m,n):=hU.some_of   (by rw[l];show c.val k);show wpAny_getItem_of (qm o) dd.mapOf m (h d _ (I.tok _) n)
 subst j;cases(o);let(z,x,G,c,dd):=nN I.ON e;let(d,m,n):=hU.some_of   (by rw[l];show c.val k);let(p,B,C):=i0.mp m;show wpAny_getItem_heap (Zd r) (lj I.ON t) dd B ?_;rw[C];show h d _ (I.tok _) n
def LR(p:A.units+1<VC)(I:Inv X d σ H s)(g:ij H a y o)(m:RelV y u)(h:∀n,Inv X d σ H n->Q (.bool o.isSome) n):gi (i5 X.prog X.w) A (TY .In u (.ref a)) Q E s:=by
 obtain⟨f,k,e,i,l⟩|⟨f,k,b,e,i,r,l⟩:=g
 .subst i;let(z,j,t,c,dd):=nM I.ON e;show wpAny_in_of (qm m) j dd.mapOf ?_;rw[<-(c.val k).fT,<-l];show h _ (I.tok _)
 subst i;cases(m);let(z,j,v,c,dd):=nN I.ON e;show wpAny_in_heap (Zd p) (lj I.ON r) j dd ?_;let q:=(c.val k).fT;rw[Ĉ]at q;rw[<-q,<-l];show h _ (I.tok _)
def xW(p:A.units+1<VC)(I:Inv X d σ H s)(g:ij H a y o)(m:RelV y u)(h:∀n,Inv X d σ H n->Q (.bool (!o.isSome)) n):gi (i5 X.prog X.w) A (TY .NotIn u (.ref a)) Q E s:=by
 obtain⟨f,k,e,i,l⟩|⟨f,k,b,e,i,r,l⟩:=g
 .subst i;let(z,j,t,c,dd):=nM I.ON e;show wpAny_notIn_of (qm m) j dd.mapOf ?_;rw[<-(c.val k).fT,<-l];show h _ (I.tok _)
 subst i;cases(m);let(z,j,v,c,dd):=nN I.ON e;show wpAny_notIn_heap (Zd p) (lj I.ON r) j dd ?_;let q:=(c.val k).fT;rw[Ĉ]at q;rw[<-q,<-l];show h _ (I.tok _)
def xX(I:Inv X c σ H s)(g:Wf (H a))(hs:Hf a s.heap d)(h:∃q,d.get? a\q)(e:cJ X.prog X.w (upd H a f) d a f):Inv X c σ (upd H a f) {s with heap:=d,toks:=j } :=I.write   g (.inl 9) (λb q i z=>(hs.2 b i).trans z) h e
def IK(z:-b<=ei)(e:(a==Xr)=df)(c:KV b d)(dd:f.DictOf (bP P w) a d):cJ P w g f a (.dK b):=#[z,e,d,c,dd]
def zD(L:A.units+1<VC)(I:Inv X i σ H s)(g:zB H a y v N)(t:RelV y u)(x:RelV v r)(h:∀B,Inv X i σ N B->Q () B):gi (i5 X.prog X.w) A (õ (.ref a) u r) Q E s:=by
 obtain⟨d,k,e,n,l,o⟩|⟨d,k,b,e,n,C,l,o⟩:=g
 .subst n o;let(z,p,O,f,dd):=Hk I.ON e;let D:-O<=ei:=by rw[<-⇑f];show z
  let hl:-putK d k v<=ei:=by let:=lZ d k v;lia
  show wpAny_setItem_pairs (hsz:=D) (qm t) dd λG j hs=>h _ ?_;let T:∃q,G.get? a\q:=let ⟨q,_,_,m,_⟩:=j;⟨q,m⟩;show xX I (by rw[e];show ß) hs T (IK hl p (f.put k x) j)
 subst n o;cases(t);let(z,p,Y,f,dd):=LQ I.ON e;let D:-Y<=ei:=by rw[<-Paired.length f];show z
 let hl:-putK d k v<=ei:=by let:=lZ d k v;lia
 show wpAny_setItem_heap  (Zd L) (lj I.ON C) dd λG j hs=>h _ ?_;let(q,es,ep,m,h2,h3,h4,_,h5):=j;show xX I (by rw[e];show ß) hs #[q,m] #[hl,p,_,(f.put k C x).keeps λc ys J=>?_,q,es,ep,m,h2,h3,h4,h5];rw[aj (Lh J e (λz=>nomatch z))];show J
def IL(i:nS):6:=∀a b,Ŕ i df a b=operate [a,b] (Ê a b)
def E2{T id} (hl:Ô (.type T) "__getitem__"=pure (b6 (.builtin id))) (hs:IL a) (h:gi (i5 prog w) A (uv b c) (λo g=>gi (i5 prog w) A (uv a c) (λi e=>e.TypeIs o T/\gi (i5 prog w) A (Ê o i) Q E e) E g) E s) :gi (i5 prog w) A (uv (.Subscript b a k) c) Q E s:=by
 show Ŷ (mu h (λo g l=>mu l (λi e f=>?_) λ_ _ x=>x) λ_ _ x=>x);let(m,f):=f;show cb ?_;show cb (XO m hl ?_);let d:gi (i5 prog w) A (Ŕ a df o i) (λr j=>gi (i5 prog w) A (letTemporaryGo b o r >>= λ_=>pure r) Q E j) E e:=by rw[hs o i];show wpAny_operating (mu f (λr j n=>cb (wpAny_letTemporaryGo (eT n))) λ_ _ x=>x)
 first
  |show eT (cb d)|show cb _|show cb d
def tW(I:Inv X d σ H s)(g:ij H a y o):s.TypeIs (.ref a) "dict":=by
 obtain⟨c,k,e,_,_⟩|⟨c,k,b,e,_,_,_⟩:=g
 .let(_,_,f,_,dd):=nM I.ON e;show dd.typeIs
 let(_,_,h,_,dd):=nN I.ON e;show dd.typeIs
def LU(c d:TE):TE:=λσ H Q=>c σ H λx e=>d σ e λy b=>∃a v,x=.ref a/\ij b a y (b6 v)/\Q v b
def N8(c d:TE):TE:=λσ H Q=>c σ H λy e=>d σ e λx b=>∃a o,x=.ref a/\ij b a y o/\Q (.bl o.isSome) b
def E3(c d:TE):TE:=λσ H Q=>c σ H λy e=>d σ e λx b=>∃a o,x=.ref a/\ij b a y o/\Q (.bl (!o.isSome)) b
def E4(d:X.A.units+1<VC)(ho:PE X o e)(f:PE X i j)(hs:IL i):PE X (.Subscript o i k) (LU e j):=by intro b s σ H Q I h;show E2 F.slot_dict_getitem.lookup hs (OV (ho b s σ H _ I h) λu l ⟨x,m,n,p,q⟩=>OV (f b l σ m _ n q) λG J r=>?_);let(y,t,c,w,a,v,z,g,B):=r;subst z;obtain rfl:u=rr a:=p;show#[tW c g,zC d c g w λL N C D=>#[v,t,C,D,B]]
def IM(c:X.A.units+1<VC)(d:PE X i e)(ho:PE X o f):PC X .In i o (N8 e f):=by intro b s σ H Q I h;show OV (d b s σ H _ I h) λB j ⟨y,k,l,m,n⟩=>OV (ho b j σ k _ l n) λu C p=>?_;let(x,q,r,t,a,D,v,g,w):=p;subst v;obtain rfl:u=rr a:=t;show LR c r g m λG z=>#[.bl _,q,z,9,w]
def zE(c:X.A.units+1<VC)(d:PE X i e)(ho:PE X o f):PC X .NotIn i o (E3 e f):=by intro b s σ H Q I h;show OV (d b s σ H _ I h) λB j ⟨y,k,l,m,n⟩=>OV (ho b j σ k _ l n) λu C p=>?_;let(x,q,r,t,a,D,v,g,w):=p;subst v;obtain rfl:u=rr a:=t;show xW c r g m λG z=>#[.bl _,q,z,9,w]
def Bg(h:Te)(a:Xr<h.objs.size):cJ P w H (h.push {cls:=.type "dict",data:=.dict #v[]}) h.objs.size (.dK []) :=#[mh _,beq_eq_false_iff_ne.mpr (sg (ku a)),[],.nil,Heap.DictOf.new h]
def IQ:TE:=λ_ H Q=>∀p,H p=ef->Q (.ref p) (upd H p (.dK []))
def tX:PE X (.Dict [] [] b) IQ:=λa s σ H Q I h=>wpAny_Dict_empty #[.ref _,_,I.laid    (λ_ _ q=>et _ q) (gs _) (Bg _ I.big),9,h _ (I.ON.fresh (gs _))]
structure M2(X:Cx)(o:nS)(m:5)(apos:Pos)(e f:nS)(N':Pos):6 where
 base:Wk o m X.env (uv o X.env)=uv o X.env
 Qn:((QX N' (j0 [e,f] X.env)).all (λx=>!x.1)&&(ZC N' (V' [] X.env)).all (λx=>x.1.isSome)
  && eL (⇑([e,f]:↑nS)+⇑([]:↑Yn)+(if ([]:↑Yn).isEmpty then 0 else 1)<30))=4
 line:(apos.endLine==N'.line)=4
 trees:QX N' (j0 [e,f] X.env)=[(df,uv e X.env),(df,uv f X.env)]
def IsD(H:Hp)(a:ke):6:=(∃b,Rd H a (.dK b))\/∃b,Rd H a (.dT b)
def IS(I:Inv X j σ H s)(d:IsD H a):s.TypeIs (.ref a) "dict"/\(∀b,rr a=.ref b->∃c,s.heap.get? b\c/\c.dict=ef)/\(a==Xr)=df:=by
 obtain⟨f,e⟩|⟨f,e⟩:=d
 .let(_,g,k,_,dd):=nM I.ON e;show#[dd.typeIs,λb q=>?_,g];ext q;let(c,_,_,h,i,_):=dd;show#[c,h,i.2.1]
 let(_,g,l,_,dd):=nN I.ON e;show#[dd.typeIs,λb q=>?_,g];ext q;let(c,_,_,h,i,_):=dd;show#[c,h,i.2.1]
def IT(v:A.units+1<VC)(I:Inv X f σ H s)(g:ij H a y o)(n:RelV y u)(p:RelV d r)(h:∀q t,Inv X f σ H t->RelV (o.getD d) q->Q q t):gi (i5 X.prog X.w) A (WH (.builtin "dict.get") [.ref a,u,r]) Q E s:=by
 obtain⟨i,k,e,j,l⟩|⟨i,k,b,e,j,x,l⟩:=g
 .subst j;let(z,m,C,c,dd):=nM I.ON e;show ο F.slot_dict_get dd.typeIs F.entry_dict_get (F.args_dict_get_3 _ _ _) (meets_dict_get_default _ a (qm n) m r) #[_,dd.mapOf,h _ _ (I.tok _) ?_];rw[l];show(c.val k).getD p
 subst j;cases(n);let(z,m,B,c,dd):=nN I.ON e;show ο F.slot_dict_get dd.typeIs F.entry_dict_get (F.args_dict_get_3 _ _ _) (meetsH_dict_get_default _ a b m r) #[Zd v,k,B,lj I.ON x,dd,h _ _ (I.tok _) ?_];rw[l];show(c.val k).getD p
def IU(d e f:TE):TE:=λσ H Q=>d σ H λx b=>∃a,x=.ref a/\IsD b a/\e σ b λy g=>f σ g λz c=>∃o,ij c a y o/\Q (o.getD z) c
def Bh(j:X.A.units+1<VC)(ho:PE X o k)(l:PE X e n)(p:PE X f q)(m:M2 X o "get" c e f r):PE X (.Call (.Attribute o "get" c) [e,f] [] r) (IU k n q):=by
 intro b s σ H Q I h;show wpAny_Call_method m.base m.Qn m.line F.plainAttrs_dict F.slot_dict_get F.type_dict_get (OV (ho b s σ H _ I h) λu t v=>?_);let(x,w,i,B,a,C,d,D):=v;subst C;obtain rfl:u=rr a:=B;let(G,J,_):=IS i d;show#[G,J,?_];rw[m.trees];show TQ 9 (Sq (vr (OV (l b t σ w _ i D) λiv L ⟨y,N,O,T,Y⟩=>vr (OV (p b L σ N _ O Y) λfv s3 ⟨z,H3,I3,rz,ov,g,q3⟩=>Q9 ?_))))
 show IT j I3 g T rz λw' s4 I4 R5=>#[_,H3,I4,R5,q3]
end L2
namespace O1
open PySem PySem.Builtin.Str PySem.StrLaws
def low(c:8):Bool:=eL (97<=c)&&eL (c<=122)
def b_(l:↑8):Bool:=eL (1<=-l)&&eL (-l<=0x8)&&l.all low
def cj(l):b_ l=4 ↔1<=-l/\-l<=0x8/\∀c∈l,97<=c/\c<=122:=by simp[b_,low,and_assoc]
def kf(h:b_ l=4):47∉l:=λm=>by let:=((cj l).mp h).2.2 47 m;lia
def dZ{x y:5}(h:(~~~x)=(~~~y)):x=y:=by ext x;left
def nO(x)(b:(~~~x)=(i9 26).map (97+·))(c):(!(Pe x #[#v[c]] 0 ⇑x 1).isEmpty)=low c:=by
 rw[found_one,b];erw[low,mn,uk];by_cases h:97<=c/\c<=122
 .let:∃a,a<26/\97+a=c:=#[c - 97,7,7]
  simp[this,h.1,h.2]
 let:¬∃a,a<26/\97+a=c:=λ⟨a,d,e⟩=>h #[7,7];simp[this];lia
def iV(h:c∉(~~~x)):kb x #[#v[c]]=(x,B',B'):=by let e:=found_one x c;unfold kb;left
def rE(x)(c i):At x #[#v[c]] ⇑x i↔(~~~x)[i]?\c:=subAt_one x c i
def Bi(h:(~~~x)=a++c::b)(j:c∉a)(d)(hl:1<=d):∃r,Pe x #[#v[c]] 0 ⇑x d=-a::r:=by
 let f:(~~~x)[-a]?\c:=by rw[h];simp
 obtain⟨_,k⟩|⟨i,r,e,l,m⟩:=occ_head x ⟨#v[c]⟩ d hl
 .show absurd ((rE x c ⇑a).mpr f) (k _)
 let g:=(rE x c i).mp l;let:i=-a:=by
  obtain z|z|z:=Nat.lt_trichotomy i ⇑a
  .exfalso
   rw[h,K0 z]at g;show j (va g)
  .show z
  show absurd ((rE x c ⇑a).mpr f) (m _ z)
 left
def gB(h:(~~~x)=a++c::b)(d:c∉a):kb x #[#v[c]]=(⟨a.toArray⟩,⟨#v[c]⟩,⟨b.toArray⟩):=by
 let(r,e):=Bi h d 1 (gs _);unfold kb;rw[e];let f:⇑(⟨#v[c]⟩:5)=1:=9;let g:-x=-a+1+ -b:=by let:=congrArg Y4 h;simp[è]at this ⊢;lia
 show Ö ?_ (Ö 9 ?_)
 .apply dZ;rw[Η,h];simp
 apply dZ;rw[Η,h,f,g];simp
def cL(h:c∉(~~~x)):rD x #[#v[c]]=[x]:=by
 unfold rD;split
 .rfl
 rw[if_pos];obtain⟨e,_⟩|⟨i,r,e,a,_⟩:=occ_head x _ (-x+1) 7
 .rw[e];rfl
 show absurd (va ((rE x c i).mp a)) h
def tY(c)(h:c<256)(x):¬(PySem.Builtin.Str.strKind x<PySem.Builtin.Str.strKind #[#v[c]]):=by
 let e:PySem.Builtin.Str.strKind ⟨#v[c]⟩=1:=by simp[PySem.Builtin.Str.strKind,h]
 rw[e];unfold PySem.Builtin.Str.strKind;split
 .lia
 split<;>lia
def tZ(h:(~~~x)=a++c::b)(d:c∉a)(f:c<256):∃r,rD x #[#v[c]]=⟨a.toArray⟩::r:=by
 let(r,e):=Bi h d (-x+1) 7;let j:⇑(⟨#v[c]⟩:5)=1:=9;let k:-x=-a+1+ -b:=by let:=congrArg Y4 h;simp[è]at this ⊢;lia
 unfold rD;rw[if_neg (by
  have g:¬(⇑x<⇑(⟨#v[c]⟩:Str)):=⋯
  have i:=tY c f x;simp[g,i]),e]
 show#[_,congrArg (·::_) ?_];apply dZ;rw[Η,h];simp
def fA(i:Int):5:=Ĝ (toString i)
def Hl:5:=#[#v[47]]
def rF(h:a++c::b=p++c::q)(d:c∉a)(e:c∉p):a=p/\b=q:=by
 induction a generalizing p with
 |nil =>
  cases p with
  |nil=>simp at h;show#[9,h]
  |cons z p=>simp at h;show absurd (by rw[h.1];show ki) e
 |cons y a f =>
  cases p with
  |nil=>simp at h;show absurd (by rw[h.1];show ki) d
  |cons z p=>simp at h;let(g,i):=f h.2 (λm=>d (ib _ m)) (λm=>e (ib _ m));show#[by rw[h.1,g],i]
def cw(h:c∈l):∃a b,l=a++c::b/\c∉a:=by
 induction l with
 |nil=>ext h|cons x l f =>
  by_cases d:x=c
  .subst d;show#[[],l,9,by simp]
  let g:c∈l:=by
   obtain e|e:=gb.mp h
   .show absurd e.symm d
   show e
  let(a,b,e,i):=f g;show#[x::a,b,by rw[e];rfl,λm=>?_];obtain z|z:=gb.mp m
  .show d z.symm
  show i z
end O1
namespace L2
open PySem PySem.Spec PyProof.Rows
def cM(b:Env):↑(5 ×Ϟ)->↑(5 ×ke)->↑(5 ×ke)|[],c=>c|(n,k)::r,c=>cM b r (if k==.free then(match b.cells.lookup n with|some a=>(n,a)::c|none=>c) else c)
def fU(h:∀y∈b.names,y.2=.free->∃a,c.cells.lookup y.1\a):closureFor b c=pure (cM c b.names []):=by
 unfold closureFor;generalize b.names=d at h
 suffices H:∀f,forIn _ f _=pure (cM c _ f) by let:=H [];show congrArg (λm=>m >>= pure) this
 induction d with
 |nil=>intro f;rfl|cons y r i =>
  intro f;let(n,k):=y;rw[ϫ];let e:=i λy j=>h y (ib _ j);by_cases hk:(k==Vx)=4
  .let(a,l):=h _ ki (by exists hk);let g:=l;erw[hk,cellOf,g,cM];show e _
  simp only[hk,cM];show e _
theorem gC:∀b d,(∀n c,d.lookup n\c->env.cells.lookup n\c)->∀n c,(cM env b d).lookup n\c->env.cells.lookup n\c
 |[],_,h=>h|(m,k)::r,d,h=>by
  show gC r _ λn c e=>?_;by_cases hk:(k==Vx)=4
  .rw[if_pos hk]at e;cases q:env.cells.lookup m with
   |none=>rw[q]at e;show h n c e
   |some a =>
    rw[q]at e
    grind
  rw[if_neg hk]at e;show h n c e
theorem l7(f:d.cells.lookup n\a):∀c (e:↑(5 ×ke)),e.lookup n\a->(cM d c e).lookup n\a
 |[],_,h=>h|(m,k)::r,e,h=>by
  show l7 f r _ ?_;by_cases hk:(k==Vx)=4
  .rw[if_pos hk];cases q:d.cells.lookup m with
   |none=>show h
   |some b=>grind
  rw[if_neg hk];show h
theorem jG(d:c.cells.lookup n\a):∀b f,(n,Vx)∈b->(cM c b f).lookup n\a
 |[],_,h=>by ext h|(m,k)::r,f,h=>by
  obtain e|e:=gb.mp h
  .show l7 d r _ ?_;left
  show jG d r _ e
theorem cB{b:Env}:∀{a:↑(5 ×Ϟ)}{x}{k}, (a.map λ(n,k)=>if (k==Vx&&b.scope.kind==.function&&b.kindOf n==b6 .cell) then(n,WJ) else(n,k)).lookup x\k -> a.lookup x\k\/(k=.cell/\a.lookup x\.free)
 |[],_,_,h=>by simp at h|(n,f)::r,x,k,h=>by
  let d:=@cB b r x k;rw[lx]at h;by_cases e:(f==Vx&&b.scope.kind==.function&&b.kindOf n==b6 .cell)=4
  .simp only[if_pos e,LS]at h;cases c:x==n with
   |true=>left
   |false =>
    rw[c]at h;obtain z|⟨z1,z2⟩:=d h
    .show .inl (by simp[LS,c,z])
    show .inr #[z1,by simp[LS,c,z2]]
  simp only[if_neg e,LS]at h;cases c:x==n with
  |true=>left
  |false =>
   rw[c]at h;obtain z|⟨z1,z2⟩:=d h
   .show .inl (by simp[LS,c,z])
   show .inr #[z1,by simp[LS,c,z2]]
theorem l8:∀b d,(cM e b d).lookup x\c->(x,Vx)∈b\/d.lookup x\c
 |[],_,h=>.inr h|(m,k)::r,d,h=>by
  obtain z|z:=l8 r _ h
  .show .inl (ib _ z)
  by_cases hk:(k==Vx)=4
  .rw[if_pos hk]at z;cases q:e.cells.lookup m with
   |none=>rw[q]at z;show .inr z
   |some a =>
    rw[q]at z;erw[LS]at z;cases f:x==m with
    |true=>left
    |false=>rw[f]at z;show .inr z
  rw[if_neg hk]at z;show .inr z
theorem kg:∀a n b,(V9 n a b).lookup x\c->((x,WJ)∈a/\@LE.le 8 _ n c)\/b.lookup x\c
 |[],_,_,h=>.inr h|(y,k)::r,n,b,h=>by
  unfold V9 at h;by_cases hk:(k==WJ)=4
  .let d:=by exists hk
   subst d;obtain⟨z1,z2⟩|z:=kg r _ _ h
   .show .inl #[ib _ z1,Nat.le_of_succ_le z2]
   grind
  rw[if_neg hk]at h;obtain⟨z1,z2⟩|z:=kg r n b h
  .show .inl #[ib _ z1,z2]
  show .inr z
theorem rG:∀a n b,(x,WJ)∉a->(V9 n a b).lookup x=b.lookup x
 |[],_,_,_=>9|(y,k)::r,n,b,h=>by
  unfold V9;let c:=λz=>h (ib _ z);by_cases hk:(k==WJ)=4
  .rw[if_pos hk,rG r _ _ c]
   grind
  rw[if_neg hk,rG r _ _ c]
theorem vW:∀b n a,(∀z d,a.lookup z\d->@ZS 8 _ d n)->(∀u v d,a.lookup u\d->a.lookup v\d->u=v) -> (V9 n b a).lookup x\c->(V9 n b a).lookup y\c->x=y
 |[],_,_,_,h,f,g=>h x y c f g|(i,k)::r,n,a,hl,h,f,g=>by
  unfold V9 at f g;by_cases hk:(k==WJ)=4
  .rw[if_pos hk]at f g;let lk:∀(z:5) (d:ke),WO z ((i,n)::a)\d->(z=i/\d=n)\/a.lookup z\d:=λz d e=>by
    erw[LS]at e;cases j:z==i with
    |true=>left
    |false=>rw[j]at e;show .inr e
   show vW r _ _ (λz d e=>?_) (λu v d l m=>?_) f g
   .rcases lk z d e with⟨_,q⟩|q
    .simp_all
    show XE (hl z d q)
   obtain⟨o,s⟩|q:=lk u d l<;>obtain⟨t,w⟩|p:=lk v d m
   .rw[o,t]
   .rw[s]at p;show absurd (hl v n p) (y0 _)
   .rw[w]at q;show absurd (hl u n q) (y0 _)
   show h u v d q p
  rw[if_neg hk]at f g;show vW r n a hl h f g
theorem rH:∀a h b,(V9 h.objs.size a b).lookup x\c->(Î h a).IsCell c ef\/b.lookup x\c
 |[],_,_,e=>.inr e|(y,k)::r,h,b,e=>by
  unfold V9 at e;unfold Î;by_cases hk:(k==WJ)=4
  .rw[if_pos hk]at e ⊢;let hs:h.objs.size+1=(h.push {cls:=.type "cell",data:=.cell ef}).objs.size:=7
   rw[hs]at e;obtain z|z:=rH r _ _ e
   .show .inl z
   simp only[LS]at z;cases d:x==y with
   |true=>rw[d]at z;ext z;show .inl #[_,ś r _ _ _ (gj _ 9),9]
   |false=>rw[d]at z;show .inr z
  rw[if_neg hk]at e ⊢;show rH r h b e
def RP(X:Cx)(a:R0)(C:ke):↑(5 ×ke):=V9 (C+1) a.names (cM X.env a.names [])
def Qe(X:Cx)(N:↑5)(a:R0)(C:ke)(s:kj)(H:Hp)(b:↑ke):Cx where
 prog:=X.prog
 w:=X.w
 K:=X.K
 mg:=X.mg
 base:=X.base
 A:=X.A
 N:=N
 s₀:=s
 H₀:=H
 env:=ï a (RP X a C) C X.env
 outer:=X.stack
 stack:=X.stack
 ex:=b
 fn:=λx=>eL (a.names.lookup x\.cell)
 calm:=X.calm
 pn:=[]
 xe:=λ_ _=>False
def fK(D N:↑5):6:=-D=-N/\∀(i:8) (y:5),D[i]?\y->N[i]?\y\/y="."\/y=".."
def fK.refl(N):fK N N:=#[9,λ_ _ h=>.inl h]
def fK.set{D N}(h:fK D N)(j){m:5}(b:m="."\/m=".."):fK (D.set j m) N:=by
 show#[by rw[Ϫ];show h.1,λi y e=>?_];by_cases a:j=i
 .subst a;rw[List.getElem?_set]at e;left
 rw[ko a]at e;show h.2 i y e
structure dz(X:Cx)(N own:↑5)(scope:R0):6 where
 kind:scope.kind=.function
 uq:∀y∈scope.names,scope.names.lookup y.1\y.2
 cl:∀y∈scope.names,y.2=.cell->y.1∈own
 nd:N.Nodup
 pre:N.take ⇑own=own
 loc:∀y∈scope.names,y.2=.local->y.1∈own\/y.1=".0"
 no0:(".0":5)∉N
 tail:fK (N.drop ⇑own) X.N
 free:∀y∈scope.names,y.2=.free->X.env.scope.names.lookup y.1\.cell\/X.env.scope.names.lookup y.1\.free
 dot:∀y∈scope.names,y.1≠"."/\y.1≠".."
def mem_lookup{a:↑(5 ×Ϟ)}(h:a.lookup x\k):(x,k)∈a:=PySem.mem_of_lookup h
def dz.names(S:dz X N b a):∀y∈a.names,y.2=.local->a.names.lookup y.1\.local:=λy c e=>e▸S.uq y c
def dz.no(S:dz X N b a)(h:a.names.lookup x\.free):(x,WJ)∉a.names:=λz=>by let:=S.uq _ z;left
def dz.cells(S:dz X N d b)(c:X.Ok):∀y∈b.names,y.2=.free->∃a,X.env.cells.lookup y.1\a:=λy e f=>by
 obtain z|z:=S.free y e f
 .show c.has y.1 (.inl z)
 show c.has y.1 (.inr z)
def Bj(S:dz X N g f)(I:Inv X J σ H s) (G:↥s<=C) (Ss:∀x c,(RP X f C).lookup x\c->L.heap.IsCell c ef\/(cM X.env f.names []).lookup x\c) (SG:L.os=s.os) (hg:L.gens=s.gens) (t:∀b o,s.heap.get? b\o->L.heap.get? b\o) (ns:∃m,L.heap.Ns C m) (w:∀b∈ex,ic X J H b/\b<↥s):Inv (Qe X N f C s H ex) [] (pz ⇑g ef++σ) H L:=by
 let(m0,WA):=ns;let sub:=gC (env:=X.env) f.names [] (λn c e=>by simp at e);let T:∀(x:5) (c:ke),(cM X.env f.names []).lookup x\c->c<↥s:=λx c e=>by let(v,o,ho,_):=I.cell x c (sub x c e);show i8 ho
 let Y:∀(x:5) (c:ke),(RP X f C).lookup x\c->C<c\/(cM X.env f.names []).lookup x\c:=λx c e=>(kg _ _ _ e).imp (λz=>z.2) id;let WB:∀b∈ex,b<C:=λb A=>lg (w b A).2 G;let tl:-g<=-N:=by let:=congrArg Y4 S.pre;grind
 show#[#[I.ok.mod,?_,I.ok.glob,I.ok.blt,G,λx y c B D=>vW _ _ _ (λz d e=>XE (lg (T z d e) G)) (λu v d O e2=>I.ok.inj u v d (sub u d O) (sub v d e2)) B D,λx hx=>?_,λx c h e=>?_,I.ok.hd,I.ok.frames,.inl 9,λb A=>#[ku (WB b A),λx c e=>?_],λb o e=>I.bs b o e,?_,λb o e A=>?_,λb A=>?_,I.stack,I.j5],
  SG,(by rw[hg];show I.bare),Un.kept t,#[m0,WA,λi y v B D h3=>?_],λx c e=>?_,I.ON.fresh G,λx c e=>?_,λp hp=>absurd (show p∈([]:↑(ke×Obj)) from hp) 7,I.ON.kept t,?_]
 .change(ö f X.env).kind=.function;show S.kind
 .
  let WC:(ö f X.env).names.lookup x\.cell\/(ö f X.env).names.lookup x\.free:=hx;let Pn:f.names.lookup x\.cell\/f.names.lookup x\.free:=by
   obtain z|z:=WC
   .rcases cB z with q|⟨_,q⟩
    .show .inl q
    show .inr q
   obtain q|⟨q,_⟩:=cB z
   .show .inr q
   ext q
  obtain Pn|Pn:=Pn
  .show VL.mp (W.cellsFrom_some f.names (C+1) _ (.inl Pn))
  let(a,ha):=S.cells I.ok (x,.free) (mem_lookup Pn) 9;show#[a,(rG _ _ _ (S.no Pn)).trans (jG ha f.names [] (mem_lookup Pn))]
 .let h':f.names.lookup x\.cell:=of_decide_eq_true h;obtain z|z:=Y x c e
  .show pe G (Ue z)
  obtain z|z:=l8 _ _ z
  .let:=S.uq _ z;rw[h']at this;ext this
  simp at z
 .rcases Y x c e with z|z
  .show λq=>absurd (ġ (WB b A) z) (by rw[q];show y0 _)
  show(w b A).1.2.2.2.2.1 x c (sub x c z)
 .show pe I.ok.SD I.sz
 .let(f0,f1,f2,f3,f4,f5):=(w b A).1;obtain z|z:=f3
  .show I.ok.Ru b o e z
  show absurd (lg (i8 e) (pe I.ok.SD z)) (y0 _)
 .intro QQ;let(f0,f1,f2,f3,f4,f5):=(w b A).1;obtain z|z:=gb.mp (I.nF b QQ)
  .show f1 z
  show f2 z
 .
  let hi:-g<=i:=by
   by_cases hi:i< -g
   .rw[K0 (by exists hi),Y5]at D;split at D<;>ext D
   lia
  rw[vu (by exists hi),ì]at D;let ab:(N.drop ⇑g)[i - -g]?\y:=by
   rw[U2];let e:-g+(i - -g)=i:=7
   rw[e];show B
  let Th:(ö f X.env).names.lookup y\.local\/(ö f X.env).names.lookup y\.cell\/(ö f X.env).names.lookup y\.free:=h3;let Uv:∀y:5,y∈g->N[i]?\y->False:=λy Qk B=>by
   let(j,hj,ej):=Z' Qk;let Ti:N[j]?\y:=by
    let O:(N.take ⇑g)[j]?\y:=by rw[S.pre,Sk hj,ej]
    rw[ŗ hj]at O;show O
   let:=j6 S.nd Ti B;lia
  let Pn:f.names.lookup y\.free:=by
   obtain z|z|z:=Th
   .rcases cB z with q|⟨q,_⟩
    .exfalso
     let Qk:y∈g:=by
      obtain z|z:=S.loc (y,.local) (mem_lookup q) 9
      .show z
      let z':y=".0":=z;show absurd (va B) (by rw[z'];show S.no0)
     show Uv y Qk B
    ext q
   .rcases cB z with q|⟨_,q⟩
    .show(Uv y (S.cl _ (mem_lookup q) 9) B).elim
    show q
   obtain q|⟨q,_⟩:=cB z
   .show q
   ext q
  let hX:X.N[i - -g]?\y:=by
   obtain e|e|e:=S.tail.2 _ _ ab
   .show e
   .show absurd e (S.dot _ (mem_lookup Pn)).1
   show absurd e (S.dot _ (mem_lookup Pn)).2
  let(m,hn,hl):=I.loc;let hv:X.env.scope.names.lookup y\.cell\/X.env.scope.names.lookup y\.free:=S.free (y,.free) (mem_lookup Pn) 9;let(u,r,l):=hl _ y v hX D (.inr hv);show#[u,r,?_];obtain⟨k,_⟩|⟨k,c,e,z⟩:=l
  .let k':X.env.scope.names.lookup y\.local:=k;left
  let hk:(ö f X.env).names.lookup y\.cell\/(ö f X.env).names.lookup y\.free:=by
   obtain q|q|q:=Th
   .rcases cB q with Q|⟨Q,_⟩
    .rw[Pn]at Q;ext Q
    ext Q
   .show .inl q
   show .inr q
  let(o,ho,hd):=z;show .inr #[hk,c,(rG _ _ _ (S.no Pn)).trans (jG e f.names [] (mem_lookup Pn)),o,t c o ho,hd]
 .rcases Ss x c e with z|z
  .show#[_,z]
  let(v,o,ho,hd):=I.cell x c (sub x c z);show#[v,o,t c o ho,hd]
 .rcases Y x c e with z|z
  .show I.ON.fresh (pe G (Ue z))
  show I.Pb x c (sub x c z)
 rw[nc,ì,I.len];let e:-N=-g+ -(N.drop ⇑g):=by rw[Zo];lia
 change _=-N;rw[e,S.tail.1]
def t5(I:Inv X f σ H s) (d:Inv (Qe X N m C s H x) Ul σ' p r) (G:↥s<=D) (J:↥s<=C) (t:D≠C) (h:p D=ef) (L:Vals y z) (O:r.heap.PlainList D z.toArray) (hl:-y<=ei) (i:Hf C r.heap Q) (w:∀b∈x,ic X f H b):Inv X f σ (upd p D (.lst y)) {r with heap:=Q }:=by
 let nC:p C=ef:=d.free;let l:∀{b:ke} {o:Obj},s.heap.get? b\o->b≠C/\b≠D:=λe=>#[ku (lg (i8 e) J),ku (lg (i8 e) G)]
 show I.He  (ch:=x) d.os #[λb o e n j g=>?_,λb o e n j g=>?_,λb o e n g=>?_,λb o e g=>?_,λb A e=>?_,λb o u e=>?_,λb T e=>?_] (λa o e=>?_) d.bare λb j=>?_
 .show(i.2 b (l e).1).trans (d.base.keep b o e n j g)
 .let(Y,q):=d.base.slot b o e n j g;show#[Y,(i.2 b (l e).1).trans q]
 .rw[aj (l e).2];show d.base.free b o e n g
 .let(o',q):=d.base.there b o e g;show#[o',(i.2 b (l e).1).trans q]
 .let q:=d.base.iq b A e;rw[aj (ay q h)];show q
 .let q:=d.base.P9 b o u e;rw[aj (ay q h)];show q
 .let(k,q):=d.base.Qi b T e;show#[k,by rw[aj (ay q h)];show q]
 .by_cases B:a=D
  .subst B;rw[ak]at e;ext e;let(n,q):=O;show#[hl,z,n,L,(i.2 _ t).trans q]
  rw[aj B]at e;show(d.ON a o e).mP (λc v hc q=>(i.2 c ?_).trans q) (λc q=>?_) λc A q=>?_
  .grind
  .rw[aj (ay q h)];show q
  rw[aj (ay q h)];show q
 let(f0,f1,f2,f3,f4,f5):=w b j;show#[f3,f1,f4,f5]
def rJ(I:8->kj->6) (g:∀n s,I n s->gi (i5 prog w) A (YW t) (λr i=>match r with
   |none=>R (.ok .next) i|some v=>gi (i5 prog w) A (þ b t v) (λ_ i=>gi (i5 prog w) A (ç b a v) (λ_ u =>
     gi (i5 prog w) A (forIn j 4 λc r=>if r=4 then do let ok <-isTrue c a (uv c a);pure (Ó ok) else pure (Ó r)) (λok k =>
      if ok=4 then gi (i5 prog w) A (uv l a) (λx y=>gi (i5 prog w) A (WH (.builtin "list.append") [o,x]) (λ_ z=>∃m,m<n/\I m z) (â (i5 prog w) A a λe d=>R (.error e) d) y) (â (i5 prog w) A a λe d=>R (.error e) d) k
      else ∃m,m<n/\I m k) (â (i5 prog w) A a λe d=>R (.error e) d) u) (â (i5 prog w) A a λe d=>R (.error e) d) i) (â (i5 prog w) A a λe d=>R (.error e) d) i) (â (i5 prog w) A a λe d=>R (.error e) d) s)
  (n) (h:I n s) :
  Ya (i5 prog w) A (.compLoop (.ListComp l [⟨b,B,j,0⟩] p G) 0 t o a) R s:=by
 show codeAny_loop 9 I (λn s H=>?_) n h;show wpAny_noted ?_;rw[compTurn_list];show cb (ſ (cb (mu (g n s H) (λr i C=>?_) λ_ _ f=>f)));cases r with
 |none=>show eT C|some v =>
  show cb (mu C (λ_ J q=>?_) λ_ _ f=>f);show cb (mu q (λ_ u L=>cb (mu L (λok k D=>?_) λ_ _ f=>f)) λ_ _ f=>f);cases ok with
  |false=>show eT #[9,D]
  |true=>show cb (cb (mu D (λx y N=>cb (mu N (λ_ z O=>eT (eT #[9,O])) λ_ _ f=>f)) λ_ _ f=>f))
def TR(X:Cx)(b:↑nS)(t:TT):6 :=
 ∀(a:↑(ke×Obj)) (s:kj) (σ:St) (H:Hp) (Q:Bool->Hp->6),Inv X a σ H s->t σ H Q ->
  ‹X› (forIn b 4 λc r=>if r=4 then do let d <-isTrue c X.env (uv c X.env);pure (Ó d) else pure (Ó r)) (TP X a σ Q) X.xe s
def N9:TT:=λ_ H Q=>Q 4 H
def xY:TR X [] N9:=λ_ _ _ H _ I h=>wpAny_tests_nil #[H,I,h]
def xZ(h:PT X c t):TR X [c] t:=λa s σ H Q I q=>wpAny_tests_one (h a s σ H Q I q)
def x_(k:8)(J:It)(g:TG)(n:TT)(o:TE)(Q:VK)(σ:St)(q:Hp):6 :=
  ∃W:8->8->↑V->Hp->6,(∃m,W 0 m [] q)/\∀i m a H,W i m a H->-a<=ei /\
    ((J.stop i H/\∀p,H p=ef->Q (.ref p) (upd H p (.lst a))) \/
     (J.go i H/\∃e:↑V->Hp->6,(∀h c,e h c->∃j,j<m/\W (i+1) j h c)/\∀x c,J.Wn i H x c->g x (pz k ef++σ) c λf r=>∃d:St,-d=k/\f=d++σ /\
        n f r λb l=>if b=4 then o f l λy s=>e (a++[y]) s else e a l))
def Bl(k:8)(a:TI)(g:TG)(b:TT)(c:TE):TE:=λσ H Q=>a σ H λJ d=>x_ k J g b c Q σ d
structure vX(X:Cx)(tg:nS)(J:It)(fp:↑ke)(it:ke)(tn:8->Te->6):6 where
 obj:∀i h,tn i h->∀b∈fp,∃o,h.get? b\o/\∀v,o.data≠.cell v
 keep:∀i h h',tn i h->(∀b∈fp,∀o,h.get? b\o->h'.get? b\o)->tn i h'
 item:∀(i:8) (pins:↑(ke×Obj)) (s:kj) (σ:St) (H:Hp) (E:i7->kj->6),Inv X pins σ H s->(∀b∈fp,ic X pins H b)->tn i s.heap->J.go i H ->
  ‹X› (YW (.ref it)) (λr s1=>∃u,r\u /\
   ‹X› (þ tg (.ref it) u) (λ_ s2=>∃x H',Inv X pins σ H' s2/\RelV x u/\J.Wn i H x H'/\tn (i+1) s2.heap/\∀b∈fp,H' b=ef) E s1) E s
 done:∀(i:8) (pins:↑(ke×Obj)) (s:kj) (σ:St) (H:Hp) (E:i7->kj->6),Inv X pins σ H s->(∀b∈fp,ic X pins H b)->tn i s.heap->J.stop i H->‹X› (YW (.ref it)) (λr s1=>r=ef/\Inv X pins σ H s1) E s
 self:∀(A:Y3) (i:8) (s:kj) (Q:i7->kj->6) (E:i7->kj->6),tn i s.heap->Q (.ref it) s->gi (i5 X.prog X.w) A (Č (.ref it)) Q E s
def Turn.at{K}(T:Turn P w K b J c d e)(f:X.prog=P)(g:X.w=w)(h:X.K=K)(a:X.calm=4):vX X b J c d e:=by subst f g h;show#[T.obj,T.keep,T.item X 9 9 9 a,T.done X 9 9 9 a,T.self]
def Bm (S:dz X N ab f) (hg:∀C s H ex,PG (Qe X N f C s H ex) tg g) (hf:∀C s H ex,TR (Qe X N f C s H ex) ap tt) (he:∀L s7 σ7 H7 Q7,Inv (Qe X N f C s H G) L σ7 H7 s7->te σ7 H7 Q7->‹X› (uv ar (ï f (RP X f C) C X.env)) (EP (Qe X N f C s H G) L σ7 Q7) (â (i5 X.prog X.w) X.A (ï f (RP X f C) C X.env) λe l=>R (.error e) l) s7) (I:Inv X L σ H s) (T:vX (Qe X N f C s H G) tg J G it tn) (st:tn 0 s.heap) (f2:∀b∈G,ic X L H b) (W:x_ ⇑ab J g tt te Q σ H) (hD:@Eq 8 D ↥s) (hC:@Eq 8 C (↥s+1)) (Ss:∀x c,(RP X f C).lookup x\c->s4.heap.IsCell c ef\/(cM X.env f.names []).lookup x\c) (SG:s4.os=s.os) (bb:s4.gens=s.gens) (ac:∀b o,s.heap.get? b\o->s4.heap.get? b\o) (ns:∃m,s4.heap.Ns C m) (pl:s4.heap.PlainList D #v[]) (as:∀s5 H5 ys t,Inv (Qe X N f C s H G) [] (pz ⇑ab ef++σ) H5 s5->H5 D=ef->Vals ys t->s5.heap.PlainList D t.toArray->-ys<=ei->(∀p,H5 p=ef->Q (.ref p) (upd H5 p (.lst ys)))->R (.ok .next) s5) :Ya (i5 X.prog X.w) X.A (.compStart (.ListComp ar [⟨tg,a0,ap,0⟩] f bd) 0 (.ref it) (.ref D) (ï f (RP X f C) C X.env)) R s4:=by
 let TU:∀b∈G,@ZS 8 _ b ↥s:=λb k=>by let(o,e,_):=T.obj 0 s.heap st b k;show i8 e
 let I4:Inv (Qe X N f C s H G) [] (pz ⇑ab ef++σ) H s4:=Bj S I 7 Ss SG bb ac ns λb k=>#[f2 b k,TU b k]
 let VO:tn 0 s4.heap:=T.keep 0 s.heap s4.heap st λb _ o e=>ac b o e;let nD:H D=ef:=I.ON.fresh 7;let(W,(m0,w0),Ś):=W;generalize R6:Qe X N f C s H G=h at I4 as he T;let eP:h.prog=X.prog:=by rw[<-R6];rfl
 let ew:h.w=X.w:=by rw[<-R6];rfl
 let eK:h.K=X.K:=by rw[<-R6];rfl
 let eA:h.A=X.A:=by rw[<-R6];rfl
 let ee:h.env=ï f (RP X f C) C X.env:=by rw[<-R6];rfl
 let a1:h.xe=λ_ _=>False:=by rw[<-R6];rfl
 let el:h.env.locals=C:=by rw[ee];rfl
 let VP:PG h tg g:=by rw[<-R6];show hg _ _ _ _
 let be:TR h ap tt:=by rw[<-R6];show hf _ _ _ _
 let s0:h.s₀=s:=by rw[<-R6];rfl
 let XF:h.pn=[]:=by rw[<-R6];rfl
 let Zp:∀{B:Hp} {o:Obj},(∀b∈G,B b=ef)->∀b∈G,ic h [(D,o)] B b:=λ{B o} hn b k=>by
  let ex:h.ex=G:=by rw[<-R6];rfl
  show#[hn b k,?_,?_,.inl (by rw[ex];show k),λx c e=>?_,λp hp=>?_]
  .rw[el];let:=TU b k;show ku (by change @ZS 8 _ b C;lia)
  .let e1:h.fs=PM X.stack:=by rw[<-R6];rfl
   rw[e1];intro z;let(f0,f1,bi,f3,f4,f5):=f2 b k;obtain q|q:=gb.mp (I.nF b z)
   .show f1 q
   show bi q
  .let e1:h.env.cells=RP X f C:=by rw[ee];rfl
   rw[e1]at e;obtain z|z:=kg _ _ _ e
   .let:=TU b k;let:=z.2;show Sv (by change @ZS 8 _ b c;lia)
   show(f2 b k).2.2.2.2.1 x c (gC f.names [] (λn c e=>by simp at e) x c z)
  grind
 let Zq:∀{σ':St} {B:Hp} {l:kj} {o:Obj},Inv h [] σ' B l->B D=ef->l.heap.get? D\o->(∀v,o.data≠.cell v)->Inv h [(D,o)] σ' B l:=λ{σ' B l o} I' n e d =>
  I'.fG λp hp=>by
   let:p=(D,o):=by exists hp
   subst this;show#[e,n,?_,?_,d]
   .rw[el];show ku (by change @ZS 8 _ D C;lia)
   let e1:h.fs=PM X.stack:=by rw[<-R6];rfl
   rw[e1];intro z;let zz:(D:ke)∈PM X.stack:=z;obtain q|q:=gb.mp (I.nF D zz)
   .let:=I.lt;rw[<-q]at this;show absurd this (by change ¬@ZS 8 _ D ↥s;lia)
   show I.Ib (a:=D) 7 q
 let start:∀l:kj,l=s4->Ya (i5 X.prog X.w) X.A (.compLoop (.ListComp ar [⟨tg,a0,ap,0⟩] f bd) 0 (.ref it) (.ref D) (ï f (RP X f C) C X.env)) R l:=by
  rintro l rfl;show rJ (λn l=>∃i ys t B,Inv h [] (pz ⇑ab ef++σ) B l/\tn i l.heap/\(∀b∈G,B b=ef)/\B D=ef/\Vals ys t/\l.heap.PlainList D t.toArray/\W i n ys B) ?_ m0
   ⟨0,[],[],H,I4,VO,λb k=>(f2 b k).1,nD,.nil,pl,w0⟩
  rintro n s3 ⟨i,ys,t,H3,I3,Pw,Wr,a2,XG,⟨nn,bk⟩,w3⟩;let(al,RQ):=Ś i n ys H3 w3;let IP:=Zq I3 a2 bk (λv z=>by let z':Data.seq _ _=Data.cell v:=z;ext z');obtain⟨a3,qn⟩|⟨go,NN,a4,a5⟩:=RQ
  .let d:=T.done i _ s3 _ H3 (â (i5 X.prog X.w) X.A (ï f (RP X f C) C X.env) λe l=>R (.error e) l) IP (Zp Wr) Pw a3;rw[eP,ew,eA]at d;show OV d λr s4 Zr=>?_;let(hr,I5):=Zr;subst hr;let e5:=(I5.pin (D,({cls:=.type "list",data:=.seq t.toArray nn}:Obj)) (by rw[XF];simp)).1;show as s4 H3 ys t (I5.fG λp hp=>by ext hp) a2 XG ⟨nn,e5⟩ al qn
  let d:=T.item i _ s3 _ H3 (â (i5 X.prog X.w) X.A (ï f (RP X f C) C X.env) λe l=>R (.error e) l) IP (Zp Wr) Pw go;rw[eP,ew,eA]at d;show OV d λr s4 Zs=>?_;let(u,hr,h4):=Zs;subst hr;show OV h4 λ_ s5 Zt=>?_;let(x,H5,I5,r5,y5,Sr,Y0):=Zt;let bD:H5 D=ef:=(I5.pin (D,({cls:=.type "list",data:=.seq t.toArray nn}:Obj)) (by rw[XF];simp)).2.1;let Y1:=I5.pinned (Zp Y0) (T.obj _ _ Sr);let a6:=VP _ s5 _ H5 x u _ Y1 r5 (a5 x H5 y5);rw[eP,ew,eA,ee,a1]at a6;show mu a6 (λ_ s6 ⟨σ6,H6,I6,q6⟩=>?_) λ_ _ z=>Uo z;let(ow,a8,rfl,q6):=q6;let a7:=be _ s6 _ H6 _ I6 q6;rw[eP,ew,eA,ee,a1]at a7;show mu a7 (λb s7 ⟨H7,I7,q7⟩=>?_) λ_ _ z=>Uo z;let am:∀{s8:kj} {O:Hp} {QR:↑V} {Y:↑i7} {nn':8},Inv h [] (ow++σ) O s8->tn (i+1) s8.heap->(∀b∈G,O b=ef)->O D=ef->Vals QR Y->s8.heap.PlainList D Y.toArray->(∃m',m'<n/\W (i+1) m' QR O) ->
    ∃m,m<n/\∃i ys t B,Inv h [] (pz ⇑ab ef++σ) B s8/\tn i s8.heap/\(∀b∈G,B b=ef)/\B D=ef/\Vals ys t/\s8.heap.PlainList D t.toArray/\W i m ys B:=λ{s8 O QR Y nn'} I8 bl bm n8 bn bq w8=>by
   let(m',hm,w8):=w8;show#[m',hm,i+1,QR,Y,O,I8.weak (by simp[a8]) (λj v e=>?_),bl,bm,n8,bn,bq,w8];by_cases hj:j< -ab
   .rw[K0 (by exists hj),Y5]at e;split at e<;>ext e
   rw[vu (by simpa using(Nat.not_lt.mp hj)),ì]at e;rw[vu ⋯,a8];show e
  let an:∀{σ':St} {O:Hp} {s8:kj},Inv h ([(D,({cls:=.type "list",data:=.seq t.toArray nn}:Obj))]++qZ G s5.heap) σ' O s8->s8.heap.get? D\{cls:=.type "list",data:=.seq t.toArray nn}/\O D=ef/\tn (i+1) s8.heap/\∀b∈G,O b=ef:=λ{σ' O s8} I8=>by let p1:=I8.pin (D,({cls:=.type "list",data:=.seq t.toArray nn}:Obj)) (by rw[XF];simp);show#[p1.1,p1.2.1,T.keep _ _ _ Sr λb k o e=>(I8.pin (b,o) (oD _ (oD _ (gA k e)))).1,λb k=>?_];let(o,e,d):=T.obj _ _ Sr b k;show(I8.pin (b,o) (oD _ (oD _ (gA k e)))).2.1
  cases b with
  |false=>rw[if_neg tv]at q7 ⊢;let(p1,p2,p3,p4):=an I7;show am (nn':=0) (I7.fG λp hp=>by ext hp) p3 p4 p2 XG ⟨nn,p1⟩ (a4 _ _ q7)|true =>
   rw[if_pos rfl]at q7 ⊢;show mu (he _ s7 _ H7 _ I7 q7) (λy s8 ⟨yv,O,I8,r8,q8⟩=>?_) λ_ _ z=>z;let(p1,p2,p3,p4):=an I8;let hsz:t.toArray.size<=ei:=by rw[rS,<-⇑XG];show al
   show wpAny_list_append_plain (hsz:=hsz) #[nn,p1] λh9 bs a'=>?_;let bt:Inv h [] (ow++σ) O s8:=I8.fG λp hp=>by ext hp
   let XH:∀x c,h.env.cells.lookup x\c->c≠D:=λx c e=>by
    let e1:h.env.cells=RP X f C:=by rw[ee];rfl
    rw[e1]at e;obtain z|z:=kg _ _ _ e
    .let:=z.2;show Sv (by change @ZS 8 _ D c;lia)
    let(v,z):=I.cell x c (gC f.names [] (λn c e=>by simp at e) x c z);let:@ZS 8 _ c ↥s:=z.lt;show ku (by change @ZS 8 _ c D;lia)
   let I9:Inv h [] (ow++σ) O {s8 with heap:=h9,toks:=s8.toks}:=bt.turned (it:=D) (λb o k e=>(a'.2 b k).trans e) p2 (by rw[el];show ku (by change @ZS 8 _ D C;lia)) (.inr (by rw[s0];change @LE.le 8 _ ↥s D;lia)) XH (λp hp=>by rw[XF]at hp;ext hp);let bv:(t++[y]).toArray=t.toArray.push y:=7
   show am (nn':=0) (s8:={s8 with heap:=h9,toks:=s8.toks}) I9 (T.keep _ _ _ p3 λb k o e=>(a'.2 b ?_).trans e) p4 p2 (XG.append (.cons r8 .nil)) (by rw[bv];show bs) (a4 _ _ q8);let:=TU b k;show ku (by change @ZS 8 _ b D;lia)
 show codeAny_compStart_list (start _ 9) (by let z:=T.self X.A 0 s4;rw[eP,ew]at z;show z _ _ VO (start _ 9))
def vY (i:Q (newEnv a ↥s c (V9 (↥s+1) a.names j) e ef .none (b6 d) b) {s with heap:=Î (s.heap.push {cls:=.type "dict",data:=.dict #v[]}) a.names}) :gi M A (newFunctionEnv a c j [] e ef .none (b6 d) b) Q E s:=by show cb (ϗ ?_);show cb (wpAny_layCells _ (λg h f=>by rfl) _ _ _ _ ?_);rw[XY ..];show cb ?_;show eT (eT i)
def nP{RR:i7->ke->Result->kj->6} (S:dz X N i a) (hg:∀C s H j,PG (Qe X N a C s H j) G g) (hf:∀C s H j,TR (Qe X N a C s H j) r tt) (he:∀C s H j,PE (Qe X N a C s H j) t te) (I:Inv X d σ H s) (T:∀C,vX (Qe X N a C s H u) G J u it tn) (st:tn 0 s.heap) (f2:∀b∈u,ic X d H b) (W:x_ ⇑i J g tt te Q σ H) (v:∀D C k h l n,@Eq 8 D ↥s->@Eq 8 C (↥s+1)->Inv (Qe X N a C s H u) [] (pz ⇑i ef++σ) h k->h D=ef->Vals l n->k.heap.PlainList D n.toArray->-l<=ei->(∀p,h p=ef->Q (.ref p) (upd h p (.lst l)))->RR (.ref D) C (.ok .next) k) :
    ‹X› (newList []) (λm s₃=>‹X› (newFunctionEnv a X.env.globals (cM X.env a.names []) [] X.env.qual ef .none (b6 X.env)) (λL s₄=>Ya (i5 X.prog X.w) X.A (.compStart (.ListComp t [⟨G,O,r,0⟩] a ab) 0 (.ref it) m {L with scope:=ö a X.env}) (RR m L.locals) s₄) E s₃) E s:=by
  show ti (vY ?_)
  dsimp only
  generalize y:s.heap.push {cls:=.type "list",dict:=ef,data:=.seq ([]:↑i7).toArray}=f;let Y:f.objs.size=↥s+1:=by rw[<-y,XY]
  let kp:∀b o,f.get? b\o->(Î (f.push {cls:=.type "dict",data:=.dict #v[]}) a.names).get? b\o:=λb o e=>ś _ _ b o (et _ e);let B:∀b o,s.heap.get? b\o->(Î (f.push {cls:=.type "dict",data:=.dict #v[]}) a.names).get? b\o:=λb o e=>kp b o (y▸et _ e);let Ql:(Î (f.push {cls:=.type "dict",data:=.dict #v[]}) a.names).PlainList ↥s #v[]:=#[_,kp _ _ (y▸gj _ 9)]
  let Ss:∀x c,(RP X a f.objs.size).lookup x\c->(Î (f.push {cls:=.type "dict",data:=.dict #v[]}) a.names).IsCell c ef\/(cM X.env a.names []).lookup x\c:=λx c e=>by show rH a.names (f.push {cls:=.type "dict",data:=.dict #v[]}) _ ?_;rw[XY];show e
  show Bm (s:=s) (s4:={s with heap:=Î (f.push {cls:=.type "dict",data:=.dict #v[]}) a.names}) (C:=f.objs.size) (D:=↥s) S hg hf (λd s7 σ7 H7 Q7 I7 q=>mu (he _ _ _ _ d s7 σ7 H7 Q7 I7 q) (λ_ _ z=>z) λ_ _ z=>z.elim) I (T _) st f2 W 9 Y Ss 9 9 B ⟨_,(Heap.Ns.new f (.type "dict")).keeps (ś _ _)⟩ Ql
    λk h l n I5 n5 WE WG UZ q5=>v _ _ k h l n 9 Y I5 n5 WE WG UZ q5
def E5(S:dz X N f a)(q:X.calm=4)(r:PI X l b t)(u:∀C s H c,PG (Qe X N a C s H c) l g)(w:∀C s H c,TR (Qe X N a C s H c) i y)(z:∀C s H c,PE (Qe X N a C s H c) j A) (hs:∀x,Wd b X.env x=pure x:=by intro _;rfl):PE X (.ListComp j [⟨l,b,i,0⟩] a B) (Bl ⇑f t g y A):=by intro d s σ H Q I h;show Δ   9 hs (fU (S.cells I.ok)) S.kind S.names ?_;show OV (r d s σ H _ I h) λv s1 G=>OV G λWo s2 L=>?_;let(it,fp,tn,J,H2,e,m,T,k,n,W):=L;subst e;show nP  S u w z m (λC=>T.at 9 9 9 q) k n W ?_;intro D C s5 H5 ys G' O hC o p Y WG UZ q5;let(m5,Zv,_):=o.loc;show#[m5,Zv,λh' sb=>#[.ref D,_,t5 m o (ë O.symm) 7 (ku 7) p Y WG UZ sb n,9,q5 D p]]
def E6(S:dz X N O d)(hc:X.calm=4)(hN:X.N.Nodup)(XI:X.N[i]?\y)(hy:X.env.scope.names.lookup y\.local) (hi:PI X G f wi) (hg:∀C s H q,PG (Qe X N d C s H q) G g) (hf:∀C s H q,TR (Qe X N d C s H q) l tt) (he:∀C s H q,PE (Qe X N d C s H q) m te) (Tj:WQ (.ListComp m [⟨G,f,l,0⟩] d r) (b6 (.Name y t)) R7.line X.env=pure 4:=by rfl) (hs:∀x,Wd f X.env x=pure x:=by intro _;rfl):PS X (.Assign [.Name y t] (.ListComp m [⟨G,f,l,0⟩] d r) R7) (AZ (Bl ⇑O wi g tt te) (tM i)):=by
 intro j s σ H D I h;rw[exec_Assign_Name_used _ _ _ _ Tj];show cb (ſ (cb ?_));change gi _ X.A (do let _ <-comprehension (.ListComp m [⟨G,f,l,0⟩] d r) d X.env _ (newList []) df (uv f X.env) (b6 (ç (.Name y t) X.env))) _ _ s;show cb (mu (Δ (use:=b6 (ç (.Name y t) X.env)) (cl:=cM X.env d.names []) (Q:=λ_ s'=>SP X j D .next s') 9 hs (fU (S.cells I.ok)) S.kind S.names ?_) (λ_ s' hq=>eT (eT hq)) λ_ _ e=>e);show OV (hi j s σ H _ I h) λv s1 h1=>OV h1 λWo u h2=>?_;let(it,fp,tn,J,H2,e,n,T,Y,f2,W):=h2;subst e;show nP (RR:=λab C=>compPost (i5 X.prog X.w) X.A X.xe (b6 (ç (.Name y t) X.env)) (λ_ s'=>SP X j D .next s') ab C) S hg hf he n (λC=>T.at 9 9 9 hc) Y f2 W ?_;intro k C L H5 ys G' hD hC I5 n5 WE WG UZ q5;let(m5,Zv,_):=I5.loc;let ac:H5 C=ef:=I5.free;let B:Inv X j σ (upd H5 k (.lst ys)) {L with heap:=L.heap}:=t5 n I5 (ë hD.symm) (by change @LE.le 8 _ ↥u C;lia) (ku (by change @ZS 8 _ k C;lia)) n5 WE WG UZ (Ő ..) f2;change gi _ X.A (ç (.Name y t) X.env (.ref k)) _ _ L;show aal (qf (s:=L) B hN XI (.inl hy) (show RelV (.ref k) (.ref k) from 9) (λs6 I6 ⟨a,sb,ha⟩=>?_) (.inr hy));let XH:@ZS 8 _ X.env.locals C:=by let:@ZS 8 _ X.env.locals ↥u:=n.lt;lia
 let SM:∀x c,X.env.cells.lookup x\c->c≠C:=λx c e=>by let(v,z):=n.cell x c e;let:@ZS 8 _ c ↥u:=z.lt;show ku (by change @ZS 8 _ c C;lia)
 let al:C≠a:=by
  obtain z|z:=ha
  .rw[z];show Sv XH
  show(SM _ _ z).symm
 show#[m5,Zv.sameBut sb al,λh' am=>?_];show#[σ.set i (b6 (.ref k)),upd H5 k (.lst ys),I6.turned (it:=C) (t':=s6.toks) (λb o hb e=>(am.2 b hb).trans e) ?_ (Sv XH) (.inr (by let:@LE.le 8 _ ↥X.s₀ ↥u:=n.sz;change @LE.le 8 _ ↥X.s₀ C;lia)) SM (λp hp=>?_),q5 k n5]
 .rw[aj (Sv (by change @ZS Nat _ k C;lia))];show ac
 let:@ZS 8 _ p.1 ↥u:=i8 (n.pin p hp).1;show ku (by change @ZS 8 _ p.1 C;lia)
def Zw(x:5):It:=#[λi _=>i< -x.cps.toList,λi H v a=>a=H/\∃c,(~~~x)[i]?\c/\v=.str #[#v[c]],λi _=>-x.cps.toList<=i]
def t6{K}(a)(L:["enumerate","zip","dict_itemiterator","dict_reverseitemiterator","odict_iterator","itertools.zip_longest","itertools.pairwise"].contains l=df) (N:∀A (s:kj) i c Q E,s.heap.IsStrIter a l x t i->x.cps[i]?\c->(∀f,f.IsStrIter a l x t (i+1)->Hf a s.heap f->Q (b6 (.str #[#v[c]] s.toks)) {s with heap:=f,toks:=s.toks+1})->gi (i5 P w) A (YW (.ref a)) Q E s) (O:∀A s i Q E,A.handled=ef->s.heap.IsStrIter a l x t i->x.cps[i]?=ef->(∀f,į a s.heap f->Q ef {s with heap:=f })->gi (i5 P w) A (YW (.ref a)) Q E s) (T:∀A i s Q E,s.heap.IsStrIter a l x t i->Q (.ref a) s->gi (i5 P w) A (Č (.ref a)) Q E s) :Turn P w K tg (Zw x) [a] a (λi h=>h.IsStrIter a l x t i) where
 mem:=7
 obj:=λi h st b j=>by
  let e:b=a:=by exists j
  subst e;let(o,e,c,d):=st;left
 keep:=λi h f st k=>let ⟨o,ho,r⟩:=st;⟨o,k a 7 o ho,r⟩
 item:=by intro X p q u G i g s σ H E I n st v;subst p q u;let(y,z,Y,B,C,D):=n a 7;let J:i< -x.cps.toList:=v;show N X.A s i (~~~x)[i] _ _ st 7 λf m sb=>?_;let I1:Inv X g σ H {s with heap:=f,toks:=s.toks+1}:=I.turned (λb o j e=>(sb.2 b j).trans e) y z B C D;let(o,e,cc,d):=id m;show#[_,9,xS  e cc d L #[.str _,H,I1,#[_,9],#[9,_,by simp,9],m,λb j=>(n b j).1]]
 done:=by intro X p q u G i g s σ H E I n st v;subst p q u;let(y,z,Y,B,C,D):=n a 7;let J:-x.cps.toList<=i:=v;show O X.A s i _ _ (I.ok.hd G) st (by exists J) λf eb=>#[9,I.turned (t':=s.toks) (λb o j e=>eb b o j e) y z B C D]
 self:=λA i s Q E st h=>T A i s Q E st h
def N_(tl:TE):TI:=λσ H R=>tl σ H λv a=>∃x,v=.str x/\R (Zw x) a
def IV(hl:PE X l tl):PI X B l (N_ tl):=by
 intro d s σ H R I h;show OV (hl d s σ H _ I h) λv g r=>?_;let(x,k,j,u,w):=r;let(z,rfl,q):=w;let(t,rfl):=u;let n:∀b∈[↥g],ic X d k b:=λb y=>by
  let e:=by exists y
  subst e;show j.A2 (gs _) (j.ON.fresh (gs _))
 cases p:z.cps.all (·<128) with
 |true =>
  show wpAny_pyIter_ascii p ?_;show#[_,_,_,_,k,9,j.kept (t':=g.toks) λb o e=>et _ e,
   t6 (x:=z) (t:=t) _ 7 (λA s i c Q E st f a=>wpAny_pyNext_ascii_item st f a) (λA s i Q E m st f a=>wpAny_pyNext_ascii_end m st f a) (λA i s Q E st a=>wpAny_pyIter_striter_ascii st a),
   #[_,gj _ 9,9,9],n,q]
 |false =>
  show wpAny_pyIter_wide p ?_;show#[↥g,_,_,_,k,9,j.kept (t':=g.toks) λb o e=>et _ e,
   t6 (x:=z) (t:=t) _ 7 (λA s i c Q E st f a=>wpAny_pyNext_wide_item st f a) (λA s i Q E m st f a=>wpAny_pyNext_wide_end m st f a) (λA i s Q E st a=>wpAny_pyIter_striter_wide st a),
   #[_,gj _ 9,9,9],n,q]
noncomputable def LV:V->Option Int->Option Int->Hp->VK->6:=λx lo a H Q=>∃z,x=.str z/\-z<=ei/\Q (.str (PySem.StrLaws.sliceText z lo a)) H
def pS(x)(lo a)(b:-x<=ei):-PySem.StrLaws.sliceText x lo a<=ei:=pe (Txt.slice_le x lo a) b
def IW:Tg X LV:=by
 intro b s σ H x v p r lo d w Q I m hs n e h;let(z,rfl,o,q):=h;let(t,rfl):=m;show#["str",_,slot_str_getitem.lookup,YJ _ _ _,?_];let a:-PySem.StrLaws.sliceText z lo d<=ei/\∀f k,EP X b σ Q (.str _ f) _:=#[pS z lo d o,λf k=>#[.str _,H,I.tok k,#[_,9],q]]
 cases n with
 |none =>
  cases e with
  |none=>show Zk (l:=ef) (u:=ef) (st:=ef) hs 9 (ý a)
  |int j c=>show Zk (l:=ef) (u:=b6 (j,c)) (st:=ef) hs 9 (ý a)
 |int i g =>
  cases e with
  |none=>show Zk (l:=b6 (i,g)) (u:=ef) (st:=ef) hs 9 (ý a)
  |int j c=>show Zk (l:=b6 (i,g)) (u:=b6 (j,c)) (st:=ef) hs 9 (ý a)
def t7:VN X "str.endswith" (λx c H Q=>∃a b,x=.str a/\c=[.str b]/\Q (.bl (aay a b)) H):=by intro d s σ H x c v g Q I e f h;let(a,b,rfl,rfl,q):=h;let(t,rfl):=e;let(u,rfl,i,rfl):=vals1 f;show SC.endswith #[.bl _,H,I,9,q]
def rK:VN X "str.partition" (λx f H Q=>∃a b,x=.str a/\f=[.str b]/\(-b==0)=df/\-a<=ei /\
  ∀p,H p=ef->Q (.ref p) (upd H p (.tup [.str (kb a b).1,.str (kb a b).2.1,.str (kb a b).2.2]))):=by
 intro d s σ H x f v A Q I l m h;let(a,b,rfl,rfl,n,r,q):=h;let(t,rfl):=l;let(u,rfl,w,rfl):=vals1 m;show ZW F.slot_str_partition (YJ _ _ _) F.entry_str_partition (F.args_str_partition_2 _ _) (meets_str_partition a b t w n r) ?_;let y:H ↥s=ef:=I.ON.fresh (gs _);let z:=q _ y;let c:∀(g i j:Tok) (k:8),EP X d σ Q (.ref ↥s) {s with toks:=k,heap:=s.heap.push {cls:=.type "tuple",data:=.seq _}}:=λg i j k =>
  #[.ref ↥s,_,I.laid (t':=k) (o:=.tup [.str (kb a b).1,.str (kb a b).2.1,.str (kb a b).2.2]) (λb u e=>et _ e) (gs _)
   ⟨by change 3<=ei;decide,_,.cons ⟨g,9⟩ (.cons #[i,9] (.cons #[j,9] .nil)),⟨_,gj _ 9,9,_,9⟩⟩,9,z]
 revert c;unfold kb;cases Pe a b 0 ⇑a 1 with|_=>intro c;show c _ _ _ _
theorem qp:∀l,Vals (l.map λp=>V.str p.1) (Χ l)|[]=>.nil|(x,t)::r=>.cons #[t,9] (qp r)
theorem gD:∀{a}{b},Vals (a.map V.str) b->∃l,b=Χ l/\l.map (·.1)=a|[],_,.nil=>#[[],9,9]|y::a,_,.cons r t=>by let(c,rfl):=r;let(l,rfl,e):=gD t;show#[(y,c)::l,9,by left]
def Bn:VN X "str.split" (λx i H Q=>∃a b,x=.str a/\i=[.str b]/\(-b==0)=df/\-a+2<=ei /\
  ∀p,H p=ef->Q (.ref p) (upd H p (.lst ((rD a b).map V.str)))):=by
 intro g s σ H x i v z Q I m n h;let(x,y,rfl,rfl,j,A,q):=h;let(t,rfl):=m;let(B,rfl,u,rfl):=vals1 n;let d:=I.ON.fresh (gs _);let r:=q _ d;let c:∀(l:↑(5 ×Tok)) (k:8),-l<=ei->l.map (·.1)=rD x y->EP X g σ Q (.ref ↥s) {s with toks:=k,heap:=s.heap.push {cls:=.type "list",data:=.seq (Χ l).toArray}}:=λl k hl e =>
  #[.ref ↥s,_,I.laid (t':=k) (o:=.lst ((rD x y).map V.str)) (λb u e=>et _ e) (gs _)
   ⟨by rw[<-e,f7,f7];show hl,Χ l,_,by rw[<-e,k9];show qp l,gj _ 9⟩,9,r]
 let one:1<=ei:=7
 cases f:(eL (-x< -y)||decide (ņ x<ņ y))
 .cases d:(Pe x y 0 ⇑x (-x+1)).isEmpty
  .let w:-(Z0 x (Pe x y 0 ⇑x (-x+1)) ⇑y)<=ei:=by let:=PySem.StrLaws.occ_length_le x y 0 ⇑x (-x+1);erw[Z0,f7,ĵ,l0,nc];lia
   show ZW ł (YJ _ _ _) İ (Ğ _ _) (meets_str_split_sep x y t u f j d 7 w) ?_;rw[strsFrom_eq];show c (numbered s.toks _) _ ?_ ((numbered_texts _ _).trans ((if_neg (ne_true_of_eq_false f)).trans (if_neg (ne_true_of_eq_false d))).symm);let e:=congrArg Y4 (numbered_texts s.toks (Z0 x (Pe x y 0 ⇑x (-x+1)) ⇑y));left
  show ZW ł (YJ _ _ _) İ (Ğ _ _) (meets_str_split_not_found x y t u f j d)
   (c [(x,t)] _ one ((if_neg (ne_true_of_eq_false f)).trans (if_pos d)).symm)
 show ZW ł (YJ _ _ _) İ (Ğ _ _) (meets_str_split_cannot_occur x y t u f)
  (c [(x,t)] _ one (if_pos f).symm)
def E7:VN X "str.join" (λx c H Q=>∃a p b,x=.str a/\c=[.ref p]/\Py X.K H p (b.map V.str)/\ZZ a b=4/\Q (.str (Ds a b)) H):=by intro d s σ H x c v o Q I f g h;let(a,p,b,rfl,rfl,i,j,q):=h;let(t,rfl):=f;let(u,rfl,r):=vals1 g;ext r;let(w,m,n,y):=I.list i;let(l,rfl,e):=gD m;show SC.join n.isList e j λz k=>#[.str _,H,I.tok k,#[_,9],q]
theorem l9:∀{a:↑Bool}{c},Vals (a.map V.bl) c->c=a.map Ú|[],_,.nil=>9|b::a,_,.cons r t=>by ext r;rw[l9 t];rfl
def Bo:X.calm=4->ie X (.builtin "all") (λf H Q=>∃(p:ke) (a:↑Bool),f=[.ref p]/\Py X.K H p (a.map V.bl)/\Q (.bl (a.all id)) H):=by
 intro k g s σ H f w Q I l h;let(p,a,rfl,m,q):=h;let(u,rfl,r):=vals1 l;ext r;let(x,n,c,y):=I.list m;let e:=l9 n;subst e;let o:p<↥s:=by let(_,_,e,_):=c;show i8 e
 show call_all_walk (Ļ c.isList ?_);show#[_,_,_,_,_,_,λi=>(a[i]?).getD 4,9,aax (A:=X.A.in1) (I.ok.hd k) _ p (ku o) _,
  #[#[_,gj _ 9,9,9],c.isList.push _],λi v z B C D j=>?_,λG t hk=>?_]
 .let d:(a.map Ú)[i]?\v:=7
  rw[ri]at d;cases e:a[i]? with|none=>left|some b=>rw[e]at d;ext d;erw[e]at j;show RM j
 let e:((i9 (a.map Ú).toArray.size).all λi=>(a[i]?).getD 4)=a.all id:=by rw[rS,f7];show Ϯ a
 rw[e];show#[.bl _,H,I.kept (t':=t) (ϯ hk),9,q]
def IX(N b:↑5)(a:R0)(c:↑(5 ×Ϟ)):Bool :=
 eL (a.kind=.function)&&a.names.all (λy=>eL (a.names.lookup y.1\y.2))&&a.names.all (λy=>eL (y.2≠.cell)||decide (y.1∈b))&&decide N.Nodup&&eL (N.take ⇑b=b) &&
 a.names.all (λy=>eL (y.2≠.local)||decide (y.1∈b)||decide (y.1=".0"))&&eL ((".0":5)∉N)&&a.names.all (λy=>eL (y.2≠.free)||decide (c.lookup y.1\.cell)||decide (c.lookup y.1\.free))&&a.names.all (λy=>eL (y.1≠".")&&eL (y.1≠".."))
def Bp(f:X.env.scope.names=d)(g:fK (N.drop ⇑b) X.N)(h:IX N b a d=4):dz X N b a:=by
 unfold IX at h;erw[dt,nH,W9,decide_eq_true_eq]at h;obtain⟨⟨⟨⟨⟨⟨⟨⟨i,j⟩,k⟩,l⟩,m⟩,n⟩,o⟩,p⟩,q⟩:=h;show#[i,j,λy c e=>?_,l,m,λy c e=>?_,o,g,λy c e=>?_,q]
 .rcases k y c with z|z
  .show absurd e z
  show z
 .rcases n y c with(z|z)|z
  .show absurd e z
  .show .inl z
  show .inr z
 rw[f];obtain(z|z)|z:=p y c
 .show absurd e z
 .show .inl z
 show .inr z
inductive Bq(prog:DD)(w:Q1)(h:Te)(k:5 ×↑5)(a:ke):6|mk:∀o n t b,h.get? a\o->o.cls=.type "tuple"->o.data=.seq #v[.str k.1 t,.ref b] n->IsTupleKey (PySem.strKind prog w) h k.2 b->Bq prog w h k a
def Q6(a b:5):Bool:=!eL ((~~~b)<(~~~a))
def m8(a b):Q6 a b=4 ↔(~~~a)<=(~~~b):=by erw[Q6,td,decide_eq_false_iff_not];rfl
def qq(a b c)(d:Q6 a b=4)(e:Q6 b c=4):Q6 a c=4:=by rw[m8]at d e ⊢;show List.le_trans d e
def zF(a b):(Q6 a b||Q6 b a)=4:=by rw[W9,m8,m8];show List.le_total _ _
def Br{x y:5}(h:(~~~x)=(~~~y)):x=y:=by ext x;left
def rL(c:Q6 a b=4)(d:Q6 b a=4):a=b:=by rw[m8]at c d;show Br (List.le_antisymm c d)
def cF(l:↑5):↑5:=l.mergeSort Q6
def dc(l):(cF l).Perm l:=List.mergeSort_perm l Q6
def nQ(l):(cF l).Pairwise (λa b=>Q6 a b=4):=List.pairwise_mergeSort qq zF l
theorem kh:∀l p,risingS p l=4->(p::l).Pairwise (λa b=>Q6 a b=4)
 |[],p,_=>by simp|x::r,p,h=>by
  let g:=h;let(d,i):=ve.mp g;let f:=kh r x i;let c:Q6 p x=4:=by rw[ltCps_eq]at d;show d
  show Ä.mpr #[λy j=>?_,f];obtain e|e:=gb.mp j
  .rw[e];lia
  show qq _ _ _ c ((Ä.mp f).1 y e)
def rM(h:sortedS l=4):l.Pairwise (λa b=>Q6 a b=4):=by cases l with|nil=>simp|cons x r=>show kh r x h
theorem ll:∀{l m:↑5},l.Perm m->l.Pairwise (λa b=>Q6 a b=4)->m.Pairwise (λa b=>Q6 a b=4)->l=m
 |[],m,c,_,_=>(List.Perm.nil_eq c)|x::l,m,c,f,g=>by
  cases m with
  |nil=>left
  |cons y m =>
   let(h,i):=Ä.mp f;let(j,b2):=Ä.mp g;let d:x=y:=by
    let m1:=c.mem_iff.mp ki;let m2:=c.mem_iff.mpr ki;obtain e|e:=gb.mp m1
    .show e
    obtain e'|e':=gb.mp m2
    .show e'.symm
    show rL (h y e') (j x e)
   subst d;rw[ll (List.Perm.cons_inv c) i b2]
def Bs(a:l.Perm m)(hs:sortedS l=4):l=cF m:=ll (a.trans (dc m).symm) (rM hs) (nQ m)
def t8(a:l.Perm m):cF l=cF m:=ll ((dc l).trans (a.trans (dc m).symm)) (nQ l) (nQ m)
def gE(l):-cF l=-l:=(dc l).length_eq
theorem de:∀{a}{b},Vals (a.map V.str) b->Ì b a|[],_,.nil=>.nil|y::a,_,.cons r t=>by let(c,rfl):=r;show .cons y c (de t)
theorem gF:∀{a}{b},Ì a b->Vals (b.map V.str) a|_,_,.nil=>.nil|_,_,.cons x t h=>.cons #[t,9] (gF h)
theorem jH(hc:gi (i5 prog w) A.in1 (ξ x) (λvs s1=>∃ss,Ì vs ss/\vs.length<64 /\
      ∀h' PH e,(∀b o,s1.heap.get? b=b6 o->h'.get? b=b6 o)->h'.get? s1.heap.objs.size=b6 (RB "list" PH.toArray e)->Ì PH (cF ss)->Q (.ref s1.heap.objs.size) {s1 with heap:=h' }) E s) :
    gi (i5 prog w) A (WH (.builtin "sorted") [x]) Q E s:=by
  refine Ņ kind_sorted plain_sorted entry_sorted (args_sorted1 _) ?_;unfold Wg.«sorted»;refine cb (m:=checkCount "sorted" 1 1 _) (eT ?_);refine cb (mu hc (λvs s1 h1=>?_) λ_ _ e=>e);obtain⟨ss,hS,Tn,h⟩:=h1
  refine wpAny_bind (wpAny_newList ?_ (by let : (64 : 8) ≤ sizeLine := by decide
                                          lia))
  let TL:(s1.heap.push (RB "list" vs.toArray 0)).get? s1.heap.objs.size=b6 (RB "list" vs.toArray 0):=gj _ 9;show gi _ _ _ _ _ {s1 with heap:=s1.heap.push (RB "list" vs.toArray 0)};refine cb (K' (wh slot_list_sort ⟨_,TL,9⟩ entry_list_sort (list_sort_treeK strKind_oneLt TL hS.keysOf (λv₁ v₂ rest e=>keyKind_strs (by rw[<-e];exact hS)) Tn λst' a1 a2=>⟨_,9,?_⟩) (args_list_sort _)));obtain⟨Rx,b1,b2,b3⟩:=sorted_out_str hS a1 a2;obtain⟨e,he⟩:=sortedHeap_at (out:=(arrOf st').map (·.2)) TL;rw[Bs b2 b3]at b1;refine eT ⟨_,9,h _ ((arrOf st').map (·.2)).toList e (λb o q=>?_) (by rw[Ź];exact he) b1⟩;let PB:b<s1.heap.objs.size:=i8 q;show(aab (s1.heap.push (RB "list" vs.toArray 0)) s1.heap.objs.size vs ((arrOf st').map (·.2))).get? b=b6 o;rw[sortedHeap_old (ku PB) (by rw[Xy];exact XE PB)];exact et _ q
def pT(hl:Ĩ s.heap l a.toArray) (h:Q a {s with heap:=(s.heap.push (RB "list" #v[] 0)).update ↥s (tr (·++a.toArray))}) (c:-a<=ei) :gi (i5 prog w) A (ξ (.ref l)) Q E s:=by let(o,ho,d,n,e):=id hl;unfold ξ;show cb (Ŧ (RS entry_proto_collect' ?_));show cb (Α (eT #[Ć _ (by decide +kernel),RS entry_list_iadd' ?_]));change gi _ _ (y6 (.ref ↥s) (.ref l) (.ref ↥s)) _ _ {s with heap:=s.heap.push (RB "list" #v[] 0)};unfold y6;let b:(s.heap.push (RB "list" #v[] 0)).get? l\o:=et _ ho;show cb (Zx (T:="tuple") #[o,b,d] ?_);rw[if_pos ⋯];show cb (ϋ b e ?_);show cb (ϋ (xs:=#v[]) (n:=0) (gj _ 9) 9 ?_);rw[if_neg ⋯];show cb (Ħ (xs:=#v[]) (n:=0) (gj _ 9) 9 ?_ (mh _) (by grind));show eT ?_;show cb (ϴ (get?_update_seq (gj _ 9) _) ?_);change gi _ _ (pure ((#v[]:Array i7)++a.toArray).toList) Q E _;rw[show((#v[]:Array i7)++a.toArray).toList=a by simp];show eT h
def pU{h:Te}{a:↑i7}(e:h.get? b\o):((h.push (RB "list" #v[] 0)).update h.objs.size (tr (·++a.toArray))).get? b\o:=by rw[YG _ _ _ _ (ku (i8 e))];show et _ e
def t9(I:Inv X a σ H s)(j:∀b o,s.heap.get? b\o->s1.heap.get? b\o)(k:∃d c,s1={s with heap:=d,toks:=c}) (hk:∀b o,s1.heap.get? b\o->f.get? b\o) (l:f.get? ↥s1\RB "list" g.toArray e) (m:Ì g (cF h)) (n:↥s<=↥s1) (hl:-h<=ei) (q:∀p,H p=ef->Q (.ref p) (upd H p (.lst ((cF h).map V.str)))):EP X a σ Q (.ref ↥s1) {s1 with heap:=f }:=by let(d,c,rfl):=k;let i:=I.kept (t':=c) j;show#[.ref _,_,i.laid  (o:=.lst _) hk (gs _) #[by rw[f7,gE];show hl,g,e,gF m,l],9,q _ (i.ON.fresh (gs _))]
def l_:ie X (.builtin "sorted") (λn H Q=>∃p a,n=[.ref p]/\(Py X.K H p (a.map V.str)\/Pu X.K H p (a.map V.str))/\-a<64/\∀q,H q=ef->Q (.ref q) (upd H q (.lst ((cF a).map V.str)))):=by
 intro i s σ H n y Q I t h;let(p,a,rfl,hq,v,q):=h;let(u,rfl,r):=vals1 t;ext r;let hl:-a<=ei:=Ue (lg v 7);let j:∀(c:↑i7),Vals (a.map V.str) c->∀(d:Te) (g:↑i7) (e:8),(∀b o,((s.heap.push (RB "list" #v[] 0)).update ↥s (tr (·++c.toArray))).get? b\o->d.get? b\o) ->
   d.get? ((s.heap.push (RB "list" #v[] 0)).update ↥s (tr (·++c.toArray))).objs.size\RB "list" g.toArray e->Ì g (cF a) ->
   EP X i σ Q (.ref ((s.heap.push (RB "list" #v[] 0)).update ↥s (tr (·++c.toArray))).objs.size) {s with heap:=d }:=λc f d g e hk k l =>
  t9 (s1:={s with heap:=(s.heap.push (RB "list" #v[] 0)).update ↥s (tr (·++c.toArray))}) I (λb o z=>pU z) ⟨_,s.toks,9⟩ hk k l 7 hl q
 obtain hq|hq:=hq
 .let(c,f,m,w):=I.list hq;let x:-c=-a:=by rw[<-⇑f,f7]
  show jH (collect_list m.isList #[a,de f,7,λd g e hk k l=>j c f d g e hk k l] 7)
 let(c,f,m,w):=I.tuple hq;let x:-c=-a:=by rw[<-⇑f,f7]
 show jH (pT m #[a,de f,7,λd g e hk k l=>j c f d g e hk k l] 7)
abbrev sK(P:DD)(w:Q1):=PySem.strKind P w
inductive cG(P:DD)(w:Q1)(h:Te)(a:ke)(led:Bool)(D:↑5):6|mk:∀(L:↑(Str×Tok)) (es:Array (Int×i7)) (ep:Nat) (t:SetTable),h.get? a\{cls:=.type "set",dict:=ef,data:=.set es ep t}->es.toList=L.map (λp=>((sK P w).hash p.1,Rt p.1 p.2))->(L.map (·.1)).Perm D->D.Nodup->t.fits es.size=c4->es.size<WS->t.led=led->(es.size=0\/t.plain=df)->cG P w h a led D
def cG.at(c:cG prog w h a b D)(k:∀o,h.get? a\o->h'.get? a\o):cG prog w h' a b D :=let ⟨L,d,e,t,f,g,i,j,l,m,n,p⟩:=c;⟨L,d,e,t,k _ f,g,i,j,l,m,n,p⟩
def t_{L:↑(5 ×Tok)}:ElemsOf (sK prog w) (L.map λp=>((sK prog w).hash p.1,Rt p.1 p.2)):=by intro e a;let(p,_,rfl):=mn.mp a;show#[#[p.1,by simp[PySem.strKind,ÿ],9],9]
def nR(x y)(t):(sK prog w).is x (.str y t)=eL (x=y):=by rw[so];simp[PySem.strKind,ÿ];show#[λh=>h.symm,λh=>h.symm]
def vZ(t)(a)(h)(x):(layNew t a h x).2.1.led=t.led:=by
 unfold layNew;split
 .change(ţ _ _).led=t.led;unfold ţ;split<;>rfl
 rfl
def rN(t)(d)(n):(î t d n).2.1.led=t.led:=by
 unfold î;split
 .rename_i e b a;let:e.led=t.led:=by unfold Ι τ at a;cases c:ű _ _ with|none=>rw[c]at a;ext a|some o=>rw[c]at a;ext a;rfl
  dsimp only
  split
  .lia
  rfl
 rfl
def nU(t)(d)(n)(h:t.plain=df):(î t d n).2.1.plain=df:=by
 unfold î;split
 .rename_i e b a;let:e.plain=t.plain:=by unfold Ι τ at a;cases c:ű _ _ with|none=>rw[c]at a;ext a|some o=>rw[c]at a;ext a;rfl
  dsimp only
  split
  .rw[this];show h
  rfl
 rfl
def jI(h:l.Perm (L.map λp=>((sK prog w).hash p.1,Rt p.1 p.2))):∃a:↑(5 ×Tok),l=a.map (λp=>((sK prog w).hash p.1,Rt p.1 p.2))/\a.Perm L:=by
 let all:∀e∈l,∃p:5 ×Tok,e=((sK prog w).hash p.1,Rt p.1 p.2):=λe b=>by let(p,_,rfl):=mn.mp (h.mem_iff.mp b);show#[p,9]
 let d:∀l:↑(Int×i7),(∀e∈l,∃p:5 ×Tok,e=((sK prog w).hash p.1,Rt p.1 p.2))->∃a:↑(5 ×Tok),l=a.map (λp=>((sK prog w).hash p.1,Rt p.1 p.2)):=by intro l;induction l with|nil=>intro _;show#[[],9]|cons e l f=>intro c;let(p,rfl):=c e ki;let(a,rfl):=f λe b=>c e (ib _ b);show#[p::a,9]
 let(a,rfl):=d l all;show#[a,9,?_];let g:(a.map λp=>((sK prog w).hash p.1,Rt p.1 p.2)).map (λe=>match e.2 with|.str x t=>(x,t)|_=>(B',0))=a:=by rw[k9];show aaD _
 let i:(L.map λp=>((sK prog w).hash p.1,Rt p.1 p.2)).map (λe=>match e.2 with|.str x t=>(x,t)|_=>(B',0))=L:=by rw[k9];show aaD _
 let:=h.map (λe=>match e.2 with|.str x t=>(x,t)|_=>(B',0));rw[g,i]at this;lia
def nV(hS:cG prog w s.heap a n D)(Uw:-D+1<WS) (h:∀i,Hf a s.heap i->cG prog w i a n (if x∈D then D else D++[x])->Q (eL (x∉D)) {s with heap:=i }) :gi (i5 prog w) A (setAddHashed a (.str x o) ((sK prog w).hash x)) Q E s:=by
 let(L,m,C,t,ho,B,T,O9,hf,hb,Ry,Qr):=hS;let U6:(sK prog w).is x (.str x o)=4:=by rw[nR];simp
 let G:ElemsOf (sK prog w) m.toList:=by rw[B];show t_
 let H:m.size=-D:=by rw[<-sP,B,f7,<-f7 (f:=Prod.fst) (as:=L),T.length_eq]
 unfold setAddHashed setAddHashedIn;show K' (cb (Pq ho 9 hf ?_))
 dsimp only
 rw[byScan_of (knd:=sK prog w) rfl hb G];simp only[↓reduceIte];unfold setAddByScan;show cb ?_;show cb (Xq ?_);show cb (wpAny_setScan_of (knd:=sK prog w) U6 ho 9 hf G ?_);let k:(∃e∈m.toList,(sK prog w).is x e.2=4)↔x∈D:=by
  rw[B,<-T.mem_iff,mn];constructor
  .rintro⟨e,he,hi⟩;let(p,l,rfl):=mn.mp he;rw[nR,decide_eq_true_eq]at hi;show#[p,l,hi.symm]
  rintro⟨p,l,e⟩;show#[_,mn.mpr #[p,l,9],by rw[nR];simp[e]]
 cases hr:aae (λe=>(sK prog w).is x e.2) m.toList with
 |some j =>
  dsimp only
  let(hj,ab,_):=List.findIdx?_eq_some_iff_getElem.mp hr;let y:x∈D:=k.mp #[m.toList[j],Qx hj,ab];show eT (eT ?_);let e:s={s with heap:=s.heap}:=by ext s;rfl
  let:=h s.heap (Ő a s.heap) (by rw[if_pos y];show#[L,m,C,t,ho,B,T,O9,hf,hb,Ry,Qr]);rw[decide_eq_false (λz=>z y)]at this;rw[e];show this
 |none =>
  dsimp only
  let y:x∉D:=λy=>by let(e,he,l):=k.mpr y;let:=List.findIdx?_eq_none_iff.mp hr e he;rw[l]at this;show Bool.noConfusion this
  let ac:∀(b:Bool) {q:kj} {r:Unit->kj->6},r () q->gi (i5 prog w) A (match b with|true=>rule "set.scan.the-table-gave-way"|false=>pure ()) r E q :=λb q r u=>by cases b<;>first|show eT u|show Xq u
  let I:=layNew_perm t m ((sK prog w).hash x) (.str x o);let Y:=layNew_fits t m ((sK prog w).hash x) (.str x o);let So:=vZ t m ((sK prog w).hash x) (.str x o);generalize hL:layNew t m ((sK prog w).hash x) (.str x o)=NL at I Y So ⊢;let(c,J,SN,ar):=NL
  dsimp only at I Y So ⊢
  rw[ι,B,show [((sK prog w).hash x,Rt x o)]=[(x,o)].map (λp=>((sK prog w).hash p.1,Rt p.1 p.2)) from rfl,<-ro]at I;let(L1,e1,al):=jI I;let U':c.size=-D+1:=by rw[<-sP,I.length_eq,f7,nc,<-H,<-sP,B,f7];rfl
  let VQ:c.size<WS:=7
  let Uy:(L1.map (·.1)).Perm (D++[x]):=(al.map _).trans (by rw[ro];show T.append_right _);let N:(D++[x]).Nodup:=by
   rw[C0]
   grind
  show cb (ac _ ?_);let TV:∀i,Hf a s.heap i->cG prog w i a n (D++[x])->Q 4 {s with heap:=i }:=λi sb hs=>by let:=h i sb (by rw[if_neg y];show hs);rw[decide_eq_true y]at this;show this
  let v:∀(g:Bool->Sem Unit),(∀(b:Bool) (q:kj) (r:Unit->kj->6),r () q->gi (i5 prog w) A (g b) r E q)->∀(R:Option Bool->kj->6),(∀i,Hf a s.heap i->cG prog w i a n (D++[x])->R (b6 4) {s with heap:=i })->∀d:SetTable,d.fits c.size=4->d.led=n->d.plain=df->gi (i5 prog w) A (do
    storeSet a c d
    if (!SN&&d.tooFull)=4 then do
      g (î d c (V5 c.size)).2.2
      storeSet a (î d c (V5 c.size)).1 (î d c (V5 c.size)).2.1
      pure (b6 4)
     else pure (b6 4)) R E s:=by
   intro g hg R hR d am RN TX;show cb (aai ho 9 ?_ (aam VQ));let VR:(s.heap.update a (é c d)).get? a\{cls:=.type "set",dict:=ef,data:=.set c (C+1) d}:=by let:=sx (é c d) ho 9;show this
   let WI:=KD s.heap a (é c d);split
   .let l:=relayAll_perm d c (V5 c.size);let Rz:=relayAll_fits d c (V5 c.size);let Uz:=rN d c (V5 c.size);let Zz:=nU d c (V5 c.size) TX;generalize ZA:î d c (V5 c.size)=Rl at l Rz Uz Zz ⊢;let(O,t3,an):=Rl
    dsimp only at l Rz Uz Zz ⊢
    rw[e1]at l;let(L2,e2,ap):=jI l;let a0:O.size=c.size:=by rw[<-sP,l.length_eq,<-e1,sP]
    show cb (hg _ _ _ ?_);show cb (aai VR 9 ?_ (aam 7));let UA:((s.heap.update a (é c d)).update a (é O t3)).get? a\{cls:=.type "set",dict:=ef,data:=.set O (C+1+1) t3}:=sx (é O t3) VR 9;show eT (hR _ (WI.trans (KD _ a _)) #[L2,O,_,t3,UA,e2,(ap.map _).trans Uy,N,Rz,7,Uz.trans RN,.inr Zz])
   show eT (hR _ WI #[L1,c,_,d,VR,e1,Uy,N,am,VQ,RN,.inr TX])
  split
  .rename_i l;show cb ?_;rw[hashByValue_scannable 0x8 rfl];show eT ?_;let C:(if plainKind (Rt x o)=4 then J else {J with plain:=df})={J with plain:=df}:=9;rw[C];show v _ ?_ _ ?_ {J with plain:=df} (SetTable.fits_plain_off Y) (So.trans Ry) 9
   .intro b q r u;cases b<;>first|show eT u|show Xq u
   intro i SO QE;dsimp only;show eT (TV i SO QE)
  rename_i l;show cb (eT ?_);simp only[↓reduceIte];show v _ ?_ _ ?_ J Y (So.trans Ry) (Bool.eq_false_iff.mpr l)
  .intro b q r u;cases b<;>first|show eT u|show Xq u
  intro i SO QE;dsimp only;show eT (TV i SO QE)
def fV(D:↑5)(x:5):↑5:=if x∈D then D else D++[x]
def bg(l:↑5):↑5:=l.foldl fV []
def v3(h:D.Nodup):((fV D x).Nodup):=by
 unfold fV;split
 .show h
 rw[C0];show#[h,by simp,λy a z b=>by grind]
theorem gG:∀(l D:↑5),D.Nodup->(l.foldl fV D).Nodup/\(∀x,x∈l.foldl fV D↔x∈D\/x∈l)/\-l.foldl fV D<=-D+ -l
 |[],D,h=>#[h,by simp,by simp]|y::l,D,h=>by
  let(a,b,d):=gG l _ (v3 h);let c:∀x,x∈fV D y↔x∈D\/x=y:=λx=>by
   unfold fV;split
   .simp_all
   simp
  let hl:-fV D y<=-D+1:=by
   unfold fV;split
   .lia
   simp
  show#[a,λx=>?_,by grind];rw[ķ,b,c,gb,or_assoc]
def rO(l):((bg l).Nodup):=(gG l [] ñ).1
def gH(l)(x):x∈bg l↔x∈l:=by rw[bg,(gG l [] ñ).2.1];simp
def v5(l):-bg l<=-l:=by let:=(gG l [] ñ).2.2;simpa[bg] using this
def ua(l)(x):bg (l++[x])=fV (bg l) x:=by unfold bg;simp
def pV(a) (h:Q₁ (.ref ↥s) {s with heap:=s.heap.push {cls:=.type "set",dict:=ef,data:=.set #v[] 0 (.fresh 0 0 (!w.params.followText "set-order"))}}) :Ya (i5 prog w) A (.call (.builtin "set.__new__") #[[.type "set",a],[]]) (wants Q₁ E) s:=by
 show Ŝ ?_;show cb (TH (F.newCall_set_1 a) (eT #[Y6 F.plain_set_new _,RS F.entry_set_new ?_]));unfold Wg.«set.__new__» ϣ;let b:=ľ
 dsimp only
 wp_walk
 show ZV (eT ?_);show cb (ϗ (eT ?_));show eT h
def nW(c:h.get? a\{cls:=.type "set",dict:=ef,data:=.set #v[] 0 (.fresh 0 0 b)}):cG prog w h a b [] :=#[[],#v[],0,_,c,9,.nil,ñ,9,by decide,9,.inl 9]
def sub_tuple_set:Ï (.type "tuple") (.type "set")=pure df:=by rw[ũ];rfl
def sub_tuple_frozenset:Ï (.type "tuple") (.type "frozenset")=pure df:=by rw[ũ];rfl
section
variable{prog:DD}{w:Q1}{A:Y3}{R:Result->kj->6}{I:ke}{fp wr:List ke}{G:Array Ų->Array Ų->6}{n:8}{P:8->i7->6}{St:8->kj->6}
def Bt(W:Ϻ prog w A.in1 I fp wr G n P St)(x:S∉fp){SP:8->Te->6}{h0:Te}(y:∀b∈S::wr,h0.get? b=ef) (B:∀i h c,SP i h->(∀o,h.get? S\o->c.get? S\o)->SP i c) (H:∀i v s Q E,i<n->P i v->SP i s.heap->(∀b o,h0.get? b\o->s.heap.get? b\o)->(∀b c l,s.toks<=l->Hf S s.heap c->SP (i+1) c->Q b {s with heap:=c,toks:=l})->gi (i5 prog w) A.in1 (ϸ S v) Q E s) :∀k i s,n - i=k->i<=n->St i s->SP i s.heap->(∀b o,h0.get? b\o->s.heap.get? b\o) -> (∀a,Moved (S::wr) G s a->SP n a.heap->R (.ok (.ret .none)) a) -> Ya (i5 prog w) A (.builtin "set.update.loop" ⟨[.ref S,.ref I],[]⟩) R s:=by
 let f:S∉wr:=λh=>x (W.sub _ h);let m:∀b∈wr,b∈S::wr:=λb g=>ib _ g;intro k;induction k with
 |zero =>
  intro i s hk J p q j r;let L:i=n:=7
  subst L;show RS Ñ ?_;rw[Zm WU _];change gi _ A.in1 (YW (.ref I) >>= _) _ _ s;show cb (W.done s _ _ p λa d=>?_);change gi _ A.in1 (ret tp) _ _ a;show eT (r a (d.mono m) (B _ _ _ q λ_ ho=>d.heap S _ f ho))
 |succ k N =>
  intro i s hk J p q j r;let t:i<n:=7
  show RS Ñ ?_;rw[Zm WU _];change gi _ A.in1 (YW (.ref I) >>= _) _ _ s;show cb (W.item i s _ _ t p λv a O T d=>?_);let C:∀b o,h0.get? b\o->a.heap.get? b\o:=λb o e=>d.heap b o (λz=>by rw[y b (m b z)]at e;ext e) (j b o e);change gi _ A.in1 (VE [v] (ϸ S v) >>= _) _ _ a;show cb (K' (H i v a _ _ t O (B _ _ _ q λ_ ho=>d.heap S _ f ho) C λ_ c l D u Y=>?_));show eT #[Y6 WU _,N (i+1) _ 7 t (W.frame _ a _ _ T D λb g o e=>?_) Y (λb o e=>?_) λQ4 ZD ZE=>?_]
  .rw[u.2 b (λh:b=S=>x (by rw[<-h];show g))];show e
  .change c.get? b\o;rw[u.2 b (λh:b=S=>by rw[h,y S ki]at e;ext e)];show C b o e
  show r Q4 (Ĥ W.gtrans ((d.mono m).then_heap D λb o g e=>?_) ZD) ZE;rw[u.2 b (λh:b=S=>g (by rw[h];show ki))];show e
end
abbrev bM(w:Q1):Bool:=!w.params.followText "set-order"
abbrev rP(a:Bool):Obj:={cls:=.type "set",dict:=ef,data:=.set #v[] 0 (.fresh 0 0 a)}
def km{j:↑i7}{SP:8->Te->6} (x:s.TypeIs (.ref l) T) (ac:Ï (.type T) (.type "set")=pure df) (al:Ï (.type T) (.type "frozenset")=pure df) (Pp:(Ug T==Ug "dict")=df) (QT:∀h,h.get? ↥s\rP (bM w)->SP 0 h) (Qo:∀i h a,SP i h->(∀o,h.get? ↥s\o->a.get? ↥s\o)->SP i a) (R9:∀B i v d Q E,B.units<=A.units+3->j[i]?\v->SP i d.heap->(∀b o,s.heap.get? b\o->d.heap.get? b\o)->(∀b a f,d.toks<=f->Hf ↥s d.heap a->SP (i+1) a->Q b {d with heap:=a,toks:=f})->gi (i5 prog w) B (ϸ ↥s v) Q E d) (y:∀d B p,B.handled=A.handled->(∀b o,s.heap.get? b\o->d.heap.get? b\o)->↥s<↥d ->
   (∀I C D G P St k,Ϻ prog w B.in1 I C D G ⇑j P St->(∀g t,G g t->t=g)->↥s∉C->(∀b∈D,↥s<b)->(∀i v,P i v->j[i]?\v)->St 0 {d with heap:=k}->(∀b o,d.heap.get? b\o->k.get? b\o)->p (.ref I) {d with heap:=k})->gi (i5 prog w) B (Č (.ref l)) p E d)
  (h:∀a f,SP ⇑j a->(∀b o,b<↥s->s.heap.get? b\o->a.get? b\o)->Q (.ref ↥s) {s with heap:=a,toks:=f}) :
  gi (i5 prog w) A (WH (.type "set") [.ref l]) Q E s:=by
 let(c,tl,am):=F.called_set.mro;let UC:=F.called_set.made;let R8:=F.called_set.sub;show ŧ (Ŝ ?_);change gi _ _ (callAny (.type "set") _) _ _ _;show eT #[Ć _ (by decide +kernel),RS F.entry_type_call ?_];rw[Around.under_plain (weight_type_call_type "set" [.ref l] []) rfl];let k:=F.called_set.notType;let h2:=F.called_set.canCreate;let ap:=F.typeCall_set_1 (.ref l)
 repeat (any_goals (first|assumption|wp_step))
 show Zy (pV (.ref l) (E:=E) (Q₁:=λm s₁=>m=.ref ↥s/\s₁={s with heap:=s.heap.push (rP (bM w))}) ⟨9,9⟩) λr s₁ H=>?_;cases r with
 |error e=>show H|ok fl =>
  cases fl with
  |ret m =>
   let(rfl,rfl):=H;let hS:(s.heap.push (rP (bM w))).get? ↥s\rP (bM w):=gj _ 9;let hT:È {s with heap:=s.heap.push (rP (bM w))} (.ref ↥s) "set":=#[_,hS,9]
   let ar:=F.called_set.init.lookup;let as:=F.called_set.init.bind (.ref ↥s)
   repeat (any_goals (first|assumption|wp_step))
   show Zy (Đ (R:=wants (λr s₂=>r=.none/\∃a f,s₂={s with heap:=a,toks:=f} /\
     SP ⇑j a /\
     (∀b o,b<↥s->s.heap.get? b\o->a.get? b\o)) E) F.called_set.init.plain F.entry_set_init (check_set_init_1 hT ?_)) λr₂ s₂ J=>?_
   .let(ol,WK,Ss):=x;let(an,WM,WN,Va):=ol;simp only at Ss;subst Ss;let ZG:(s.heap.push (rP (bM w))).get? l\{cls:=.type T,dict:=WM,data:=WN,slots:=Va}:=et _ WK;let a0:È {s with heap:=s.heap.push (rP (bM w))} (.ref l) T:=#[_,ZG,9]
    unfold Wg.«set.__init__» noKeywords Ϡ;generalize L:Č=PI
    wp_walk
    subst L;show y {s with heap:=s.heap.push (rP (bM w))} _ _ 9 (λb o e=>et _ e) (by rw[Xy];show Wv _) λI C D G P St k W hG hf n ZH OQ hk=>?_;show cb (Ŧ ?_);show Bt W hf (SP:=SP) (h0:=s.heap) (λb hb=>?_) Qo (λi v s2 p E' _ hv=>R9 _ i v s2 p E' ?_ (ZH i v hv)) (-j - 0) 0 _ 7 (mh _) OQ (QT _ (hk _ _ hS)) (λb o e=>hk _ _ (et _ e)) ?_
    .let N:↥s<=b:=by
      obtain z|z:=gb.mp hb
      .show ë z.symm
      show Ue (n b z)
     cases q:s.heap.get? b with
     |none=>rfl
     |some o=>show absurd (i8 q) (Nat.not_lt_of_le N)
    .show gs _
    intro s' u O;let(a,t,d',Y,Y7):=s';let eg:t=s.gens:=hG _ _ u.gens;let ed:d'=s.drawn:=u.drawn;let eo:Y7=s.os:=u.os;subst eg;subst ed;subst eo;change gi _ _ _ _ _ _;show eT ?_;change gi _ _ (ret tp) _ _ _;show eT #[9,a,Y,9,O,λb o QQ e=>?_];show u.heap b o (λz=>by
     obtain z|z:=gb.mp z
     .rw[z]at QQ;show y0 _ QQ
     show absurd (n b z) (ϩ QQ)) (hk _ _ (et _ e))
   cases r₂ with
   |error e=>show J
   |ok ab =>
    cases ab with
    |ret r =>
     let(rfl,a,f,rfl,O,Qf):=J
     repeat (any_goals (first|assumption|wp_step))
     show h _ _ O Qf
    |_=>show J.elim
  |_=>show H.elim
theorem ya:∀{a}{b},Ì a b->∀(i:8) v,a[i]?\v->∃x t,b[i]?\x/\v=.str x t|_,_,.nil,i,v,h=>by simp at h|_,_,.cons x t h,0,v,e=>by simp at e;show#[x,t,9,e.symm]|_,_,.cons x t h,i+1,v,e=>by show ya h i v e
theorem nX:∀{a}{b},Ì a b->-a=-b|_,_,.nil=>9|_,_,.cons x t h=>by simp[nX h]
def yb(a:n≠S)(b:n≠l):n∉[S,l]:=by simp[a,b]
def rQ{c:↑i7}{SP:8->Te->6}(q:A.handled=ef)(hl:s.heap.IsList l c.toArray\/s.heap.IsTuple l c.toArray) (t:∀h,h.get? ↥s\rP (bM w)->SP 0 h) (u:∀i h d,SP i h->(∀o,h.get? ↥s\o->d.get? ↥s\o)->SP i d) (x:∀B i v a Q E,B.units<=A.units+3->c[i]?\v->SP i a.heap->(∀b o,s.heap.get? b\o->a.heap.get? b\o)->(∀b d j,a.toks<=j->Hf ↥s a.heap d->SP (i+1) d->Q b {a with heap:=d,toks:=j})->gi (i5 prog w) B (ϸ ↥s v) Q E a) (h:∀d j,SP ⇑c d->(∀b o,b<↥s->s.heap.get? b\o->d.get? b\o)->Q (.ref ↥s) {s with heap:=d,toks:=j}) :gi (i5 prog w) A (WH (.type "set") [.ref l]) Q E s:=by
 let y:c.toArray.size=-c:=9;obtain hl|hl:=hl
 .let g:l<↥s:=let ⟨o,ho,_⟩:=hl;i8 ho;show km hl.typeIs F.sub_list_set F.sub_list_frozenset 7 t u x (λa B z k hk f m=>?_) h;let So:a.heap.IsList l c.toArray:=let ⟨o,ho,r⟩:=hl;⟨o,hk _ _ ho,r⟩;let W:=(aax (prog:=prog) (w:=w) (A:=B.in1) (by simp[k,q]) ↥a l (ku (ġ g f)) c.toArray).toS;rw[y]at W;show Ļ So (m _ _ _ _ _ _ _ W (λ_ _ e=>e) (yb (ku f) (Sv g)) (λb n=>by rw[mN.mp n];show f) (λi v p=>by exists p) ⟨⟨_,gj _ 9,9,9⟩,So.push _⟩ λb o e=>et _ e)
 let g:l<↥s:=let ⟨o,ho,_⟩:=hl;i8 ho;show km hl.typeIs sub_tuple_set sub_tuple_frozenset 7 t u x (λa B z k hk f m=>?_) h;let So:a.heap.IsTuple l c.toArray:=let ⟨o,ho,r⟩:=hl;⟨o,hk _ _ ho,r⟩;let W:=(Walks.tuple (prog:=prog) (w:=w) (A:=B.in1) (by simp[k,q]) ↥a l (ku (ġ g f)) c.toArray).toS;rw[y]at W;show Za So (m _ _ _ _ _ _ _ W (λ_ _ e=>e) (yb (ku f) (Sv g)) (λb n=>by rw[mN.mp n];show f) (λi v p=>by exists p) ⟨⟨_,gj _ 9,9,9⟩,let ⟨o,ho,r⟩:=So;⟨o,et _ ho,r⟩⟩ λb o e=>et _ e)
def eQ(m:A.handled=ef)(hl:s.heap.IsList l f.toArray\/s.heap.IsTuple l f.toArray)(g:Ì f c)(C:-c+1<WS) (h:∀a d,cG prog w a ↥s (bM w) (bg c)->(∀b o,b<↥s->s.heap.get? b\o->a.get? b\o)->Q (.ref ↥s) {s with heap:=a,toks:=d}) :gi (i5 prog w) A (WH (.type "set") [.ref l]) Q E s:=by
 show rQ (SP:=λi h=>cG prog w h ↥s (bM w) (bg (c.take i))) m hl (λh e=>nW e) (λi h a x k=>x.at k) (λB i v j Q E _ n p _ q=>?_) λa d x k=>h a d (by rwa [nX g,ĩ]at x) k;let(x,t,r,rfl):=ya g i v n;unfold ϸ;show K' (cb ((sK prog w).pyHash (k:=x) (by rw[nR];simp) ?_));let u:-bg (c.take i)+1<WS:=by let:=v5 (c.take i);rw[R_]at this;lia
 show nV (s:={j with toks:=j.toks+1}) p u λa y z=>q _ a _ (ZP _) y ?_;rw[List.take_add_one,r];change cG prog w a _ _ (bg (c.take i++[x]));rw[ua];show z
def rR(b:n≠0)(h:∀i<n,Q i {s with drawn:=s.drawn.bump a}):gi M A (choose a n) Q E s:=λΓ p c=>by show#[b,h _ (œ _ (ē b))]
theorem jJ:∀{a:↑α}{i:8}{x:α},a[i]?\x->(x::a.eraseIdx i).Perm a|[],i,x,h=>by simp at h|y::b,0,x,h=>by simp at h;subst h;rfl|y::b,i+1,x,h=>by rw[List.getElem?_cons_succ]at h;show(List.Perm.swap y x _).trans ((jJ h).cons y)
theorem ju:∀(n:8) (a:↑α) s Q,-a=n->(∀b d,b.Perm a->Q b {s with drawn:=d})->gi M A (drawOrder n a) Q E s|0,a,s,Q,c,h=>by let:=š.mp c;subst this;show eT (h [] _ (.refl _))|n+1,[],s,Q,c,h=>by simp at c|n+1,y::b,s,Q,c,h=>by show cb (rR 7 λi g=>?_);let e:=Sk g;let f:=jJ e;generalize (y::b)[i]'g=x at e f;erw[e];show cb (ju n _ _ _ (by let:=f.length_eq;left) λzs d j=>?_);show eT (h _ d ((j.cons x).trans f))
theorem mf(next):∀(fuel k:8) (left:↑α) a,-left=fuel->(ŀ next fuel k left a).toList.Perm (a.toList++left)|0,k,left,a,hl=>by let:=š.mp hl;subst this;simp[ŀ]|fuel+1,k,left,a,hl=>by unfold ŀ;let c:next k % -left< -left:=œ _ 7;let e:=Sk c;let b:=jJ e;erw[e];show(mf next fuel _ _ _ (by let:=b.length_eq;left)).trans ?_;rw[ι,RA];show(b.append_left _)
def ff(next)(xs:Array α):(Ψ next xs).toList.Perm xs.toList:=by
 let:=mf next xs.size 0 xs.toList #v[] 7
 assumption
namespace SI
def ub:Μ.lookup (ϕ ['r','o','t','a','r','e','t','i','_','t','e','s'].reverse)\Manifest.sig_set_iterator:=by rfl
def slot_next:ϻ "set_iterator" "__next__" "set_iterator.__next__" :=
 .of (owner:="set_iterator") (n:="__next__") (by rfl) (by rfl) (by decide +kernel) (by rfl)
  (by first|show .inl (by decide +kernel)|show .inr (by decide +kernel)) (by rfl)
def entry_next:Ď Ϙ "set_iterator.__next__"\Wg.«set_iterator.__next__»:=ō (by rfl)
def args_next(a):đ "set_iterator.__next__" ⟨[a],[]⟩:=by unfold đ;rw[æ  (n:=['_','_','t','x','e','n','_','_'])  (by kernel_rfl) ub];rfl
def qr:ϻ "set_iterator" "__iter__" "set_iterator.__iter__" :=
 .of (owner:="set_iterator") (n:="__iter__") (by rfl) (by decide +kernel) (by decide +kernel) (by rfl)
  (by first|show .inl (by decide +kernel)|show .inr (by decide +kernel)) (by rfl)
def zG(a):đ "set_iterator.__iter__" ⟨[a],[]⟩:=by unfold đ;rw[æ  (n:=['_','_','r','e','t','i','_','_'])  (by kernel_rfl) ub];rfl
def v7:Ď Ϙ "set_iterator.__iter__"\Wg.«dict_keyiterator.__iter__» :=č (id':="dict_keyiterator.__iter__") (by kernel_rfl) (by rfl) (by decide +kernel) (by rfl)
def nY:Ď Ϙ "set.__iter__"\Wg.«frozenset.__iter__» :=č (id':="frozenset.__iter__") (by kernel_rfl) 9 (by decide +kernel) (by rfl)
end SI
section
variable{prog:DD}{w:Q1}{A:Y3}{E:i7->kj->6}{s:kj}
def jK(h:Te)(I:ke)(first:i7)(i:8)(S:ke)(n a:8):6:=∃o,h.get? I\o/\o.cls=.type "set_iterator"/\o.data=.fields #v[first,y4 i,.ref S,y4 n,y4 a]
def jK.typeIs(x:jK s.heap I f i S n b):s.TypeIs (.ref I) "set_iterator":=let ⟨o,ho,a,_⟩:=x;⟨o,ho,a⟩
def E8(a:jK s.heap I f i S n b)(h:Q (.ref I) s):gi (i5 prog w) A (Č (.ref I)) Q E s:=by show ĺ a.typeIs SI.qr (wh SI.qr a.typeIs SI.v7 ?_ (SI.zG _));show eT #[_,9,_,_,a.typeIs,SI.slot_next.lookup,h]
def jL(h:Q (M.w.params.followText "set-order") s):gi M A setsByText Q E s:=by show cb (ZV (eT h))
end
end L2
namespace L2
open PySem PySem.Spec PyProof.Rows
section
variable{prog:DD}{w:Q1}{A:Y3}{E:i7->kj->6}{s:kj}
abbrev jm(a:Array (Int×i7))(b:8)(t:SetTable):Obj:={cls:=.type "set",dict:=ef,data:=.set a b t}
def uc{I:ke}{B}{Q:Option i7->kj->6}{d}{k:i7->Sem (Option i7)}(f:B.handled=ef) (g:∀c,(∀b o,d.get? b\o->c.get? b\o)->∀e,È {s with heap:=c } e "StopIteration"->E e {s with heap:=c }) {h} :gi (i5 prog w) B (newExc (.type "StopIteration") [] >>= λe=>(Ϛ e:Sem Fin)) h E {s with heap:=d}:=by show cb ?_;show cb (m:=ū _ _) (TH (a:=tp) (by rfl) ?_);show ti ?_ (by size_fits);show cb (Β ?_);rw[f];show cb (eT (ϖ ?_));show g _ (λb o e=>et _ (et _ e)) _ ⟨_,gj _ 9,9⟩
def yc{I S}{first}{i h}{j}{t}(c:jK s.heap I first i S j.size h)(ho:s.heap.get? S\jm j h t)(m:t.fits j.size=4) (n:∀k l ,(∀v a,Q (b6 v) a->k (.done (.ret v)) a)->(∀e a,a.TypeIs e "StopIteration"->Q ef a->l e a) ->
   gi (i5 prog w) A.in1 (if let .int f _:=first then(do
     match <-setNext S f.toNat i h with
     |some (x,next) =>
      ċ (.ref I) 0 (y4 next)
      ċ (.ref I) 1 (y4 ((i:Int)+1))
      ret x
     |none=>ċ (.ref I) 2 .none;Ϛ (<-newExc (.type "StopIteration") []))
    else(do
     let b6 b <-seqItems? first|unsupported "internal:set_iterator"
     match b[i]? with
     |some (.int d _) =>
      let x <-ν S d.toNat h
      ċ (.ref I) 1 (y4 ((i:Int)+1))
      ret x
     |some _=>unsupported "internal:set_iterator"|none=>ċ (.ref I) 0 (y4 0);ċ (.ref I) 2 .none;Ϛ (<-newExc (.type "StopIteration") []))) k l s):gi (i5 prog w) A (YW (.ref I)) Q E s:=by
 let(o,p,y,u):=id c;show cb (À (Pr  c.typeIs SI.slot_next
  (wh SI.slot_next c.typeIs SI.entry_next ?_ (SI.args_next _))))
 show cb (TH  9 ?_);show cb (wpAny_fieldsOf p u ?_);show cb (Ě ho 9 m ?_);rw[if_neg ⋯];show mu (n (λg a=>∃r,g=.done (.ret r)/\Q (b6 r) a) (λe a=>a.TypeIs e _/\Q ef a) (λv a q=>#[v,9,q]) λe a z q=>#[z,q]) ?_ ?_
 .rintro g a ⟨r,rfl,q⟩;show#[r,9,eT q]
 rintro e a ⟨z,q⟩;show cb (Ve   z Ū ?_);show eT q
end
def yd{I S}{f f':i7}{i n a:8}{h:Te}{o}(c:h.get? I\o)(d:o.cls=.type "set_iterator")(b:o.data=.fields #v[f,y4 i,.ref S,y4 n,y4 a]):jK (h.update I (Õ (·.setIfInBounds 1 (y4 ((i:Int)+1))))) I f (i+1) S n a :=#[_,sx _ c (U9 (La b _)),(Ze ..).trans d,by rw[La b];simp]
def ud{h:Te}(c:h.get? I\o)(d:o.cls=.type "set_iterator")(b:o.data=.fields #v[f,y4 i,.ref S,y4 n,y4 e]):∃a,(h.update I (Õ (·.setIfInBounds 0 f'))).get? I\a/\a.cls=.type "set_iterator"/\a.data=.fields #v[f',y4 i,.ref S,y4 n,y4 e] :=#[_,sx _ c (U9 (La b _)),(Ze ..).trans d,by rw[La b];simp]
def Bu{I S}{slot i f:8}{g}{t}{Q}(c:jK s.heap I (y4 slot) i S g.size f)(ho:s.heap.get? S\jm g f t)(u:t.fits g.size=4)(T:A.handled=ef)
  {r} (v:∀B m (h:Option (i7× 8)->kj->6),h r s->gi (i5 prog w) B (setNext S slot i f) h m s)
  (y:∀x d,r\(x,d)->∀a,jK a I (y4 d) (i+1) S g.size f->Hf I s.heap a->Q (b6 x) {s with heap:=a })
  (z:r=ef->∀a,(∀b o,b≠I->s.heap.get? b\o->a.get? b\o)->Q ef {s with heap:=a }):gi (i5 prog w) A (YW (.ref I)) Q E s:=by
 show yc c ho u λh m C D=>?_;let(o,j,G,l):=id c;show cb (v _ _ _ ?_);cases r with|some p=>let(x,d):=p;show cb (O' j l 7 ?_);let(Y,n,H,q):=ud  j G l;show cb (O'  n q 7 ?_);show eT (C _ _ (y x d 9 _ (yd (f':=y4 d) n H q) ((KD ..).trans (KD ..))))|none=>show cb (O' j l 7 ?_);show uc (I:=I) (k:=λ_=>pure ef) (Q:=λ_ _=>True)  7 λa hk e J=>D e _ J (z 9 a λb L N O=>hk b L ?_);rw[YG _ _ _ _ N];show O
def IY{I S T}{i g}{a}{t}{d:↑8}{Q:Option i7->kj->6}(f:jK s.heap I (.ref T) i S a.size g)(ho:s.heap.get? S\jm a g t)(r:t.fits a.size=4)(hh:A.handled=ef) (y:s.heap.IsTuple T ((d.map λ(j:Nat)=>y4 j).toArray)) (z:∀j e,d[i]?\j->a[j]?\e->∀c,jK c I (.ref T) (i+1) S a.size g->Hf I s.heap c->Q (b6 e.2) {s with heap:=c }) (B:∀j∈d,j<a.size) (C:d[i]?=ef->∀c,(∀b o,b≠I->s.heap.get? b\o->c.get? b\o)->Q ef {s with heap:=c }):gi (i5 prog w) A (YW (.ref I)) Q E s:=by
 show yc f ho r λQ' E' D G=>?_;let(o,h,u,l):=id f;let(oT,m,H,nT,J):=y;change gi _ _ (seqItems? (.ref T) >>= _) _ _ s;show cb (Ċ m J ?_);cases e:d[i]? with
 |some j =>
  let n:(d.map λ(j:Nat)=>y4 j).toArray[i]?\y4 j:=by simp[e]
  erw[n];let v:j<a.size:=B j (va e);let q:a[j]?\a[j]'v:=7
  change gi _ _ (ν S (j:Int).toNat g >>= _) _ _ s;unfold ν;rw[Zj];show cb (cb (Pq ho 9 r ?_))
  dsimp only
  rw[if_neg ⋯];generalize a[j]'v=p at q;erw[q];show eT ?_;show cb (O' h l 7 ?_);show eT (D _ _ (z j p e q _ (yd (f':=.ref T) h u l) (KD ..)))
 |none =>
  let n:(d.map λ(j:Nat)=>y4 j).toArray[i]?=ef:=by simp at e ⊢;show e
  erw[n];show cb (O' h l 7 ?_);let(o',L,e2,N):=ud (f':=y4 0) h u l;show cb (O'  L N 7 ?_);show uc (I:=I) (k:=λ_=>pure ef) (Q:=λ_ _=>True) (s:=s) 7 λc hk O Y=>G O _ Y (C e c λb ob x eb=>hk b ob ?_);rw[YG _ _ _ _ x,YG _ _ _ _ x];show eb
def jK.at(x:jK h I f i S n a)(e:∀o,h.get? I\o->h'.get? I\o):jK h' I f i S n a:=let ⟨o,ho,r⟩:=x;⟨o,e _ ho,r⟩
def nZ(u:A.handled=ef)(p:S≠I)(y:t.fits es.size=4)(T)(q:T≠I)(d:↑i7)(l:-d=es.size) (first:8->i7) (c:Te->6) (m:∀h a,c h->(∀o,h.get? T\o->a.get? T\o)->c a) (n:∀s i E Q,i<=es.size->c s.heap->jK s.heap I (first i) i S es.size ep->s.heap.get? S\jm es ep t ->
   (∀x,d[i]?\x->∀a,jK a I (first (i+1)) (i+1) S es.size ep->Hf I s.heap a->Q (b6 x) {s with heap:=a }) ->
   (d[i]?=ef->∀a,(∀b o,b≠I->s.heap.get? b\o->a.get? b\o)->Q ef {s with heap:=a })->gi (i5 prog w) A (YW (.ref I)) Q E s) :
  Walks prog w A I [I,S,T] [I] es.size (λi v=>d[i]?\v) (λi h=>i<=es.size/\jK h I (first i) i S es.size ep/\h.get? S\jm es ep t/\c h) where
 sub:=λb g=>by left
 frame:=λi h a x hk=>#[x.1,x.2.1.at λo e=>hk I 7 o e,hk S 7 _ x.2.2.1,m h a x.2.2.2 λo e=>hk T 7 o e]
 item:=λi s Q E r x f=>by
  show n s i E Q x.1 x.2.2.2 x.2.1 x.2.2.1 (λv j a k hs=>?_) λz=>absurd z 7;show f v a s.toks j #[r,k,?_,m _ a x.2.2.2 λo e=>?_] λb o g e=>?_
  .rw[hs.2 S p];show x.2.2.1
  .rw[hs.2 T q];show e
  rw[hs.2 b λz=>g (by simp[z])];show e
 done:=λs Q E x f=>by show n s es.size E Q x.1 x.2.2.2 x.2.1 x.2.2.1 (λv j=>absurd j 7) λ_ a hk=>f a s.toks λb o g e=>hk b o (λz=>g (by simp[z])) e
 self:=λi s Q E x f=>E8 x.2.1 f
def rU(ho:s.heap.get? S\jm a c t)(b:t.fits a.size=4)(h:Q (!w.params.followText "set-order"&&(!t.plain&&eL (a.size>1))) s):gi (i5 prog w) A (setDrawn S) Q E s:=by show cb (Pq ho 9 b ?_);show cb (jL (eT h))
def rV(a:w.params.followText "set-order"=4)(ho:s.heap.get? S\jm b c t)(d:t.fits b.size=4) (h:Q ((Ψ (w.params.setOrder S c) b)[i]?.map λe=>(e.2,0)) s):gi (i5 prog w) A (setNext S 0 i c) Q E s:=by show cb (Pq ho 9 d ?_);change gi _ _ (if (w.params.followText _)=4 then _ else _) _ _ s;rw[if_pos a];rw[if_neg ⋯];show cb (cb (Pq ho 9 d ?_));change gi _ _ (if (w.params.followText _)=4 then _ else _) _ _ s;rw[if_pos a];show cb (ZV (eT ?_));show eT h
theorem ue(hw:w.params.followText "set-order"=df)(ho:s.heap.get? S=b6 (jm es ep t))(hf:t.fits es.size=4)(hl:t.led=4)(h1:es.size<=1)
    (h:Q (match es[YL t.place slot]?,t.place[YL t.place slot]? with|some (_,x),b6 j=>b6 (x,j+1)|_,_=>ef) s):gi (i5 prog w) A (setNext S slot i ep) Q E s:=by
  refine cb (Pq ho 9 hf ?_);show gi _ _ (if (w.params.followText _)=4 then _ else _) _ _ s;rw[if_neg (by rw[hw];simp)];show gi _ _ (if (!t.plain&&decide _)=4 then _ else _) _ _ s
  rw [if_neg (by have : decide (es.size > 1) = false := decide_eq_false (by lia)
                 rw[this];simp)]
  show gi _ _ ((if (!t.led&&!es.isEmpty)=4 then _ else _) >>= _) _ _ s;rw[if_neg (by rw[hl];simp)];exact cb (eT (eT h))
def uf(b:Array (Int×i7))(a)(i)(d:b.size<=1)(f:a.size=b.size)(c:i<=b.size):(match b[YL a (if i=0 then 0 else(a[0]?).getD 0+1)]?,a[YL a (if i=0 then 0 else(a[0]?).getD 0+1)]? with|some (_,x),b6 j=>b6 (x,j+1)|_,_=>ef)=b[i]?.map λe=>(e.2,(a[0]?).getD 0+1):=by
 let⟨b⟩:=b;let⟨a⟩:=a
 match b,a,d,f,c with
 |[],[],_,_,c=>simp|[e],[p],_,_,c =>
  match i,c with
  |0,_=>rfl
  |1,_ =>
   let:YL #v[p] (p+1)=1:=by simp[YL,aaq]
   simp[this]
  |n+2,h=>simp at h
 |[],_::_,_,h,_=>simp at h|[_],[],_,h,_=>simp at h|[_],_::_::_,_,h,_=>simp at h|_::_::_,_,h,_,_=>simp at h
def Bv(J:B.handled=ef)(hS:cG prog w s.heap S (bM w) D) (h:∀I fp n P St (d:↑5) m d',Walks prog w B I fp [I] n P St->d.Perm D->n=-d->(∀i v,P i v->∃x tk,d[i]?\x/\v=.str x tk)->↥s<=I->(∀b∈fp,b=S\/↥s<=b)->St 0 m ->
   (∀b o,s.heap.get? b\o->m.get? b\o)->Q (.ref I) {s with heap:=m,drawn:=d' }):gi (i5 prog w) A (Č (.ref S)) Q E s:=by
 let(L,a,N,t,ho,QH,Po,O9,c,y,Ry,Qr):=hS;let T:s.TypeIs (.ref S) "set":=#[_,ho,9]
 let SQ:S<↥s:=i8 ho;show ĺ T F.slot_set_iter (wh F.slot_set_iter T SI.nY ?_ (F.args_set_iter_1 _));unfold Wg.«frozenset.__iter__» Ϣ slotArgs;simp only[List.isEmpty_nil,aag,U3,↓reduceIte,bind_assoc,Ķ,bne_self_eq_false];unfold Ϧ ú;show cb (eT ?_)
 try dsimp only
 show cb (eT ?_);show cb (cb (Ě ho 9 c (eT ?_)));let ac:-D=a.size:=by rw[<-Po.length_eq,f7,<-sP,QH,f7]
 let f:∀(l:↑(Int×i7)),l.Perm a.toList->∃d:↑5,d.Perm D/\-d=a.size/\∀(i:8) (v:i7),(l.map (·.2))[i]?\v->∃(x:5) (tk:Tok),d[i]?\x/\v=Rt x tk:=by intro l hl;rw[QH]at hl;let(L',e',p'):=jI hl;show#[L'.map (·.1),(p'.map _).trans Po,by rw[((p'.map _).trans Po).length_eq,ac],λi v O=>?_];subst e';rw[k9,ri]at O;rw[ri];cases q:L'[i]? with|none=>rw[q]at O;simp at O|some p=>rw[q]at O;simp at O;show#[p.1,p.2,9,O.symm]
 show cb (rU ho c ?_);cases hw:w.params.followText "set-order" with
 |true =>
  simp only[aag,ϳ,U3,↓reduceIte];show cb (eT ?_);show cb (cb (Pq ho 9 c (eT ?_)));show cb (ti ?_);let C:S≠↥s:=ku SQ;let(d,Y,y2,y3):=f (Ψ (w.params.setOrder S N) a).toList (ff _ _);let W:=nZ (prog:=prog) (w:=w) (A:=B) (I:=↥s) (S:=S) (es:=a) (ep:=N) (t:=t) J C c S C ((Ψ (w.params.setOrder S N) a).toList.map (·.2)) (by rw[f7,(ff _ _).length_eq,sP]) (λ_=>y4 0) (λ_=>True) (λ_ _ _ _=>ttt)
   (λs i E Q _ _ g G k1 k2=>Bu (slot:=0) g G c J (λB E' Q' q=>rV hw G c q) (λx nx e m QI hs=>by rw[i0]at e;let(p,H,e2):=e;ext e2;show k1 _ (by rw[ri,Xe,H];rfl) m QI hs) (λe=>k2 (by rw[ri,Xe,Ø];rwa [Ø]at e)))
  show eT #[_,9,"set_iterator",_,#[_,gj _ 9,9],SI.slot_next.lookup,?_];show h _ _ _ _ _ d _ s.drawn W Y y2.symm y3 (gs _) (λb y=>by grind) ⟨mh _,⟨_,gj _ 9,9,9⟩,et _ ho,ttt⟩ λb o e=>et _ e
 |false =>
  by_cases ab:a.size>1
  .let Rv:t.plain=df:=by
    obtain z|z:=Qr
    .lia
    show z
   let H:(!df&&(!t.plain&&eL (a.size>1)))=4:=by rw[Rv,decide_eq_true ab];rfl
   rw[H];simp only[↓reduceIte];show cb (ju _ _ _ _ Y' λu d' hp=>?_);erw[newTuple];let TX:∀j∈u,j<a.size:=λj hj=>by let:=hp.mem_iff.mp hj;exists this
   let WR:-u=a.size:=by rw[hp.length_eq];simp
   show cb (ti ?_ (by
    change(u.map λ(j:Nat)=>y4 j).toArray.size<=_;let:a.size<4096:=y;erw[rS,f7,WR];let:(4096:8)<=ei:=7
    lia))
   let Su:(s.heap.push {cls:=.type "tuple",data:=.seq (u.map λ(j:Nat)=>y4 j).toArray}).get? S\jm a N t:=et _ ho;show cb (cb (Pq (s:={s with heap:=_,drawn:=d' }) Su 9 c (eT ?_)));show cb (ti ?_);let al:↥s≠(s.heap.push {cls:=.type "tuple",data:=.seq (u.map λ(j:Nat)=>y4 j).toArray}).objs.size:=by rw[Xy];show ku (Wv _)
   let C:S≠(s.heap.push {cls:=.type "tuple",data:=.seq (u.map λ(j:Nat)=>y4 j).toArray}).objs.size:=by rw[Xy];show ku (XE SQ)
   let Vb:(u.map λj=>(a[j]?).getD (0,tp)).Perm a.toList:=by
    show(hp.map _).trans ?_;let:(i9 a.size).map (λj=>(a[j]?).getD (0,tp))=a.toList:=by
     apply Wj
     .simp
     intro i h1 h2;simp at h1 ⊢;simp[h1]
    rw[this]
   let(d,Y,y2,y3):=f _ Vb;let W:=nZ (prog:=prog) (w:=w) (A:=B) (I:=(s.heap.push {cls:=.type "tuple",data:=.seq (u.map λ(j:Nat)=>y4 j).toArray}).objs.size) (S:=S) (es:=a) (ep:=N) (t:=t) J C c ↥s al ((u.map λj=>(a[j]?).getD (0,tp)).map (·.2)) (by simp[WR]) (λ_=>.ref ↥s) (λh=>h.IsTuple ↥s (u.map λ(j:Nat)=>y4 j).toArray) (λh m ⟨o,ho,r⟩ k=>#[o,k _ ho,r])
    (λs' i E Q _ RT g G k1 k2=>IY g G c J RT (λj e ej ee m QI hs=>k1 _ (by rw[ri,ri,ej];simp[ee]) m QI hs) TX (λe=>k2 (by rw[ri,ri,e];rfl)))
   show eT #[_,9,"set_iterator",_,#[_,gj _ 9,9],SI.slot_next.lookup,?_];show h _ _ _ _ _ d _ d' W Y y2.symm y3 (by rw[Xy];show ZP _) (λb y=>?_) ⟨mh _,⟨_,gj _ 9,9,9⟩,et _ Su,⟨_,et _ (gj _ 9),9,_,9⟩⟩ λb o e=>et _ (et _ e);rw[Xy]at y;erw[gb,Zn,or_false]at y;obtain rfl|rfl|rfl:=y
   .show .inr (ZP _)
   .show .inl 9
   show .inr (gs _)
  let H:(!df&&(!t.plain&&eL (a.size>1)))=df:=by rw[decide_eq_false ab];simp
  rw[H];simp only[U3,↓reduceIte];show cb (eT ?_);show cb (cb (Pq ho 9 c (eT ?_)));show cb (ti ?_);let C:S≠↥s:=ku SQ;let ZI:t.led=4:=by rw[Ry];change(!w.params.followText "set-order")=4;rw[hw];rfl
  let(d,Y,y2,y3):=f a.toList (.refl _);let Rp:t.place.size=a.size:=by unfold SetTable.fits at c;erw[dt,beq_iff_eq]at c;show c.1
  let W:=nZ (prog:=prog) (w:=w) (A:=B) (I:=↥s) (S:=S) (es:=a) (ep:=N) (t:=t) J C c S C (a.toList.map (·.2)) 7 (λi=>y4 ((if i=0 then 0 else(t.place[0]?).getD 0+1:8):8)) (λ_=>True) (λ_ _ _ _=>ttt)
   (λs' i E Q hi _ g G k1 k2=>Bu (slot:=if i=0 then 0 else(t.place[0]?).getD 0+1) g G c J (λB E' Q' q=>ue hw G c ZI 7 q) (λx nx e m QI hs=>by
    rw[uf a t.place i ⋯ Rp hi,i0]at e;let(p,H,e2):=e;ext e2;show k1 _ (by rw[ri,Xe,H];rfl) m ?_ hs;rw[if_neg (Nat.succ_ne_zero i)];show QI) (λe=>by
    rw[uf a t.place i ⋯ Rp hi,Ø]at e;show k2 (by rw[ri,Xe,e];rfl)))
  show eT #[_,9,"set_iterator",_,#[_,gj _ 9,9],SI.slot_next.lookup,?_];show h _ _ _ _ _ d _ s.drawn W Y y2.symm y3 (gs _) (λb y=>by grind) ⟨mh _,⟨_,gj _ 9,9,9⟩,et _ ho,ttt⟩ λb o e=>et _ e
def ug:Ô (.type "set") "__len__"=pure (b6 (.builtin "set.__len__")):=by rw[ř,ā];rfl
theorem n9:∀{a}{b},-a=-b->(∀(i:8) v,a[i]?\v->∃x t,b[i]?\x/\v=.str x t)->Ì a b|[],[],_,_=>.nil|[],_::_,h,_=>by simp at h|_::_,[],h,_=>by simp at h|v::a,y::b,h,k=>by let(x,t,c,d):=k 0 v 9;ext c;subst d;show .cons y t (n9 (by exists h) λi w e=>k (i+1) w e)
def uh(hh:A.handled=ef)(q:cG prog w s.heap S (bM w) D)(hn:-D<=ei) (hQ:∀r f a g u,f.Perm D->Ì r f->↥s<=a.objs.size->s.toks<=u->(∀b o,s.heap.get? b\o->a.get? b\o)->Q r {s with heap:=a,drawn:=g,toks:=u}) :gi (i5 prog w) A (ξ (.ref S)) Q E s:=by
 let(L,es,ep,t,ho):=id q;let SQ:S<↥s:=i8 ho;unfold ξ;show cb (Ŧ (RS F.entry_proto_collect ?_));rw[Zm F.plain_proto_collect _];change gi _ A.in1 (newList [] >>= λl=>again (.builtin "list.__iadd__" ⟨[l,.ref S],[]⟩)) _ _ s;show cb (ti ?_);show eT #[Y6 F.plain_list_iadd _,RS F.entry_list_iadd ?_];rw[Zm F.plain_list_iadd _];let x:(s.heap.push {cls:=.type "list",data:=.seq ([]:↑i7).toArray}).get? S\{cls:=.type "set",dict:=ef,data:=.set es ep t}:=et _ ho;let hT:È {s with heap:=s.heap.push {cls:=.type "list",data:=.seq ([]:↑i7).toArray}} (.ref S) "set":=#[_,x,9]
 change gi _ A.in1 (y6 (.ref ↥s) (.ref S) (.ref ↥s)) _ _ _;unfold y6;show cb (Zx hT ?_);let y:↥s≠S:=Sv SQ;let h1:XD (.ref ↥s) (.ref S)=df:=by simp[XD,y]
 let h2:(Ug "set"==Ug "list")=df:=7
 let h3:(Ug "set"==Ug "tuple")=df:=7
 erw[h1,h2,h3,Ř,U3,if_false];show cb (Bv (B:=A.in1) (by exists hh) (q.at λ_ z=>et _ z) ?_);intro I fp n P St f a g W C G hP H ZJ OQ hk;let j:È {s with heap:=a,drawn:=g } (.ref S) "set":=#[_,hk _ _ x,9]
 show cb (K' ?_);unfold P7;show cb (XO j ug ?_);let PZ:splitId "set.__len__"\("set","__len__"):=by decide +kernel
 dsimp only
 rw[PZ]
 dsimp only
 show cb (Ve j ľ ?_);rw[if_neg ⋯];rw[if_pos (by decide +kernel)];show cb (Zx j ?_);show eT ?_;rw[if_pos (by decide +kernel)];let J:↥s∉fp:=λc=>by
  obtain z|z:=ZJ _ c
  .show y z
  rw[Xy]at z;show absurd z (Nat.not_succ_le_self _)
 let N:a.get? ↥s\{cls:=.type "list",data:=.seq ([]:↑i7).toArray}:=hk _ _ (gj _ 9);show cb (Xq ?_);show cb ?_;change gi _ A.in1 (Ŋ ↥s (·.push .none) >>= λ_=>Ŋ ↥s (·.pop)) _ _ _;show cb (XN N 9 ?_);let O:=sx (tr (·.push tp)) N 9;show XN O 9 ?_;let k:=sx (tr (·.pop)) O 9;let T:∀b o,b≠↥s->a.get? b\o->((a.update ↥s (tr (·.push tp))).update ↥s (tr (·.pop))).get? b\o :=λb o h e=>(PF _ _ (sg h)).trans ((PF _ _ (sg h)).trans e)
 show eT #[Y6 F.plain_extend_loop _,ď W.toS (by rw[G,C.length_eq];show hn) _ J _ n 0 _ _ _ 9 (mh _) (W.frame 0 a _ OQ λb h o e=>T b o (λz=>J (z▸h)) e) k (ş P) λY PJ c' c QE Ql=>?_];change gi _ A (load ↥s >>= _) _ _ Y;show cb (ϴ QE ?_);let(UD,g2,d2,m,p):=Y;let eg:g2=s.gens:=c.gens;let ed:d2=g:=c.drawn;let eo:p=s.os:=c.os;subst eg;subst ed;subst eo;show eT (hQ _ f UD d2 m C (n9 (by rw[sP,Ql.1,G]) λi v hv=>hP i v (Ql.2 i v 7)) (Ue (i8 QE)) c.toks λb o e=>?_);let d:b≠↥s:=λz=>by rw[z]at e;show absurd (i8 e) (y0 _)
 show c.heap b o (λz=>?_) (T b o d (hk _ _ (et _ e)));obtain z|z:=gb.mp z
 .show d z
 rw[mN.mp z]at e;let:=i8 e;rw[Xy]at H;show absurd (lg this (pe (ZP _) H)) (y0 _)
def Inv.drawn(I:Inv X a σ H s)(d:Drawn):Inv X a σ H {s with drawn:=d}:=#[I.ok,I.os,I.bare,I.base,I.loc,I.cell,I.free,I.Pb,I.pin,I.ON,I.len]
def kn(n:X.calm=4)(I:Inv X d σ H s)(hq:Py X.K H p (f.map V.str)\/Pu X.K H p (f.map V.str))(l:-f+1<WS) (h:∀S a c,cG X.prog X.w a S (bM X.w) (bg f)->Inv X d σ H {s with heap:=a,toks:=c}->Q (.ref S) {s with heap:=a,toks:=c}) :
  ‹X› (WH (.type "set") [.ref p]) Q X.xe s:=by
 let m:X.A.handled=ef:=I.ok.hd n;obtain hq|hq:=hq
 .let(q,g,i,r):=I.list hq;show eQ m (.inl i.isList) (de g) l λa c j k=>h _ a c j (I.kept λb o e=>k b o (i8 e) e)
 let(q,g,i,r):=I.tuple hq;show eQ m (.inr i) (de g) l λa c j k=>h _ a c j (I.kept λb o e=>k b o (i8 e) e)
def pW(h:X.calm=4)(I:Inv X a σ H s)(i:cG X.prog X.w s.heap S (bM X.w) D)(j:-D<64) (q:∀p,H p=ef->Q (.ref p) (upd H p (.lst ((cF D).map V.str)))):‹X› (WH (.builtin "sorted") [.ref S]) (EP X a σ Q) X.xe s:=by let v:=I.ok.hd h;let hl:-D<=ei:=Ue (lg j 7);show jH (uh  7 i hl λx k y l m c d n z hk=>#[k,d,by rw[nX d,c.length_eq];lia,λB r e t b f=>?_]);rw[t8 c]at f;let u:=I.kept (t':=m) hk;let g:=u.drawn l;show#[.ref _,_,g.laid  (o:=.lst _) t (gs _) #[by rw[f7,gE];show hl,r,e,gF f,b],9,q _ (g.ON.fresh (gs _))]
def n_(I:Inv X a σ H s)(d:cG X.prog X.w s.heap S (bM X.w) D) (q:Q (.int ⇑D) H):‹X› (WH (.builtin "len") [.ref S]) (EP X a σ Q) X.xe s:=by
 let(L,c,j,t,ho,f,g,k,h,i,l,m):=d;let b:c.size=-D:=by rw[<-sP,f,f7,<-f7  ,g.length_eq]
 let n:c.size<4096:=i;show call_len_set ho #[9,9,9] 9 h 7 ?_;show#[.int _,_,I.kept  (λ_ _ e=>e),#[_,9],by rw[b];show q]
section
open AutoSeq1 (wpAny_loadPart') in
end
def kq(a:s.heap.IsTupleIter d l i) (hl:s.heap.IsTuple l b) (f:b[i]?\x) (g:∀e,e.IsTupleIter d l (i+1)->Hf d s.heap e->Q x {s with heap:=e }) :gi (i5 prog w) A (Y9 (.ref d)) Q E s:=by
 let(o,ho,h,c):=id a;let(m,j,_,n,k):=hl;show cb (Pr  a.typeIs F.slot_tuple_iterator_next
  (wh F.slot_tuple_iterator_next a.typeIs F.entry_tuple_iterator_next ?_ (F.args_tuple_iterator_next_1 _)))
 change gi _ _ (field _ 0 >>= _) _ _ s;show cb (LF ho c (x:=.ref l) 9 ?_);show cb (LF ho c  9 ?_);show cb (Ċ j k ?_);erw[Zj,f];show cb (O' ho c 7 (eT #[x,9,eT (g _ ?_ (KD ..))]));show#[_,sx _ ho (U9 (La c _)),(Ze ..).trans h,by rw[La c];rfl]
def fW(h:A.handled=ef) (b:s.heap.IsTupleIter d l i) (hl:s.heap.IsTuple l c) (j:c[i]?=ef) (k:∀f e,į d s.heap f->(∃o,f.get? e\o/\o.cls=.type "StopIteration")->E (.ref e) {s with heap:=f }) :gi (i5 prog w) A (Y9 (.ref d)) Q E s:=by
 let(o,ho,q,g):=id b;let(r,n,_,t,p):=hl;show cb (Pr  b.typeIs F.slot_tuple_iterator_next
  (wh F.slot_tuple_iterator_next b.typeIs F.entry_tuple_iterator_next ?_ (F.args_tuple_iterator_next_1 _)))
 change gi _ _ (field (.ref d) 0 >>= _) _ _ s;show cb (LF ho g (x:=.ref l) 9 ?_);show cb (LF ho g  9 ?_);show cb (Ċ n p ?_);erw[Zj,j];show cb (Xq (cb (O' ho g 7 ?_)));show cb ?_;show cb (m:=ū _ _) (TH (a:=tp) (by rfl) ?_);show ti ?_ (by size_fits);show cb (Β ?_)
 first|rw[h]|rw[h]
 show cb (eT (ϖ ?_));show k _ _ (((KD ..).extBut.push _).push _) #[_,gj _ 9,9]
def ui(d:A.handled=ef)(b l)(f:l≠b)(a):Draws prog w A b [b,l] a.size (λi v=>a[i]?\v) (λi h=>h.IsTupleIter b l i/\h.IsTuple l a) where
 live:=λ_ _ st=>let ⟨o,ho,_⟩:=st.1;⟨o,ho⟩
 frame:=λ_ _ _ st hk=>#[st.1.at λo e=>hk b 7 o e,let ⟨o,ho,r⟩:=st.2;⟨o,hk l 7 o ho,r⟩]
 item:=λi s Q E n st g=>by show kq st.1 st.2 (x:=a[i]) 7 λj k c=>?_;show g _ j _ (by simp[]) #[k,let ⟨o,ho,r⟩:=st.2;⟨o,(c.2 l f).trans ho,r⟩] c
 done:=λs Q E st m=>fW d st.1 st.2 7 m
open AutoSeq1 (wpAny_loadPart') in
def oa(l)(a)(n)(e)(f):Meets (Wg.«enumerate.__new__» ⟨[.type "enumerate",.ref l],[]⟩) (λ_ R s=>s.heap.get? l\{cls:=.type "tuple",dict:=e,data:=.seq a n,slots:=f} /\
   R (.ok (.ret (.ref (s.heap.push {cls:=.type "tuple_iterator",data:=.fields #v[.ref l,.int 0 0]}).objs.size)))
    {s with heap:=(s.heap.push {cls:=.type "tuple_iterator",data:=.fields #v[.ref l,.int 0 0]}).push {cls:=.type "enumerate",data:=.fields #v[.none,.bool df,.ref ↥s,y4 0,.none,.none]}}) :=
 .of_wp λprog w A R s h=>by
  let(i,g,d,j,os):=s;let(hl,h):=h;let k:=sub_enumerate;let b:Heap.IsTuple _ l a:=#[_,hl,9,n,9]
  wp_walk using ü hl
  show wpAny_stack_any λst=>eT ?_;split
  .rename_i c _ _ _ _ _;cases(c==Ug "enumerate")
   .wp_walk using ü hl,Za b
    show#[_,9,h]
   .wp_walk using ü hl,Za b
    show#[_,9,h]
  .wp_walk using ü hl,Za b
   show#[_,9,h]
def il(k:s.heap.IsTuple l a) (h:∀d,υ d (↥s+1) ↥s 0 .none->d.IsTupleIter ↥s l 0->d.objs.size=↥s+2 ->
   (∀b o,s.heap.get? b\o->d.get? b\o)->Q (.ref (↥s+1)) {s with heap:=d }) :
  gi (i5 prog w) A (WH (.type "enumerate") [.ref l]) Q E s:=by
 let((c,m,p,q),hl,e,n,f):=k
 replace e:c=.type "tuple":=e
 replace f:p=.seq a n:=f
 subst e f;show callType_new F.called_enumerate 7 (F.typeCall_enumerate_1 _) (F.newCall_enumerate_1 _) (λg=>F.args_object_init_2 g _) F.entry_enumerate_new
  (oa l a n m q) #[hl,?_]
 let i:(s.heap.push {cls:=.type "tuple_iterator",data:=.fields #v[.ref l,.int 0 0]}).objs.size=↥s+1:=XY ..;change _/\_;rw[i];let j:υ ((s.heap.push {cls:=.type "tuple_iterator",data:=.fields #v[.ref l,.int 0 0]}).push
   {cls:=.type "enumerate",data:=.fields #v[.none,.bool df,.ref ↥s,y4 0,.none,.none]}) (↥s+1) ↥s 0 .none:=by
  let:=gj (s.heap.push {cls:=.type "tuple_iterator",data:=.fields #v[.ref l,.int 0 0]})
   (o:={cls:=.type "enumerate",data:=.fields #v[.none,.bool df,.ref ↥s,y4 0,.none,.none]}) 9
  rw[i]at this;show this
 show#[#[_,j,9],h _ j #[_,et _ (gj _ 9),9,9] (by rw[XY,i]) λb o x=>et _ (et _ x)]
end L2
namespace L2
open PySem PySem.Spec PyProof.Rows
def Inv.ye{ch:↑ke}(I:Inv X a σ H s)(f:∀b∈ch,ic X a H b)(k:∀b o,b∉ch->s.heap.get? b\o->h.get? b\o):Inv X a σ H {s with heap:=h,toks:=t' }:=by
 let g:∀b u,H b\u->b∉ch:=λb u e z=>by rw[(f b z).1]at e;ext e
 show I.step    (λb i=>?_) (λb o _ _ d e _=>k b o d e) (λb o _ _ d e _=>#[_,k b o d e]) (λ_ _ _ _ n=>n)
  (λb o d e=>#[o,k b o d e]) (λ_ _ e=>e) (λ_ _ _ e=>e) (λb A e=>#[#v[],by left]) (λm j=>?_) (λb u e=>?_) I.bare
 .let(B,l,C,p,t,w):=f b i;show#[p,l,t,w]
 .let(o,x,y,ho,r):=j;show#[o,x,y,k _ o (λz=>(f _ z).2.1 9) ho,r]
 show(I.ON b u e).mP (λc v d q=>k c v ?_ q) (λ_ q=>q) λ_ _ q=>q;obtain z|z:=d
 .rw[z];show g b u e
 show g c _ z
def Inv.v8{h:↑ke}(I:Inv X a σ H s)(i:∀b∈h,ic X a H b)(k:∀b o,b∉h->s.heap.get? b\o->j.get? b\o)(l:↥s<=T)(p:cJ X.prog X.w (upd H T o) j T o):Inv X a σ (upd H T o) {s with heap:=j,toks:=t }:=by
 let x:Inv X a σ H {s with heap:=j,toks:=t }:=I.ye i k;let N:H T=ef:=I.ON.fresh l;let y:∀b o,s.heap.get? b\o->b≠T:=λb o e z=>by rw[z]at e;show absurd (lg (i8 e) l) (y0 _)
 let d:∀b u,H b\u->b≠T:=λb u e z=>by left
 show I.step   (ch:=h) (λb g=>?_) (λb o _ _ f e _=>k b o f e) (λb o _ _ f e _=>#[o.slots,k b o f e]) (λb o _ e n=>by rw[aj (y b o e)];show n)
  (λb o f e=>#[o,k b o f e]) (λb _ e=>by rw[aj (d b _ e)];show e) (λb _ _ e=>by rw[aj (d b _ e)];show e) (λb O e=>#[#v[],by rw[aj (d b _ e),e];simp]) (λm A=>?_) (λb u e=>?_) I.bare
 .let(Q,B,Y,C,D,G):=i b g;show#[C,B,D,G]
 .let(o,J,L,ho,r):=A;show#[o,J,L,k _ o (λz=>(i _ z).2.1 9) ho,r]
 by_cases g:b=T
 .subst g;rw[ak]at e;left
 rw[aj g]at e;show(x.ON b u e).mP (λc v _ q=>q) (λc q=>by rw[aj (d c _ q)];show q) λc xs q=>by rw[aj (d c _ q)];show q
def VS(b:Hp->↑V->6):It :=#[λi H=>∃a x,b H a/\a[i]?\x,λi H x c=>∃p,H p=ef/\x=.ref p/\∀a v,b H a->a[i]?\v->c=upd H p (.tup [.int i,v]),λi H=>∃a,b H a/\-a<=i]
def qt{K}(J)(a e g)(Vc:e≠g)(At:8->Te->6)(L:Te->Array i7->6) (Qo:∀i h n,At i h->(∀o,h.get? g\o->n.get? g\o)->At i n) (t:∀i h,At i h->∃o,h.get? g\o/\∀v,o.data≠.cell v) (XM:∀X d s σ H m,X.K=K->Inv X d σ H s->J H m->∃r,Vals m r/\L s.heap r.toArray) (ZM:∀X d s σ H m N,X.K=K->Inv X d σ H s->J H m->J H N->m=N) (Vd:∀h c i f,L h c->υ h e g i f->e≠a) (hD:∀A c,A.handled=ef->Draws P w A g [g,a] c.size (λi v=>c[i]?\v) (λi h=>At i h/\L h c)) (TV:∀A s i c Q E,A.handled=ef->At i s.heap->L s.heap c->c[i]?=ef ->
   (∀n x,į g s.heap n->(∃o,n.get? x\o/\o.cls=.type "StopIteration")->E (.ref x) {s with heap:=n })->gi (i5 P w) A (Y9 (.ref g)) Q E s) :
  Turn P w K (.Tuple es kx ps) (VS J) [e,g] e (λi h=>(∃f,υ h e g i f)/\At i h) where
 mem:=7
 obj:=λi h st b j=>by
  let((f,l),hl):=st;obtain z|z:=gb.mp j
  .rw[z];left
  rw[mN.mp z];show t i h hl
 keep:=λi h n ⟨⟨f,l⟩,hl⟩ k=>#[#[f,k e 7 _ l],Qo i h n hl λo q=>k g 7 o q]
 item:=by
  intro X hP hw O hc i d s σ H E I Y ⟨⟨f,l⟩,hl⟩ hg;subst hP hw;let(m,x,hq,hx):=hg;let(r,rv,p):=XM X d s σ H m O I hq;let(u,hu,ru):=rv.get hx;let PB:i<r.toArray.size:=by simpa using(gr.mp hu).1
  let D:=hD X.A.in1 r.toArray (by exists I.ok.hd hc);let ZN:=Vd _ _ _ _ p l;show wpAny_pyNext_enum_itemD D l #[hl,p] PB Vc (by simp[Vc,ZN]) λy h1 B hy ho ab hT an hk=>?_;let ey:y=u:=by left
  subst ey;show#[_,9,wpAny_letOwnedTupleGo_enum (s:={s with heap:=h1,toks:=B+1}) ho λC ac Q2=>?_];let G:e<↥s:=i8 l;let al:C.get? ↥s\{cls:=.type "tuple",data:=.seq #v[.int i B,y]}:=(Q2.2 _ (Sv G)).trans hT;let k2:∀b o,b∉[e,g]->s.heap.get? b\o->C.get? b\o:=λb o j q=>by erw[gb,Zn,or_false,not_or]at j;show(Q2.2 b j.1).trans (hk b o j.1 j.2 q)
  let I2:Inv X d σ (upd H ↥s (.tup [.int i,x])) {s with heap:=C,toks:=B+1}:=I.v8 Y k2 (gs _)
   (show cJ X.prog X.w _ C _ (.tup [.int i,x]) from#[by change 2<=ei;decide,[.int i B,y],.cons #[B,9] (.cons ru .nil),#[_,al,9,_,9]])
  show#[.ref ↥s,_,I2,9,#[_,I.ON.fresh (gs _),9,λN v hy hv=>?_],#[#[_,ac],Qo (i+1) h1 C ab.1 λo q=>(Q2.2 g (sg Vc)).trans q],λb j=>?_]
  .let:=ZM X d s σ H N m O I hy hq;subst this;rw[hx]at hv;ext hv;rfl
  let QQ:b≠↥s:=by
   obtain z|z:=gb.mp j
   .rw[z];show ku G
   rw[mN.mp z];let(o,q,_):=t i _ hl;show ku (i8 q)
  rw[aj QQ];show(Y b j).1
 done:=by
  intro X hP hw O hc i d s σ H E I Y ⟨⟨f,l⟩,hl⟩ hg;subst hP hw;let(m,hq,hx):=hg;let(r,rv,p):=XM X d s σ H m O I hq;let am:=-rv;let hT:s.TypeIs (.ref e) "enumerate":=#[_,l,9]
  unfold YW;show cb (À (Pr (name:=Ĝ "__next__") hT F.slot_enumerate_next
   (wh F.slot_enumerate_next hT F.entry_enumerate_next ?_ (F.args_enumerate_next_1 _))))
  change gi _ _ (field (.ref e) 2 >>= _) _ _ _;show cb (LF l 9 (x:=.ref g) 9 ?_);show cb (TV _ _ i r.toArray _ _ (by exists I.ok.hd hc) hl p 7 λn x ZO WC=>?_);let(o,ho,Ss):=WC;show cb (Ve (T:="StopIteration") (b:=4) #[o,ho,Ss] Ū ?_);show eT #[9,I.ye (t':=s.toks) (ch:=[g]) (λb j=>Y b (ib _ j)) λb o j q=>ZO b o (λz=>j (by simp[z])) q]
 self:=λA i s Q E ⟨⟨f,l⟩,hl⟩ h=>ļ l h
section
variable{X:Cx}{es:List nS}{kx:8}{ps p pos:Pos}
def zH:H8 "enumerate"\.type "enumerate":=by rfl
def Oa(K:W.Frag)(d:TA):TI:=λσ H R=>d σ H λe c=>∃a,e=[.ref a]/\((∃b,Py K c a b)/\R (VS λH b=>Py K H a b) c\/(∃b,Pu K c a b)/\R (VS λH b=>Pu K H a b) c)
def IZ(a e c)(r:e≠c)(t:a≠c):Turn X.prog X.w X.K (.Tuple es kx ps) (VS λH j=>Py X.K H a j) [e,c] e (λi h=>(∃d,υ h e c i d)/\h.IsListIter c a i):=by
 show qt _ a e c r _ _ (λi h G x k=>x.at k) (λi h ⟨o,ho,u,J⟩=>#[o,ho,λv z=>by left])
  (λY f s σ H j l I n=>?_) (λY f s σ H j L l I g q=>?_) (λh b i d ⟨o,ho,u,_⟩ N z=>?_) (λA b m=>Draws.list m c a t _) (λA s i b Q E m hl y g B=>wpAny_nextOf_list_end m hl y g B)
 .rw[<-l]at n;let(C,D,p,O):=I.list n;show#[C,D,p.isList]
 .rw[<-l]at g q;show I.tL g q
 grind
def I0(a e c)(r:e≠c)(t:a≠c):Turn X.prog X.w X.K (.Tuple es kx ps) (VS λH j=>Pu X.K H a j) [e,c] e (λi h=>(∃d,υ h e c i d)/\h.IsTupleIter c a i):=by
 show qt _ a e c r _ _ (λi h G x k=>x.at k) (λi h ⟨o,ho,u,J⟩=>#[o,ho,λv z=>by left])
  (λY f s σ H j l I n=>?_) (λY f s σ H j L l I g q=>?_) (λh b i d ⟨o,ho,u,_⟩ N z=>?_) (λA b m=>ui m c a t _) (λA s i b Q E m hl y g B=>fW m hl y g B)
 .rw[<-l]at n;let(C,D,p,O):=I.tuple n;show#[C,D,p]
 .rw[<-l]at g q;show I.qg g q
 grind
def E9(x:Gl X "enumerate")(y:X.mg "enumerate"=ef)(A:PA X [a] B)(hs:j0 [a] X.env=[(df,uv a X.env)]):PI X (.Tuple es kx ps) (.Call (.Name "enumerate" p) [a] [] pos) (Oa X.K B):=by
 intro c s σ H R I h;show Call_ (dr I x y zH (Sy (OV (A pos c s σ H _ I h) λQ f ⟨T,l,d,C,D⟩=>?_) hs 9));let(v,e,q):=D;subst e;let(u,rfl,r):=vals1 C;ext r;let g:↥f+1≠↥f:=Nat.succ_ne_self _;let i:∀(j:Te),(∀b∈[↥f+1,↥f],ic X c l b):=λj b G=>by
  let w:↥f<=b:=by
   obtain z|z:=gb.mp G
   .simp_all
   left
  show d.A2 w (d.ON.fresh w)
 obtain⟨⟨J,m⟩,q⟩|⟨⟨J,m⟩,q⟩:=q
 .let(L,N,p,O):=d.list m;let n:=let ⟨o,ho,_⟩:=p.isList;i8 ho;show call_enumerate_list p.isList λj k hl t hk=>?_;show ļ k #[_,_,_,_,l,9,d.kept  hk,IZ v _ _ g (ku n),#[#[_,k],hl],i j,q]
 let(L,N,p,O):=d.tuple m;let n:=let ⟨o,ho,_⟩:=p;i8 ho;show il p λj k hl t hk=>?_;show ļ k #[_,_,_,_,l,9,d.kept  hk,I0 v _ _ g (ku n),#[#[_,k],hl],i j,q]
end
def E_{b:↑i7}(h:ItemsOf (λi v=>b.toArray[b.toArray.size - 1 - i]?\v) a b.toArray.size):a.toList=b.reverse:=by
 apply ώ;intro i;let hs:a.size=-b:=by let:=h.1;exists this
 by_cases d:i< -b
 .let c:i<a.size:=7
  let:=h.2 i (a[i]'c) (by simp[c]);rw[Xe,ň c,List.getElem?_reverse d];exists this.symm
 rw[Ÿ (by rw[sP];lia),Ÿ (by rw[Τ];lia)]
def zI(l)(a)(n)(b)(c)(d)(dd)(e)(j:¬(!a.isEmpty&&RK (a.size+c.size))=4)(f:a.size<=ei)(k:a.size+c.size<=ei+1):Meets (Wg.«list.extend» ⟨[.ref l,.ref b],[]⟩) (λ_ R s=>s.heap.get? l\{cls:=.type "list",dict:=ef,data:=.seq a n,slots:=#v[]}/\s.heap.get? b\{cls:=.type "list",dict:=dd,data:=.seq c d,slots:=e}/\R (.ok (.ret tp)) {s with heap:=s.heap.update l (tr λx=>x++c),toks:=s.toks}) :=
 .of_wp λprog w A R s h=>by
  let(hl,g,h):=h;let m:=ż;let i:(a++c).size<=ei+1:=7
  wp_walk using(XN hl 9 (hz:=f) (_hz':=i)),Yp hl,Yp g;show#[_,9,h]
def zJ(l)(a)(n)(b)(c)(d)(dd)(e)(j:¬(!a.isEmpty&&RK (a.size+c.size))=4)(f:a.size<=ei)(k:a.size+c.size<=ei+1):Meets (Wg.«list.extend» ⟨[.ref l,.ref b],[]⟩) (λ_ R s=>s.heap.get? l\{cls:=.type "list",dict:=ef,data:=.seq a n,slots:=#v[]}/\s.heap.get? b\{cls:=.type "tuple",dict:=dd,data:=.seq c d,slots:=e}/\R (.ok (.ret tp)) {s with heap:=s.heap.update l (tr λx=>x++c),toks:=s.toks}) :=
 .of_wp λprog w A R s h=>by
  let(hl,g,h):=h;let m:=ż;let i:(a++c).size<=ei+1:=7
  wp_walk using(XN hl 9 (hz:=f) (_hz':=i)),Yp hl,Yp g;show#[_,9,h]
def og:MtM X "list.extend" (λx y H Q=>∃l b k zs,x=.ref l/\y=[.ref b]/\H l\.lst k/\(Py X.K H b zs\/Pu X.K H b zs)/\-k+ -zs<=ei/\Q .OP (upd H l (.lst (k++zs)))):=by
 intro d s σ H x y v L Q I C D h;let(l,b,k,zs,rfl,rfl,A,hB,N,q):=h;ext C;let(u,rfl,G):=D.one;ext G;let(z,m,n,r,hl,e):=I.LO A;let f:∀a ,Vals zs a->EP X d σ Q tp {s with heap:=s.heap.update l (tr λx=>x++a.toArray),toks:=s.toks}:=λa c=>by show#[.OP,_,I.la  A e 7 (r.append c) ?_,9,q];rw[nc];lia
 let o:∀a:↑i7,-zs=-a->m.toArray.size+a.toArray.size<=ei:=λa h=>by left
 let B:∀a:↑i7,-zs=-a->¬(!m.toArray.isEmpty&&RK _)=4:=λa h=>by rw[Bb (o a h),X'];simp
 obtain hB|hB:=hB
 .let(a,c,p,_):=I.list hB;let((cls,dd,g,t),ho,i,w,j):=p.isList;simp only at i j;subst i j;let RN:=-c;let J:=o a RN;show ZW ϟ #[_,e,9] ϐ (ψ _ _) (zI l m.toArray n b _ w dd t (B a RN) 7 7) #[e,ho,f a c]
 let(a,c,p,_):=I.tuple hB;let((cls,dd,g,t),ho,i,w,j):=p;simp only at i j;subst i j;let RN:=-c;let J:=o a RN;show ZW ϟ #[_,e,9] ϐ (ψ _ _) (zJ l m.toArray n b a.toArray w dd t (B a RN) 7 7) #[e,ho,f a c]
def lp:Μ.lookup (ϕ ['d','e','s','r','e','v','e','r'].reverse)\Manifest.sig_reversed:=by rfl
def c6:ϻ "reversed" "__next__" "reversed.__next__" :=.of (owner:="reversed") (n:="__next__") (by rfl) (by decide +kernel) (by decide +kernel) (by rfl) (by first|show .inl (by decide +kernel)|show .inr (by decide +kernel)) (by rfl)
def ip:Ď Ϙ "reversed.__next__"\Wg.«reversed.__next__»:=ō (by rfl)
def jv(a):đ "reversed.__next__" ⟨[a],[]⟩:=by unfold đ;rw[æ (id:="reversed.__next__") (n:=['_','_','t','x','e','n','_','_'])  (by kernel_rfl) lp];rfl
def jw:ϻ "reversed" "__iter__" "reversed.__iter__" :=.of (owner:="reversed") (n:="__iter__") (by rfl) (by decide +kernel) (by decide +kernel) (by rfl) (by first|show .inl (by decide +kernel)|show .inr (by decide +kernel)) (by rfl)
def oh:Ď Ϙ "reversed.__iter__"\Wg.«dict_keyiterator.__iter__» :=č (id':="dict_keyiterator.__iter__") (by kernel_rfl) (by rfl) (by decide +kernel) (by rfl)
def pX(a):đ "reversed.__iter__" ⟨[a],[]⟩:=by unfold đ;rw[æ  (n:=['_','_','r','e','t','i','_','_'])  (by kernel_rfl) lp];rfl
def fL:ϻ "reversed" "__length_hint__" "reversed.__length_hint__" :=.of (owner:="reversed") (n:="__length_hint__") (by rfl) (by rfl) (by decide +kernel) (by decide +kernel) (by first|show .inl (by decide +kernel)|show .inr (by decide +kernel)) (by rfl)
def oi:Ď Ϙ "reversed.__length_hint__"\Wg.«reversed.__length_hint__»:=ō (by rfl)
def pY(a):đ "reversed.__length_hint__" ⟨[a],[]⟩:=by unfold đ;rw[æ  (n:=['_','_','t','n','i','h','_','h','t','g','n','e','l','_','_'])  (by kernel_rfl) lp];rfl
def v9:Ô (.type "reversed") "__len__"=pure ef:=by rw[ř,ā];rfl
def rW:Ô (.type "tuple") "__reversed__"=pure ef:=by rw[ř,ā];rfl
def pZ:Ï (.type "tuple") (.type "dict")=pure df:=by rw[ũ];rfl
def p7:ϻ "reversed" "__init__" "object.__init__" :=.of (owner:="object") (n:="__init__") (by rfl) (by decide +kernel) (by decide +kernel) (by rfl) (by first|show .inl (by decide +kernel)|show .inr (by decide +kernel)) (by rfl)
def jM:TypeCalled "reversed" "reversed.__new__" "object.__init__" :=#[by rfl,F.create_reversed,#[_,_,F.mro_reversed],F.made_reversed,F.plain_reversed_new,F.sub_reversed_self,p7]
def kA(l:ke)(i:Int):Obj:={cls:=.type "reversed",data:=.fields #v[.ref l,y4 i]}
def gW(h:Te)(a l:ke)(i:Int):6:=∃o,h.get? a\o/\o.cls=.type "reversed"/\o.data=.fields #v[.ref l,y4 i]
def gW.typeIs{s:kj}(x:gW s.heap a l i):s.TypeIs (.ref a) "reversed":=let ⟨o,ho,b,_⟩:=x;⟨o,ho,b⟩
def gW.at(x:gW h a l i)(e:∀o,h.get? a\o->h'.get? a\o):gW h' a l i:=let ⟨o,ho,r⟩:=x;⟨o,e _ ho,r⟩
section
def Fb(hl:Ĩ s.heap l b)(d:b.size<=ei) (h:Q (.ref ↥s) {s with heap:=s.heap.push (kA l ((b.size:Int) - 1)),toks:=s.toks+2}) :Ya (i5 prog w) A (.call (.builtin "reversed.__new__") #[[.type "reversed",.ref l],[]]) (wants Q E) s:=by
 let c:ei<2 ^ 60:=7
 show Ŝ ?_;show cb (TH (F.newCall_reversed_1 _) (eT #[Y6 F.plain_reversed_new _,RS F.entry_reversed_new ?_]));show cb (TH (newClass_reversed _) ?_)
 try dsimp only
 show cb (TH (a:=()) (by rfl) ?_);show cb (TH (a:=()) (by rfl) ?_)
 try dsimp only
 show cb (XO hl.typeIs rW ?_)
 try dsimp only
 show cb ?_
 wp_delta
 show cb (Ve hl.typeIs pZ ?_);show cb (XO hl.typeIs slot_tuple_getitem.lookup ?_)
 try dsimp only
 rw[if_pos ⋯];show eT ?_;rw[if_neg ⋯];show cb (len_tuple hl 7 ?_);change gi _ _ (newObj (.type "reversed") (.fields #v[.ref l,y4 ((b.size:Int) - 1)]) >>= _) _ _ _;show cb (ti (eT h) (by size_fits))
def Bw(hl:Ĩ s.heap l a)(e:a.size<=ei) (h:Q (.ref ↥s) {s with heap:=s.heap.push (kA l ((a.size:Int) - 1)),toks:=s.toks+2}):gi (i5 prog w) A (WH (.type "reversed") [.ref l]) Q E s:=by
 show callType_codes (Q₁:=λb c=>b=.ref _/\c={s with heap:=s.heap.push _,toks:=s.toks+2}) jM (F.typeCall_reversed_1 _) F.entry_object_init (Fb hl e #[9,9]) ?_;rintro b c ⟨rfl,rfl⟩;let d:{s with heap:=s.heap.push (kA l (a.size - 1)),toks:=s.toks+2}.TypeIs (.ref _) _:=#[_,gj _ 9,9]
 show#[d,F.args_object_init_2 _ _,object_init_meets jM.init.lookup jM.made 7 prog w _ _ _ #[d,9,h]]
def Bx{i:8}(p:a.size<=ei)(b:gW s.heap d l (i:Int))(hl:Ĩ s.heap l a)(f:a[i]?\x) (g:∀e h,gW e d l ((i:Int) - 1)->Hf d s.heap e->Q (b6 x) {s with heap:=e,toks:=h}):gi (i5 prog w) A (YW (.ref d)) Q E s:=by
 let(o,ho,k,c):=id b;let m:ei<2 ^ 60:=7
 let q:i<a.size:=(Up.mp f).1;unfold YW;show cb (À (Pr  b.typeIs c6
  (wh c6 b.typeIs ip ?_ (jv _))))
 show cb (TH  9 ?_)
 try dsimp only
 show cb (LF ho c (x:=.ref l) 9 ?_);show cb (LF ho c  9 ?_);show cb (XO hl.typeIs slot_tuple_getitem.lookup ?_);show cb (wpAny_mkInt (cb (À (getItem_tuple  (j:=i) hl 7 7 (by simp[seqIndex?];lia) f ?_))))
 dsimp only
 show cb (LF ho c (x:=y4 (i:Int)) 9 ?_);show cb (O' ho c 7 ?_);show eT #[x,9,eT (g _ _ ?_ (KD ..))];show#[_,sx _ ho (U9 (La c _)),(Ze ..).trans k,by rw[La c];simp]
def Fc(h:A.handled=ef)(c:gW s.heap e l (-(1:Int))) (j:∀i,į e s.heap i->Q ef {s with heap:=i }):gi (i5 prog w) A (YW (.ref e)) Q E s:=by
 let(o,ho,p,d):=id c;unfold YW;show cb (À (Pr  c.typeIs c6
  (wh c6 c.typeIs ip ?_ (jv _))))
 show cb (TH (a:=(rr e,[])) 9 ?_)
 try dsimp only
 show cb (LF ho d (x:=.ref l) 9 ?_);show cb (LF ho d (x:=y4 (-(1:Int))) 9 ?_);change gi _ _ (if (-(1:Int):Int)<0 then _ else _) _ _ s;rw[if_pos ⋯];show cb (Xq ?_);show cb ?_
 wp_delta
 show cb (O' ho d 7 ?_);let k:=sx (Õ λf=>f.set! 1 (y4 (-(1:Int)))) ho (U9 (La d _));let g:=La d (λf=>f.set! 1 (y4 (-(1:Int))));show O' k g 7 ?_;show cb ?_
 wp_delta
 erw[newExc,newTuple];show cb (cb (ti ?_ (by size_fits)));show cb (m:=ū _ _) (TH (a:=tp) (by rfl) ?_);show ti ?_ (by size_fits);erw[Ϛ];show cb (Β ?_)
 first|rw[h]|rw[h]
 show cb (eT (ϖ ?_));show cb (Ve (T:="StopIteration") (b:=4) #[_,gj _ 9,9] Ū ?_);show eT (j _ (((((KD ..).extBut).trans (KD ..).extBut).push _).push _))
def By(a:gW s.heap b l i)(h:Q (.ref b) s):gi (i5 prog w) A (Č (.ref b)) Q E s:=by show ĺ a.typeIs jw (wh jw a.typeIs oh ?_ (pX _));show eT #[_,9,_,_,a.typeIs,c6.lookup,h]
def zK(q:A.handled=ef)(I l)(t:l≠I)(a)(u:a.size<=ei):Walks prog w A I [I,l] [I] a.size (λi v=>a[a.size - 1 - i]?\v) (λi h=>i<=a.size/\gW h I l ((a.size:Int) - 1 - (i:Int))/\Ĩ h l a) where
 sub:=λb f=>by left
 frame:=λ_ _ _ x hk=>#[x.1,x.2.1.at λo e=>hk I 7 o e,let ⟨o,ho,r⟩:=x.2.2;⟨o,hk l 7 o ho,r⟩]
 item:=λi s Q E y x d=>by
  let e:(a.size:Int) - 1 - i=(a.size - 1 - i:8):=7
  let c:=x.2.1;rw[e]at c;let k:a[a.size - 1 - i]?\_:=ň 7;show Bx u c x.2.2 k λg z m p=>?_;let B:(a.size - 1 - i:8) - 1=a.size - 1 - (i+1:Int):=7
  rw[B]at m;show d _ g z k #[y,m,let ⟨o,ho,r⟩:=x.2.2;⟨o,(p.2 l t).trans ho,r⟩] λb o f j=>p.extBut b o (λh=>f (by simp[h])) j
 done:=λs Q E x d=>by
  let e:a.size - 1 - (a.size:Int)=-(1:Int):=7
  let c:=x.2.1;rw[e]at c;show Fc q c λg C=>d g _ λb o f j=>C b o (λh=>f (by simp[h])) j
 self:=λ_ _ _ _ x d=>By x.2.1 d
def Bz(d:gW s.heap I l ((c.size:Int) - 1))(hl:Ĩ s.heap l c)(j:c.size<=ei)(h:∀b e,s.toks<=e->Q b {s with toks:=e}):gi (i5 prog w) A (P7 (.ref I)) Q E s:=by
 let g:ei<2 ^ 60:=7
 let(o,ho,k,f):=id d;unfold P7;show cb (XO d.typeIs v9 ?_);show cb (XO d.typeIs fL.lookup ?_);let i:splitId "reversed.__length_hint__"\("reversed","__length_hint__"):=by rfl
 dsimp only
 rw[i]
 dsimp only
 show cb (Ve d.typeIs F.sub_reversed_self ?_);rw[if_neg ⋯];rw[if_neg (by decide +kernel)];show cb (Xq ?_);show cb (TH (fL.bind _) ?_)
 dsimp only
 show cb (À (wh fL d.typeIs oi ?_ (pY _)));unfold Wg.«reversed.__length_hint__»;show cb (TH (a:=rr I) 9 ?_);show cb (LF ho f (x:=.ref l) 9 ?_);rw[if_neg (show ¬((rr l==tp)=c4) from tv)];show cb (len_tuple hl 7 ?_);show cb (eT ?_);show cb (LF (s:={s with toks:=s.toks+1+1}) ho f (x:=y4 ((c.size:Int) - 1)) 9 ?_);change gi _ _ (if (c.size:Int)<(c.size:Int) - 1+1 then _ else _) _ _ _;rw[if_neg ⋯];show cb (wpAny_mkInt (eT #[_,9,?_]))
 dsimp only
 show cb (eT ?_)
 dsimp only
 rw[if_neg (by erw[aaH,td,Bool.and_eq_false_iff,decide_eq_false_iff_not];lia),if_neg ⋯,if_neg (by erw[RK,decide_eq_true_eq];lia)];show eT (h _ _ 7)
variable{I:ke}{fp wr:List ke}{G:Array Ų->Array Ų->6}{n:8}{P:8->i7->6}{St:8->kj->6}
def v_(W:Ϻ prog w A.in1 I fp wr G n P St)(H:∀i s,St i s->s.TypeIs (.ref I) "reversed")(J:∀A E s Q,St 0 s->(∀b d,s.toks<=d->Q b {s with toks:=d})->gi (i5 prog w) A (P7 (.ref I)) Q E s)(S)(k)(L)(l:St 0 s)(m:S∉fp)(N:I∈fp) (q:s.heap.get? S\{cls:=.type "list",data:=.seq #v[] L}) (z:∀a g c,Moved (S::wr) G s a->a.heap.get? S\{cls:=.type "list",dict:=ef,data:=.seq g c,slots:=#v[]}->ItemsOf P g n->R (.ok (.ret k)) a) (B:n<=ei) :gi (i5 prog w) A.in1 (y6 (.ref S) (.ref I) k) (λr a=>match r with|.done f=>R (.ok f) a|.again c=>c.quiet=4/\Ya (i5 prog w) A c R a) (λe a=>R (.error e) a) s:=by
 let t:S≠I:=λe=>m (e▸N);unfold y6;show cb (Zx (H 0 _ l) ?_);let O:XD (.ref S) (.ref I)=df:=by simp[XD,t]
 let T:(Ug "reversed"==Ug "list")=df:=7
 let Y:(Ug "reversed"==Ug "tuple")=df:=7
 erw[O,T,Y,Ř,U3,if_false];show cb (W.self 0 _ _ _ l ?_);show cb (K' ?_);show J _ _ _ _ l λb d p=>?_;let ZQ:=W.frame 0 s s.heap d l p λb _ o e=>e;show wpAny_ite_split (λ_=>?_) (λ_=>eT #[Y6 F.plain_extend_loop _,ď W B _ m _ n 0 _ _ _ 9 (mh _) ZQ q (ş P) λa g c u v x=>z a g c (Ĥ W.gtrans ((Λ W.grefl).then_heap p λb o _ e=>e) u) v x]);show cb (Xq ?_);show cb ?_;change gi _ _ (Ŋ S (·.push .none) >>= λ_=>Ŋ S (·.pop)) _ _ _;show cb (XN (s:={s with toks:=d}) q 9 ?_);let C:=sx (tr (·.push tp)) q 9;show XN (hz:=by seq_fits) C 9 ?_;let y:=sx (tr (·.pop)) C 9;let D:∀b o,b≠S->s.heap.get? b\o->((s.heap.update S (tr (·.push tp))).update S (tr (·.pop))).get? b\o:=λb o j e=>(PF _ _ (sg j)).trans ((PF _ _ (sg j)).trans e);show eT #[Y6 F.plain_extend_loop _,ď W B _ m _ n 0 _ _ _ 9 (mh _) (W.frame 0 s _ d l p λb j o e=>D b o (λh=>m (h▸j)) e) y (ş P) λa g c u v x=>?_];show z a g c (Ĥ W.gtrans ((Λ W.grefl).then_heap p λb o j e=>D b o (λh=>j (h▸ki)) e) u) v x
def p8(W:Ϻ prog w A.in1 I fp wr G n P St)(r:∀i s,St i s->s.TypeIs (.ref I) "reversed")(t:∀A E s Q,St 0 s->(∀b m,s.toks<=m->Q b {s with toks:=m})->gi (i5 prog w) A (P7 (.ref I)) Q E s)(S)(u:St 0 s)(p:S∉fp)(v:I∈fp) (j:s.heap.get? S\{cls:=.type "list",data:=.seq #v[]}) (x:∀a g c,Moved (S::wr) G s a->a.heap.get? S\{cls:=.type "list",dict:=ef,data:=.seq g c,slots:=#v[]}->ItemsOf P g n->R (.ok (.ret .none)) a) (y:n<=ei) :gi (i5 prog w) A.in1 (Wg.«list.__init__» ⟨[.ref S,.ref I],[]⟩) (λk a=>match k with|.done f=>R (.ok f) a|.again c=>c.quiet=4/\Ya (i5 prog w) A c R a) (λe a=>R (.error e) a) s:=by
 change gi _ A.in1 (do let l <-ĥ (.ref S);aaG (.ref S) (λ_=>#v[]);letGo l.toList.reverse;y6 (.ref S) (.ref I) .none) _ _ s;show cb ?_;unfold ĥ;show cb (Ċ j 9 (eT ?_));change gi _ A.in1 (Ŋ S (λ_=>#v[]) >>= λ_=>letGo (#v[]:Array i7).toList.reverse >>= λ_=>y6 (.ref S) (.ref I) .none) _ _ s;show cb (XN j 9 ?_);let z:=sx (tr (λ_=>(#v[]:Array i7))) j 9;let q:∀b o,b≠S->s.heap.get? b\o->(s.heap.update S (tr (λ_=>(#v[]:Array i7)))).get? b\o :=λb o d e=>(PF _ _ (sg d)).trans e
 show cb (wpAny_letGo ?_);show v_ W r t S .none _ (W.frame 0 s _ s.toks u (gs _) λb d o e=>q b o (λh=>p (h▸d)) e) p v z (λa g c B C D=>?_) y;show x a g c (Ĥ W.gtrans ((Λ W.grefl).then_heap (gs _) λb o d e=>q b o (λh=>d (h▸ki)) e) B) C D
def uj(W:Ϻ prog w A.in1.in1 I fp wr G n P St)(l:∀i s,St i s->s.TypeIs (.ref I) "reversed")(m:∀A E s Q,St 0 s->(∀b h,s.toks<=h->Q b {s with toks:=h})->gi (i5 prog w) A (P7 (.ref I)) Q E s)(p:St 0 s)(q:∀b∈fp,b<↥s)(r:I∈fp) (t:∀a d f,Moved (↥s::wr) G {s with heap:=s.heap.push {cls:=.type "list",data:=.seq #v[]}} a ->
   a.heap.get? ↥s\{cls:=.type "list",dict:=ef,data:=.seq d f,slots:=#v[]}->ItemsOf P d n->Q (.ref ↥s) a) (u:n<=ei) :
  gi (i5 prog w) A (WH (.type "list") [.ref I]) Q E s:=by
 let v:↥s∉fp:=λg=>y0 _ (q _ g);show callType_codes (Q₁:=λc j=>c=.ref ↥s/\j={s with heap:=s.heap.push {cls:=.type "list",data:=.seq #v[]}}) F.called_list (F.typeCall_list_1 _) F.entry_list_init
  (code_list_new _ #[9,9]) λc j x=>?_
 let(rfl,rfl):=x;let k:(s.heap.push {cls:=.type "list",data:=.seq #v[]}).get? ↥s\{cls:=.type "list",data:=.seq #v[]}:=gj _ 9;show#[#[_,k,9],F.args_list_init_2 _ _,p8 W l m _ (W.frame 0 s _ s.toks p (gs _) λb _ o e=>et _ e) v r k (λa d f g y z=>?_) u];show#[9,t a d f g y z]
end
def BA(B:X.calm=4)(I:Inv X f σ H s)(C:Pu X.K H a m)(q:∀l,H l=ef->Q (.ref l) (upd H l (.lst m.reverse))):
  ‹X› (WH (.type "reversed") [.ref a]) (λv D=>‹X› (WH (.type "list") [v]) (EP X f σ Q) X.xe D) X.xe s:=by
 let(c,r,p,G):=I.tuple C;let el:-c=-m:=r.length.symm;let t:a<↥s:=p.lt;let g:c.toArray.size<=ei:=7
 let d:(s.heap.push (kA a ((c.toArray.size:Int) - 1))).objs.size=↥s+1:=Xy ..;show Bw p g ?_;let J:gW (s.heap.push (kA a ((c.toArray.size:Int) - 1))) ↥s a ((c.toArray.size:Int) - 1):=#[_,gj _ 9,9,9]
 show uj (zK (A:=X.A.in1.in1) (I.ok.hd B) ↥s a (ku t) c.toArray g).toS (λi s st=>st.2.1.typeIs) (λA E s Q st h=>Bz (by exists st.2.1) st.2.2 g h) ⟨mh _,by simpa using J,p.push _⟩ (λb j=>?_) 7 (λL n u k N O=>?_) g
 .change b<(s.heap.push (kA a ((c.toArray.size:Int) - 1))).objs.size;rw[d];obtain z|z:=gb.mp j
  .rw[z];show Wv _
  rw[mN.mp z];show XE t
 let(x,T,Y,t2,o2):=L;let eg:T=s.gens:=k.gens;let ed:Y=s.drawn:=k.drawn;let eo:o2=s.os:=k.os;subst eg ed eo;let k2:∀b o,s.heap.get? b\o->x.get? b\o:=λb o e=>k.heap b o (λz=>by
  let j:=i8 e;obtain z|z:=gb.mp z
  .rw[z]at j;let y:(s.heap.push (kA a ((c.toArray.size:Int) - 1))).objs.size<↥s:=j;rw[d]at y;show absurd y (ϩ (Wv _))
  rw[mN.mp z]at e;show absurd (i8 e) (y0 _)) (et _ (et _ e))
 let ea:=E_ O;show#[.ref (s.heap.push (kA a ((c.toArray.size:Int) - 1))).objs.size,_,I.laid (t':=t2) (o:=.lst m.reverse) k2 (by rw[d];show ZP _) #[by rw[Τ];show G,c.reverse,u,r.reverse,?_],9,q _ (I.ON.fresh (by rw[d];show ZP _))];let QE:x.get? (s.heap.push (kA a ((c.toArray.size:Int) - 1))).objs.size\{cls:=.type "list",dict:=ef,data:=.seq n u,slots:=#v[]}:=N;rw[QE,<-ea,Ź]
end L2
namespace L2
open PySem PySem.W PyProof.Rows
def lq{α:Type}(a:8->8->Bool):KasT α->α|.ret x=>x|.ask i j k=>lq a (k (a i j))
def Qt{α:Type}(n:8)(P:α->6):KasT α->6|.ret x=>P x|.ask i j k=>i<n/\j<n/\∀b,Qt n P (k b)
theorem Qt.VT{P:α->6}{Q:β->6}{f}(a:∀x,P x->Qt n Q (f x)):∀{t},Qt n P t->Qt n Q (t.bind f)|.ret x,h=>a x h|.ask i j k,h=>#[h.1,h.2.1,λb=>Qt.VT a (h.2.2 b)]
theorem Qt.got:∀{t:KasT α},Qt n P t->P (lq a t)|.ret _,h=>h|.ask i j k,h=>Qt.got (t:=k _) (h.2.2 _)
theorem Qt.wp(b:∀i j,i<n->j<n->∀C:Bool->kj->6,C (c i j) s->a i j C s):∀{t:KasT α},Qt n P t->Q (lq c t) s->t.kasWp a Q s|.ret _,_,q=>q|.ask i j k,h,q=>b i j h.1 h.2.1 _ (Qt.wp b  (h.2.2 _) q)
def Pm(n:8)(p:Array 8):6:=p.toList.Perm (i9 n)
section
variable{n:8}(hn:0<n)
include hn
def Pm.at(h:Pm n p)(i):p.getD i 0<n:=by
 by_cases b:i<p.size
 .let:p.getD i 0=p[i]:=7
  rw[this];let a:p[i]∈p.toList:=7
  show uk.mp (h.mem_iff.mp a)
 left
omit hn in
def Pm.rev(h:Pm n p)(i j:8):Pm n (kas_rev p i j):=(mirror_perm p i j _).toList.trans h
omit hn in
def Pm.bub(h:Pm n p)(i j:8):Pm n (bubble p i j):=(bubble_perm p i j).toList.trans h
theorem wa(h:Pm n p):∀f m,Qt n (λ_=>True) (kas_asc p f m)
 |0,m=>trivial|f+1,m=>#[h.at hn _,h.at hn _,λb=>by
  ext b
  .show wa h f _
  show ttt]
theorem m9:∀f p m q,Pm n p->Qt n (λr=>Pm n r.1) (kas_desc f p m q)
 |0,p,m,q,h=>h|f+1,p,m,q,h=>#[h.at hn _,h.at hn _,λb=>by
  ext b
  .show#[h.at hn _,h.at hn _,λb=>by
    ext b
    .show m9 f p _ _ h
    show h]
  split
  .show m9 f _ _ _ (h.rev _ _)
  show m9 f _ _ _ h]
def yf(h:Pm n p)(m r):Qt n (λx=>Pm n x.2) (kas_tail3 m r p):=by show Qt.VT (λx _=>?_) (wa hn (h.rev _ _) _ _);show h.rev _ _
def yg(h:Pm n p)(m r):Qt n (λx=>Pm n x.2) (kas_descPart m r p):=by
 show Qt.VT (λx a=>?_) (m9 hn _ _ _ _ h);split
 .show yf hn (a.rev _ _) _ _
 show yf hn a _ _
def BB(h:Pm n p)(r):Qt n (λx=>Pm n x.2) (kas_count r p):=by
 show Qt.VT (λm _=>?_) (wa hn h _ _);split
 .show h
 split
 .show#[h.at hn _,h.at hn _,λb=>by
   ext b
   .show yg hn (h.rev _ _) _ _
   show h]
 show yg hn h _ _
theorem oj(h:Pm n p)(k):∀f l r,Qt n (λ_=>True) (kas_place p k f l r)
 |0,l,r=>trivial|f+1,l,r=>by
  unfold kas_place;split
  .show ttt
  show#[h.at hn _,h.at hn _,λb=>by
   ext b
   .show oj h k f _ _
   show oj h k f _ _]
theorem BC:∀f p k,Pm n p->Qt n (Pm n) (kas_bin f p k)|0,p,k,h=>h|f+1,p,k,h=>Qt.VT (λl _=>BC f _ _ (h.bub _ _)) (oj hn h _ _ _ _)
def yh:Qt n (Pm n) (ZF n):=by
 show Qt.VT (λx a=>?_) (BB hn  (by unfold Pm;simp) n);split
 .show BC hn _ _ _ a
 show a
end
def om(a)(n):(lq a (ZF n)).toList.Perm (i9 n):=by cases n with|zero=>rfl|succ n=>show(yh (Nat.succ_pos n)).got
def zL(ho:s.heap.get? a\RB "list" vs.toArray n)(u:-vs<64) (g:2<=-vs->∀k,(∀b o,b≠a->s.heap.get? b\o->k.heap.get? b\o)->gi (i5 prog w) A (keyKind' vs.toArray) (λκ f=>f=k/\∀i j,i< -vs->j< -vs->∀C:Bool->kj->6,C (lt i j) k->kas_ask prog w A κ vs i j C k) (λ_ _=>False) k) (h:P (.done (.ret .none)) {s with heap:=aab s.heap a vs (((lq lt (ZF ⇑vs)).toList.map λi=>vs.getD i tp).toArray)}) :gi (i5 prog w) A (Wg.«list.sort» ⟨[.ref a],[]⟩) P E s:=by
 let Y:a<↥s:=i8 ho;let B:(64:8)<=ei:=7
 rw[list_sort_plain];show cb (ϋ ho 9 (cb (Ħ ho 9 ?_ (by rw[rS];lia) (mh _))));obtain⟨q,y⟩:∃q,(s.heap.update a (tr λ_=>(#v[]:Array i7))).get? a\(RB "list" #v[] q):=#[_,get?_update_seq ho λ_=>#v[]]
 show cb (ϧ y 9 (cb (wpAny_newTuple (cb (Α (K' ?_) (mh _))) (by change -vs<=_;lia))));let l:(((s.heap.update a (tr λ_=>(#v[]:Array i7))).push (RB "tuple" vs.toArray 0)).push (RB "list" #v[] 0)).get? a\(RB "list" #v[] q):=et _ (et _ y);let m:∀b o,b≠a->s.heap.get? b\o->(((s.heap.update a (tr λ_=>(#v[]:Array i7))).push (RB "tuple" vs.toArray 0)).push (RB "list" #v[] 0)).get? b\o:=λb o D e=>et _ (et _ (by rw[YG _ _ _ _ D];show e))
 change gi (i5 prog w) A _ P E {s with heap:=((s.heap.update a (tr λ_=>(#v[]:Array i7))).push (RB "tuple" vs.toArray 0)).push (RB "list" #v[] 0)}
 dsimp only
 let H:-((lq lt (ZF ⇑vs)).toList.map λi=>vs.getD i tp)=-vs:=by rw[f7,(om lt _).length_eq,Y']
 by_cases d:vs.toArray.size<2
 .rw[if_pos d,if_pos d];show cb (eT ?_);rw[StateT.run_pure];show cb (eT ?_);let I:((lq lt (ZF ⇑vs)).toList.map λi=>vs.getD i tp).toArray=(vs.toArray.zip vs.toArray).map (·.2):=by
   let r:=om lt ⇑vs;clear h g H m l ho u
   match vs,d,r with|[],_,r=>left|[v],_,r=>left|_::_::_,d,_=>simp at d;lia
  rw[I]at h
  dsimp only
  show cb (ϧ l 9 (cb (Ħ l 9 ?_ (mh _) (by grind))));erw[bne_self_eq_false,U3,if_false];show eT h
 rw[if_neg d,if_neg d];let z:2<=-vs:=by rw[rS]at d;lia
 show cb (mu (g z _ m) (λκ s0 hk=>?_) λ_ _ x=>x.elim);let(rfl,hk):=hk;show cb (mu (kat_run (κ:=κ) (ks:=vs) (vs:=vs) (G:=λp f=>p=lq lt (ZF ⇑vs)/\f={s with heap:=((s.heap.update a (tr λ_=>(#v[]:Array i7))).push (RB "tuple" vs.toArray 0)).push (RB "list" #v[] 0)})
  (Q:=λc f=>∃p:Array 8,arrOf c=p.map (kas_item (vs.toArray.zip vs.toArray))/\failedOf c=ef/\p=lq lt (ZF ⇑vs)/\f={s with heap:=((s.heap.update a (tr λ_=>(#v[]:Array i7))).push (RB "tuple" vs.toArray 0)).push (RB "list" #v[] 0)})
  9 z u (λp c f a1 J L N=>#[p,J,L,N]) (Qt.wp hk (yh 7) #[9,9])) ?_ λ_ _ e=>e)
 rintro⟨⟨⟩,c⟩ f ⟨p,t,O,rfl,rfl⟩
 dsimp only
 let T:=kat_snds 9 t;rw[T,O];show cb (ϧ l 9 (cb (Ħ l 9 ?_ (mh _) (by grind))));erw[bne_self_eq_false,U3,if_false];show eT h
abbrev I_:=5 ×Int
def UE(a:↑5)(i j:8):Bool:=eL ((~~~(a.getD i B'))<(~~~(a.getD j B')))
def mR(a:↑5):↑8:=(lq (UE a) (ZF ⇑a)).toList
def iW(a):(mR a).Perm (i9 ⇑a):=om _ _
def LW(x:5)(n:Int)(t u:Tok):Obj:={cls:=.type "tuple",data:=.seq #v[.str x t,.int n u]}
def gZ(h:Te)(b:↑ke)(c:↑I_):6:=-b=-c/\∀(j:8) (a:ke),b[j]?\a->∃p t u,c[j]?\p/\h.get? a\LW p.1 p.2 t u
def gZ.keeps(x:gZ h c d)(k:∀b o,b∈c->h.get? b\o->f.get? b\o):gZ f c d :=#[x.1,λj a e=>let ⟨p,t,u,g,i⟩:=x.2 j a e;⟨p,t,u,g,k a _ (va e) i⟩]
def gZ.tail(x:gZ h (a::c) (p::d)):gZ h c d :=#[by let:=x.1;simpa using this,λj b e=>by let(q,t,u,g,f):=x.2 (j+1) b (by exists e);show#[q,t,u,by assumption,f]]
theorem gZ.iq:∀{b}{d},gZ h b d->∃c,KatTups h (b.map rr) c/\-c=-b/\∀v∈c,∃x t,v=Rt x t
 |[],_,_=>#[[],KatTups.nil,9,by simp]|a::b,[],x=>by let:=x.1;left|a::b,p::d,x=>by
  let(c,e,f,g):=gZ.iq x.tail;let(q,t,u,j,i):=x.2 0 a 9;show#[.str q.1 t::c,KatTups.cons i 9 9 9 e,by simp[f],λv hv=>?_];obtain rfl|hv:=gb.mp hv
  .show#[_,_,9]
  show g v hv
theorem qu:∀{l:↑α}{m}{i:8}{x},Paired F l m->l[i]?\x->∃y,m[i]?\y/\F x y|_,_,_,_,.nil,e=>by simp at e|_,_,0,_,.cons r _,e=>by left|_,_,i+1,x,.cons _ t,e=>by let(u,b,a):=qu   t (by exists e);show#[u,by assumption,a]
def Ja(x:gZ s.heap a b)(f:(b.map (·.1)).Nodup)(g:i< -a)(k:j< -a)(q:C (UE (b.map (·.1)) i j) s):kas_ask prog w A (tuples' 4) (a.map rr) i j C s:=by
 let(p,t,u,d,l):=x.2 i a[i] 7;let(e,G,H,c,m):=x.2 j a[j] 7;let hl:=x.1;let n:i< -b:=7
 let o:j< -b:=7
 let r:(a.map rr).getD i tp=.ref a[i]:=by simp[Zu,g]
 let v:(a.map rr).getD j tp=.ref a[j]:=by simp[Zu,k]
 let y:(b.map (·.1)).getD i B'=p.1:=by simp[Zu,d]
 let z:(b.map (·.1)).getD j B'=e.1:=by simp[Zu,c]
 unfold kas_ask;rw[r,v];show kat_lt  l 9 m 9 ?_;unfold UE at q;rw[y,z]at q;show kat_cons (aau ?_);by_cases h:p.1=e.1
 .let B:i=j:=by
   let D:(b.map (·.1))[i]' 7=(b.map (·.1))[j]' 7:=by left
   show(ϓ f).mp D
  subst B;rw[d]at c;ext c;rw[decide_eq_true rfl];show kat_yes (kat_cons (aav ?_));rw[show(p.2==p.2)=c4 by simp];let:eL ((~~~p.1)<(~~~p.1))=df:=decide_eq_false (List.lt_irrefl _);rw[this]at q;show q
 rw[decide_eq_false h];show kat_no (oneLt_str q)
def Jb(x:gZ s.heap a b)(e:(b.map (·.1)).Nodup)(l:2<=-a):gi (i5 prog w) A (keyKind' (a.map rr).toArray) (λκ f=>f=s/\∀i j,i< -a.map rr->j< -a.map rr->∀C,C (UE (b.map (·.1)) i j) s->kas_ask prog w A κ (a.map rr) i j C s) (λ_ _=>False) s:=by
 let(m,g,n,h):=x.iq;show kat_kind (T:=.type "str") g 7 (λv k=>?_) 9 ⟨9,λi j c d C q=>?_⟩
 .let(y,t,rfl):=h v k;show Looks.of_pure 9
 rw[f7]at c d;show Ja x e c d q
def mT(H:Hp):↑(ke×↑V)->Hp|[]=>H|(a,b)::r=>upd (mT H r) a (.tup b)
theorem oo:∀{l}{b}{o},mT H l b\o->(∃c,(b,c)∈l/\o=.tup c)\/H b\o
 |[],b,o,h=>.inr h|(a,c)::r,b,o,h=>by
  by_cases d:b=a
  .subst d;rw[mT,ak]at h;left
  rw[mT,aj d]at h;obtain⟨e,f,g⟩|q:=oo h
  .show .inl #[e,by simp[f],g]
  show .inr q
theorem oq:∀{l}{b},(∀p∈l,p.1≠b)->mT H l b=H b|[],b,_=>9|(a,d)::r,b,h=>by rw[mT,aj (sg (h _ ki))];show oq λp c=>h p (by simp[c])
theorem yi:∀{l}{b}{vs},(l.map (·.1)).Nodup->(b,vs)∈l->mT H l b\.tup vs
 |(a,e)::r,b,vs,d,h=>by
  let c:a∉r.map (·.1)/\(r.map (·.1)).Nodup:=by exists d
  obtain h|h:=gb.mp h
  .cases h;show ak
  let:b≠a:=λz=>c.1 (by rw[<-z];show mn.mpr #[_,h,9]);rw[mT,aj this];show yi c.2 h
def Inv.many(I:Inv X a σ H s)(k:∀b u,s.heap.get? b\u->g.get? b\u)(d:∀b o,H b\o->f b\o) (h:∀b o,f b\o->H b\o\/(↥s<=b/\cJ X.prog X.w f g b o)):Inv X a σ f {s with heap:=g,toks:=j }:=by
 show I.un #[λb u q _ _ _=>k b u q,λb u q _ _ _=>#[_,k b u q],λb u q n _=>?_,λb u q _=>#[u,k b u q],λb i q=>d b _ q,λb u i q=>d b _ q,λb l q=>#[#v[],by rw[d b _ q];simp]] λb o e=>?_
 .cases e:f b with
  |none=>rfl|some o =>
   obtain z|⟨z,_⟩:=h b o e
   .simp_all
   show absurd (lg (i8 q) z) (y0 _)
 obtain z|⟨_,z⟩:=h b o e
 .show(I.ON b o z).mP (λc v _ q=>k c v q) (λc q=>d c _ q) λc i q=>d c _ q
 lia
def Ts(p:I_):↑V:=[.str p.1,.int p.2]
def rX{f:↑I_}(hc:X.calm=4)(I:Inv X r σ H s)(e:H d\.dK (f.map λp=>((tA p.1:Key),V.int p.2)))(O9:(f.map (·.1)).Nodup)(Tn:-f<64) (q:∀c L,-c=-f->c.Nodup->(∀a∈L::c,H a=ef)->L∉c->Q (.ref L) (upd (mT H (c.zip (f.map Ts))) L (.lst ((mR (f.map (·.1))).map λi=>V.ref (c.getD i 0))))) :
  ‹X› (WH (.builtin "dict.items") [.ref d]) (λv s1=>‹X› (WH (.builtin "sorted") [v]) (EP X r σ Q) X.xe s1) X.xe s:=by
 let ap:(64:8)<=ei:=7
 let(hz,lo,G,kv,dd):=Hk I.ON e;let J:-G=-f:=by let:=Paired.length kv;exists this.symm
 let(o,es,ep,C):=id dd;show ο F.slot_dict_items (show s.TypeIs (.ref d) "dict" from#[o,C.1,C.2.1.1]) F.entry_dict_items (F.args_dict_items_1 _) (meets_dict_items (bP X.prog X.w) d lo) #[#[G,dd],?_];change ‹X› (WH (.builtin "sorted") [.ref ↥s]) (EP X r σ Q) X.xe {s with heap:=s.heap.push {cls:=.type "dict_items",data:=.fields #v[.ref d]}};let k1:∀b u,s.heap.get? b\u->(s.heap.push {cls:=.type "dict_items",data:=.fields #v[.ref d]}).get? b\u:=λb u z=>et _ z;let ar:(s.heap.push {cls:=.type "dict_items",data:=.fields #v[.ref d]}).DictOf (bP X.prog X.w) d G:=#[o,es,ep,k1 _ _ C.1,C.2]
 let Qo:(s.heap.push {cls:=.type "dict_items",data:=.fields #v[.ref d]}).DictAt (bP X.prog X.w) d G ep:=#[o,es,k1 _ _ C.1,C.2]
 show Ņ kind_sorted plain_sorted entry_sorted (args_sorted1 _) ?_;unfold Wg.«sorted»;show cb (m:=checkCount "sorted" 1 1 _) (eT ?_);show cb (kdx_collect (A:=X.A.in1) (knd:=bP X.prog X.w) (kvs:=G) (ep:=ep) (I.ok.hd hc) #[_,gj _ 9,9,9] Qo 7 λg tk c hk hl T=>?_);let Y:-c=-f:=hl.trans J;let n:∀a∈c,↥s<=a:=λa ha=>by
  let:=T.above a ha;let z:(s.heap.push {cls:=.type "dict_items",data:=.fields #v[.ref d]}).objs.size=↥s+1:=Xy ..
  grind
 let pa:gZ g c f:=#[Y,λj a ea=>by
  let(ab,k,x,e1,e2,e3):=T.pairs j a ea;let D:j< -f:=by rw[<-Y];show(gr.mp ea).1
  let(y,ey,r1,r2):=qu kv (i:=j) (x:=((tA f[j].1:Key),V.int f[j].2)) (by simp[D]);rw[e1]at ey;ext ey;obtain⟨tx,rfl⟩:∃t,x=.int f[j].2 t:=r2;let ac:k=tA f[j].1:=r1.symm;subst ac;let(t,rfl):=ź (x:=f[j].1) (v:=ab) e2;show#[f[j],t,tx,by simp[D],e3]]
 let nd:c.Nodup:=T.rise.imp λh=>ku h;show cb (Α ?_ (by rw[f7];lia));let TL:(g.push (RB "list" (c.map rr).toArray 0)).get? g.objs.size\RB "list" (c.map rr).toArray 0:=gj _ 9;change gi _ _ _ _ _ {s with heap:=g.push (RB "list" (c.map rr).toArray 0),toks:=tk};let N:∀a∈c,a<g.objs.size:=λa ha=>T.there ha;show cb (K' (wh slot_list_sort #[_,TL,9] entry_list_sort (zL (lt:=UE (f.map (·.1))) TL (by rw[f7];lia) (λh2 s1 ks=>?_) ⟨_,9,?_⟩) (args_list_sort _)))
 .show Jb (pa.keeps λb o hb z=>ks b o (ku (N b hb)) (et _ z)) O9 (by rw[f7]at h2;show h2)
 let(ee,he):=sortedHeap_at (out:=((lq (UE (f.map (·.1))) (ZF (-c.map rr))).toList.map λi=>(c.map rr).getD i tp).toArray) TL;let B:∀b o,g.get? b\o->(aab (g.push (RB "list" (c.map rr).toArray 0)) g.objs.size (c.map rr) ((lq (UE (f.map (·.1))) (ZF (-c.map rr))).toList.map λi=>(c.map rr).getD i tp).toArray).get? b\o:=λb o z=>by let PB:b<g.objs.size:=i8 z;rw[sortedHeap_old (ku PB) (by rw[Xy];show XE PB)];show et _ z
 let U':↥s<=g.objs.size:=Ue (i8 (hk _ _ (gj _ 9)));let eP:((lq (UE (f.map (·.1))) (ZF (-c.map rr))).toList)=mR (f.map (·.1)):=by unfold mR;rw[f7,f7,Y]
 let VU:H g.objs.size=ef:=I.ON.fresh U';let al:g.objs.size∉c:=λz=>y0 _ (N _ z);let O:∀a∈c,H a=ef:=λa ha=>I.ON.fresh (n a ha);let ZT:∀{b:ke} {ws:↑V},(b,ws)∈c.zip (f.map Ts)->b∈c:=λz=>(ZR z).1;show eT #[_,9,.ref g.objs.size,upd (mT H (c.zip (f.map Ts))) g.objs.size (.lst ((mR (f.map (·.1))).map λi=>V.ref (c.getD i 0))),?_,9,q c _ Y nd (λa ha=>?_) al]
 .show I.many (λb u z=>B b u (hk b u (k1 b u z))) (λb o z=>?_) λb o z=>?_
  .let n1:b≠g.objs.size:=λy=>by rw[y,VU]at z;ext z
   rw[aj n1,oq λp hp y=>?_]
   .show z
   let:=O p.1 (ZT (b:=p.1) (ws:=p.2) hp);rw[y,z]at this;ext this
  by_cases hb:b=g.objs.size
  .subst hb;rw[ak]at z;ext z;show .inr #[U',by rw[f7,(iW _).length_eq,Y',f7];lia,(mR (f.map (·.1))).map λi=>(c.map rr).getD i tp,ee,?_,?_]
   .let QF:∀i∈mR (f.map (·.1)),i< -c:=λi hi=>by let:=uk.mp ((iW _).mem_iff.mp hi);rw[f7]at this;lia
    generalize mR (f.map (·.1))=l at QF;induction l with
    |nil=>show .nil|cons i l ih =>
     show .cons ?_ (ih λj D=>QF j (by simp[D]));let hi:=QF i 7;change RelV (.ref (c.getD i 0)) ((c.map rr).getD i tp);let:(c.map rr).getD i tp=.ref (c.getD i 0):=by simp[Zu,hi]
     rw[this];rfl
   rw[<-eP];show he
  rw[aj hb]at z;obtain⟨ws,z1,rfl⟩|z1:=oo z
  .let(j,D,ej):=ò.mp z1;let ZU:j< -c:=by simp at D;lia
   let am:j< -f:=7
   let an:c[j]=b/\Ts f[j]=ws:=by exists ej
   let(rfl,rfl):=an;let(p,t,u,e1,e2):=pa.2 j c[j] (by simp[ZU]);let:p=f[j]:=by simpa[am] using e1.symm
   subst this;show .inr #[n _ 7,by change 2<=ei;lia,[.str f[j].1 t,.int f[j].2 u],.cons #[t,9] (.cons #[u,9] .nil),_,B _ _ e2,9,0,9]
  show .inl z1
 obtain rfl|ha:=gb.mp ha
 .show VU
 show O a ha
end L2
namespace L2
open PySem PySem.Spec PyProof.Rows
def BD:VN X "str.join" (λx d H Q=>∃a p b,x=.str a/\d=[.ref p]/\Pu X.K H p (b.map V.str)/\ZZ a b=4/\Q (.str (Ds a b)) H):=by intro f s σ H x d v B Q I g i h;let(a,p,b,rfl,rfl,j,c,q):=h;let(t,rfl):=g;let(u,rfl,r):=vals1 i;ext r;let(C,m,w,D):=I.tuple j;let(l,rfl,e):=gD m;subst e;unfold ZZ at c;rw[td]at c;let(o,y,z,n,A):=w;show ZW F.slot_str_join (YJ _ _ _) F.entry_str_join (F.args_str_join_2 _ _) (meets_str_join_tuple a t p l c) #[#[o,n,y,z,A],post_join l #[joinFit_length c,λG k=>#[.str _,H,I.tok k,#[_,9],q]]]
section
variable{prog:DD}{w:Q1}{A:Y3}{E:i7->kj->6}{s:kj}
def cG.sz{h:Te}{a:ke}{led:Bool}{D}{L:↑(5 ×Tok)}{b:Array (Int×i7)}(c:b.toList=L.map (λp=>((sK prog w).hash p.1,Rt p.1 p.2)))(d:(L.map (·.1)).Perm D):b.size=-D:=by rw[<-sP,c,f7,<-d.length_eq,f7]
def cG.of(i:cG prog w h a b D):h.SetOf (sK prog w) a (λx=>eL (x∈D)) ⇑D:=by
 let(L,j,k,t,ho,c,f,o,l,m,q,r):=i;show#[_,j,k,t,ho,#[9,9,9],9,by rw[c];show t_,λx=>?_,m,l,cG.sz (h:=h) (a:=a) (led:=b) c f];rw[decide_eq_true_eq,c,<-f.mem_iff,mn];constructor
 .rintro⟨p,d,e⟩;show#[_,mn.mpr #[p,d,9],by rw[nR];simp[e]]
 rintro⟨e,n,g⟩;let(p,d,rfl):=mn.mp n;rw[nR,decide_eq_true_eq]at g;show#[p,d,g.symm]
def um(b:cG prog w s.heap a c D)(h:∀r,r.isSome=eL (x∈D)->Q r s):gi (i5 prog w) A (setFind a (.str x d) ((sK prog w).hash x)) Q E s :=wpAny_setFind_of  (by rw[nR];simp) 9 b.of h
def BE(e:s.heap.get? a\{cls:=.type "set",dict:=ef,data:=.set b k t})(g:t.fits b.size=4)(d:b.toList=[i]) (h:∀b,b.toList=[i]->Q b s) :gi (i5 prog w) A (setWalkUnseen a c f) Q E s:=by
 let l:b.size<=1:=by rw[<-sP,d];show gs _
 show cb (Pq e 9 g ?_);show cb (jL ?_);rw[if_pos ⋯];show cb (Pq e 9 g ?_);show cb (jL ?_);cases j:w.params.followText "set-order" with|true=>rw[if_pos (by show j)];show cb (ZV ?_);show eT (h _ ?_);show List.perm_singleton.mp (by rw[<-d];show ff _ _)|false=>rw[if_neg (by change ¬w.params.followText "set-order"=c4;left)];change gi _ _ (if (!t.plain&&eL (b.size>1))=4 then _ else _) _ _ s;rw[if_neg (by rw[decide_eq_false (show ¬b.size>1 by lia)];simp)];change gi _ _ ((if (!t.led&&eL (b.size>1))=4 then _ else _) >>= _) _ _ s;rw[if_neg (by rw[decide_eq_false (show ¬b.size>1 by lia)];simp)];show cb (eT (eT (h b d)))
def cG.ty(h:cG prog w s.heap a b D):s.TypeIs (.ref a) "set":=by let(_,_,_,_,ho):=h;show#[_,ho,9]
def lr(b:cG prog w s.heap a c D)(h:Q 4 s):gi (i5 prog w) A (Ϥ (.ref a)) Q E s:=by show cb (Ve b.ty ľ ?_);show eT h
def uo{a}{b}{D}{Q}(c:cG prog w s.heap a b D)(h:Q ⇑D s):gi (i5 prog w) A (ú a) Q E s:=by let(L,g,i,t,ho,d,e,j,f,_):=c;show cb (Ě ho 9 f (eT ?_));rw[cG.sz (h:=s.heap) (a:=a) (led:=b) d e];show h
def uu{id}(ho:s.heap.get? a\{cls:=.type "set",dict:=ef,data:=.set b c t})(d:t.fits b.size=4)(h:Q () s):gi (i5 prog w) A (ϡ id a c) Q E s:=by show cb (aaj ho 9 d ?_);rw[if_neg ⋯];show eT h
def BF{id}(i:cG prog w s.heap a (bM w) [x])(l:cG prog w s.heap b (bM w) u) (h:∀d,(∀c o,s.heap.get? c\o->d.get? c\o)->cG prog w d ↥s (bM w) (if x∈u then [] else [x])->Q (.ref ↥s) {s with heap:=d }):gi (i5 prog w) A (ê id a (.ref b)) Q E s:=by
 let f:∀d,Hf ↥s (s.heap.push {cls:=.type "set",dict:=ef,data:=.set #v[] 0 (.fresh 0 0 (bM w))}) d->∀c o,s.heap.get? c\o->d.get? c\o:=λd C c o e=>(C.2 c (ku (i8 e))).trans (et _ e)
 let m:a<↥s:=by let(_,_,_,_,ho,_):=i;show i8 ho
 unfold ê
 dsimp only
 show cb (lr l ?_);rw[if_neg ⋯];show cb (eT ?_);rw[if_neg ⋯,if_pos rfl];show cb (uo l (cb (uo i ?_)));rw[if_neg ⋯];unfold ϥ;show cb (cb (Ve i.ty ľ (eT (cb ?_))));change gi (i5 prog w) _ (newSet (.type "set")) _ _ s;unfold newSet setsByText;show cb (cb (ZV (eT ?_)))
 dsimp only
 erw[newObj];show cb (ϗ (eT ?_));show cb (eT ?_);let D:=i.at (h':=s.heap.push {cls:=.type "set",dict:=ef,data:=.set #v[] 0 (.fresh 0 0 (bM w))}) λo e=>et _ e;let n:=l.at (h':=s.heap.push {cls:=.type "set",dict:=ef,data:=.set #v[] 0 (.fresh 0 0 (bM w))}) λo e=>et _ e;let G:cG prog w (s.heap.push {cls:=.type "set",dict:=ef,data:=.set #v[] 0 (.fresh 0 0 (bM w))}) ↥s (bM w) []:=nW (gj _ 9);let(H,ea,I,ta,j,J,L,v,k,N,q,y):=_root_.id D;obtain⟨p,O,rfl⟩:∃p,H=[p]/\p.1=x:=by left
 subst O;show cb (aaj j 9 k ?_);show cb (K' ?_);rw[if_pos ttt];show cb (BE (s:={s with heap:=s.heap.push {cls:=.type "set",dict:=ef,data:=.set #v[] 0 (.fresh 0 0 (bM w))}}) j k J λes T=>?_);rw[<-Array.forIn_toList,T,ϫ];show cb (cb (cb (K' ?_)));rw[if_pos ttt];show cb (um n λr B=>?_);show cb (eT ?_);by_cases z:p.1∈u
 .rw[if_neg (by rw[B,decide_eq_true z];simp)];show eT ?_;show cb (uu j k ?_);show eT ?_;change gi _ _ (forIn [] aaC _) _ _ _;rw[ϱ];show eT (eT (eT (h _ (λc o e=>et _ e) ?_)));left
 rw[if_pos (by rw[B,decide_eq_false z];rfl)];show cb (nV G 7 λt g Y=>?_);show eT ?_;show cb (uu (s:={s with heap:=t}) ((g.2 a (ku m)).trans j) k ?_);show eT ?_;change gi _ _ (forIn [] aaC _) _ _ _;rw[ϱ];show eT (eT (eT (h t (f t g) ?_)));rw[if_neg z];show Y
def p9:Ď Ϙ "set.__sub__"\Wg.«frozenset.__sub__» :=č (id':="frozenset.__sub__") (by kernel_rfl) 9 (by decide +kernel) (by rfl)
def Fd(e:cG prog w s.heap a (bM w) [x])(f:cG prog w s.heap b (bM w) g) (h:∀d,(∀c o,s.heap.get? c\o->d.get? c\o)->cG prog w d ↥s (bM w) (if x∈g then [] else [x])->Q (.ref ↥s) {s with heap:=d }):gi (i5 prog w) A (YK .Sub (.ref a) (.ref b)) Q E s:=by show wpAny_binaryOp_same  e.ty f.ty F.fills_set_sub F.slot_set_sub (wh F.slot_set_sub e.ty p9 ?_ (F.args_set_sub_2 _ _));show cb  (eT  ?_);show cb (cb (lr e ?_));show lr f ?_;show cb (eT ?_);show cb (BF e f λd hk hs=>?_);show eT #[_,9,(λz=>by ext z),h d hk hs]
end
def wc(y:X.calm=4)(I:Inv X a σ H s)(hq:Py X.K H p (j.map V.str)\/Pu X.K H p (j.map V.str))(n:-j+1<WS) (h:∀S o i,↥s<=S->i.heap.get? S\o->cG X.prog X.w i.heap S (bM X.w) (bg j)->Inv X ((S,o)::a) σ H i->Q (.ref S) i) :
  ‹X› (WH (.type "set") [.ref p]) Q X.xe s:=by
 let u:=I.ok.hd y;let g:∀(c:Te) (d:8),cG _ X.w c _ _ _->(∀b o,b<↥s->s.heap.get? b\o->c.get? b\o)->Q _ _:=λc d f k=>by
  let(L,D,G,t,ho,r):=_root_.id f;let x:Inv X a σ H {s with heap:=c,toks:=d}:=I.kept λb o e=>k b o (i8 e) e;show h _ _ _ (gs _) ho f (x.fG λq hq=>?_);obtain rfl|hq:=gb.mp hq
  .show#[ho,I.ON.fresh (gs _),Sv I.lt,I.Ib (gs _),λv z=>nomatch z]
  show x.pin q (oD _ hq)
 obtain hq|hq:=hq
 .let(B,l,m,C):=I.list hq;show eQ u (.inl m.isList) (de l) n λc d f k=>g c d f k
 let(B,l,m,C):=I.tuple hq;show eQ u (.inr m) (de l) n λc d f k=>g c d f k
end L2
namespace L2
open PySem PyProof.Rows PySem.W
def Tr(h a:Te)(e:ke)(d f:i7):6:=∃oe b T oT c,h.get? e\oe/\oe.cls=d/\oe.data=.fields b/\b[2]?\.none/\b[1]?\.ref T/\a.get? T=ef/\T≠e/\h.get? T\oT/\oT.data=.fields c/\c[3]?\f
section
variable{M:Model}{A:Y3}{E:i7->kj->6}{s:kj}{base:Te}{env:Env}{outer l:List Env}{L e:ke}{oe:Obj}{vs:Array i7}{cl fl:i7}{Q:Unit->kj->6}
def jN{h:Te}(d:h.get? a\o)(f:o.data=.fields g)(i:h.get? b\c)(j:∀vs,c.data≠.fields vs):b≠a:=λz=>by left
def rY{o:Obj}(a:o.data=.fields b):(o.mapFields (·.setIfInBounds j x)).data=.fields (b.setIfInBounds j x):=La a _
def rZ{h:Te}(j)(x)(c:h.get? a\o)(d:o.data=.fields g):(h.update a (Õ (·.setIfInBounds j x))).get? a\o.mapFields (·.setIfInBounds j x)/\∀b,b≠a->(h.update a (Õ (·.setIfInBounds j x))).get? b=h.get? b :=#[sx _ c (U9 (rY d)),λb f=>PF _ _ (sg f)]
def uw(w:A.frames\(env::outer))(hl:s.heap.FunFrames base (env::outer))(x:env.frame\L)(j:s.heap.get? e\oe)(y:base.StaysIn s.heap)(G:base.get? e=ef)(a:oe.data=.fields vs)(c:1<vs.size)(H:vs[2]?\.none) (h:∀d,base.StaysIn d->d.FunFrames base (env::outer)->Tr d base e oe.cls (y4 L)->s.heap.UpToSlots d->Q () {s with heap:=d }) :gi M A (do ċ (.ref e) 1 (<-EntryCells.newEntry n (<-frameOf env) .none (y4 L) .none (<-entryPlaceOf L I))) Q E s:=by
 show cb (wpAny_frameOf_fun w hl x λk hk=>cb (wpAny_entryPlaceOf λJ B=>?_));show cb (ti ?_ (B.sizeOk5 _ _ _ _ _));let p:=(hk.2.1 e λz=>let ⟨_,o,ho,f⟩:=hl.mem z;jN j a ho f 9).trans j;let r:base.StaysIn k:=λb o q=>(hk.2.1 b λz=>by rw[(hl.mem z).1]at q;ext q).trans (y b o q);generalize t:(Obj.mk (.type "traceback") ef _ #v[])=tb;let u:=et (h:=k) tb p;let C:(k.push tb).get? k.objs.size\tb:=gj k (by subst t;rfl);let g:k.objs.size≠e:=Sv (i8 p);let(D,m):=rZ 1 (.ref k.objs.size) u a;show O' u a c (h _ (λb o q=>(m b λz=>by left).trans (et _ (r b o q))) (hl.of_keeps λb o i f=>?_) ⟨_,_,k.objs.size,tb,_,D,Ze _ _,rY a,by left,by simp[c],r.fresh,g,(m _ g).trans C,by subst t;rfl,?_⟩ λb o i f=>?_)
 .let(v,q):=hk.2.2 b o i;show#[_,(m b (jN j a i f)).trans (et _ q),9]
 .rfl
 let(v,q):=hk.2.2 b o i;show#[v,(m b (jN j a i f)).trans (et _ q)]
def Fe(p:A.frames\(env::outer))(hl:s.heap.FunFrames base (env::outer))(m:env.frame\L)(g:s.heap.get? e\oe)(r:base.StaysIn s.heap)(t:base.get? e=ef)(i:oe.data=.fields vs)(u:vs[2]?\.none) (a:vs[1]?\.none\/∃T oT n,vs[1]?\.ref T/\base.get? T=ef/\T≠e/\s.heap.get? T\oT/\oT.data=.fields n/\n[3]?\.none) (h:∀c,base.StaysIn c->c.FunFrames base (env::outer)->Tr c base e oe.cls (y4 L)->s.heap.UpToSlots c->Q () {s with heap:=c }):gi M A (noteFrame (.ref e) env) Q E s:=by
 unfold noteFrame;erw[m];obtain a|⟨T,oT,n,a,D,w,d,f,v⟩:=a
 .show cb (LF g i a ?_);rw[if_neg ⋯];show uw p hl m g r t i (Up.mp a).1 u h
 show cb (LF g i a ?_);rw[if_pos ⋯];show cb (LF d f v ?_);let(G,j):=rZ 3 .none d f;show cb (O' d f (Up.mp v).1 ?_);show uw (s:={s with heap:=_}) p (hl.of_keeps λb o q k=>#[o,(j b (jN d f q k)).trans q,9]) m ((j e (sg w)).trans g) (λb o q=>(j b λz=>by left).trans (r b o q)) t i (Up.mp a).1 u λc x y B C=>h c x y B λb o q k=>C b o ((j b (jN d f q k)).trans q) k
def Ff(p:base.StaysIn s.heap)(hl:s.heap.FunFrames base l)(r:Tr s.heap base e cl fl) (h:∀a,base.StaysIn a->a.FunFrames base l->Tr a base e cl .none->s.heap.UpToSlots a->Q () {s with heap:=a }):gi M A (setFlight (.ref e) ef) Q E s:=by let(oe,vs,T,oT,y,i,t,j,u,k,v,m,d,c,w):=r;let(x,f):=rZ 3 _ d c;let n:=(Up.mp w).1;show cb (LF i j k ?_);show O' d c n (h _ (λb o q=>(f b λz=>by left).trans (p b o q)) (hl.of_keeps λb o q g=>#[o,(f b (jN d c q g)).trans q,9]) ⟨oe,vs,T,_,_,(f e (sg m)).trans i,t,j,u,k,v,m,x,rY c,by simp[n]⟩ λb o q g=>#[_,(f b (jN d c q g)).trans q])
end
def Ob(h:Te)(e C:ke)(T:Option ke)(c:i7):6:=∃oe a,h.get? e\oe/\oe.cls=.ref C/\oe.data=.fields a/\a[2]?\.none/\match T with|none=>a[1]?\.none|some T=>T≠e/\a[1]?\.ref T/\∃oT b,h.get? T\oT/\oT.data=.fields b/\b[3]?\c
structure cy(P:DD)(w:Q1)(stack:↑Env)(H:Hp)(s:kj)(e C:ke)(T:Option ke)(fl:i7)(H':Hp)(s':kj):6 where
 os:s'.os=s.os
 bare:ã s'.gens
 un:Un (PM stack) [] H H' s.heap s'.heap
 ON:P8 P w H' s'.heap
 new:s.heap.get? e=ef
 he:H' e=ef
 exc:Ob s'.heap e C T fl
 hT:∀a,T\a->s.heap.get? a=ef/\H' a=ef
def Q_(P:DD)(w:Q1):U7:=λa H s E v c=>∃e C T b,v=.ref e/\cy P w a H s e C (b6 T) .none b c/\E (.ref C) ef b
def cJ.there(x:cJ P w H h a o):∃u,h.get? a\u:=by cases o with|lst b=>let(_,_,_,_,e):=x;show#[_,e]|tup b=>let(_,_,_,_,e,_):=x;show#[_,e]|set S n=>let(o,_,_,_,e,_):=x;show#[_,e]|ins C d c=>let(_,_,_,e,_):=x;show#[_,e]|own y=>show x|xd c=>let(_,(_,_,_,e,_),_):=x;show#[_,e]|Xw lo g=>let(_,_,_,e):=x;show#[_,e]|QD i u=>show#[_,x.1]|Ui j=>show#[_,x]|met f y=>show#[_,x]|ext φ=>show x.2.1|_=>let(_,_,_,_,o,_,_,e,_):=x;show#[_,e]
section
variable{P:DD}{w:Q1}{stack outer:List Env}{H H':Hp}{s s':kj}{e C L:ke}{T:Option ke}{fl:i7}{base:Te}{env:Env}{M:Model}{A:Y3}{E:i7->kj->6}{Q:Unit->kj->6}
theorem yj(u:Un (PM stack) [] H H' s.heap s'.heap)(a:∀b∈PM stack,H b=ef):∀l,(∀b∈PM l,b∈PM stack)->s.heap.FunFrames base l->s'.heap.FunFrames base l
 |[],_,_=>trivial|env::l,hs,⟨hk,⟨L,o,c,d,ho,f⟩,g⟩=>by
  let h:PM (env::l)=L::PM l:=by unfold PM;left
  rw[h]at hs;let(j,q):=u.any ho (a L (hs L ki)) λz=>nomatch z
  show#[hk,#[L,_,c,d,q,f],yj u a l (λb i=>hs b (ib _ i)) g]
def cy.next(F:cy P w stack H s e C T fl H' s')(G:s.heap.FunFrames base stack)(I:∀b∈PM stack,H b=ef)(hB:B=hideAll s'.heap (e::(T.toList++PM stack))):B.StaysIn s'.heap/\s'.heap.FunFrames B stack/\B.get? e=ef/\(∀a,T\a->B.get? a=ef) /\ ∀g r,B.StaysIn g->g.FunFrames B stack->Tr g B e (.ref C) r->s'.heap.UpToSlots g->∃d,cy P w stack H s e C (b6 d) r H' {s' with heap:=g }:=by
 let j:=yj F.un I _ (λ_ z=>z) G;subst hB;show#[λb o q=>of_hideAll _ q,funFrames_hide j λZX h1 a h2=>ib _ (oD _ (YV.mpr #[ZX,h1,h2])),hideAll_none _ ki,λa z=>hideAll_none _ (ib _ (S0 _ (by simp[z]))),λg r k1 k2 ⟨t,PH,d,v,x,b1,b2,b3,b0,b4,b5,J,b7,b8,b9⟩ k4=>?_];let y:∀a,a∈e::(T.toList++PM stack)->H' a=ef:=λa ha=>by
  obtain rfl|ha:=gb.mp ha
  .show F.he
  obtain ha|ha:=my.mp ha
  .show(F.hT a (by exists ha)).2
  let(_,o,ho,_):=G.mem ha;show F.un.free a o ho (I a ha) λz=>nomatch z
 let f:∀b o,b∉e::(T.toList++PM stack)->s'.heap.get? b\o->g.get? b\o:=λb o c q=>k1 b o (hideAll_get _ q c);let h:∀b o,b∈PM stack->s'.heap.get? b\o->∃N,g.get? b\{o with slots:=N}:=λb o c q=>by let(_,D,k,O):=j.mem c;rw[q]at k;ext k;show k4 b o q O
 let l:∀b o,s.heap.get? b\o->b∉PM stack->b∉e::(T.toList++PM stack):=λb o q c z=>by
  obtain z|z:=gb.mp z
  .rw[z,F.new]at q;ext q
  obtain z|z:=my.mp z
  .rw[(F.hT b (by exists z)).1]at q;ext q
  show c z
 let tn:s.heap.get? d=ef/\H' d=ef:=by
  by_cases z:d∈e::(T.toList++PM stack)
  .rcases gb.mp z with z|z
   .show absurd z J
   obtain z|z:=my.mp z
   .show F.hT d (by exists z)
   let(_,D,k,O):=k2.mem z;left
  let q:s'.heap.get? d=ef:=by cases q:s'.heap.get? d with|none=>rfl|some o=>let:=hideAll_get _ q z;left
  show#[?_,?_]
  .cases i:s.heap.get? d with|none=>rfl|some o=>let(D,Y):=F.un.there _ o i λz=>nomatch z;rw[q]at Y;ext Y
  cases i:H' d with|none=>rfl|some u=>let(o,z):=(F.ON d u i).there;rw[q]at z;ext z
 show#[d,F.os,F.bare,#[λb o q n c m=>f b o (l b o q c) (F.un.keep b o q n c m),λb o q n c m=>?_,F.un.free,λb o q m=>?_,F.un.iq,F.un.P9,F.un.Qi],λa u q=>(F.ON a u q).mP (λb o c k=>?_) (λ_ z=>z) λ_ _ z=>z,F.new,F.he,#[t,PH,b1,b2,b3,b0,J,b4,v,x,b7,b8,b9],λa z=>by ext z;show tn]
 .let(N,p):=F.un.slot b o q n c m;let(VG,i):=h b _ c p;show#[VG,i]
 .let(D,p):=F.un.there b o q m;by_cases c:b∈PM stack
  .let(VG,i):=h b _ c p;show#[_,i]
  show#[_,f b _ (l b o q c) p]
 show f b o (λz=>?_) k;let:=y b z;left
def cy.note(F:cy P w (env::outer) H s e C T .none H' s')(f:A.frames\(env::outer))(g:env.frame\L)(i:s.heap.FunFrames base (env::outer))(j:∀b∈PM (env::outer),H b=ef) (h:∀a c,cy P w (env::outer) H s e C (b6 a) (y4 L) H' c->Q () c):gi M A (noteFrame (.ref e) env) Q E s':=by
 let(oe,Y,k,l,m,n,d):=F.exc;let(o,p,q,r,t):=F.next i j 9;show Fe f p g k o q m n ?_ λu v x y B=>?_
 .cases T with|none=>show .inl d|some T=>let(D,G,oT,I,J,N,O):=d;show .inr #[T,oT,I,G,r T 9,D,J,N,O]
 let(a,z):=t u _ v x (l▸y) B;show h _ _ z
def cy.land{T}(F:cy P w stack H s e C (b6 T) fl H' s')(d:s.heap.FunFrames base stack)(f:∀b∈PM stack,H b=ef) (h:∀a c,cy P w stack H s e C (b6 a) .none H' c->Q () c):gi M A (setFlight (.ref e) ef) Q E s':=by let(oe,g,i,j,k,l,m,n,oT,o,p,q,r):=F.exc;let(t,u,J,v,x):=F.next d f 9;show Ff t u #[oe,g,T,oT,o,i,j,k,l,n,v T 9,m,p,q,r] λy B D G I=>?_;let(a,z):=x y _ B D G I;show h _ _ z
def cy.leave(F:cy P w (env::outer) H s e C T .none H' s')(g:A.frames\(env::outer))(i:env.frame\L)(c:s.heap.FunFrames base (env::outer))(d:∀b∈PM (env::outer),H b=ef) (h:∀f a,cy P w (env::outer) H s e C (b6 f) .none H' a->Q () a):gi M A (leaving env (.ref e)) Q E s' :=cb (F.note g i c d λf a j=>j.land c d h)
end
def cy.down(I:Inv X j σ H s)(y:X.ex=[])(hs:X.stack=X.env::X.outer)(A:X.env.frame\X.env.locals)(F:cy X.prog X.w X.stack H s e C T p r t):cy X.prog X.w X.outer X.H₀ X.s₀ e C T p r t:=by
 let c:∀b ,b∉X.ex:=λb z=>by left
 let k:PM X.stack=X.env.locals::PM X.outer:=by unfold PM;left
 let d:∀b,s.heap.get? b=ef->X.s₀.heap.get? b=ef:=λb q=>by cases z:X.s₀.heap.get? b with|none=>rfl|some o=>let(h,z):=I.base.there b o z (c b);left
 let hl:∀b o,X.s₀.heap.get? b\o->b≠X.env.locals:=λb o q=>ku (lg (i8 q) I.ok.above);let i:∀b:ke,b∉[]:=λb z=>nomatch z
 show#[F.os.trans I.os,F.bare,#[λb o q n g _=>?_,λb o q n g _=>?_,λb o q n _=>?_,λb o q _=>?_,λb l q=>F.un.iq b l (I.base.iq b l q),λb o u q=>F.un.P9 b o u (I.base.P9 b o u q),λb v q=>?_],F.ON,d _ F.new,F.he,F.exc,λa z=>#[d _ (F.hT a z).1,(F.hT a z).2]]
 .show F.un.keep b o (I.base.keep b o q n g (c b)) (I.base.free b o q n (c b)) (λz=>by rw[k]at z;show(gb.mp z).elim (hl b o q) g) (i b)
 .let(B,f):=I.base.slot b o q n g (c b);let(x,m):=F.un.slot b _ f (I.base.free b o q n (c b)) (by rw[k];show ib _ g) (i b);show#[x,m]
 .let(h,f):=I.base.there b o q (c b);show F.un.free b h f (I.base.free b o q n (c b)) (i b)
 .let(h,f):=I.base.there b o q (c b);show F.un.there b h f (i b)
 let(m1,f):=I.base.Qi b v q;let(m2,m):=F.un.Qi b _ f;show#[m1++m2,by left]
def cy.made(I:Inv X c σ H s)(b:Heap.MadeExcOf s.heap d e (.ref C) g):cy X.prog X.w X.stack H s e C ef .none H {s with heap:=d }:=by let(t,f,_):=b.there;show#[9,I.bare,Un.kept b.keeps,I.ON.kept b.keeps,b.new,?_,#[_,_,f,9,9,9,9],λa z=>nomatch z];cases z:H e with|none=>rfl|some u=>let(o,q):=(I.ON e u z).there;rw[b.new]at q;ext q
def VW:↑i7:=[.type "ValueError",.type "Exception",.type "BaseException",.type "object"]
def MqB(p:ke->↑i7->Option i7->Option i7->Option i7->Option i7->String->Option i7->Bool)(M:↑i7)(S:↑(Option i7)):6:=∃C a b c d e n f,M=.ref C::a/\S=[b,c,d,e,b6 (.builtin n),f]/\p C a b c d e n f=4
def nf{P:6}(h:df=4):(P):=nomatch h
def Jc(q:excIn.match_1 (λ_ _=>Bool) M S p (λ_ _=>df)=4):MqB p M S:=by
 cases M with
 |nil=>show nf q|cons v a =>
  cases v with
  |ref C =>
   cases S with
   |nil=>show nf q
   |cons b S =>
   cases S with
   |nil=>show nf q
   |cons c S =>
   cases S with
   |nil=>show nf q
   |cons d S =>
   cases S with
   |nil=>show nf q
   |cons e S =>
   cases S with
   |nil=>show nf q
   |cons f S =>
   cases f with
   |none=>show nf q
   |some v =>
   cases v with
   |builtin n =>
    cases S with
    |nil=>show nf q
    |cons g S =>
    cases S with
    |nil=>show#[C,a,b,c,d,e,n,g,9,9,q]
    |cons _ _=>show nf q
   |_=>show nf q
  |_=>show nf q
def MqA(p:Option ke->ClassData->Array (Option i7)->Bool)(o:Option Obj):6:=∃d a b,o\#[.type "type",d,.cls a,b]/\p d a b=4
def Jd(q:excIn.match_6 (λ_=>Bool) o p (λ_=>df)=4):MqA p o:=by
 split at q
 .show#[_,_,_,9,q]
 left
def Je{K:Frag}{P:6}(d:K.In h)(q:excIn K C VW a=4)(k:∀e N f g i c j sub m b dd o p r s t u,h.get? C\excClassObj f g C N i e c j sub m b dd o p r s t a->h.Ns N u->u "__init__"=ef->OwnTail h VW e->P):(P):=by let(dd,y,z,ho,v):=Jd q;let(O,e,o,p,r,s,n,t,A,hs,w):=Jc v;clear q v;let(f,i,B,D,g,G,j,sub,m,b,H):=y;let⟨l⟩:=z;erw[dt,beq_iff_eq,td]at w;obtain⟨⟨⟨⟨⟨rfl,rfl⟩,I⟩,J⟩,x⟩,L⟩:=w;subst A I;obtain rfl:l=_:=hs;show k e D f g i G j sub m b dd o p r s t _ (d _ _ ho) (.of_isNs (isNs_of_in d x)) (nsMap_none_of_in d x L) (tail_of_in d J)
def BG(j:X.calm=4)(k:Gl X x)(f:X.mg x\.ref C)(l:(x==("__debug__":5))=df)(m:excIn X.K C VW "ValueError.__new__"=4)(n:PE X a o) (g:j0 [a] X.env=[(df,uv a X.env)]) :PS X (.Raise (b6 (.Call (.Name x p) [a] [] J)) ef r) (λD σ H=>o σ H λv d=>∀b s e i,Inv X b σ d s->cy X.prog X.w X.stack d s e C ef .none d i->X.xe (.ref e) i):=by intro b s σ H D I h;show Je I.mod.Uj m λL N nm t bs hdct sn sub ab col dd k0 k1 k2 k3 k5 O y z A T=>?_;show wpAny_Raise_call_subT (nm:=nm) (q:=t) (N:=N) (bs:=bs) (hdct:=hdct) (sn:=sn) (sub:=sub) (ab:=ab) (col:=col) (dd:=dd) (k0:=k0) (k1:=k1) (k2:=k2) (k3:=k3) (k5:=k5) χ (T.hasType χ.hasBase) (I.ok.hd j) (by rw[g];rfl) A (eO I k f #[9,?_] l);rw[g];show Sq (vr (OV (n b s σ H _ I h) λu B ⟨v,d,c,Q,G⟩=>Q9 #[9,?_,c.bk _ _ y,z.keeps c.bk,T.keeps c.bk,λY e f=>G b B e _ c (.made c f)]));show(by decide:1<=ei)
def LX:Passes (Q_ X.prog X.w) X E0:=λ_ _ _ _ _ _ _ ⟨_,_,_,_,_,_,h⟩=>h.elim
def m_(F:d7 X.prog X.w X.K X.mg X.base i k f j c l)(m:cY k X.A)(n:Binds X.K j c [])(I:Inv X a σ H s)(r:Vals vs us)(h:l vs H Q E) (o:∀e b,i X.stack H s E e b->EE e b):‹X› (WH (.ref f) us) (EP X a σ Q) EE s:=by
 let hl:-us=-c:=by rw[<-⇑r];show F.len _ _ _ _ h
 let d:=n s us I.QA 7;rw[P']at d;show ŧ (Zy (F.run X.A _ s H _ us vs Q E m I.IC d r h) λr b g=>?_);cases r with
 |error e=>show o e b g|ok p =>
  cases p with
  |ret u=>show I.after g
  |_=>assumption
abbrev Cx.TZ(X:Cx)(e:ke)(oe:Obj)(E:i7->kj->6):Cx:={X with A:=X.A.mark (b6 (.ref e)),calm:=df,pn:=(e,oe)::X.pn,xe:=E}
def Inv.TZ(I:Inv X a σ H s)(b:s.heap.get? e\oe)(c:H e=ef)(d:e≠X.env.locals)(f:e∉X.fs)(g:∀v,oe.data≠.cell v):Inv (X.TZ e oe E) a σ H s :=
 #[#[I.ok.mod,I.ok.kind,I.ok.glob,I.ok.blt,I.ok.above,I.ok.inj,I.ok.has,I.ok.U0,λz=>(nomatch z),I.ok.frames,I.ok.VF,I.ok.Xx,I.ok.bs,I.ok.SD,I.ok.Ru,I.ok.R3,I.ok.j4,I.ok.TK],I.os,I.bare,I.base,I.loc,I.cell,I.free,I.Pb,
  λp h=>(gb.mp (show p∈(e,oe)::(X.pn++a) from h)).elim (λz=>by subst z;show#[b,c,d,f,g]) λz=>I.pin p z,I.ON,I.len]
def Inv.Oc(b:X.Ok)(I:Inv (X.TZ e oe E) a σ H s):Inv X a σ H s :=#[b,I.os,I.bare,I.base,I.loc,I.cell,I.free,I.Pb,λp c=>I.pin p (ib _ c),I.ON,I.len]
def Inv.gone(I:Inv X f σ H s)(L:X.N.Nodup)(x:X.N[j]?\n)(hl:X.env.scope.names.lookup n\.local) (h:∀B,Inv X f (σ.set j ef) H B->Q () B):gi M A (do bindName X.env n .none;unbindBehindTheSuite X.env n O) Q E s:=by
 let(m,T,Y):=id I.loc;let U1:(X.env.scope.kind==.class||(X.env.scope.kind==.module&&X.env.locals != X.env.globals))=df:=by rw[I.ok.kind];rfl
 show wpAny_nameGoes_keeps hl T U1 λh' v Um hs=>h _ ?_;let C:=I.SE;let Ti:j < -σ:=by rw[I.len];show(gr.mp x).1
 let t:∀b o,X.s₀.heap.get? b\o->b≠X.env.locals:=λb o q=>ku (lg (i8 q) I.ok.above);show#[I.ok,I.os,I.bare,#[λb o e n w g=>(hs.2 b (t b o e)).trans (I.base.keep b o e n w g),λb o e n w g=>?_,I.base.free,λb o e g=>?_,I.base.iq,I.base.P9,I.base.Qi],#[_,Um,λi y u D k e3=>?_],λy c e=>?_,I.free,I.Pb,λp hp=>?_,λb ob e=>(I.ON b ob e).mP (λc w' hc q=>(hs.2 c ?_).trans q) (λ_ q=>q) λ_ _ q=>q,by exists I.len]
 .let(sl,q):=I.base.slot b o e n w g;show#[sl,(hs.2 b (t b o e)).trans q]
 .let(o',q):=I.base.there b o e g;show#[o',(hs.2 b (t b o e)).trans q]
 .let G:i≠j:=λz=>by subst z;rw[i4 Ti]at k;ext k
  rw[ko (sg G)]at k;let(J,r,l):=Y i y u D k e3;show#[J,r,l.imp (λ⟨a,b⟩=>#[a,?_]) λ⟨a,c,b,d⟩=>#[a,c,b,d.sameBut hs (C y c b)]];change(if y=n then v else m y)\J;rw[if_neg λ(z:y=n)=>G (j6 L D (by rw[z];show x))];show b
 .let(u,z):=I.cell y c e;show#[u,z.sameBut hs (C y c e)]
 .let(a,b,c,d):=I.pin p hp;show#[(hs.2 p.1 c).trans a,b,c,d]
 rintro rfl;obtain hc|hc:=hc
 .rw[<-hc,I.free]at e;ext e
 rw[I.free]at hc;ext hc
section
variable{prog:DD}{w:Q1}{A:Y3}{E:i7->kj->6}{h:Te}{g:Array Ų}{d:Drawn}{t:8}{os:OsState}{a C:ke}{o:Obj}{K:Frag}
def uA(e:K.In h)(hs:subIn K (.ref C) (.type "object")\4)(f:h.get? a\o)(c:o.cls=.ref C)(j:R (.ok (.ret (.ref C))) #[h,g,d,t,os]):Ya (i5 prog w) A (.call (.builtin "getset_descriptor.__get__") #[[.builtin "object.__class__",.ref a,.ref C],[]]) R #[h,g,d,t,os]:=by
 let b:=ε;let i:Looks (i5 prog w) h (Ï (.ref C) (.type (".".intercalate ("object.__class__".cutAt '.').dropLast))) 4:=by rw[F.owner_object_class];show looks_subIn e hs
 show Đ ų.plain F.entry_gs_get (ų.check _ _ _ _ _ _ _ _ b (F.args_gs_get _ _ _) ?_)
 repeat (any_goals (first|assumption|(with_reducible show à f ?_;rw[c])|with_reducible show i.at ?_|wp_step))
 show#[Ć _ (by decide +kernel),RS F.entry_object_class ?_]
 repeat (any_goals (first|assumption|(with_reducible rw[c])|wp_step))
def p_(b:K.In h)(hs:subIn K (.ref C) (.type "object")\4)(f:findIn K (.ref C) "__class__"\b6 (.builtin "object.__class__"))(c:h.get? a\o)(e:o.cls=.ref C)(j:Q (.done (.ret (.ref C))) #[h,g,d,t,os]):gi (i5 prog w) A (Wg.«object.__getattribute__» ⟨[.ref a,.str "__class__" k],[]⟩) Q E #[h,g,d,t,os]:=by
 let i:Looks (i5 prog w) h _ _:=π b f;let l:=ε;let m:=ų.lookup;let n:=F.slot_gs_set.lookup
 repeat (any_goals (first|assumption|(with_reducible show à c ?_;rw[e])|with_reducible show i.at ?_|wp_step))
 show uA b hs c e ?_
 repeat (any_goals (first|assumption|wp_step))
def we(b:K.In h)(hs:subIn K (.ref C) (.type "BaseException")\4)(c:h.get? a\o)(e:o.cls=.ref C)(f:Q () #[h,g,d,t,os]):gi M A (aaw "BaseException.__getattribute__" ⟨[.ref a,i],[]⟩) Q E #[h,g,d,t,os]:=by
 let hk:builtinKind "BaseException.__getattribute__"\.slot:=by decide +kernel
 let j:splitId "BaseException.__getattribute__"\("BaseException","__getattribute__"):=by decide +kernel
 let k:Looks M h (Ï (.ref C) (.type "BaseException")) 4:=looks_subIn b hs;let l:=F.args_bexc_ga (.ref a) i;erw[aaw,hk,j];show cb ?_
 unfold isInstance
 repeat (first|(with_reducible show à c ?_;rw[e])|with_reducible show k.at ?_|wp_step)
 show f
def g7(K:Frag)(C:ke):Bool:=subIn K (.ref C) (.type "object")==b6 4&&subIn K (.ref C) (.type "BaseException")==b6 4&&findIn K (.ref C) "__class__"==b6 (b6 (.builtin "object.__class__"))&&findIn K (.ref C) "__getattribute__"==b6 (b6 (.builtin "BaseException.__getattribute__"))&&findIn K (.ref C) "__getattr__"==b6 ef&&(clsIn K C).isSome
def wg(b:K.In h)(f:g7 K C=4)(c:h.get? a\o)(e:o.cls=.ref C)(r:Q (.ref C) #[h,g,d,t,os]):gi (i5 prog w) A (getAttrBy (.ref a) (.str "__class__" s) df) Q E #[h,g,d,t,os]:=by
 erw[g7,dt,beq_iff_eq]at f;obtain⟨⟨⟨⟨⟨i,j⟩,k⟩,l⟩,m⟩,_⟩:=f;let u:=ϭ.ga.bind (.ref a);let v:(df&&onTheHeap (Ë "BaseException.__getattribute__"))=df:=9;let n:(Ë "BaseException.__getattribute__"==Ë "object.__getattribute__")=df:=by decide +kernel
 let p:(onTheHeap (rr C)&&Ë "BaseException.__getattribute__"==Ë "object.__getattribute__")=df:=by rw[n];rfl
 let q:Looks (i5 prog w) h (Ô (.ref C) "__getattribute__") (b6 (.builtin "BaseException.__getattribute__")):=π b l;let L2:Looks (i5 prog w) h (Ô (.ref C) "__getattr__") ef:=π b m
 repeat (any_goals (first|assumption|(with_reducible show à c ?_;rw[e])|with_reducible show q.at ?_|with_reducible show L2.at ?_|wp_step))
 show Đ ϭ.ga.plain F.entry_bexc_ga (we b j c e (p_ b i k c e ?_))
 repeat (any_goals (first|assumption|wp_step))
def r6(b:K.In h)(c:g7 K C=4)(e:h.get? a\o)(f:o.cls=.ref C)(i:Q (b6 (.ref C)) #[h,g,d,t+1,os]):gi (i5 prog w) A (getAttr? (.ref a) "__class__") Q E #[h,g,d,t,os]:=by
 unfold getAttr? getAttrBy?
 repeat (any_goals (first|assumption|with_reducible apply wg b c e f|wp_step))
end
def uB{K}(b:g7 K C=4):KitX K (.ref a) (.ref C) (λh=>∃o,h.get? a\o/\o.cls=.ref C) where
 ty:=λM h _ j=>by let(o,f,i):=j;show(Looks.ld f).andThen ?_;rw[i];show .now
 it:=λM h c _ A Q E s k q=>by
  erw[g7,dt]at b;let z:=b.2;unfold clsIn at z;split at z
  .rename_i ho;unfold isType loadHead;show cb (wpAny_loadPart (k _ _ (c _ _ ho)) (eT q))
  ext z
 ne:=λh l dd m n p c e=>by
  erw[g7,dt]at b;let z:=b.2;unfold clsIn at z;split at z
  .rename_i ho;rw[beq_eq_false_iff_ne];intro q;ext q;let:=c _ _ ho;rw[e]at this;ext this
  ext z
 ca:=λ{_ _ _ _ _ s} c ⟨o,f,i⟩ q=>by let(h,g,d,t,os):=s;show r6 c b f i q
def Inv.LY(I:Inv X d σ H s)(g:s.heap.get? e\oe)(j:H e=ef)(k:X.s₀.heap.get? e=ef)(l:e≠X.env.locals)(r:∀x c,X.env.cells.lookup x\c->c≠e)(t:∀p∈X.pn++d,p.1≠e):Inv X d σ (upd H e (.QD oe (.ext λ_=>True))) s:=by
 let f:∀b o,H b\o->b≠e:=λb o q=>ay q j;show#[I.ok,I.os,I.bare,#[I.base.keep,I.base.slot,λb o q n v=>?_,I.base.there,λb h q=>?_,λb o u q=>?_,λb w q=>?_],I.loc,I.cell,?_,λx c q=>?_,λp i=>?_,λb u q=>?_,I.len]
 .rw[aj (λz=>by rw[z,k]at q;ext q)];show I.base.free b o q n v
 .let:=I.base.iq b h q;rw[aj (f b _ this)];show this
 .let:=I.base.P9 b o u q;rw[aj (f b _ this)];show this
 .let(m,q):=I.base.Qi b w q;show#[m,by rw[aj (f b _ q)];show q]
 .rw[aj (sg l)];show I.free
 .rw[aj (r x c q)];show I.Pb x c q
 .let(a,b,c):=I.pin p i;show#[a,by rw[aj (t p i)];show b,c]
 by_cases z:b=e
 .subst z;rw[ak]at q;ext q;show#[g,ttt,#[oe,g],λ_ _ _ _=>ttt]
 rw[aj z]at q;show(I.ON b u q).mP (λ_ _ _ q=>q) (λc q=>by rw[aj (f c _ q)];show q) λc h q=>by rw[aj (f c _ q)];show q
end L2
namespace L2
open PySem PySem.Spec PyProof.Rows
abbrev Cx.O9(X:Cx)(e:ke):Cx:={X with A:=X.A.mark (b6 (.ref e)),calm:=df,xe:=λ_ _=>False}
def Inv.O9(I:Inv X a σ H s):Inv (X.O9 e) a σ H s :=#[#[I.ok.mod,I.ok.kind,I.ok.glob,I.ok.blt,I.ok.above,I.ok.inj,I.ok.has,I.ok.U0,λz=>(nomatch z),I.ok.frames,I.ok.VF,I.ok.Xx,I.ok.bs,I.ok.SD,I.ok.Ru,I.ok.R3,I.ok.j4,I.ok.TK],I.os,I.bare,I.base,I.loc,I.cell,I.free,I.Pb,I.pin,I.ON,I.len]
def Inv.Oe(b:X.Ok)(I:Inv (X.O9 e) a σ H s):Inv X a σ H s :=#[b,I.os,I.bare,I.base,I.loc,I.cell,I.free,I.Pb,I.pin,I.ON,I.len]
end L2
namespace L2
open PySem PyProof.Rows PySem.W
def Sm.refl(H):hV H H:=λ_ _ z=>z
def Sm.trans(a:hV H c)(b:hV c d):hV H d:=λx o z=>b x o (a x o z)
def Sm.upd(h:H p=ef):hV H (upd H p o):=λx y z=>by rw[aj (ay z h)];show z
def Fg(K:Frag)(i:8)(e:5)(b:Bool):TE:=λσ H Q=>∃(a:ke) (oe:Obj) (u:HO) (c:ke),σ[i]?\b6 (.ref a)/\H a\.QD oe u/\oe.cls=.ref c/\ŭ K kr e\b6 (.ref c)/\∀d,hV H d->Q (.bl b) d
def Jf(j:X.N[i]?\n)(k:PV X.env.scope n)(l:(n==("__debug__":5))=df)(m:(n==("__classdict__":5))=df)(o:Gl X "isinstance")(r:X.mg "isinstance"=ef)(t:PE X (.Name D v) (tC f))(w:∀u,RelV f u->u=x) (y:∀a,ŭ X.K kr A\b6 (.ref a)->g7 X.K a=4/\kitOne X.K (.ref a) x\b):PE X (.Call (.Name "isinstance" p) [.Name n p1,.Name D v] [] B) (Fg X.K i A b):=by rintro c s σ H Q I ⟨g,oe,u,a,C,G,J,L,q⟩;show tj (dr I o r (show H8 _\.builtin "isinstance" by decide +kernel) ?_ (by decide +kernel) (by decide +kernel));show VA (OV (bY (br j k l m) (bY t dw) 9 B c s σ H (λh O=>h=[.ref g,f]/\O=H) I ⟨_,C,9,9⟩) λus s1 T=>?_);let(h,H1,d,Y,e,e2):=T;subst e e2;let(u1,u2,rfl,WV,WX):=vals2 Y;obtain rfl:=w _ WX;ext WV;let(k1,k2):=y a L;show kia_one (uB k1) d.QA #[oe,(d.ON g _ G).1,J] k2 (λz=>nomatch z) λtk=>?_;show#[.bl b,_,d.tok tk,9,q _ (Sm.refl _)]
inductive ot(X:Cx)(cl:5):↑nS->↑i7->6 where|nil:ot X cl [] []|cons {D:Str} {p:Pos} {vD:V} {dv:i7} {es:↑nS} {ds:↑i7} (hD:PE X (.Name D p) (tC vD)) (hr:∀u,RelV vD u->u=dv) (ht:∀Cc,ŭ X.K kr cl\b6 (.ref Cc)->g7 X.K Cc=c4/\kitOne X.K (.ref Cc) dv\df) (t:ot X cl es ds):ot X cl (.Name D p::es) (dv::ds)
def ot.pa(h:ot X n e f):∃c,PA X e (λ_ H Q=>Q c H)/\-c=-e/\∀d,Vals c d->d=f:=by
 induction h with
 |nil=>show#[[],dw,9,λd r=>by ext r;rfl]|@cons D p o q e f g i s t j =>
  let(c,k,l,m):=j;show#[_,bY   g k,by simp[l],λd r=>?_];cases r with
  |cons a b=>rw[i _ a,m _ b]
def ot.no(h:ot X b g c)(d:ŭ X.K kr b\b6 (.ref a)):kitAny X.K (.ref a) c\df:=by induction h with|nil=>rfl|cons i j e t f=>unfold kitAny;rw[(e a d).2];show f
def ot.ok(h:ot X b c g)(d:c≠[])(e:ŭ X.K kr b\b6 (.ref a)):g7 X.K a=4:=by cases h with|nil=>show absurd 9 d|cons i j f t=>show(f a e).1
def Jg(r:X.N[i]?\n)(v:PV X.env.scope n)(w:(n==("__debug__":5))=df)(x:(n==("__classdict__":5))=df)(y:Gl X "isinstance")(A:X.mg "isinstance"=ef)(c:ot X B d ds)(C:d≠[])(hl:-d<100):PE X (.Call (.Name "isinstance" p) [.Name n p1,.Tuple d x1 p2] [] D) (Fg X.K i B df):=by
 rintro a s σ H Q I ⟨h,oe,u,Cc,G,J,L,j,q⟩;let(k,O,UG,T):=c.pa;show tj (dr I y A (show H8 _\.builtin "isinstance" by decide +kernel) ?_ (by decide +kernel) (by decide +kernel));let Y:1000<=ei:=7
 let f:-k<=ei:=7
 show VA (OV (bY (br r v w x) (bY (A7 O) dw) 9 D a s σ H (λl H'=>∃t,l=[.ref h,.ref t]/\H t=ef/\H'=upd H t _) I ⟨_,G,f,λt g=>#[t,9,g,9]⟩) λus s1 Z1=>?_);let(l,H1,b,r1,t,e,g,e2):=Z1;subst e e2;let(u1,u2,rfl,WV,WX):=vals2 r1;ext WV WX;let(G',rv,(o,ho,hc,n,hd),_):=b.tuple (Pu.of ak);obtain rfl:=T _ rv;let(oc,od,ab,Uq):=o;subst hc hd;let m:hV H (upd H t (.tup k)):=Sm.upd g;show kia_tup (uB (c.ok C j)) b.QA #[oe,(b.ON h _ (m _ _ J)).1,L] ho (c.no j) (λz=>nomatch z) λtk=>?_;show#[.bl _,_,b.tok tk,9,q _ m]
def uC(K:Frag)(i:8)(a:5):↑Bool->TA|[]=>EO|b::c=>A6 (Fg K i a b) (uC K i a c)
theorem ou{K}(c:σ[i]?\b6 (.ref d))(e:oe.cls=.ref f)(g:ŭ K kr j\b6 (.ref f)):∀a H Q,H d\.QD oe u->(∀b,hV H b->Q (a.map .bl) b)->uC K i j a σ H Q|[],H,_,_,q=>q H (Sm.refl H)|_::a,H,_,h,q=>#[d,oe,u,f,c,h,e,g,λb s=>ou c e g a b _ (s _ _ h) λk l=>q k (Sm.trans s l)]
end L2
namespace L2
open PySem PySem.Spec PyProof.Rows PySem.F
end L2
namespace TM
open PySem L2
inductive U where
 |OP|bl (b:Bool)|int (i:Int)|str (x:Str)
 |tup (xs:↑U)|lst (xs:↑U)
 |OT (ks:↑Str) (vs:↑U)|ob (d:Bool) (u:U) (us:↑U)
mutual
noncomputable def O6:U->Bool|.tup a=>fB a|.lst _=>df|.OT _ _=>df|.ob _ _ _=>df|.OP=>4|.bl _=>4|.int _=>4|.str _=>4
noncomputable def fB:↑U->Bool|[]=>4|u::a=>O6 u&&fB a
end
inductive Kd where|own|io|loc|any|bor (j:Nat)|A'
deriving DecidableEq
def Kd.root:Kd->Bool|.own=>4|.io=>4|_=>df
abbrev aq:=↑(Option (Kd×U))
structure Ct where
 P:DD
 w:Q1
 K:W.Frag
 H₀:Hp
 QJ:ke->6
 IO:ke->6
 xw:U->Hp->6
def KL(K:W.Frag)(a:ke)(c:↑V):6 :=∃(o:Obj) (b:Array i7) (n:8),K.lookup a\o/\o.cls=.type "list"/\o.dict=ef/\o.data=.seq b n/\b.size<=ei/\Vals c b.toList
def WY(K:W.Frag)(S:ke->6)(H:Hp)(a:ke)(b:↑V):6:=(S a/\Rd H a (.lst b))\/KL K a b
def WY.sq(h:WY K S H a b):Py K H a b:=h.elim (λz=>.inl z.2) .inr
def UH(H:Hp)(R:↑V->6)(a:ke)(c:↑5):6:=∃b:↑(Key×V),H a\.dK b/\b.map (·.1)=c.map tA/\R (b.map (·.2))
section
variable(C:Ct)(S:ke->6)(H:Hp)
mutual
def Rep:U->V->6|.OP,v=>v=.OP|.bl b,v=>v=.bl b|.int i,v=>v=.int i|.str x,v=>v=.str x|.tup c,v=>∃a d,v=.ref a/\Pu C.K H a d/\au c d|.lst c,v=>∃a d,v=.ref a/\WY C.K S H a d/\au c d|.OT e c,v=>∃a,v=.ref a/\S a/\UH H (au c) a e|.ob _ _ _,_=>False
def au:↑U->↑V->6|[],a=>a=[]|u::b,a=>∃v r,a=v::r/\Rep u v/\au b r
end
end
def Tp:HO->6|.tup _=>True|.QD _ (.tup _)=>True|_=>False
structure Mv(S:ke->6)(H:Hp)(S':ke->6)(H':Hp):6 where
 sub:∀a,S a->S' a
 WZ:∀a o,H a\o->Tp o->H' a\o
 Z2:∀a o,S a->H a\o->H' a\o
def Mv.sqT(m:Mv S H d b)(h:Pu K H a c):Pu K b a c:=by
 obtain(h|⟨o,h⟩)|h:=h
 .show .inl (.inl (m.WZ a _ h ttt))
 .show .inl (.inr #[o,m.WZ a _ h ttt])
 show .inr h
def Mv.lat(m:Mv S H b c)(h:WY K S H a d):WY K b c a d:=by
 obtain⟨s,h|⟨o,h⟩⟩|h:=h
 .show .inl #[m.sub a s,.inl (m.Z2 a _ s h)]
 .show .inl #[m.sub a s,.inr #[o,m.Z2 a _ s h]]
 show .inr h
def UH.mv(d:∀o,H a\o->e a\o)(f:∀c,R c->g c)(h:UH H R a i):UH e g a i :=let ⟨b,j,k,l⟩:=h;⟨b,d _ j,k,f _ l⟩
mutual
theorem Rep.UI(m:Mv S H g i):∀(u:U) (v:V),Rep C S H u v->Rep C g i u v|.OP,_,h=>h|.bl _,_,h=>h|.int _,_,h=>h|.str _,_,h=>h|.tup d,v,h=>by let(a,b,e,c,f):=h;show#[a,b,e,m.sqT c,au.UI m d b f]|.lst d,v,h=>by let(a,b,e,c,f):=h;show#[a,b,e,m.lat c,au.UI m d b f]|.OT j d,v,h=>by let(a,e,c,f):=h;show#[a,e,m.sub a c,f.mv (λo q=>m.Z2 a o c q) λb q=>au.UI m d b q]|.ob _ _ _,_,h=>Uo h
theorem au.UI(m:Mv S H c d):∀(a:↑U) (b:↑V),au C S H a b->au C c d a b|[],_,h=>h|u::a,b,h=>by let(v,r,e,f,g):=h;show#[v,r,e,Rep.UI m u v f,au.UI m a r g]
end
mutual
theorem Rep.zM:∀(u:U) (v:V),O6 u=4->Rep C S H u v->Rep C g H u v|.OP,_,_,h=>h|.bl _,_,_,h=>h|.int _,_,_,h=>h|.str _,_,_,h=>h|.tup b,v,i,h=>by let(a,c,e,d,f):=h;show#[a,c,e,d,au.zM b c (by simpa[TM.O6] using i) f]|.lst b,v,i,h=>by simp[TM.O6]at i|.OT j b,v,i,h=>by simp[TM.O6]at i|.ob _ _ _,_,_,h=>Uo h
theorem au.zM:∀(a:↑U) (b:↑V),fB a=4->au C S H a b->au C g H a b
 |[],_,_,h=>h|u::a,b,i,h=>by
  let(v,r,e,d,f):=h;let c:TM.O6 u=4/\fB a=4:=by simpa[fB] using i
  show#[v,r,e,Rep.zM u v c.1 d,au.zM a r c.2 f]
end
def Rep.mv(m:Mv S H a b)(h:Rep C S H u v):Rep C a b u v:=Rep.UI m u v h
def au.mv(m:Mv S H c d)(h:au C S H a b):au C c d a b:=au.UI m a b h
def Rep.O6(i:TM.O6 u=4)(h:Rep C S H u v):Rep C a H u v:=Rep.zM u v i h
def au.O6(i:fB a=4)(h:au C S H a b):au C c H a b:=au.zM a b i h
def Mv.up(sub:∀a,S a->b a):Mv S H b H:=#[sub,λ_ _ h _=>h,λ_ _ _ h=>h]
theorem au.len:∀{a}{b},au C S H a b->-a=-b|[],_,h=>by ext h;rfl|u::a,b,h=>by let(v,r,rfl,_,c):=h;rw[l0,l0,au.len c]
theorem au.get:∀{a}{b}{i:8}{u},au C S H a b->a[i]?\u->∃v,b[i]?\v/\Rep C S H u v|[],_,_,_,_,e=>by simp at e|u::a,b,0,w,h,e=>by let(v,r,rfl,c,_):=h;simp at e;subst e;show#[v,9,c]|u::a,b,i+1,w,h,e=>by let(v,r,rfl,_,d):=h;let(f,j,g):=au.get   d (by exists e);show#[f,by assumption,g]
theorem au.append:∀{a b}{c d},au C S H a c->au C S H b d->au C S H (a++b) (c++d)|[],_,_,_,h,e=>by ext h;show e|u::a,b,c,d,h,e=>by let(v,r,rfl,f,g):=h;show#[v,_,9,f,g.append e]
theorem au.take:∀{a}{b} n,au C S H a b->au C S H (a.take n) (b.take n)|_,_,0,_=>by rfl|[],_,n+1,h=>by ext h;simp[au]|u::a,b,n+1,h=>by let(v,r,rfl,c,d):=h;show#[v,_,9,c,d.take n]
theorem au.drop:∀{a}{b} n,au C S H a b->au C S H (a.drop n) (b.drop n)|_,_,0,h=>h|[],_,n+1,h=>by ext h;rfl|u::a,b,n+1,h=>by let(v,r,rfl,d,c):=h;show c.drop n
theorem au.set:∀{a}{b} n {u}{v},au C S H a b->Rep C S H u v->au C S H (a.set n u) (b.set n v)|[],_,n,_,_,h,_=>by ext h;rfl|u::a,b,0,_,_,h,c=>by let(v,r,rfl,e,d):=h;show#[_,r,9,c,d]|u::a,b,n+1,_,_,h,c=>by let(v,r,rfl,e,d):=h;show#[v,_,9,e,d.set n c]
def au.snoc(h:au C S H a b)(c:Rep C S H u v):au C S H (a++[u]) (b++[v]):=h.append #[v,[],9,c,9]
theorem au.strs:∀{b:↑5}{a},au C S H (b.map .str) a↔a=b.map V.str
 |[],a=>by rfl|x::b,a=>by
  constructor
  .rintro⟨v,r,rfl,c,d⟩;rw[au.strs.mp d];let:=c;rw[this];rfl
  rintro rfl;show#[_,_,9,9,au.strs.mpr 9]
structure Ct.Eqv(C C':Ct):6 where
 P:C.P=C'.P
 w:C.w=C'.w
 K:C.K=C'.K
mutual
theorem Rep.UJ(q:C.Eqv g):∀(u:U) (v:V),Rep C S H u v->Rep g S H u v|.OP,_,h=>h|.bl _,_,h=>h|.int _,_,h=>h|.str _,_,h=>h|.tup c,v,h=>by let(a,b,e,d,f):=h;show#[a,b,e,q.K▸d,au.UJ q c b f]|.lst c,v,h=>by let(a,b,e,d,f):=h;show#[a,b,e,q.K▸d,au.UJ q c b f]|.OT i c,v,h=>by let(a,e,d,f):=h;show#[a,e,d,f.mv (λ_ q=>q) λb z=>au.UJ q c b z]|.ob _ _ _,_,h=>Uo h
theorem au.UJ(q:C.Eqv c):∀(a:↑U) (b:↑V),au C S H a b->au c S H a b|[],_,h=>h|u::a,b,h=>by let(v,r,e,d,f):=h;show#[v,r,e,Rep.UJ q u v d,au.UJ q a r f]
end
def Rep.cg(q:C.Eqv a)(h:Rep C S H u v):Rep a S H u v:=Rep.UJ q u v h
def au.cg(q:C.Eqv c)(h:au C S H a b):au c S H a b:=au.UJ q a b h
def fC(C:Ct)(S:ke->6)(H:Hp)(r:ke):U->6|.lst a=>∃b,H r\.lst b/\au C S H a b|.OT c a=>UH H (au C S H a) r c|_=>False
def fC.mv(m:Mv S H d a)(b:∀o,H r\o->a r\o)(h:fC C S H r u):fC C d a r u:=by cases u with|lst e=>let(c,f,g):=h;show#[c,b _ f,g.mv m]|OT i e=>show UH.mv b (λc q=>q.mv m) h|_=>show h
def fC.rep(hs:∀a,S a->b a)(c:b r)(h:fC C S H r u):Rep C b H u (.ref r):=by cases u with|lst e=>let(d,f,g):=h;show#[r,d,9,.inl #[c,.inl f],g.mv (.up hs)]|OT i e=>show#[r,9,c,UH.mv (λ_ q=>q) (λd q=>q.mv (.up hs)) h]|_=>show h.elim
def fC.cg(q:C.Eqv b)(h:fC C S H r u):fC b S H r u:=by cases u with|lst c=>let(a,d,e):=h;show#[a,d,e.cg q]|OT f c=>show UH.mv (λ_ q=>q) (λa z=>z.cg q) h|_=>show h
def fC.some(h:fC C S H r u):∃o,H r\o/\¬Tp o:=by cases u with|lst b=>let(d,a,_):=h;show#[_,a,λz=>z]|OT e b=>let(c,a,_):=h;show#[_,a,λz=>z]|_=>show h.elim
structure Cf where
 S:ke->6
 H:Hp
 σ:St
 st:aq
 kid:8->↑ke
inductive R1s(st:aq)(σ:St)(a:ke):6|mk:∀(j:Nat) (k:Kd) (u:U),k.root=c4->st[j]?\b6 (k,u)->σ[j]?\b6 (.ref a)->R1s st σ a
def Cf.R1(c:Cf)(a:ke):6:=R1s c.st c.σ a
inductive RDj(st:aq)(σ:St)(ks:↑ke)(j:8)(a:ke):6|mk:∀(u:U) (r:ke),st[j]?\b6 (.A',u)->σ[j]?\b6 (.ref r)->(a=r\/a∈ks)->RDj st σ ks j a
def Cf.RD(c:Cf)(j:8)(a:ke):6:=RDj c.st c.σ (c.kid j) j a
def Cf.R(c:Cf)(a:ke):6:=c.R1 a\/∃j,c.RD j a
noncomputable def PS(C:Ct)(S:ke->6):ke->6:=λa=>C.QJ a\/S a
def jO(C:Ct)(S:ke->6)(H:Hp):Kd->U->V->6|.own,u,v=>∃r,v=.ref r/\¬S r/\¬C.QJ r/\C.H₀ r=ef/\fC C S H r u|.io,u,v=>∃r,v=.ref r/\¬S r/\¬C.QJ r/\C.IO r/\fC C S H r u|.loc,u,v=>Rep C S H u v|.any,u,v=>Rep C (PS C S) H u v|.bor _,_,_=>False|.A',_,v=>∃r,v=.ref r
def eE(C:Ct)(S:ke->6)(H:Hp):↑U->↑ke->6|[],c=>c=[]|u::f,c=>∃a b d e,c=a::b/\u=.lst d/\H a\.lst e/\au C S H d e/\eE C S H f b
def SR(K:W.Frag)(d:Bool)(a:ke):6:=W.nsIn K kr (if d=4 then "Desk" else "Shelf")\b6 (.ref a)
def UK(v:V)(a:ke):↑(5 ×V):=[("rows",v),("earlier",.ref a)]
structure Sb(C:Ct)(S:ke->6)(H:Hp)(r a:ke)(u:U)(us:↑U)(cl dx:ke)(v:V)(vs:↑V):6 where
 hc:SR C.K df cl
 ins:H r\.ins cl dx (UK v a)
 ne:r≠a
 fr:∀x∈[r,a],¬S x/\¬C.QJ x/\(C.H₀ x=ef\/C.IO x)
 im:O6 u=4
 rep:Rep C S H u v
 lst:H a\.lst vs
 XR:fB us=4
 SS:au C S H us vs
structure DkR(C:Ct)(S:ke->6)(H:Hp)(r s a:ke)(cd dd:ke):6 where
 hc:SR C.K 4 cd
 ins:H r\.ins cd dd [("shelf",.ref s)]
 ne:r≠s
 na:r≠a
 fr:¬S r/\¬C.QJ r/\(C.H₀ r=ef\/C.IO r)
def Sb.mv(m:Mv S H c d)(b:∀x∈[r,a],¬c x/\∀o,H x\o->d x\o)(h:Sb C S H r a u f g i v j):Sb C c d r a u f g i v j :=#[h.hc,(b r 7).2 _ h.ins,h.ne,λx e=>#[(b x e).1,(h.fr x e).2],h.im,h.rep.mv m,(b a 7).2 _ h.lst,h.XR,h.SS.mv m]
def Sb.there(h:Sb C S H r a u b c d v e):∀x∈[r,a],∃o,H x\o/\¬Tp o:=λx hx=>by
 obtain rfl|hx:=gb.mp hx
 .show#[_,h.ins,λz=>z]
 rw[mN.mp hx];show#[_,h.lst,λz=>z]
def bf(C:Ct)(S:ke->6)(H:Hp)(r:ke)(c:↑ke):U->6|.OT h d=>∃b:↑(Key×V),H r\.dK b/\b.map (·.1)=h.map tA/\b.map (·.2)=c.map V.ref/\(r::c).Nodup/\(∀a∈r::c,¬S a/\¬C.QJ a/\C.H₀ a=ef)/\eE C S H d c|.ob df u d=>∃e f v a g,c=[a]/\Sb C S H r a u d e f v g|.ob c4 u d=>∃i dd s e f v a g,c=[s,a]/\DkR C S H r s a i dd/\Sb C S H s a u d e f v g|_=>False
structure Sd(C:Ct)(c:Cf):6 where
 kd:∀(j:8) (u:U) (r:ke),c.st[j]?\b6 (.A',u)->c.σ[j]?\b6 (.ref r)->bf C c.S c.H r (c.kid j) u
 dj:∀(i j:8) (a:ke),c.RD i a->c.RD j a->i=j
 d1:∀(j:8) (a:ke),c.RD j a->¬c.R1 a
inductive Z3(C:Ct)(S:ke->6)(H:Hp)(σ:St)(i:8)(k:Kd)(u:U):6|mk:∀v,σ[i]?\b6 v->jO C S H k u v->Z3 C S H σ i k u
structure Ok(C:Ct)(c:Cf):6 where
 same:∀a o,C.H₀ a\o->¬C.IO a->c.H a\o
 QU:∀a,c.S a->C.H₀ a=ef/\∃o,c.H a\o
 par:∀a,C.QJ a->(∃o,C.H₀ a\o)/\¬C.IO a
 io:∀a,C.IO a->(∃o,C.H₀ a\o)/\∃o,c.H a\o
 len:-c.st=-c.σ
 sl:∀(i:8) (k:Kd) (u:U),c.st[i]?\b6 (k,u)->Z3 C c.S c.H c.σ i k u
 inj:∀(i j:8) (k k':Kd) (u u':U) (r:ke),k.root=4->k'.root=4->c.st[i]?\b6 (k,u)->c.st[j]?\b6 (k',u')->c.σ[i]?\b6 (.ref r)->c.σ[j]?\b6 (.ref r)->i=j
 dd:Sd C c
structure Ns(c c':Cf):6 where
 keep:∀a o,c.H a\o->¬c.R a->c'.H a\o
 there:∀a o,c.H a\o->∃o',c'.H a\o'
 roots:∀a,c'.R a->c.R a\/c.H a=ef
 sub:∀a,c.S a->c'.S a
 new:∀a,c'.S a->c.S a\/c.R a\/c.H a=ef
def Ns.refl(c:Cf):Ns c c:=#[λ_ _ h _=>h,λ_ o h=>#[o,h],λ_ h=>.inl h,λ_ h=>h,λ_ h=>.inl h]
def Ns.none(n:Ns c b)(h:b.H a=.none):c.H a=.none:=by cases e:c.H a with|none=>rfl|some o=>let(d,q):=n.there a o e;left
def Ns.trans(m:Ns c d)(n:Ns d e):Ns c e where
 keep:=λa o h b=>by
  show n.keep a o (m.keep a o h b) λz=>?_;obtain z|z:=m.roots a z
  .show b z
  left
 there:=λa o h=>let ⟨f,g⟩:=m.there a o h;n.there a f g
 roots:=λa h=>by
  obtain z|z:=n.roots a h
  .show m.roots a z
  show .inr (m.none z)
 sub:=λa h=>n.sub a (m.sub a h)
 new:=λa h=>by
  obtain z|z|z:=n.new a h
  .show m.new a z
  .rcases m.roots a z with z|z
   .show .inr (.inl z)
   show .inr (.inr z)
  show .inr (.inr (m.none z))
inductive Z4(C:Ct)(S:ke->6)(H:Hp)(u:U)(v:V):6|mk:∀r,v=.ref r->¬S r->¬C.QJ r->(C.H₀ r=ef\/C.IO r)->fC C S H r u->Z4 C S H u v
def jO.rt(hk:k.root=4)(h:jO C S H k u v):Z4 C S H u v:=by cases k with|own=>let(r,a,b,c,d,e):=h;show#[r,a,b,c,.inl d,e]|io=>let(r,a,b,c,d,e):=h;show#[r,a,b,c,.inr d,e]|_=>ext hk
theorem eE.mem:∀{d}{b}{a},eE C S H d b->a∈b->∃c,H a\.lst c
 |[],b,a,h,ha=>by ext h ha|u::d,b,a,h,ha=>by
  let(i,e,j,c,rfl,_,f,_,g):=h;obtain rfl|ha:=gb.mp ha
  .show#[c,f]
  show eE.mem g ha
theorem eE.mv(m:Mv S H i f):∀{c}{b},(∀a∈b,∀o,H a\o->f a\o)->eE C S H c b->eE C i f c b|[],b,_,h=>h|u::c,b,g,h=>by let(a,d,j,k,rfl,e,l,n,p):=h;show#[a,d,j,k,9,e,g a 7 _ l,n.mv m,eE.mv m (λa q=>g a (by simp[q])) p]
def bf.fr(h:bf C S H r b u):∀a∈r::b,¬S a/\¬C.QJ a/\(C.H₀ a=ef\/C.IO a):=by
 cases u with
 |OT j c=>let(e,_,_,_,_,f,_):=h;show λa g=>let ⟨p,q,r⟩:=f a g;⟨p,q,.inl r⟩|ob d u c =>
  cases d with
  |false=>let(_,_,_,_,_,rfl,h):=h;show h.fr
  |true=>let(_,_,_,_,_,_,_,_,rfl,k,h):=h;show λx i=>(gb.mp i).elim (λz=>z▸k.fr) (h.fr x)
 |_=>show h.elim
def bf.Z5(h:bf C S H r b (.OT e f)):∀a∈r::b,¬S a/\¬C.QJ a/\C.H₀ a=ef:=by let(c,_,_,_,_,d,_):=h;show d
def bf.there(h:bf C S H r b u):∀a∈r::b,∃o,H a\o/\¬Tp o:=by
 cases u with
 |OT l c =>
  let(f,g,_,_,_,_,i):=h;intro a ha;obtain rfl|ha:=gb.mp ha
  .show#[_,g,λz=>z]
  let(m,e):=i.mem ha;show#[_,e,λz=>z]
 |ob d u c =>
  cases d with
  |false=>let(_,_,_,_,_,rfl,h):=h;show h.there
  |true=>let(_,_,_,_,_,_,_,_,rfl,k,h):=h;show λx j=>(gb.mp j).elim (λz=>z▸⟨_,k.ins,λz=>z⟩) (h.there x)
 |_=>show h.elim
def bf.mv(m:Mv S H f g)(b:∀a∈r::i,¬f a/\∀o,H a\o->g a\o)(h:bf C S H r i u):bf C f g r i u:=by
 cases u with
 |OT w j=>let(e,l,n,p,q,s,t):=h;show#[e,(b r 7).2 _ l,n,p,q,λa c=>#[(b a c).1,(s a c).2],t.mv m λa c=>(b a (by simp[c])).2]|ob d u j =>
  cases d with
  |false=>let(_,_,_,_,_,rfl,h):=h;show#[_,_,_,_,_,9,h.mv m b]
  |true=>let(_,_,_,_,_,_,_,_,rfl,k,h):=h;show#[_,_,_,_,_,_,_,_,9,#[k.hc,(b r 7).2 _ k.ins,k.ne,k.na,(b r 7).1,k.fr.2],h.mv m λx v=>b x (ib _ v)]
 |_=>show h.elim
def Sd.of(d:Sd C c)(hk:e.kid=c.kid)(l:∀(j:8) u,e.st[j]?\b6 (.A',u)->c.st[j]?\b6 (.A',u)/\e.σ[j]?=c.σ[j]?)(p:∀a,e.R1 a->c.R1 a\/∀j,¬c.RD j a) (m:Mv c.S c.H e.S e.H) (q:∀j a,c.RD j a->¬e.S a/\∀o,c.H a\o->e.H a\o):Sd C e:=by
 let b:∀j a,e.RD j a->c.RD j a:=λj a s=>by let(u,r,h,f,n):=s;let(g,k):=l j u h;rw[k]at f;rw[hk]at n;show#[u,r,g,f,n]
 show#[λj u r h f=>?_,λi j a z1 z2=>d.dj i j a (b i a z1) (b j a z2),λj a z1 z2=>?_]
 .let(g,k):=l j u h;rw[k]at f;rw[hk];show bf.mv m (λa t=>q j a #[u,r,g,f,gb.mp t]) (d.kd j u r g f)
 obtain z|z:=p a z2
 .show d.d1 j a (b j a z1) z
 show z j (b j a z1)
def Sd.hs(d:Sd C c)(m:Mv c.S c.H b f)(g:∀j a,c.RD j a->¬b a/\∀o,c.H a\o->f a\o):Sd C {c with H:=f,S:=b } :=d.of 9 (λ_ _ e=>#[e,9]) (λ_ z=>.inl z) m g
def Ok.root(f:Ok C c)(h:c.R r):¬c.S r/\¬C.QJ r/\(C.H₀ r=ef\/C.IO r)/\∃o,c.H r\o/\¬Tp o:=by
 obtain⟨j,k,u,hk,b,d⟩|⟨j,u,g,b,d,a⟩:=h
 .let(v,e,hs):=f.sl j _ _ b;let(g,ev,a,l,m,n):=hs.rt hk;rw[d]at e;ext e ev;show#[a,l,m,n.some]
 let i:=f.dd.kd j u g b d;let(p,q,s):=bf.fr i r (gb.mpr a);show#[p,q,s,bf.there i r (gb.mpr a)]
def Ok.mv(b:Ok C c)(n:Ns c d):Mv c.S c.H d.S d.H:=#[n.sub,λa o h t=>n.keep a o h λz=>by let(_,_,_,e,f,g):=b.root z;left,λa o s h=>n.keep a o h λz=>(b.root z).1 s]
def Ok.T1(b:Ok C c)(n:Ns c d):Mv (PS C c.S) c.H (PS C d.S) d.H:=#[λa h=>h.imp id (n.sub a),(b.mv n).WZ,λa o s h=>n.keep a o h λz=>by
  obtain s|s:=s
  .show(b.root z).2.1 s
  show(b.root z).1 s]
def Ok.kB(a:Ok C c)(h:c.H p=ef):C.H₀ p=ef/\¬c.S p/\¬C.QJ p/\¬C.IO p/\¬c.R p:=by
 let b:¬C.IO p:=λz=>by let(_,o,q):=a.io p z;left
 let d:C.H₀ p=ef:=by cases e:C.H₀ p with|none=>rfl|some o=>let:=a.same p o e b;left
 show#[d,λz=>?_,λz=>?_,b,λz=>?_]
 .let(_,o,q):=a.QU p z;left
 .let((o,q),_):=a.par p z;left
 let(_,_,_,o,q,_):=a.root z;left
def jO.mv(m:Mv S H a b)(n:Mv (PS C S) H (PS C a) b)(l:k.root=4->∀r,v=.ref r->¬a r/\∀o,H r\o->b r\o)(h:jO C S H k u v):jO C a b k u v:=by cases k with|own=>let(r,e,p,c,d,f):=h;let(g,i):=l 9 r e;show#[r,e,g,c,d,f.mv m i]|io=>let(r,e,p,c,d,f):=h;let(g,i):=l 9 r e;show#[r,e,g,c,d,f.mv m i]|loc=>show Rep.mv m h|any=>show Rep.mv n h|bor j=>show h.elim|A'=>show h
structure Nx(c c':Cf):6 extends Ns c c' where
instance {c a:Cf}:Coe (Nx c a) (Ns c a):=#[Nx.toNs]
def Nx.refl(c:Cf):Nx c c:=#[.refl c]
def Nx.trans(m:Nx c a)(n:Nx a b):Nx c b:=#[m.toNs.trans n.toNs]
def Nx.none(n:Nx c b)(h:b.H a=.none):c.H a=.none:=n.toNs.none h
def Ok.lay(d:Ok C c)(h:c.H p=ef):Ok C {c with H:=upd c.H p o}/\Nx c {c with H:=upd c.H p o}:=by
 let n:∀{a:ke} {b:HO},c.H a\b->a≠p:=λe z=>by subst z;rw[h]at e;ext e
 let f:∀a b,c.H a\b->(upd c.H p o) a\b:=λa b e=>by rw[aj (n e)];show e
 let g:Nx c {c with H:=upd c.H p o}:=#[#[λa b e _=>f a b e,λa b e=>#[b,f a b e],λa z=>.inl z,λ_ z=>z,λ_ z=>.inl z]]
 show#[#[λa b e z=>f a b (d.same a b e z),λa z=>#[(d.QU a z).1,let ⟨b,q⟩:=(d.QU a z).2;⟨b,f a b q⟩],d.par,λa z=>#[(d.io a z).1,let ⟨b,q⟩:=(d.io a z).2;⟨b,f a b q⟩],d.len,λi k u e=>?_,d.inj,d.dd.hs (d.mv g.toNs) λj a z=>#[(d.root (.inr #[j,z])).1,λb e=>f a b e]],g];let(v,s,l):=d.sl i k u e;show#[v,s,l.mv (d.mv g.toNs) (d.T1 g.toNs) λhk r t=>?_];let(x,m,w,_):=l.rt hk;rw[t]at m;ext m;show#[w,λb e=>f r b e]
def Ok.grow(d:Ok C c)(hs:hV c.H H')(h:∀a,S' a->c.S a\/(c.H a=ef/\∃o,H' a\o))(t:∀a,c.S a->S' a):Ok C {c with H:=H',S:=S' }/\Nx c {c with H:=H',S:=S' }:=by
 let l:Nx c {c with H:=H',S:=S' }:=#[#[λa b e _=>hs a b e,λa b e=>#[b,hs a b e],λa z=>.inl z,t,λa z=>(h a z).imp id λq=>.inr q.1]]
 show#[#[λa b e z=>hs a b (d.same a b e z),λa z=>?_,d.par,λa z=>#[(d.io a z).1,let ⟨b,q⟩:=(d.io a z).2;⟨b,hs a b q⟩],d.len,λi k u e=>?_,d.inj,d.dd.hs (d.mv l.toNs) λj a z=>#[λf=>?_,λb e=>hs a b e]],l]
 rotate_left 2
 .let(g,_,_,o,m,_):=d.root (.inr #[j,z]);obtain f|⟨f,_⟩:=h a f
  .show g f
  rw[m]at f;ext f
 .rcases h a z with q|⟨g,n⟩
  .show#[(d.QU a q).1,let ⟨b,q⟩:=(d.QU a q).2;⟨b,hs a b q⟩]
  show#[(d.kB g).1,n]
 let(v,w,p):=d.sl i k u e;show#[v,w,p.mv (d.mv l.toNs) (d.T1 l.toNs) λhk r x=>?_];let(y,s,g,n,A,m):=p.rt hk;rw[x]at s;ext s;let(o,ho,_):=m.some;show#[λz=>?_,λb e=>hs r b e];obtain z|⟨z,_⟩:=h r z
 .show g z
 rw[z]at ho;ext ho
def aP(C:Ct)(a c:Cf):Kd->U->V->6|.own,u,v=>∃r,v=.ref r/\a.H r=ef/\¬c.S r/\¬c.R r/\fC C c.S c.H r u|.loc,u,v=>Rep C c.S c.H u v|.any,u,v=>Rep C (PS C c.S) c.H u v|.bor j,u,v=>(∃k:Kd,k.root=4/\c.st[j]?\b6 (k,u))/\c.σ[j]?\b6 v|.io,_,_=>False|.A',_,_=>False
def ir(C:Ct)(a c:Cf):Kd->U->V->6|.own,u,v=>∃r,v=.ref r/\a.H r=ef/\¬c.S r/\¬c.R r/\fC C c.S c.H r u|.loc,u,v=>Rep C c.S c.H u v|.any,u,v=>Rep C (PS C c.S) c.H u v|.bor j,u,v=>c.σ[j]?\b6 v|.io,_,_=>False|.A',_,_=>False
def aP.w(h:aP C a c k u v):ir C a c k u v:=by cases k with|bor j=>show h.2|_=>show h
def ir.on'(a:Ok C c)(n:Ns c b)(g:∀j,k=.bor j->b.σ[j]?=c.σ[j]?)(h:ir C i c k u v):ir C i b k u v:=by
 cases k with
 |own =>
  let(r,e,l,m,d,f):=h;let(o,ho,_):=f.some;show#[r,e,l,λz=>?_,λz=>?_,f.mv (a.mv n) λo q=>n.keep r o q d]
  .rcases n.new r z with z|z|z
   .show m z
   .show d z
   left
  obtain z|z:=n.roots r z
  .show d z
  left
 |loc=>show Rep.mv (a.mv n) h|any=>show Rep.mv (a.T1 n) h|bor j=>change b.σ[j]?=_;rw[g j rfl];show h|_=>show h
def ir.on(b:Ok C c)(n:Ns c a)(d:a.σ=c.σ)(h:ir C e c k u v):ir C e a k u v:=h.on' b n λj _=>by rw[d]
def ir.from(n:Ns a b)(h:ir C b c k u v):ir C a c k u v:=by cases k with|own=>let(r,e,d,f):=h;show#[r,e,n.none d,f]|_=>show h
def aP.from(n:Ns a b)(h:aP C b c k u v):aP C a c k u v:=by cases k with|own=>let(r,e,d,f):=h;show#[r,e,n.none d,f]|_=>show h
def SK(C:Ct)(c:Cf):Kd->ke->6|.any=>PS C c.S|_=>c.S
def kE:Kd->Kd|.any=>.any|_=>.loc
def Ok.rootOf(b:Ok C c){j:8}(h:∃k,k.root=4/\c.st[j]?\b6 (k,u))(e:c.σ[j]?\b6 v):Z4 C c.S c.H u v:=by let(k,hk,h):=h;let(f,a,d):=b.sl j _ _ h;rw[e]at a;ext a;show d.rt hk
inductive RtL(C:Ct)(c:Cf)(k:Kd)(us:↑U)(v:V):6|mk:∀a vs,v=.ref a->Py C.K c.H a vs->au C (SK C c k) c.H us vs->RtL C c k us v
def aP.list(g:Ok C c)(h:aP C l c k (.lst i) v):RtL C c k i v:=by cases k with|own=>let(r,e,_,_,_,b,d,f):=h;show#[r,b,e,Py.of d,f]|bor j=>let(r,e,_,_,_,b,d,f):=g.rootOf h.1 h.2;show#[r,b,e,Py.of d,f]|io=>show h.elim|A'=>show h.elim|_=>let(a,b,e,d,f):=h;show#[a,b,e,d.sq,f]
inductive RtT(C:Ct)(c:Cf)(k:Kd)(us:↑U)(v:V):6|mk:∀a vs,v=.ref a->Pu C.K c.H a vs->au C (SK C c k) c.H us vs->RtT C c k us v
def aP.tuple(b:Ok C c)(h:aP C l c k (.tup d) v):RtT C c k d v:=by cases k with|own=>let(r,e,_,_,_,h):=h;show h.elim|bor j=>let(r,e,_,_,_,h):=b.rootOf h.1 h.2;show h.elim|io=>show h.elim|A'=>show h.elim|_=>let(a,f,e,g,i):=h;show#[a,f,e,g,i]
def aP.flat(b:Ok C c)(a:O6 u=4)(h:aP C d c k u v):Rep C c.S c.H u v:=by cases k with|own=>let(r,e,_,_,_,h):=h;cases u<;>simp[O6]at a<;>show h.elim|loc=>show h|any=>show Rep.O6 a h|bor j=>let(r,e,_,_,_,h):=b.rootOf h.1 h.2;cases u<;>simp[O6]at a<;>show h.elim|_=>show h.elim
def aP.int(a:Ok C c)(h:aP C b c k (.int i) v):v=.int i:=h.flat a 9
def aP.str(a:Ok C c)(h:aP C b c k (.str x) v):v=.str x:=h.flat a 9
def aP.bl(a:Ok C c)(h:aP C d c k (.bl b) v):v=.bl b:=h.flat a 9
def aP.OP(a:Ok C c)(h:aP C b c k .OP v):v=.OP:=h.flat a 9
def aP.item(h:Rep C (SK C c k) c.H u v):aP C a c (kE k) u v:=by cases k<;>show h
noncomputable def QK(H:Hp):ke->6:=λa=>∃o,H a\o
def Ok.BH(b:Ok C c):∀a,c.S a->QK c.H a:=λa h=>(b.QU a h).2
def Ok.LZ(b:Ok C c):∀a,PS C c.S a->QK c.H a:=λa h=>by
 obtain h|h:=h
 .let((o,e),n):=b.par a h;show#[o,b.same a o e n]
 show b.BH a h
def aP.read(a:Ok C c)(h:aP C d c k u v):Rep C (QK c.H) c.H u v:=by cases k with|own=>let(r,e,_,_,_,b):=h;rw[e];let(o,ho,_):=b.some;show b.rep a.BH #[o,ho]|loc=>show Rep.mv (.up a.BH) h|any=>show Rep.mv (.up a.LZ) h|bor j=>let(r,e,_,_,_,b):=a.rootOf h.1 h.2;rw[e];let(o,ho,_):=b.some;show b.rep a.BH #[o,ho]|_=>show h.elim
def Ok.newList(a:Ok C c)(n:Nx b c)(h:c.H p=ef)(e:au C c.S c.H us vs):Ok C {c with H:=upd c.H p (.lst vs)}/\Nx b {c with H:=upd c.H p (.lst vs)}/\aP C b {c with H:=upd c.H p (.lst vs)} .own (.lst us) (.ref p):=by let(f,d):=a.lay  h;let(j,g,k,l,i):=a.kB h;show#[f,n.trans d,p,9,n.none h,g,i,vs,ak,e.mv (a.mv d.toNs)]
def Ok.BI(b:Ok C c)(n:Nx d c)(h:c.H p=ef)(f:au C c.S c.H g a):Ok C {c with H:=upd c.H p (.tup a)}/\Nx d {c with H:=upd c.H p (.tup a)}/\aP C d {c with H:=upd c.H p (.tup a)} .loc (.tup g) (.ref p):=by let(i,e):=b.lay  h;show#[i,n.trans e,p,a,9,Pu.of ak,f.mv (b.mv e.toNs)]
inductive Ex(α:Type) where|ok (a:α)|exc (c:Str)
def M(α:Type):=aq->Option (Ex α×aq)
namespace M
def pure(a:α):M α:=λst=>b6 (.ok a,st)
def fail:M α:=λ_=>ef
def bind(m:M α)(f:α->M β):M β:=λst=>match m st with|none=>ef|some (.ok a,b)=>f a b|some (.exc c,b)=>b6 (.exc c,b)
def Pd(o:Option α):M α:=λst=>match o with|none=>ef|some a=>b6 (.ok a,st)
end M
noncomputable instance:Monad M:={pure:=M.pure,bind:=M.bind}
inductive W{α:Type}(m:M α)(st:aq)(Q:α->aq->6):6|mk:∀a st',m st\(.ok a,st')->Q a st'->W m st Q
def ao:W (pure a) st Q↔Q a st:=by
 constructor
 .rintro⟨b,c,e,h⟩;ext e;show h
 intro h;show#[a,st,9,h]
def ai:W (m >>= f) st Q↔W m st λa d=>W (f a) d Q:=by
 constructor
 .rintro⟨b,d,e,h⟩;let g:M.bind m f st\_:=e;unfold M.bind at g;cases q:m st with
  |none=>left|some r =>
   let(r,i):=r;rw[q]at g;cases r with
   |ok a=>show#[a,i,q,b,d,g,h]
   |exc c=>ext g
 rintro⟨a,i,q,b,d,e,h⟩;show#[b,d,?_,h];change M.bind m f st=_;unfold M.bind;rw[q];show e
def cK:W (M.Pd o) st Q↔∃a,o\a/\Q a st:=by cases o with|none=>show#[λ⟨_,_,e,_⟩=>(by ext e),λ⟨_,e,_⟩=>(by ext e)]|some a=>show#[λ⟨_,_,e,h⟩=>(by ext e;show#[a,9,h]),λ⟨_,e,h⟩=>(by ext e;show#[a,st,9,h])]
def bp:W (M.fail:M α) st Q↔False:=#[λ⟨_,_,e,_⟩=>(by ext e),Uo]
def W.mono(h:W m st Q)(i:∀a s,Q a s->b a s):W m st b:=let ⟨a,s,e,q⟩:=h;⟨a,s,e,i a s q⟩
inductive XS where|add|sub|mul|Rq|mod|pow
deriving DecidableEq
inductive XT where|eq|ne|lt|le|gt|ge|isin|OR|is|Se
deriving DecidableEq
inductive Bf where|len|sorted|list|tuple|str|int|repr|max|min|all|any
deriving DecidableEq
inductive B2 where|Sf|Ra|sset|la
deriving DecidableEq
inductive Mf where|split|join|partition|endswith
deriving DecidableEq
inductive T5 where|str
deriving DecidableEq
inductive Ik where|seq|Pt|Rb|UL|zip|rev
deriving DecidableEq
inductive E where
 |var (i:Nat)|cst (u:U)|QN (x:Str) (u:U)|bin (op:XS) (a b:E)|cmp (op:XT) (a b:E)|and (es:↑E)|or (es:↑E)|not (a:E)
 |tup (es:↑E)|lst (es:↑E)|RF (r:Bool)
 |idx (a b:E)|Pf (a:E) (lo hi:↑E)|bi (f:Bf) (es:↑E)|SU (f:B2) (es:↑E)|PY (m:Mf) (a:E) (es:↑E)|call (f:Str) (es:↑E)|comp (k:Nat) (t:Bool) (ik:Ik) (src:↑E) (cond:↑E) (e:E)|bad|UM (a:E) (T:T5)|inD (neg:Bool) (a:E) (i:Nat)|VY (i:Nat)|RG (i:Nat) (k d:E)|VZ (i:Nat)|V0 (ln:Bool) (a b:E)
 |P0 (i:Nat)|QV (f:Str) (i:Nat) (es:↑E)|RH (d:Bool) (f m:Str) (i:Nat) (es:↑E)|Rc (f m:Str) (i:Nat) (js:↑(Nat×Nat))
inductive RE where|mt (d:Bool) (f m:Str) (i:Nat) (es:↑E)|Rc (f m:Str) (i:Nat) (js:↑(Nat×Nat))|arg (f:Str) (r:RE)|call (f:Str) (es:↑E)|tup (e:E) (r:RE)|UN (d:Bool) (f m:Str) (i:Nat) (e:E) (r:RE)
inductive S where
 |set (i:Nat) (e:E)|put (i:Nat) (k v:E)|app (i:Nat) (e:E)|ext (i:Nat) (e:E)|bad|newD (i:Nat)|putD (i:Nat) (k v:E)|Rf (i:Nat) (k v:E)|aug (sub:Bool) (i:Nat) (k v:E)
 |exp (e:E)|ret (e:E)|ite (c:E) (a b:↑S)|O_ (t:Bool) (is:↑Nat) (ik:Ik) (src:↑E) (body:↑S)|V1 (c:E) (body:↑S)|QG (c:Str) (e:E)|Qa (r:RE)|Tt (i:Nat) (c:Str) (b:E) (c1 c2:Str)|Sg|mX (i:Nat)|jm (i:Nat) (e:E)|Sh (i:Nat)
 |Si (r:RE)|T6 (r:RE) (x:Str) (UO:↑(Str×↑Bool)) (j k:Nat) (RI:↑(List ↑Str))
def isAny:Kd->Bool|.any=>4|_=>df
def eF(k:Kd)(a:↑U):Bool:=!isAny k||fB a
def kT(k a:Kd):Kd:=if isAny k||isAny a then .any else .loc
def cut{α:Type}(a:↑α)(lo b:Option Int):↑α:=(a.drop (HT.O3 ⇑a 0 lo)).take (HT.O3 ⇑a ⇑a b - HT.O3 ⇑a 0 lo)
def BJ:Kd×U->Kd×U->Option (Kd×U)
 |(_,.int i),(_,.int j)=>b6 (.loc,.int (i+j))|(_,.str x),(_,.str y)=>if -x+ -y<=ei then b6 (.loc,.str (x++y)) else ef
 |(k,.lst a),(c,.lst b)=>if -a+ -b<=ei/\eF k a=4/\eF c b=4 then b6 (.own,.lst (a++b)) else ef
 |(k,.tup a),(c,.tup b)=>if -a+ -b<=ei then b6 (kT k c,.tup (a++b)) else ef
 |_,_=>ef
def wj(f:Int->Int->Option Int):U->U->Option (Kd×U)|.int i,.int j=>(f i j).map λn=>(.loc,.int n)|_,_=>ef
def Fh(i j:Int):Option Int:=if ((-((2 ^ 64):Int)<i/\i<2 ^ 64)\/(-((2 ^ 64):Int)<j/\j<2 ^ 64)) then b6 (i * j) else ef
def Fi(i j:Int):Option Int:=if 0<j/\j<1073741824 then b6 (i / j) else ef
def Fj(i j:Int):Option Int:=if 0<j then b6 (i % j) else ef
def Fm(i j:Int):Option Int:=if 0<=j/\j<=1000000/\i.natAbs<2 ^ 64 then b6 (i ^ j.toNat) else ef
def Rr(a:XS)(x y:Kd×U):Option (Kd×U):=match a with|.add=>BJ x y|.sub=>wj (λi j=>b6 (i - j)) x.2 y.2|.mul=>wj Fh x.2 y.2|.Rq=>wj Fi x.2 y.2|.mod=>wj Fj x.2 y.2|.pow=>wj Fm x.2 y.2
mutual
noncomputable def P1:8->U->Bool|_,.OT _ _=>df|_,.ob _ _ _=>df|0,.tup _=>df|0,.lst _=>df|n+1,.tup a=>eR n a|n+1,.lst a=>eR n a|_,.OP=>4|_,.bl _=>4|_,.int _=>4|_,.str _=>4
noncomputable def eR:8->↑U->Bool|_,[]=>4|n,u::a=>P1 n u&&eR n a
end
mutual
noncomputable def cC:U->U->Bool|.OP,.OP=>4|.bl a,.bl b=>a==b|.bl a,.int b=>(if a then 1 else 0)==b|.int a,.bl b=>a==(if b then 1 else 0)|.int a,.int b=>a==b|.str a,.str b=>a==b|.tup c,.tup d=>c7 c d|.lst c,.lst d=>c7 c d|_,_=>df
noncomputable def c7:↑U->↑U->Bool|[],[]=>4|u::a,w::b=>cC u w&&c7 a b|_,_=>df
end
def Vg(x:U)(a:↑U):Option Bool:=if P1 50 x=4/\eR 50 a=4 then b6 (a.any λy=>cC y x) else ef
def Tu(x y:5):Bool:=!(Pe y x 0 ⇑y 1).isEmpty
def strsOf:↑U->Option ↑5|[]=>b6 []|.str x::a=>(strsOf a).map (x::·)|_::_=>ef
def zN:U->U->Option Bool|x,.lst a=>Vg x a|x,.tup a=>Vg x a|.str x,.str y=>b6 (Tu x y)|.str x,.OT b _=>b6 (eL (x∈b))|_,_=>ef
def fg:↑5->↑U->5->Option U
 |y::a,u::b,x=>if y=x then b6 u else fg a b x
 |_,_,_=>ef
noncomputable def dput(a:↑5)(b:↑U)(x:5)(u:U):↑5 ×↑U :=if x∈a then(a,(a.zip b).map λp=>if p.1=x then u else p.2) else(a++[x],b++[u])
def qw:U->Bool|.OP=>4|_=>df
def cS:XT->U->U->Option Bool
 |.eq,a,b=>if P1 50 a=4/\P1 50 b=4 then b6 (cC a b) else ef
 |.ne,a,b=>if P1 50 a=4/\P1 50 b=4 then b6 (!cC a b) else ef
 |.lt,.int i,.int j=>b6 (eL (i<j))|.gt,.int i,.int j=>b6 (eL (j<i))|.ge,.int i,.int j=>b6 (eL (j<=i))|.isin,x,y=>zN x y|.OR,x,y=>(zN x y).map (!·)|.is,x,.OP=>b6 (qw x)|.Se,x,.OP=>b6 (!qw x)|.is,.bl x,.bl y=>b6 (x==y)|.Se,.bl x,.bl y=>b6 (!(x==y))|_,_,_=>ef
def ox:↑U->Option ↑Bool|[]=>b6 []|.bl x::a=>(ox a).map (x::·)|_::_=>ef
def mU:Kd×U->U->Option (Kd×U)
 |(k,.lst a),.int i=>(Px a i).map λu=>(kE k,u)|(k,.tup a),.int i=>(Px a i).map λu=>(kE k,u)|(_,.str x),.int i=>if -x<=ei then(Px (~~~x) i).map λc=>(.loc,.str #[#v[c]]) else ef
 |_,_=>ef
def jP:Kd×U->Option Int->Option Int->Option (Kd×U)
 |(k,.lst b),lo,a=>if eF k b=4 then b6 (.own,.lst (cut b lo a)) else ef
 |(k,.tup b),lo,a=>b6 (kE k,.tup (cut b lo a))|(_,.str x),lo,a=>if -x<=ei then b6 (.loc,.str (PySem.StrLaws.sliceText x lo a)) else ef
 |_,_,_=>ef
def Jh:U->Option 8
 |.lst a=>b6 ⇑a|.tup a=>b6 ⇑a|.str x=>if -x<=ei then b6 ⇑x else ef
 |_=>ef
def hZ{β:Type}(f:Kd×U->Option β):↑(Kd×U)->Option β|[x]=>f x|_=>ef
def intsOf:↑U->Option ↑Int|[]=>b6 []|.int x::a=>(intsOf a).map (x::·)|_::_=>ef
def Ji:Kd×U->Option (Kd×U)
 |(_,.lst b)=>(strsOf b).bind λa=>if -a<64 then b6 (.own,.lst ((cF a).map .str)) else ef
 |(_,.tup b)=>(strsOf b).bind λa=>if -a<64 then b6 (.own,.lst ((cF a).map .str)) else ef
 |_=>ef
def Jj:Kd×U->Option (Kd×U)
 |(k,.lst a)=>if eF k a=4 then b6 (.own,.lst a) else ef
 |(k,.tup a)=>if eF k a=4 then b6 (.own,.lst a) else ef
 |_=>ef
def Jk:Kd×U->Option (Kd×U)|(k,.lst a)=>b6 (kE k,.tup a)|(k,.tup a)=>b6 (kE k,.tup a)|_=>ef
def BK:Kd×U->Option (Kd×U)
 |(_,.int i)=>if i.natAbs.log2<1920 then b6 (.loc,.str (toString i)) else ef
 |_=>ef
def zO(a:Bool):↑(Kd×U)->Option (Kd×U)|[(_,.int i),(_,.int j)]=>b6 (.loc,.int (if a=4 then(if j<i then j else i) else(if j>i then j else i)))|_=>ef
def Jl:Kd×U->Option (Kd×U)|(_,.lst a)=>(ox a).map λb=>(.loc,.bl (b.all id))|_=>ef
def Jm:Kd×U->Option (Kd×U)|(_,.bl b)=>b6 (.loc,.int (if b then 1 else 0))|_=>ef
def QO(f:Bf)(a:↑(Kd×U)):Option (Kd×U):=match f with|.len=>hZ (λx=>(Jh x.2).map λ(n:Nat)=>(Kd.loc,U.int (n:Int))) a|.sorted=>hZ Ji a|.list=>hZ Jj a|.tuple=>hZ Jk a|.str=>hZ BK a|.int=>hZ Jm a|.max=>zO df a|.min=>zO 4 a|.all=>hZ Jl a|_=>ef
def h_:U->Option ↑5
 |.lst b=>(strsOf b).bind λa=>if -a+1<WS then b6 (bg a) else ef
 |.tup b=>(strsOf b).bind λa=>if -a+1<WS then b6 (bg a) else ef
 |_=>ef
def Jn:Kd×U->Option (Kd×U)
 |(k,.tup a)=>if eF k a=4 then b6 (.own,.lst a.reverse) else ef
 |_=>ef
def uD(f:B2)(b:↑(Kd×U)):Option (Kd×U):=match f with|.Sf=>ef|.Ra=>hZ Jn b|.sset=>hZ (λx=>(h_ x.2).bind λa=>if -a<64 then b6 (.own,.lst ((cF a).map .str)) else ef) b|.la=>hZ (λx=>(h_ x.2).map λa=>(.loc,.int ⇑a)) b
def W0(f:5->Option (Kd×U)):U->Option (Kd×U)|.str b=>f b|_=>ef
def iu(h:W0 f u\r):∃b,u=.str b/\f b\r:=by cases u with|str b=>show#[b,9,h]|_=>ext h
def L0(a:5)(c:↑U):Option (Kd×U):=(strsOf c).bind λb=>if ZZ a b=4 then b6 (.loc,.str (Ds a b)) else ef
def Of(a:5):U->Option (Kd×U)|.lst b=>L0 a b|.tup b=>L0 a b|_=>ef
def Og:Mf->5->U->Option (Kd×U)
 |.split,a=>W0 λb=>if (-b==0)=df/\-a+2<=ei then b6 (.own,.lst ((rD a b).map .str)) else ef
 |.join,a=>Of a|.endswith,a=>W0 λb=>b6 (.loc,.bl (aay a b))|.partition,a=>W0 λb=>if (-b==0)=df/\-a<=ei then b6 (.loc,.tup [.str (kb a b).1,.str (kb a b).2.1,.str (kb a b).2.2]) else ef
def jn(m:Mf)(u:U)(b:↑(Kd×U)):Option (Kd×U):=W0 (λa=>hZ (λx=>Og m a x.2) b) u
def Oh:Kd×U->Option (↑(Kd×U))|(k,.lst a)=>b6 (a.map λu=>(kE k,u))|(k,.tup a)=>b6 (a.map λu=>(kE k,u))|(_,.str x)=>b6 (x.cps.toList.map λc=>(.loc,.str #[#v[c]]))|_=>ef
def BL:Kd×U->Option (↑(Kd×U))
 |(_,.int n)=>if n<2 ^ 62/\-((2 ^ 62):Int)<n then b6 ((i9 n.toNat).map λi:8=>(Kd.loc,U.int (0+(i:Int)))) else ef
 |_=>ef
def Jo:↑(Kd×U)->Option (↑(Kd×U))
 |[(_,.int lo),(_,.int a)]=>if a<2 ^ 62/\-((2 ^ 62):Int)<lo/\lo<2 ^ 62/\-((2 ^ 62):Int)<a then b6 ((i9 (a - lo).toNat).map λi:8=>(Kd.loc,U.int (lo+(i:Int)))) else ef
 |_=>ef
def L3:Kd×U->Option (↑(Kd×U))|(k,.lst a)=>b6 (a.zipIdx.map λp=>(kE k,.tup [.int p.2,p.1]))|(k,.tup a)=>b6 (a.zipIdx.map λp=>(kE k,.tup [.int p.2,p.1]))|_=>ef
def QW(b:Ik)(a:↑(Kd×U)):Option (↑(Kd×U)):=match b with|.seq=>hZ Oh a|.Pt=>hZ BL a|.Rb=>Jo a|.UL=>hZ L3 a|_=>ef
def Fo(a:↑(5 ×Int)):↑(5 ×Int):=(mR (a.map (·.1))).map λi=>a.getD i (B',0)
def zP(p:5 ×Int):U:=.tup [.str p.1,.int p.2]
def BM:U->Option (Kd×U)
 |.OT a c=>(intsOf c).bind λb=>if -a<64/\a.Nodup/\-a=-b then b6 (.own,.lst ((Fo (a.zip b)).map zP)) else ef
 |_=>ef
def BN(a b:↑5):Option (Kd×U):=match a with|[x]=>b6 (.loc,.int (if x∈b then 0 else 1:8))|_=>ef
def wm:U->Option Bool
 |.bl b=>b6 b|.lst a=>b6 !a.isEmpty|.tup a=>b6 !a.isEmpty|.str x=>if -x<=ei then b6 ((-x:Int) != 0) else ef
 |_=>ef
def lift:Kd×U->M U
 |(.own,u)=>pure u|(.loc,u)=>pure u|(.any,u)=>if O6 u=4 then pure u else M.fail
 |(.bor j,_)=>λst=>match st[j]? with
  |some (b6 (.own,u))=>b6 (.ok u,st.set j (b6 (.loc,u)))
  |_=>ef
 |(.io,_)=>M.fail|(.A',_)=>M.fail
def c8:↑(Kd×U)->M ↑U|[]=>pure []|r::a=>do let u <-lift r;let b <-c8 a;pure (u::b)
def fD(i:8):Kd×U->M Unit
 |(.bor j,_)=>λst=>match st[j]? with
  |some (b6 (.own,u))=>b6 (.ok (),(st.set j (b6 (.loc,u))).set i (b6 (.loc,u)))
  |_=>ef
 |(.io,_)=>M.fail|(.A',_)=>M.fail|(k,u)=>λst=>b6 (.ok (),st.set i (b6 (k,u)))
def aU:↑(Kd×U)->aq->6|[],_=>True|(.bor j,u)::a,st=>(∃k:Kd,k.root=4/\st[j]?\b6 (k,u))/\aU a st|_::a,st=>aU a st
open Classical in
def az(a:↑(Kd×U)):M Unit:=λst=>if aU a st then b6 (.ok (),st) else ef
abbrev Tab:=5->↑U->Option (Ex (Kd×U))
def jx(Γ:Tab)(f:5)(a:↑U):M (Kd×U):=λst=>match Γ f a with|some (.ok (.any,_))=>ef|none=>ef|some r=>b6 (r,st)
def dM(i:8):M (Kd×U):=λst=>match st[i]? with|some (b6 (.A',_))=>ef|some (b6 (k,u))=>b6 (.ok (if k.root=4 then .bor i else k,u),st)|_=>ef
def Vh(i:8):M (U×↑U):=λst=>match st[i]? with|some (b6 (.A',.ob df u a))=>b6 (.ok (u,a),st)|_=>ef
def T7(i:8)(f:U->↑U->Option (U×↑U)):M Unit:=λst=>match st[i]? with
 |some (b6 (.A',.ob df u b))=>match f u b with
  |some (w,a)=>if O6 w=4/\fB a=4 then b6 (.ok (),st.set i (b6 (.A',.ob df w a))) else ef
  |none=>ef
 |_=>ef
def Fp(u:U)(a:↑U):Option (U×↑U):=if -a<ei then b6 (u,a++[u]) else ef
def RW(d:Bool)(i:8):M Unit:=λst=>match st[i]? with
 |some (b6 (.A',.ob a _ _))=>if a=d then b6 (.ok (),st) else ef
 |_=>ef
def XU(w d:Bool):Option Bool:=if w=4 then(if d=4 then b6 df else ef) else b6 d
def r9:Kd->U->Option (Sum (Kd×U) 5)|.loc,x=>b6 (.inl (.loc,x))|.io,.str c=>b6 (.inr c)|_,_=>ef
def BO(d:Bool):Option (Ex (Kd×U))->Option (Sum (Kd×U) 5 ×U×↑U)
 |some (.ok (k,.tup [x,.ob a u b]))=>if a=d then(r9 k x).map λr=>(r,u,b) else ef
 |_=>ef
def dA(Γ:Tab)(f:5)(w:Bool)(i:8)(b:↑(Kd×U)):M (Sum (Kd×U) 5):=λst=>match st[i]? with|some (b6 (.A',.ob d u c))=>(XU w d).bind λa=>(BO a (Γ f (.ob a u c::b.map (·.2)))).map λp=>(.ok p.1,st.set i (b6 (.A',.ob d p.2.1 p.2.2)))|_=>ef
def V2:Sum (Kd×U) 5->M (Kd×U)|.inl r=>pure r|.inr _=>M.fail
def Z6(st:aq)(p:8 × 8):Option (Kd×U):=match st[p.1]? with|some (b6 (.loc,.tup a))=>a[p.2]?.map λu=>(.loc,u)|some (b6 (.any,.tup a))=>a[p.2]?.map λu=>(.any,u)|_=>ef
def UP(st:aq):↑(8 × 8)->Option (↑(Kd×U))|[]=>b6 []|p::a=>(Z6 st p).bind λr=>(UP st a).map (r::·)
def Vi(a:↑(8 × 8)):M (↑(Kd×U)):=λst=>(UP st a).map λb=>(.ok b,st)
def kC(i:8):M (↑5 ×↑U):=λst=>match st[i]? with|some (b6 (.A',.OT a b))=>b6 (.ok (a,b),st)|_=>ef
def ia(x:Kd×U):M 5:=match x.2 with|.str y=>pure y|_=>M.fail
def Z7(a:Bool)(y:5)(b:↑5):Bool:=if a=4 then !eL (y∈b) else eL (y∈b)
def BP(i:8):M (Kd×U):=λst=>match st[i]? with|some (b6 (.A',.OT a b))=>b6 (.ok (.bor i,.OT a b),st.set i (b6 (.own,.OT a b)))|_=>dM i st
def Hm(i:8):M Unit:=λst=>b6 (.ok (),st.set i (b6 (.A',.OT [] [])))
def oy(i:8)(y:5):Kd×U->M Unit
 |(.own,.lst b)=>λst=>match st[i]? with
  |some (b6 (.A',.OT a c))=>if y∉a/\-a<ei then b6 (.ok (),st.set i (b6 (.A',.OT (a++[y]) (c++[.lst b])))) else ef
  |_=>ef
 |_=>M.fail
def mV:↑5->↑U->5->U->↑U
 |k::b,v::a,y,u=>if k=y then u::a else v::mV b a y u
 |_,a,_,_=>a
def oz(i:8)(y:5)(u:U):M Unit:=λst=>match st[i]? with
 |some (b6 (.A',.OT a b))=>match fg a b y with
  |some (.lst c)=>if -c<ei then b6 (.ok (),st.set i (b6 (.A',.OT a (mV a b y (.lst (c++[u])))))) else ef
  |_=>ef
 |_=>ef
def Z8:U->M Unit|.OT _ _=>pure ()|_=>M.fail
def Fq(x:Kd×U)(y:5)(u:U):Option (Kd×U):=match x with|(k,.OT a b)=>b6 (match fg a b y with|some v=>(kE k,v)|none=>(.loc,u))|_=>ef
noncomputable def uE(i:8):M ↑U:=λst=>match st[i]? with
 |some (b6 (k,.lst a))=>if k.root=4 then b6 (.ok a,st) else ef
 |_=>ef
def zQ(x:Kd×U):M Int:=match x.2 with|.int j=>pure j|_=>M.fail
def uF(a:↑U)(j:Int):Option Int:=if 0<=j then(match a[j.toNat]? with|some (.int o)=>b6 o|_=>ef) else ef
def BQ(sub:Bool)(o w:Int):Int:=if sub=4 then o - w else o+w
def sets:↑8->↑(Kd×U)->M Unit
 |[],[]=>pure ()|i::a,r::b=>do fD i r;sets a b
 |_,_=>M.fail
def fE(t:Bool)(a:↑8)(r:Kd×U):M Unit:=match t,a,r with|false,[i],r=>fD i r|true,a,(k,.tup b)=>sets a (b.map λu=>(kE k,u))|_,_,_=>M.fail
def inScope{α:Type}(k:8)(m:M α):M α:=λst=>match m (pz k ef++st) with|none=>ef|some (r,a)=>b6 (r,a.drop k)
def cz(k:8)(t:Bool)(cond:M Bool)(d:M (Kd×U))(c:↑(Kd×U)):↑(Kd×U)->↑U->M ↑U
 |[],a=>do az c;pure a
 |x::e,a=>do
  az c
  let r <-inScope k (fE t (i9 k) x >>= λ_=>cond >>= λb=>if b=4 then(d >>= λr=>lift r >>= λu=>pure (b6 u)) else pure ef)
  match r with
  |some u=>if -a<ei then cz k t cond d c e (a++[u]) else M.fail
  |none=>cz k t cond d c e a
def qa:U->T5->Option Bool|.str _,_=>b6 4|.int _,_=>b6 df|.bl _,_=>b6 df|.OP,_=>b6 df|.lst _,_=>b6 df|.tup _,_=>b6 df|_,_=>ef
def Jp(x:Kd×U):M (Option Int):=match x.2 with|.int i=>pure (b6 i)|_=>M.fail
def XW:U->M Unit|.lst _=>pure ()|_=>M.fail
section
variable(Γ:Tab)
mutual
noncomputable def ev:E->M (Kd×U)
 |.var i=>dM i|.cst u=>pure (.loc,u)|.QN _ u=>pure (.loc,u)|.bin o a b=>do
  let x <-ev a
  let y <-ev b
  az [x,y]
  M.Pd (Rr o x y)
 |.cmp o a b=>do
  let x <-ev a
  let y <-ev b
  az [x,y]
  let c <-M.Pd (cS o x.2 y.2)
  pure (.loc,.bl c)
 |.and j=>kD j|.or j=>Jq j|.not a=>do
  let x <-ev a
  match x.2 with
  |.bl c=>pure (.loc,.bl !c)
  |_=>M.fail
 |.tup j=>do
  let g <-bw j
  az g
  let n <-c8 g
  if -n<=ei then pure (.loc,.tup n) else M.fail
 |.lst j=>do
  let g <-bw j
  az g
  let n <-c8 g
  if -n<=ei then pure (.own,.lst n) else M.fail
 |.RF r=>pure (.own,.OT [] [])|.idx a b=>do
  let x <-ev a
  let y <-ev b
  az [x,y]
  M.Pd (mU x y.2)
 |.Pf a lo s=>do
  let x <-ev a
  let l <-SV lo
  let h <-SV s
  az [x]
  M.Pd (jP x l h)
 |.bi f j=>do
  let g <-bw j
  az g
  M.Pd (QO f g)
 |.SU f j=>do
  let g <-bw j
  az g
  M.Pd (uD f g)
 |.PY m a j=>do
  let x <-ev a
  let g <-bw j
  az (x::g)
  M.Pd (jn m x.2 g)
 |.call f j=>do
  let g <-bw j
  az g
  jx Γ f (g.map (·.2))
 |.comp k t v q cond e=>do
  let g <-bw q
  az g
  let w <-M.Pd (QW v g)
  let n <-cz k t (aN cond) (ev e) g w []
  pure (.own,.lst n)
 |.bad=>M.fail|.inD _ _ _=>M.fail|.VY i=>BP i|.RG i k d=>do
  let x <-dM i
  Z8 x.2
  let y <-ev k
  let y <-ia y
  let z <-ev d
  let u <-lift z
  let x <-dM i
  M.Pd (Fq x y u)
 |.VZ i=>do
  let x <-dM i
  M.Pd (BM x.2)
 |.P0 i=>Vh i >>= λp=>pure (.loc,p.1)|.QV f i j=>(RW 4 i >>= λ_=>bw j >>= λg=>az g >>= λ_=>dA Γ f df i g) >>= V2|.RH d f _ i j=>(RW d i >>= λ_=>bw j >>= λg=>az g >>= λ_=>dA Γ f df i g) >>= V2|.Rc f _ i A=>(Vi A >>= λg=>dA Γ f 4 i g) >>= V2|.V0 _ a b=>do
  let x <-ev a
  let B <-M.Pd (h_ x.2)
  let y <-ev b
  let C <-M.Pd (h_ y.2)
  M.Pd (BN B C)
 |.UM a T=>do
  let x <-ev a
  let b <-M.Pd (qa x.2 T)
  pure (.loc,.bl b)
noncomputable def bw:↑E->M (↑(Kd×U))|[]=>pure []|e::a=>do let r <-ev e;let b <-bw a;pure (r::b)
noncomputable def SV:↑E->M (Option Int)
 |[]=>pure ef|[e]=>do let x <-ev e;Jp x
 |_=>M.fail
noncomputable def kD:↑E->M (Kd×U)
 |[]=>M.fail|[e]=>ev e|e::a=>do
  let x <-ev e
  match x.2 with
  |.bl c4=>kD a
  |.bl df=>pure (.loc,.bl df)
  |_=>M.fail
noncomputable def Jq:↑E->M (Kd×U)
 |[]=>M.fail|[e]=>ev e|e::a=>do
  let x <-ev e
  match x.2 with
  |.bl c4=>pure (.loc,.bl 4)
  |.bl df=>Jq a
  |_=>M.fail
noncomputable def O0:E->M Bool
 |.and c=>aN c|.or c=>iw c|.not a=>do let b <-O0 a;pure !b
 |.cmp h a b=>do
  let x <-ev a
  let y <-ev b
  az [x,y]
  M.Pd (cS h x.2 y.2)
 |.var i=>do let x <-dM i;M.Pd (wm x.2)
 |.bi f c=>do
  let e <-bw c
  az e
  let r <-M.Pd (QO f e)
  M.Pd (wm r.2)
 |.call f c=>do
  let e <-bw c
  az e
  let r <-jx Γ f (e.map (·.2))
  M.Pd (wm r.2)
 |.inD g a i=>do
  let x <-ev a
  let y <-ia x
  let d <-kC i
  pure (Z7 g y d.1)
 |.UM a T=>do
  let x <-ev a
  M.Pd (qa x.2 T)
 |.QV f i c=>((RW 4 i >>= λ_=>bw c >>= λe=>az e >>= λ_=>dA Γ f df i e) >>= V2) >>= λr=>M.Pd (wm r.2)|_=>M.fail
noncomputable def aN:↑E->M Bool|[]=>pure 4|[e]=>O0 e|e::a=>do let b <-O0 e;if b=4 then aN a else pure df
noncomputable def iw:↑E->M Bool|[]=>pure df|[e]=>O0 e|e::a=>do let b <-O0 e;if b=4 then pure 4 else iw a
end
inductive Fl where|nx|rt (k:Kd) (u:U)|bk|ct
def retS:Kd×U->M Fl
 |(.own,u)=>pure (.rt .own u)|(.loc,u)=>pure (.rt .loc u)|(.any,u)=>if O6 u=4 then pure (.rt .loc u) else pure (.rt .any u)
 |(.bor j,_)=>λst=>match st[j]? with
  |some (b6 (.own,u))=>b6 (.ok (.rt .own u),st.set j ef)
  |_=>ef
 |(.io,_)=>M.fail|(.A',_)=>M.fail
def forM(t:Bool)(c:↑8)(a:M Fl)(b:↑(Kd×U)):↑(Kd×U)->M Fl
 |[]=>do az b;pure .nx
 |x::d=>do
  az b
  fE t c x
  let f <-a
  match f with
  |.nx=>forM t c a b d
  |.ct=>forM t c a b d
  |.bk=>pure .nx
  |.rt k u=>pure (.rt k u)
def qb(c:M Bool)(a:M Fl):8->M Fl
 |0=>M.fail|n+1=>do
  let b <-c
  if b=4 then do
   let f <-a
   match f with
   |.nx=>qb c a n
   |.ct=>qb c a n
   |.bk=>pure .nx
   |.rt k u=>pure (.rt k u)
  else pure .nx
def L4(Γ:Tab)(f:5):Sum (Kd×U) 5->M (Sum (Kd×U) 5)|.inl x=>az [x] >>= λ_=>jx Γ f [x.2] >>= λr=>pure (.inl r)|.inr c=>pure (.inr c)
def mi(Γ:Tab)(f:5)(a:↑U):M (Sum (Kd×U) 5):=λst=>match Γ f a with|some (.ok (.own,u))=>b6 (.ok (.inl (.own,u)),st)|some (.ok (.loc,u))=>b6 (.ok (.inl (.loc,u)),st)|some (.exc c)=>b6 (.ok (.inr c),st)|_=>ef
def BR(x:Kd×U):Sum (Kd×U) 5->M (Sum (Kd×U) 5)|.inl y=>az [x,y] >>= λ_=>c8 [x,y] >>= λa=>pure (.inl (.loc,.tup a))|.inr c=>pure (.inr c)
def Jr(Γ:Tab)(f:5)(i:8)(x:Kd×U):Sum (Kd×U) 5->M (Sum (Kd×U) 5)|.inl y=>az [x,y] >>= λ_=>dA Γ f df i [x,y]|.inr c=>pure (.inr c)
def PQ(Γ:Tab):RE->M (Sum (Kd×U) 5)|.mt d f _ i b=>RW d i >>= λ_=>bw Γ b >>= λa=>az a >>= λ_=>dA Γ f df i a|.Rc f _ i c=>Vi c >>= λa=>dA Γ f 4 i a|.arg f r=>PQ Γ r >>= L4 Γ f|.call f b=>bw Γ b >>= λa=>az a >>= λ_=>mi Γ f (a.map (·.2))|.tup e r=>ev Γ e >>= λx=>PQ Γ r >>= BR x|.UN d f _ i e r=>RW d i >>= λ_=>ev Γ e >>= λx=>PQ Γ r >>= Jr Γ f i x
def zR(t a b:5):M Fl:=if -t<=1048576 then pure (.rt .loc (.str (Ĵ t a b))) else M.fail
def Fs:Sum (Kd×U) 5->M Fl|.inl _=>pure .nx|.inr c=>pure (.rt .io (.str c))
def BS:Sum (Kd×U) 5->M Fl|.inl x=>retS x|.inr c=>pure (.rt .io (.str c))
def BU(j k:8)(a:↑Bool):M Fl:=λst=>match st[j]? with
 |some ef=>if j≠k then(fD k (.loc,.lst (a.map .bl)) >>= λ_=>pure .nx) st else ef
 |_=>ef
def BV(j k:8)(a:↑(5 ×↑Bool)):Sum (Kd×U) 5->M Fl
 |.inl _=>pure .nx|.inr c=>match a.lookup c with
  |some b=>BU j k b
  |none=>M.fail
def modS(i:8)(f:U->Option U):M Unit:=λst=>match st[i]? with
 |some (b6 (k,u))=>if k.root=4 then match f u with
   |some a=>b6 (.ok (),st.set i (b6 (k,a)))
   |none=>ef
  else ef
 |_=>ef
def Ft(u:U):U->Option U
 |.lst a=>if -a<ei then b6 (.lst (a++[u])) else ef
 |_=>ef
def qc:Kd×U->U->Option U
 |(k,.lst a),.lst b=>if -b+ -a<=ei/\eF k a=4 then b6 (.lst (b++a)) else ef
 |(k,.tup a),.lst b=>if -b+ -a<=ei/\eF k a=4 then b6 (.lst (b++a)) else ef
 |_,_=>ef
def ix(x u:U):U->Option U
 |.OT a b=>match x with
  |.str y=>if -a<ei then b6 (.OT (dput a b y u).1 (dput a b y u).2) else ef
  |_=>ef
 |.lst c=>match x with
  |.int i=>(SH ⇑c i).map λj=>.lst (c.set j u)
  |_=>ef
 |_=>ef
def BW:↑U->U->Option U|[u,x]=>ix x u|_=>λ_=>ef
def fuel:8:=1000000000000
mutual
noncomputable def Vj:S->8->Bool|.set i _,j=>eL (j≠i)|.ite _ a b,j=>QP a j&&QP b j|.O_ _ d _ _ c,j=>eL (j∉d)&&QP c j|.V1 _ c,j=>QP c j|.put _ _ _,_=>4|.app _ _,_=>4|.ext _ _,_=>4|.bad,_=>4|.newD i,j=>eL (j≠i)|.putD _ _ _,_=>4|.Rf _ _ _,_=>4|.aug _ _ _ _,_=>4|.exp _,_=>4|.ret _,_=>4|.QG _ _,_=>4|.Qa _,_=>4|.Tt _ _ _ _ _,_=>4|.Sg,_=>4|.mX i,j=>eL (j≠i)|.jm _ _,_=>4|.Sh _,_=>4|.Si _,_=>4|.T6 _ _ _ j k _,n=>eL (n≠j)&&eL (n≠k)
noncomputable def QP:↑S->8->Bool|[],_=>4|s::a,j=>Vj s j&&QP a j
end
def qx(b:↑(Kd×U))(c:↑8)(a:↑S):Bool:=b.all λr=>match r.1 with|.bor j=>eL (j∉c)&&QP a j|_=>4
mutual
noncomputable def exec:S->M Fl
 |.set i e=>do let r <-ev Γ e;fD i r;pure .nx
 |.put i k v=>do
  let r <-ev Γ v
  let _ <-dM i
  let x <-ev Γ k
  let g <-c8 [r,x]
  modS i (BW g)
  pure .nx
 |.app i e=>do
  let x <-dM i
  XW x.2
  let r <-ev Γ e
  let u <-lift r
  modS i (Ft u)
  pure .nx
 |.ext i e=>do
  let x <-dM i
  XW x.2
  let r <-ev Γ e
  modS i (qc r)
  pure .nx
 |.bad=>M.fail|.newD i=>do Hm i;pure .nx
 |.putD i k v=>do
  let r <-ev Γ v
  let d <-kC i
  let x <-ev Γ k
  let y <-ia x
  oy i y r
  pure .nx
 |.Rf i k v=>do
  let _ <-kC i
  let x <-ev Γ k
  let y <-ia x
  let d <-kC i
  if y∈d.1 then do
   let r <-ev Γ v
   let u <-lift r
   oz i y u
   pure .nx
  else M.fail
 |.aug sub i k v=>do
  let _ <-uE i
  let y <-ev Γ k
  let j <-zQ y
  let g <-uE i
  let o <-M.Pd (uF g j)
  let z <-ev Γ v
  let w <-zQ z
  modS i (ix (.int j) (.int (BQ sub o w)))
  pure .nx
 |.exp e=>do let _ <-ev Γ e;pure .nx
 |.ret e=>do let r <-ev Γ e;retS r
 |.ite c a b=>do let p <-O0 Γ c;if p=4 then execs a else execs b
 |.O_ t m n l f=>do
  let h <-bw Γ l
  az h
  let q <-M.Pd (QW n h)
  if qx h m f=4 then forM t m (execs f) h q else M.fail
 |.V1 c f=>qb (O0 Γ c) (execs f) fuel|.QG c e=>do let _ <-ev Γ e;pure (.rt .io (.str c))
 |.Qa r=>PQ Γ r >>= BS|.Tt i c b s A=>dM i >>= λr=>ia r >>= λz=>if z=c then(ev Γ b >>= λr=>ia r >>= λt=>zR t s A) else pure .nx
 |.Sg=>M.fail|.mX i=>λst=>b6 (.ok .nx,st.set i (b6 (.A',.ob 4 (.tup []) [])))|.jm i e=>ev Γ e >>= λr=>lift r >>= λu=>T7 i (λ_ g=>b6 (u,g)) >>= λ_=>pure .nx|.Sh i=>T7 i Fp >>= λ_=>pure .nx|.Si r=>PQ Γ r >>= Fs|.T6 r _ B j k _=>PQ Γ r >>= BV j k B
noncomputable def execs:↑S->M Fl
 |[]=>pure .nx|s::a=>do
  let f <-exec s
  match f with
  |.nx=>execs a
  |f=>pure f
end
end
structure Fn where
 name:5
 np:8
 ns:8
 body:↑S
def start(a:↑U)(n:8):aq:=a.map (λu=>b6 (if O6 u=4 then Kd.loc else Kd.any,u))++pz (n - -a) ef
def aV(Γ:Tab)(a:Fn)(b:↑U):Option (Ex (Kd×U)):=if -b=a.np then match execs Γ a.body (start b a.ns) with|some (.ok (.rt .own u),_)=>b6 (.ok (.own,u))|some (.ok (.rt .loc u),_)=>b6 (.ok (.loc,u))|some (.ok (.rt .any u),_)=>b6 (.ok (.any,u))|some (.ok .nx,_)=>b6 (.ok (.loc,.OP))|some (.ok (.rt .io (.str c)),_)=>b6 (.exc c)|_=>ef
 else ef
def bV(a:↑U)(n:8):aq:=match a with|[]=>[]|o::a=>b6 (.A',o)::start a (n - 1)
def UQ:Fl->Option (Kd×U)|.rt .loc u=>b6 (.loc,u)|.rt .io (.str c)=>b6 (.io,.str c)|.nx=>b6 (.loc,.OP)|_=>ef
def XX(st:aq):Option U:=match st with|some (.A',.ob d u a)::_=>b6 (.ob d u a)|_=>ef
def d8(Γ:Tab)(b:Fn)(a:↑S)(c:↑U):Option (Ex (Kd×U)):=if -c=b.np then match execs Γ a (bV c b.ns) with|some (.ok f,st)=>(UQ f).bind λr=>(XX st).map λo=>.ok (r.1,.tup [r.2,o])|_=>ef
 else ef
noncomputable def Fn.ob(b:Fn):Option ↑S:=match b.body with|.Sg::a=>b6 a|_=>ef
def oA(Γ:Tab)(b:Fn)(c:↑U):Option (Ex (Kd×U)):=match b.ob with|some a=>d8 Γ b a c|none=>aV Γ b c
def O2(P:↑Fn):8->Tab
 |0=>λ_ _=>ef|d+1=>λf b=>match P.find? λa=>eL (a.name=f) with
  |some a=>oA (O2 P d) a b
  |none=>ef
end TM
namespace TM
open PySem L2
section
variable{X:Cx}{pins:List (ke×Obj)}{σ:St}{H:Hp}{s:kj}{C:Ct}{S:ke->6}
def yk(I:Inv X pins σ H s)(h:Py X.K H a c):∃b,Vals c b/\s.heap.IsList a b.toArray/\-c<=ei:=by let(b,r,p,z):=I.list h;show#[b,r,p.isList,z]
inductive PK(s:kj):8->U->i7->6 where|OP {n:Nat}:PK s n .OP .none|bl {n:Nat} {b:Bool}:PK s n (.bl b) (.bool b)|int {n:Nat} {i:Int} {t:Tok}:PK s n (.int i) (.int i t)|str {n:Nat} {y:Str} {t:Tok}:PK s n (.str y) (.str y t)|tup {n:Nat} {us:↑U} {G':↑i7} {a:ke}:⇑us=⇑G'->(∀j (hj:j<⇑G'),PK s n (us.getD j .OP) G'[j])->c7 us us=c4->s.heap.IsTuple a G'.toArray->PK s (n+1) (.tup us) (.ref a)|lst {n:Nat} {us:↑U} {G':↑i7} {a:ke}:⇑us=⇑G'->(∀j (hj:j<⇑G'),PK s n (us.getD j .OP) G'[j])->c7 us us=c4->s.heap.IsList a G'.toArray->PK s (n+1) (.lst us) (.ref a)
def PK.self(h:PK s n u x):cC u u=4:=by cases h<;>first|assumption|simp[cC]
theorem PK.zT(f:∀u v x,P1 n u=4->Rep C S H u v->RelV v x->PK s n u x):∀{a}{b}{c},eR n a=4->au C S H a b->Vals b c->-a=-c/\(∀j d,PK s n (a.getD j .OP) c[j])/\c7 a a=4
 |[],_,_,_,h,r=>by ext h r;show#[9,λj d=>(nomatch d),9]|u::a,_,_,e,h,r=>by
  let(v,b,rfl,g,m):=h;erw[eR,dt]at e;cases r with
  |cons i o =>
   let(l,k,y):=PK.zT f e.2 m o;show#[by simp[l],λj d=>?_,by rw[c7,(f _ _ _ e.1 g i).self,y];rfl];cases j with
   |zero=>show f _ _ _ e.1 g i
   |succ j=>show k j 7
def PK.of(I:Inv X pins σ H s)(f:C.K=X.K):∀n u v x,P1 n u=4->Rep C S H u v->RelV v x->PK s n u x:=by
 intro n;induction n with
 |zero=>intro u v x e h r;cases u<;>first|(simp[P1]at e;done)|(subst h;first|(constructor)|(let(t,rfl):=r;constructor))
 |succ n g =>
  intro u v x e h r;cases u with
  |tup i=>let(a,j,rfl,b,c):=h;ext r;let(m,d,p,_):=I.tuple (f▸b);let(l,k,y):=PK.zT g (by assumption) c d;show .tup l k y p
  |lst i=>let(a,j,rfl,b,c):=h;ext r;let(m,d,p,_):=yk I (f▸b.sq);let(l,k,y):=PK.zT g (by simpa[P1] using e) c d;show .lst l k y p
  |_=>first|(simp[P1]at e;done)|(subst h;first|(constructor)|(let(t,rfl):=r;constructor))
def PK.inj:∀{n}{u w}{x},PK s n u x->PK s n w x->u=w:=by
 intro n;induction n with
 |zero=>intro u w x h q;cases h<;>cases q<;>rfl|succ n G =>
  let go:∀{t v:↑U} {g b:↑_} {a:ke} {o r:Obj} {m z:8},-t=-g->(∀j (I:j< -g),PK s n (t.getD j .OP) g[j])->-v=-b->(∀j (I:j< -b),PK s n (v.getD j .OP) b[j])->s.heap.get? a\o->o.data=.seq g.toArray m->s.heap.get? a\r->r.data=.seq b.toArray z->t=v:=by
   intro t v g b a o r m z l k i c e d A B;let:g=b:=7
   subst this;show Wj 7 λj J L=>?_;let:=G (k j 7) (c j 7);simpa[J,L] using this
  intro u w x h q;cases h with
  |tup l k y p =>
   cases q with
   |tup i c D f=>let(o,e,_,m,d):=p;let(r,A,_,z,B):=f;rw[go l k i c e d A B]
   |lst i c D f=>show absurd 9 (Ş f p)
  |lst l k y p =>
   cases q with
   |lst i c D f=>let(o,e,_,m,d):=p;let(r,A,_,z,B):=f;rw[go l k i c e d A B]
   |tup i c D f=>show absurd 9 (Ş p f)
  |_=>ext q;rfl
theorem lu:∀{a b},-a≠-b->c7 a b=df|[],[],h=>absurd 9 h|[],_::_,_=>9|_::_,[],_=>9|u::a,w::b,h=>by rw[c7,lu   (λe=>h (by simp[e])),X']
theorem iy:∀{a b},-a=-b->c7 a b=(i9 ⇑a).all λj=>cC (a.getD j .OP) (b.getD j .OP)
 |[],[],_=>9|[],_::_,h=>by simp at h|_::_,[],h=>by simp at h|u::a,w::b,h=>by
  let c:=by exists h
  rw[c7,iy c,l0,List.range_succ_eq_map,List.all_cons,Ę];rfl
def L5{b a:↑i7}(f:-c=-b)(g:-d=-a):c7 c d=((i9 (min b.toArray.size a.toArray.size)).all (λj=>cC (c.getD j .OP) (d.getD j .OP))&&b.toArray.size==a.toArray.size):=by
 erw[rS];by_cases e:-c=-d
 .rw[iy e,show min _ _=⇑c by lia,show(⇑b==⇑a)=c4 by grind,Bool.and_true]
 rw[lu e,show(⇑b==⇑a)=df by grind,X']
def yl(b:PK s n u y)(h:Κ A s y x k)(hs:y=x->k=4):Ü A s y x k:=λprog w E Q a=>by
 show K' ?_;show wpAny_ite_split (λc=>?_) (λ_=>?_)
 .rw[hs (eq_of_beq c)]at a;show cb (Xq (eT a))
 cases b<;>show cb (h prog w E _ (RM a))
def Z_(D:∀m,m+1=n->∀{u w}{x r}{A},PK s m u x->PK s m w r->A.units+m<VC->Ü A s x r (cC u w))(h:PK s n u x)(q:PK s n w r)(I:A.units+n<VC):Κ A s x r (cC u w)/\aaa A s x r (!cC u w):=by
 let a:A.units<VC:=7
 let go:∀{m:8} {i o:↑U} {t c:↑i7},m+1=n->(∀j (G:j< -t),PK s m (i.getD j .OP) t[j])->(∀j (G:j< -c),PK s m (o.getD j .OP) c[j])->∀j (v:j<t.toArray.size) (z:j<c.toArray.size),Ü A.in1 s t.toArray[j] c.toArray[j] (cC (i.getD j .OP) (o.getD j .OP)):=λ{m i o t c} e k d j v z=>D m e (k j v) (d j z) (by grind);cases h with
 |OP =>
  cases q with
  |OP=>show#[.none_none,.none_none]
  |bl=>show#[.none_bool _,.none_bool _]
  |int=>show#[.none_int _ _,.none_int _ _]
  |str=>show#[.none_str _ _,.none_str _ _]
  |tup f d g b=>show#[.none_tuple b a,.none_tuple b a]
  |lst f d g b=>show#[.none_list b a,.none_list b a]
 |bl =>
  cases q with
  |OP=>show#[.bool_none _,.bool_none _]
  |bl=>show#[.bool_bool _ _,.bool_bool _ _]
  |int=>show#[.bool_int _ _ _,.bool_int _ _ _]
  |str=>show#[.bool_str _ _ _,.bool_str _ _ _]
  |tup f d g b=>show#[.bool_tuple _ b a,.bool_tuple _ b a]
  |lst f d g b=>show#[.bool_list _ b a,.bool_list _ b a]
 |int =>
  cases q with
  |OP=>show#[.int_none _ _,.int_none _ _]
  |bl=>show#[.int_bool _ _ _,.int_bool _ _ _]
  |int=>show#[.int_int _ _ _ _,.int_int _ _ _ _]
  |str=>show#[.int_str _ _ _ _,.int_str _ _ _ _]
  |tup f d g b=>show#[.int_tuple _ _ b a,.int_tuple _ _ b a]
  |lst f d g b=>show#[.int_list _ _ b a,.int_list _ _ b a]
 |str =>
  cases q with
  |OP=>show#[.str_none _ _,.str_none _ _]
  |bl=>show#[.str_bool _ _ _,.str_bool _ _ _]
  |int=>show#[.str_int _ _ _ _,.str_int _ _ _ _]
  |str=>show#[.str_str _ _ _ _,.str_str _ _ _ _]
  |tup f d g b=>show#[.str_tuple _ _ b a,.str_tuple _ _ b a]
  |lst f d g b=>show#[.str_list _ _ b a,.str_list _ _ b a]
 |tup l k y p =>
  cases q with
  |OP=>show#[.tuple_none p a,.tuple_none p a]
  |bl=>show#[.tuple_bool _ p a,.tuple_bool _ p a]
  |int=>show#[.tuple_int _ _ p a,.tuple_int _ _ p a]
  |str=>show#[.tuple_str _ _ p a,.tuple_str _ _ p a]
  |tup f d g b=>rw[show cC (.tup _) (.tup _)=_ from L5 l f];show#[.tuples p b a (go 9 k d),.tuples p b a (go 9 k d)]
  |lst f d g b=>show#[.tuple_list p b a,.tuple_list p b a]
 |lst l k y p =>
  cases q with
  |OP=>show#[.list_none p a,.list_none p a]
  |bl=>show#[.list_bool _ p a,.list_bool _ p a]
  |int=>show#[.list_int _ _ p a,.list_int _ _ p a]
  |str=>show#[.list_str _ _ p a,.list_str _ _ p a]
  |tup f d g b=>show#[.list_tuple p b a,.list_tuple p b a]
  |lst f d g b =>
   rename_i i _ _ o _ _;by_cases B:-i=-o
   .rw[show cC (.lst i) (.lst o)=_ from iy B,l,<-rS];show#[.lists p b 7 a (go 9 k d),.lists p b 7 a (go 9 k d)]
   rw[show cC (.lst i) (.lst o)=df from lu B];show#[.lists_lengths p b 7 a,.lists_lengths p b 7 a]
def L6:∀{n}{u w}{x b}{A},PK s n u x->PK s n w b->A.units+n<VC->Ü A s x b (cC u w):=by intro n;induction n with|zero=>intro u w x b A h a c;show yl h (Z_ (λm e=>by ext e) h a c).1 λe=>by subst e;rw[h.inj a];show a.self|succ n d=>intro u w x b A h a c;show yl h (Z_ (λm e=>by ext e;show d) h a c).1 λe=>by subst e;rw[h.inj a];show a.self
def L7(h:PK s n u x)(b:PK s n w a)(c:A.units+n<VC):Κ A s x a (cC u w)/\aaa A s x a (!cC u w):=Z_ (λm e=>by show L6) h b c
end
end TM
namespace TM
open PySem L2 PyProof.Rows
inductive OY(C:Ct)(m:M (Kd×U))(σ:L2.St)(H:Hp)(Q:VK):6|mk:∀c0:Cf,c0.σ=σ->c0.H=H->Ok C c0->(W m c0.st λr st'=>∀c v,c.σ=σ->c.st=st'->Ok C c->Nx c0 c->aP C c0 c r.1 r.2 v->Q v c.H)->OY C m σ H Q
inductive Qu(C:Ct)(m:M Bool)(σ:L2.St)(H:Hp)(Q:Bool->Hp->6):6|mk:∀c0:Cf,c0.σ=σ->c0.H=H->Ok C c0->(W m c0.st λb st'=>∀c,c.σ=σ->c.st=st'->Ok C c->Nx c0 c->Q b c.H)->Qu C m σ H Q
def fh(C:Ct)(b c:Cf):↑(Kd×U)->↑V->6|[],a=>a=[]|r::d,a=>∃v t,a=v::t/\ir C b c r.1 r.2 v/\fh C b c d t/\(r.1=.own->∀(i:8) e f,d[i]?\e->t[i]?\f->e.1=.own->f≠v)
inductive Qp(C:Ct)(m:M (↑(Kd×U)))(σ:L2.St)(H:Hp)(Q:↑V->Hp->6):6|mk:∀c0:Cf,c0.σ=σ->c0.H=H->Ok C c0->(W m c0.st λrs st'=>∀c vs,c.σ=σ->c.st=st'->Ok C c->Nx c0 c->fh C c0 c rs vs->Q vs c.H)->Qp C m σ H Q
def PE.weak(h:PE X e t)(i:∀σ H Q,b σ H Q->t σ H Q):PE X e b:=λa s σ H Q I q=>h a s σ H Q I (i σ H Q q)
def PT.weak(h:PT X e t)(i:∀σ H Q,b σ H Q->t σ H Q):PT X e b:=λa s σ H Q I q=>h a s σ H Q I (i σ H Q q)
def bU{st}:W (az b) st Q↔aU b st/\Q () st:=by
 constructor
 .rintro⟨a,c,e,h⟩;unfold az at e
  grind
 rintro⟨f,d⟩;show#[(),st,by unfold az;left,d]
def fX{st}:aU (r::a) st↔aU [r] st/\aU a st:=by let(k,u):=r;cases k<;>simp[aU]
def ir.t(h:ir C a c k u v)(s:aU [(k,u)] c.st):aP C a c k u v:=by cases k with|bor j=>show#[s.1,h]|_=>show h
structure W2(C:Ct)(c0 c:Cf)(x y:Kd×U)(vx vy:V):6 where
 hσ:c.σ=c0.σ
 ok:Ok C c
 nx:Nx c0 c
 rx:aP C c0 c x.1 x.2 vx
 ry:aP C c0 c y.1 y.2 vy
 ne:x.1=.own->y.1=.own->vy≠vx
def oB(h:ir C m b k u v)(d:ir C b c f n g):k=.own->f=.own->g≠v:=by rintro rfl rfl e;let(r,i,_,_,_,j):=h;let(p,l,a,_):=d;let(o,ho,_):=j.some;subst i;rw[l]at e;ext e;rw[ho]at a;ext a
def two{k:Kd×U->Kd×U->M β}{d}{f:i7->i7->Sem α}{G:i7->i7->α->kj->6}(Y:PE X a (OY C ma))(hb:PE X b (OY C J))(I:Inv X e i.σ i.H s)(ok:Ok C i) (h:W (ma >>= λx=>J >>= λy=>az [x,y] >>= λ_=>k x y) i.st d) (hf:∀x y c j l v u p,W2 C i c x y j l->Inv X e c.σ c.H p->RelV j v->RelV l u->W (k x y) c.st d->‹X› (f v u) (G v u) X.xe p) :
  ‹X› (uv a X.env) (λv s₁=>‹X› (uv b X.env) (λu s₂=>‹X› (f v u) (G v u) X.xe s₂) X.xe s₁) X.xe s:=by
 rw[ai]at h;show OV (Y e s _ i.H (λj L=>∃x g,g.H=L/\g.σ=i.σ/\Ok C g/\Nx i g/\aP C i g x.1 x.2 j/\W (J >>= λy=>az [x,y] >>= λ_=>k x y) g.st d) I ⟨i,9,9,ok,h.mono λx ab D g j q e2 r z B=>#[x,g,9,q,r,z,B,by left]⟩) ?_;rintro v s1 ⟨j,L,I1,rv,x,g,rfl,q,r,z,B,D⟩;rw[ai]at D;show OV (hb e s1 _ g.H (λl N=>∃y m,m.H=N/\W2 C i m x y j l/\W (k x y) m.st d) I1 ⟨g,q,9,r,D.mono λy ac n m l O e4 Pk Q T=>?_⟩) ?_
 .rw[ai,bU]at n;subst e4;rw[fX]at n;show#[y,m,9,#[O,Pk,z.trans Q,(B.w.on r Q (O.trans q.symm)).t n.1.1,(T.from z),oB B.w T.w],n.2]
 rintro u p ⟨l,N,I2,ru,y,m,rfl,o,n⟩;let hs:=o.hσ;show hf x y m j l v u p o 7 rv ru n
structure Rg(C:Ct)(c0 c:Cf)(x:Kd×U)(vx:V):6 where
 hσ:c.σ=c0.σ
 ok:Ok C c
 nx:Nx c0 c
 rx:aP C c0 c x.1 x.2 vx
def one{k:Kd×U->M β}{b}{f:i7->Sem α}{l}(p:PE X a (OY C q))(I:Inv X d e.σ e.H s)(r:Ok C e) (h:W (q >>= λx=>k x) e.st b) (t:∀x c g v m,Rg C e c x g->Inv X d c.σ c.H m->RelV g v->W (k x) c.st b->‹X› (f v) l X.xe m) :
  ‹X› (uv a X.env) (λv u=>‹X› (f v) l X.xe u) X.xe s:=by
 rw[ai]at h;show OV (p d s _ e.H (λg n=>∃x i,i.H=n/\Rg C e i x g/\W (k x) i.st b) I ⟨e,9,9,r,h.mono λx y o i g z O B D G=>#[x,i,9,#[z,B,D,G],by left]⟩) ?_;rintro v J ⟨g,n,L,N,x,i,rfl,j,o⟩;show t x i g v J j (by rw[j.hσ];show L) N o
def c9(C:Ct)(a:Cf)(Q:VK)(r:Kd×U)(b:aq):6:=∀c v,c.σ=a.σ->c.st=b->Ok C c->Nx a c->aP C a c r.1 r.2 v->Q v c.H
def c9.flat(h:c9 C a Q (.loc,u) c.st)(b:c.σ=a.σ)(d:Ok C c)(n:Nx a c)(r:Rep C c.S c.H u v):Q v c.H:=h c v b 9 d n r
def c9.list(h:c9 C a Q (.own,.lst b) c.st)(d:c.σ=a.σ)(e:Ok C c)(n:Nx a c)(r:au C c.S c.H b f)(p)(g:c.H p=ef):Q (.ref p) (upd c.H p (.lst f)):=by let(i,j,k):=e.newList n g r;show h {c with H:=upd c.H p _} _ d 9 i j k
def c9.tup(h:c9 C a Q (.loc,.tup b) c.st)(d:c.σ=a.σ)(e:Ok C c)(n:Nx a c)(r:au C c.S c.H b f)(p)(g:c.H p=ef):Q (.ref p) (upd c.H p (.tup f)):=by let(i,j,k):=e.BI n g r;show h {c with H:=upd c.H p _} _ d 9 i j k
def c9.tupK(h:c9 C d Q (kE k,.tup f) c.st)(g:c.σ=d.σ)(a:Ok C c)(n:Nx d c)(r:au C (SK C c k) c.H f e)(p)(i:c.H p=ef):Q (.ref p) (upd c.H p (.tup e)):=by let(j,b):=a.lay  i;show h {c with H:=upd c.H p _} _ g 9 j (n.trans b) (aP.item ?_);cases k<;>show#[p,e,9,Pu.of ak,by first|show r.mv (a.T1 b)|show r.mv (a.mv b)]
def d9(h:eF k a=4)(r:au C (SK C c k) c.H a b):au C c.S c.H a b:=by cases k with|any=>show r.O6 (by assumption)|_=>show r
def Js(k b):∀a,SK C c k a->SK C c (kT k b) a:=by intro a h;cases k<;>cases b<;>first|show h|show .inr h
def Fu(k b):∀a,SK C c b a->SK C c (kT k b) a:=by intro a h;cases k<;>cases b<;>first|show h|show .inr h
def L8(k a):kE (kT k a)=kT k a:=by cases k<;>cases a<;>rfl
def Fv:Qy X (YK .Add) (λx y H Q=>∃l b c zs,x=.ref l/\y=.ref b/\Py X.K H l c/\Py X.K H b zs/\-c+ -zs<=ei/\∀p,H p=ef->Q (.ref p) (upd H p (.lst (c++zs)))):=by
 intro e s σ H x y v u Q I w A h;let(l,b,c,zs,rfl,rfl,B,C,T,q):=h;ext w A;let(f,r,D,z):=I.list B;let(g,i,d,z2):=I.list C;let hl:=-r;let RN:=-i;let((cls,dd,j,G),ho,k,n,m):=D.isList;let((Y,J,data2,L),o,t,N,a):=d.isList;simp only at k m t a;subst k m t a;show Ł #[_,ho,9] #[_,o,9] noFill_list_add seq_list_add F.slot_list_add F.entry_list_add (F.args_list_add_2 _ _)
   (list_addW l b _ _ n N dd J G L 7) #[ho,o,?_]
 let O:f.toArray++g.toArray=(f++g).toArray:=7
 rw[O];show#[.ref _,_,I.N7  (r.append i) (by rw[nc];lia),9,q _ I.fresh]
section
variable{X:Cx}{C:Ct}{pins:List (ke×Obj)}{s:kj}{c0 c:Cf}{Q:VK}
def BX:Qy X (YK .Add) (λx y H Q=>∃a b e,x=.ref a/\y=.ref b/\Pu X.K H a []/\Pu X.K H b e/\Q (.ref b) H):=by
 intro pins s σ H x y v u Q I l m h;let(a,b,e,rfl,rfl,o,p,q):=h;ext l m;let(J,r,t,_):=I.tuple o;let(w,L,z,_):=I.tuple p;ext r;let((cls,dd,f,A),ho,g,n,i):=id t;let((N,B,data2,D),j,k,G,d):=id z;simp only at g i k d;subst g i k d;show Ł #[_,ho,9] #[_,j,9] Ō Ζ F.slot_tuple_add F.entry_tuple_add (F.args_tuple_add_2 _ _)
   (tuple_addW0 a b _ w.toArray n G dd B A D (by rfl)) #[ho,j,.ref b,H,I,9,q]
def XS.op:XS->ϝ|.add=>.Add|.sub=>.Sub|.mul=>.Mult|.Rq=>.FloorDiv|.mod=>.Mod|.pow=>.Pow
def fY(h:wj f a b\r):∃i j o,a=.int i/\b=.int j/\f i j\o/\r=(.loc,.int o):=by
 unfold wj at h;split at h
 .rw[i0]at h;let(o,e,rfl):=h;show#[_,_,o,9,9,e,9]
 ext h
def Jt(hK:C.K=X.K)(t:W2 C c0 c x y l m)(I:Inv X pins c.σ c.H s)(B:RelV l v)(D:RelV m u)(h:Rr op x y\r)(q:c9 C c0 Q r c.st):
  ‹X› (YK op.op v u) (EP X pins c.σ Q) X.xe s:=by
 let(z,d,n,G,J,_):=t;cases op with
 |add =>
  let h:BJ x y\r:=h;unfold BJ at h;split at h
  .let e:=G.int d;let f:=J.int d;ext h;show du pins s c.σ c.H l m v u Q I B D #[_,_,e,f,q.flat z d n 9]
  .let e:=G.str d;let f:=J.str d;split at h
   .cases h;show vI pins s c.σ c.H l m v u Q I B D #[_,_,e,f,by assumption,q.flat z d n 9]
   ext h
  .let(a,L,e,h1,O):=G.list d;let(b,N,f,h3,T):=J.list d;split at h
   .rename_i Y;ext h;show Fv pins s c.σ c.H l m v u Q I B D #[a,b,L,N,e,f,hK▸h1,hK▸h3,by rw[<-O.len,<-T.len];show Y.1,λp hp=>q.list z d n ((d9 Y.2.1 O).append (d9 Y.2.2 T)) p hp]
   ext h
  .rename_i k xs k' ys _ _;let(a,L,e,h1,O):=G.tuple d;let(b,N,f,h3,T):=J.tuple d;let Rh:=h1;let Th:=h3;rw[hK]at Rh Th;split at h
   .rename_i Y;ext h;let m1:au C (SK C c (kT k k')) c.H xs L:=O.mv (.up (Js k k'));let m2:au C (SK C c (kT k k')) c.H ys N:=T.mv (.up (Fu k k'));let q':c9 C c0 Q (kE (kT k k'),.tup (xs++ys)) c.st:=by rw[L8];show q
    by_cases e1:L=[]
    .subst e1;show BX pins s c.σ c.H l m v u Q I B D #[a,b,N,e,f,Rh,Th,?_];show q' c (.ref b) z 9 d n (aP.item #[b,N,9,h3,?_]);let:xs=[]:=by let:=m1.len;exists this
     rw[this];show m2
    show EW pins s c.σ c.H l m v u Q I B D #[a,b,L,N,e,f,Rh,Th,e1,by rw[<-O.len,<-T.len];show Y,λe2=>?_,λ_ p hp=>q'.tupK z d n (m1.append m2) p hp];subst e2;show q' c (.ref a) z 9 d n (aP.item #[a,L,9,h1,?_]);let:ys=[]:=by let:=m2.len;exists this
    rw[this,P'];show m1
   ext h
  ext h
 |sub=>let(i,j,o,e,f,g,rfl):=fY h;let e:=(e▸G).int d;let f:=(f▸J).int d;ext g;show vF pins s c.σ c.H l m v u Q I B D #[_,_,e,f,q.flat z d n 9]|mul =>
  let(i,j,o,e,f,g,rfl):=fY h;let e:=(e▸G).int d;let f:=(f▸J).int d;unfold Fh at g;split at g
  .cases g;show q9 pins s c.σ c.H l m v u Q I B D #[_,_,e,f,by assumption,q.flat z d n 9]
  ext g
 |Rq =>
  let(i,j,o,e,f,g,rfl):=fY h;let e:=(e▸G).int d;let f:=(f▸J).int d;unfold Fi at g;split at g
  .cases g;show EH pins s c.σ c.H l m v u Q I B D #[_,_,e,f,by assumption,q.flat z d n 9]
  ext g
 |mod =>
  let(i,j,o,e,f,g,rfl):=fY h;let e:=(e▸G).int d;let f:=(f▸J).int d;unfold Fj at g;split at g
  .cases g;show bR pins s c.σ c.H l m v u Q I B D #[_,_,e,f,by assumption,q.flat z d n 9]
  ext g
 |pow =>
  let(i,j,o,e,f,g,rfl):=fY h;let e:=(e▸G).int d;let f:=(f▸J).int d;unfold Fm at g;split at g
  .cases g;show q_ pins s c.σ c.H l m v u Q I B D #[_,_,e,f,by assumption,q.flat z d n 9]
  ext g
def Fw(d:C.K=X.K)(f:PE X a (OY C g))(i:PE X b (OY C j)):PE X (.BinOp a k.op b l) (OY C (g >>= λx=>j >>= λy=>az [x,y] >>= λ_=>M.Pd (Rr k x y))):=by rintro pins s σ H Q I ⟨c0,rfl,rfl,m,h⟩;show wpAny_BinOp (two f i I m h λx y c A B v u D t n o p w=>?_);let(r,e,q):=cK.mp w;show OV (Jt d t n o p e q) λ_ _ z=>by rw[t.hσ]at z;show z
def XT.op:XT->CmpOp|.eq=>.Eq|.ne=>.NotEq|.lt=>.Lt|.le=>.LtE|.gt=>.Gt|.ge=>.GtE|.isin=>.In|.OR=>.NotIn|.is=>.Is|.Se=>.IsNot
def L9{f:Bool}(I:Inv X pins c.σ c.H s)(n:C.K=X.K)(T:X.A.units+60<VC){S}(u:Rep C S c.H x t)(z:RelV t v)(B:au C S c.H o r) (ha:Py C.K c.H a r\/Pu C.K c.H a r) (D:P1 50 x=4) (G:eR 50 o=4) {Q} (q:Q (.bool (if f then !(o.any λy=>cC y x) else o.any λy=>cC y x)) s) :
  ‹X› (TY (if f then .NotIn else .In) v (.ref a)) Q X.xe s:=by
 let J:=PK.of I n 50 x t v D u z;let go:∀d ,Vals r d->∃e:i7->Bool,(∀y,y∈d.toArray->Ü X.A.in1 s y v (e y))/\d.toArray.any e=o.any λy=>cC y x:=by
  intro d m;let(l,k,_):=PK.zT (PK.of I n 50) G B m
  classical
  let q:∀j (b:j< -d),eL (∃w,PK s 50 w d[j]/\cC w x=4)=cC _ x:=λj b=>by rw[so,decide_eq_true_iff];show#[λ⟨w,g,i⟩=>by rw[<-g.inj (k j b)];show i,λh=>#[_,k j b,h]]
  show#[λy=>eL (∃w,PK s 50 w y/\cC w x=4),λy Y=>?_,?_]
  .let(j,b,e):=Z' (show y∈d by left);subst e;change Ü _ _ _ _ (decide _);rw[q j b];show L6 (k j b) J (by grind)
  rw[so];erw[List.any_toArray,QL];constructor
  .rintro⟨y,L,h⟩;let(j,b,rfl):=Z' L;rw[q j b]at h;show#[_,Qx (l▸b),by simpa[l▸b] using h]
  rintro⟨w,N,O⟩;let(j,b,rfl):=Z' N;show#[_,Qx (l▸b),by rw[q j (l▸b)];simpa[b] using O]
 obtain ha|ha:=ha
 .let(d,m,p,_):=yk I (n▸ha);let(e,g,i):=go d m;cases f with|false=>show SeqAt.in_listAt e p g (by rw[i];show q)|true=>show SeqAt.notIn_listAt e p g (by rw[i];show q)
 rw[n]at ha;let(d,m,p,_):=I.tuple ha;let(e,g,i):=go d m;cases f with|false=>show SeqAt.in_tupleAt e p g (by rw[i];show q)|true=>show SeqAt.notIn_tupleAt e p g (by rw[i];show q)
end
theorem bI:∀{b}{a},strsOf b\a->b=a.map .str|[],a,h=>by ext h;rfl|.str x::b,a,h=>by erw[strsOf,i0]at h;let(t,c,rfl):=h;rw[bI c];rfl|.OP::_,_,h=>by ext h|.bl _::_,_,h=>by ext h|.int _::_,_,h=>by ext h|.tup _::_,_,h=>by ext h|.lst _::_,_,h=>by ext h|.OT _ _::_,_,h=>by ext h
theorem mj:∀{b}{a},intsOf b\a->b=a.map .int
 |[],a,h=>by ext h;rfl|u::b,a,h=>by
  cases u<;>first|(cases h)|skip
  let c:(intsOf b).map _\a:=h;rw[i0]at c;let(ms,e,rfl):=c;rw[mj e];rfl
theorem au.ints{S}:∀{b:↑Int}{a},au C S H (b.map .int) a->a=b.map V.int|[],a,h=>h|n::b,a,h=>by let(v,r,rfl,c,d):=h;rw[au.ints d];let:=c;rw[this];rfl
theorem oC:∀{b}{a},ox b\a->b=a.map .bl|[],a,h=>by ext h;rfl|.bl x::b,a,h=>by erw[ox,i0]at h;let(t,c,rfl):=h;rw[oC c];rfl|.OP::_,_,h=>by ext h|.str _::_,_,h=>by ext h|.int _::_,_,h=>by ext h|.tup _::_,_,h=>by ext h|.lst _::_,_,h=>by ext h|.OT _ _::_,_,h=>by ext h
theorem au.bls{S}:∀{b:↑Bool}{a},au C S H (b.map .bl) a->a=b.map V.bl|[],a,h=>h|x::b,a,h=>by let(v,r,rfl,c,d):=h;rw[au.bls d];let:=c;rw[this];rfl
def Ju(X:Cx)(a:↑(ke×Obj))(c:Cf)(b:Bool)(v:i7)(d:kj):6:=v=.bool b/\Inv X a c.σ c.H d
def eS(o:Qy X f r)(I:Inv X a c.σ c.H s)(i:RelV d v)(j:RelV e u)(h:r d e c.H λx g=>x=.bl b/\g=c.H):
  ‹X› (f v u) (Ju X a c b) X.xe s :=
 OV (o a s c.σ c.H d e v u _ I i j h) λw p k=>by let(z,g,l,r,m,n):=k;subst m n;show#[r,l]
inductive RtD(C:Ct)(c:Cf)(k:Kd)(ks:↑5)(us:↑U)(v:V):6|mk:∀a kvs,v=.ref a->c.H a\.dK kvs->kvs.map (·.1)=ks.map tA->au C (SK C c k) c.H us (kvs.map (·.2))->RtD C c k ks us v
def aP.dict(i:Ok C c)(h:aP C n c k (.OT l m) v):RtD C c k l m v:=by cases k with|own=>let(r,e,_,_,_,b,d,f,g):=h;show#[r,b,e,d,f,g]|bor j=>let(r,e,_,_,_,b,d,f,g):=i.rootOf h.1 h.2;show#[r,b,e,d,f,g]|io=>show h.elim|A'=>show h.elim|_=>let(a,e,_,b,d,f,g):=h;show#[a,b,e,d,f,g]
theorem eZ{S}:∀{c}{d}{a:↑(Key×V)},a.map (·.1)=c.map tA->au C S H d (a.map (·.2)) -> (∀u,fg c d x\u->∃v,fe a (tA x)\v/\Rep C S H u v)/\(fe a (tA x)).isSome=eL (x∈c)
 |[],d,a,b,f=>by
  let:=by exists b
  subst this;show#[λu h=>by cases d<;>simp[fg]at h,by rfl]
 |k::c,d,[],b,f=>by simp at b|k::c,[],p::a,b,f=>by simp[au]at f|k::c,n::d,p::a,b,f=>by
  let(v,r,e,i,j):=f;ext e;rw[lx,lx,Ò]at b;let(l,m):=eZ  b.2 j;by_cases hk:k=x
  .subst hk;show#[λu h=>?_,?_]
   .simp[fg]at h;subst h;show#[p.2,fR b.1,i]
   rw[fR b.1];simp
  let g:¬p.1=tA x:=7
  show#[λu h=>?_,?_]
  .simp[fg,hk]at h;let(v,e,q):=l u h;show#[v,by rw[fS g];show e,q]
  rw[fS g,m];simp[sg hk]
def Rep.qw{S:ke->6}(h:Rep C S H u v):eL (v=.OP)=qw u:=by cases u with|OP=>let:v=.OP:=h;subst this;rfl|bl b=>let:v=.bl b:=h;subst this;rfl|int b=>let:v=.int b:=h;subst this;rfl|str b=>let:v=.str b:=h;subst this;rfl|OT c d=>let(a,rfl,_):=h;rfl|ob _ _ _=>show Uo h|_=>let(a,e,rfl,_):=h;rfl
def BY:Qy X (TY .Is) (λx y H Q=>∃i j,x=.bl i/\y=.bl j/\Q (.bl (i==j)) H):=by intro a s σ H x y v u Q I b c h;let(i,j,rfl,rfl,q):=h;ext b c;cases i<;>cases j<;>show eT (bZ I q 9)
def wt:Qy X (TY .IsNot) (λx y H Q=>∃i j,x=.bl i/\y=.bl j/\Q (.bl (!(i==j))) H):=by intro a s σ H x y v u Q I b c h;let(i,j,rfl,rfl,q):=h;ext b c;cases i<;>cases j<;>show eT (bZ I q 9)
def BZ(hP:C.P=X.prog)(hw:C.w=X.w)(q:C.K=X.K)(Q:X.A.units+60<VC)(t:W2 C c0 c x y L T)(I:Inv X o c.σ c.H s)(f:RelV L v)(i:RelV T u)(h:cS op x.2 y.2\b):
  ‹X› (TY op.op v u) (Ju X o c b) X.xe s:=by
 let(hσ,d,n,l,j,_):=t;let(kx,ux):=x;let(ky,uy):=y
 dsimp only at h l j
 let B:∀g:Bool,∀r,zN ux uy\r->‹X› (TY (if g then .NotIn else .In) v u) (Ju X o c (if g then !r else r)) X.xe s:=by
  intro g r h;let G:=l.read d;let N:=j.read d;unfold zN at h;split at h
  .let(a,vs,rfl,p,D):=N;ext i;unfold Vg at h;split at h
   .rename_i m;ext h;show L9 I q Q G f D (.inl p.sq) m.1 m.2 #[by cases g<;>rfl,I]
   ext h
  .let(a,vs,rfl,p,D):=N;ext i;unfold Vg at h;split at h
   .rename_i m;ext h;show L9 I q Q G f D (.inr p) m.1 m.2 #[by cases g<;>rfl,I]
   ext h
  .cases h;let J:L=_:=G;let Y:T=_:=N;cases g with|false=>show eS zq I f i #[_,_,J,Y,9,9]|true=>show eS rB I f i #[_,_,J,Y,9,9]
  .cases h;let J:L=_:=G;let(a,ab,rfl,p,D,h3):=j.dict d;ext i;subst J;let hs:=λz:5=>(eZ (x:=z) D h3).2;cases g with|false=>show LR 7 I (ij.k (k:=tA _) p) f λs' O=>#[by rw[hs];rfl,O]|true=>show xW 7 I (ij.k (k:=tA _) p) f λs' O=>#[by rw[hs];rfl,O]
  ext h
 unfold cS at h;split at h
 .split at h
  .rename_i m;ext h;show(L7 (n:=50) (.of I q _ _ _ _ m.1 (l.read d) f) (.of I q _ _ _ _ m.2 (j.read d) i) 7).1 _ _ _ _ #[9,I]
  ext h
 .split at h
  .rename_i m;ext h;show(L7 (n:=50) (.of I q _ _ _ _ m.1 (l.read d) f) (.of I q _ _ _ _ m.2 (j.read d) i) 7).2 _ _ _ _ #[9,I]
  ext h
 .cases h;show eS Ly I f i #[_,_,l.int d,j.int d,9,9]
 .cases h;show eS Lz I f i #[_,_,l.int d,j.int d,9,9]
 .cases h;show eS LA I f i #[_,_,l.int d,j.int d,9,9]
 .show B df b h
 .rw[i0]at h;let(r,p,rfl):=h;show B 4 r p
 .cases h;let e:=j.OP d;show eS Iz I f i #[e,by rw[(l.read d).qw],9]
 .cases h;let e:=j.OP d;show eS EL I f i #[e,by rw[(l.read d).qw],9]
 .cases h;show eS BY I f i #[_,_,l.bl d,j.bl d,9,9]
 .cases h;show eS wt I f i #[_,_,l.bl d,j.bl d,9,9]
 ext h
def Fx(g:C.P=X.prog)(i:C.w=X.w)(j:C.K=X.K)(k:X.A.units+60<VC)(l:PE X a (OY C m))(n:PE X b (OY C o))(p:Á d.op b=df):PE X (.Compare a [d.op] [b] B) (OY C (m >>= λx=>o >>= λy=>az [x,y] >>= λ_=>M.Pd (cS d x.2 y.2) >>= λc=>pure (.loc,.bl c))):=by rintro f s σ H Q I ⟨T,rfl,rfl,D,h⟩;show wpAny_Compare1 (two l n I D h λx y c Y vy v u s2 t G J L w=>?_) p;rw[ai]at w;let(r,e,q):=cK.mp w;rw[ao]at q;show OV (BZ g i j k t G J L e) λz s' N=>?_;let(e,O):=N;subst e;show#[.bl r,c.H,by rw[<-t.hσ];show O,9,q c _ t.hσ 9 t.ok t.nx 9]
def Fy(i:C.P=X.prog)(j:C.w=X.w)(k:C.K=X.K)(l:X.A.units+60<VC)(m:PE X a (OY C n))(o:PE X b (OY C p))(B:Á f.op b=df):PT X (.Compare a [f.op] [b] D) (Qu C (n >>= λx=>p >>= λy=>az [x,y] >>= λ_=>M.Pd (cS f x.2 y.2))):=by rintro g s σ H Q I ⟨T,rfl,rfl,G,h⟩;show Ā (two   m o I G h λx y c Y vy v u s2 t J L N w=>?_) B;let(r,e,q):=cK.mp w;show OV (BZ i j k l t J L N e) λz s' d=>?_;let(e,O):=d;subst e;show RM #[c.H,by rw[<-t.hσ];show O,q c t.hσ 9 t.ok t.nx]
def L_(C:Ct)(d:Cf)(Q:Bool->Hp->6)(b:Bool)(a:aq):6:=∀c,c.σ=d.σ->c.st=a->Ok C c->Nx d c->Q b c.H
def B0(c:a.σ=b.σ)(d:Ok C a)(n:Nx b a)(h:W m a.st (c9 C b Q)):OY C m b.σ a.H Q :=#[a,c,9,d,h.mono λr st e f v g i j k l=>e f v g i j (n.trans k) (l.from n)]
def B1(c:a.σ=b.σ)(d:Ok C a)(n:Nx b a)(h:W m a.st (L_ C b Q)):Qu C m b.σ a.H Q :=#[a,c,9,d,h.mono λr st e f g i j k=>e f g i j (n.trans k)]
def aW(d:Ok C a)(h:W (e >>= k) a.st b) (f:∀x c v,Rg C a c x v->W (k x) c.st b->Z v c.H):OY C e a.σ a.H Z:=by rw[ai]at h;show#[a,9,9,d,h.mono λx g p i j l q m n o=>f x i j #[l,m,n,o] 7]
def iz(e:Ok C a)(h:W (f >>= k) a.st d) (g:∀b c,c.σ=a.σ->Ok C c->Nx a c->W (k b) c.st d->Z b c.H):Qu C f a.σ a.H Z:=by rw[ai]at h;show#[a,9,9,e,h.mono λx i o j l p m n=>g x j l m n 7]
def Ma(m:M (Kd×U))(x:Kd×U):M (Kd×U):=match x.2 with|.bl c4=>m|.bl df=>pure (.loc,.bl df)|_=>M.fail
def orK(m:M (Kd×U))(x:Kd×U):M (Kd×U):=match x.2 with|.bl c4=>pure (.loc,.bl 4)|.bl df=>m|_=>M.fail
def Mb(x:Kd×U):M (Kd×U):=match x.2 with|.bl c=>pure (.loc,.bl !c)|_=>M.fail
def snd_and(j:PE X a (OY C l))(m:PE X (.BoolOp .And (b::d) g) (OY C o)):PE X (.BoolOp .And (a::b::d) g) (OY C (l >>= Ma o)):=by
 show PE.weak (Ih j m) ?_;rintro σ H Q ⟨q,rfl,rfl,p,h⟩;show aW p h λx c v t w=>?_;let(k,u):=x;let(i,f,n,r):=t;unfold Ma at w;split at w
 .rename_i e;subst e;show#[4,r.bl f,by show B0 i f n w]
 .rename_i e;subst e;rw[ao]at w;show#[_,r.bl f,by show w c _ i 9 f n 9]
 show(bp.mp w).elim
def Jv(j:PE X a (OY C l))(m:PE X (.BoolOp .Or (b::d) g) (OY C o)):PE X (.BoolOp .Or (a::b::d) g) (OY C (l >>= orK o)):=by
 show PE.weak (Ll j m) ?_;rintro σ H Q ⟨q,rfl,rfl,p,h⟩;show aW p h λx c v t w=>?_;let(k,u):=x;let(i,f,n,r):=t;unfold orK at w;split at w
 .rename_i e
  dsimp only at e r
  subst e;rw[ao]at w;show#[4,r.bl f,by rw[if_pos rfl];show w c (.bl 4) i 9 f n 9]
 .rename_i e
  dsimp only at e r
  subst e;show#[df,r.bl f,by rw[if_neg tv];show B0 i f n w]
 show(bp.mp w).elim
def Fz(d:PE X a (OY C f)):PE X (.UnaryOp .Not a g) (OY C (f >>= Mb)):=by
 show PE.weak (Ii d) ?_;rintro σ H Q ⟨l,rfl,rfl,i,h⟩;show aW i h λx c v t w=>?_;let(k,u):=x;let(j,b,n,r):=t;unfold Mb at w;split at w
 .rename_i e;subst e;rw[ao]at w;show#[_,r.bl b,w c _ j 9 b n 9]
 show(bp.mp w).elim
def FA(d:PT X a (Qu C e)):PT X (.UnaryOp .Not a f) (Qu C (e >>= λb=>pure !b)):=by show PT.weak (Ig d) ?_;rintro σ H Q ⟨k,rfl,rfl,g,h⟩;show iz g h λp c i j n w=>?_;rw[ao]at w;show w c i 9 j n
def FC(j:PT X a (Qu C k))(l:PW X (.BoolOp .And (b::d) f) (Qu C tb)):PW X (.BoolOp .And (a::b::d) f) (Qu C (k >>= λp=>if p=4 then tb else pure df)):=by let m:=Ie j l;rintro o e s σ H Q I ⟨q,rfl,rfl,r,h⟩;show m o e s _ q.H Q I (iz r h λp c g i n w=>?_);cases p with|true=>show B1 g i n w|false=>rw[if_neg tv]at w ⊢;rw[ao]at w;show w c g 9 i n
def Jw(j:PT X a (Qu C k))(l:PW X (.BoolOp .Or (b::d) f) (Qu C tb)):PW X (.BoolOp .Or (a::b::d) f) (Qu C (k >>= λp=>if p=4 then pure 4 else tb)):=by let m:=Li j l;rintro o e s σ H Q I ⟨q,rfl,rfl,r,h⟩;show m o e s _ q.H Q I (iz r h λp c g i n w=>?_);cases p with|true=>rw[if_pos rfl]at w ⊢;rw[ao]at w;show w c g 9 i n|false=>show B1 g i n w
def ym{a:↑α}{b:↑β}(h:-a=-b):(!a.isEmpty)=!b.isEmpty:=by grind
def kF(l:PE X a (OY C m))(j:C.K=X.K)(o:∀b,isTrue a X.env b=(do let v <-b;ĕ a.pos;VE [v] (truthy v))):PT X a (Qu C (m >>= λx=>M.Pd (wm x.2))):=by
 show PT.weak (A3 l o) ?_;rintro σ H Q ⟨z,rfl,rfl,s,h⟩;show aW s h λx c v t w=>?_;let(k,u):=x;let(y,d,n,r):=t;let(p,e,q):=cK.mp w
 dsimp only at e r
 show#[p,?_,q c y 9 d n];unfold wm at e;split at e
 .cases e;rw[r.bl d];rfl
 .cases e;let(a,g,rfl,f,i):=r.list d;show .inl #[g,j▸f,ym i.len]
 .cases e;let(a,g,rfl,f,i):=r.tuple d;rw[j]at f;show .inr (.inl #[g,f,ym i.len])
 .split at e
  .cases e;rw[r.str d];show#[7,9]
  ext e
 ext e
def fh.from(n:Nx d f):fh C f c a b->fh C d c a b:=by intro h;induction a generalizing b with|nil=>show h|cons r a g=>let(v,t,e,i,j,k):=h;show#[v,t,e,i.from n,g j,k]
def fh.get{i:8}(h:fh C d c a b)(e:a[i]?\r)(j:b[i]?\v):ir C d c r.1 r.2 v:=by
 induction a generalizing b i with
 |nil=>simp at e|cons k a f =>
  let(l,t,rfl,m,g,n):=h;cases i with
  |zero=>left
  |succ i=>show f g (by exists e) (by assumption)
def FD:PA X [] (Qp C (pure [])):=by rintro b a s σ H Q I ⟨c,rfl,rfl,d,h⟩;rw[ao]at h;show dw b a s _ c.H Q I (h c [] 9 9 d (Nx.refl c) 9)
def B3(l:PE X e (OY C m))(n:PA X b (Qp C ms))(hs:j0 (e::b) X.env=(df,uv e X.env)::j0 b X.env):PA X (e::b) (Qp C (m >>= λr=>ms >>= λd=>pure (r::d))):=by rintro c a s σ H Q I ⟨o,rfl,rfl,p,h⟩;show bY l n hs c a s _ o.H Q I (aW p h λr q v t w=>?_);rw[ai]at w;show#[q,t.hσ,9,t.ok,w.mono λd u f x y g z A j k=>?_];rw[ao]at f;show f x _ g z A (t.nx.trans j) #[v,y,9,t.rx.w.on t.ok j (g.trans t.hσ.symm),k.from t.nx,λhk i J L B D G=>?_];show oB t.rx.w (k.get B D) hk G
structure Qb(C:Ct)(c0 c:Cf)(rs:↑(Kd×U))(vs:↑V):6 where
 hσ:c.σ=c0.σ
 ok:Ok C c
 nx:Nx c0 c
 rep:fh C c0 c rs vs
 Tv:aU rs c.st
def args{k:↑(Kd×U)->M β}{b}(o:PA X p (Qp C ms))(I:Inv X d e.σ e.H s)(q:Ok C e)(h:W (ms >>= λa=>az a >>= λ_=>k a) e.st b)(g:Pos):
  ‹X› (spliced (QX g (j0 p X.env))) (λl m=>∃a c f,Qb C e c a f/\Inv X d c.σ c.H m/\Vals f l/\W (k a) c.st b) X.xe s:=by
 rw[ai]at h;show OV (o g d s _ e.H (λf n=>∃a c,c.H=n/\Qb C e c a f/\W (k a) c.st b) I ⟨e,9,9,q,h.mono λa r i j f u v x y z=>?_⟩) ?_
 .rw[ai,bU]at i;subst v;show#[a,j,9,#[u,x,y,z,i.1],i.2]
 rintro l m ⟨f,n,B,D,a,j,rfl,t,w⟩;show#[a,j,f,t,by rw[t.hσ];show B,D,w]
def Qb.one(t:Qb C a c [r] b):∃v,b=[v]/\aP C a c r.1 r.2 v:=by let(v,f,rfl,d,e,_):=t.rep;ext e;show#[v,9,d.t t.Tv]
def Qb.two(t:Qb C b c [r,d] e):∃v a,e=[v,a]/\aP C b c r.1 r.2 v/\aP C b c d.1 d.2 a:=by let(v,j,rfl,f,(a,g,rfl,h,i,_),_):=t.rep;ext i;let hs:=fX.mp t.Tv;show#[v,a,9,f.t hs.1,h.t hs.2]
def Ok.share(b:Ok C c)(l:C.H₀ r=ef)(m:∃o,c.H r\o)(hl:-st'=-c.st) (d:∀i k u,st'[i]?\b6 (k,u)->Z3 C (λa=>c.S a\/a=r) c.H c.σ i k u/\(k.root=4->c.st[i]?\b6 (k,u))) (n:Sd C {c with S:=λa=>c.S a\/a=r,st:=st' }) :Ok C {c with S:=λa=>c.S a\/a=r,st:=st' }:=by
 show#[b.same,λa z=>?_,b.par,b.io,by rw[hl];show b.len,λi k u e=>(d i k u e).1,λi j k f u g p hk h q s t v=>?_,n]
 .rcases z with z|rfl
  .show b.QU a z
  show#[l,m]
 show b.inj i j k f u g p hk h ((d i k u q).2 hk) ((d j f g s).2 h) t v
def Ok.B4(t:Ok C d)(b:Ok C c)(n:Nx d c)(g:d.H r=ef)(h:¬c.R r)(w:fC C c.S c.H r u):Ok C {c with S:=λa=>c.S a\/a=r}/\Nx d {c with S:=λa=>c.S a\/a=r}:=by
 let(o,ho,_):=w.some;show#[b.share  (t.kB g).1 #[o,ho] 9 (λi k u e=>#[?_,λ_=>e]) (b.dd.hs (.up λa=>.inl) λj a z=>#[λq=>q.elim (b.root (.inr #[j,z])).1 λe=>h (.inr #[j,e▸z]),λo q=>q]),#[#[n.keep,n.there,n.roots,λa z=>.inl (n.sub a z),λa z=>?_]]]
 .let(v,l,m):=b.sl i k u e;let f:Mv c.S c.H (λa=>c.S a\/a=r) c.H:=.up λa=>.inl;show#[v,l,m.mv f (.up λa z=>z.imp id .inl) λhk y p=>#[?_,λo q=>q]];let(A,s,x,_):=m.rt hk;rw[p]at s;ext s;rintro(z|rfl)
  .show x z
  show h (.inl #[i,k,u,hk,e,by rw[l,p]])
 obtain z|rfl:=z
 .show n.new a z
 show .inr (.inr g)
def Ok.B5(f:Ok C c)(n:Nx I c)(h:c.st[j]?\b6 (.own,u))(l:c.σ[j]?\b6 (.ref r)):Ok C {c with S:=λa=>c.S a\/a=r,st:=c.st.set j (b6 (.loc,u))}/\Nx I {c with S:=λa=>c.S a\/a=r,st:=c.st.set j (b6 (.loc,u))}/\Rep C (λa=>c.S a\/a=r) c.H u (.ref r):=by
 let(v',g,m,p,q1,q2,J,y):=f.sl j _ _ h;rw[l]at g;ext g p;let A:Rep C (λa=>c.S a\/a=r) c.H u (.ref r):=y.rep (λa=>.inl) (.inr 9);let(o,ho,_):=y.some;let t:j< -c.st:=(gr.mp h).1;let w:∀(i:8) k b,(c.st.set j (b6 (.loc,u)))[i]?\b6 (k,b)->i≠j->c.st[i]?\b6 (k,b):=λi k b e L=>by rw[ko (sg L)]at e;show e
 let N:c.R1 r:=#[j,.own,u,9,h,l]
 let B:∀(i:8) (b:U),(c.st.set j (b6 (.loc,u)))[i]?\b6 (.A',b)->c.st[i]?\b6 (.A',b):=λi b e=>by
  by_cases d:i=j
  .subst d;rw[i4 t]at e;ext e
  show w i .A' b e d
 let D:∀a,({c with S:=λa=>c.S a\/a=r,st:=c.st.set j (b6 (.loc,u))}:Cf).R1 a->c.R1 a:=λa O=>by
  let(i,k,b,hk,e,Q):=O;by_cases d:i=j
  .subst d;rw[i4 t]at e;ext e hk
  show#[i,k,b,hk,w i k b e d,Q]
 let T:Sd C {c with S:=λa=>c.S a\/a=r,st:=c.st.set j (b6 (.loc,u))}:=f.dd.of 9 (λi b e=>#[B i b e,9]) (λa z=>.inl (D a z)) (.up λa=>.inl) λi a z=>#[λq=>q.elim (f.root (.inr #[i,z])).1 λe=>f.dd.d1 i a z (e▸N),λo q=>q]
 show#[f.share (st':=c.st.set j (b6 (.loc,u))) J #[o,ho] 7 (λi k b e=>?_) T,#[#[n.keep,n.there,λa z=>?_,λa z=>.inl (n.sub a z),λa z=>?_]],A]
 .by_cases d:i=j
  .subst d;rw[i4 t]at e;ext e;show#[#[.ref r,l,A],λz=>nomatch z]
  let x:=w i k b e d;let(v,g,s):=f.sl i k b x;show#[#[v,g,s.mv (.up λa=>.inl) (.up λa z=>z.imp id .inl) λhk m p=>#[?_,λo q=>q]],λ_=>x];let(XZ,G,Y,_):=s.rt hk;rw[p]at G;ext G;rintro(z|rfl)
  .show Y z
  show d (f.inj i j k .own b u m hk 9 x h (by rw[g,p]) l)
 .rcases z with z|⟨i,b,m,g,s,e3⟩
  .show n.roots a (.inl (D a z))
  show n.roots a (.inr #[i,b,m,B i b g,s,e3])
 obtain z|rfl:=z
 .show n.new a z
 obtain z|z:=n.roots a (.inl #[j,.own,u,9,h,l])
 .show .inr (.inl z)
 show .inr (.inr z)
inductive LfO(C:Ct)(c0 c:Cf)(r:Kd×U)(v:V)(Post:U->aq->6):6|mk:∀(S':ke->Prop) (st':aq) (u:U),(∀a,c.S a->S' a)->Ok C {c with S:=S',st:=st' }->Nx c0 {c with S:=S',st:=st' }->Rep C S' c.H u v->Post u st'->(∀a,S' a->c.S a\/v=.ref a/\(r.1=.own\/c.R a))->(∀a,({c with S:=S',st:=st' }:Cf).R a->c.R a)->LfO C c0 c r v Post
def iX(H:Ok C m)(b:Ok C c)(n:Nx m c)(d:ir C m c r.1 r.2 v)(h:W (lift r) c.st f):LfO C m c r v f:=by
 let(k,u):=r;cases k with
 |own =>
  rw[show lift (.own,u)=pure u from rfl,ao]at h;let(r,e,I,T,J,B):=d;let(o,p):=Ok.B4 H b n I J B;show#[_,c.st,u,λa=>.inl,o,p,by rw[e];show B.rep (λa=>.inl) (.inr 9),h,λa z=>?_,λa z=>z];obtain z|rfl:=z
  .show .inl z
  show .inr #[e,.inl 9]
 |loc=>rw[show lift (.loc,u)=pure u from rfl,ao]at h;show#[c.S,c.st,u,λa=>id,b,n,d,h,λa z=>.inl z,λa z=>z]|any =>
  rw[show lift (.any,u)=if O6 u=c4 then pure u else M.fail from rfl]at h;split at h
  .rw[ao]at h;show#[c.S,c.st,u,λa=>id,b,n,Rep.O6 7 d,h,λa z=>.inl z,λa z=>z]
  show(bp.mp h).elim
 |bor j =>
  let(x,L,e,N):=h;rw[show lift (.bor j,u) c.st=match c.st[j]? with|some (b6 (.own,u))=>b6 _|_=>ef from rfl]at e;split at e
  .rename_i w g;ext e;let(Y,D,r,O,_):=b.sl j _ _ g;let q:=d;rw[q]at D;ext D;subst O;let(o,p,s):=b.B5 n g q;show#[_,_,_,λa=>.inl,o,p,s,N,λa z=>?_,λa z=>?_]
   .rcases z with z|rfl
    .show .inl z
    show .inr #[9,.inr (.inl #[j,.own,_,9,g,q])]
   obtain⟨i,k,t,hk,e,y⟩|⟨i,t,Q,e,y,A⟩:=z
   rotate_left 1
   .by_cases l:i=j
    .subst l;let G:i< -c.st:=(gr.mp g).1;left
    rw[ko (sg l)]at e;show .inr #[i,t,Q,e,y,A]
   by_cases l:i=j
   .subst l;let G:i< -c.st:=(gr.mp g).1;rw[i4 G]at e;ext e hk
   rw[ko (sg l)]at e;show .inl #[i,k,t,hk,e,y]
  ext e
 |_=>show d.elim
inductive LfS(C:Ct)(c0 c:Cf)(vs:↑V)(Post:↑U->aq->6):6|mk:∀(S':ke->Prop) (st':aq) (us:↑U),(∀a,c.S a->S' a)->Ok C {c with S:=S',st:=st' }->Nx c0 {c with S:=S',st:=st' }->au C S' c.H us vs->Post us st'->LfS C c0 c vs Post
theorem iA:∀{d}{k}{c}{b},Ok C f->Ok C c->Nx f c->fh C f c d k->W (c8 d) c.st b->LfS C f c k b
 |[],k,c,b,y,A,n,B,h=>by rw[show c8 []=pure [] from rfl,ao]at h;show#[c.S,c.st,[],λa=>id,A,n,B,h]|r::d,k,c,b,y,A,n,B,h=>by
  let(v,t,rfl,h1,h2,h3):=B;rw[show c8 (r::d)=lift r >>= λu=>c8 d >>= λD=>pure (u::D) from rfl,ai]at h;let(S1,G,u,m,OU,n1,g,J,To,RU):=iX y A n h1 h;rw[ai]at J;let W3:=by
   let H:∀(l:↑(Kd×U)) (w:↑V),fh C f c l w->(r.1=.own->∀(i:8) p s,l[i]?\p->w[i]?\s->p.1=.own->s≠v)->fh C f {c with S:=S1,st:=G} l w:=by
    intro l;induction l with
    |nil=>intro w q _;show q
    |cons r2 l ih =>
     intro w q L;let(N,O,rfl,x,q2,q3):=q;show#[N,O,9,?_,ih O q2 (λhk i p s e1 e2 Qf=>L hk (i+1) p s (by assumption) (by assumption) Qf),q3];let(k2,u2):=r2;cases k2 with
     |own =>
      let(a,e,p1,p2,Q,p4):=x;show#[a,e,p1,λz=>?_,λz=>Q (RU a z),p4.mv (.up m) λo q=>q];obtain z|⟨z,z'|z'⟩:=To a z
      .show p2 z
      .show L z' 0 _ N 9 9 9 (e.trans z.symm)
      show Q z'
     |loc=>show Rep.mv (.up m) x
     |any=>show Rep.mv (.up λa z=>z.imp id (m a)) x
     |_=>show x
   show H d t h2 h3
  let(S2,I,D,T,Pk,n2,j,Y):=iA  y OU n1 W3 J;rw[ao]at Y;show#[S2,I,u::D,λa z=>T a (m a z),Pk,n2,#[v,t,9,g.mv (.up T),j],Y]
def FE(p:PA X q (Qp C ms)):PE X (.Tuple q J i) (OY C (ms >>= λj=>az j >>= λ_=>c8 j >>= λg=>if -g<=ei then pure (.loc,.tup g) else M.fail)):=by
 rintro a s σ H Q I ⟨r,rfl,rfl,l,h⟩;show ě (OV (args p I l h i) λg v d=>?_);let(j,c,m,t,n,o,w):=d;rw[ai]at w;let(x,k,L,y,z,A,f,w1):=iA l t.ok t.nx t.rep w;split at w1
 .rename_i B;rw[ao]at w1;let hl:-m<=ei:=by rw[<-f.len];show B
  show#[by rw[<-⇑o];show hl,?_];let D:=n.ON.fresh (gs _);let G:Inv X a r.σ c.H v:=by rw[<-t.hσ];show n
  show#[.ref _,upd c.H _ (.tup m),G.laid  (λb u e=>et _ e) (gs _) ⟨hl,g,o,ğ _ _⟩,9,?_];show c9.tup (c:={c with S:=x,st:=k }) w1 t.hσ z A f _ D
 show(bp.mp w1).elim
def FF(p:PA X q (Qp C ms)):PE X (.List q i) (OY C (ms >>= λj=>az j >>= λ_=>c8 j >>= λg=>if -g<=ei then pure (.own,.lst g) else M.fail)):=by
 rintro a s σ H Q I ⟨r,rfl,rfl,l,h⟩;show Ϸ (OV (args p I l h i) λg v d=>?_);let(j,c,m,t,n,o,w):=d;rw[ai]at w;let(x,k,J,y,z,A,f,w1):=iA l t.ok t.nx t.rep w;split at w1
 .rename_i B;rw[ao]at w1;let hl:-m<=ei:=by rw[<-f.len];show B
  show#[by rw[<-⇑o];show hl,?_];let D:=n.ON.fresh (gs _);let G:Inv X a r.σ c.H v:=by rw[<-t.hσ];show n
  show#[.ref _,upd c.H _ (.lst m),G.laid  (λb u e=>et _ e) (gs _) ⟨hl,g,0,o,gj _ 9⟩,9,?_];show c9.list (c:={c with S:=x,st:=k }) w1 t.hσ z A f _ D
 show(bp.mp w1).elim
def ng(f:X.N[i]?\x)(g:PV X.env.scope x)(l:(x==("__debug__":5))=df)(m:(x==("__classdict__":5))=df):PE X (.Name x pos) (OY C (dM i)):=by
 show PE.weak (br f g l m) ?_;rintro σ H Q ⟨b,rfl,rfl,c,r,n,e,h⟩;unfold dM at e;split at e
 .cases e
 .rename_i k u o hs;ext e;let(v,d,a):=c.sl i k u hs;show#[v,d,h b v 9 9 c (Nx.refl b) ?_];by_cases hk:k.root=4
  .rw[if_pos hk];show#[#[k,hk,hs],d]
  cases k with|loc=>show a|any=>show a|bor j=>show a.elim|A'=>show(o 9).elim|_=>show absurd 9 hk
 ext e
def kG(h:PE X e (tC v))(r:∀S H,Rep C S H u v):PE X e (OY C (pure (.loc,u))):=by show PE.weak h ?_;rintro σ H Q ⟨a,rfl,rfl,b,h⟩;rw[ao]at h;show h a v 9 9 b (Nx.refl a) (r _ _)
def c9.root(h:c9 C b Q (.own,u) c.st)(e:c.σ=b.σ)(d:Ok C c)(n:Nx b c)(p)(a:c.H p=ef)(r:fC C c.S (upd c.H p o) p u):Q (.ref p) (upd c.H p o):=by let(f,g):=d.lay  a;let(k,i,l,m,j):=d.kB a;show h {c with H:=upd c.H p o} _ e 9 f (n.trans g) ⟨p,9,n.none a,i,j,r⟩
def B6(e:C.P=X.prog)(f:C.w=X.w)(r:Bool):PE X (.Dict [] [] a) (OY C (pure (.own,.OT [] []))):=by show PE.weak tX ?_;rintro σ H Q ⟨b,rfl,rfl,c,h⟩ p d;rw[ao]at h;show c9.root h 9 c (Nx.refl b) p d #[[],ak,9,9]
def au.Px{S:ke->6}(h:au C S H a b)(e:Px a i\u):∃v,L2.Px b i\v/\Rep C S H u v:=by unfold L2.Px at e ⊢;rw[h.len]at e;cases q:SH _ i with|none=>left|some j=>rw[q]at e;show h.get e
def Jx(T:C.K=X.K)(hu:X.A.units+60<VC)(hs:mZ b)(t:W2 C Y c x y g j)(I:Inv X d c.σ c.H s)(o:RelV g v)(p:RelV j u)(h:mU x y.2\r)(q:c9 C Y Q r c.st):
  ‹X› (subscriptTail a b v u) (EP X d c.σ Q) X.xe s:=by
 obtain⟨z,f,n,B,l,-⟩:=t;let(ky,uy):=y
 dsimp only at h l
 unfold mU at h;split at h
 .rename_i k xs i;rw[i0]at h;let(w,e,rfl):=h;let(D,G,J,m,L):=B.list f;let(vw,N,O):=L.Px e;show EX a b d s c.σ c.H g j v u Q I o p #[D,G,i,vw,J,l.int f,T▸m,N,q c vw z 9 f n (aP.item O)] (hs _ _)
 .rename_i k xs i;rw[i0]at h;let(w,e,rfl):=h;let(D,G,J,m,L):=B.tuple f;let(vw,N,O):=L.Px e;rw[T]at m;show k_ a b d s c.σ c.H g j v u Q I o p #[D,G,i,vw,J,l.int f,m,N,q c vw z 9 f n (aP.item O)] (hs _ _)
 .split at h
  .rw[i0]at h;let(w,e,rfl):=h;show jF a b d s c.σ c.H g j v u Q I o p #[_,_,w,B.str f,l.int f,by assumption,e,q c _ z 9 f n 9] (hs _ _)
  ext h
 ext h
def FG(f:C.K=X.K)(g:X.A.units+60<VC)(hs:mZ b)(i:PE X a (OY C j))(k:PE X b (OY C l)):PE X (.Subscript a b m) (OY C (j >>= λx=>l >>= λy=>az [x,y] >>= λ_=>M.Pd (mU x y.2))):=by rintro d s σ H Q I ⟨D,rfl,rfl,n,h⟩;show Ŷ (two i k I n h λx y c G J v u L t o p B w=>?_);let(r,e,q):=cK.mp w;show OV (Jx f g hs t o p B e q) λ_ _ z=>by rw[t.hσ]at z;show z
def au.cut{S}(h:au C S H b c)(lo a):au C S H (TM.cut b lo a) (vT c lo a):=by unfold TM.cut vT;rw[h.len];show(h.drop _).take _
def zU{lo b}(h:HT.O3 ⇑a 0 lo=0/\HT.O3 ⇑a ⇑a b=-a):cut a lo b=a:=by unfold cut;rw[h.1,h.2];simp
section
variable{prog:DD}{w:Q1}{A:Y3}{E:i7->kj->6}{s:kj}
def jo{lo d}(b:Ĩ s.heap t a)(hs:s.heap.IsSliceOf e g i .none)(j:Ē g lo)(k:Ē i d) (f:HT.O3 a.size 0 lo=0/\HT.O3 a.size a.size d=a.size) (h:Q (.ref t) s):gi (i5 prog w) A (Ê (.ref t) (.ref e)) Q E s:=by
 let(os,l,m,o):=id hs;let n:s.TypeIs (.ref e) "slice":=#[os,l,m]
 unfold Ê
 try with_reducible show K' ?_
 first|show cb (eT ?_)|skip
 show cb (aak b.typeIs 7 ?_);show cb (Pr (name:=Ĝ "__getitem__") b.typeIs Od
  (wh Od b.typeIs entry_tuple_getitem ?_ (aac _ _)))
 change gi _ _ (Ă (.ref t) >>= _) _ _ s;show cb (tupleItemsOf_ b ?_);show cb (Zx n ?_);rw[if_pos ⋯];show cb (HT.fQ hs j k ?_);let c:(((HT.O3 a.size 0 lo:8):Int)==0&&(1:Int)==1&&(HT.O3 a.size a.size d - HT.O3 a.size 0 lo)==a.size)=4:=by rw[f.1,f.2];simp
 change gi _ _ (if (((HT.O3 a.size 0 lo:8):Int)==0&&(1:Int)==1&&(HT.O3 a.size a.size d - HT.O3 a.size 0 lo)==a.size)=4 then _ else _) _ _ s;rw[if_pos c];change gi (i5 prog w) A.in1 ((μ (rr t) >>= λx=>pure (x==.type "tuple")) >>= _) _ _ s;show cb (cb (Zx b.typeIs (eT ?_)));rw[if_pos ⋯];show cb (Xq (eT #[_,9,eT h]))
end
section
variable{X:Cx}{C:Ct}{pins:List (ke×Obj)}{s:kj}{c0 c c1:Cf}
variable{a b d e:nS}{es:List nS}{m ma mb md:M (Kd×U)}{ms:M (List (Kd×U))}{ta tb:M Bool}{pos p p2:Pos}
def FH:Tg X (λx lo i H Q=>∃a f,x=.ref a/\Pu X.K H a f/\(HT.O3 ⇑f 0 lo=0/\HT.O3 ⇑f ⇑f i=-f)/\Q (.ref a) H):=by
 intro pins s σ H x v w y lo i z Q I k hs l n h;let(a,f,rfl,o,t,q):=h;ext k;let(u,r,j,A):=I.tuple o;let g:u.toArray.size=-f:=by rw[rS];show r.length.symm
 show#["tuple",_,Od.lookup,j.typeIs,jo j hs l n (by rw[g];show t) #[.ref a,H,I,9,q]]
def tO(C:Ct)(m:M (Option Int)):TO:=λσ H Q=>∃c0:Cf,c0.σ=σ/\c0.H=H/\Ok C c0/\W m c0.st λi f=>∀c,c.σ=σ->c.st=f->Ok C c->Nx c0 c->Q i c.H
def iV:PO X ef (tO C (pure ef)):=by rintro pins s σ H Q I ⟨c0,rfl,rfl,f,h⟩;rw[ao]at h;show EU pins s _ c0.H Q I (h c0 9 9 f (Nx.refl c0))
def zV(f:PE X a (OY C ma)):PO X (b6 a) (tO C (ma >>= Jp)):=by
 rintro pins s σ H Q I ⟨c0,rfl,rfl,g,h⟩;show EV f pins s _ c0.H Q I (aW g h λx c v t w=>?_);let(k,u):=x;unfold Jp at w;split at w
 .rename_i i e;subst e;rw[ao]at w;show#[i,t.rx.int t.ok,w c t.hσ 9 t.ok t.nx]
 show(bp.mp w).elim
def Jy{lo g}(B:C.K=X.K)(o:c.σ=c0.σ)(i:Ok C c)(n:Nx c0 c)(w:aP C c0 c x.1 x.2 t)(h:jP x lo g\r)(q:c9 C c0 Q r c.st):((LN X.K t lo g c.H Q\/LH X.K t lo g c.H Q)\/(∃a k,t=.ref a/\Pu X.K c.H a k/\(HT.O3 ⇑k 0 lo=0/\HT.O3 ⇑k ⇑k g=-k)/\Q (.ref a) c.H))\/LV t lo g c.H Q:=by
 unfold jP at h;split at h
 .split at h
  .rename_i D;ext h;let(j,f,u,v,l):=w.list i;show .inl (.inl (.inl #[j,f,u,B▸v,λp y=>q.list o i n ((d9 D l).cut lo g) p y]))
  ext h
 .cases h;let(j,f,u,v,l):=w.tuple i;let z:=v;rw[B]at z;by_cases A:HT.O3 ⇑f 0 lo=0/\HT.O3 ⇑f ⇑f g=-f
  .show .inl (.inr #[j,f,u,z,A,?_]);show q c (.ref j) o 9 i n (aP.item #[j,f,9,v,?_]);rw[zU (by rw[l.len];show A)];show l
  show .inl (.inl (.inr #[j,f,u,z,A,λp y=>q.tupK o i n (l.cut lo g) p y]))
 .split at h
  .cases h;show .inr #[_,w.str i,by assumption,q.flat o i n 9]
  ext h
 ext h
def FI{lo i}(n:C.K=X.K)(o:PE X a (OY C ma))(hl:PO X lo (tO C ml))(u:PO X i (tO C y)):PE X (.Subscript a (.Slice lo i ef p2) pos) (OY C (ma >>= λx=>ml >>= λl=>y >>= λh=>az [x] >>= λ_=>M.Pd (jP x l h))):=by show PE.weak (Ba (((Tg.or EY IF).or FH).or IW) o hl u) ?_;rintro σ H Q ⟨c0,rfl,rfl,z,h⟩;show aW z h λx c v t w=>?_;rw[ai]at w;show#[c,t.hσ,9,t.ok,w.mono λl A j B D G I J=>?_];subst G;rw[ai]at j;show#[B,D,9,I,j.mono λY Pw g L k N O T=>?_];subst N;rw[ai,bU]at g;let(r,e,q):=cK.mp g.2;let f:Nx c L:=J.trans T;show Jy n k O (t.nx.trans f) ((t.rx.w.on t.ok f (k.trans t.hσ.symm)).t g.1) e q
end
section
variable{X:Cx}{C:Ct}{pins:List (ke×Obj)}{s:kj}{c0 c c1:Cf}
variable{a b d e:nS}{es:List nS}{m ma mb md:M (Kd×U)}{ms:M (List (Kd×U))}{ta tb:M Bool}{pos p p2:Pos}
def Bf.val:Bf->i7
 |.len=>.builtin "len"|.sorted=>.builtin "sorted"|.repr=>.builtin "repr"|.max=>.builtin "max"|.min=>.builtin "min"|.all=>.builtin "all"|.any=>.builtin "any"
 |.list=>.type "list"|.tuple=>.type "tuple"|.str=>.type "str"|.int=>.type "int"
def Bf.name:Bf->5
 |.len=>"len"|.sorted=>"sorted"|.repr=>"repr"|.max=>"max"|.min=>"min"|.all=>"all"|.any=>"any"
 |.list=>"list"|.tuple=>"tuple"|.str=>"str"|.int=>"int"
def call_of(j:ie X f r)(I:Inv X pins c.σ c.H s)(k:Vals g i)(h:r g c.H Q):‹X› (WH f i) (EP X pins c.σ Q) X.xe s:=j pins s c.σ c.H g i Q I k h
def bK(h:hZ f g\r):∃x,g=[x]/\f x\r:=by
 unfold hZ at h;split at h
 .show#[_,9,h]
 ext h
def Hn(T:X.calm=4)(J:C.K=X.K)(X0:X.A.guards\[])(V3:X.A.units+60<VC)(t:Qb C c0 c Y vs)(I:Inv X pins c.σ c.H s)(B:Vals vs us)(h:QO f Y\r)(q:c9 C c0 Q r c.st):
  ‹X› (WH f.val us) (EP X pins c.σ Q) X.xe s:=by
 let D:=t.hσ;let g:=t.ok;let n:=t.nx;cases f with
 |len =>
  let(x,rfl,i):=bK (f:=λx=>(Jh x.2).map λ(n:Nat)=>(Kd.loc,U.int (n:Int))) h;clear h;let h:=i;clear i;rw[i0]at h;let(k,e,rfl):=h;let(v,rfl,j):=t.one;let(kx,ux):=x;unfold Jh at e;split at e
  .rename_i N G;let G:ux=.lst N:=G;subst G;ext e;let(o,z,y,l,u):=j.list g;rw[u.len]at q;show call_of j9 I B #[o,z,by rw[y],.inl (J▸l),q.flat D g n 9]
  .rename_i N G;let G:ux=.tup N:=G;subst G;ext e;let(o,z,y,l,u):=j.tuple g;rw[J]at l;rw[u.len]at q;show call_of j9 I B #[o,z,by rw[y],.inr l,q.flat D g n 9]
  .rename_i N G;let G:ux=.str N:=G;subst G;split at e
   .cases e;show call_of rC I B #[_,by rw[j.str g],by assumption,q.flat D g n 9]
   ext e
  ext e
 |sorted =>
  let(x,rfl,i):=bK (f:=Ji) h;clear h;let h:=i;clear i;let(v,rfl,j):=t.one;unfold Ji at h;split at h
  .rw[mx]at h;let(ss,e,h):=h;let O:=bI e;subst O;let(o,z,y,l,u):=j.list g;rw[au.strs]at u;subst u;split at h
   .cases h;show call_of l_ I B #[o,ss,by rw[y],.inl (J▸l),by assumption,λp L=>q.list D g n (au.strs.mpr 9) p L]
   ext h
  .rw[mx]at h;let(ss,e,h):=h;let O:=bI e;subst O;let(o,z,y,l,u):=j.tuple g;rw[J]at l;rw[au.strs]at u;subst u;split at h
   .cases h;show call_of l_ I B #[o,ss,by rw[y],.inr l,by assumption,λp L=>q.list D g n (au.strs.mpr 9) p L]
   ext h
  ext h
 |list =>
  let(x,rfl,i):=bK (f:=Jj) h;clear h;let h:=i;clear i;let(v,rfl,j):=t.one;unfold Jj at h;split at h
  .let(o,z,y,l,u):=j.list g;split at h
   .cases h;show call_of j_ I B #[o,z,by rw[y],.inl (J▸l),λp L=>q.list D g n (d9 (by assumption) u) p L]
   ext h
  .let(o,z,y,l,u):=j.tuple g;rw[J]at l;split at h
   .cases h;show call_of j_ I B #[o,z,by rw[y],.inr l,λp L=>q.list D g n (d9 (by assumption) u) p L]
   ext h
  ext h
 |tuple =>
  let(x,rfl,i):=bK (f:=Jk) h;clear h;let h:=i;clear i;let(v,rfl,j):=t.one;unfold Jk at h;split at h
  .let(o,z,y,l,u):=j.list g;ext h;show call_of jt I B #[o,z,by rw[y],.inl #[J▸l,λp L=>q.tupK D g n u p L]]
  .let(o,z,y,l,u):=j.tuple g;let Rh:=l;rw[J]at Rh;ext h;show call_of jt I B #[o,z,by rw[y],.inr #[Rh,q c (.ref o) D 9 g n (aP.item #[o,z,9,l,u])]]
  ext h
 |str =>
  let(x,rfl,i):=bK (f:=BK) h;clear h;let h:=i;clear i;let(v,rfl,j):=t.one;unfold BK at h;split at h
  .split at h
   .cases h;show call_of rf I B #[_,by rw[j.int g],by assumption,q.flat D g n 9]
   ext h
  ext h
 |int =>
  let(x,rfl,i):=bK (f:=Jm) h;clear h;let(v,rfl,j):=t.one;unfold Jm at i;split at i
  .cases i;show call_of zu I B (.inr #[_,by rw[j.bl g],q.flat D g n 9])
  ext i
 |max =>
  let h:zO df Y\r:=h;unfold zO at h;split at h
  .let(v,v',rfl,j,ty):=t.two;ext h;show call_of (zr T) I B #[_,_,by rw[j.int g,ty.int g],q.flat D g n 9]
  ext h
 |min =>
  let h:zO 4 Y\r:=h;unfold zO at h;split at h
  .let(v,v',rfl,j,ty):=t.two;ext h;show call_of (zt T) I B #[_,_,by rw[j.int g,ty.int g],q.flat D g n 9]
  ext h
 |all =>
  let(x,rfl,i):=bK (f:=Jl) h;clear h;let h:=i;clear i;let(v,rfl,j):=t.one;unfold Jl at h;split at h
  .rw[i0]at h;let(bs,e,rfl):=h;let O:=oC e;subst O;let(o,z,y,l,u):=j.list g;let:=u.bls;subst this;show call_of (Bo T) I B #[o,bs,by rw[y],J▸l,q.flat D g n 9]
  ext h
 |_=>ext h
def FJ{id}(i:X.calm=4)(j:C.K=X.K)(k:X.A.guards\[])(l:X.A.units+60<VC)(n:f.val=.builtin id)(o:Gl X x)(u:X.mg x=ef)(v:H8 x\.builtin id)(y:x≠"__name__")(B:(x==("__debug__":5))=df) (D:PA X (e::es) (Qp C ms)) (G:j0 (e::es) X.env=(df,uv e X.env)::j0 es X.env) (J:(QX pos (j0 es X.env)).any (·.1)=df) :PE X (.Call (.Name x p) (e::es) [] pos) (OY C (ms >>= λg=>az g >>= λ_=>M.Pd (QO f g))):=by rintro pins s σ H Q I ⟨c0,rfl,rfl,L,h⟩;show tj (dr I o u v ?_ y B);show VA (OV (args D I L h pos) λT Y ⟨g,c,vs,t,N,O,w⟩=>?_) G J;let(r,e,q):=cK.mp w;let z:=Hn i j k l t N O e q;rw[n,t.hσ]at z;show z
def FK(i:X.calm=4)(j:C.K=X.K)(k:X.A.guards\[])(l:X.A.units+60<VC)(n:f.val=.type T)(o:Gl X x)(u:X.mg x=ef)(v:H8 x\.type T)(y:x≠"__name__")(B:(x==("__debug__":5))=df) (D:PA X (e::es) (Qp C ms)) (G:j0 (e::es) X.env=(df,uv e X.env)::j0 es X.env) (J:(QX pos (j0 es X.env)).any (·.1)=df) :PE X (.Call (.Name x p) (e::es) [] pos) (OY C (ms >>= λg=>az g >>= λ_=>M.Pd (QO f g))):=by rintro pins s σ H Q I ⟨c0,rfl,rfl,L,h⟩;show tj (dr I o u v ?_ y B);show Sy (OV (args D I L h pos) λY s1 ⟨g,c,vs,t,N,O,w⟩=>?_) G J;let(r,e,q):=cK.mp w;let z:=Hn i j k l t N O e q;rw[n,t.hσ]at z;show z
def T5.name(_:T5):5:="str"
def T5.nm(_:T5):String:="str"
def FL(T:T5):H8 T.name\.type T.nm/\T.name≠"__name__"/\(T.name==("__debug__":5))=df:=by cases T<;>show#[by decide +kernel,by decide +kernel,by rfl]
def iY(T:T5):μ (.type T.nm)=pure (.type "type"):=by cases T<;>kernel_rfl
def Jz{b}(B:C.K=X.K)(t:Rg C c0 c x v)(I:Inv X pins c.σ c.H s)(g:RelV v f)(h:qa x.2 T\b)(q:∀l,Q (.bool b) {s with toks:=l}):
  ‹X› (WH (.builtin "isinstance") [f,.type T.nm]) Q X.xe s:=by
 let(k,u):=x;let(hσ,i,n,r):=t;let D:Q (.bool b) s:=q s.toks
 dsimp only at h r
 let y:∀{Tx:String},b=4->s.TypeIs f Tx->Ï (.type Tx) (.type T.nm)=pure 4->‹X› (WH (.builtin "isinstance") [f,.type T.nm]) Q X.xe s:=λe G hs=>by subst e;show aaI G (iY T) hs D
 unfold qa at h;split at h
 .cases h;let e:v=_:=r.str i;subst e;let(l,rfl):=g;show y 9 (YJ s _ l) (by rfl)
 .cases h;let e:v=_:=r.int i;subst e;let(l,rfl):=g;show Æ (isinstance_false_int (by rfl) (iY T) (by rfl)) (q _)
 .cases h;let e:v=_:=r.bl i;subst e;ext g;show Æ (isinstance_false_bool (by rfl) (iY T) (by rfl)) (q _)
 .cases h;let e:v=_:=r.OP i;subst e;ext g;show Æ (isinstance_false_none (by rfl) (iY T) (by rfl)) (q _)
 .cases h;let(J,L,rfl,j,N):=r.list i;ext g;rw[B]at j;let(O,_,Y,_):=I.list j;let(o,ho,z,_):=Y.isList;show Æ (isinstance_false_list (by ext T;decide +kernel) (iY T) (by rfl)) ⟨⟨o,ho,z⟩,q _⟩
 .cases h;let(J,L,rfl,j,N):=r.tuple i;ext g;rw[B]at j;let(O,_,(o,ho,z,_),_):=I.tuple j;show Æ (isinstance_false_tuple (by rfl) (iY T) (by rfl)) #[#[o,ho,z],q _]
 ext h
def yn(i:C.K=X.K)(j:Gl X "isinstance")(k:X.mg "isinstance"=ef)(l:Gl X T.name)(n:X.mg T.name=ef)(o:PE X a (OY C ma))(hs:j0 [a,.Name T.name p2] X.env=(df,uv a X.env)::j0 [.Name T.name p2] X.env):PE X (.Call (.Name "isinstance" p) [a,.Name T.name p2] [] pos) (OY C (ma >>= λx=>M.Pd (qa x.2 T) >>= λb=>pure (.loc,.bl b))):=by
 rintro pins s σ H Q I ⟨c0,rfl,rfl,q,h⟩;let(r,u,y):=FL T;show tj (dr I j k (show H8 _\_ by rfl) ?_ (by decide +kernel) (by decide +kernel));show VA (OV (bY o (bY (xQ (v:=.ty T.nm) l n r 9 u y) dw) hs pos pins s c0.σ c0.H (λf A=>∃x c v b,Rg C c0 c x v/\c.H=A/\f=[v,.ty T.nm]/\qa x.2 T\b/\c9 C c0 Q (.loc,.bl b) c.st) I ?_) λus B ⟨f,H1,g,D,x,c,v,b,t,e,G,J,w⟩=>?_) hs (by rfl)
 .show aW q h λx c v t w=>?_;rw[ai]at w;let(b,e,w):=cK.mp w;rw[ao]at w;show#[x,c,v,b,t,9,9,e,w]
 subst e G;let(u1,u2,rfl,L,N):=vals2 D;ext N;let O:Inv X pins c.σ c.H B:=by rw[t.hσ];show g
 let z:=Jz (Q:=EP X pins c0.σ Q) i t O L J λY=>#[.bl b,c.H,g.tok Y,9,w c (.bl b) t.hσ 9 t.ok t.nx 9]
 show z
abbrev UR(P:DD)(w:Q1)(K:W.Frag)(H:Hp)(f:ke->6):Ct:=#[P,w,K,H,f,λ_=>False,λ_ _=>False]
structure Back(C:Ct)(H H':Hp)(S':ke->6)(k:Kd)(u:U)(v:V):6 where
 same:hV H H'
 new:∀a,S' a->H a=ef/\∃o,H' a\o
 own:k=.own->∃r,v=.ref r/\H r=ef/\¬S' r/\fC C S' H' r u
 loc:k=.loc->Rep C S' H' u v
 any:k=.any->Rep C (PS C S') H' u v
def spT(P:DD)(w:Q1)(K:W.Frag)(F:↑U->Option (Ex (Kd×U)))(j:8):Sp:=λh H Q E=>-h=j/\∃i r g,F i\r/\(∀a,g a->QK H a)/\au (UR P w K H g) g H i h/\match r with|.ok (k,u)=>(k=.own\/k=.loc\/k=.any)/\∀v f l,Back (UR P w K H g) H f l k u v->Q v f|.exc c=>∀C f,W.nsIn K kr c\b6 (.ref C)->hV H f->E (.ref C) ef f
def Qb.read(t:Qb C c0 c g i):au C (QK c.H) c.H (g.map (·.2)) i:=by
 let f:∀(l:↑_) (w:↑V),fh C c0 c l w->aU l c.st->au C (QK c.H) c.H (l.map (·.2)) w:=by intro l;induction l with|nil=>intro w h _;show h|cons r l k=>intro w h hs;let(v,j,rfl,n,o,_):=h;rw[fX]at hs;show#[v,j,9,(n.t hs.1).read t.ok,k j o hs.2]
 show f g i t.rep t.Tv
def Back.here(hk:k=.own\/k=.loc)(l:c.σ=c0.σ)(f:Ok C c)(n:Nx c0 c)(q:t.Eqv C)(h:Back t c.H g i k u v)(w:c9 C c0 Q (k,u) c.st):Q v g:=by
 let(x,y):=f.grow (S':=λa=>c.S a\/i a) h.same (λa z=>z.imp id λz=>h.new a z) λa=>.inl;let A:=n.trans y;show w {c with H:=g,S:=λa=>c.S a\/i a} v l 9 x A ?_;obtain rfl|rfl:=hk
 .let(r,e,j,B,D):=h.own 9;let(I,z1,z2,J,G):=f.kB j;show#[r,e,n.none j,λz=>z.elim z1 B,G,(D.cg q).mv (.up λa=>.inr) λo q=>q]
 show((h.loc 9).cg q).mv (.up λa=>.inr)
def yo(y:C.P=X.prog)(B:C.w=X.w)(D:C.K=X.K)(Y:Γ f=F)(hk:∀h k u,F h\.ok (k,u)->(k=.own\/k=.loc\/k=.any)/\-h=J) (G:d7 X.prog X.w X.K X.mg X.base (Q_ X.prog X.w) k fa fd ps (spT X.prog X.w X.K F J)) (hr:cY k X.A) (j:Binds X.K fd ps []) (t:Qb C c0 c l L) (I:Inv X pins c.σ c.H s) (rv:Vals L h) (w:W (jx Γ f (l.map (·.2))) c.st (c9 C c0 Q)) :
  ‹X› (WH (.ref fa) h) (EP X pins c0.σ Q) X.xe s:=by
 let(r,ab,g,q):=w;unfold jx at g;rw[Y]at g;cases i:F (l.map (·.2)) with
 |none=>rw[i]at g;ext g|some r' =>
  rw[i]at g;split at g
  .cases g
  .rename_i z;ext z
  rename_i n e3;ext e3 g;let(o,u):=r;let(N,k2):=hk _ _ _ i;let k1:o=.own\/o=.loc:=by
   obtain z|z|z:=N
   .show .inl z
   .show .inr z
   subst z;show(n u 9).elim
  let x:C.Eqv (UR X.prog X.w X.K c.H (QK c.H)):=#[y,B,D]
  let Vk:(UR X.prog X.w X.K c.H (QK c.H)).Eqv C:=#[y.symm,B.symm,D.symm]
  let O:=t.read;let PZ:spT X.prog X.w X.K F J L c.H (λv T=>Q v T) E0:=#[by rw[<-O.len];show k2,l.map (·.2),.ok (o,u),QK c.H,i,λ_ z=>z,O.cg x,N,λv T S' j=>j.here k1 t.hσ t.ok t.nx Vk q]
  let z:=ID (Q:=Q) G hr j .nil LX I rv (by rw[P'];show PZ);rw[t.hσ]at z;show z
def B7(n:C.P=X.prog)(o:C.w=X.w)(q:C.K=X.K)(r:Γ f=F)(hk:∀g k u,F g\.ok (k,u)->(k=.own\/k=.loc\/k=.any)/\-g=v) (G:d7 X.prog X.w X.K X.mg X.base (Q_ X.prog X.w) k j x y (spT X.prog X.w X.K F v)) (z:cY k X.A) (B:Gl X f) (D:X.mg f\.ref j) (J:W.keepIn X.K (.ref j)=4) (L:Binds X.K x y []) (N:(f==("__debug__":5))=df) (O:PA X (e::es) (Qp C ms)) (T:j0 (e::es) X.env=(df,uv e X.env)::j0 es X.env) (Y:(QX pos (j0 es X.env)).any (·.1)=df) :PE X (.Call (.Name f p) (e::es) [] pos) (OY C (ms >>= λi=>az i >>= λ_=>jx Γ f (i.map (·.2)))):=by rintro pins s σ H Q I ⟨c0,rfl,rfl,ok,h⟩;show tj (eO I B D ?_ N);show W.callWith_K (h₀:=X.base) I.ok.mod.Uj J (OV (args O I ok h pos) λg s1 ⟨i,c,vs,t,l,rv,w⟩=>#[l.QA,yo n o q r hk G z L t l rv w]) T Y
end
def Mf.id:Mf->String|.split=>"str.split"|.join=>"str.join"|.partition=>"str.partition"|.endswith=>"str.endswith"
def Mf.name:Mf->5|.split=>"split"|.join=>"join"|.partition=>"partition"|.endswith=>"endswith"
def B8(h:jn f u a\r):∃x,u=.str x:=by obtain⟨b,e,-⟩:=iu h;show#[b,e]
def JA(hK:C.K=X.K)(t:Qb C J c (x::rs) (m::L))(I:Inv X d c.σ c.H s)(y:RelV m v)(z:Vals L o)(h:jn f x.2 rs\r)(q:c9 C J Q r c.st):
  ‹X› (WH (.builtin f.id) (v::o)) (EP X d c.σ Q) X.xe s:=by
 let B:=t.hσ;let i:=t.ok;let n:=t.nx;let(kx,ux):=x;let hs:=fX.mp t.Tv;obtain⟨v0,X1,e0,N,O,-⟩:=t.rep;ext e0;let tx:=N.t hs.1;let one:∀{r:Kd×U},fh C J c [r] L->aU [r] c.st->∃v,L=[v]/\aP C J c r.1 r.2 v:=λ{r} h s=>by let(v,t',rfl,N,O,_):=h;ext O;show#[v,9,N.t s]
 let(a,ea,g):=iu h;subst ea;let((ky,uy),er,l):=bK g;subst er;let(w,rfl,u):=one O hs.2;let D:=tx.str i
 dsimp only at l u
 cases f with
 |split=>let(b,rfl,j):=iu l;let(k,e):=Wu.mp j;ext e;show Bn d s c.σ c.H m [w] v o Q I y z #[_,_,D,by rw[u.str i],k.1,k.2,λp T=>q.list B i n (au.strs.mpr 9) p T]|join =>
  cases uy with
  |lst xs=>let(Y,e,j):=mx.mp l;let e':=bI e;subst e';let(k,e):=Wu.mp j;ext e;let(a',ws,ew,h3,G):=u.list i;rw[au.strs]at G;subst G;show E7 d s c.σ c.H m [w] v o Q I y z #[_,a',Y,D,by rw[ew],hK▸h3,k,q.flat B i n 9]
  |tup xs=>let(Y,e,j):=mx.mp l;let e':=bI e;subst e';let(k,e):=Wu.mp j;ext e;let(a',ws,ew,h3,G):=u.tuple i;rw[au.strs]at G;subst G;show BD d s c.σ c.H m [w] v o Q I y z #[_,a',Y,D,by rw[ew],hK▸h3,k,q.flat B i n 9]
  |_=>ext l
 |endswith=>let(b,rfl,j):=iu l;ext j;show t7 d s c.σ c.H m [w] v o Q I y z #[_,_,D,by rw[u.str i],q.flat B i n 9]|partition=>let(b,rfl,j):=iu l;let(k,e):=Wu.mp j;ext e;show rK d s c.σ c.H m [w] v o Q I y z #[_,_,D,by rw[u.str i],k.1,k.2,λp T=>?_];show q.tup B i n #[_,_,9,9,_,_,9,9,_,_,9,9,9] p T
def FN(hK:C.K=X.K)(n:ϻ "str" b f.id)(Ww:μ (.builtin f.id)=pure (.type "method_descriptor"))(ho:PE X o (OY C m))(ha:PA X (e::j) (Qp C ms)) (Q5:Wk o b X.env (uv o X.env)=uv o X.env) (P_:((QX p (j0 (e::j) X.env)).all (λx=>!x.1)&&(ZC p (V' [] X.env)).all (λx=>x.1.isSome)
   && eL (⇑(e::j)+⇑([]:↑Yn)+(if ([]:↑Yn).isEmpty then 0 else 1)<30))=4)
  (O8:(u.endLine==p.line)=4) (hs:j0 (e::j) X.env=(df,uv e X.env)::j0 j X.env) (Rv:(QX p (j0 j X.env)).any (·.1)=df) :
  PE X (.Call (.Attribute o b u) (e::j) [] p) (OY C (m >>= λx=>ms >>= λa=>az (x::a) >>= λ_=>M.Pd (jn f x.2 a))):=by
 rintro d s σ H Q I ⟨k,rfl,rfl,ok,h⟩;show ô Q5 P_ O8 9 (OV (ho d s k.σ k.H (λy L=>∃x g,g.H=L/\Rg C k g x y/\W (ms >>= λa=>az (x::a) >>= λ_=>M.Pd (jn f x.2 a)) g.st (c9 C k Q)) I (aW ok h λx c v t w=>#[x,c,9,t,w])) ?_);rintro v s1 ⟨y,L,N,O,x,g,rfl,t,w⟩;let Vm:∃z,x.2=.str z:=by rw[ai]at w;let(a,B,_,w):=w;rw[ai]at w;let(_,Pw,_,w):=w;let(r,e,_):=cK.mp w;show B8 e
 let(z,hz):=Vm;let T:=t.rx;rw[hz]at T;let ev:=T.str t.ok;let ty:Zb X.K "str" y g.H:=by rw[ev];rfl
 let(h1,h2):=vV N O ty;show#["str",f.id,F.plainAttrs_str,n,Ww,h1,h2,?_];rw[ai]at w;let Y:=ha p d s1 k.σ g.H (λD H2=>∃a l,l.H=H2/\Qb C k l (x::a) _/\W (M.Pd (jn f x.2 a)) l.st _) N ⟨g,t.hσ,9,t.ok,w.mono λa B G l D e3 e4 Pk n2 A=>by rw[ai,bU]at G;subst e4;show#[a,l,9,#[e3,Pk,t.nx.trans n2,#[y,D,9,t.rx.w.on t.ok n2 (e3.trans t.hσ.symm),A.from t.nx,λhk i r' v' e5 e6 Qf=>oB t.rx.w (A.get e5 e6) hk Qf],G.1],G.2]⟩
 rw[hs]at Y ⊢;show TQ (by assumption) (Sq ?_);show OV Y ?_;rintro us s2 ⟨D,H2,I2,A,a,l,rfl,J,w2⟩;let(r,e,q):=cK.mp w2;let z:=JA hK J (by rw[J.hσ];show I2) O A e q;rw[J.hσ]at z;show z
section
variable{X:Cx}{C:Ct}{pins:List (ke×Obj)}{s:kj}{c0 c c1:Cf}
variable{e:nS}{es:List nS}{ms:M (List (Kd×U))}{pos p p2 pos2:Pos}
def B2.out:B2->i7|.Sf=>.type "tuple"|.Ra=>.type "list"|.sset=>.builtin "sorted"|.la=>.builtin "len"
def B2.X2:B2->i7|.Sf=>.type "reversed"|.Ra=>.type "reversed"|.sset=>.type "set"|.la=>.type "set"
def B2.r_:B2->5|.Sf=>"tuple"|.Ra=>"list"|.sset=>"sorted"|.la=>"len"
def B2.kH:B2->5|.Sf=>"reversed"|.Ra=>"reversed"|.sset=>"set"|.la=>"set"
theorem au.rev{S}:∀{b}{a},au C S H b a->au C S H b.reverse a.reverse|[],a,h=>by ext h;rfl|u::b,a,h=>by let(v,r,rfl,d,f):=h;rw[Í,Í];show(au.rev f).append #[v,[],9,d,9]
def ly(l:C.K=X.K)(m:Ok C c)(n:aP C c0 c k u v)(h:h_ u\o):∃a b,v=.ref a/\(Py X.K c.H a (b.map V.str)\/Pu X.K c.H a (b.map V.str))/\-b+1<WS/\o=bg b:=by
 unfold h_ at h;split at h
 .rw[mx]at h;let(b,e,h):=h;let g:=bI e;subst g;let(i,q,j,f,d):=n.list m;rw[au.strs]at d;subst d;split at h
  .cases h;show#[i,b,j,.inl (l▸f),7,9]
  ext h
 .rw[mx]at h;let(b,e,h):=h;let g:=bI e;subst g;let(i,q,j,f,d):=n.tuple m;rw[au.strs]at d;subst d;rw[l]at f;split at h
  .cases h;show#[i,b,j,.inr f,by assumption,9]
  ext h
 ext h
def JB(m:X.calm=4)(o:C.K=X.K)(t:Qb C c0 c J L)(I:Inv X pins c.σ c.H s)(y:Vals L N)(h:uD f J\r)(q:c9 C c0 Q r c.st):
  ‹X› (WH f.X2 N) (λv O=>‹X› (WH f.out [v]) (EP X pins c.σ Q) X.xe O) X.xe s:=by
 let z:=t.hσ;let b:=t.ok;let n:=t.nx;cases f with
 |Sf=>ext h|Ra =>
  let(x,rfl,a):=bK (f:=Jn) h;clear h;let h:=a;clear a;let(v,rfl,i):=t.one;unfold Jn at h;split at h
  .let(G,ws,T,d,j):=i.tuple b;rw[o]at d;subst T;let(u,rfl,k):=vals1 y;ext k;split at h
   .rename_i hs;ext h;show BA m I d λl hl=>q.list z b n (au.rev (d9 hs j)) l hl
   ext h
  ext h
 |sset =>
  let(x,rfl,a):=bK (f:=λx=>(h_ x.2).bind λg=>if -g<64 then b6 (Kd.own,U.lst ((cF g).map .str)) else ef) h;clear h;let h:=a;clear a;let(g,e,h):=mx.mp h;let(v,rfl,i):=t.one;let(G,Y,rfl,d,j,rfl):=ly o b i e;let(u,rfl,k):=vals1 y;ext k;split at h
  .cases h;show kn m I d j λS h' tk B D=>pW m D B (by assumption) λl hl=>q.list z b n (au.strs.mpr 9) l hl
  ext h
 |la=>let(x,rfl,a):=bK (f:=λx:Kd×U=>(h_ x.2).map λg:↑5=>(Kd.loc,U.int (-g:Int))) h;clear h;let h:=a;clear a;let(g,e,rfl):=i0.mp h;let(v,rfl,i):=t.one;let(G,Y,rfl,d,j,rfl):=ly o b i e;let(u,rfl,k):=vals1 y;ext k;show kn m I d j λS h' tk B D=>n_ D B (q.flat z b n 9)
def yp:∀f:B2,H8 f.r_\f.out/\H8 f.kH\f.X2/\f.r_≠"__name__"/\f.kH≠"__name__"/\(f.r_==("__debug__":5))=df/\(f.kH==("__debug__":5))=df:=by intro f;cases f<;>show#[by decide +kernel,by decide +kernel,by decide +kernel,by decide +kernel,by decide +kernel,by rfl]
def JC(f:B2):∃T,f.X2=.type T:=by cases f<;>show#[_,9]
def JD(f:B2):(∃T,f.out=.type T)\/∃T,f.out=.builtin T:=by cases f<;>first|show .inl ⟨_,9⟩|show .inr ⟨_,9⟩
def yq{M}{E}(h:gi M A t (λv a=>gi M A (WH (.type T) [v]) Q E a) E s):gi M A (callWith pos (.type T) [] [(df,t)] []) Q E s :=PySem.callWith_type 9 (Sq (vr (mu h (λ_ _ b=>Q9 b) λ_ _ e=>e)))
def wu{M}{E}(h:gi M A t (λv a=>gi M A (WH (.builtin T) [v]) Q E a) E s):gi M A (callWith pos (.builtin T) [] [(df,t)] []) Q E s :=TQ 9 (Sq (vr (mu h (λ_ _ b=>Q9 b) λ_ _ e=>e)))
def B9(i:X.calm=4)(j:C.K=X.K)(k:Gl X f.kH)(l:X.mg f.kH=ef) (m:PA X (e::es) (Qp C ms)) (n:j0 (e::es) X.env=(df,uv e X.env)::j0 es X.env) (o:(QX pos2 (j0 es X.env)).any (·.1)=df) (I:Inv X pins c0.σ c0.H s) (u:Ok C c0) (h:W (ms >>= λd=>az d >>= λ_=>M.Pd (uD f d)) c0.st (c9 C c0 Q)) :
  ‹X› (uv (.Call (.Name f.kH p2) (e::es) [] pos2) X.env) (λv a=>‹X› (WH f.out [v]) (EP X pins c0.σ Q) X.xe a) X.xe s:=by
 let(L,b2,N,x,O,y):=yp f;show tj (dr I k l b2 ?_ x y);let b:‹X› (spliced (QX pos2 (j0 (e::es) X.env))) (λg a=>‹X› (WH f.X2 g) (λv a=>‹X› (WH f.out [v]) (EP X pins c0.σ Q) X.xe a) X.xe a) X.xe s :=OV (args m I u h pos2) λg a B=>by let(d,c,Y,t,D,G,w):=B;let(r,e,q):=cK.mp w;let z:=JB i j t D G e q;rw[t.hσ]at z;show z
 let(T,J):=JC f;rw[J]at b ⊢;show Sy b n o
def FO(i:X.calm=4)(j:C.K=X.K)(k:Gl X f.r_)(b:X.mg f.r_=ef)(l:Gl X f.kH)(m:X.mg f.kH=ef) (n:PA X (e::es) (Qp C ms)) (o:j0 (e::es) X.env=(df,uv e X.env)::j0 es X.env) (q:(QX pos2 (j0 es X.env)).any (·.1)=df) :PE X (.Call (.Name f.r_ p) [.Call (.Name f.kH p2) (e::es) [] pos2] [] pos) (OY C (ms >>= λg=>az g >>= λ_=>M.Pd (uD f g))):=by
 rintro pins s σ H Q I ⟨c0,rfl,rfl,r,h⟩;let(t,b2,u,y,v,z):=yp f;show tj (dr I k b t ?_ u v);let a:=B9 (p2:=p2) (pos2:=pos2) i j l m n o q I r h;let w:QX pos (j0 [.Call (.Name f.kH p2) (e::es) [] pos2] X.env)=[(df,uv (.Call (.Name f.kH p2) (e::es) [] pos2) X.env)]:=9;let x:ZC pos (V' [] X.env)=[]:=9;rw[w,x];obtain⟨T,d⟩|⟨T,d⟩:=JD f
 .rw[d]at a ⊢;show yq a
 rw[d]at a ⊢;show wu a
end
section
variable{X:Cx}{C:Ct}{pins:List (ke×Obj)}{s:kj}{c0 c c1:Cf}
variable{a b d e o tg:nS}{es:List nS}{m ma mb md:M (Kd×U)}{ms:M (List (Kd×U))}{ta tb:M Bool}{pos p p2 apos N':Pos}
def oE(f:↑(Kd×U))(c g:Cf):6:=∀j u,(Kd.bor j,u)∈f->g.σ[j]?=c.σ[j]?
def Walk(C:Ct)(c:Cf)(h:↑(Kd×U))(j:↑(Kd×U))(J:It):6:=∀f,Ok C f->Ns c f->oE h c f->aU h f.st ->
 (∀(i:8) r,j[i]?\r->(r.1=.loc\/r.1=.any)/\J.go i f.H/\∀x k,J.Wn i f.H x k->∃g:Cf,g.H=k/\g.σ=f.σ/\g.st=f.st/\Ok C g/\Nx f g/\aP C f g r.1 r.2 x) /\
 ∀i:8,-j<=i->J.stop i f.H
def SW(C:Ct)(h:Ik)(ms:M (↑(Kd×U))):TI:=λσ H R=>∃c0:Cf,c0.σ=σ/\c0.H=H/\Ok C c0/\W (ms >>= λf=>az f >>= λ_=>M.Pd (QW h f) >>= λi=>pure (f,i)) c0.st λq g=>∀c J,c.σ=σ->c.st=g->Ok C c->Nx c0 c->aU q.1 c.st->Walk C c q.1 q.2 J->R J c.H
def aP.walk(g:Ok C c)(n:Ns c f)(i:oE [r] c f)(hs:aU [r] f.st)(h:aP C c0 c r.1 r.2 v):aP C c0 f r.1 r.2 v :=(h.w.on' g n λj e=>i j r.2 (by rw[<-e];simp)).t hs
def B_(k):kE k=.loc\/kE k=.any:=by cases k<;>simp[kE]
def zW(B:C.K=X.K)(D:Ok C c)(h:aP C c0 c k (.lst q) (.ref G)):Walk C c [(k,.lst q)] (q.map λu=>(kE k,u)) (YT X.K G):=by intro t w n H hs;let I:=aP.walk  D n H hs h;let(L,g,e,f,y):=I.list w;ext e;rw[B]at f;show#[λi r z=>?_,λi N=>#[g,f,by rw[<-y.len];left]];rw[ri,i0]at z;let(u,J,rfl):=z;let(v,A,j):=y.get J;show#[B_ k,#[g,v,f,A],λx O l=>?_];let(e,l):=l;subst e;let:=l g f;rw[A]at this;ext this;show#[t,9,9,9,w,Nx.refl t,aP.item j]
def wx(B:C.K=X.K)(D:Ok C c)(h:aP C c0 c k (.tup q) (.ref G)):Walk C c [(k,.tup q)] (q.map λu=>(kE k,u)) (YU X.K G):=by intro t w n H hs;let I:=aP.walk  D n H hs h;let(L,g,e,f,y):=I.tuple w;ext e;rw[B]at f;show#[λi r z=>?_,λi N=>#[g,f,by rw[<-y.len];left]];rw[ri,i0]at z;let(u,J,rfl):=z;let(v,A,j):=y.get J;show#[B_ k,#[g,v,f,A],λx O l=>?_];let(e,l):=l;subst e;let:=l g f;rw[A]at this;ext this;show#[t,9,9,9,w,Nx.refl t,aP.item j]
def Ca:Walk C c [(k,.str x)] (x.cps.toList.map λf=>(.loc,.str #[#v[f]])) (Zw x):=by intro g q n u hs;show#[λi r h=>?_,λi v=>by change -x.cps.toList<=i;left];rw[ri,i0]at h;let(f,j,rfl):=h;show#[.inl 9,(gr.mp j).1,λy w t=>?_];let(e,z,l,rfl):=t;subst e;rw[j]at l;ext l;show#[g,9,9,9,q,Nx.refl g,9]
def oF{lo}:Walk C c t ((i9 n).map λi:8=>(Kd.loc,U.int (lo+(i:Int)))) (Wq lo n):=by
 intro h l u v hs;show#[λi r k=>?_,λi f=>by change n<=i;left];rw[ri,i0]at k;let(j,g,rfl):=k;let f:=by simpa using(gr.mp g).1
 rw[Υ f]at g;ext g;show#[.inl 9,f,λy w q=>?_];let(e,rfl):=q;subst e;show#[h,9,9,9,l,Nx.refl h,9]
def JE(l:C.K=X.K)(t:PE X a (OY C ma)):PI X tg a (SW C .seq (ma >>= λr=>pure [] >>= λJ=>pure (r::J))):=by rintro pins s σ H R I ⟨c0,rfl,rfl,w,h⟩;rw[ai,ai]at h;let(r,i,y,h):=h;rw[ai,ao,ao,ai,bU,ai]at h;let(z,h):=h;let(O,q,h):=cK.mp h;rw[ao]at h;let(k,u):=r;cases u with|lst L=>ext q;show EG t pins s _ c0.H R I #[c0,9,9,w,_,i,y,λc v j hs g n f=>?_];let(A,B,rfl,D,N):=f.list g;subst hs;show#[A,9,#[B,l▸D],h c _ j 9 g n z (zW l g f)]|tup L=>ext q;show Ir t pins s _ c0.H R I #[c0,9,9,w,_,i,y,λc v j hs g n f=>?_];let(A,B,rfl,D,N):=f.tuple g;subst hs;let G:=D;rw[l]at G;show#[A,9,#[B,G],h c _ j 9 g n z (wx l g f)]|str x=>ext q;show IV t pins s _ c0.H R I #[c0,9,9,w,_,i,y,λc v j hs g n f=>?_];subst hs;show#[_,f.str g,h c _ j 9 g n z Ca]|_=>ext q
def wy{k:↑(Kd×U)->M β}{f}(l:Ok C c0)(h:W (ms >>= λg=>az g >>= λ_=>k g) c0.st f) (n:∀g c i,Qb C c0 c g i->W (k g) c.st f->Z i c.H):Qp C ms c0.σ c0.H Z:=by rw[ai]at h;show#[c0,9,9,l,h.mono λg q j c1 i r t u v w=>?_];rw[ai,bU]at j;subst t;show n g c1 i #[r,u,v,w,j.1] j.2
def FP(i:Gl X "range")(j:X.mg "range"=ef)(hs:j0 [a] X.env=[(df,uv a X.env)])(k:PA X [a] (Qp C ms)):PI X tg (.Call (.Name "range" p) [a] [] pos) (SW C .Pt ms):=by
 rintro pins s σ H R I ⟨c0,rfl,rfl,l,h⟩;show zm i j k hs pins s _ c0.H R I (wy l h λq c r t w=>?_);rw[ai]at w;let(u,f,w):=cK.mp w;rw[ao]at w;let(x,rfl,g):=bK  f;clear f;let f:=g;clear g;let(v,rfl,n):=t.one;unfold BL at f;split at f
 .split at f
  .cases f;show#[_,by rw[n.int t.ok],7,7,w c _ t.hσ 9 t.ok t.nx t.Tv oF]
  ext f
 ext f
def FQ(g:Gl X "range")(i:X.mg "range"=ef)(hs:j0 [a,b] X.env=[(df,uv a X.env),(df,uv b X.env)])(j:j0 [b] X.env=[(df,uv b X.env)])(k:PA X [a,b] (Qp C ms)):PI X tg (.Call (.Name "range" p) [a,b] [] pos) (SW C .Rb ms):=by
 rintro pins s σ H R I ⟨c0,rfl,rfl,l,h⟩;show zo g i k hs j pins s _ c0.H R I (wy l h λn c x t w=>?_);rw[ai]at w;let(q,f,w):=cK.mp w;rw[ao]at w;let f:Jo n\q:=f;unfold Jo at f;split at f
 .split at f
  .cases f;let(v,y,rfl,r,u):=t.two;show#[_,_,by rw[r.int t.ok,u.int t.ok],7,w c _ t.hσ 9 t.ok t.nx t.Tv oF]
  ext f
 ext f
def uG{k}{z}{j}{a':ke}{A}(L:∀f,Ok C f->Ns c f->oE [(k,j)] c f->aU [(k,j)] f.st->∃g,A f.H g/\au C (SK C f k) f.H z g):Walk C c [(k,j)] (z.zipIdx.map λp=>(kE k,.tup [.int p.2,p.1])) (VS A):=by
 intro f h n N hs;let(g,l,B):=L f h n N hs;show#[λi r D=>?_,λi Y=>#[g,l,by rw[<-B.len];left]];rw[ri,i0]at D;let(p,G,rfl):=D;rw[ž,i0]at G;let(u,O,rfl):=G;let(v,I,q):=B.get O;show#[B_ k,#[g,v,l,I],λx H' t=>?_];let(p,w,rfl,t):=t;let Q:=t g v l I;subst Q;let(T,y):=h.lay  w;show#[{f with H:=upd f.H p _},9,9,9,T,y,aP.item ?_];let J:au C (SK C f k) f.H [.int (0+i:8),u] [.int i,v]:=by rw[Ġ];show#[_,_,9,9,_,_,9,q,9]
 cases k<;>show#[p,_,9,Pu.of ak,by first|show J.mv (h.T1 y)|show J.mv (h.mv y)]
def JF{es}{D}{G}(k:C.K=X.K)(J:Gl X "enumerate")(L:X.mg "enumerate"=ef)(hs:j0 [a] X.env=[(df,uv a X.env)])(N:PA X [a] (Qp C ms)):PI X (.Tuple es D G) (.Call (.Name "enumerate" p) [a] [] pos) (SW C .UL ms):=by
 rintro pins s σ H R I ⟨c0,rfl,rfl,O,h⟩;show E9 J L N hs pins s _ c0.H R I (wy O h λY c l t w=>?_);rw[ai]at w;let(xs,g,w):=cK.mp w;rw[ao]at w;let(x,rfl,B):=bK  g;clear g;let g:=B;clear B;let(v,rfl,q):=t.one;unfold L3 at g;split at g
 .cases g;let(i,r,u,f,j):=q.list t.ok;subst u;show#[i,9,.inl #[#[r,k▸f],w c _ t.hσ 9 t.ok t.nx t.Tv ?_]];show uG (a':=i) λQ y n z A=>?_;let(T,l,e,f,j):=(aP.walk t.ok n z A q).list y;ext e;show#[l,k▸f,j]
 .cases g;let(i,r,u,f,j):=q.tuple t.ok;subst u;rw[k]at f;show#[i,9,.inr #[#[r,f],w c _ t.hσ 9 t.ok t.nx t.Tv ?_]];show uG (a':=i) λQ y n z A=>?_;let(T,l,e,f,j):=(aP.walk t.ok n z A q).tuple y;ext e;rw[k]at f;show#[l,f,j]
 ext g
def Ok.put(x:Ok C c)(n:Nx c0 c)(hi:i< -c.σ)(hk:k=.own\/k=.loc\/k=.any)(Qv:Ok C c0)(h:aP C c0 c k u v):Ok C {c with σ:=c.σ.set i (b6 v),st:=c.st.set i (b6 (k,u))}/\Nx c0 {c with σ:=c.σ.set i (b6 v),st:=c.st.set i (b6 (k,u))}:=by
 let Q8:i< -c.st:=by rw[x.len];show hi
 let Pc:∀(j:8) g f,(c.st.set i (b6 (k,u)))[j]?\b6 (g,f)->j≠i->c.st[j]?\b6 (g,f):=λj g f e ne=>by rw[ko (sg ne)]at e;show e
 let Qc:∀(j:8) J,(c.σ.set i (b6 v))[j]?\b6 J->j≠i->c.σ[j]?\b6 J:=λj J e ne=>by rw[ko (sg ne)]at e;show e
 let sl:jO C c.S c.H k u v:=by
  obtain rfl|rfl|rfl:=hk
  .let(r,e,L,Q,B,T):=h;let(z0,z1,z2,z3,z4):=Qv.kB L;show#[r,e,Q,z2,z0,T]
  .show h
  show h
 let Vn:∀(j:8) g f r,g.root=4->(c.st.set i (b6 (k,u)))[j]?\b6 (g,f)->(c.σ.set i (b6 v))[j]?\b6 (.ref r)->j=i/\k=.own/\v=.ref r\/j≠i/\c.st[j]?\b6 (g,f)/\c.σ[j]?\b6 (.ref r):=λj g f r N t w=>by
  by_cases l:j=i
  .subst l;rw[i4 Q8]at t;rw[i4 hi]at w;ext t w;obtain rfl|rfl|rfl:=hk
   .show .inl #[9,9,9]
   .cases N
   ext N
  show .inr #[l,Pc j g f t l,Qc j _ w l]
 let dD:∀(j:8) (f:U),(c.st.set i (b6 (k,u)))[j]?\b6 (.A',f)->c.st[j]?\b6 (.A',f)/\(c.σ.set i (b6 v))[j]?=c.σ[j]?:=λj f e=>by
  by_cases l:j=i
  .subst l;rw[i4 Q8]at e;ext e;obtain hk|hk|hk:=hk<;>ext hk
  show#[Pc j .A' f e l,ko (sg l)]
 let D:∀a,({c with σ:=c.σ.set i (b6 v),st:=c.st.set i (b6 (k,u))}:Cf).R1 a->c.R1 a\/k=.own/\v=.ref a:=λa Pj=>by
  let(j,g,f,N,t,w):=Pj;obtain⟨Y,y,A⟩|⟨Y,y,A⟩:=Vn j g f a N t w
  .show .inr #[y,A]
  show .inl #[j,g,f,N,y,A]
 let T8:Sd C {c with σ:=c.σ.set i (b6 v),st:=c.st.set i (b6 (k,u))}:=x.dd.of 9 dD (λa z=>(D a z).imp id λ⟨q1,q2⟩ j z'=>by subst q1;let(O,e,_,_,B,_):=h;rw[q2]at e;ext e;show B (.inr #[j,z'])) (.up λ_ z=>z) λj a z=>#[(x.root (.inr #[j,z])).1,λo q=>q]
 show#[#[x.same,x.QU,x.par,x.io,by simp[x.len],λj g f e=>?_,λj1 j2 k1 k2 u1 u2 r G W3 t w e3 e4=>?_,T8],#[#[n.keep,n.there,λa z=>?_,n.sub,n.new]]]
 .by_cases l:j=i
  .subst l;rw[i4 Q8]at e;ext e;show#[v,by rw[i4 hi],sl]
  let(J,t,w):=x.sl j g f (Pc j g f e l);show#[J,by rw[ko (sg l)];show t,w]
 .let z1:=Vn j1 k1 u1 r G t e3;let z2:=Vn j2 k2 u2 r W3 w e4;obtain⟨Y,y,A⟩|⟨Y,y,A⟩:=z1
  .rcases z2 with⟨D,b2,I⟩|⟨D,b2,I⟩
   .show Y.trans D.symm
   subst y;let(O,e,L,Q,B,T):=h;rw[A]at e;ext e;show(B (.inl #[j2,k2,u2,W3,b2,I])).elim
  obtain⟨D,b2,I⟩|⟨D,b2,I⟩:=z2
  .subst b2;let(O,e,L,Q,B,T):=h;rw[I]at e;ext e;show(B (.inl #[j1,k1,u1,G,y,A])).elim
  show x.inj j1 j2 k1 k2 u1 u2 r G W3 y b2 A I
 obtain z|⟨j,f,O,t,w,e3⟩:=z
 .rcases D a z with z|⟨y,A⟩
  .show n.roots a (.inl z)
  subst y;let(O,e,L,Q,B,T):=h;rw[A]at e;ext e;show .inr L
 let(q1,q2):=dD j f t;show n.roots a (.inr #[j,f,O,q1,q2▸w,e3])
def sd(A:Ok C c0)(t:Ok C c)(n:Nx c0 c)(B:i< -c.σ)(y:aP C c0 c r.1 r.2 v)(h:W (fD i r) c.st Post):∃z,z.σ=c.σ.set i (b6 v)/\z.H=c.H/\Ok C z/\Nx c0 z/\Post () z.st:=by
 let(k,u):=r;cases k with
 |own=>let(x,f,e,g):=h;ext e;let(l,q):=t.put n B (.inl 9) A y;show#[{c with σ:=c.σ.set i (b6 v),st:=c.st.set i _},9,9,l,q,g]|loc=>let(x,f,e,g):=h;ext e;let(l,q):=t.put n B (.inr (.inl 9)) A y;show#[{c with σ:=c.σ.set i (b6 v),st:=c.st.set i _},9,9,l,q,g]|any=>let(x,f,e,g):=h;ext e;let(l,q):=t.put n B (.inr (.inr 9)) A y;show#[{c with σ:=c.σ.set i (b6 v),st:=c.st.set i _},9,9,l,q,g]|bor j =>
  let(x,f,e,g):=h;rw[show fD i (.bor j,u) c.st=match c.st[j]? with|some (b6 (.own,u))=>b6 _|_=>ef from rfl]at e;split at e
  .rename_i w G;ext e;let(Q,I,r,L,_):=t.sl j _ _ G;let J:=y.2;rw[J]at I;ext I;subst L;let(N,O,D):=t.B5 n G J;let(l,q):=Ok.put  N O  (u:=w)  B (.inr (.inl 9)) A D;show#[{S:=λa=>c.S a\/a=r,H:=c.H,σ:=c.σ.set i _,st:=(c.st.set j _).set i _,kid:=c.kid},9,9,l,q,g]
  ext e
 |_=>show y.elim
end
def tG(C:Ct)(t:Bool)(e:↑8):TG:=λv σ H Q=>∃b c r,c.σ=σ/\c.H=H/\Ok C b/\Ok C c/\Nx b c/\aP C b c r.1 r.2 v/\W (fE t e r) c.st λ_ d=>∀a,a.st=d->Ok C a->Nx b a->(∀j,j∉e->a.σ[j]?=c.σ[j]?)->-a.σ=-c.σ->Q a.σ a.H
structure wz(X:Cx)(e:nS)(i:8):6 where
 is:∃x pos,e=.Name x pos/\X.N[i]?\x/\Loc X.env.scope x/\(X.fn x=4\/X.env.scope.names.lookup x\.local)
def JG(g:X.N.Nodup)(h:wz X e i):PG X e (tG C df [i]):=by
 let(x,k,rfl,d,l,m):=h.is;rintro a s σ H v u Q I o ⟨J,c,r,rfl,rfl,p,t,n,b,w⟩;let y:i< -c.σ:=by rw[I.len];show(gr.mp d).1
 let(A,f,B,D,G,q):=sd (r:=r) p t n y b w;show xR g d l m a s c.σ c.H v u Q I o ?_;let z:=q A 9 D G (λj L=>by rw[f,ko (by intro z;left)]) 7;rw[f,B]at z;show z
def gNs:↑8->VI|[]=>Lp|i::a=>Hh (tM i) (gNs a)
inductive gI(X:Cx):↑nS->↑8->6 where|nil:gI X [] []|cons {e:nS} {es:↑nS} {i:Nat} {is:↑Nat} (h:wz X e i) (t:gI X es is):gI X (e::es) (i::is)
def zX(a:X.N.Nodup)(h:gI X b c):Wm X b (gNs c):=by induction h with|nil=>show ED|cons h t d=>let(x,e,rfl,f,g,i):=h.is;show AX (xR a f g i) d 9
def wA(h:gI X a c):-ZY a X.env=-c/\(ZY a X.env).findIdx? (·.1)=ef:=by
 induction h with
 |nil=>show#[9,9]|cons h t b =>
  let(x,d,rfl,e,f,g):=h.is;show#[?_,?_]
  .change(_::_).length=_;simp[b.1]
  change aae _ (_::_)=ef;rw[List.findIdx?_cons,b.2];rfl
theorem yr(hk:kE k=k)(s:Ok C o):∀{f}{l}{g}{c}{a}{Q},Ok C c->Nx o c->(∀i∈f,i< -c.σ)->au C (SK C c k) c.H l g->W (sets f (l.map λu=>(k,u))) c.st a -> (∀d,a () d.st->Ok C d->Nx o d->(∀j,j∉f->d.σ[j]?=c.σ[j]?)->-d.σ=-c.σ->Q d.σ d.H)->gNs f g c.σ c.H Q
 |[],[],g,c,a,Q,ok,n,h,b,w,q=>by rw[show sets [] _=pure () from rfl,ao]at w;show#[b,q c w ok n (λ_ _=>9) 9]|[],u::l,g,c,a,Q,ok,n,h,b,w,q=>(bp.mp w).elim|i::f,[],g,c,a,Q,ok,n,h,b,w,q=>(bp.mp w).elim|i::f,u::l,g,c,a,Q,ok,n,h,b,w,q=>by
  rw[show sets _ _=fD i (k,u) >>= λ_=>sets f _ from rfl,ai]at w;let(v,r,rfl,t,O):=b;let x:k=.own\/k=.loc\/k=.any:=by cases k<;>simp[kE]at hk<;>simp
  let y:aP C o c k u v:=by rw[<-hk];show aP.item t
  let(A,B):=ok.put n (h i 7) x s y;let D:fD i (k,u)=λst=>b6 (.ok (),st.set i (b6 (k,u))):=by cases k<;>simp[kE]at hk<;>rfl
  let(_,G,e,I):=w;rw[D]at e;ext e;show#[v,r,9,yr  hk s A B (λj m=>by exists h j (by simp[m])) (by assumption) I λd p J L N hl=>?_];show q d p J L (λj m=>?_) 7;rw[N j (λz=>m (by simp[z])),ko (λz=>m (by simp[z]))]
def Mc(o:X.calm=4)(q:C.K=X.K)(t:X.N.Nodup)(h:gI X y a)(hl:∀i∈a,i< -X.N):PG X (.Tuple y kk z) (tG C 4 a):=by
 rintro b s σ H v u Q I A ⟨c0,c,r,rfl,rfl,B,g,n,e,w⟩;let(D,G):=wA h;show Im o (zX t h) D G b s c.σ c.H v u Q I A ?_;let(k,J):=r;cases J with
 |tup us =>
  let(L,O,rfl,j,m):=e.tuple g;rw[q]at j;let d:=by
   let f:∀(a:↑8) (l:↑_) (st:aq) (P:Unit->aq->6),W (sets a l) st P->-l=-a:=by
    intro a;induction a with
    |nil=>intro l st P w;cases l with
     |nil=>rfl
     |cons _ _=>show(bp.mp w).elim
    |cons i a T=>intro l st P w;cases l with
     |nil=>show(bp.mp w).elim
     |cons x l=>rw[show sets _ _=fD i x >>= λ_=>sets a l from rfl,ai]at w;let(_,_,_,w):=w;rw[l0,l0,T l _ _ w]
   exists f _ _ _ _ w
  show#[L,O,9,j,by rw[<-m.len,d],?_];show yr  (by cases k<;>rfl) B g n (λi Y=>by rw[I.len];show hl i Y) (by cases k<;>show m) w λc' p OZ n' hf Uk=>p c' 9 OZ n' hf Uk
 |_=>cases a<;>show(bp.mp w).elim
section
variable{X:Cx}{C:Ct}{pins:List (ke×Obj)}{s:kj}{c0 c c1:Cf}
variable{a b d e o tg iter elt:nS}{es ifs:List nS}{m ma mb md me:M (Kd×U)}{ms:M (List (Kd×U))}{ta tb tc:M Bool}{pos p p2 apos N':Pos}
def zY{m:M α}{st}{Q}:W (inScope k m) st Q↔W m (pz k ef++st) λa f=>Q a (f.drop k):=by
 constructor
 .rintro⟨a,f,e,h⟩;unfold inScope at e;cases q:m (pz k ef++st) with|none=>left|some r=>let(i,g):=r;rw[q]at e;ext e;show#[a,g,q,h]
 rintro⟨a,f,e,h⟩;show#[a,_,by unfold inScope;rw[e],h]
def Cf.ext(k:8)(c:Cf):Cf:={c with σ:=pz k ef++c.σ,st:=pz k ef++c.st,kid:=λj=>c.kid (j - k)}
def Cf.cut(k:8)(c:Cf):Cf:={c with σ:=c.σ.drop k,st:=c.st.drop k,kid:=λj=>c.kid (k+j)}
def iZ(h:(pz k ef++l)[j]?\b6 x):∃i,j=k+i/\l[i]?\b6 x:=by
 by_cases f:j<k
 .rw[K0 ⋯]at h;left
 show#[j - k,7,?_];rw[vu ⋯]at h;exists h
def gJ:(pz k ef++l)[k+i]?=l[i]?:=by rw[vu ⋯];simp
def Cb:(c.ext k).R1 r↔c.R1 r:=by
 constructor
 .rintro⟨j,g,u,h,l,f⟩;let(i,rfl,e):=iZ l;rw[Cf.ext,gJ]at f;show#[i,g,u,h,e,f]
 rintro⟨i,g,u,h,l,f⟩;show#[_,g,u,h,by rw[Cf.ext,gJ];show l,by rw[Cf.ext,gJ];show f]
def se{a}(h:(c.ext k).RD j a):∃i,j=k+i/\c.RD i a:=by
 let(u,r,g,f,l):=h;let(i,rfl,e):=iZ g;rw[Cf.ext,gJ]at f;show#[i,9,u,r,e,f,?_];let:(c.ext k).kid (k+i)=c.kid i:=by change c.kid _=_;simp
 left
def Md(h:(c.ext k).R r):c.R r:=by
 obtain h|⟨j,h⟩:=h
 .show .inl (Cb.mp h)
 let(i,_,h):=se h;show .inr #[i,h]
def Ok.ext(k)(f:Ok C c):Ok C (c.ext k)/\Nx c (c.ext k):=by
 show#[#[f.same,f.QU,f.par,f.io,by simp[Cf.ext,f.len],λj y u e=>?_,λi j z A u B r D G l g w x=>?_,#[λj u r l g=>?_,λi j a z1 z2=>?_,λj a z1 z2=>?_]],#[#[λ_ _ h _=>h,λ_ o h=>#[o,h],λa h=>.inl (Md h),λ_ h=>h,λ_ h=>.inl h]]]
 .let(i,rfl,H):=iZ e;let(v,l,g):=f.sl i y u H;show#[v,by rw[Cf.ext,gJ];show l,g]
 .let(n,rfl,I):=iZ l;let(q,rfl,J):=iZ g;rw[Cf.ext,gJ]at w x;rw[f.inj n q z A u B r D G I J w x]
 .let(i,rfl,e):=iZ l;rw[Cf.ext,gJ]at g;let:(c.ext k).kid (k+i)=c.kid i:=by change c.kid (k+i - k)=_;rw[Nat.add_sub_cancel_left]
  rw[this];show f.dd.kd i u r e g
 .let(n,rfl,t):=se z1;let(q,rfl,L):=se z2;rw[f.dd.dj n q a t L]
 let(i,rfl,t):=se z1;show f.dd.d1 i a t (Cb.mp z2)
def Ce{a}(h:(c.cut k).R1 a):c.R1 a:=by let(j,i,u,l,f,g):=h;rw[Cf.cut,U2]at f g;show#[_,i,u,l,f,g]
def sf{a}(h:(c.cut k).RD j a):c.RD (k+j) a:=by let(u,r,f,g,i):=h;rw[Cf.cut,U2]at f g;show#[u,r,f,g,i]
def Ok.cut(k)(f:Ok C c):Ok C (c.cut k)/\Nx c (c.cut k):=by
 show#[#[f.same,f.QU,f.par,f.io,by simp[Cf.cut,f.len],λj t u e=>?_,λi j w x u y r A B g l n q=>?_,#[λj u r g l=>?_,λi j a z1 z2=>?_,λj a z1 z2=>f.dd.d1 _ a (sf z1) (Ce z2)]],#[#[λ_ _ h _=>h,λ_ o h=>#[o,h],λa h=>.inl (h.elim (λz=>.inl (Ce z)) λ⟨j,z⟩=>.inr #[k+j,sf z]),λ_ h=>h,λ_ h=>.inl h]]]
 .rw[Cf.cut,U2]at e;let(v,g,l):=f.sl _ t u e;show#[v,by rw[Cf.cut,U2];show g,l]
 .rw[Cf.cut,U2]at g l n q;let:=f.inj _ _ w x u y r A B g l n q;lia
 .rw[Cf.cut,U2]at g l;show f.dd.kd _ u r g l
 let:=f.dd.dj _ _ a (sf z1) (sf z2);lia
def FR(h:∀j,j∉i9 k->g[j]?=(pz k ef++σ)[j]?)(hl:-g=-(pz k (ef:Option V)++σ)):∃f,-f=k/\g=f++σ:=by
 show#[g.take k,by left,?_];apply ώ;intro j;by_cases i:j<k
 .rw[K0 ⋯,List.getElem?_take,if_pos i]
 rw[h j ⋯,vu ⋯,vu ⋯];left
def zZ(e1:c1.σ=c0.σ)(OU:Ok C c1)(n1:Nx c0 c1)(hw:Walk C c1 n g J)(h3:W (cz k t tc me n g []) c1.st λB h=>W (pure (Kd.own,U.lst B)) h (c9 C c0 Q)):x_ k J (tG C t (i9 k)) (Qu C tc) (OY C me) Q c0.σ c1.H:=by
 show#[λi m ys H=>∃c f,c.H=H/\c.σ=c0.σ/\Ok C c/\Nx c1 c/\m=-g - i/\i<=-g/\au C c.S c.H f ys/\-f<=ei/\W (cz k t tc me n (g.drop i) f) c.st λB h=>W (pure (Kd.own,U.lst B)) h (c9 C c0 Q),#[-g,c1,[],9,e1,OU,Nx.refl c1,by simp,mh _,9,mh _,by assumption],?_];rintro i m ys H ⟨c,f,rfl,e3,D,G,rfl,hi,q,I,w⟩;show#[by rw[<-q.len];lia,?_];let l:oE n c1 c:=λj u _=>by rw[e3,e1]
 by_cases PB:i< -g
 .right
  rw[É PB]at w;rw[show cz k t tc me n (g[i]::g.drop (i+1)) f=az n >>= λ_=>inScope k (fE t (i9 k) g[i] >>= λ_=>tc >>= λb=>if b=c4 then(me >>= λr=>lift r >>= λu=>pure (b6 u)) else pure ef) >>= λr=>match r with|some u=>if ⇑f<ei then cz k t tc me n (g.drop (i+1)) (f++[u]) else M.fail|none=>cz k t tc me n (g.drop (i+1)) f from rfl,ai,bU]at w;let(SX,w):=w;let(wk,_):=hw c D G l SX;let(W5,W6,W7):=wk i g[i] 7;show#[W6,λQR O=>∃c f,c.H=O/\c.σ=c0.σ/\Ok C c/\Nx c1 c/\au C c.S c.H f QR/\-f<=ei/\W (cz k t tc me n (g.drop (i+1)) f) c.st λB h=>W (pure (Kd.own,U.lst B)) h (c9 C c0 Q),λQR O ⟨c',PJ,z1,z2,z3,z4,z5,z6,z7⟩=>#[-g - (i+1),7,c',PJ,z1,z2,z3,z4,9,PB,z5,z6,z7],λx O hy=>?_];let(y,rfl,e4,e5,Pk,n2,T):=W7 x O hy;rw[ai,zY,ai]at w;let(X3,nx):=Pk.ext k;let ab:aP C (y.ext k) (y.ext k) g[i].1 g[i].2 x:=by
   obtain z|z:=W5
   .rw[z]at T ⊢;show T
   rw[z]at T ⊢;show T
  let eσ:(y.ext k).σ=pz k ef++c0.σ:=by rw[Cf.ext];change pz k ef++y.σ=_;rw[e4,e3]
  show#[y.ext k,y.ext k,g[i],eσ,9,X3,X3,Nx.refl _,ab,?_];let ac:(y.ext k).st=pz k ef++c.st:=by rw[Cf.ext];change pz k ef++y.st=_;rw[e5]
  rw[ac];show w.mono λ_ Pw w3 c3 e6 Rj n3 W8 VD=>?_;subst e6;rw[eσ]at W8 VD;let(al,Su,Ro):=FR W8 VD;show#[al,Su,Ro,?_];let L:Nx c c3:=(n2.trans nx).trans n3;rw[ai]at w3;show#[c3,9,9,Rj,w3.mono λb VO w4 Y e7 e8 SY n4=>?_];subst e8;cases b with
  |false=>rw[if_neg tv]at w4 ⊢;rw[ao]at w4;let(A,nk):=SY.cut k;let nn:Nx c (Y.cut k):=(L.trans n4).trans nk;show#[Y.cut k,f,9,?_,A,G.trans nn,q.mv (D.mv nn),I,w4];change Y.σ.drop k=_;rw[e7,Ro,Ĺ Su]|true =>
   rw[if_pos rfl]at w4 ⊢;rw[ai]at w4;show#[Y,e7,9,SY,w4.mono λr Sr w5 c5 v e9 am an n5 ap=>?_];subst am;rw[ai]at w5;let(S',h,u,sS,ar,n6,N,w6,_,_):=iX SY an n5 ap.w w5;rw[ao]at w6
   dsimp only at w6
   split at w6
   .rename_i hz;let(A,nk):=ar.cut k;let nn:Nx c (Cf.cut k {c5 with S:=S',st:=h }):=((L.trans n4).trans n6).trans nk;show#[Cf.cut k {c5 with S:=S',st:=h },f++[u],9,?_,A,G.trans nn,(q.mv (D.mv nn)).snoc N,by rw[nc];show hz,w6];change c5.σ.drop k=_;rw[e9,Ro,Ĺ Su]
   show(bp.mp w6).elim
 apply Or.inl
 let Q8:i=-g:=7
 subst Q8;rw[ϔ,show cz k t tc me n [] f=az n >>= λ_=>pure f from rfl,ai,bU,ao,ao]at w;let(_,wk):=hw c D G l w.1;show#[wk _ (gs _),λp hp=>c9.list w.2 e3 D (n1.trans G) q p hp]
def qy(n:Ok C c0) (h:W (ms >>= λf=>az f >>= λ_=>M.Pd (QW q f) >>= λi=>cz k t tc me f i [] >>= λr=>pure (Kd.own,U.lst r)) c0.st (c9 C c0 Q)) :Bl k (SW C q ms) (tG C t (i9 k)) (Qu C tc) (OY C me) c0.σ c0.H Q:=by rw[ai]at h;show#[c0,9,9,n,?_];rw[ai];show h.mono λf u g=>?_;rw[ai,bU]at g ⊢;show#[g.1,?_];let j:=g.2;rw[ai]at j ⊢;show j.mono λi v l=>?_;rw[ao];intro c1 J w x y z B A;rw[ai]at l;subst x;show zZ w y z A l
def Cg(S:dz X N own f)(j:X.calm=4)(k:PI X tg iter (SW C l ms)) (n:∀D s H g,PG (Qe X N f D s H g) tg (tG C t (i9 ⇑own))) (q:∀D s H g,TR (Qe X N f D s H g) ifs (Qu C tc)) (r:∀D s H g,PE (Qe X N f D s H g) elt (OY C me)) (hs:∀x,Wd iter X.env x=pure x) :PE X (.ListComp elt [⟨tg,iter,ifs,0⟩] f pos) (OY C (ms >>= λi=>az i >>= λ_=>M.Pd (QW l i) >>= λu=>cz ⇑own t tc me i u [] >>= λv=>pure (.own,.lst v))):=by show PE.weak (E5 S j k n q r hs) ?_;rintro σ H Q ⟨c0,rfl,rfl,w,h⟩;show qy w h
end
section
variable{a b d e o tg iter elt:nS}{es ifs:List nS}{m ma mb md me:M (Kd×U)}{ms:M (List (Kd×U))}{ta tb tc:M Bool}{pos p p2 apos N':Pos}{st:RO}{rest body:List RO}{f g mm:M Fl}{ns X4:8->Bool}
def JH(C:Ct)(c:Cf):Kd->U->V->6|.own,u,v=>∃r,v=.ref r/\C.H₀ r=ef/\¬c.S r/\¬c.R r/\fC C c.S c.H r u|.loc,u,v=>Rep C c.S c.H u v|.any,u,v=>Rep C (PS C c.S) c.H u v|_,_,_=>False
def Oi(C:Ct)(Q:VK)(c:Cf):Kd->U->6|.io,u=>C.xw u c.H|k,u=>∀v,JH C c k u v->Q v c.H
def Fin(C:Ct)(D:Ends)(f:Fl)(c:Cf):6:=match f with|.nx=>D.nx c.σ c.H|.bk=>D.bk c.σ c.H|.ct=>D.ct c.σ c.H|.rt k u=>Oi C D.rt c k u
def Kept(ns:8->Bool)(c h:Cf):6:=(∀j,ns j=4->h.σ[j]?=c.σ[j]?)/\-h.σ=-c.σ
def Kept.refl:Kept ns c c:=#[λ_ _=>9,9]
def Kept.trans(h:Kept ns c k)(i:Kept ns k l):Kept ns c l:=#[λj z=>(i.1 j z).trans (h.1 j z),i.2.trans h.2]
def Kept.le(i:∀j,X4 j=4->ns j=4)(h:Kept ns c k):Kept X4 c k:=#[λj z=>h.1 j (i j z),h.2]
def Kept.of(h:i.σ=c.σ):Kept ns c i:=#[λj z=>by rw[h],by rw[h]]
def iB(C:Ct)(i:Cf)(ns:8->Bool)(D:Ends)(f:Fl)(h:aq):6:=∀c,c.st=h->Ok C c->Ns i c->Kept ns i c->Fin C D f c
inductive PD(C:Ct)(ns:8->Bool)(m:M Fl)(D:Ends)(σ:L2.St)(H:Hp):6|mk:∀c0:Cf,c0.σ=σ->c0.H=H->Ok C c0->W m c0.st (iB C c0 ns D)->PD C ns m D σ H
def Ci(j:Ok C c)(n:Ns i c)(k:Kept ns i c)(h:W mm c.st (iB C i ns D)):PD C ns mm D c.σ c.H :=#[c,9,9,j,h.mono λf st l q e r s t=>l q e r (n.trans s) (k.trans t)]
def PS.weak(h:L2.PS X st t)(i:∀D σ H,j D σ H->t D σ H):L2.PS X st j:=λc s σ H D I q=>h c s σ H D I (i D σ H q)
def Qj.weak(h:Qj X rest t)(i:∀D σ H,j D σ H->t D σ H):Qj X rest j:=λc s σ H D I q=>h c s σ H D I (i D σ H q)
def si(i:∀j,X4 j=4->ns j=4)(h:PD C X4 mm D σ H):PD C ns mm D σ H :=let ⟨c,k,l,n,w⟩:=h;⟨c,k,l,n,w.mono λf st q r e s t u=>q r e s t (u.le i)⟩
def Mg:Qj X [] (PD C ns (pure .nx)):=by show Qj.weak mY ?_;rintro D σ H ⟨c,rfl,rfl,i,h⟩;rw[ao]at h;show h c 9 i (Ns.refl c) Kept.refl
def FT(m:M Fl)(f:Fl):M Fl:=match f with|.nx=>m|f=>pure f
def JI(n:L2.PS X st (PD C ns f))(q:Qj X rest (PD C ns g)):Qj X (st::rest) (PD C ns (f >>= FT g)):=by show Qj.weak (fc n q) ?_;rintro D σ H ⟨r,rfl,rfl,s,h⟩;rw[ai]at h;show#[r,9,9,s,h.mono λt v w l e c i j=>?_];subst e;cases t with|nx=>show Ci c i j w|bk=>rw[show FT g .bk=pure .bk from rfl,ao]at w;show w l 9 c i j|ct=>rw[show FT g .ct=pure .ct from rfl,ao]at w;show w l 9 c i j|rt k u=>rw[show FT g _=pure _ from rfl,ao]at w;show w l 9 c i j
def Mh(i:PE X a (OY C ma))(hs:WQ a ef pos.line X.env=pure df):L2.PS X (.Expr a pos) (PD C ns (ma >>= λ_=>pure .nx)):=by show PS.weak (iU i hs) ?_;rintro D σ H ⟨k,rfl,rfl,j,h⟩;show aW j h λx c v t w=>?_;rw[ao]at w;let:=w c 9 t.ok t.nx (Kept.of t.hσ);rw[<-t.hσ];show this
def uH(ok:Ok C N)(t:Rg C N c x v)(w:W (retS x) c.st (iB C N ns D)):D.rt v c.H:=by
 let(k,u):=x;let(G,l,n,r):=t;cases k with
 |own=>rw[show retS (.own,u)=pure (.rt .own u) from rfl,ao]at w;let(B,e,h1,h2,h3,h4):=r;show w c 9 l n (Kept.of G) v #[B,e,(ok.kB h1).1,h2,h3,h4]|loc=>rw[show retS (.loc,u)=pure (.rt .loc u) from rfl,ao]at w;show w c 9 l n (Kept.of G) v r|any =>
  rw[show retS (.any,u)=if O6 u=c4 then pure (.rt .loc u) else pure (.rt .any u) from rfl]at w;split at w
  .rw[ao]at w;show w c 9 l n (Kept.of G) v (Rep.O6 7 r)
  rw[ao]at w;show w c 9 l n (Kept.of G) v r
 |bor j =>
  let(fl,ab,e,w):=w;rw[show retS (.bor j,u) c.st=match c.st[j]? with|some (b6 (.own,u))=>b6 _|_=>ef from rfl]at e;split at e
  .rename_i J L;ext e;let T9:j< -c.st:=(gr.mp L).1;let A:∀(i:8) k J,(c.st.set j ef)[i]?\b6 (k,J)->i≠j/\c.st[i]?\b6 (k,J):=λi k J e=>by
    by_cases Y:i=j
    .simp_all
    rw[ko (sg Y)]at e;show#[Y,e]
   let(v',s,B,er,q1,q2,q3,q4):=l.sl j _ _ L;let O:c.σ[j]?\b6 v:=r.2;rw[O]at s;ext s;subst er;let RU:∀a,({c with st:=c.st.set j ef}:Cf).R1 a->c.R1 a:=λa ⟨i,k,h,hk,s,y⟩=>#[i,k,h,hk,(A i k h s).2,y]
   let hR:∀a,({c with st:=c.st.set j ef}:Cf).R a->c.R a:=λa z=>z.elim (λz=>.inl (RU a z)) λ⟨i,h,Q,s,y,I⟩=>.inr #[i,h,Q,(A i .A' h s).2,y,I];let T8:Sd C {c with st:=c.st.set j ef}:=l.dd.of 9 (λi h e=>#[(A i .A' h e).2,9]) (λa z=>.inl (RU a z)) (.up λ_ z=>z) λi a z=>#[(l.root (.inr #[i,z])).1,λo q=>q]
   let T:Ok C {c with st:=c.st.set j ef}:=#[l.same,l.QU,l.par,l.io,by simp[l.len],λi k h e=>l.sl i k h (A i k h e).2,λi i' k k' u1 h r hk Qf s y I e4=>l.inj i i' k k' u1 h r hk Qf (A i k u1 s).2 (A i' k' h y).2 I e4,T8]
   let nn:Ns N {c with st:=c.st.set j ef}:=#[n.keep,n.there,λa z=>n.roots a (hR a z),n.sub,n.new]
   show w _ 9 T nn (Kept.of G) (.ref B) #[B,9,q3,q1,λz=>?_,q4]
   obtain⟨i,k,h,hk,s,y⟩|⟨i,h,Q,s,y,I⟩:=z
   .let(ne,P5):=A i k h s;show ne (l.inj i j k .own h _ B hk 9 P5 L y O)
   show l.dd.d1 i B #[h,Q,(A i .A' h s).2,y,I] #[j,.own,_,9,L,O]
  ext e
 |_=>show r.elim
def Mi(j:PE X a (OY C ma)):L2.PS X (.Return (b6 a) pos) (PD C ns (ma >>= retS)):=by show PS.weak (Ij j) ?_;rintro D σ H ⟨k,rfl,rfl,i,h⟩;show aW i h λx c v t w=>uH i t w
end
def uI(f:∀j,g j=4->j≠i)(h:Ok C a)(t:Rg C a c r v)(k:i< -c.σ)(w:W (fD i r >>= λ_=>(pure .nx:M Fl)) c.st (iB C a g D)):D.nx (a.σ.set i (b6 v)) c.H:=by rw[ai]at w;let(d,b,l,m,n,q):=sd  h t.ok t.nx k t.rx w;rw[ao]at q;let z:=q d 9 m n #[λj o=>by rw[b,t.hσ,ko (sg (f j o))],by rw[b,t.hσ];simp];let e:D.nx _ d.H:=z;rw[b,l,t.hσ]at e;show e
def Ho(l:∀j,m j=4->j≠i)(n:X.N.Nodup)(f:X.N[i]?\x)(o:Loc X.env.scope x)(p:X.fn x=4\/X.env.scope.names.lookup x\.local)(q:PE X a (OY C u)) (hs:WQ a (b6 (.Name x b)) e.line X.env=pure df):L2.PS X (.Assign [.Name x b] a e) (PD C m (u >>= λr=>fD i r >>= λ_=>pure .nx)):=by
 rintro d s σ H D I ⟨g,rfl,rfl,k,h⟩;let y:i< -g.σ:=by rw[I.len];show(gr.mp f).1
 show qY n f o q hs p d s _ g.H D I (aW k h λr c v t w=>uI l k t (by rw[t.hσ];lia) w)
def JJ(u:∀j,z j=4->j≠i)(S:dz X N own a)(A:X.calm=4)(B:X.N.Nodup)(o:X.N[i]?\y)(G:X.env.scope.names.lookup y\.local) (J:PI X k b (SW C L ms)) (O:∀D s H d,PG (Qe X N a D s H d) k (tG C t (i9 ⇑own))) (Q:∀D s H d,TR (Qe X N a D s H d) e (Qu C T)) (Y:∀D s H d,PE (Qe X N a D s H d) f (OY C me)) (Tj:WQ (.ListComp f [⟨k,b,e,0⟩] a l) (b6 (.Name y py)) R7.line X.env=pure 4) (hs:∀x,Wd b X.env x=pure x) :L2.PS X (.Assign [.Name y py] (.ListComp f [⟨k,b,e,0⟩] a l) R7) (PD C z ((ms >>= λm=>az m >>= λ_=>M.Pd (QW L m) >>= λxs=>cz ⇑own t T me m xs [] >>= λus=>pure (.own,.lst us)) >>= λr=>fD i r >>= λ_=>pure .nx)):=by
 rintro g s σ H D I ⟨p,rfl,rfl,q,h⟩;let Qq:i< -p.σ:=by rw[I.len];show(gr.mp o).1
 show E6 S A B o G J O Q Y Tj hs g s _ p.H D I ?_;rw[ai]at h;show qy q (h.mono λr ab w c v e1 e2 O7 n rt=>?_);subst e2;show uI u q #[e1,O7,n,rt] 7 w
def Mj(i:PT X a (Qu C j))(k:Qj X l (PD C b f))(m:Qj X o (PD C b g)):L2.PS X (.If a l o q) (PD C b (j >>= λp=>if p=4 then f else g)):=by show PS.weak (Lo i k m) ?_;rintro D σ H ⟨t,rfl,rfl,r,h⟩;show iz r h λp c d s n w=>?_;let e:=d.symm;rw[e];cases p with|_=>show Ci s n (Kept.of d) w
def Ml(J:ŏ (i5 X.prog X.w) X.A X.env X.xe)(L:PT X a (Qu C s))(N:Qj X i (PD C l f)):L2.PS X (.While a i [] O) (PD C l (qb s f n)):=by
 show PS.weak (A1 J L N) ?_;rintro D σ H ⟨g,rfl,rfl,Q,h⟩;show#[λm t u=>∃c,c.H=u/\c.σ=t/\Ok C c/\Ns g c/\Kept l g c/\W (qb s f m) c.st _,#[n,g,9,9,Q,Ns.refl g,Kept.refl,h],?_];rintro m t u ⟨c,rfl,rfl,T,v,x,w⟩;cases m with
 |zero=>show(bp.mp w).elim|succ m =>
  show iz T w λp o y B G w2=>?_;let I:Kept l c o:=Kept.of y;rw[<-y];cases p with
  |false=>rw[if_neg tv]at w2 ⊢;rw[ao]at w2;show w2 o 9 B (v.trans G) (x.trans I)
  |true =>
   rw[if_pos rfl]at w2 ⊢;show#[λj k=>∃c,c.H=k/\c.σ=j/\Ok C c/\Ns g c/\Kept l g c/\W _ c.st _,λj k z=>#[m,Wv m,z],?_];rw[ai]at w2;show#[o,9,9,B,w2.mono λY Pw w3 q e r n3 k3=>?_];subst e;let b:=(v.trans G).trans n3;let d:=(x.trans I).trans k3;cases Y with
   |nx=>show#[q,9,9,r,b,d,w3]
   |ct=>show#[q,9,9,r,b,d,w3]
   |_=>rw[ao]at w3;show w3 q 9 r b d
def Mm(hp:ŏ (i5 X.prog X.w) X.A X.env X.xe)(hc:X.calm=4)(hi:PI X tg g (SW C ik ms))(hg:PG X tg (tG C t d))(hb:Qj X v (PD C (QP T) f))(hs:∀x,Wd g X.env x=pure x) (Qs:∀j,q j=4->j∉d/\QP T j=4) :L2.PS X (.For tg g v [] al) (PD C q (ms >>= λb=>az b >>= λ_=>M.Pd (QW ik b) >>= λa=>if qx b d T=4 then forM t d f b a else M.fail)):=by
 show PS.weak (Iu hp hc hi hg hb hs) ?_;rintro D σ H ⟨r,rfl,rfl,ok,h⟩;rw[ai]at h;show#[r,9,9,ok,?_];rw[ai];show h.mono λb am Y=>?_;rw[ai,bU]at Y ⊢;show#[Y.1,?_];let h2:=Y.2;rw[ai]at h2 ⊢;show h2.mono λa an h3=>?_;rw[ao];intro l J e1 e2 OU n1 OQ hw;subst e2
 dsimp only at OQ hw
 split at h3
 .rename_i Vo;let y:∀j u,(Kd.bor j,u)∈b->j∉d/\QP T j=4:=λj u N=>by let:=nH.mp Vo _ N;exists this
  show#[λi m B n=>∃c,c.H=n/\c.σ=B/\Ok C c/\Ns l c/\Kept q r c/\oE b l c/\m=-a - i/\i<=-a/\W (forM t d f b (a.drop i)) c.st (iB C r q D),
   #[-a,l,9,e1,OU,Ns.refl l,Kept.of e1,λ_ _ _=>9,by simp,mh _,by assumption],?_]
  rintro i m B n ⟨c,rfl,rfl,O7,O,kc,fx,rfl,Q8,w⟩;by_cases PB:i< -a
  .right
   rw[É PB,show forM t d f b (a[i]::a.drop (i+1))=az b >>= λ_=>fE t d a[i] >>= λ_=>f >>= λf'=>match f' with|.nx=>forM t d f b (a.drop (i+1))|.ct=>forM t d f b (a.drop (i+1))|.bk=>pure .nx|.rt k u=>pure (.rt k u) from rfl,ai,bU]at w;let(SX,w):=w;let(wk,_):=hw c O7 O fx SX;let(W5,W6,W7):=wk i a[i] 7;show#[W6,λB n=>∃c,c.H=n/\c.σ=B/\Ok C c/\Ns l c/\Kept q r c/\oE b l c/\W _ c.st (iB C r q D),λB n ⟨c',z1,z2,z3,z4,z5,z6,z7⟩=>#[-a - (i+1),7,c',z1,z2,z3,z4,z5,z6,9,PB,z7],λx n hy=>?_];let(G,rfl,Q,e5,Pk,n2,rt):=W7 x n hy;rw[ai]at w;let ab:aP C G G a[i].1 a[i].2 x:=by
    obtain z|z:=W5
    .rw[z]at rt ⊢;show rt
    rw[z]at rt ⊢;show rt
   show#[G,G,a[i],Q,9,Pk,Pk,Nx.refl G,ab,?_];rw[e5];show w.mono λ_ Pw w3 c3 e6 Rj n3 I VD=>?_;subst e6;rw[ai]at w3;show#[c3,9,9,Rj,w3.mono λfl VO w4 s e SY n4 k4=>?_];subst e;let o:Ns l s:=((O.trans n2.toNs).trans n3.toNs).trans n4;let p:Kept q r s:=by show kc.trans #[λj hj=>?_,by rw[k4.2,VD,Q]];let(j1,j2):=Qs j hj;rw[k4.1 j j2,I j j1,Q]
   let L:oE b l s:=λj u N=>by let(j1,j2):=y j u N;rw[k4.1 j j2,I j j1,Q];show fx j u N
   cases fl with|nx=>show#[s,9,9,SY,o,p,L,w4]|ct=>show#[s,9,9,SY,o,p,L,w4]|_=>rw[ao]at w4;show w4 s 9 SY (n1.toNs.trans o) p
  apply Or.inl
  let ac:i=-a:=7
  subst ac;rw[ϔ,show forM t d f b []=az b >>= λ_=>pure .nx from rfl,ai,bU,ao]at w;let(_,wk):=hw c O7 O fx w.1;show#[wk _ (gs _),w.2 c 9 O7 (n1.toNs.trans O) kc]
 show(bp.mp h3).elim
def Ok.mod(f:Ok C c)(n:Ns c0 c)(hk:k.root=4)(D:c.st[i]?\b6 (k,u))(G:c.σ[i]?\b6 (.ref r))(Pp:∀a,a≠r->H' a=c.H a)(hr:∃o,H' r\o) (J:Mv c.S c.H c.S H'->fC C c.S H' r u'):Ok C {c with H:=H',st:=c.st.set i (b6 (k,u'))}/\Ns c0 {c with H:=H',st:=c.st.set i (b6 (k,u'))}:=by
 let RU:c.R1 r:=#[i,k,u,hk,D,G]
 let hR:c.R r:=.inl RU;let(L,q2,q3,o,ho,ac):=f.root hR;let Qq:i< -c.st:=(gr.mp D).1;let p:∀{a:ke} {b:HO},a≠r->c.H a\b->H' a\b:=λN e=>by rw[Pp _ N];show e
 let I:Mv c.S c.H c.S H':=#[λ_ z=>z,λa b e t=>p (λz=>by left) e,λa b z e=>p (λq=>L (q▸z)) e]
 let T1:Mv (PS C c.S) c.H (PS C c.S) H':=#[λ_ z=>z,I.WZ,λa b z e=>p (λq=>by subst q;show z.elim q2 L) e]
 let O:∀(j:8) d w,(c.st.set i (b6 (k,u')))[j]?\b6 (d,w)->j≠i->c.st[j]?\b6 (d,w):=λj d w e N=>by rw[ko (sg N)]at e;show e
 let g:∀(j:8) d w,d.root=4->(c.st.set i (b6 (k,u')))[j]?\b6 (d,w)->∃Q,c.st[j]?\b6 (d,Q):=λj d w _ e=>by
  by_cases s:j=i
  .simp_all
  show#[w,O j d w e s]
 let b1:∀a,({c with H:=H',st:=c.st.set i (b6 (k,u'))}:Cf).R1 a->c.R1 a:=λa Pj=>by let(j,d,w,h,l,m):=Pj;let(Q,T):=g j d w h l;show#[j,d,Q,h,T,m]
 let dD:∀(j:8) (w:U),(c.st.set i (b6 (k,u')))[j]?\b6 (.A',w)->c.st[j]?\b6 (.A',w):=λj w e=>by
  by_cases s:j=i
  .subst s;rw[i4 Qq]at e;ext e hk
  show O j .A' w e s
 let T8:Sd C {c with H:=H',st:=c.st.set i (b6 (k,u'))}:=f.dd.of 9 (λj w e=>#[dD j w e,9]) (λa z=>.inl (b1 a z)) I λj a z=>#[(f.root (.inr #[j,z])).1,λb e=>p (λq=>f.dd.d1 j a z (q▸RU)) e]
 show#[#[λa b e z=>?_,λa z=>?_,f.par,λa z=>?_,by simp[f.len],λj d w e=>?_,λj1 j2 k1 k2 w1 w2 x h y l m Y e4=>?_,T8],n.trans #[λa b e z=>p (λq=>z (q▸hR)) e,λa b e=>?_,λa z=>?_,λ_ z=>z,λ_ z=>.inl z]]
 .let h:=f.same a b e z;show p (λq=>?_) h;left
 .let(h,b,y):=f.QU a z;show#[h,b,p (λq=>L (q▸z)) y]
 .let(h,b,y):=f.io a z;show#[h,?_];by_cases B:a=r
  .subst B;show hr
  show#[b,p B y]
 .by_cases s:j=i
  .subst s;rw[i4 Qq]at e;ext e;let(v,l,m):=f.sl j _ _ D;rw[G]at l;ext l;show#[.ref r,G,?_];let nr:=J I;cases k with|own=>let(x,A,z1,z2,z3,_):=m;ext A;show#[r,9,z1,z2,z3,nr]|io=>let(x,A,z1,z2,z3,_):=m;ext A;show#[r,9,z1,z2,z3,nr]|_=>ext hk
  let e0:=O j d w e s;let(v,l,m):=f.sl j d w e0;show#[v,l,m.mv I T1 λQf x A=>?_];let(XZ,QM,z1,_):=m.rt Qf;rw[A]at QM;ext QM;show#[z1,λb e=>p (λz=>?_) e];subst z;show s (f.inj j i d k w u x Qf hk e0 D (by rw[l,A]) G)
 .let(X5,T):=g j1 k1 w1 h l;let(ab,a2):=g j2 k2 w2 y m;show f.inj j1 j2 k1 k2 X5 ab x h y T a2 Y e4
 .by_cases B:a=r
  .subst B;show hr
  show#[b,p B e]
 obtain z|⟨j,w,x,l,m,Y⟩:=z
 .show .inl (.inl (b1 a z))
 show .inl (.inr #[j,w,x,dD j w l,m,Y])
inductive MdS(i:8)(f:U->Option U)(st:aq)(Q:Unit->aq->6):6|mk:∀k u u',k.root=c4->st[i]?\b6 (k,u)->f u\u'->Q () (st.set i (b6 (k,u')))->MdS i f st Q
def i6{f}{st}(h:W (modS i f) st Q):MdS i f st Q:=by
 let(_,b,e,q):=h;unfold modS at e;split at e
 .rename_i k u hs;split at e
  .rename_i hk;cases a:f u with|none=>left|some c=>rw[a]at e;ext e;show#[k,u,c,hk,hs,a,q]
  ext e
 ext e
inductive GtS(i:8)(st:aq)(Q:Kd×U->aq->6):6|mk:∀k u,k≠.A'->st[i]?\b6 (k,u)->Q (if k.root=c4 then .bor i else k,u) st->GtS i st Q
def e_{st}(h:W (dM i) st Q):GtS i st Q:=by
 let(r,a,e,q):=h;unfold dM at e;split at e
 .cases e
 .rename_i k u b hs;ext e;show#[k,u,λz=>b z,hs,q]
 ext e
def Mn(hK:C.K=X.K)(hN:X.N[i]?\x)(hv:PV X.env.scope x)(hd:(x==("__debug__":5))=df)(O5:(x==("__classdict__":5))=df)(ha:PE X a (OY C ma)) (P_:((QX l (j0 [a] X.env)).all (λx=>!x.1)&&(ZC l (V' [] X.env)).all (λx=>x.1.isSome)
   && eL ([a].length+⇑([]:↑Yn)+(if ([]:↑Yn).isEmpty then 0 else 1)<30))=4)
  (O8:(d.endLine==l.line)=4) (y:j0 [a] X.env=[(df,uv a X.env)]) :
  L2.PS X (.Expr (.Call (.Attribute (.Name x px) "append" d) [a] [] l) ab) (PD C ns (dM i >>= λx=>XW x.2 >>= λ_=>ma >>= λr=>lift r >>= λu=>modS i (Ft u) >>= λ_=>pure .nx)):=by
 show PS.weak (iU (tU F.plainAttrs_list F.slot_list_append F.type_list_append lh (br hN hv hd O5) (bY ha dw y) 9 P_ O8 y 9)) ?_;rintro D σ H ⟨A,rfl,rfl,g,h⟩;rw[ai]at h;let(b,B,T_,G,h):=e_ h;let(I,m,n):=g.sl i b B G;show#[I,m,?_];cases B with
 |lst o =>
  let p:aP C A A (if b.root=4 then .bor i else b) (.lst o) I:=by
   by_cases hk:b.root=4
   .rw[if_pos hk];show#[#[b,hk,G],m]
   cases b with
   |loc=>show n
   |any=>show n
   |bor j=>show n.elim
   |A'=>show(T_ 9).elim
   |_=>show absurd 9 hk
  let(J,X1,s,Ut,_):=p.list g;show#[by rw[s];show .inl #[9,X1,hK▸Ut],?_];show aW g h λr c v t w=>?_;rw[ai]at w;let(S',ac,u,sS,L,n1,e,w1,_,_):=iX g t.ok t.nx t.rx.w w;rw[ai]at w1;let(k,u1,u2,hk,hs,f,q):=i6 w1;let O:c.σ[i]?\b6 (.ref J):=by rw[t.hσ,m,s]
  cases u1 with
  |lst Q =>
   erw[Ft]at f;split at f
   .rename_i hz;ext f;let(v',e1,e2):=L.sl i k (.lst Q) hs;let T:=e1;rw[O]at T;ext T;let(r',er,_,_,_,Y,hw,Ri):=e2.rt hk;ext er;let V4:=hw;show#[J,Y,v,s,9,V4,by rw[<-Ri.len];show hz,?_];rw[ao]at q;let(Pk,n2):=Ok.mod   (u':=.lst (Q++[u])) L n1.toNs hk hs O (λa ne=>aj ne) ⟨_,ak⟩ λmv=>#[Y++[v],ak,(Ri.mv mv).snoc (e.mv mv)]
    let z:=q _ 9 Pk n2 (Kept.of t.hσ);rw[<-t.hσ];show z
   ext f
  |_=>ext f
 |_=>rw[ai]at h;show(bp.mp h).elim
def Mo(L:C.K=X.K)(hN:X.N[i]?\x)(hv:PV X.env.scope x)(hd:(x==("__debug__":5))=df)(O5:(x==("__classdict__":5))=df)(ha:PE X a (OY C ma)) (P_:((QX n (j0 [a] X.env)).all (λx=>!x.1)&&(ZC n (V' [] X.env)).all (λx=>x.1.isSome)
   && eL ([a].length+⇑([]:↑Yn)+(if ([]:↑Yn).isEmpty then 0 else 1)<30))=4)
  (O8:(m.endLine==n.line)=4) (O:j0 [a] X.env=[(df,uv a X.env)]) :
  L2.PS X (.Expr (.Call (.Attribute (.Name x px) "extend" m) [a] [] n) ab) (PD C ns (dM i >>= λx=>XW x.2 >>= λ_=>ma >>= λr=>modS i (qc r) >>= λ_=>pure .nx)):=by
 show PS.weak (iU (tU F.plainAttrs_list F.slot_list_extend F.type_list_extend og (br hN hv hd O5) (bY ha dw O) 9 P_ O8 O 9)) ?_;rintro D σ H ⟨Q,rfl,rfl,o,h⟩;rw[ai]at h;let(l,T,T_,Y,h):=e_ h;let(v0,p,s):=o.sl i l T Y;show#[v0,p,?_];cases T with
 |lst u =>
  let y:aP C Q Q (if l.root=4 then .bor i else l) (.lst u) v0:=by
   by_cases hk:l.root=4
   .rw[if_pos hk];show#[#[l,hk,Y],p]
   cases l with
   |loc=>show s
   |any=>show s
   |bor j=>show s.elim
   |A'=>show(T_ 9).elim
   |_=>show absurd 9 hk
  let(a0,X1,A,Ut,_):=y.list o;show#[by rw[A];show .inl #[9,X1,L▸Ut],?_];show aW o h λr c v t w=>?_;rw[ai]at w;let(k,B,u2,hk,hs,d,q):=i6 w;let hσ:c.σ[i]?\b6 (.ref a0):=by rw[t.hσ,p,A]
  let(rk,ru):=r;let G:∃g zs b e,B=.lst g/\v=.ref b/\(Py C.K c.H b e\/Pu C.K c.H b e)/\au C c.S c.H zs e/\-g+ -zs<=ei/\u2=.lst (g++zs):=by
   cases ru with
   |lst zs =>
    cases B with
    |lst g =>
     erw[qc]at d;split at d
     .rename_i f;ext d;let(b,e,ev,I,J):=t.rx.list t.ok;show#[_,_,b,e,9,ev,.inl I,d9 f.2 J,f.1,9]
     ext d
    |_=>simp[qc]at d
   |tup zs =>
    cases B with
    |lst g =>
     erw[qc]at d;split at d
     .rename_i f;ext d;let(b,e,ev,I,J):=t.rx.tuple t.ok;show#[_,_,b,e,9,ev,.inr I,d9 f.2 J,f.1,9]
     ext d
    |_=>simp[qc]at d
   |_=>simp[qc]at d
  let(g,zs,b,e,rfl,rfl,hB,f,hl,rfl):=G;let(v',e1,e2):=t.ok.sl i k (.lst g) hs;rw[hσ]at e1;ext e1;let(r',er,_,_,_,ws,hw,Ri):=e2.rt hk;ext er;show#[a0,b,ws,e,A,9,hw,L▸hB,by rw[<-Ri.len,<-f.len];show hl,?_];rw[ao]at q;let(Pk,n2):=Ok.mod (c:=c)  (u':=.lst _) t.ok t.nx.toNs hk hs hσ (λa ne=>aj ne) ⟨_,ak⟩ λmv=>#[ws++e,ak,(Ri.mv mv).append (f.mv mv)]
  let z:=q _ 9 Pk n2 (Kept.of t.hσ);rw[<-t.hσ];show z
 |_=>show(bp.mp h).elim
def qX.or(h:qX X t)(g:qX X j):qX X (λo i v H Q=>t o i v H Q\/j o i v H Q):=λa s σ H o i v b c u Q I d e f q=>q.elim (h a s σ H o i v b c u Q I d e f) (g a s σ H o i v b c u Q I d e f)
def set_dict(d:X.A.units+1<VC):qX X (λo i v H Q=>∃a b,o=.ref a/\zB H a i v b/\Q b):=by rintro c s σ H o i v k l u Q I e f h ⟨a,b,rfl,g,q⟩;ext e;show zD d I g f h λm j=>#[b,j,q]
def Cj{S}{a:↑(Key×V)}(c:a.map (·.1)=b.map tA)(f:au C S H d (a.map (·.2)))(i:Rep C S H u v):(putK a (tA y) v).map (·.1)=(dput b d y u).1.map tA/\au C S H (dput b d y u).2 ((putK a (tA y) v).map (·.2)):=by
 let g:(a.any λkv=>eL (kv.1=(tA y:Key)))=eL (y∈b):=by rw[ka];show(eZ (x:=y) c f).2
 unfold putK dput;rw[g];by_cases e:y∈b
 .rw[if_pos (by exists e),if_pos e];constructor
  .rw[k9];rw[<-c];apply YH;intro p _;change(if p.1=tA y then(p.1,v) else p).1=p.1;split<;>rfl
  clear g e;induction a generalizing b d with
  |nil =>
   let:b=[]:=by exists c.symm
   subst this;simp[au]
  |cons p a j =>
   cases b with
   |nil=>simp at c
   |cons k b =>
    cases d with
    |nil=>simp[au]at f
    |cons m d =>
     rw[lx,lx,Ò]at c;let(n,o,h,q,l):=f;rw[lx]at h;ext h;rw[lx,ĉ,lx,lx];show#[_,_,9,?_,j c.2 l];by_cases hk:k=y
     .simp_all
     left
 rw[if_neg (by exists e),if_neg e];show#[by left,by rw[ro];show f.snoc i]
def Mp(hP:C.P=X.prog)(hw:C.w=X.w)(hK:C.K=X.K)(hu:X.A.units+60<VC)(hN:X.N[i]?\x)(hv:PV X.env.scope x)(hd:(x==("__debug__":5))=df)(O5:(x==("__classdict__":5))=df) (ha:PE X a (OY C ma)) (hb:PE X b (OY C mb)) (hs:ģ [.Subscript (.Name x Y) b p] a ab.line X.env=pure df) (Vp:Ε [.Subscript (.Name x Y) b p] a X.env=pure ef) (ac:∀v,ç (.Subscript (.Name x Y) b p) X.env v=(do
   let ov <-VE [v] (uv (.Name x Y) X.env)
   let iv <-VE [v,ov] (uv b X.env)
   ĕ p
   VE [v,ov,iv] (õ ov iv v)
   Ŀ [v,ov,iv] [])) :
  L2.PS X (.Assign [.Subscript (.Name x Y) b p] a ab) (PD C ns (ma >>= λr=>dM i >>= λ_=>mb >>= λx=>c8 [r,x] >>= λg=>modS i (BW g) >>= λ_=>pure .nx)):=by
 show PS.weak (A0 ha (AY (br hN hv hd O5) hb (qX.or set_list (set_dict (X:=X) 7)) ac) hs Vp 9) ?_;rintro D σ H ⟨c0,rfl,rfl,ok,h⟩;show aW ok h λr c v t w=>?_;rw[ai]at w;let(k0,u0,T_,Qg,w):=e_ w;let(v0,e0,RX):=t.ok.sl i k0 u0 Qg;show#[v0,by rw[<-t.hσ];show e0,?_];rw[ai]at w;show#[c,t.hσ,9,t.ok,w.mono λy as w2 f G e3 e4 Pk n2 r2=>?_];subst e4;rw[ai]at w2;let al:=t.nx.trans n2;let rws:fh C c0 f [r,y] [v,G]:=#[v,[G],9,t.rx.w.on t.ok n2 (e3.trans t.hσ.symm),#[G,[],9,(r2.w).from t.nx,9,λ_ i r' v' e _=>by simp at e],λhk i r' v' e5 e6 Qf=>by cases i with|zero=>simp at e5 e6;subst e5 e6;show oB t.rx.w r2.w hk Qf|succ i=>simp at e5]
 let(n,J,g,sS,OU,n1,l,w1):=iA ok Pk al rws w2;rw[ai]at w1;let(k,u1,u2,hk,QS,d,q):=i6 w1;rw[ao]at q;let hσ:f.σ[i]?\b6 v0:=by rw[e3,<-t.hσ];show e0
 let(v',e1,e2):=OU.sl i k u1 QS;let P5:f.σ[i]?\b6 v':=e1;rw[hσ]at P5;ext P5;let(I,er,z1,z2,z3,m):=e2.rt hk;subst er;let am:({f with S:=n,st:=J }:Cf).σ[i]?\b6 (.ref I):=hσ;obtain⟨X5,s,ew,L,a1,a2,a3,O,ar⟩:∃u s,g=[u,s]/\Rep C n f.H u v/\∃(_:Unit) (_:Unit),True/\Rep C n f.H s G/\True:=by
  cases g with
  |nil=>simp[au]at l|cons u g =>
   let(_,_,e,q1,q2):=l;ext e;cases g with
   |nil=>simp[au]at q2
   |cons u' g =>
    let(_,_,e,q3,q4):=q2;ext e;cases g with
    |nil=>show#[u,u',9,q1,(),(),ttt,q3,ttt]
    |cons _ _=>let(_,_,e,_):=q4;ext e
 subst ew;rw[show BW [X5,s] u1=ix s X5 u1 from rfl]at d;let Q:∀{B:Hp} ,(∀a,a≠I->B a=f.H a)->(∃o,B I\o)->(Mv n f.H n B->fC C n B I u2)->D.nx c0.σ B:=λ{B} Pp hr an=>by let(Rj,n3):=Ok.mod (c:={f with S:=n,st:=J }) (H':=B) (u':=u2) OU n1.toNs hk QS am Pp hr an;let z:=q _ 9 Rj n3 (Kept.of e3);rw[<-e3];show z
 cases u1 with
 |lst xs =>
  cases s with
  |int j=>erw[ix,i0]at d;let(j',hj,rfl):=d;let(vs,h1,T):=m;let ey:G=.int j:=O;show .inl #[I,vs,j,j',9,ey,h1,by rw[<-T.len];show hj,?_];show Q (λa ne=>aj ne) ⟨_,ak⟩ λmv=>#[vs.set j' v,ak,(T.mv mv).set j' (L.mv mv)]
  |_=>simp[ix]at d
 |OT ks vs =>
  cases s with
  |str y' =>
   erw[ix]at d;split at d
   .rename_i hz;ext d;let(ap,h1,T,h3):=m;let ey:G=.str y':=O;subst ey;let hl:-ap=-ks:=by let:=congrArg Y4 T;exists this
    show .inr #[I,_,9,zB.k (k:=tA y') h1 (by rw[hl];show hz),?_];show Q (λa ne=>aj ne) ⟨_,ak⟩ λmv=>?_;let(g1,g2):=Cj (y:=y') T h3 L;show#[_,ak,g1,g2.mv mv]
   ext d
  |_=>simp[ix]at d
 |_=>simp[ix]at d
def Ok.slot(d:Ok C c)(e:k≠.A')(hs:c.st[i]?\b6 (k,u)):∃v,c.σ[i]?\b6 v/\aP C c c (if k.root=4 then .bor i else k) u v:=by
 let(f,b,a):=d.sl i k u hs;show#[f,b,?_];by_cases hk:k.root=4
 .rw[if_pos hk];show#[#[k,hk,hs],b]
 cases k with|loc=>show a|any=>show a|bor j=>show a.elim|A'=>show(e 9).elim|_=>show absurd 9 hk
end TM
namespace TM
open PySem L2 PyProof.Rows PySem.W
def Mq(g:X.calm=4)(i:Gl X x)(j:X.mg x\.ref f)(k:(x==("__debug__":5))=df)(l:excIn X.K f VW "ValueError.__new__"=4)(m:PE X a (OY C n))(o:j0 [a] X.env=[(df,uv a X.env)]) (q:∀c,C.xw (.str x) c->∀b σ s e d,Inv X b σ c s->cy X.prog X.w X.stack c s e f ef .none c d->X.xe (.ref e) d):L2.PS X (.Raise (b6 (.Call (.Name x p) [a] [] z)) ef r) (PD C A (n >>= λ_=>pure (.rt .io (.str x)))):=by show PS.weak (BG g i j k l m o) ?_;rintro D σ H ⟨B,rfl,rfl,u,h⟩;show aW u h λx y v t w=>?_;rw[ao]at w;show λb s e d I F=>q _ (w y 9 t.ok t.nx (Kept.of t.hσ)) b _ s e d I F
def Ok.kill(v)(b:Ok C c)(p:c.st[j]?\ef):Ok C {c with σ:=c.σ.set j v}/\Nx c {c with σ:=c.σ.set j v}:=by
 let f:∀(i:8) (r:Kd×U),c.st[i]?\b6 r->(c.σ.set j v)[i]?=c.σ[i]?:=λi r e=>ko λz=>by subst z;rw[p]at e;ext e
 let m:∀a,({c with σ:=c.σ.set j v}:Cf).R1 a->c.R1 a:=λa ⟨i,k,u,hk,d,g⟩=>#[i,k,u,hk,d,(f i _ d)▸g]
 let s:Sd C {c with σ:=c.σ.set j v}:=b.dd.of 9 (λi u e=>#[e,f i _ e]) (λa z=>.inl (m a z)) (.up λ_ z=>z) λi a z=>#[(b.root (.inr #[i,z])).1,λo q=>q]
 show#[#[b.same,b.QU,b.par,b.io,by simp[b.len],λi k u e=>?_,λi n k t u w r hk x d g l y=>?_,s],#[λ_ _ h _=>h,λ_ o h=>#[o,h],λa z=>.inl ?_,λ_ h=>h,λ_ h=>.inl h]]
 .let(v,q,z):=b.sl i k u e;show#[v,(f i _ e).trans q,z]
 .show b.inj i n k t u w r hk x d g ((f i _ d)▸l) ((f n _ g)▸y)
 show z.imp (m a) λ⟨i,u,r,d,g,l⟩=>#[i,u,r,d,(f i _ d)▸g,l]
end TM
namespace TM
open PySem L2 PyProof.Rows
def Ok.FU(d:Ok C c)(n:Ns Q c)(T:c.st[i]?\b6 (.A',u))(D:c.σ[i]?\b6 (.ref r))(Pp:∀a,¬c.RD i a->H' a=c.H a)(q:∀a o,c.H a\o->∃L,H' a\L) (Y:Mv c.S c.H c.S H'->bf C c.S H' r as' u') (ab:∀a∈as',a∈c.kid i\/(¬c.R a/\Q.H a=ef)) :Ok C {c with H:=H',st:=c.st.set i (b6 (.A',u')),kid:=λj=>if j=i then as' else c.kid j}/\Ns Q {c with H:=H',st:=c.st.set i (b6 (.A',u')),kid:=λj=>if j=i then as' else c.kid j}:=by
 let Qq:i< -c.st:=(gr.mp T).1;let N:∀{a},c.RD i a->¬c.S a/\¬C.QJ a/\(C.H₀ a=ef\/C.IO a)/\∃o,c.H a\o/\¬Tp o:=λz=>d.root (.inr #[i,z]);let h0:∀{a},c.RD i a->C.H₀ a=ef\/C.IO a:=λ⟨u1,r1,g,b,e3⟩=>(bf.fr (d.dd.kd i u1 r1 g b) _ (gb.mpr e3)).2.2;let s:∀{a:ke} {o:HO},¬c.RD i a->c.H a\o->H' a\o:=λz e=>by rw[Pp _ z];show e
 let O:Mv c.S c.H c.S H':=#[λ_ z=>z,λa o e t=>s (λz=>by let(_,_,_,L,l,nt):=N z;rw[e]at l;ext l;show nt t) e,λa o z e=>s (λm=>(N m).1 z) e]
 let T1:Mv (PS C c.S) c.H (PS C c.S) H':=#[λ_ z=>z,O.WZ,λa o z e=>s (λm=>z.elim (N m).2.1 (N m).1) e]
 let G:∀(j:8) k w,(c.st.set i (b6 (.A',u')))[j]?\b6 (k,w)->j≠i->c.st[j]?\b6 (k,w):=λj k w e ne=>by rw[ko (sg ne)]at e;show e
 let S3:∀(j:8) k w,k.root=4->(c.st.set i (b6 (.A',u')))[j]?\b6 (k,w)->c.st[j]?\b6 (k,w):=λj k w hk e=>by
  by_cases f:j=i
  .subst f;rw[i4 Qq]at e;ext e hk
  show G j k w e f
 let b1:∀a,({c with H:=H',st:=c.st.set i (b6 (.A',u')),kid:=λj=>if j=i then as' else c.kid j}:Cf).R1 a->c.R1 a:=λa ⟨j,k,w,hk,g,b⟩=>#[j,k,w,hk,S3 j k w hk g,b]
 let I:∀j a,({c with H:=H',st:=c.st.set i (b6 (.A',u')),kid:=λj=>if j=i then as' else c.kid j}:Cf).RD j a->c.RD j a\/(j=i/\¬c.R a/\Q.H a=ef):=λj a Pj=>by
  let(w,h,g,b,e3):=Pj;by_cases f:j=i
  .subst f;let J:c.σ[j]?\b6 (.ref h):=b;rw[D]at J;ext J;obtain rfl|e3:=e3
   .show .inl #[u,_,T,D,.inl 9]
   let Tz:a∈as':=by exists e3
   obtain z|z:=ab a Tz
   .show .inl #[u,_,T,D,.inr z]
   show .inr #[9,z]
  let Tz:a=h\/a∈c.kid j:=by simpa[f] using e3
  show .inl #[w,h,G j _ w g f,b,Tz]
 show#[#[λa o e z=>s (λm=>(h0 m).elim (λy=>by rw[y]at e;ext e) z) (d.same a o e z),λa z=>?_,d.par,λa z=>?_,by simp[d.len],λj k w e=>?_,λA x k1 k2 w1 w2 h h1 h2 g b e3 e4=>d.inj A x k1 k2 w1 w2 h h1 h2 (S3 A k1 w1 h1 g) (S3 x k2 w2 h2 b) e3 e4,#[λj w h g b=>?_,λA x a z1 z2=>?_,λj a z1 z2=>?_]],#[λa o e z=>?_,λa o e=>?_,λa z=>?_,n.sub,n.new]]
 .let(q1,o,q2):=d.QU a z;show#[q1,q a o q2]
 .let(q1,o,q2):=d.io a z;show#[q1,q a o q2]
 .by_cases f:j=i
  .subst f;rw[i4 Qq]at e;ext e;show#[.ref r,D,r,9]
  let(v,g,b):=d.sl j k w (G j k w e f);show#[v,g,b.mv O T1 λhk h er=>?_];let(XZ,QM,z1,_):=b.rt hk;rw[er]at QM;ext QM;show#[z1,λo l=>s (λz=>d.dd.d1 i h z #[j,k,w,hk,G j k w e f,by rw[g,er]]) l]
 .by_cases f:j=i
  .subst f;rw[i4 Qq]at g;ext g;let J:c.σ[j]?\b6 (.ref h):=b;rw[D]at J;ext J;let z:=Y O;exists z
  let P5:=G j _ w g f;let Qf:(if j=i then as' else c.kid j)=c.kid j:=if_neg f;change bf C c.S H' h (if j=i then as' else c.kid j) w;rw[Qf];show bf.mv O (λa ha=>#[(d.root (.inr #[j,w,h,P5,b,gb.mp ha])).1,λo l=>s (λz=>f (d.dd.dj j i a #[w,h,P5,b,gb.mp ha] z)) l]) (d.dd.kd j w h P5 b)
 .rcases I A a z1 with p|⟨rfl,p,_⟩
  .rcases I x a z2 with B|⟨rfl,B,_⟩
   .show d.dd.dj A x a p B
   show(B (.inr #[A,p])).elim
  obtain B|⟨rfl,B,_⟩:=I x a z2
  .show(p (.inr #[x,B])).elim
  rfl
 .rcases I j a z1 with p|⟨rfl,p,_⟩
  .show d.dd.d1 j a p (b1 a z2)
  show p (.inl (b1 a z2))
 .show s (λm=>by
   obtain y|y:=n.roots a (.inr #[i,m])
   .show z y
   rw[e]at y;ext y) (n.keep a o e z)
 .let(L,l):=n.there a o e;show q a L l
 obtain z|⟨j,z⟩:=z
 .show n.roots a (.inl (b1 a z))
 obtain y|⟨_,_,y⟩:=I j a z
 .show n.roots a (.inr #[j,y])
 show .inr y
def Ok.newD(l:Ok C c)(A:c.H p=ef)(t:i< -c.σ):Ok C {c with H:=upd c.H p (.dK []),σ:=c.σ.set i (b6 (.ref p)),st:=c.st.set i (b6 (.A',.OT [] [])),kid:=λj=>if j=i then [] else c.kid j}/\Ns c {c with H:=upd c.H p (.dK []),σ:=c.σ.set i (b6 (.ref p)),st:=c.st.set i (b6 (.A',.OT [] [])),kid:=λj=>if j=i then [] else c.kid j}:=by
 let(n,Q):=l.lay (o:=.dK []) A;let(q1,q2,q3,q4,B):=l.kB A;let D:i< -c.st:=by rw[l.len];show t
 let u:∀(j:8) k w,(c.st.set i (b6 (.A',.OT [] [])))[j]?\b6 (k,w)->j≠i->c.st[j]?\b6 (k,w):=λj k w e G=>by rw[ko (sg G)]at e;show e
 let q:∀(j:8),j≠i->(c.σ.set i (b6 (.ref p)))[j]?=c.σ[j]?:=λj G=>ko (sg G);let I:∀(j:8) k w,k.root=4->(c.st.set i (b6 (.A',.OT [] [])))[j]?\b6 (k,w)->j≠i/\c.st[j]?\b6 (k,w):=λj k w hk e=>by
  by_cases b:j=i
  .subst b;rw[i4 D]at e;ext e hk
  show#[b,u j k w e b]
 let J:∀a,({c with H:=upd c.H p (.dK []),σ:=c.σ.set i (b6 (.ref p)),st:=c.st.set i (b6 (.A',.OT [] [])),kid:=λj=>if j=i then [] else c.kid j}:Cf).R1 a->c.R1 a:=λa L=>by let(j,k,w,hk,d,f):=L;let(b,N):=I j k w hk d;show#[j,k,w,hk,N,by rw[<-q j b];show f]
 let r:∀j a,({c with H:=upd c.H p (.dK []),σ:=c.σ.set i (b6 (.ref p)),st:=c.st.set i (b6 (.A',.OT [] [])),kid:=λj=>if j=i then [] else c.kid j}:Cf).RD j a->(j≠i/\c.RD j a)\/(j=i/\a=p):=λj a L=>by
  let(w,g,d,f,e3):=L;by_cases b:j=i
  .subst b;let s:(c.σ.set j (b6 (.ref p)))[j]?\b6 (.ref g):=f;rw[i4 t]at s;ext s;obtain rfl|e3:=e3
   .show .inr #[9,9]
   simp at e3
  let Tz:a=g\/a∈c.kid j:=by simpa[b] using e3
  show .inl #[b,w,g,u j _ w d b,by rw[<-q j b];show f,Tz]
 show#[#[n.same,n.QU,n.par,n.io,by simp[l.len],λj k w e=>?_,λm h T Y w1 w2 g h1 h2 d f e3 e4=>?_,#[λj w g d f=>?_,λm h a z1 z2=>?_,λj a z1 z2=>?_]],#[Q.keep,Q.there,λa z=>?_,λ_ z=>z,λ_ z=>.inl z]]
 .by_cases b:j=i
  .subst b;rw[i4 D]at e;ext e;show#[.ref p,i4 t,p,9]
  let(v,d,f):=n.sl j k w (u j k w e b);show#[v,(q j b).trans d,f]
 .let(TB,a1):=I m T w1 h1 d;let(Ua,a2):=I h Y w2 h2 f;show l.inj m h T Y w1 w2 g h1 h2 a1 a2 ((q m TB).symm.trans e3) ((q h Ua).symm.trans e4)
 .by_cases b:j=i
  .subst b;rw[i4 D]at d;ext d;let s:(c.σ.set j (b6 (.ref p)))[j]?\b6 (.ref g):=f;rw[i4 t]at s;ext s;change bf C c.S (upd c.H p (.dK [])) p (if j=j then [] else c.kid j) (.OT [] []);rw[if_pos rfl];show#[[],ak,9,9,by simp,λa ha=>by rw[mN.mp ha];show#[q2,q3,q1],9]
  let N:=u j _ w d b;let z:=n.dd.kd j w g N ((q j b).symm.trans f);change bf C c.S (upd c.H p (.dK [])) g (if j=i then [] else c.kid j) w;rw[if_neg b];show z
 .rcases r m a z1 with⟨_,x⟩|⟨rfl,rfl⟩
  .rcases r h a z2 with⟨_,O⟩|⟨rfl,rfl⟩
   .show l.dd.dj m h a x O
   show(B (.inr #[m,x])).elim
  obtain⟨_,O⟩|⟨rfl,_⟩:=r h a z2
  .show(B (.inr #[h,O])).elim
  rfl
 .rcases r j a z1 with⟨_,x⟩|⟨rfl,rfl⟩
  .show l.dd.d1 j a x (J a z2)
  show B (.inl (J a z2))
 obtain z|⟨j,z⟩:=z
 .show .inl (.inl (J a z))
 obtain⟨_,y⟩|⟨_,rfl⟩:=r j a z
 .show .inl (.inr #[j,y])
 show .inr A
theorem eE.rep{S d}(hs:∀a,S a->d a):∀{e}{c},(∀a∈c,d a)->eE C S H e c->au C d H e (c.map V.ref)|[],c,_,h=>by ext h;rfl|u::e,c,f,h=>by let(a,g,n,i,rfl,rfl,j,k,l):=h;show#[_,_,9,#[a,i,9,.inl #[f a 7,.inl j],k.mv (.up hs)],eE.rep hs (λb m=>f b (by simp[m])) l]
def Ok.Oj(b:Ok C c)(n:Nx c0 c)(G:∃ks us,u=.OT ks us)(Y:c.st[i]?\b6 (.A',u))(t:c.σ[i]?\b6 (.ref r)):Ok C {c with S:=λa=>c.S a\/a∈c.kid i,st:=c.st.set i (b6 (.own,u))}/\Nx c0 {c with S:=λa=>c.S a\/a∈c.kid i,st:=c.st.set i (b6 (.own,u))}:=by
 let Qq:i< -c.st:=(gr.mp Y).1;let(ks,us,G):=G;let rd:=b.dd.kd i u r Y t;let fr:=bf.Z5 (G▸rd);let f:∀a,(a=r\/a∈c.kid i)->c.RD i a:=λa z=>#[u,r,Y,t,z]
 let up:Mv c.S c.H (λa=>c.S a\/a∈c.kid i) c.H:=.up λa=>.inl;let ab:Mv (PS C c.S) c.H (PS C λa=>c.S a\/a∈c.kid i) c.H:=.up λa z=>z.imp id .inl;let x:r∉c.kid i/\fC C (λa=>c.S a\/a∈c.kid i) c.H r u:=by subst G;let(ac,I,J,h3,h4,h5,h6):=rd;show#[(vl.mp h4).1,ac,I,J,?_];rw[h3];show h6.rep (λa=>.inl) λa L=>.inr L
 let s:∀(j:8) k w,(c.st.set i (b6 (.own,u)))[j]?\b6 (k,w)->j≠i->c.st[j]?\b6 (k,w):=λj k w e ne=>by rw[ko (sg ne)]at e;show e
 let b1:∀a,({c with S:=λa=>c.S a\/a∈c.kid i,st:=c.st.set i (b6 (.own,u))}:Cf).R1 a->c.R1 a\/a=r:=λa Pj=>by
  let(j,k,w,hk,g,h):=Pj;by_cases d:j=i
  .subst d;let Qz:c.σ[j]?\b6 (.ref a):=h;rw[t]at Qz;ext Qz;show .inr 9
  show .inl #[j,k,w,hk,s j k w g d,h]
 let N:∀j a,({c with S:=λa=>c.S a\/a∈c.kid i,st:=c.st.set i (b6 (.own,u))}:Cf).RD j a->j≠i/\c.RD j a:=λj a Pj=>by
  let(w,l,g,h,A):=Pj;by_cases d:j=i
  .subst d;rw[i4 Qq]at g;ext g
  show#[d,w,l,s j _ w g d,h,A]
 show#[#[b.same,λa z=>?_,b.par,b.io,by simp[b.len],λj k w e=>?_,λp m O Q w1 w2 l I J g h A e4=>?_,#[λj w l g h=>?_,λp m a z1 z2=>b.dd.dj p m a (N p a z1).2 (N m a z2).2,λj a z1 z2=>?_]],#[#[n.keep,n.there,λa z=>?_,λa z=>.inl (n.sub a z),λa z=>?_]]]
 .rcases z with z|z
  .show b.QU a z
  let(o,ho,_):=bf.there rd a (ib _ z);show#[(fr a (ib _ z)).2.2,o,ho]
 .by_cases d:j=i
  .subst d;rw[i4 Qq]at e;ext e;let(q1,q2,q3):=fr r (ki ..);show#[.ref r,t,r,9,λz=>z.elim q1 x.1,q2,q3,x.2]
  let(v,g,h):=b.sl j k w (s j k w e d);show#[v,g,h.mv up ab λhk l er=>?_];let(XZ,QM,z1,_):=h.rt hk;rw[er]at QM;ext QM;show#[λz=>z.elim z1 λz=>b.dd.d1 i l (f l (.inr z)) #[j,k,w,hk,s j k w e d,by rw[g,er]],λo q=>q]
 .by_cases T:p=i
  .by_cases B:m=i
   .rw[T,B]
   subst T;let Tz:c.σ[p]?\b6 (.ref l):=A;rw[t]at Tz;ext Tz;show(b.dd.d1 p r (f r (.inl 9)) #[m,Q,w2,J,s m Q w2 h B,e4]).elim
  by_cases B:m=i
  .subst B;let D:c.σ[m]?\b6 (.ref l):=e4;rw[t]at D;ext D;show(b.dd.d1 m r (f r (.inl 9)) #[p,O,w1,I,s p O w1 g T,A]).elim
  show b.inj p m O Q w1 w2 l I J (s p O w1 g T) (s m Q w2 h B) A e4
 .by_cases d:j=i
  .subst d;rw[i4 Qq]at g;ext g
  let P5:=s j _ w g d;show bf.mv up (λa L=>#[λz=>z.elim (b.root (.inr #[j,w,l,P5,h,gb.mp L])).1 λz=>d (b.dd.dj j i a #[w,l,P5,h,gb.mp L] (f a (.inr z))),λo q=>q]) (b.dd.kd j w l P5 h)
 .let(d,y):=N j a z1;obtain z|z:=b1 a z2
  .show b.dd.d1 j a y z
  subst z;show d (b.dd.dj j i a y (f a (.inl 9)))
 .rcases z with z|⟨j,z⟩
  .rcases b1 a z with z|rfl
   .show n.roots a (.inl z)
   show n.roots a (.inr #[i,f a (.inl 9)])
  show n.roots a (.inr #[j,(N j a z).2])
 obtain z|z:=z
 .show n.new a z
 obtain y|y:=n.roots a (.inr #[i,f a (.inr z)])
 .show .inr (.inl y)
 show .inr (.inr y)
def FV(l:X.N[i]?\x)(m:PV X.env.scope x)(n:(x==("__debug__":5))=df)(o:(x==("__classdict__":5))=df):PE X (.Name x f) (OY C (BP i)):=by
 let d:=ng (C:=C) (pos:=f) l m n o;rintro b s σ H Q I ⟨c,rfl,rfl,g,r,j,e,h⟩;unfold BP at e;split at e
 .rename_i u w hs;ext e;let(v,k,y,rfl):=g.sl i _ _ hs;let(p,q):=g.Oj (Nx.refl c) #[_,_,9] hs k;let t:=(gr.mp hs).1;show br l m n o b s _ c.H Q I #[_,k,h {c with S:=λa=>c.S a\/a∈c.kid i,st:=c.st.set i _} _ 9 9 p q ⟨⟨.own,9,i4 t⟩,k⟩]
 show d b s _ c.H Q I #[c,9,9,g,r,j,e,h]
def i_{st}(h:W (kC i) st Q):∃a b,st[i]?\b6 (.A',.OT a b)/\Q (a,b) st:=by
 let(r,c,e,q):=h;unfold kC at e;split at e
 .rename_i a b hs;ext e;show#[a,b,hs,q]
 ext e
def ja{st}(h:W (ia x) st Q):∃y,x.2=.str y/\Q y st:=by
 unfold ia at h;split at h
 .rename_i y e;rw[ao]at h;show#[y,e,h]
 show(bp.mp h).elim
inductive DcO(C:Ct)(c:Cf)(i:8)(ks:↑5)(us:↑U):6|mk:∀(r:ke) (kvs:↑(Key×V)),c.σ[i]?\b6 (.ref r)->c.H r\.dK kvs->kvs.map (·.1)=ks.map tA->kvs.map (·.2)=(c.kid i).map V.ref->(r::c.kid i).Nodup->eE C c.S c.H us (c.kid i)->(∀y:Str,(fe kvs (tA y)).isSome=eL (y∈ks))->(∀(y:Str) (u:U),fg ks us y\u->∃v,fe kvs (tA y)\v/\Rep C (λa=>c.S a\/a∈c.kid i) c.H u v)->DcO C c i ks us
def Ok.OT(f:Ok C c)(g:c.st[i]?\b6 (.A',.OT m h)):DcO C c i m h:=by
 let(v,e,r,rfl):=f.sl i _ _ g;let(b,n,d,j,o,q,k):=f.dd.kd i _ r g e;let l:au C (λa=>c.S a\/a∈c.kid i) c.H h (b.map (·.2)):=by rw[j];show k.rep (λa=>.inl) λa p=>.inr p
 show#[r,b,e,n,d,j,o,k,λy=>(eZ  d l).2,λy=>(eZ  d l).1]
def uJ{k:5->↑5 ×↑U->M β}{b}{Z:V->V->Hp->6}(p:Ok C f)(h:W (q >>= λx=>ia x >>= λy=>kC i >>= λd=>k y d) f.st b) (s:∀c y g j r a,c.σ=f.σ->Ok C c->Nx f c->c.H r\.dK a->(fe a (tA y)).isSome=eL (y∈g)->W (k y (g,j)) c.st b->Z (.str y) (.ref r) c.H) :OY C q f.σ f.H λv t=>∃m,f.σ[i]?\b6 m/\Z v m t:=by show#[f,9,9,p,?_];rw[ai]at h;show W.mono h λx u w c v o hs l n r=>?_;subst hs;let(G,I):=x;rw[ai]at w;let(y,e,w1):=ja w;clear w;subst e;let ev:=r.str l;subst ev;rw[ai]at w1;let(g,j,hs,w):=i_ w1;let(z,a,A,B,_,_,_,_,D,_):=l.OT hs;show#[_,by rw[<-o];show A,s c y g j z a o l n B (D y) w]
def JK(a:Bool):CmpOp:=if a=4 then .NotIn else .In
def JL(g:∀j,k j=4->j≠i)(l:X.N.Nodup)(d:X.N[i]?\x)(m:Loc X.env.scope x)(n:X.fn x=4\/X.env.scope.names.lookup x\.local) (hs:WQ (.Dict [] [] p) (b6 (.Name x a)) c.line X.env=pure df):L2.PS X (.Assign [.Name x a] (.Dict [] [] p) c) (PD C k (Hm i >>= λ_=>pure .nx)):=by
 rintro b s σ H D I ⟨f,rfl,rfl,o,h⟩;let r:i< -f.σ:=by rw[I.len];show(gr.mp d).1
 show qY l d m tX hs n b s _ f.H D I λq t=>?_;let(u,v):=o.newD t r;rw[ai]at h;let(_,y,e,w):=h;ext e;rw[ao]at w;show w _ 9 u v #[λj z=>ko (sg (g j z)),by simp]
def FW(T:X.A.units+60<VC)(o:X.N[i]?\x)(p:PV X.env.scope x)(q:(x==("__debug__":5))=df)(t:(x==("__classdict__":5))=df)(u:PE X a (OY C D))(v:Á (JK e) (.Name x G)=df):PT X (.Compare a [JK e] [.Name x G] J) (Qu C (D >>= λx=>ia x >>= λy=>kC i >>= λd=>pure (Z7 e y d.1))):=by rintro b s σ H Q I ⟨z,rfl,rfl,B,h⟩;cases e with|false=>show AU (IM 7 u (br o p q t)) v b s _ z.H Q I (uJ  B h λc y L O r f g j n l m w=>?_);rw[ao]at w;show#[r,_,9,ij.k (k:=tA y) l,?_];rw[m];show#[_,9,w c g 9 j n]|true=>show AU (zE 7 u (br o p q t)) v b s _ z.H Q I (uJ  B h λc y L O r f g j n l m w=>?_);rw[ao]at w;show#[r,_,9,ij.k (k:=tA y) l,?_];rw[m];show#[_,9,w c g 9 j n]
theorem eE.snoc{S}{a}(d:H a\.lst f)(g:au C S H i f):∀{c}{b},eE C S H c b->eE C S H (c++[.lst i]) (b++[a])|[],b,h=>by ext h;show#[a,[],i,f,9,9,d,g,9]|u::c,b,h=>by let(j,k,l,m,rfl,e,n,o,p):=h;show#[j,_,l,m,9,e,n,o,eE.snoc d g p]
def wB{st}(h:W (oy i y r) st Q):∃b a c,r=(.own,.lst b)/\st[i]?\b6 (.A',.OT a c)/\y∉a/\-a<ei/\Q () (st.set i (b6 (.A',.OT (a++[y]) (c++[.lst b])))):=by
 let(k,u):=r;cases k<;>cases u<;>first|show(bp.mp h).elim|skip
 rename_i b;let(_,f,e,q):=h;unfold oy at e
 dsimp only at e
 split at e
 .rename_i a c hs;split at e
  .rename_i d;ext e;show#[b,a,c,9,hs,d.1,d.2,q]
  ext e
 ext e
def JM{i}{x}{l}(hu:X.A.units+60<VC)(hN:X.N[i]?\x)(hv:PV X.env.scope x)(hd:(x==("__debug__":5))=df)(O5:(x==("__classdict__":5))=df) (ha:PE X a (OY C ma)) (G:PE X b (OY C mb)) (hs:ģ [.Subscript (.Name x l) b p] a I.line X.env=pure df) (Vp:Ε [.Subscript (.Name x l) b p] a X.env=pure ef) (J:∀v,ç (.Subscript (.Name x l) b p) X.env v=(do
   let s <-VE [v] (uv (.Name x l) X.env)
   let L <-VE [v,s] (uv b X.env)
   ĕ p
   VE [v,s,L] (õ s L v)
   Ŀ [v,s,L] [])) :
  L2.PS X (.Assign [.Subscript (.Name x l) b p] a I) (PD C ns (ma >>= λr=>kC i >>= λ_=>mb >>= λx=>ia x >>= λy=>oy i y r >>= λ_=>pure .nx)):=by
 show PS.weak (A0 ha (AY (br hN hv hd O5) G (set_dict (X:=X) 7) J) hs Vp 9) ?_;rintro D σ H ⟨c0,rfl,rfl,ok,h⟩;show aW ok h λr c v t w=>?_;rw[ai]at w;let(ab,ac,Qg,w):=i_ w;let(r0,Vq,e0,g0,_):=t.ok.OT Qg;show#[.ref r0,by rw[<-t.hσ];show e0,?_];rw[ai]at w;show#[c,t.hσ,9,t.ok,w.mono λy al w2 O vy u e4 B n2 r2=>?_];subst e4;rw[ai]at w2;let(ky,uy):=y;let(y,ey,w3):=ja w2
 dsimp only at ey r2
 subst ey;let ev:vy=.str y:=r2.str B;subst ev;rw[ai]at w3;let(us,ks,vs,Q,g,XJ,m,q):=wB w3;subst Q;rw[ao]at q;let(n,d,f,g1,g2,g3,g4,g5,g6,_):=B.OT g;let Q:n=r0:=by rw[u,<-t.hσ,e0]at f;ext f;rfl
 subst Q;let(j,rfl,k1,k2,k3,PH,k4,k5):=t.rx.w.on t.ok n2.toNs (u.trans t.hσ.symm);let T:=t.nx.trans n2;let hl:-d=-ks:=by let:=congrArg Y4 g2;exists this
 let S4:fe d (tA y)=ef:=by let:=g6 y;rw[decide_eq_false XJ]at this;cases hq:fe d (tA y) with|none=>rfl|some _=>rw[hq]at this;ext this
 show#[n,_,9,zB.k (k:=tA y) g1 (by rw[hl];show m),?_];rw[Be _ S4];let am:j∉O.kid i:=λz=>k3 (.inr #[i,_,_,g,f,.inr z]);let Y:j≠n:=λz=>k3 (.inr #[i,_,_,g,f,.inl z]);let rd:=B.dd.kd i _ _ g f;let fr:=bf.Z5 rd;let(Rj,n3):=Ok.FU (H':=upd O.H n (.dK (d++[(tA y,.ref j)]))) (u':=.OT (ks++[y]) (vs++[.lst us])) (as':=O.kid i++[j]) B T.toNs g f
  (λa ne=>aj λz=>ne #[_,_,g,f,.inl z]) (λa o e=>by
   by_cases hz:a=n
   .subst hz;show#[_,ak]
   rw[aj hz];show#[o,e])
  (λmv=>by
   show#[_,ak,by left,by rw[ro,g3,ro];rfl,?_,λa ha=>?_,?_]
   .rw[<-Ī,C0];show#[g4,by simp,λa ha b G=>by
     let:b=j:=by exists G
     subst this;rintro rfl;left]
   .rw[<-Ī]at ha;obtain ha|ha:=my.mp ha
    .show fr a ha
    let:a=j:=by exists ha
    subst this;let(z1,_,z3,_):=ok.kB k1;show#[k2,z3,z1]
   show eE.snoc (by rw[aj Y];show k4) (k5.mv mv) (eE.mv mv (λa ha o e=>by rw[aj (λz=>(vl.mp g4).1 (by rw[<-z];show ha))];show e) g5))
  (λa ha=>by
   obtain ha|ha:=my.mp ha
   .show .inl ha
   left)
 let z:=q _ 9 Rj n3 (Kept.of u);rw[<-u];show z
theorem eE.at{S}:∀{l}{g}{d}{c:↑(Key×V)}{u},c.map (·.1)=l.map tA->c.map (·.2)=d.map V.ref->d.Nodup->eE C S H g d->fg l g y\u -> ∃a m n,fe c (tA y)\.ref a/\a∈d/\u=.lst n/\H a\.lst m/\au C S H n m/\∀f i j,Mv S H S f->f a\.lst j->au C S f i j->(∀b∈d,b≠a->f b=H b)->eE C S f (mV l g y (.lst i)) d
 |[],g,d,c,u,_,_,_,_,h=>by cases g<;>ext h|k::l,[],d,c,u,_,_,_,_,h=>by ext h|k::l,u0::g,d,c,u,r,x,s,hk,h=>by
  let(a,q,n,m,rfl,rfl,J,L,N):=hk;cases c with
  |nil=>simp at r
  |cons p c =>
   rw[lx,lx,Ò]at r x;rw[vl]at s;by_cases A:k=y
   .subst A;erw[fg]at h;ext h;show#[a,m,n,by rw[fR r.1,x.1],by simp,9,J,L,λf i j t B D v=>?_];erw[mV];show#[a,q,i,j,9,9,B,D,eE.mv t (λb w o e=>by rw[v b (by simp[w]) (λz=>s.1 (z▸w))];show e) N]
   simp only[fg,if_neg A]at h;let(O,G,I,T,Q,Y,f4,f5,f6):=eE.at r.2 x.2 s.2 N h;show#[O,G,I,?_,by simp[Q],Y,f4,f5,λf i j t B D v=>?_]
   .rw[fS ⋯];show T
   simp only[mV,if_neg A];let ha:a≠O:=λz=>s.1 (z▸Q);show#[a,q,n,m,9,9,by rw[v a ⋯ ha];show J,L.mv t,f6 f i j t B D λb w=>v b (by simp[w])]
def wC{st}(h:W (oz i y u) st Q):∃a b c,st[i]?\b6 (.A',.OT a b)/\fg a b y\.lst c/\-c<ei/\Q () (st.set i (b6 (.A',.OT a (mV a b y (.lst (c++[u])))))):=by
 let(_,d,e,q):=h;unfold oz at e;split at e
 .rename_i a b hs;split at e
  .rename_i c f;split at e
   .rename_i g;ext e;show#[a,b,c,hs,f,g,q]
   ext e
  ext e
 ext e
def z_(C:Ct)(m:M (Kd×U)):TE:=λσ H Q=>∃b:Cf,b.σ=σ/\b.H=H/\Ok C b/\W m b.st λr d=>∀c v,c.σ=σ->c.st=d->Ok C c->Nx b c->(∀a o,b.H a\o->c.H a\o)->aP C b c r.1 r.2 v->Q v c.H
def qz(e:Ok C b)(h:W (f >>= k) b.st d) (g:∀x c v,Rg C b c x v->(∀a o,b.H a\o->c.H a\o)->W (k x) c.st d->Z v c.H):z_ C f b.σ b.H Z:=by rw[ai]at h;show#[b,9,9,e,h.mono λx i s j l m t n p q r=>g x j l #[m,n,p,r] q 7]
def Cm(f:X.N[i]?\x)(g:PV X.env.scope x)(l:(x==("__debug__":5))=df)(m:(x==("__classdict__":5))=df):PE X (.Name x n) (z_ C (dM i)):=by
 show PE.weak (br f g l m) ?_;rintro σ H Q ⟨b,rfl,rfl,c,r,o,e,h⟩;unfold dM at e;split at e
 .cases e
 .rename_i k u p hs;ext e;let(v,d,a):=c.sl i k u hs;show#[v,d,h b v 9 9 c (Nx.refl b) (λ_ _ z=>z) ?_];by_cases hk:k.root=4
  .rw[if_pos hk];show#[#[k,hk,hs],d]
  cases k with|loc=>show a|any=>show a|bor j=>show a.elim|A'=>show(p 9).elim|_=>show absurd 9 hk
 ext e
def kI(h:PE X e (tC v))(r:∀S H,Rep C S H u v):PE X e (z_ C (pure (.loc,u))):=by show PE.weak h ?_;rintro σ H Q ⟨a,rfl,rfl,b,h⟩;rw[ao]at h;show h a v 9 9 b (Nx.refl a) (λ_ _ z=>z) (r _ _)
def JN(hK:C.K=X.K)(hu:X.A.units+60<VC)(hN:X.N[i]?\x)(hv:PV X.env.scope x)(hd:(x==("__debug__":5))=df)(O5:(x==("__classdict__":5))=df)(Q:PE X a (z_ C ma))(hb:PE X b (OY C mb))(W_:IL b) (P_:((QX T (j0 [a] X.env)).all (λx=>!x.1)&&(ZC T (V' [] X.env)).all (λx=>x.1.isSome)
   && eL ([a].length+⇑([]:↑Yn)+(if ([]:↑Yn).isEmpty then 0 else 1)<30))=4)
  (O8:(l.endLine==T.line)=4) (OQ:j0 [a] X.env=[(df,uv a X.env)]) :
  L2.PS X (.Expr (.Call (.Attribute (.Subscript (.Name x px) b p) "append" l) [a] [] T) ar) (PD C ns (kC i >>= λ_=>mb >>= λx=>ia x >>= λy=>kC i >>= λd=>if y∈d.1 then(ma >>= λr=>lift r >>= λu=>oz i y u >>= λ_=>pure .nx) else M.fail)):=by
 show PS.weak (iU (tU F.plainAttrs_list F.slot_list_append F.type_list_append lh (E4 7 (br hN hv hd O5) hb W_) (bY Q dw OQ) 9 P_ O8 OQ 9)) ?_;rintro D σ H ⟨c0,rfl,rfl,ok,h⟩;rw[ai]at h;let(as,a0,Qg,h):=i_ h;let(r0,Vq,Y,g0,_):=ok.OT Qg;show#[.ref r0,Y,?_];show aW ok h λry c vy t w=>?_;rw[ai]at w;let(ky,uy):=ry;let(y,ey,w1):=ja w
 dsimp only at ey
 subst ey;let ev:vy=.str y:=t.rx.str t.ok;subst ev;rw[ai]at w1;let(ks,us,hs,w2):=i_ w1
 dsimp only at w2
 by_cases hy:y∈ks
 case neg=>rw[if_neg hy]at w2;show(bp.mp w2).elim
 rw[if_pos hy]at w2;let(r1,ab,f1,g1,g2,g3,g4,g5,g6,_):=t.ok.OT hs;let er:r1=r0:=by rw[t.hσ,Y]at f1;ext f1;rfl
 subst er;let US:=g6 y;rw[decide_eq_true hy]at US;let(v0,G):=VL.mp US;let Qk:v0∈(c.kid i).map V.ref:=by rw[<-g3];unfold fe at G;let(q,hq,rfl):=i0.mp G;show Wh (List.mem_of_find?_eq_some hq)
 let(f,YD,rfl):=mn.mp Qk;let(ac,m):=g5.mem YD;show#[r1,.ref f,9,by rw[<-G];show ij.k (k:=tA y) g1,Or.inl #[9,ac,.inl (.inl m)],?_];rw[<-t.hσ];show qz t.ok w2 λr g v j zT w3=>?_;rw[ai]at w3;let(S',al,u,sS,OU,n1,n,w4,_,_):=iX t.ok j.ok j.nx j.rx.w w3;rw[ai]at w4;let(s,PH,xs,I,hx,J,q):=wC w4;rw[ao]at q;let(L,Vr,O,k2,k3,k4,k5,k6,_,_):=OU.OT I;let B:g.σ[i]?\b6 (.ref L):=O;let er:L=r1:=by rw[j.hσ,t.hσ,Y]at B;ext B;rfl
 subst er;let am:g.H L\.dK Vr:=k2;let an:Vr=ab:=by let:=zT _ _ g1;rw[am]at this;ext this;rfl
 subst an;let nd:=(vl.mp k5).2;let(a2,ws,ys,l1,l2,l3,l4,l5,l6):=eE.at k3 k4 nd k6 hx;ext l3;rw[G]at l1;ext l1;let ap:g.H f\.lst ws:=l4;show#[f,ws,v,9,9,ap,by rw[<-l5.len];show J,?_];let Pp:f≠L:=λz=>(vl.mp k5).1 (z▸l2);let(Pk,n2):=Ok.FU (c:={g with S:=S',st:=al }) (H':=upd g.H f (.lst (ws++[v]))) (u':=.OT s (mV s PH y (.lst (xs++[u])))) (as':=g.kid i) OU (t.nx.trans n1).toNs I O
  (λa ne=>aj λz=>ne #[_,_,I,O,.inr (z▸l2)]) (λa o e=>by
   by_cases J:a=f
   .subst J;show#[_,ak]
   rw[aj J];show#[o,e])
  (λmv=>#[Vr,by rw[aj (sg Pp)];show k2,k3,k4,k5,bf.Z5 (OU.dd.kd i _ _ I O),l6 _ _ _ mv ak ((l5.mv mv).snoc (n.mv mv)) λb _ ne=>aj ne])
  (λa Q=>.inl Q)
 let z:=q _ 9 Pk n2 (Kept.of (j.hσ.trans t.hσ));rw[<-j.hσ];show z
def Cn{st}(h:W (Z8 u) st Q):∃a b,u=.OT a b/\Q () st:=by
 cases u<;>first|show(bp.mp h).elim|skip
 show#[_,_,9,ao.mp h]
def qA{st}(h:W (zQ x) st Q):∃j,x.2=.int j/\Q j st:=by
 unfold zQ at h;split at h
 .rename_i y e;rw[ao]at h;show#[y,e,h]
 show(bp.mp h).elim
def qB{st}(h:W (uE i) st Q):∃k a,k.root=4/\st[i]?\b6 (k,.lst a)/\Q a st:=by
 let(r,b,e,q):=h;unfold uE at e;split at e
 .rename_i k a hs;split at e
  .rename_i hk;ext e;show#[k,_,hk,hs,q]
  ext e
 ext e
theorem uK:∀{a}{b},y∈a->-a=-b->fg a b y=ef->False
 |[],b,h,_,_=>by ext h|k::a,[],_,h,_=>by simp at h|k::a,u::b,h,hl,e=>by
  by_cases hk:k=y
  .simp[fg,hk]at e
  simp only[fg,if_neg hk]at e;obtain h|h:=gb.mp h
  .show hk h.symm
  show uK h (by exists hl) e
def Co{i}{x}{px}(hu:X.A.units+60<VC)(hN:X.N[i]?\x)(hv:PV X.env.scope x)(hd:(x==("__debug__":5))=df)(O5:(x==("__classdict__":5))=df) (ha:PE X a (OY C ma)) (hb:PE X b (OY C mb)) (hm:M2 X (.Name x px) "get" f a b N') :PE X (.Call (.Attribute (.Name x px) "get" f) [a,b] [] N') (OY C (dM i >>= λx=>Z8 x.2 >>= λ_=>ma >>= λy=>ia y >>= λy=>mb >>= λz=>lift z >>= λu=>dM i >>= λx=>M.Pd (Fq x y u))):=by
 rintro g s σ H Q I ⟨G,rfl,rfl,J,h⟩;show Bh 7 (br hN hv hd O5) ha hb hm g s G.σ G.H Q I ?_;rw[ai]at h;let(k0,u0,L,Qg,h):=e_ h;let(v0,e0,t0):=J.slot L Qg;rw[ai]at h;let(ab,ac,j,h'):=Cn h
 dsimp only at j
 subst j;let(O,Vq,rfl,g0,_):=t0.dict J;show#[.ref O,e0,O,9,.inl #[Vq,.inl g0],?_];show aW J h' λry c vy t w=>?_;rw[ai]at w;let(ky,uy):=ry;let(y,ey,w1):=ja w
 dsimp only at ey
 subst ey;let ev:vy=.str y:=t.rx.str t.ok;subst ev;rw[<-t.hσ];show aW t.ok w1 λz l vz m w2=>?_;rw[ai]at w2;let(S',n,u,sS,T,n1,o,w4,_,_):=iX t.ok m.ok m.nx m.rx.w w2;rw[ai]at w4;let(k,u1,Y,QS,w5):=e_ w4;let(r,d,q):=cK.mp w5;let(v1,e1,t1):=T.slot Y QS;let P5:l.σ[i]?\b6 v1:=e1;rw[m.hσ,t.hσ,e0]at P5;ext P5;cases u1<;>first|(erw[Fq]at d;ext d;done)|skip
 rename_i ks us;let(a1,e,ea,g1,g2,g3):=t1.dict T;ext ea;let X6:l.H O\.dK e:=g1;show#[_,ij.k (k:=tA y) X6,?_];erw[Fq]at d;let(l1,l2):=eZ (x:=y) g2 g3;let p:∀v:V,aP C G {l with S:=S',st:=n } r.1 r.2 v->Q v l.H:=λv z=>q {l with S:=S',st:=n } v (m.hσ.trans t.hσ) 9 T (t.nx.trans n1) z;cases D:fg ks us y with
 |some w=>rw[D]at d;ext d;let(v,ev,rv):=l1 w D;rw[ev];show p v ?_;show aP.item (k:=if k.root=4 then .bor i else k) rv|none =>
  rw[D]at d;ext d;let S4:fe e (tA y)=ef:=by
   cases hq:fe e (tA y) with
   |none=>rfl
   |some v =>
    exfalso
    rw[hq]at l2;let hy:y∈ks:=7
    let B:-ks=-us:=by let h1:=congrArg Y4 g2;let h2:=g3.len;simp at h1 h2;lia
    show uK hy B D
  rw[S4];show p vz o
def Cp:Lr X (λo i H Q=>∃p a j v,o=.ref p/\i=.int j/\H p\.lst a/\0<=j/\a[j.toNat]?\v/\Q v H):=by rintro b s σ H o i m n Q I d e ⟨p,a,j,v,rfl,rfl,f,g,c,q⟩;ext d;let(t,rfl):=e;let(u,r,h,x):=I.list (.inl (.inl f));let(w,k,l):=r.get c;let y:=ig;let z:=(gr.mp c).1;show wpAny_getItem_list h.isList g 7 (by exists k) #[v,H,I,l,q]
def FX:Xz X (if sub=4 then .Sub else .Add) (YQ (BQ sub)):=by cases sub with|true=>show Ip|false=>show Io
def Mr(hN:X.N[i]?\x)(hv:PV X.env.scope x)(hd:(x==("__debug__":5))=df)(O5:(x==("__classdict__":5))=df) (ha:PE X a (z_ C ma)) (hb:PE X b (OY C mb)) (u:∀m n d,augStore b m n d=(do VE [d,m,n] (õ m n d);Ŀ [d,m,n] [];pure .next)) :L2.PS X (.AugAssign (.Subscript (.Name x px) b p) (if sub=4 then .Sub else .Add) a ab) (PD C ns (uE i >>= λ_=>mb >>= λy=>zQ y >>= λj=>uE i >>= λus=>M.Pd (uF us j) >>= λo=>ma >>= λz=>zQ z >>= λw=>modS i (ix (.int j) (.int (BQ sub o w))) >>= λ_=>pure .nx)):=by
 show PS.weak (EF (br hN hv hd O5) hb Cp ha FX set_list u) ?_;rintro D σ H ⟨c0,rfl,rfl,T,h⟩;rw[ai]at h;let(k0,ac,Ub,Qg,h):=qB h;let(v0,v,RX):=T.sl i _ _ Qg;let(f,rfl,_,_,_,_):=RX.rt Ub;show#[.ref f,v,?_];show aW T h λry c vy t w=>?_;rw[ai]at w;let(ky,uy):=ry;let(j,Y,w1):=qA w
 dsimp only at Y
 subst Y;let ev:vy=.int j:=t.rx.int t.ok;subst ev;rw[ai]at w1;let(k1,X7,Vs,QS,w2):=qB w1;rw[ai]at w2;let(o,ho,w3):=cK.mp w2;let(v1,e1,A):=t.ok.sl i _ _ QS;let(a1,rfl,_,_,_,W'):=A.rt Vs;rw[t.hσ,v]at e1;ext e1;let(g,g1,g2):=W';unfold uF at ho;split at ho
 case isFalse=>ext ho
 rename_i B;split at ho
 case h_2=>ext ho
 rename_i o' l;ext ho;let(vo,G,I):=g2.get l;let J:vo=.int o:=I;subst J;show#[f,g,j,_,9,9,g1,B,G,?_];rw[<-t.hσ];show qz t.ok w3 λz L vz e all2 w4=>?_;rw[ai]at w4;let(kz,uz):=z;let(w,ez,w5):=qA w4
 dsimp only at ez
 subst ez;let ev:vz=.int w:=e.rx.int e.ok;subst ev;show#[o,w,9,9,?_];rw[ai]at w5;let(k,u1,u2,hk,Q2,r,q):=i6 w5;rw[ao]at q;let(v2,O,Ur):=e.ok.sl i _ _ Q2;let(a2,rfl,_,_,_,Xa):=Ur.rt hk;let Q:=O;rw[e.hσ,t.hσ,v]at O;ext O;let X6:L.H f\.lst g:=all2 _ _ g1;cases u1 with
 |lst xs =>
  erw[ix,i0]at r;let(s,Ti,rfl):=r;let(al,l1,l2):=Xa;rw[X6]at l1;ext l1;show#[f,g,j,s,9,9,X6,by rw[<-l2.len];show Ti,?_];let(Rj,n3):=Ok.mod (c:=L) (H':=upd L.H f (.lst (g.set s (.int (BQ sub o w))))) (u':=.lst (xs.set s (.int (BQ sub o w)))) e.ok (t.nx.trans e.nx).toNs hk Q2 Q (λa ne=>aj ne) ⟨_,ak⟩ λmv=>#[_,ak,(l2.mv mv).set s 9]
  let z:=q _ 9 Rj n3 (Kept.of (e.hσ.trans t.hσ));rw[<-e.hσ];show z
 |OT ks g=>simp[ix]at r|_=>simp[ix]at r
def FY{d:↑5}(e:c.map (·.1)=d.map tA)(f:c.map (·.2)=g.map V.int):c=(d.zip g).map λp=>((tA p.1:Key),V.int p.2):=by
 induction c generalizing d g with
 |nil=>left|cons kv c h =>
  cases d with
  |nil=>ext e
  |cons k d =>
   cases g with
   |nil=>ext f
   |cons n g=>let(a,b):=kv;erw[lx,Ò]at e f;let(rfl,e):=e;let(rfl,f):=f;rw[h e f];rfl
theorem au.of_map{S:ke->6}{f:α->U}{g:α->V}:∀{l:↑α},(∀x∈l,Rep C S H (f x) (g x))->au C S H (l.map f) (l.map g)|[],_=>9|x::l,h=>#[g x,_,9,h x 7,au.of_map λy a=>h y (by simp[a])]
def FZ(hc:X.calm=4)(hK:C.K=X.K)(hg:Gl X "sorted")(hm:X.mg "sorted"=ef)(hN:X.N[i]?\x)(hv:PV X.env.scope x)(hd:(x==("__debug__":5))=df)(O5:(x==("__classdict__":5))=df)(O8:(c.endLine==D.line)=4):PE X (.Call (.Name "sorted" p) [.Call (.Attribute (.Name x J) "items" c) [] [] D] [] q) (OY C (dM i >>= λx=>M.Pd (BM x.2))):=by
 rintro m s σ H Q I ⟨k,rfl,rfl,G,h⟩;show tj (dr I hg hm (show H8 "sorted"\.builtin "sorted" by decide +kernel) ?_ (by decide +kernel) (by decide +kernel));rw[ai]at h;let(k0,u0,O,Qg,h):=e_ h;let(v0,e0,t0):=G.slot O Qg;let(r,l,t):=cK.mp h
 dsimp only at l
 unfold BM at l;split at l
 rotate_left
 .cases l
 rename_i b us;rw[mx]at l;let(f,en,l):=l;split at l
 rotate_left
 .cases l
 rename_i u;ext l;let(Tn,O9,am):=u;let(d,an,rfl,X8,Ub,S5):=t0.dict G;rw[mj en]at S5;let Y:=FY Ub (au.ints S5);subst Y;let ek:((b.zip f).map (·.1))=b:=ϒ 7;let n:‹X› (uv (.Call (.Attribute (.Name x J) "items" c) [] [] D) X.env) (λv s1=>‹X› (WH (.builtin "sorted") [v]) (EP X m k.σ Q) X.xe s1) X.xe s:=by
  show wpAny_Call_method0_late 9 O8 (OV (br hN hv hd O5 m s k.σ k.H (λv H1=>v=.ref d/\H1=k.H) I ⟨_,e0,9,9⟩) λv s1 B=>?_);let(x1,H1,I1,r1,z1,z2):=B;subst z1 z2;cases(show v=rr d from r1);let(h1,h2):=vV (T:="dict") I1 (x:=.ref d) 9 (.inr (.inr (.inl #[9,.inl #[_,X8]])));show#["dict","dict.items",F.plainAttrs_dict,F.slot_dict_items,F.type_dict_items,h1,h2,TQ 9 (PySem.evalArgs_none (rX hc I1 X8 (by rw[ek];show O9) (by rw[ĵ];lia) λg L hl nd Us hL=>?_))];let VU:k.H L=ef:=Us L 7;let ab:(g.zip ((b.zip f).map Ts)).map (·.1)=g:=ϒ (by rw[f7];lia);let ac:∀p∈g.zip ((b.zip f).map Ts),p.1∈g:=λp hp=>(ZR hp).1;let same:hV k.H (upd (mT k.H (g.zip ((b.zip f).map Ts))) L (.lst ((mR ((b.zip f).map (·.1))).map λi=>V.ref (g.getD i 0)))):=λa o e=>by
   let n1:a≠L:=λy=>by rw[y,VU]at e;ext e
   rw[aj n1,oq λp hp y=>?_]
   .show e
   let:=Us p.1 (by simp[ac p hp]);rw[y,e]at this;ext this
  let(OZ,n'):=G.grow (S':=k.S) same (λa z=>.inl z) λa z=>z;let(q1,q2,q3,q4,q5):=G.kB VU;show t {k with H:=upd (mT k.H (g.zip ((b.zip f).map Ts))) L (.lst ((mR ((b.zip f).map (·.1))).map λi=>V.ref (g.getD i 0))),S:=k.S} _ 9 9 OZ n' ⟨L,9,VU,q2,q5,_,ak,?_⟩;change au C k.S _ ((Fo (b.zip f)).map zP) _;unfold Fo;rw[k9];show au.of_map λj hj=>?_;let Ti:j< -b.zip f:=by let:=uk.mp ((iW _).mem_iff.mp hj);rw[f7]at this;show this
  let ZU:j< -g:=7
  let e1:(b.zip f).getD j (B',0)=(b.zip f)[j]:=(List.getElem_eq_getD _).symm;let e2:g.getD j 0=g[j]:=by simp[Zu,ZU]
  change Rep C k.S _ (zP ((b.zip f).getD j (B',0))) (V.ref (g.getD j 0));rw[e1,e2];show#[g[j],Ts (b.zip f)[j],9,Pu.of ?_,#[_,_,9,9,_,_,9,9,9]];let Pp:g[j]≠L:=λy=>hL (by rw[<-y];simp);show(aj Pp).trans (yi (by rw[ab];show nd) (vs:=Ts (b.zip f)[j]) ?_);show ò.mpr #[j,by rw[ĵ,f7];lia,?_];simp
 let eb:QX q (j0 [.Call (.Attribute (.Name x J) "items" c) [] [] D] X.env)=[(df,uv (.Call (.Attribute (.Name x J) "items" c) [] [] D) X.env)]:=9;let al:ZC q (V' [] X.env)=[]:=9;rw[eb,al];show wu n
def yt(n:X.calm=4)(r:C.K=X.K)(u:Gl X "set")(y:X.mg "set"=ef)(B:PE X a (OY C G))(hs:j0 [a] X.env=[(df,uv a X.env)])(I:Inv X b f.σ f.H s)(J:Ok C f) (h:W (G >>= λx=>M.Pd (h_ x.2) >>= k) f.st g) (L:∀S o d D c,c.σ=f.σ->Ok C c->Nx f c->d.heap.get? S\o->cG X.prog X.w d.heap S (bM X.w) D->Inv X ((S,o)::b) c.σ c.H d->W (k D) c.st g->(∀q∈b,q.1≠S)->Q (.ref S) d) :
  ‹X› (uv (.Call (.Name "set" p) [a] [] i) X.env) Q X.xe s:=by
 show tj (dr I u y (show H8 _\.type "set" by decide +kernel) ?_ (by decide +kernel) (by rfl));let N:QX i (j0 [a] X.env)=[(df,uv a X.env)]:=by rw[hs];rfl
 rw[N];show yq (one B I J h λx c vx v s2 t m O w=>?_);rw[ai]at w;let(D,e,w):=cK.mp w;let(l,ys,rfl,T,Y,rfl):=ly r t.ok t.rx e;ext O;show wc n m T Y λS o d j VP hS I3=>L S o d _ c t.hσ t.ok t.nx VP hS I3 w λq hq z=>by let:=i8 (m.pin q (oD _ hq)).1;rw[z]at this;show absurd (lg this j) (y0 _)
def F0(O:X.calm=4)(T:C.K=X.K)(W6:Gl X "len")(t:X.mg "len"=ef)(Y:Gl X "set")(hm:X.mg "set"=ef)(ha:PE X a (OY C ma))(hb:PE X b (OY C mb))(u:j0 [a] X.env=[(df,uv a X.env)])(SO:j0 [b] X.env=[(df,uv b X.env)]):PE X (.Call (.Name "len" p) [.BinOp (.Call (.Name "set" p1) [a] [] Xb) .Sub (.Call (.Name "set" p2) [b] [] d) f] [] j) (OY C (ma >>= λx=>M.Pd (h_ x.2) >>= λd1=>mb >>= λy=>M.Pd (h_ y.2) >>= λd2=>M.Pd (BN d1 d2))):=by
 rintro g s σ H Q I ⟨B,rfl,rfl,ok,h⟩;let i:‹X› (uv (.BinOp (.Call (.Name "set" p1) [a] [] Xb) .Sub (.Call (.Name "set" p2) [b] [] d) f) X.env) (λv s1=>‹X› (WH (.builtin "len") [v]) (EP X g B.σ Q) X.xe s1) X.xe s:=by
  show wpAny_BinOp (yt O T Y hm ha u I ok h λS1 o1 s1 D1 c1 D OU G VR To I1 w1 Ux=>?_);show yt O T Y hm hb SO I1 OU w1 λS2 o2 s2 D2 k J Pk L UA UB N w2 Wz=>?_;let(r,n,l):=cK.mp w2;let ab:=(N.pin (S1,o1) (oD _ 7)).1;let m:cG X.prog X.w s2.heap S1 (bM X.w) D1:=To.at λo e=>by left
  let nx:Nx B k:=G.trans L;let hσ:k.σ=B.σ:=J.trans D;let I3:Inv X g k.σ k.H s2:=N.fG λq hq=>N.pin q (oD _ (by simp[hq]));unfold BN at n;split at n
  rotate_left
  .cases n
  rename_i x;ext n;show L2.Fd m UB λh' hk hR=>?_;rw[<-hσ];let z:=c9.flat (c:=k)  l hσ Pk nx 9;show n_ (I3.kept  hk) hR ?_;split<;>rename_i hx
  .simp_all
  rw[if_neg hx]at z;show z
 let eb:QX j (j0 [.BinOp (.Call (.Name "set" p1) [a] [] Xb) .Sub (.Call (.Name "set" p2) [b] [] d) f] X.env)=[(df,uv _ X.env)]:=9;let ek:ZC j (V' [] X.env)=[]:=9;show tj (dr I W6 t (show H8 "len"\.builtin "len" by decide +kernel) ?_ (by decide +kernel) (by decide +kernel));rw[eb,ek];show wu i
abbrev TC(P:DD)(w:Q1)(K:W.Frag)(H:Hp)(a IO:ke->6):Ct:=#[P,w,K,H,a,IO,λ_ _=>False]
def Qb.nth(t:Qb C d c g j){i:8}(h:g[i]?\r):∃v,j[i]?\v/\aP C d c r.1 r.2 v:=by
 let f:∀(l:↑(Kd×U)) (w:↑V),fh C d c l w->aU l c.st->∀(i:8) (r:Kd×U),l[i]?\r->∃v,w[i]?\v/\aP C d c r.1 r.2 v:=by
  intro l;induction l with
  |nil=>intro w _ _ i r e;simp at e|cons x l k =>
   intro w h hs i r e;let(v,m,rfl,n,o,_):=h;rw[fX]at hs;cases i with
   |zero=>simp at e;subst e;show#[v,9,n.t hs.1]
   |succ i=>let(p,a,b):=k m o hs.2 i r (by exists e);show#[p,by simpa using a,b]
 show f g j t.rep t.Tv i r h
def Qb.len(t:Qb C d c a b):-a=-b:=by let:=t.read.len;rw[f7]at this;show this
structure Rk(K:W.Frag)(d:Bool)(cl:ke):6 where
 hc:SR K d cl
 cls:Tf K cl
 na:∀x∈(["rows","earlier","shelf"]:↑5),jE K cl x
section
variable{X:Cx}{C:Ct}{pins:List (ke×Obj)}{s:kj}{c0 c c1:Cf}{i:8}{x:5}{px apos p1 p2 pos N':Pos}{u:U}{us:List U}
def Ok.JO(f:Ok C c)(hs:c.st[i]?\b6 (.A',.ob df u us)):∃r b d v a e,c.σ[i]?\b6 (.ref r)/\c.kid i=[a]/\Sb C c.S c.H r a u us b d v e:=by let(k,g,r,rfl):=f.sl i _ _ hs;let(b,d,v,a,e,h,j):=f.dd.kd i _ r hs g;show#[r,b,d,v,a,e,g,h,j]
def SR.one{K}(h:SR K d a)(b:SR K d e):a=e:=by rw[SR,b]at h;left
def Cq{st}(h:W (Vh i) st Q):∃u us,st[i]?\b6 (.A',.ob df u us)/\Q (u,us) st:=by
 let(p,a,e,h):=h;unfold Vh at e;split at e
 .rename_i u us hs;ext e;show#[u,us,hs,h]
 ext e
def uL{st}(h:W (T7 i f) st Q):∃u us w a,st[i]?\b6 (.A',.ob df u us)/\f u us\(w,a)/\O6 w=4/\fB a=4/\Q () (st.set i (b6 (.A',.ob df w a))):=by
 let(p,b,e,h):=h;unfold T7 at e;split at e
 .rename_i u us hs;split at e
  .rename_i w a d;split at e
   .rename_i z;ext e;show#[u,us,w,a,hs,d,z.1,z.2,h]
   ext e
  ext e
 ext e
def Cr(K:Rk X.K df d)(e:C.K=X.K)(f:X.N[i]?\x)(g:PV X.env.scope x)(j:(x==("__debug__":5))=df)(k:(x==("__classdict__":5))=df):PE X (.Attribute (.Name x px) "rows" pos) (OY C (Vh i >>= λp=>pure (.loc,p.1))):=by show PE.weak (rh (br f g j k) 9) ?_;rintro σ H Q ⟨c0,rfl,rfl,b,h⟩;rw[ai]at h;let(u,us,hs,h):=Cq h;let(r,n,l,v,a,q,m,_,o):=b.JO hs;cases(K.hc).one (e▸o.hc);rw[ao]at h;show#[_,m,r,d,l,_,v,9,o.ins,K.cls,(K.na _ 7),9,h c0 v 9 9 b (Nx.refl c0) o.rep]
def JP(a:X.N[i]?\x)(b:PV X.env.scope x)(d:(x==("__debug__":5))=df)(e:(x==("__classdict__":5))=df):PE X (.Attribute (.Name x px) "earlier" pos) (IB X.K (AQ i) "earlier"):=rh (br a b d e) 9
def Sb.ear{S}(K:Rk X.K df b)(d:C.K=X.K)(o:Sb C S H r a u us g f v h)(e:σ[i]?\b6 (V.ref r))(q:Q (.ref a) H):IB X.K (AQ i) "earlier" σ H Q:=by cases(K.hc).one (d▸o.hc);show#[_,e,r,b,f,_,_,9,o.ins,K.cls,(K.na _ 7),9,q]
def Ok.Hq(B:Ok C c)(n:Ns c0 c)(hs:c.st[i]?\b6 (.A',.ob df u us))(f:c.σ[i]?\b6 (.ref r))(hk:c.kid i=[a])(o:Sb C c.S c.H r a u us l m v Y) (p:∀b,b≠r->b≠a->H' b=c.H b) (D:H' r\.ins l m (UK t a)) (G:H' a\.lst y) (I:O6 w=4) (g:fB h=4) (k:Rep C c.S c.H w t) (rws:au C c.S c.H h y) :∃d,d.H=H'/\d.σ=c.σ/\d.S=c.S/\d.st=c.st.set i (b6 (.A',.ob df w h))/\Ok C d/\Ns c0 d:=by
  let(J,L):=B.FU  (u':=.ob df w h)  n hs f (λb z=>p b (λq=>z #[_,_,hs,f,.inl q]) λq=>z #[_,_,hs,f,.inr 7]) (λb N e=>by
      by_cases O:b=r
      . left
      . by_cases Q:b=a
        . left
        . show#[N,by rw[p b O Q];show e])
    (λA=>#[l,m,t,a,y,9,o.hc,D,o.ne,o.fr,I,k.mv A,G,g,rws.mv A]) (λb T=>.inl (by rw[hk];show T))
  show#[{c with H:=H',st:=c.st.set i _,kid:=λj=>if j=i then [a] else c.kid j},9,9,9,9,J,L]
end
def Ok.Ol(f:Ok C c)(n:Ns Q c)(B:i< -c.σ)(rd:bf C c.S c.H r m u)(D:∀b∈r::m,¬c.R b/\Q.H b=ef):Ok C {c with σ:=c.σ.set i (b6 (.ref r)),st:=c.st.set i (b6 (.A',u)),kid:=λj=>if j=i then m else c.kid j}/\Ns Q {c with σ:=c.σ.set i (b6 (.ref r)),st:=c.st.set i (b6 (.A',u)),kid:=λj=>if j=i then m else c.kid j}:=by
 let I:i< -c.st:=by rw[f.len];show B
 let G:∀(j:8) k w,(c.st.set i (b6 (.A',u)))[j]?\b6 (k,w)->j≠i->c.st[j]?\b6 (k,w):=λj k w e J=>by rw[ko (sg J)]at e;show e
 let s:∀(j:8),j≠i->(c.σ.set i (b6 (.ref r)))[j]?=c.σ[j]?:=λj J=>ko (sg J);let L:∀(j:8) k w,k.root=4->(c.st.set i (b6 (.A',u)))[j]?\b6 (k,w)->j≠i/\c.st[j]?\b6 (k,w):=λj k w hk e=>by
  by_cases d:j=i
  .subst d;rw[i4 I]at e;ext e hk
  show#[d,G j k w e d]
 let N:∀a,({c with σ:=c.σ.set i (b6 (.ref r)),st:=c.st.set i (b6 (.A',u)),kid:=λj=>if j=i then m else c.kid j}:Cf).R1 a->c.R1 a:=λa O=>by let(j,k,w,hk,g,h):=O;let(d,P5):=L j k w hk g;show#[j,k,w,hk,P5,by rw[<-s j d];show h]
 let t:∀j a,({c with σ:=c.σ.set i (b6 (.ref r)),st:=c.st.set i (b6 (.A',u)),kid:=λj=>if j=i then m else c.kid j}:Cf).RD j a->(j≠i/\c.RD j a)\/(j=i/\a∈r::m):=λj a O=>by
  let(w,l,g,h,e3):=O;by_cases d:j=i
  .subst d;let x:(c.σ.set j (b6 (.ref r)))[j]?\b6 (.ref l):=h;rw[i4 B]at x;ext x;obtain rfl|e3:=e3
   .show .inr #[9,by simp]
   show .inr #[9,ib _ (by exists e3)]
  let Tz:a=l\/a∈c.kid j:=by simpa[d] using e3
  show .inl #[d,w,l,G j _ w g d,by rw[<-s j d];show h,Tz]
 show#[#[f.same,f.QU,f.par,f.io,by simp[f.len],λj k w e=>?_,λq o T Y w1 w2 l h1 h2 g h e3 e4=>?_,#[λj w l g h=>?_,λq o a z1 z2=>?_,λj a z1 z2=>?_]],#[n.keep,n.there,λa z=>?_,n.sub,n.new]]
 .by_cases d:j=i
  .subst d;rw[i4 I]at e;ext e;show#[.ref r,i4 B,r,9]
  let(v,g,h):=f.sl j k w (G j k w e d);show#[v,(s j d).trans g,h]
 .let(TB,a1):=L q T w1 h1 g;let(Ua,a2):=L o Y w2 h2 h;show f.inj q o T Y w1 w2 l h1 h2 a1 a2 ((s q TB).symm.trans e3) ((s o Ua).symm.trans e4)
 .by_cases d:j=i
  .subst d;rw[i4 I]at g;ext g;let x:(c.σ.set j (b6 (.ref r)))[j]?\b6 (.ref l):=h;rw[i4 B]at x;ext x;change bf C c.S c.H r (if j=j then m else c.kid j) u;rw[if_pos rfl];show rd
  let z:=f.dd.kd j w l (G j _ w g d) ((s j d).symm.trans h);change bf C c.S c.H l (if j=i then m else c.kid j) w;rw[if_neg d];show z
 .rcases t q a z1 with⟨_,p⟩|⟨rfl,p⟩
  .rcases t o a z2 with⟨_,A⟩|⟨rfl,A⟩
   .show f.dd.dj q o a p A
   show((D a A).1 (.inr #[q,p])).elim
  obtain⟨_,A⟩|⟨rfl,_⟩:=t o a z2
  .show((D a p).1 (.inr #[o,A])).elim
  rfl
 .rcases t j a z1 with⟨_,p⟩|⟨rfl,p⟩
  .show f.dd.d1 j a p (N a z2)
  show(D a p).1 (.inl (N a z2))
 obtain z|⟨j,z⟩:=z
 .show n.roots a (.inl (N a z))
 obtain⟨_,y⟩|⟨_,y⟩:=t j a z
 .show n.roots a (.inr #[j,y])
 show .inr (D a y).2
def JQ(K:Rk X.K df k)(B:C.K=X.K)(G:X.N[i]?\x)(I:PV X.env.scope x)(J:(x==("__debug__":5))=df)(L:(x==("__classdict__":5))=df)(O:PE X e (OY C m))(hs:WQ e (b6 (.Attribute (.Name x Q) "rows" T)) f.line X.env=pure df):L2.PS X (.Assign [.Attribute (.Name x Q) "rows" T] e f) (PD C ns (m >>= λr=>lift r >>= λu=>T7 i (λ_ l=>b6 (u,l)) >>= λ_=>pure .nx)):=by
 show PS.weak (rj (br G I J L) O hs) ?_;rintro D σ H ⟨Y,rfl,rfl,n,h⟩;show aW n h λr c v t w=>?_;rw[ai]at w;let(S',ab,u,sS,p,n1,d,w1,_,_):=iX n t.ok t.nx t.rx.w w;rw[ai]at w1;let(u0,l,w',ws,hs,hf,i1,i2,q):=uL w1;ext hf;rw[ao]at q;let(g,UT,s,v0,a,vs,y,hk,o):=p.JO hs;cases(K.hc).one (B▸o.hc);let P5:Y.σ[i]?\b6 (.ref g):=by rw[<-t.hσ];show y
 show#[_,P5,g,k,s,_,9,o.ins,K.cls,(K.na _ 7),by change 2<1000;lia,?_];let(j,h1,A,h3,h4,OZ,n'):=p.Hq  n1.toNs hs y hk o (H':=upd c.H g (.ins k s (fJ "rows" v (UK v0 a))))   (λb z1 z2=>aj z1) (by rw[ak];rfl) (by rw[aj (sg o.ne)];show o.lst) i1 o.XR d o.SS;let z:=q j h4 OZ n' (Kept.of (A.trans t.hσ));rw[show Fin C D .nx j=D.nx _ j.H from rfl,h1,A]at z;rw[<-t.hσ];show z
def JR(K:Rk X.K df t)(g:C.K=X.K)(j:X.N[i]?\x)(k:PV X.env.scope x)(l:(x==("__debug__":5))=df)(m:(x==("__classdict__":5))=df)(y:(c.endLine==A.line)=4):L2.PS X (.Expr (.Call (.Attribute (.Attribute (.Name x Y) "earlier" p1) "append" c) [.Attribute (.Name x p2) "rows" p3] [] A) B) (PD C ns (T7 i Fp >>= λ_=>pure .nx)):=by
 show PS.weak (iU (tU F.plainAttrs_list F.slot_list_append F.type_list_append lh (JP j k l m) (bY (rh  (br j k l m) 9) dw) 9 9 y 9 9)) ?_;rintro D σ H ⟨G,rfl,rfl,n,h⟩;rw[ai]at h;let(u,us,w,ws,hs,d,i1,I,q):=uL h;unfold Fp at d;split at d
 rotate_left
 .cases d
 ext d;rw[ao]at q;let(r,UT,J,v,a,p,e,hk,o):=n.JO hs;let hl:=o.SS.len;unfold AW Zc;show o.ear K g e #[.inl #[9,p,Py.of o.lst],?_];cases(K.hc).one (g▸o.hc);show#[_,e,r,t,J,_,v,9,o.ins,K.cls,(K.na _ 7),9,a,p,v,9,9,o.lst,7,?_];let(f,L,s,h3,O,Q,T):=n.Hq  (Ns.refl G) hs e hk o  (λb z1 z2=>aj z2) (by rw[aj o.ne];show o.ins) ak o.im I o.rep (o.SS.snoc o.rep);let z:=q f O Q T (Kept.of s);rw[show Fin C D .nx f=D.nx _ f.H from rfl,L,s]at z;show z
def spN(a:ke):Sp:=λc H Q _=>∃x b,c=[.ref x]/\H x\.ins a b []/\∀t l,H t=ef->H l=ef->t≠l->Q .OP (upd (upd (upd H t (.tup [])) l (.lst [])) x (.ins a b (UK (.ref t) l)))
def nmA:nS->Bool|.Name a _=>eL (a="self")|_=>df
def atA(n:5):nS->Bool|.Attribute o b _=>nmA o&&eL (b=n)|_=>df
def Vt(n:5)(k:nS->Bool):RO->Bool|.Assign a e _=>(eL (-a=1)&&a.all (atA n))&&k e|_=>df
def JS:nS->Bool|.Tuple a _ _=>a.isEmpty|_=>df
def JT:nS->Bool|.List a _=>a.isEmpty|_=>df
def ini:↑RO->Bool|[a,b]=>Vt "rows" JS a&&Vt "earlier" JT b|_=>df
def Cs(h:ini b=4):∃a c,b=[a,c]/\Vt "rows" JS a=4/\Vt "earlier" JT c=4:=by
 cases b with
 |nil=>ext h|cons a b =>
  cases b with
  |nil=>ext h
  |cons c b =>
   cases b with
   |nil=>show#[a,c,9,ve.mp (h)]
   |cons _ _=>ext h
def Cu(h:atA n t=4):∃c d,t=.Attribute (.Name "self" c) n d:=by
 cases t with
 |Attribute o b d =>
  let(e,f):=ve.mp (h);cases of_decide_eq_true f;cases o with
  |Name a c=>cases of_decide_eq_true (e);show#[c,d,9]
  |_=>ext e
 |_=>ext h
def oG(h:Vt n k s=4):∃a b c e,s=.Assign [.Attribute (.Name "self" a) n b] e c/\k e=4:=by cases s with|Assign d e c=>let h:((decide _&&d.all _)&&k e)=4:=h;erw[dt,decide_eq_true_eq]at h;let((f,g),i):=h;let(t,rfl):=ä.mp f;let(a,b,rfl):=Cu (nH.mp g t 7);show#[a,b,c,e,9,i]|_=>ext h
def Aa(h:JS e=4):∃p q,e=.Tuple [] p q:=by cases e with|Tuple a p q=>cases M'.mp (h);show#[p,q,9]|_=>ext h
def Ab(h:JT e=4):∃p,e=.List [] p:=by cases e<;>first|(cases M'.mp h;show#[_,9])|cases h
def F5{K}{st}(F:SJ K "__init__" r st f C)(S:dy ["self"] ["self"] (aE st))(D:ini (bX st)=4)(u:PV (aE st) "self")(E:Rk K df b):d7 P w K O v Uu (k+1) f C ["self"] (spN b):=by
 show F.ok S (λG H Q E h=>by let(x,c,rfl,_):=h;rfl) λT A j s H G Q Y hr h=>?_;let(s1,s2,I,J,m):=Cs D;let(_,_,_,e1,rfl,L):=oG J;let(_,_,_,e2,rfl,N):=oG m;let(_,_,rfl):=Aa L;let(_,rfl):=Ab N;rw[I];let(x,c,rfl,d,q):=h;show#[_,fc (rj (br (i:=0) 9 u) (A7 dw) 9) (fc (rj (br (i:=0) 9 u) (vP dw) 9) mY),?_];show#[mh _,λt n=>#[_,9,x,b,c,[],9,?_,E.cls,(E.na _ 7),by decide,?_]]
 .rw[aj (λz=>by rw[z,n]at d;ext d)];show d
 let o:x≠t:=λz=>by rw[z,n]at d;ext d
 show#[mh _,λl hl=>#[_,9,x,b,c,fJ "rows" (.ref t) [],9,?_,E.cls,(E.na _ 7),by change 1<1000;decide,?_]]
 .let a:x≠l:=λz=>by rw[<-z,ak]at hl;ext hl
  rw[aj a,ak]
 let a:x≠l:=λz=>by rw[<-z,ak]at hl;ext hl
 let B:t≠l:=λz=>by rw[<-z,aj (sg o),ak]at hl;ext hl
 let z:=q t l n (by rw[aj (sg a),aj (sg B)]at hl;show hl) B;let e:upd (upd (upd (upd H t (.tup [])) x (.ins b c (fJ "rows" (.ref t) []))) l (.lst [])) x (.ins b c (fJ "earlier" (.ref l) (fJ "rows" (.ref t) [])))=upd (upd (upd H t (.tup [])) l (.lst [])) x (.ins b c (UK (.ref t) l)):=by
  funext y
  by_cases g:y=x
  .subst g;rw[ak,ak];rfl
  rw[aj g,aj g];by_cases p:y=l
  .subst p;rw[ak,ak]
  rw[aj p,aj p,aj g]
 change Q .OP _;left
def JU:nS->Bool|.Call f b c _=>(match f with|.Name a _=>eL (a="Shelf")|_=>df)&&(b.isEmpty&&c.isEmpty)|_=>df
def Ac(h:JU e=4):∃p q,e=.Call (.Name "Shelf" p) [] [] q:=by
 cases e with
 |Call f b c q =>
  cases f with
  |Name a p=>let h:(decide _&&(b.isEmpty&&c.isEmpty))=4:=h;left
  |_=>ext h
 |_=>ext h
def JV:↑RO->Bool|[a]=>Vt "shelf" JU a|_=>df
def Ad(h:JV b=4):∃s,b=[s]/\Vt "shelf" JU s=4:=by
 cases b with
 |nil=>ext h|cons s b =>
  cases b with
  |nil=>show#[s,9,h]
  |cons _ _=>ext h
structure NwD(cl cd x dd:ke)(H H':Hp)(r t l dx:ke):6 where
 old:∀y o,y≠x->H y\o->H' y\o
 hr:H r=ef
 hl:H l=ef
 ne:r≠l
 dk:H' x\.ins cd dd [("shelf",.ref r)]
 sh:H' r\.ins cl dx (UK (.ref t) l)
 ls:H' l\.lst []
 tu:H' t\.tup []
def spD(c a:ke):Sp:=λd H Q _=>∃x dd,d=[.ref x]/\H x\.ins a dd []/\∀b r t l e,NwD c a x dd H b r t l e->Q .OP b
def Cv{K}{st}(F:SJ K "__init__" B st f J)(S:dy ["self"] ["self"] (aE st))(L:JV (bX st)=4)(N:PV (aE st) "self")(O:∀X,X.env.scope=aE st->Gl X "Shelf")(E:Rk K 4 C) (M:Mk K c T) (G:d7 P w K D d Uu 1 T m ["self"] (spN c)) (n:Binds K m ["self"] []) (Y:D "Shelf"\.ref c):d7 P w K D d Uu 3 f J ["self"] (spD c C):=by
 show F.ok S (λvs H Q E h=>by let(x,a,rfl,_):=h;rfl) λQm A p s H vs Q E' hr h=>?_;let(s1,QB,VQ):=Ad L;let(_,_,_,e1,rfl,k1):=oG VQ;let(_,_,rfl):=Ac k1;rw[QB];let(x,dd,rfl,j,q):=h;show#[_,fc (rj (br (i:=0) 9 N) (tP M G hr (O _ 9) Y n .nil Hi) 9) mY,?_];intro r a k Xc Pp;show#[r,a,9,ak,λt l b hl RY=>#[9,?_]];let I:t≠r:=λz=>by rw[z,ak]at b;ext b
 let u:l≠r:=λz=>by rw[z,ak]at hl;ext hl
 rw[aj I]at b;rw[aj u]at hl;let v:t≠a:=λz=>by rw[z,ak]at b;ext b
 let ZI:l≠a:=λz=>by rw[z,ak]at hl;ext hl
 rw[aj v]at b;rw[aj ZI]at hl;let g:∀y o,H y\o->upd (upd (upd (upd (upd H a (.own r)) r (.ins c a [])) t (.tup [])) l (.lst [])) r (.ins c a (UK (.ref t) l)) y\o:=λy o e=>by rw[aj (ay e k),aj (ay e hl),aj (ay e b),aj (ay e k),aj (ay e Xc)];show e
 show#[_,9,x,C,dd,[],9,g x _ j,E.cls,E.na _ 7,by decide,?_];show q _ r t l a #[λy o z e=>by rw[aj z];show g y o e,k,hl,sg u,ak,by rw[aj (sg (ay j k)),ak],by rw[aj (sg (ay j hl)),aj u,ak],by rw[aj (sg (ay j b)),aj I,aj RY,ak]]
structure JW(C:Ct)(H:Hp)(r:ke)(as:↑ke)(o:U)(us:↑U)(vs:↑V):6 where
 par:∀x,C.QJ x->QK H x/\¬C.IO x
 iod:∀x,C.IO x↔x∈r::as
 ob:bf C (λ_=>False) H r as o
 any:au C C.QJ H us vs
structure uM(C:Ct)(H H':Hp)(S':ke->6)(r:ke)(o:U)(k:Kd)(u:U)(v:V):6 where
 same:∀x y,H x\y->¬C.IO x->H' x\y
 there:∀x y,H x\y->∃y',H' x\y'
 new:∀x,S' x->H x=ef/\∃y,H' x\y
 ob:∃as',(∀a∈as',C.IO a\/H a=ef)/\bf C S' H' r as' o
 loc:k=.loc->Rep C S' H' u v
def Uc(P:DD)(w:Q1)(K:W.Frag)(F:↑U->Option (Ex (Kd×U)))(m:8):Sp:=λg H Q E=>-g=m/\∃r h i d j a k u o n e IO,g=.ref r::h/\F (.ob d j a::i)\.ok (k,.tup [u,o])/\JW (TC P w K H e IO) H r n (.ob d j a) i h /\
 (k=.loc/\(∀v b f,uM (TC P w K H e IO) H b f r o k u v->Q v b) \/
  k=.io/\∃c,u=.str c/\∀l b f,W.nsIn K kr c\b6 (.ref l)->uM (TC P w K H e IO) H b f r o .io .OP .OP->E (.ref l) ef b)
def bf.rne{S}(h:bf C S H r a (.ob d u b)):r∉a:=by cases d with|false=>let(_,_,_,_,_,rfl,o):=h;exists o.ne|true=>let(_,_,_,_,_,_,_,_,rfl,k,o):=h;simpa using⟨k.ne,k.na⟩
def bf.X_{S e}(q:C.Eqv b)(c:∀x∈r::g,¬e x/\¬b.QJ x/\(b.H₀ x=ef\/b.IO x))(h:bf C S H r g (.ob d u f)):bf b e H r g (.ob d u f):=by
 let ob:∀{r a i j v l},(∀x∈[r,a],¬e x/\¬b.QJ x/\(b.H₀ x=ef\/b.IO x))->Sb C S H r a u f i j v l->Sb b e H r a u f i j v l:=λc o=>#[by rw[<-q.K];show o.hc,o.ins,o.ne,c,o.im,(o.rep.O6 o.im).cg q,o.lst,o.XR,(o.SS.O6 o.XR).cg q]
 cases d with|false=>let(_,_,_,_,_,rfl,o):=h;show#[_,_,_,_,_,9,ob c o]|true=>let(_,_,_,_,_,_,_,_,rfl,k,o):=h;show#[_,_,_,_,_,_,_,_,9,#[by rw[<-q.K];show k.hc,k.ins,k.ne,k.na,c _ ki],ob (λx m=>c x (ib _ m)) o]
def bf.ins{S}(h:bf C S H r f (.ob d u g)):∃b e c,SR C.K d b/\H r\.ins b e c/\∀y,y∉(["rows","earlier","shelf"]:↑5)->c.lookup y=ef:=by cases d with|false=>let(_,_,_,_,_,rfl,o):=h;show#[_,_,_,o.hc,o.ins,λy a=>by simp at a;simp[UK,WO,beq_eq_false_iff_ne.mpr a.1,beq_eq_false_iff_ne.mpr a.2.1]]|true=>let(_,_,_,_,_,_,_,_,rfl,k,o):=h;show#[_,_,_,k.hc,k.ins,λy a=>by simp at a;simp[WO,beq_eq_false_iff_ne.mpr a.2.2]]
structure Vw(C:Ct)(c:Cf)(i:8)(d d':Bool)(r r':ke)(as as':↑ke):6 where
 at_:c.σ[i]?\b6 (.ref r)
 kid:c.kid i=as
 sub:∀x∈r'::as',x∈r::as
 rb:∀(S':ke->6) (H':Hp) (Vu:↑ke) (u:U) (us:↑U),(∀x∈r::as,x∉r'::as'->H' x=c.H x/\¬S' x)->(∀x∈Vu,x∈r'::as'\/c.H x=ef)->bf C S' H' r' Vu (.ob d' u us)->∃Xd,bf C S' H' r Xd (.ob d u us)/\∀x∈Xd,x∈as\/c.H x=ef
section
variable{X:Cx}{C:Ct}{c0 c:Cf}{i:8}{w d d':Bool}{u u':U}{us P6:List U}{r r':ke}{as as':List ke}
def Ok.vw(p:Ok C c)(hs:c.st[i]?\b6 (.A',.ob d u us))(g:XU w d\d'):∃r r' as as',Vw C c i d d' r r' as as'/\bf C c.S c.H r' as' (.ob d' u us)/\(w=df->r'=r)/\(w=4->d=4/\∃f dd,SR C.K 4 f/\c.H r\.ins f dd [("shelf",.ref r')]):=by
 let(N,j,r,rfl):=p.sl i _ _ hs;let q:=p.dd.kd i _ r hs j;cases w with
 |false=>ext g;show#[r,r,_,_,#[j,9,λx h=>h,λD G t u us _ b h=>#[t,h,λx z=>(b x z).imp (λy=>(gb.mp y).resolve_left λe=>by rw[e]at z;show h.rne z) id]],q,λ_=>9,λz=>by ext z]|true =>
  cases d with
  |false=>ext g
  |true =>
   ext g;let(f,dd,s,l,m,v,a,n,I,k,o):=q;show#[r,s,_,[a],#[j,I,λx h=>ib _ h,λD G t u us J b h=>?_],#[l,m,v,a,n,9,o],(λz=>by ext z),λ_=>#[9,f,dd,k.hc,k.ins]];let(l,m,v,A,n,rfl,L):=h;let B:=J r ki (by simpa using⟨k.ne,k.na⟩);let b:=b A ki;show#[_,#[f,dd,s,l,m,v,A,n,9,#[k.hc,B.1.trans k.ins,k.ne,λz=>?_,B.2,k.fr.2],L],λx hx=>?_]
   .subst z;obtain z|z:=b
    .simp[k.ne,k.na]at z
    rw[k.ins]at z;ext z
   obtain rfl|hx:=gb.mp hx
   .show .inl ki
   rw[mN.mp hx];show b
def Ok.Hr(g:Ok C c)(n:Ns c0 c)(q:f.Eqv C)(hs:c.st[i]?\b6 (.A',.ob d u us))(vw:Vw C c i d d' r r' as as')(t:∀x,f.IO x↔x∈r'::as')
 {w} (b:uM f c.H h l r' (.ob d' u' P6) k w v) :
    ∃m,m.H=h/\m.σ=c.σ/\(∀x,m.S x↔c.S x\/l x)/\m.st=c.st.set i (b6 (.A',.ob d u' P6))/\Ok C m/\Ns c0 m:=by
  classical
  show let o:Hp:=λx=>if f.IO x then c.H x else h x;?_
  let A:∀x,¬f.IO x->o x=h x:=λx z=>if_neg z;let p:∀x,f.IO x->o x=c.H x:=λx z=>if_pos z;let B:∀x∈r::as,c.RD i x:=λx z=>#[_,r,hs,vw.at_,by rw[vw.kid];left]
  let T:=λx z=>B x (vw.sub x ((t x).mp z));let J:∀x∈r::as,¬l x:=λx z a=>by let(_,_,_,y,e,_):=g.root (.inr #[i,B x z]);rw[(b.new x a).1]at e;ext e
  let Y:hV c.H o:=λx y e=>by
    by_cases z:f.IO x
    . rw[p x z];show e
    . rw[A x z];show b.same x y e z
  let(OU,n1):=g.grow (H':=o) (S':=λx=>c.S x\/l x) Y (λx z=>z.imp id λz=>#[(b.new x z).1,by rw[A x λa=>J x (vw.sub x ((t x).mp a)) z];show(b.new x z).2]) λx=>.inl;let(Vu,YE,L):=b.ob;let hf:=L.fr;let N:∀x∈r::as,¬(c.S x\/l x)/\¬C.QJ x/\(C.H₀ x=ef\/C.IO x):=λx z=>by let(z1,z2,D,_):=g.root (.inr #[i,B x z]);show#[λa=>a.elim z1 (J x z),z2,D]
  let O:=λx z=>(YE x z).imp (t x).mp id;let G:=L.X_ q λx s=>by
    let y:=(gb.mp s).elim (λz=>.inl (z▸ki)) (O x);obtain y|y:=y
    . show N x (vw.sub x y)
    . let(z1,z2,D,_,_):=g.kB y
      show#[λz=>z.elim z2 (hf x s).1,D,.inl z1]
  let(Q,I,h3):=vw.rb _ h Vu u' P6 (λx s z=>by let(_,_,_,y,e,_):=g.root (.inr #[i,B x s]);show#[(b.same x y e λa=>z ((t x).mp a)).trans e.symm,(N x s).1]) O G
  let(Pk,n2):=Ok.FU  (H':=h) (u':=.ob d u' P6) (as':=Q) OU (n.trans n1.toNs) hs vw.at_
    (λx z=>(A x λa=>z (T x a)).symm) (λx y e=>by
      by_cases z:f.IO x
      . rw[show({c with H:=o,S:=λx=>c.S x\/l x}:Cf).H x=o x from rfl,p x z]at e
        show b.there x y e
      . show#[y,by rw[<-A x z];show e])
    (λ_=>I) (λy hy=>(h3 y hy).imp (λz=>by change y∈c.kid i;rw[vw.kid];show z) λz=>#[(g.kB z).2.2.2.2,n.none z])
  show#[{c with H:=h,S:=λx=>c.S x\/l x,st:=c.st.set i (b6 (.A',.ob d u' P6)),kid:=λj=>if j=i then Q else c.kid j},9,9,λx=>Ģ,9,Pk,n2]
theorem au.Cw{S}:∀{us}{a},-us=-a->(∀(j:8) u,us[j]?\u->∃v,a[j]?\v/\Rep C S H u v)->au C S H us a
 |[],[],_,_=>9|[],_::_,h,_=>nomatch h
 |_::_,[],h,_=>nomatch h
 |u::us,v::a,h,f=>by let(b,e,r):=f 0 u 9;ext e;show#[v,a,9,r,au.Cw (by exists h) λj u e=>f (j+1) u e]
def Qb.Om(t:Qb C c0 c n o)(p:C.P=X.prog)(s:C.w=X.w)(A:C.K=X.K)(hs:c.st[i]?\b6 (.A',.ob d u us))(vw:Vw C c i d d' r r' as as')(B:bf C c.S c.H r' as' (.ob d' u us)):JW (TC X.prog X.w X.K c.H (λx=>QK c.H x/\x∉r'::as') λx=>x∈r'::as') c.H r' as' (.ob d' u us) (n.map (·.2)) o:=by
 let a:C.Eqv (TC X.prog X.w X.K c.H (λx=>QK c.H x/\x∉r'::as') λx=>x∈r'::as'):=#[p,s,A]
 let f:∀x∈r'::as',c.RD i x:=λx z=>#[_,r,hs,vw.at_,by rw[vw.kid];show gb.mp (vw.sub x z)]
 let g:∀x,c.S x->QK c.H x/\x∉r'::as':=λx z=>#[t.ok.BH x z,λh=>(t.ok.root (.inr #[i,f x h])).1 z]
 show#[λx z=>z,λx=>Ģ,B.X_ a λx k=>#[λz=>z,λz=>z.2 k,.inr k],au.Cw (by rw[f7];show t.len) λm w e=>?_];rw[ri,i0]at e;let((D,G),e,rfl):=e;let(v,I,b2):=t.nth e;show#[v,I,Rep.cg a (u:=G) ?_];cases D with|own=>let(q,rfl,_,J,l,b):=b2;let(y,j,_):=b.some;show b.rep g #[#[y,j],λz=>l (.inr #[i,f q z])]|loc=>show Rep.mv (.up g) b2|any=>show Rep.mv (.up λy z=>z.elim (λz=>#[t.ok.LZ y (.inl z),λh=>(t.ok.root (.inr #[i,f y h])).2.1 z]) (g y)) b2|bor L=>let(q,rfl,J,l,_,b):=t.ok.rootOf b2.1 b2.2;let(y,j,_):=b.some;let(N,z1,z2):=b2.1;show b.rep g #[#[y,j],λz=>t.ok.dd.d1 i q (f q z) #[L,N,_,z1,z2,b2.2]]|_=>show b2.elim
def Ae(h:r9 k x\p):k=.loc/\p=.inl (.loc,x)\/k=.io/\∃c,x=.str c/\p=.inr c:=by
 unfold r9 at h;split at h
 .cases h;show .inl #[9,9]
 .cases h;show .inr #[9,_,9,9]
 ext h
def Af(h:BO d o\p):∃k x,o\.ok (k,.tup [x,.ob d p.2.1 p.2.2])/\r9 k x\p.1:=by
 unfold BO at h;split at h
 .split at h
  .rename_i z;subst z;rw[i0]at h;let(r,a,rfl):=h;show#[_,_,9,a]
  ext h
 ext h
def oH{st}(h:W (dA Γ f w i a) st Q):∃d d' u us k x u' P6 p,st[i]?\b6 (.A',.ob d u us)/\XU w d\d'/\Γ f (.ob d' u us::a.map (·.2))\.ok (k,.tup [x,.ob d' u' P6])/\r9 k x\p/\Q p (st.set i (b6 (.A',.ob d u' P6))):=by
 let(p,b,e,q):=h;unfold dA at e;split at e
 .rename_i d u us hs;rw[mx]at e;let(d',g,e):=e;rw[i0]at e;let(z,j,e):=e;let(k,x,l,m):=Af j;ext e;show#[d,d',u,us,k,x,_,_,_,hs,g,l,m,q]
 ext e
end
end TM
namespace TM
open PySem L2 PyProof.Rows PySem.W
inductive S6(X:Cx)(C:Ct)(pins:↑(ke×Obj))(c0:Cf)(Post:5->aq->6)(v:i7)(s':kj):6|mk (c c2:Cf) (s1:kj) (ea T Cc:ke) (H':Hp) (cl:Str):v=.ref ea->c2.σ=c0.σ->Ok C c2->Nx c0 c2->Inv X pins c0.σ c.H s1->cy X.prog X.w X.stack c.H s1 ea Cc (b6 T) .none H' s'->c2.H=H'->ŭ X.K kr cl\b6 (.ref Cc)->Post cl c2.st->S6 X C pins c0 Post v s'
inductive EN1(X:Cx)(C:Ct)(pins:↑(ke×Obj))(c0:Cf)(Post:Kd×U->aq->6)(u:i7)(s':kj):6|mk (r:Kd×U) (c:Cf) (v:V):Rg C c0 c r v->Inv X pins c0.σ c.H s'->RelV v u->Post r c.st->EN1 X C pins c0 Post u s'
def PR(X:Cx)(C:Ct)(e:nS)(m:M (Sum (Kd×U) 5)):6:=∀(a:↑(ke×Obj)) (s:kj) (c:Cf) (b:Sum (Kd×U) 5->aq->6),Inv X a c.σ c.H s->Ok C c->W m c.st b ->
 ‹X› (uv e X.env) (EN1 X C a c λr st=>b (.inl r) st) (S6 X C a c λd st=>b (.inr d) st) s
def S6.mono(h:∀b st,P b st->d b st)(z:S6 X C a f P v g):S6 X C a f d v g:=by let(c,i,j,k,T,l,m,b,e,o,p,n,I,F,r,s,q):=z;show#[c,i,j,k,T,l,m,b,e,o,p,n,I,F,r,s,h _ _ q]
def yu(h:PR X C e b):PE X e (OY C (b >>= V2)):=by
 rintro a s σ H Q I ⟨d,rfl,rfl,f,w⟩;rw[ai]at w;show mu (h a s d _ I f w) (λu j z=>?_) λv k z=>?_
 .let(r,c,v,t,g,i,q):=z;show#[v,c.H,g,i,ao.mp q c v t.hσ 9 t.ok t.nx t.rx]
 let(_,_,_,_,_,_,_,_,_,_,_,_,_,_,_,_,q):=z;show(bp.mp q).elim
def Ag{u}(hP:C.P=X.prog)(hw:C.w=X.w)(hK:C.K=X.K)(hF:Γ f=F)(Sj:∀u r,F u\.ok r->-u=L) (G:d7 X.prog X.w X.K X.mg X.base (Q_ X.prog X.w) kd fa fd ps (Uc X.prog X.w X.K F L)) (hr:cY kd X.A) (hb:Binds X.K fd ps []) (t:Qb C y c rs n) (Y:Inv X j c.σ c.H s) (rv:Vals n u) (h:W (dA Γ f w i rs) c.st g) (hq:∀r a,c.σ[i]?\b6 (.ref r)->(w=df->a=r)->(w=4->∃cd dd,c.H r\.ins cd dd [("shelf",.ref a)])->a=q) :
  ‹X› (WH (.ref fa) (.ref q::u)) (EN1 X C j y λr st=>g (.inl r) st) (S6 X C j y λD st=>g (.inr D) st) s:=by
 let(d,d',u1,X7,k,N,u',P6,p,hs,hv,O,he,q0):=oH h;rw[hF]at O;let(r,a,as,l,vw,rd,I,g2):=t.ok.vw hs hv;let e:=hq r a vw.at_ I λz=>let ⟨_,cd,dd,_,z⟩:=g2 z;⟨cd,dd,z⟩;subst e;let qv:(TC X.prog X.w X.K c.H (λx=>QK c.H x/\x∉a::l) λx=>x∈a::l).Eqv C:=#[hP.symm,hw.symm,hK.symm]
 let J:=t.Om (X:=X) hP hw hK hs vw rd;let o:⇑(V.ref a::n)=L:=by let z:=Sj _ _ O;rw[<-z];simp[t.len]
 obtain⟨rfl,rfl⟩|⟨rfl,c',rfl,rfl⟩:=Ae he
 .let PZ:Uc X.prog X.w X.K F L (.ref a::n) c.H (λv B=>∃m:Cf,Rg C y m (.loc,N) v/\m.H=B/\g (.inl (.loc,N)) m.st) E0:=#[o,a,n,_,d',u1,X7,.loc,N,_,l,_,_,9,O,J,.inl #[9,λv B S' b=>by let(m,Q,h2,h3,h4,OZ,n'):=t.ok.Hr (c0:=y) t.nx.toNs qv hs vw (λx=>Ģ) b;show#[m,#[h2.trans t.hσ,OZ,#[n'],?_],Q,by left];change Rep C m.S m.H N v;rw[Q];show((b.loc 9).cg qv).mv (.up λx z=>(h3 x).mpr (.inr z))]]
  show mu (m_ (us:=.ref a::u) (vs:=.ref a::n) (EE:=S6 X C j y λD st=>g (.inr D) st) G hr hb Y (.cons 9 rv) PZ λ_ _ ⟨_,_,_,_,_,_,z⟩=>z.elim) (λv s2 z=>?_) λ_ _ z=>z;let(v',H2,I2,r2,m,t2,I,q):=z;subst I;rw[t.hσ]at I2;show#[_,m,v',t2,I2,r2,q]
 let PZ:Uc X.prog X.w X.K F L (.ref a::n) c.H (λ_ _=>False) (λv _ B=>∃Cc S',v=.ref Cc/\ŭ X.K kr c'\b6 (.ref Cc)/\uM (TC X.prog X.w X.K c.H (λx=>QK c.H x/\x∉a::l) λx=>x∈a::l) c.H B S' a (.ob d' u' P6) .io .OP .OP):=#[o,a,n,_,d',u1,X7,.io,_,_,l,_,_,9,O,J,.inr #[9,_,9,λC1 H1 S1 Q h2=>#[C1,S1,9,Q,h2]]]
 show mu (m_ (us:=.ref a::u) (vs:=.ref a::n) (EE:=S6 X C j y λD st=>g (.inr D) st) G hr hb Y (.cons 9 rv) PZ λv s' z=>?_) (λv s2 ⟨_,_,_,_,z⟩=>z.elim) λ_ _ z=>z;let(ea,C1,T,B,e3,F',Cc,S',e4,e5,bk):=z;ext e4;let(m,I,g2,g3,g4,OZ,n'):=t.ok.Hr (c0:=y) t.nx.toNs qv hs vw (λx=>Ģ) bk;show#[c,m,s,ea,T,_,B,c',e3,g2.trans t.hσ,OZ,#[n'],by rw[<-t.hσ];show Y,F',I,e5,by rw[g4];show q0]
def Qb.none(b:Ok C a):Qb C a a [] []:=#[9,b,Nx.refl a,9,ttt]
def oI{st}{Q}(h:W (RW d i) st Q):∃u a,st[i]?\b6 (.A',.ob d u a)/\Q () st:=by
 let(p,b,e,h):=h;unfold RW at e;split at e
 .rename_i u a hs;split at e
  .rename_i z;subst z;ext e;show#[_,_,hs,h]
  ext e
 ext e
def V6(X:Cx)(o:nS)(m:5)(b:↑nS)(c a:Pos):6:=∃e:Sem Bool,uv (.Call (.Attribute o m c) b [] a) X.env=(do
   let d <-uv o X.env
   ĕ c.atName
   let (f,first) <-VE [d] (getMethod d m e)
   callWith a f first (QX a (j0 b X.env)) (ZC a (V' [] X.env)))
def F6(e:((QX a (j0 c X.env)).all (λx=>!x.1)&&(ZC a (V' [] X.env)).all (λx=>x.1.isSome)&&eL (-c+⇑([]:↑Yn)+(if ([]:↑Yn).isEmpty then 0 else 1)<30))=4)(f:(d.endLine==a.line)=4)(g:Wk o m X.env (uv o X.env)=uv o X.env):V6 X o m c d a:=by
 let h:methodCallForm _ _ _=4:=e;let b:methodCallPos 4 o X.env d a=pure a:=by unfold methodCallPos;simp[f]
 show#[do return (<-importBound o X.env).getD 4,?_];rw[arm_eval_Call,g];unfold methodCall calleeOf;rw[h,b];rfl
def sj{Q}{E}(g:V6 X o m d p h)(hs:∀e c,d=e::c->j0 (e::c) X.env=(df,uv e X.env)::j0 c X.env/\(QX h (j0 c X.env)).any (·.1)=df) (r:H q\.ins j L t) (hl:t.lookup m=ef) (u:Tf X.K j) (i:Meth X.K j m k) (I:Inv X a σ H s) (ho:‹X› (uv o X.env) (EP X.P4 a σ λv l=>v=.ref q/\l=H) (λ_ _=>False) s) (x:d=[]->∀b,Inv X a σ H b->‹X› (WH (.ref k) [.ref q]) Q E b) (y:d≠[]->∀b,Inv X a σ H b->‹X› (spliced (QX h (j0 d X.env))) (λB n=>X.K.In n.heap/\‹X› (WH (.ref k) (.ref q::B)) Q E n) E b) :
  ‹X› (uv (.Call (.Attribute o m p) d [] h) X.env) Q E s:=by
 let(N,g):=g;show W.methodCall_KW  (mu ho (λC b z=>?_) λ_ _ z=>z.elim) g;let(O,l,f,D,G,J):=z;subst G J;obtain rfl:C=rr q:=D;let f:=f.da;show vL f r u i hl ?_;cases d with|nil=>show W.callWith_K0  f.QA i.kp (x 9 b f)|cons e c=>show W.callWith_K   I.ok.mod.Uj i.kp (y (λz=>nomatch z) b f) (hs e c 9).1 (hs e c 9).2
def Oo(K:Rk X.K d Q)(v:C.P=X.prog)(y:C.w=X.w)(k:C.K=X.K)(T:X.N[i]?\x)(Y:PV X.env.scope x)(hd:(x==("__debug__":5))=df)(O5:(x==("__classdict__":5))=df)(B:Γ f=F)(D:∀b r,F b\.ok r->-b=np)(G:d7 X.prog X.w X.K X.mg X.base (Q_ X.prog X.w) kd fa fd ps (Uc X.prog X.w X.K F np))(H:cY kd X.A)(hm:Meth X.K Q m fa)(J:Binds X.K fd ps [])(hy:m∉(["rows","earlier","shelf"]:↑5)) (ha:PA X.P4 g (Qp C ms)) (hn:g=[]->ms=pure []) (hs:∀e j,g=e::j->j0 (e::j) X.env=(df,uv e X.env)::j0 j X.env/\(QX l (j0 j X.env)).any (·.1)=df) (ht:V6 X (.Name x px) m g p2 l) :PR X C (.Call (.Attribute (.Name x px) m p2) g [] l) (RW d i >>= λ_=>ms >>= λn=>az n >>= λ_=>dA Γ f df i n):=by
 intro a s c0 L I ok h;rw[ai]at h;let(u,b,Qg,h):=oI h;let(r,q,_,_,vw,rd,g1,_):=ok.vw (w:=df) Qg 9;cases g1 9;let(UT,dx,fs,hc,QF,hl):=rd.ins;cases(K.hc).one (k▸hc);show sj ht hs QF (hl m hy) K.cls hm I (br (X:=X.P4) T Y hd O5 a s _ _ _ (I.fP _) #[_,vw.at_,9,9]) (λe s1 o=>?_) λe s1 o=>?_
 .subst e;rw[hn rfl,ai,ao,ai,bU]at h;show Ag v y k B D G H J (Qb.none ok) o .nil h.2 λr' q' e p _=>by rw[vw.at_]at e;ext e;show p 9
 show mu (args (X:=X.P4) ha (o.fP _) ok h l) (λb s2 ⟨n,c,vs,t,O,rv,w⟩=>#[O.QA,?_]) λ_ _ z=>z.elim;show Ag v y k B D G H J t O.da rv w λr' q' e p _=>by rw[t.hσ,vw.at_]at e;ext e;show p 9
def Oq(L:C.P=X.prog)(O:C.w=X.w)(Q:C.K=X.K)(T:X.N[i]?\x)(Y:PV X.env.scope x)(hd:(x==("__debug__":5))=df)(O5:(x==("__classdict__":5))=df)(hF:Γ f=F)(Sj:∀m r,F m\.ok r->-m=np)(G:d7 X.prog X.w X.K X.mg X.base (Q_ X.prog X.w) kd v fd ps (Uc X.prog X.w X.K F np))(hr:cY kd X.A)(hg:Gl X f)(hm:X.mg f\.ref v)(Vl:W.keepIn X.K (.ref v)=4)(hb:Binds X.K fd ps [])(Q3:(f==("__debug__":5))=df) (ha:PA X.P4 y (Qp C ms)) (Qr:(QX B (j0 y X.env)).any (·.1)=df) :PR X C (.Call (.Name f p0) (.Name x px::y) [] B) (RW d i >>= λ_=>ms >>= λa=>az a >>= λ_=>dA Γ f df i a):=by
 intro b s k g I ok h;rw[ai]at h;let(u,m,Qg,h):=oI h;let(r,q,_,_,vw,rd,g1,_):=ok.vw (w:=df) Qg 9;cases g1 9;show tj (eO I hg hm ?_ Q3);rw[ai]at h;show W.callWith_K (h₀:=X.base) I.ok.mod.Uj Vl (mu (bY (X:=X.P4) (br (pos:=px) T Y hd O5) ha 9 B b s k.σ k.H (λD J=>∃a c j,D=.ref r::j/\c.H=J/\Qb C k c a j/\W (dA Γ f df i a) c.st g) (I.fP _) ⟨_,vw.at_,k,9,9,ok,h.mono λa ab n c1 j e1 o OU n1 r1=>?_⟩) (λD s1 z=>?_) λ_ _ z=>z.elim) 9 Qr
 .rw[ai,bU]at n;subst o;show#[a,c1,j,9,9,#[e1,OU,n1,r1,n.1],n.2]
 let(_,J,l,p,a,c,j,rfl,rfl,t,w):=z;let l:=l.da;cases p with|cons ra p=>ext ra;show#[l.QA,Ag L O Q hF Sj G hr hb t (by rw[t.hσ];show l) p w λr' q' e o _=>by rw[t.hσ,vw.at_]at e;ext e;show o 9]
inductive V7(C:Ct)(js:↑(8 × 8))(σ:L2.St)(H:Hp)(Q:↑V->Hp->6):6|mk (c0:Cf) (rs:↑(Kd×U)):c0.σ=σ->c0.H=H->Ok C c0->UP c0.st js\rs->(∀vs,Qb C c0 c0 rs vs->Q vs H)->V7 C js σ H Q
def F7:PA X [] (V7 C []):=by rintro b a s σ H Q I ⟨c,e,rfl,rfl,d,h,q⟩;ext h;show dw b a s _ c.H Q I (q [] (Qb.none d))
def Cy{st}(h:Z6 st (j,n)\r):∃k a,(k=.loc\/k=.any)/\st[j]?\b6 (k,.tup a)/\a[n]?\r.2/\r.1=k:=by
 unfold Z6 at h
 dsimp only at h
 split at h
 .rename_i a hs;rw[i0]at h;let(u,h,rfl):=h;show#[_,_,.inl 9,hs,h,9]
 .rename_i a hs;rw[i0]at h;let(u,h,rfl):=h;show#[_,_,.inr 9,hs,h,9]
 ext h
def F8(p:C.K=X.K)(u:PE X e (tOp (LL X.K) (AQ j) (tC (.int (n:8)))))(w:PA X f (V7 C x))(hs:j0 (e::f) X.env=(df,uv e X.env)::j0 f X.env):PA X (e::f) (V7 C ((j,n)::x)):=by
 rintro g b s σ H Q I ⟨c,i,rfl,rfl,d,h,q⟩;rw[UP,mx]at h;let(r,y,h):=h;rw[i0]at h;let(i,A,rfl):=h;let(k,B,hk,D,l,m):=Cy y;let(G,ur):=r
 dsimp only at l m
 subst m;let(v,J,L):=d.sl j _ _ D;let N:aP C c c G (.tup B) v:=by obtain rfl|rfl:=hk<;>show L
 let(a,O,rfl,T,Y):=N.tuple d;let(o,g4,g5):=Y.get l;show bY u w hs g b s _ c.H Q I #[_,J,a,O,n,o,9,9,p▸T,?_,c,i,9,9,d,A,λws t=>q _ #[9,d,Nx.refl c,#[o,ws,9,?_,t.rep,λz=>?_],?_]]
 .show bo g4
 .rcases hk with rfl|rfl<;>show g5
 .simp_all
 obtain rfl|rfl:=hk<;>show t.Tv
def Ms(p:Rk X.K 4 J)(K:Rk X.K df cl)(L:C.P=X.prog)(O:C.w=X.w)(c:C.K=X.K)(hN:X.N[i]?\x)(hv:PV X.env.scope x)(hd:(x==("__debug__":5))=df)(O5:(x==("__classdict__":5))=df)(Q:Γ f=F)(T:∀u r,F u\.ok r->-u=np)(G:d7 X.prog X.w X.K X.mg X.base (Q_ X.prog X.w) kd fa fd ps (Uc X.prog X.w X.K F np))(Y:cY kd X.A)(hm:Meth X.K cl m fa)(hb:Binds X.K fd ps [])(hy:m∉(["rows","earlier","shelf"]:↑5)) (ha:PA X.P4 g (V7 C js)) (hn:g=[]->js=[]) (hs:∀e j,g=e::j->j0 (e::j) X.env=(df,uv e X.env)::j0 j X.env/\(QX v (j0 j X.env)).any (·.1)=df) (ht:V6 X (.Attribute (.Name x px) "shelf" p1) m g p2 v) :PR X C (.Call (.Attribute (.Attribute (.Name x px) "shelf" p1) m p2) g [] v) (Vi js >>= λk=>dA Γ f 4 i k):=by
 intro a s b ab I ok h;rw[ai]at h;let(k,ac,e,h):=h;unfold Vi at e;rw[i0]at e;let(Sx,y,e):=e;ext e;let(d,d',u1,X7,_,_,_,_,_,Qg,UG,_,_,_):=oH h;let(r,q,_,_,vw,rd,_,g2):=ok.vw (w:=4) Qg UG;let(rfl,al,dd,R4,Xg):=g2 9;ext UG;cases(p.hc).one (c▸R4);let(UT,dx,fs,hc,QF,hl):=rd.ins;cases(K.hc).one (c▸hc);let hq:∀l n:ke,b.σ[i]?\b6 (.ref l)->(4=df->n=l)->(4=4->∃J dd,b.H l\.ins J dd [("shelf",.ref n)])->n=q:=λl n e _ o=>by rw[vw.at_]at e;ext e;let(_,_,o):=o 9;rw[Xg]at o;ext o;rfl
 show sj ht hs QF (hl m hy) K.cls hm I (rh (X:=X.P4) (br hN hv hd O5) 9 a s _ _ _ (I.fP _) #[_,vw.at_,r,_,dd,_,_,9,Xg,p.cls,p.na _ 7,9,9,9]) (λe s1 B=>?_) λe s1 B=>?_
 .rw[hn e]at y;ext y;show Ag L O c Q T G Y hb (Qb.none ok) B .nil h hq
 show mu (ha v a s1 _ _ (λD H1=>H1=b.H/\Qb C b b k D) (B.fP _) ⟨b,k,9,9,ok,y,λD t=>#[9,t]⟩) (λu s2 z=>?_) λ_ _ z=>z.elim;let(D,H1,I2,rv,rfl,t):=z;show#[I2.da.QA,Ag L O c Q T G Y hb t I2.da rv h hq]
def Mt(x:C.P=X.prog)(y:C.w=X.w)(B:C.K=X.K)(D:Γ f=F)(hk:∀m k u,F m\.ok (k,u)->(k=.own\/k=.loc\/k=.any)/\-m=J) (G:d7 X.prog X.w X.K X.mg X.base (Q_ X.prog X.w) L o N O (spT X.prog X.w X.K F J)) (T:cY L X.A) (Y:Gl X f) (hm:X.mg f\.ref o) (Vl:W.keepIn X.K (.ref o)=4) (hb:Binds X.K N O []) (Q3:(f==("__debug__":5))=df) (ha:PR X C a mr) (p:j0 [a] X.env=[(df,uv a X.env)]):PR X C (.Call (.Name f p2) [a] [] p3) (mr >>= L4 Γ f):=by
 intro d s j b I ok h;rw[ai]at h;show tj (eO I Y hm ?_ Q3);show W.callWith_K   I.ok.mod.Uj Vl ?_ p 9;rw[p];show vr (mu (ha d s j _ I ok h) (λu s1 z=>Q9 ?_) λv s1 z=>z.mono λcl st q=>ao.mp q);let(r,c,v,t,l,rv,w):=z;let w:W (az [r] >>= λ_=>jx Γ f _ >>= λr=>pure _) c.st b:=w;rw[ai,bU,ai]at w;let(OQ,w):=w;let ta:Qb C j c [r] [v]:=#[t.hσ,t.ok,t.nx,#[v,[],9,t.rx.w,9,λ_ i r' v' e _ _=>by simp at e],OQ]
 rw[<-t.hσ]at l;show#[l.QA,mu (yo (X:=X.P4) (Q:=λv H=>∃r g,Rg C j g r v/\g.H=H/\b (.inl r) g.st) x y B D hk G T hb ta (l.fP _) (.cons rv .nil) (w.mono λr st q c v e1 e2 ok n rx=>#[r,c,#[e1,ok,n,rx],9,e2▸ao.mp q])) (λu2 s2 z=>?_) λ_ _ z=>z.elim];let(v2,H2,I2,r2,r1,g,t2,rfl,q2):=z;show#[r1,g,v2,t2,I2.da,r2,q2]
def JX(l:PR X C a m)(n:∀c d,C.xw (.str c) d->∀f T H b σ s e g,ŭ X.K kr c\b6 (.ref f)->Inv X b σ H s->cy X.prog X.w X.stack H s e f T .none d g->X.xe (.ref e) g):L2.PS X (.Return (b6 a) o) (PD C ns (m >>= BS)):=by
 rintro b s σ H D I ⟨p,rfl,rfl,i,h⟩;rw[ai]at h;show Ľ (mu (l b s p _ I i h) (λu j z=>?_) λv j z=>?_)
 .let(r,c,v,t,x,y,q):=z;show#[v,_,c.H,x,y,uH i t q]
 let(c,k,A,B,T,G,d,J,rfl,L,N,O,Q,F,rfl,Y,q):=z;rw[show BS _=pure _ from rfl,ao]at q;show n J k.H (q k 9 N O (Kept.of L)) G _ c.H b _ A B j Y Q F
def JY(K:Rk X.K df p)(O:Rk X.K 4 c)(u:C.K=X.K)(Q:∀j,T j=4->j≠i)(Y:X.N.Nodup)(v:X.N[i]?\x)(hx:Loc X.env.scope x)(hf:X.fn x=4\/X.env.scope.names.lookup x\.local)(M:Mk X.K c fi)(G:d7 X.prog X.w X.K X.mg X.base Uu 3 fi fd ["self"] (spD p c))(hr:cY 0x4 X.A) (hg:Gl X "Desk") (hm:X.mg "Desk"\.ref c) (hb:Binds X.K fd ["self"] []) :L2.PS X (.Assign [.Name x px] (.Call (.Name "Desk" p0) [] [] N') ab) (PD C T (λst=>b6 (.ok .nx,st.set i (b6 (.A',.ob 4 (.tup []) []))))):=by
 rintro d s σ H D I ⟨a,rfl,rfl,ok,fl,ac,e,h⟩;ext e;let Qq:i< -a.σ:=by rw[I.len];show(gr.mp v).1
 show qY Y v hx (tP M G hr hg hm hb .nil Hi) 9 hf d s a.σ a.H D I ?_;intro r f k Xc Pp;show#[r,f,9,ak,λB q t l m b=>#[9,?_]];let g:∀y,upd (upd a.H f (.own r)) r (.ins c f []) y=ef->a.H y=ef/\r≠y:=λy e=>by
  let J:y≠r:=λz=>by rw[z,ak]at e;ext e
  rw[aj J]at e;let y2:y≠f:=λz=>by rw[z,ak]at e;ext e
  rw[aj y2]at e;show#[e,sg J]
 let(L,rq):=g q b.hr;let(hl,rl):=g l b.hl;let(OU,n1):=ok.grow (H':=B)  (λy o e=>b.old y o (ay e k) (by rw[aj (ay e k),aj (ay e Xc)];show e)) (λy z=>.inl z) λy z=>z;let n:∀y,a.H y=ef->¬a.S y/\¬C.QJ y/\(C.H₀ y=ef\/C.IO y):=λy e=>let z:=ok.kB e;⟨z.2.1,z.2.2.1,.inl z.1⟩;let rd:bf C a.S B r [q,l] (.ob 4 (.tup []) []):=#[c,f,q,p,m,.ref t,l,[],9,#[u▸O.hc,b.dk,rq,rl,n r k],u▸K.hc,b.sh,b.ne,λy hy=>by
  obtain rfl|hy:=gb.mp hy
  .show n _ L
  rw[mN.mp hy];show n _ hl,9,#[t,[],9,Pu.of b.tu,9],b.ls,9,9]
 let(Pk,n2):=Ok.Ol  (i:=i) OU n1.toNs Qq rd (λy hy=>by
  let e:a.H y=ef:=by
   erw[gb,Zn,or_false]at hy;obtain rfl|rfl|rfl:=hy
   .lia
   .show L
   lia
  show#[(ok.kB e).2.2.2.2,e])
 show h _ 9 Pk n2 #[λj hj=>ko (sg (Q j hj)),by simp]
end TM
namespace TM
open PySem L2 PyProof.Rows
def uN{k:5->M β}{st}{Q}(h:W (ia x >>= k) st Q):∃y,x.2=.str y/\W (k y) st Q:=by let(a,u):=x;cases u with|str y=>show#[y,9,h]|_=>show(bp.mp (ai.mp h |>.mono λ_ _ z=>z)).elim
def Mu(hN:X.N[i]?\x)(hv:PV X.env.scope x)(hd:(x==("__debug__":5))=df)(O5:(x==("__classdict__":5))=df)(hb:PE X b (OY C mb))(Q5:Wk b "replace" X.env (uv b X.env)=uv b X.env)(O8:(m.endLine==N'.line)=4)(Pp:(o==l)=df)(RN:-l<=14):L2.PS X (.If (.Compare (.Name x px) [.Eq] [.Constant (.str p) k1 p1] p2) [.Return (b6 (.Call (.Attribute b "replace" m) [.Constant (.str o) k2 p4,.Constant (.str l) k3 p5] [] N')) p6] [] pos) (PD C ns (dM i >>= λr=>ia r >>= λz=>if z=p then(mb >>= λr=>ia r >>= λt=>zR t o l) else pure .nx)):=by
 rintro g s σ H D I ⟨f,rfl,rfl,ok,h⟩;rw[ai]at h;show wpAny_If (Ā (OV (ng (C:=C) hN hv hd O5 g s f.σ f.H (λv J=>∃z c,c.H=J/\c.σ=f.σ/\Ok C c/\Nx f c/\v=.str z/\W (if z=p then(mb >>= λr=>ia r >>= λt=>zR t o l) else pure .nx) c.st (iB C f ns D)) I ⟨f,9,9,ok,h.mono λr st w c v Q q A n T=>?_⟩) λv Y ⟨x',J,I1,r1,z,c,Q,q,OU,n1,e3,w⟩=>Â ?_) 9)
 .let(y,B,w):=uN w;show#[y,c,9,Q,A,n,by let(k,u):=r;dsimp only at B;subst B;show T.str A,by rw[q];show w]
 subst Q e3;show mu (wpAny_toks_of (n:=1) (show 1<=Y.toks+1 by lia) (Lx g {Y with toks:=Y.toks+1} f.σ c.H (.str z) (.str p) v _ (λv H=>v=.bl (eL (V.str z=V.str p))/\H=c.H) (I1.tok _) r1 ⟨_,9⟩ ⟨9,9,9⟩)) (λd s3 z=>?_) λ_ _ z=>z.2;let(ht,vz,H3,I3,r3,rfl,rfl):=z;ext r3;show RM ?_;by_cases L:z=p
 .rw[if_pos L]at w;rw[if_pos (by rw[L];simp)];rw[ai]at w;show ŉ (Ľ (ô Q5 9 O8 9 (mu (wpAny_toks_of ht (hb g s3 f.σ c.H (λv J=>∃t j,j.H=J/\j.σ=f.σ/\Ok C j/\Nx f j/\v=.str t/\W (zR t o l) j.st (iB C f ns D)) I3 ⟨c,q,9,OU,w.mono λr st w j v q1 q2 A n T=>?_⟩)) (λv2 O z=>?_) λ_ _ z=>z.2)))
  .let(y,B,w):=uN w;show#[y,j,9,q1,A,n1.trans n,by let(k,u):=r;dsimp only at B;subst B;show T.str A,by rw[q2];show w]
  let(ab,v4,H4,I4,r4,t,j,rfl,g1,SY,n4,rfl,w):=z;obtain⟨tk,rfl⟩:∃tk,v2=.str t tk:=r4;unfold zR at w;split at w
  rotate_left
  .show(bp.mp w).elim
  rename_i G;rw[ao]at w;show#["str","str.replace",F.plainAttrs_str,F.slot_str_replace,F.type_str_replace,YJ _ _ _,(λa z=>nomatch z),TQ 9 (Sq (vr (Â (k:=k2) (pos:=p4) (vr (Â (k:=k3) (pos:=p5) (Q9 ?_))))))];show SC.replaceW (show(O.toks:8)≠0 by lia) (show(O.toks+1:8)≠0 by lia) (show(O.toks:8)≠O.toks+1 by lia) Pp G RN λt' k=>?_;show#[.str (Ĵ t o l),f.σ,j.H,I4.tok _,#[_,9],w j 9 SY n4.toNs (Kept.of g1) _ 9]
 rw[if_neg L,ao]at w;rw[if_neg λe=>L (by cases of_decide_eq_true e;rfl)];let z:D.nx c.σ c.H:=w c 9 OU n1.toNs (Kept.of q);rw[q]at z;show Y8 #[f.σ,c.H,I3,z]
end TM
namespace TM
open PySem L2 PyProof.Rows PySem.W
def Cz{st a}(h:mi Γ f b st\(.ok r,a)):a=st/\((∃k u,Γ f b\.ok (k,u)/\(k=.own\/k=.loc)/\r=.inl (k,u))\/∃c,Γ f b\.exc c/\r=.inr c):=by
 unfold mi at h;split at h
 .rename_i u e;ext h;show#[9,.inl #[_,u,e,.inl 9,9]]
 .rename_i u e;ext h;show#[9,.inl #[_,u,e,.inr 9,9]]
 .rename_i c e;ext h;show#[9,.inr #[c,e,9]]
 ext h
def JZ(hP:C.P=X.prog)(hw:C.w=X.w)(hK:C.K=X.K)(hF:Γ f=F)(hk:∀i k u,F i\.ok (k,u)->(k=.own\/k=.loc\/k=.any)/\-i=m)(Qf:∀i c,F i\.exc c->-i=m) (G:d7 X.prog X.w X.K X.mg X.base (Q_ X.prog X.w) kd fa fd ps (spT X.prog X.w X.K F m)) (hr:cY kd X.A) (hg:Gl X f) (hm:X.mg f\.ref fa) (Vl:W.keepIn X.K (.ref fa)=4) (n:Binds X.K fd ps []) (Q3:(f==("__debug__":5))=df) (ha:PA X.P4 (e::o) (Qp C ms)) (he:j0 (e::o) X.env=(df,uv e X.env)::j0 o X.env) (Qr:(QX p3 (j0 o X.env)).any (·.1)=df) :PR X C (.Call (.Name f p2) (e::o) [] p3) (ms >>= λp=>az p >>= λ_=>mi Γ f (p.map (·.2))):=by
 intro ab s c0 ac I ok h;show tj (eO I hg hm ?_ Q3);show W.callWith_K  I.ok.mod.Uj Vl (mu (args  ha (I.fP _) ok h p3) (λi s1 z=>?_) λ_ _ z=>z.elim) he Qr;let(p,c,vs,t,j,rv,w):=z;let j:=j.da;show#[j.QA,?_];let l:C.Eqv (UR X.prog X.w X.K c.H (QK c.H)):=#[hP,hw,hK]
 let Vk:(UR X.prog X.w X.K c.H (QK c.H)).Eqv C:=#[hP.symm,hw.symm,hK.symm]
 let x:=t.read;let(r,al,e1,q):=w;obtain⟨rfl,⟨k1,u,d,Vs,rfl⟩|⟨cl,d,rfl⟩⟩:=Cz e1
 .rw[hF]at d;let(k0,k2):=hk _ _ _ d;let y:spT X.prog X.w X.K F m vs c.H _ E0:=#[by rw[<-x.len];show k2,_,.ok (k1,u),QK c.H,d,λ_ z=>z,x.cg l,k0,λv b S' n=>Back.here (Q:=λv b=>∃g,Rg C c0 g (k1,u) v/\g.H=b/\g.st=c.st) Vs t.hσ t.ok t.nx Vk n λg v2 B D Pk n2 J=>#[g,#[B,Pk,n2,J],9,D]]
  show mu (m_  G hr n j rv y λ_ _ ⟨_,_,_,_,_,_,z⟩=>z.elim) (λv s2 ⟨v',H2,I2,J,g,t2,L,N⟩=>?_) λ_ _ z=>z;rw[t.hσ]at I2;subst L;show#[_,g,v',t2,I2,J,N▸q]
 rw[hF]at d;let y:spT X.prog X.w X.K F m vs c.H (λ_ _=>False) (λv _ b=>(∃O,v=.ref O/\ŭ X.K kr cl\b6 (.ref O))/\hV c.H b):=#[by rw[<-x.len];show Qf _ _ d,p.map (·.2),.exc _,QK c.H,d,λ_ z=>z,x.cg l,λY H1 h1 h2=>#[#[Y,9,h1],h2]]
 show mu (m_  G hr n j rv y λv s' ⟨ea,Y,T,b,B,F',⟨O,D,L⟩,N⟩=>?_) (λv s2 ⟨_,_,_,_,z⟩=>z.elim) λ_ _ z=>z;ext D;let(OZ,n'):=t.ok.grow (H':=b) (S':=c.S) N (λa z=>.inl z) λa z=>z;show#[c,{c with H:=b,S:=c.S},s1,ea,T,Y,b,cl,B,t.hσ,OZ,t.nx.trans n',by rw[<-t.hσ];show j,F',9,L,q]
def S6.from(e:c.σ=b.σ)(n:Nx b c)(z:S6 X C a c P v d):S6 X C a b P v d:=by let(f,g,h,i,T,j,k,l,m,o,p,r,I,F,s,t,q):=z;show#[f,g,h,i,T,j,k,l,m,o.trans e,p,n.trans r,e▸I,F,s,t,q]
def yw(t:Rg C h c r v)(a:Rg C c f d b)(j:aU [r,d] f.st):Qb C h f [r,d] [v,b] :=#[a.hσ.trans t.hσ,a.ok,t.nx.trans a.nx,#[v,[b],9,t.rx.w.on t.ok a.nx a.hσ,#[b,[],9,(a.rx.from t.nx).w,9,λ_ i d b e _ _=>by simp at e],λe i d b g k l=>by cases i with|zero=>ext g k;show oB t.rx.w a.rx.w e l|succ i=>simp at g],j]
def Mw(N:PE X.P4 a (OY C O))(Q:PR X C b B)(T:j0 [a,b] X.env=(df,uv a X.env)::j0 [b] X.env)(Y:j0 [b] X.env=[(df,uv b X.env)]):PR X C (.Tuple [a,b] x1 ab) (O >>= λx=>B >>= BR x):=by
 intro d s j f I D h;rw[ai]at h;show ě ?_;rw[T,Y];show vr (mu (N d s j.σ j.H (λv G=>∃x c,c.H=G/\Rg C j c x v/\W (B >>= BR x) c.st f) (I.fP _) ⟨j,9,9,D,h.mono λx ac w c v e1 e2 O7 n r=>?_⟩) (λu s1 z=>?_) λ_ _ z=>z.elim)
 .subst e2;show#[x,c,9,#[e1,O7,n,r],w]
 let(v,G,l,rv,x,c,e,t,w):=z;subst e;let l:=l.da;rw[<-t.hσ]at l;rw[ai]at w;show vr (mu (Q d s1 c _ l t.ok w) (λu2 g z=>Q9 ?_) λv g z=>(z.mono λcl st q=>ao.mp q).from t.hσ t.nx);let(y,i,J,t2,m,p,w2):=z;let w2:W (az [x,y] >>= λ_=>c8 [x,y] >>= λus=>pure (.inl (.loc,.tup us))) i.st f:=w2;rw[ai,bU]at w2;let(OQ,w2):=w2;let o:=yw t t2 OQ;rw[ai]at w2;let(L,k,ws,al,OU,n1,A,w1):=iA D o.ok o.nx o.rep w2;rw[ao]at w1;let m:Inv X d j.σ i.H g:=by rw[<-t.hσ];show m
 show#[by change 2<=ei;decide,?_];let hf:i.H ↥g=ef:=m.ON.fresh (gs _);let hl:[v,J].length<=ei:=by change 2<=ei;decide
 let(OZ,n',r'):=Ok.BI (c:={i with S:=L,st:=k }) OU n1 hf A;show#[(.loc,.tup ws),{i with S:=L,st:=k,H:=upd i.H ↥g (.tup [v,J])},.ref ↥g,#[o.hσ,OZ,n',r'],m.laid (t':=g.toks) (λb u e=>et _ e) (gs _) ⟨hl,[u,u2],.cons rv (.cons p .nil),ğ _ _⟩,9,w1]
def Mx(K:Rk X.K d O)(hP:C.P=X.prog)(hw:C.w=X.w)(Q:C.K=X.K)(hN:X.N[i]?\x)(hv:PV X.env.scope x)(hd:(x==("__debug__":5))=df)(O5:(x==("__classdict__":5))=df)(hF:Γ f=F)(Sj:∀B r,F B\.ok r->-B=np)(G:d7 X.prog X.w X.K X.mg X.base (Q_ X.prog X.w) kd fa fd ps (Uc X.prog X.w X.K F np))(hr:cY kd X.A)(hm:Meth X.K O m fa)(hb:Binds X.K fd ps [])(hy:m∉(["rows","earlier","shelf"]:↑5)) (ha:PE X.P4 a (OY C ma)) (QQ:PR X C b T) (Y:j0 [a,b] X.env=(df,uv a X.env)::j0 [b] X.env) (h2:j0 [b] X.env=[(df,uv b X.env)]) (ht:V6 X (.Name x px) m [a,b] p2 p3) :PR X C (.Call (.Attribute (.Name x px) m p2) [a,b] [] p3) (RW d i >>= λ_=>ma >>= λx=>T >>= Jr Γ f i x):=by
 intro g s l j I ok h;rw[ai]at h;let(u,B,Qg,h):=oI h;let(r,q,_,_,vw,rd,g1,_):=ok.vw (w:=df) Qg 9;cases g1 9;let(UT,dx,fs,hc,QF,hl):=rd.ins;cases(K.hc).one (Q▸hc);let hs:∀e k,[a,b]=e::k->j0 (e::k) X.env=(df,uv e X.env)::j0 k X.env/\(QX p3 (j0 k X.env)).any (·.1)=df:=λe k z=>by ext z;show#[Y,by rw[h2];rfl]
 show sj ht hs QF (hl m hy) K.cls hm I (br (X:=X.P4) hN hv hd O5 g s _ _ _ (I.fP _) #[_,vw.at_,9,9]) (λe=>nomatch e) λ_ s1 I1=>?_;rw[ai]at h;rw[Y,h2];show vr (mu (ha g s1 l.σ l.H (λv H1=>∃x c,c.H=H1/\Rg C l c x v/\W (T >>= Jr Γ f i x) c.st j) (I1.fP _) ⟨l,9,9,ok,h.mono λx ab w c v e1 D O7 n r=>?_⟩) (λu s2 z=>?_) λ_ _ z=>z.elim)
 .subst D;show#[x,c,9,#[e1,O7,n,r],w]
 let(v,H1,o,rv,x,c,e,t,w):=z;subst e;let o:=o.da;rw[<-t.hσ]at o;rw[ai]at w;show vr (mu (QQ g s2 c _ o t.ok w) (λu2 s3 z=>Q9 ?_) λv s3 z=>(z.mono λO st q=>ao.mp q).from t.hσ t.nx);let(y,J,v2,t2,p,L,w2):=z;let w2:W (az [x,y] >>= λ_=>dA Γ f df i [x,y]) J.st j:=w2;rw[ai,bU]at w2;let(OQ,w2):=w2;let tt:=yw t t2 OQ;let p:Inv X g J.σ J.H s3:=by rw[t2.hσ];show p
 show#[p.QA,Ag hP hw Q hF Sj G hr hb tt p (.cons rv (.cons L .nil)) w2 λr' q' e D _=>by rw[tt.hσ,vw.at_]at e;ext e;show D 9]
def My(l:PR X C a m)(hs:WQ a ef d.line X.env=pure df) (n:∀c f,C.xw (.str c) f->∀g T H b σ s e i,ŭ X.K kr c\b6 (.ref g)->Inv X b σ H s->cy X.prog X.w X.stack H s e g T .none f i->X.xe (.ref e) i):L2.PS X (.Expr a d) (PD C Y (m >>= Fs)):=by
 rintro b s σ H D I ⟨o,rfl,rfl,p,h⟩;rw[ai]at h;show Ũ (mu (l b s o _ I p h) (λu j z=>?_) λv j z=>?_) I.quiet hs
 .let(r,c,v,t,x,rv,q):=z;rw[show Fs _=pure .nx from rfl,ao]at q;let z:D.nx c.σ c.H:=q c 9 t.ok t.nx.toNs (Kept.of t.hσ);rw[t.hσ]at z;show#[_,c.H,x,z]
 let(c,k,y,A,T,B,f,G,rfl,J,L,N,O,F,rfl,Q,q):=z;rw[show Fs _=pure _ from rfl,ao]at q;show n G k.H (q k 9 L N (Kept.of J)) B _ c.H b _ y A j Q O F
theorem uO{S}:∀a:↑Bool,au C S H (a.map U.bl) (a.map V.bl)|[]=>9|b::a=>#[_,_,9,9,uO a]
def Ah(A:∀m,l m=4->m≠j/\m≠k)(u:Ok C d)(B:Ok C c)(G:Nx d c)(w:c.σ=d.σ)(I:k< -c.σ)(hs:hV c.H f)(hn:c.H b=ef)(J:f b\.lst (g.map V.bl))(v) (h:W (BU j k g) c.st (iB C d l D)):D.nx (((d.σ.set j v).set k (b6 (.ref b))).set j ef) f:=by
 let(r,n,e,q):=h;unfold BU at e;split at e
 rotate_left
 .cases e
 rename_i L;split at e
 rotate_left
 .cases e
 rename_i N;let(O,Q):=B.kill ef L;let s:hV c.H λa=>if a=b then ef else f a:=λa o e=>by change(if a=b then ef else f a)=_;rw[if_neg (λz=>by left)];show hs a o e
 let(T,Y):=O.grow (H':=λa=>if a=b then ef else f a) (S':=c.S) s (λa z=>.inl z) λa z=>z;let nn:=(G.trans Q).trans Y;let(Rj,n3,r3):=T.newList nn (p:=b) (us:=g.map .bl) (vs:=g.map V.bl) (if_pos 9) (uO g);let(r',e',h1,h2,h3,x):=r3;ext e';let(SY,n4):=Ok.B4 u Rj n3 h1 h3 x;let(t,y,e2,OZ,n',w'):=sd (r:=(.loc,.lst (g.map .bl))) (v:=.ref b) (i:=k) u SY n4 (by exists I) (x.rep (λa=>.inl) (.inr 9)) (Post:=λ_ RJ=>iB C d l D .nx RJ) (by
   let z:W (fD k (.loc,.lst (g.map .bl)) >>= λ_=>(pure .nx:M Fl)) c.st (iB C d l D):=#[r,n,e,q]
   rw[ai]at z;show z.mono λ_ st z=>ao.mp z)
 let es:((d.σ.set j v).set k (b6 (V.ref b))).set j ef=(d.σ.set j ef).set k (b6 (.ref b)):=by rw[List.set_comm _ _ (sg N),List.set_set]
 let eH:upd (λa=>if a=b then ef else f a) b (.lst (g.map V.bl))=f:=funext λa=>by
  by_cases z:a=b
  .subst z;rw[ak,J]
  rw[aj z];show if_neg z
 let z:D.nx t.σ t.H:=w' t 9 OZ n' #[λm s=>by let(m1,m2):=A m s;rw[y];change((c.σ.set j ef).set k _)[m]?=_;rw[ko (sg m2),ko (sg m1),w],by rw[y];simp[w]]
 left
def SuE(X:Cx)(f:↑RO)(j k:8)(p:5 ×↑Bool):6:=∀(a:ke) (oe:Obj) (d:Array i7),oe.data=.fields d->d[2]?\.none->∃t,Qj (X.O9 a) f t/\∀D σ H u e,-σ=-X.N->σ[j]?\b6 (.ref a)->H a\.QD oe u->oe.cls=.ref e->ŭ X.K kr p.1\b6 (.ref e) ->
 (∀b c,hV H b->H c=ef->b c\.lst (p.2.map V.bl)->D.nx (σ.set k (b6 (.ref c))) b)->t D σ H
def MA(Qs:∀m,ns m=4->m≠j/\m≠k)(hN:X.N.Nodup)(hj:X.N[j]?\n)(hn:X.env.scope.names.lookup n\.local)(UU:k< -X.N) (hr:PR X C a mr) (Tj:WQ a ef p4.line X.env=pure df) (G:X.stack=X.env::X.outer/\X.env.frame\X.env.locals) (hx:X.ex=[]) (ac:Gl X x) (Xc:(x==("__debug__":5))=df) (VM:∀p∈V8,∃Cc Dc,X.mg x\.ref Dc/\ŭ X.K kr p.1\b6 (.ref Cc)/\exmOne X.K (.ref Cc) (.ref Dc)\4/\SuE X (al::Pa) j k p) :L2.PS X (.Try [.Expr a p4] [.ExceptHandler (b6 (.Name x p5)) (b6 n) (al::Pa) a2] [] [] a3) (PD C ns (mr >>= BV j k V8)):=by
 rintro f s σ H D' I ⟨J,rfl,rfl,ok,h⟩;let Qq:k< -J.σ:=by rw[I.len];show UU
 rw[ai]at h;show wpAny_Try_except (ŉ (Ũ (mu (hr f s J _ I ok h) (λu s1 z=>?_) λv s1 z=>?_) I.quiet Tj))
 .let(r,c,v,t,I2,rv,q):=z;rw[show BV j k V8 (.inl r)=pure .nx from rfl,ao]at q;let z:D'.nx c.σ c.H:=q c 9 t.ok t.nx.toNs (Kept.of t.hσ);rw[t.hσ]at z;show Y8 (Y8 #[_,_,I2,z])
 let(c,c2,s0,d,T,Cc,l,cl,rfl,hσ,O7,n0,i,F1,ab,am,w):=z;unfold BV at w
 dsimp only at w
 split at w
 case h_2=>show(bp.mp w).elim
 rename_i nn an;let(L,Dc,Yb,a1,ap,su):=VM _ (PySem.mem_of_lookup an);let eC:L=Cc:=7
 subst eC;let RV:s0.heap.FunFrames X.base (X.env::X.outer):=by rw[<-G.1];show i.stack
 let Rz:∀b∈PM (X.env::X.outer),c.H b=ef:=by rw[<-G.1];show i.j5
 let hA:X.A.frames\(X.env::X.outer):=by rw[<-G.1];show i.ok.frames
 rw[G.1]at F1;show F1.note hA G.2 RV Rz λT2 s2 F2=>F2.land RV Rz λT3 s3 F3=>?_;let ar:∀{T:Option ke} {y:i7} {g:kj},cy X.prog X.w (X.env::X.outer) c.H s0 d L T y l g->Inv X f J.σ l g:=λ{T y g} F=>i.He (ch:=[]) F.os (by rw[G.1];show F.un) F.ON F.bare λb z=>nomatch z
 let Vd:d≠X.env.locals/\d∉X.fs:=by
  let(m,(o,_,_,ho,_),_):=i.loc;show#[λz=>?_,λz=>?_]
  .rw[<-z,F1.new]at ho;ext ho
  let(_,o,q,_):=RV.mem (YV.mpr (by let(as,h1,h2):=YV.mp z;show#[as,ib _ h1,h2]))
  rw[F1.new]at q;ext q
 let TZ:∀{T:Option ke} {y:i7} {g:kj} (E:i7->kj->6),cy X.prog X.w (X.env::X.outer) c.H s0 d L T y l g->∃oe ws,g.heap.get? d\oe/\oe.cls=.ref L/\oe.data=.fields ws/\ws[2]?\.none/\Inv (X.TZ d oe E) f J.σ l g:=λ{T y g} E F=>by let(oe,vs,h1,h2,h3,h4,_):=F.exc;show#[oe,vs,h1,h2,h3,h4,(ar F).TZ h1 F.he Vd.1 Vd.2 λv z=>by left]
 show wpAny_handleBy_cons (codeAny_handlers_test ?_) λz=>nomatch z
 let(a4,_,g1,g2,_,_,I3):=TZ (â (i5 X.prog X.w) (X.A.mark (b6 (.ref d))) X.env λx g=>cameBackBy (i5 X.prog X.w) X.A X.env X.xe x g) F3;show eO I3 ac Yb ?_ Xc;let LT:Looks (i5 X.prog X.w) s3.heap (μ (.ref d)) (.ref L):=by show(Looks.ld g1).andThen ?_;rw[g2];show .now
 show(exm_one I3.QA LT ap).here (codeAny_handlers_suite_as ?_);show F3.land RV Rz λT4 s4 F4=>?_;let(O,ws,g3,g4,gd,g0,I4):=TZ (λ_ _=>False) F4;show nG (X:=X.TZ d O λ_ _=>False) I4 hN hj (.inl hn) (v:=.ref d) 9 (λs5 I5=>?_) (.inr hn);let g5:=(I5.pin (d,O) ki).1;let B:∀b o,s0.heap.get? b\o->b≠d:=λb o q z=>by rw[z,F1.new]at q;ext q
 let a0:Inv X f (J.σ.set j (b6 (.ref d))) (upd l d (.QD O (.ext λ_=>True))) s5:=(I5.Oc I.ok).LY g5 F4.he (by
   cases q:X.s₀.heap.get? d with|none=>rfl|some o=>let(o',q'):=i.base.there d o q 7;show absurd 9 (B d o' q')) Vd.1 (λx c q=>by
   let(v,o,q,_):=i.cell x c q;show B c o q) (λp hp=>B p.1 p.2 (i.pin p hp).1)
 let(t,ht,hq):=su d O ws gd g0;show mu (ht f s5 _ _ {nx:=λσ H=>∃Q D,hV (upd l d (.QD O (.ext λ_=>True))) Q/\upd l d (.QD O (.ext λ_=>True)) D=ef/\Q D\.lst (nn.map V.bl)/\σ=(J.σ.set j (b6 (.ref d))).set k (b6 (.ref D))/\H=Q,rt:=λ_ _=>False} a0.O9 ?_) (λy s6 z=>?_) λ_ _ z=>z.elim
 .show hq _ _ _ _ L (by rw[Ϫ];show I.len) (i4 (by rw[I.len];show(gr.mp hj).1)) ak g4 am λQ D sm Y hp=>#[Q,D,sm,Y,hp,9,9]
 cases y with
 |next =>
  let(_,_,I6,Q,D,sm,Y,hp,rfl,rfl):=z;show Inv.gone (X:=X.O9 d) I6 hN hj hn λs7 I7=>#[_,_,I7.Oe I.ok,Ah Qs ok O7 n0 hσ (by rw[hσ];show Qq) (λa o e=>by rw[ab]at e;show sm a o (by rw[aj (ay e F4.he)];show e)) ?_ hp _ w]
  rw[ab];by_cases z:D=d
  .subst z;rw[ak]at Y;ext Y
  rw[aj z]at Y;show Y
 |ret v=>let(_,_,_,_,_,z):=z;show z.elim|_=>let(_,_,_,z):=z;show z.elim
end TM
namespace TM
open PySem L2 PyProof.Rows
structure Ck where
 fns:↑5
 gl:↑(5 ×U)
 xc:↑5
 xd:↑(5 × 5)
 xi:↑(5 × 5 ×Bool)
 obs:↑(5 ×Bool× 5)
def sr:U->U->Bool|.int i,.int j=>eL (i=j)|.str x,.str y=>eL (x=y)|.bl a,.bl b=>a==b|.OP,.OP=>4|_,_=>df
def J0:U->U->Bool
 |.tup c,.tup d=>match strsOf c,strsOf d with
  |some a,b6 b=>eL (a=b)
  |_,_=>df
 |u,v=>sr u v
def cT(h:sr u v=4):u=v:=by cases u<;>cases v<;>simp[sr]at h<;>subst_vars<;>rfl
def noStar:nS->Bool|.Starred _ _=>df|_=>4
def fH:nS->Bool|.Slice _ _ _ _=>df|_=>4
def wD:nS->Bool|.Set _ _ _=>df|_=>4
def nh:nS->Bool|.Call (.Name _ _) [] [] _=>df|_=>4
def d4:nS->Bool|.ListComp _ _ _ _=>df|.SetComp _ _ _ _=>df|.DictComp _ _ _ _ _=>df|_=>4
def Qh(a:R0)(x:5):Bool:=eL (a.names.lookup x\.globalImplicit)
def jQ(a:R0)(x:5):Bool:=eL (a.names.lookup x\.local)||decide (a.names.lookup x\.cell)||decide (a.names.lookup x\.free)
def oJ(a:R0)(x:5):Bool:=eL (a.names.lookup x\.local)||decide (a.names.lookup x\.cell)
def F9(a:R0)(x:5):Bool:=eL (a.names.lookup x\.local)
def bE(x:5):Bool:=!(x==("__debug__":5))&&!(x==("__classdict__":5))
def yx(N:↑5)(a:R0)(b:5->Bool)(i:8):nS->Bool|.Name x _=>eL (N[i]?\x)&&oJ a x&&(b x||F9 a x)|_=>df
def sv(N:↑5)(a:R0)(b:5->Bool):↑8->↑nS->Bool|[],[]=>4|i::c,e::d=>yx N a b i e&&sv N a b c d|_,_=>df
def jy:nS->↑5
 |.Name x _=>[x]|.Tuple a _ _=>a.filterMap fun|.Name x _=>b6 x|_=>ef
 |_=>[]
def hide(a N:↑5):↑5:=match a.filter λx=>eL (x∈N) with|[]=>N|[x]=>N.set (N.idxOf x) "."|x::y::_=>(N.set (N.idxOf x) ".").set (N.idxOf y) ".."
def Xh(t:Bool)(N:↑5)(b:R0)(c:5->Bool)(a:↑8):nS->Bool|.Name x p=>!t&&(match a with|[i]=>yx N b c i (.Name x p)|_=>df)|.Tuple d _ _=>t&&sv N b c a d&&a.all λi=>eL (i< -N)|_=>df
def isTup:nS->Bool|.Tuple _ _ _=>4|_=>df
def oK(e:nS):Option (5 ×↑nS):=match e with
 |.Call f a b _=>match f with
  |.Name x _=>if b.isEmpty=4 then b6 (x,a) else ef
  |_=>ef
 |_=>ef
def iC(h:oK e\(x,a)):∃p q,e=.Call (.Name x p) a [] q:=by
 unfold oK at h;split at h
 .split at h
  .simp_all
  ext h
 ext h
noncomputable def iD(a:R0)(b:nS)(c:Ik)(e:nS):Option ↑nS:=match c with
 |.seq=>b6 [e]|.Pt=>(oK e).bind λp=>if p.1="range"/\Qh a p.1=4/\-p.2=1 then b6 p.2 else ef
 |.Rb=>(oK e).bind λp=>if p.1="range"/\Qh a p.1=4/\-p.2=2 then b6 p.2 else ef
 |.UL=>(oK e).bind λp=>if p.1="enumerate"/\Qh a p.1=4/\-p.2=1/\isTup b=4 then b6 p.2 else ef
 |_=>ef
noncomputable def simple:Bf->Bool:=λ_=>4
def J1(a b:R0):R0:={a with names:=a.names.map λ(n,k)=>if (k==Vx&&b.kind==.function&&b.names.lookup n==b6 .cell)=4 then(n,.cell) else(n,k)}
def bJ [Decidable c]{f:c->Bool}{Q:6}(h:(if z:c then f z else df)=4)(g:c->∀z,f z=4->Q):(Q):=by grind
def aQ(e:nS)(k:5->Bool):Bool:=if h:e.ctorIdx=23 then ZL (motive_1:=λ_=>Bool) e h (λx _=>k x) else df
def aC(h:aQ e k=4):∃x p,e=.Name x p/\k x=4:=bJ h λz=>ZL e z λ_ _ _ h=>#[_,_,9,h]
def a_{P:nS->6}(h:aQ e k=4)(fz:∀x p,k x=4->P (.Name x p)):P e:=bJ h λz=>ZL e z λ_ _ _ h=>fz _ _ h
def cN{α:Type}(l:↑α)(k:α->Bool):Bool:=match l with|[a]=>k a|_=>df
def cP(h:cN l k=4):∃a,l=[a]/\k a=4:=by
 unfold cN at h;split at h
 .show#[_,9,h]
 grind
def dB{l}{k}{P:↑α->6}(h:cN l k=4)(fz:∀a,k a=4->P ([a])):P l:=by
 unfold cN at h;split at h
 .show fz _ h
 ext h
def fj(e:nS)(k:nS->↑nS->Pos->Bool):Bool:=if h:e.ctorIdx=16 then Ξ (motive_1:=λ_=>Bool) e h (λf a b p=>b.isEmpty&&k f a p) else df
def iE(h:fj e k=4):∃f a p,e=.Call f a [] p/\k f a p=4:=bJ h λz=>Ξ e z λf a b p _ h=>by grind
def cR{P:nS->6}(h:fj e k=4)(fz:∀f a p,k f a p=4->P (.Call f a [] p)):P e:=by let(f,a,p,rfl,z):=iE h;show fz _ _ _ z
def iF(e:nS)(k:nS->5->Pos->Bool):Bool:=if h:e.ctorIdx=20 then Ð (motive_1:=λ_=>Bool) e h k else df
def uP(h:iF e k=4):∃o m p,e=.Attribute o m p/\k o m p=4:=bJ h λz=>Ð e z λ_ _ _ _ h=>#[_,_,_,9,h]
def f9{P:nS->6}(h:iF e k=4)(fz:∀o m p,k o m p=4->P (.Attribute o m p)):P e:=bJ h λz=>Ð e z λ_ _ _ _ h=>fz _ _ _ h
def CA(e:nS)(k:nS->ϝ->nS->Bool):Bool:=if h:e.ctorIdx=2 then ŵ (motive_1:=λ_=>Bool) e h (λa c b _=>k a c b) else df
def yy{P:nS->6}(h:CA e k=4)(fz:∀a c b p,k a c b=4->P (.BinOp a c b p)):P e:=bJ h λz=>ŵ e z λ_ _ _ _ _ h=>fz _ _ _ _ h
def uQ(e:nS)(k:nS->CmpOp->nS->Bool):Bool:=if h:e.ctorIdx=15 then Œ (motive_1:=λ_=>Bool) e h (λa c d _=>cN c λf=>cN d λb=>k a f b) else df
def oM(h:uQ e k=4):∃a c b p,e=.Compare a [c] [b] p/\k a c b=4:=bJ h λz=>Œ e z λa d f q _ h=>by let(c,rfl,z1):=cP h;let(b,rfl,z2):=cP z1;show#[_,_,_,_,9,z2]
def sA{P:nS->6}(h:uQ e k=4)(fz:∀a c b p,k a c b=4->P (.Compare a [c] [b] p)):P e:=by let(a,c,b,p,rfl,z):=oM h;show fz _ _ _ _ z
def dN(e:nS)(k:nS->5->Pos->↑nS->Pos->Bool):Bool:=fj e λf b c=>iF f λo m a=>k o m a b c
def mq(h:dN e k=4):∃o m a b c,e=.Call (.Attribute o m a) b [] c/\k o m a b c=4:=by let(f,b,p,rfl,h):=iE h;let(o,m,q,rfl,h):=uP h;show#[_,_,_,_,_,9,h]
def c_{P:nS->6}(h:dN e k=4)(fz:∀o m a b c,k o m a b c=4->P (.Call (.Attribute o m a) b [] c)):P e:=by apply cR h;intro f b p h;apply f9 h;intro o m q h;show fz _ _ _ _ _ h
def mw(e:nS)(k:nS->nS->Bool):Bool:=if h:e.ctorIdx=21 then ı (motive_1:=λ_=>Bool) e h (λa b _=>k a b) else df
def gK{P:nS->6}(h:mw e k=4)(fz:∀a b p,k a b=4->P (.Subscript a b p)):P e:=bJ h λz=>ı e z λ_ _ _ _ h=>fz _ _ _ h
def pln:E->Bool|.var _=>4|.cst _=>4|_=>df
def jz{α:Type}(l:↑α)(k:α->α->Bool):Bool:=match l with|[a,b]=>k a b|_=>df
def gL(h:jz l k=4):∃a b,l=[a,b]/\k a b=4:=by
 unfold jz at h;split at h
 .show#[_,_,9,h]
 grind
def sC{l}{k}{P:↑α->6}(h:jz l k=4)(fz:∀a b,k a b=4->P ([a,b])):P l:=by
 unfold jz at h;split at h
 .show fz _ _ h
 ext h
def uR(e:nS)(k:Const->Bool):Bool:=if h:e.ctorIdx=19 then Þ (motive_1:=λ_=>Bool) e h (λc _ _=>k c) else df
def oN(h:uR e k=4):∃c q p,e=.Constant c q p/\k c=4:=bJ h λz=>Þ e z λ_ _ _ _ h=>#[_,_,_,9,h]
def yz{P:nS->6}(h:uR e k=4)(fz:∀c q p,k c=4->P (.Constant c q p)):P e:=bJ h λz=>Þ e z λ_ _ _ _ h=>fz _ _ _ h
def Ot:Const->Option U|.int j=>b6 (.int j)|.str y=>b6 (.str y)|.bool y=>b6 (.bl y)|.none=>b6 .OP|_=>ef
def Ou(u:U)(c:Const):Bool:=match Ot c with|some v=>sr u v|none=>df
def F_(e:nS)(a:BoolOp)(k:↑nS->Bool):Bool:=if h:e.ctorIdx=0 then Š (motive_1:=λ_=>Bool) e h (λo b _=>eL (o=a)&&k b) else df
def Ai(h:F_ e b k=4):∃a p,e=.BoolOp b a p/\k a=4:=bJ h λz=>Š e z λo a q _ h=>by rw[dt,decide_eq_true_eq]at h;let(rfl,y):=h;show#[_,_,9,y]
def sD{P:nS->6}(h:F_ e b k=4)(fz:∀a p,k a=4->P (.BoolOp b a p)):P e:=by let(a,p,rfl,z):=Ai h;show fz _ _ z
def J2(e:nS)(b:UnaryOp)(k:nS->Bool):Bool:=if h:e.ctorIdx=3 then ő (motive_1:=λ_=>Bool) e h (λo a _=>eL (o=b)&&k a) else df
def Aj(h:J2 e b k=4):∃a p,e=.UnaryOp b a p/\k a=4:=bJ h λz=>ő e z λo a q _ h=>by left
def CB{P:nS->6}(h:J2 e b k=4)(fz:∀a p,k a=4->P (.UnaryOp b a p)):P e:=by let(a,p,rfl,z):=Aj h;show fz _ _ z
def uS(e:nS)(k:↑nS->Bool):Bool:=if h:e.ctorIdx=25 then ą (motive_1:=λ_=>Bool) e h (λl _ _=>k l) else df
def oO(h:uS e k=4):∃l q p,e=.Tuple l q p/\k l=4:=bJ h λz=>ą e z λ_ _ _ _ h=>#[_,_,_,9,h]
def Ga{P:nS->6}(h:uS e k=4)(fz:∀l q p,k l=4->P (.Tuple l q p)):P e:=bJ h λz=>ą e z λ_ _ _ _ h=>fz _ _ _ h
def Hs(e:nS)(k:↑nS->Bool):Bool:=if h:e.ctorIdx=24 then Ý (motive_1:=λ_=>Bool) e h (λl _=>k l) else df
def Ge{P:nS->6}(h:Hs e k=4)(fz:∀l p,k l=4->P (.List l p)):P e:=bJ h λz=>Ý e z λ_ _ _ h=>fz _ _ h
def Gf(e:nS):Bool:=if h:e.ctorIdx=0x6 then Ν (motive_1:=λ_=>Bool) e h (λa b _=>a.isEmpty&&b.isEmpty) else df
def qC(h:Gf e=4):∃p,e=.Dict [] [] p:=bJ h λz=>Ν e z λa b q _ h=>by left
def J3{P:nS->6}(h:Gf e=4)(fz:∀p,P (.Dict [] [] p)):P e:=by let(p,rfl):=qC h;show fz _
def CC(e:nS)(k:Option nS->Option nS->Bool):Bool:=if h:e.ctorIdx=26 then Ŵ (motive_1:=λ_=>Bool) e h (λa b c _=>c.isNone&&k a b) else df
def wF(h:CC e k=4):∃a b p,e=.Slice a b ef p/\k a b=4:=bJ h λz=>Ŵ e z λa b c q _ h=>by rw[dt,Ã]at h;let(rfl,h):=h;show#[_,_,_,9,h]
def Gg{P:nS->6}(h:CC e k=4)(fz:∀a b p,k a b=4->P (.Slice a b ef p)):P e:=by let(a,b,p,rfl,z):=wF h;show fz _ _ _ z
def J4(e:nS)(k:nS->nS->nS->↑nS->R0->Bool):Bool:=if h:e.ctorIdx=0x8 then Ń (motive_1:=λ_=>Bool) e h (λa b c _=>cN b λg=>eL (g.is_async=0)&&k a g.target g.iter g.ifs c) else df
def lz(h:J4 e k=4):∃b d a c f p,e=.ListComp b [⟨d,a,c,0⟩] f p/\k b d a c f=4:=bJ h λz=>Ń e z λb g f q _ h=>by let((d,a,c,z),rfl,z1):=cP h;rw[dt,decide_eq_true_eq]at z1;let(rfl,z1):=z1;show#[_,_,_,_,_,_,9,z1]
def J5{P:nS->6}(h:J4 e k=4)(fz:∀b d a c f p,k b d a c f=4->P (.ListComp b [⟨d,a,c,0⟩] f p)):P e:=by let(b,d,a,c,f,p,rfl,z):=lz h;show fz _ _ _ _ _ _ z
def isNm(e:nS)(n:5):Bool:=aQ e λx=>eL (x=n)
def jb(h:isNm e n=4):∃p,e=.Name n p:=by let(x,p,e,z):=aC h;show#[p,of_decide_eq_true z▸e]
def oP(v:nS)(f:5)(k:↑nS->Bool):Bool:=fj v λg a _=>isNm g f&&k a
def f_(h:oP v f k=4):∃a p q,v=.Call (.Name f p) a [] q/\k a=4:=by let(g,a,q,rfl,z):=iE h;rw[dt]at z;let(p,rfl):=jb z.1;show#[a,p,q,9,z.2]
def oQ{P:nS->6}(h:oP v f k=4)(fz:∀a p q,k a=4->P (.Call (.Name f p) a [] q)):P v:=by let(a,p,q,rfl,z):=f_ h;show fz _ _ _ z
def S7(N:↑5)(a:R0)(i:8)(x:5):Bool:=eL (N[i]?\x)&&jQ a x&&bE x
def wG(l:↑nS)(k:nS->↑nS->Bool):Bool:=match l with|a::b=>k a b|[]=>df
def mB(h:wG l k=4):∃a b,l=a::b/\k a b=4:=by cases l with|nil=>ext h|cons a b=>show#[a,b,9,h]
def Yc(m:5):Bool:=eL (m∉(["","rows","earlier","shelf"]:↑5))
def isI(n:8)(e:nS):Bool:=uR e λc=>if h:c.ctorIdx=2 then Ρ (motive:=λ_=>Bool) c h λi=>eL (i=(n:Int)) else df
def CD(h:isI n e=4):∃j p,e=.Constant (.int n) j p:=by let(c,q,p,rfl,h):=oN h;show bJ h λz=>Ρ c z λi _ h=>by rw[of_decide_eq_true h];show#[_,_,9]
def Yd(c:5)(e:nS):Bool:=uR e λb=>if h:b.ctorIdx=0x5 then Ο (motive:=λ_=>Bool) b h λx=>eL (x=c) else df
def oR(h:Yd c e=4):∃j p,e=.Constant (.str c) j p:=by let(b,q,p,rfl,h):=oN h;show bJ h λz=>Ο b z λi _ h=>by rw[of_decide_eq_true h];show#[_,_,9]
def J6(N:↑5)(c:R0):↑(8 × 8)->↑nS->Bool|[],a=>a.isEmpty|p::d,a=>wG a λe f=>(mw e λo b=>aQ o λx=>S7 N c p.1 x&&isI p.2 b)&&J6 N c d f
def Ye(k:Ck)(d:Bool)(f m:5)(i:8)(N:↑5)(c:R0)(q:↑nS->Bool)(e:nS):Bool:=dN e λo y a b g=>aQ o λx=>eL (y=m)&&eL ((f,d,m)∈k.obs)&&Yc m&&S7 N c i x&&(a.endLine==g.line)&&eL (-b<20)&&q b
def msB(k:Ck)(f m:5)(i:8)(g:↑(8 × 8))(N:↑5)(c:R0)(e:nS):Bool:=dN e λo y b d h=>iF o λj a _=>aQ j λx=>eL (y=m)&&eL (a="shelf")&&eL ((f,df,m)∈k.obs)&&Yc m&&S7 N c i x&&(b.endLine==h.line)&&eL (-d<20)&&J6 N c g d
def foB(k:Ck)(f:5)(i:8)(N:↑5)(c:R0)(q:↑nS->Bool)(e:nS):Bool:=fj e λd g _=>aQ d λy=>wG g λa b=>aQ a λx=>eL (y=f)&&eL ((f,4,("":5))∈k.obs)&&Qh c y&&bE y&&S7 N c i x&&q b
mutual
noncomputable def bN(k:Ck):E->↑5->R0->nS->Bool
 |.var i,N,g,h=>aQ h λx=>eL (N[i]?\x)&&jQ g x&&bE x|.cst u,N,g,h=>uR h λc=>Ou u c|.QN x u,N,g,h=>aQ h λy=>eL (x=y)&&Qh g x&&bE x&&k.gl.any λp=>eL (p.1=x)&&J0 p.2 u|.bin H a b,N,g,h=>CA h λq G s=>eL (H.op=G)&&bN k a N g q&&bN k b N g s|.cmp H a b,N,g,h=>uQ h λq G s=>eL (H.op=G)&&!Á G s&&bN k a N g q&&bN k b N g s|.and w,N,g,h=>F_ h .And λv=>aJ k w N g v|.or w,N,g,h=>F_ h .Or λv=>aJ k w N g v|.not a,N,g,h=>J2 h .Not λq=>bN k a N g q|.bad,_,_,_=>4|.P0 i,N,g,h=>iF h λo m _=>aQ o λx=>eL (m="rows")&&S7 N g i x|.QV f i w,N,g,h=>foB k f i N g (λA=>aJ k w N g A) h|.RH d f m i w,N,g,h=>Ye k d f m i N g (λA=>aJ k w N g A) h|.Rc f m i js,N,g,h=>msB k f m i js N g h|.inD O a i,N,g,h=>uQ h λq G s=>aQ s λx=>eL (JK O=G)&&!Á G s&&eL (N[i]?\x)&&jQ g x&&bE x&&bN k a N g q|.VY i,N,g,h=>aQ h λx=>eL (N[i]?\x)&&jQ g x&&bE x|.RG i a b,N,g,h=>dN h λo m z A I=>aQ o λx=>jz A λq s=>eL (m="get")&&eL (N[i]?\x)&&jQ g x&&bE x&&(z.endLine==I.line)&&noStar q&&noStar s&&bN k a N g q&&bN k b N g s|.VZ i,N,g,h=>fj h λC A _=>aQ C λf=>cN A λc=>dN c λo m z bs I=>aQ o λx=>bs.isEmpty&&eL (f="sorted")&&Qh g f&&eL (m="items")&&eL (N[i]?\x)&&jQ g x&&bE x&&(z.endLine==I.line)|.V0 _ a b,N,g,h=>oP h "len" λA=>cN A λd=>CA d λl H r=>oP l "set" λal=>cN al λq=>oP r "set" λar=>cN ar λs=>eL (H=.Sub)&&Qh g "len"&&Qh g "set"&&noStar q&&noStar s&&bN k a N g q&&bN k b N g s|.UM a T,N,g,h=>fj h λC A _=>aQ C λx=>jz A λq s=>aQ s λy=>eL (x="isinstance")&&eL (y=T.name)&&Qh g x&&Qh g y&&noStar q&&bN k a N g q|.tup w,N,g,h=>uS h λv=>aJ k w N g v|.lst w,N,g,h=>Hs h λv=>aJ k w N g v|.RF _,N,g,h=>Gf h|.idx a b,N,g,h=>mw h λq s=>fH s&&bN k a N g q&&bN k b N g s|.Pf a lo hi,N,g,h=>mw h λq s=>CC s λQ Q8=>bN k a N g q&&wH k lo N g Q&&wH k hi N g Q8|.bi f w,N,g,h=>fj h λC v _=>aQ C λx=>eL (x=f.name)&&simple f&&Qh g x&&!v.isEmpty&&aJ k w N g v|.SU f w,N,g,h=>fj h λC A _=>aQ C λx=>cN A λc=>fj c λg' v _=>aQ g' λy=>eL (x=f.r_)&&eL (y=f.kH)&&Qh g x&&Qh g y&&!v.isEmpty&&aJ k w N g v|.PY m a w,N,g,h=>dN h λo J z v I=>eL (J=m.name)&&nh o&&(z.endLine==I.line)&&!v.isEmpty&&eL (-v<20)&&bN k a N g o&&aJ k w N g v|.call f w,N,g,h=>fj h λC v _=>aQ C λx=>eL (x=f)&&eL (f∈k.fns)&&Qh g x&&bE x&&!v.isEmpty&&aJ k w N g v|.comp n t ik Y cond e,N,g,h=>J4 h λab B D L j =>
   eL (-jy B=n)&&IX (jy B++hide (jy B) N) (jy B) j g.names&&Xh t (jy B++hide (jy B) N) (J1 j g) (λx=>eL (j.names.lookup x\.cell)) (i9 n) B&&wD D &&
   (match iD g B ik D with
    |some A=>aJ k Y N g A
    |none=>df) &&
   eL (-L<=1)&&aJ k cond (jy B++hide (jy B) N) (J1 j g) L&&bN k e (jy B++hide (jy B) N) (J1 j g) ab
noncomputable def aJ(k:Ck):↑E->↑5->R0->↑nS->Bool
 |[],_,_,a=>a.isEmpty|e::c,N,b,a=>match a with
  |e'::a=>noStar e'&&bN k e N b e'&&aJ k c N b a
  |[]=>df
noncomputable def wH(k:Ck):↑E->↑5->R0->Option nS->Bool
 |[],_,_,o=>o.isNone|[e],N,a,o=>match o with
  |some b=>bN k e N a b
  |none=>df
 |_::_::_,_,_,_=>df
end
def cm:↑5:=["len","sorted","repr","max","min","all","any","list","tuple","str","int","range","enumerate","zip","reversed","set","dict","sum","isinstance","bool"]
def wI(ck:Ck)(K:W.Frag)(b:5->Option i7):6:=∀D,(∃p∈ck.xi,p.2.1=D)->∃a,((∃c,a=.ref c/\b D\.ref c)\/(D="ValueError"/\a=.type "ValueError"/\b D=ef))/\∀p∈ck.xi,p.2.1=D->∀C,W.nsIn K kr p.1\b6 (.ref C)->g7 K C=4/\W.kitOne K (.ref C) a\p.2.2
def Grp(a:↑(5 × 5 ×Bool))(c:5)(G:↑5)(b:Bool):6:=(∃D,G=[D]/\(c,D,b)∈a)\/(b=df/\2<=-G/\∀D∈G,(c,D,df)∈a)
structure V_(ck:Ck)(K:W.Frag)(mg:5->Option i7):6 where
 xc:∀x∈ck.xc,∃C,mg x\.ref C/\W.nsIn K kr x\b6 (.ref C)/\W.excIn K C VW "ValueError.__new__"=4
 xd:∀p∈ck.xd,∃C D,mg p.1\.ref C/\W.nsIn K kr p.1\b6 (.ref C)/\mg p.2\.ref D/\W.exmOne K (.ref C) (.ref D)\4
 xi:wI ck K mg
inductive CF(P:DD)(w:Q1)(K:W.Frag)(mg:5->Option i7)(base:Te)(d:8)(F:↑U->Option (Ex (Kd×U)))(f:5):6|mk (np:Nat) (fa:ke) (fd:ð) (ps:↑Str):d7 P w K mg base (Q_ P w) d fa fd ps (spT P w K F np)->mg f\.ref fa->W.keepIn K (.ref fa)=c4->Binds K fd ps []->(∀us k u,F us\.ok (k,u)->(k=.own\/k=.loc\/k=.any)/\⇑us=np)->(∀us c,F us\.exc c->⇑us=np)->CF P w K mg base d F f
inductive MB(P:DD)(w:Q1)(K:W.Frag)(mg:5->Option i7)(base:Te)(d:8)(F:↑U->Option (Ex (Kd×U)))(f:5)(b:Bool)(m:5):6|mk (np:Nat) (fa:ke) (fd:ð) (ps:↑Str):d7 P w K mg base (Q_ P w) d fa fd ps (Uc P w K F np)->(m=""->mg f\.ref fa)->W.keepIn K (.ref fa)=c4->(m≠""->∀cl,SR K b cl->Meth K cl m fa)->Binds K fd ps []->(∀us r,F us\.ok r->⇑us=np)->MB P w K mg base d F f b m
inductive Xi(P:DD)(w:Q1)(K:W.Frag)(mg:5->Option i7)(base:Te):6|mk (cl cd fi fd:_):Rk K df cl->Rk K c4 cd->Mk K cd fi->d7 P w K mg base Uu 3 fi fd ["self"] (spD cl cd)->Binds K fd ["self"] []->mg "Desk"\.ref cd->Xi P w K mg base
structure Yf(ck:Ck)(Γ:Tab)(P:DD)(w:Q1)(K:W.Frag)(mg:5->Option i7)(base:Te)(d:8):6 where
 o:∀q∈ck.obs,MB P w K mg base d (Γ q.1) q.1 q.2.1 q.2.2
 sh:Xi P w K mg base
 lv:0x4<=d
def Gh(h:J0 u v=4):u=v:=by
 unfold J0 at h;split at h
 .split at h
  .rename_i a b;rw[bI a,bI b,of_decide_eq_true h]
  ext h
 show cT h
structure Gd(ck:Ck)(Γ:Tab)(C:Ct)(d:8)(X:Cx):6 where
 P:C.P=X.prog
 w:C.w=X.w
 K:C.K=X.K
 u:X.A.units+60<VC
 calm:X.calm=4
 room:cY d X.A
 blt:∀x∈cm,X.mg x=ef
 fns:∀f∈ck.fns,CF X.prog X.w X.K X.mg X.base d (Γ f) f
 RZ:∀p∈ck.gl,∃val v,X.mg p.1\val/\RelV v val/\∀S H,Rep C S H p.2 v
 Q0:Yf ck Γ X.prog X.w X.K X.mg X.base d
def Gd.cx(g:Gd ck Γ C d X)(N)(a)(D)(s)(H)(b):Gd ck Γ C d (Qe X N a D s H b) :=#[g.P,g.w,g.K,g.u,g.calm,g.room,g.blt,g.fns,g.RZ,g.Q0]
def dg(h:jQ a x=4):PV a x:=by
 unfold jQ at h;erw[W9,decide_eq_true_eq]at h;obtain(h|h)|h:=h
 .show .inl h
 .show .inr (.inl h)
 show .inr (.inr h)
def aH(h:bE x=4):(x==("__debug__":5))=df/\(x==("__classdict__":5))=df:=by unfold bE at h;exists h
def aX(h:noStar e=4):j0 (e::es) env=(df,uv e env)::j0 es env:=by cases e<;>first|rfl|cases h
def uT(h:fH e=4):mZ e:=by intro o i;cases e<;>first|rfl|cases h
def wJ(h:wD e=4):∀x,Wd e a x=pure x:=by intro x;cases e<;>first|rfl|cases h
def kJ(h:nh o=4):Wk o a b c=c:=by
 cases o with
 |Call f d e p =>
  cases f with
  |Name x q=>cases d with
   |nil=>cases e with
    |nil=>ext h
    |cons _ _=>rfl
   |cons _ _=>rfl
  |_=>rfl
 |_=>rfl
def bF(h:∀e∈es,noStar e=4):(QX pos (j0 es env)).any (·.1)=df/\(QX pos (j0 es env)).all (λx=>!x.1)=4:=by
 induction es with
 |nil=>show#[9,9]|cons e es a =>
  rw[aX (h e ⋯)];let:=a λb c=>h b (by simp[c])
  assumption
def cn(h:aJ k b N d a=4):∀e∈a,noStar e=4:=by
 induction b generalizing a with
 |nil =>
  cases a with
  |nil=>intro e he;ext he
  |cons _ _=>simp[aJ]at h
 |cons x b c =>
  cases a with
  |nil=>intro e he;ext he
  |cons f a =>
   erw[aJ,dt]at h;intro e he;obtain rfl|he:=gb.mp he
   .show h.1.1
   show c h.2 e he
def qD(a:∀x,b x=4->X.fn x=4)(h:yx X.N X.env.scope b i e=4):wz X e i:=by
 cases e with
 |Name x p =>
  erw[yx,dt,decide_eq_true_eq,oJ,W9,F9]at h;show#[x,p,9,h.1.1,?_,?_]
  .rcases h.1.2 with z|z
   .show .inl z
   show .inr z
  obtain z|z:=h.2
  .show .inl (a x z)
  show .inr z
 |_=>ext h
theorem oS(c:∀x,d x=4->X.fn x=4):∀{a}{b},sv X.N X.env.scope d a b=4->gI X b a|[],[],_=>.nil|[],_::_,h=>by ext h|_::_,[],h=>by ext h|i::a,e::b,h=>by erw[sv,dt]at h;show .cons (qD c h.1) (oS c h.2)
def CG(e:X.calm=4)(f:C.K=X.K)(b:X.N.Nodup)(c:∀x,fa x=4->X.fn x=4)(h:Xh t X.N X.env.scope fa a d=4):PG X d (tG C t a):=by
 cases d with
 |Name x p =>
  erw[Xh,dt,td]at h;let(rfl,h):=h;cases a with
  |nil=>ext h
  |cons i a=>cases a with
   |nil=>show JG b (qD c h)
   |cons _ _=>ext h
 |Tuple l k p=>erw[Xh,dt,nH,decide_eq_true_eq]at h;let((rfl,g),j):=h;show Mc e f b (oS c g) j|_=>ext h
def qE(a N):fK ((a++hide a N).drop ⇑a) N:=by
 rw[Ĺ rfl];unfold hide;split
 .show .refl N
 .show(fK.refl N).set _ (.inl 9)
 show((fK.refl N).set _ (.inl 9)).set _ (.inr 9)
def Bf.isB:Bf->Bool|.len=>4|.sorted=>4|.repr=>4|.max=>4|.min=>4|.all=>4|.any=>4|_=>df
def Bf.id:Bf->String
 |.len=>"len"|.sorted=>"sorted"|.repr=>"repr"|.max=>"max"|.min=>"min"|.all=>"all"|.any=>"any"
 |.list=>"list"|.tuple=>"tuple"|.str=>"str"|.int=>"int"
def Gi:∀f,simple f=4->H8 f.name\f.val/\f.name∈cm/\f.name≠"__name__"/\(f.name==("__debug__":5))=df:=by intro f h;cases f<;>first|show⟨by decide +kernel,by decide +kernel,by decide +kernel,by rfl⟩|(done)
def J7:∀f,simple f=4->(f.val=.builtin f.id\/f.val=.type f.id):=by intro f h;cases f<;>first|show .inl 9|show .inr 9|(done)
def J8:∀f:B2,f.r_∈cm/\f.kH∈cm:=by intro f;cases f<;>show#[by decide +kernel,by decide +kernel]
def Gj:∀f:Mf,ϻ "str" f.name f.id/\μ (.builtin f.id)=pure (.type "method_descriptor"):=by intro f;cases f with|split=>show#[F.slot_str_split,F.type_str_split]|join=>show#[F.slot_str_join,F.type_str_join]|partition=>show#[F.slot_str_partition,F.type_str_partition]|endswith=>show#[F.slot_str_endswith,F.type_str_endswith]
def cp(h:Qh X.env.scope x=4):Gl X x:=by change X.env.kindOf x\_;show of_decide_eq_true h
def Gk:("enumerate":5)∈cm:=by decide +kernel
def kK:("isinstance":5)∈cm:=by decide +kernel
def CH(T:T5):T.name∈cm:=by cases T<;>decide +kernel
def yA:("range":5)∈cm:=by decide +kernel
def Ht(g:Gd ck Γ C d X)(h:iD X.env.scope t v i\r)(s:PA X r (Qp C (bw Γ j)))(w:∀a,r=[a]->∃e,j=[e]/\PE X a (OY C (ev Γ e)))(m:∀e∈r,noStar e=4):PI X t i (SW C v (bw Γ j)):=by
 unfold iD at h;split at h
 .cases h;let(e,rfl,y):=w _ 9;show JE g.K y
 .rw[mx]at h;let((x,n),k,h):=h;split at h
  .rename_i l;ext h;let(c,f,hl):=l
   dsimp only at c f hl
   subst c;let(p,q,rfl):=iC k;let(b,rfl):=ä.mp hl;show FP (cp f) (g.blt _ yA) (aX (m _ 7)) s
  ext h
 .rw[mx]at h;let((x,n),k,h):=h;split at h
  .rename_i l;ext h;let(c,f,hl):=l
   dsimp only at c f hl
   subst c;let(p,q,rfl):=iC k;obtain⟨b,o,rfl⟩:∃b o,n=[b,o]:=by match n,hl with|[b,o],_=>show#[b,o,9]
   let u:=aX (env:=X.env) (es:=[]) (m _ (ib _ ki));show FQ (cp f) (g.blt _ yA) (by rw[aX (m _ ki),u];rfl) u s
  ext h
 .rw[mx]at h;let((x,n),k,h):=h;split at h
  .rename_i l;ext h;let(c,f,hl,z):=l
   dsimp only at c f hl
   subst c;let(p,q,rfl):=iC k;let(b,rfl):=ä.mp hl;cases t with|Tuple A B D=>show JF g.K (cp f) (g.blt _ Gk) (aX (m _ 7)) s|_=>ext z
  ext h
 ext h
def Gd.P4(g:Gd ck Γ C d X):Gd ck Γ C d X.P4 :=#[g.P,g.w,g.K,g.u,g.calm,g.room,g.blt,g.fns,g.RZ,g.Q0]
def Hu{a:M α}{b:α->M β}{c:α->M γ}{g:γ->M δ}{st}{Q}(w:W (a >>= λx=>b x >>= λ_=>c x >>= g) st Q):W ((a >>= λx=>b x >>= λ_=>c x) >>= g) st Q:=by erw[ai]at w ⊢;show w
def cD:PT X e (Qu C M.fail):=λa s σ H Q I ⟨_,_,_,_,w⟩=>(bp.mp w).elim
def sE:PE X e (OY C M.fail):=λa s σ H Q I ⟨_,_,_,_,w⟩=>(bp.mp w).elim
def PT.eqv(h:PT X e (Qu C m))(i:∀st Q,W a st Q->W m st Q):PT X e (Qu C a):=PT.weak h λσ H Q ⟨b,c,d,f,w⟩=>#[b,c,d,f,i _ _ w]
def MC(g:Gd ck Γ C d X)(c:PA X a (Qp C (bw Γ i))) (h:(eL (x=f.name)&&simple f&&Qh X.env.scope x&&!a.isEmpty&&aJ ck i X.N X.env.scope a)=4):PE X (.Call (.Name x p) a [] b) (OY C (ev Γ (.bi f i))):=by
 erw[dt,decide_eq_true_eq]at h;obtain⟨⟨⟨⟨rfl,j⟩,k⟩,s⟩,t⟩:=h;let(l,b2,m,n):=Gi f j;let o:=cn t;cases a with
 |nil=>ext s|cons v q =>
  let st:=aX (env:=X.env) (es:=q) (o v 7);let r:=(bF (pos:=b) (env:=X.env) (es:=q) λe w=>o e (by simp[w])).1;obtain hv|hv:=J7 f j
  .show FJ g.calm g.K g.room.gd g.u hv (cp k) (g.blt _ b2) (by rw[l,hv]) m n c st r
  show FK g.calm g.K g.room.gd g.u hv (cp k) (g.blt _ b2) (by rw[l,hv]) m n c st r
def MD(g:Gd ck Γ C d X)(k:PA X b (Qp C (bw Γ c))) (h:(eL (x=f.r_)&&eL (y=f.kH)&&Qh X.env.scope x&&Qh X.env.scope y&&!b.isEmpty&&aJ ck c X.N X.env.scope b)=4):PE X (.Call (.Name x p) [.Call (.Name y v) b [] a] [] l) (OY C (ev Γ (.SU f c))):=by erw[dt,decide_eq_true_eq]at h;obtain⟨⟨⟨⟨⟨rfl,rfl⟩,m⟩,n⟩,o⟩,q⟩:=h;let(r,b2):=J8 f;let i:=cn q;cases b with|nil=>ext o|cons s j=>let st:=aX (env:=X.env) (es:=j) (i s 7);let t:=(bF (pos:=a) (env:=X.env) (es:=j) λe u=>i e (by simp[u])).1;show FO g.calm g.K (cp m) (g.blt _ r) (cp n) (g.blt _ b2) k st t
def ME(g:Gd ck Γ C d X)(p:PE X o (OY C (ev Γ a)))(q:PA X b (Qp C (bw Γ l))) (h:(eL (c=m.name)&&nh o&&(f.endLine==i.line)&&!b.isEmpty&&eL (-b<20)&&bN ck a X.N X.env.scope o&&aJ ck l X.N X.env.scope b)=4):PE X (.Call (.Attribute o c f) b [] i) (OY C (ev Γ (.PY m a l))):=by
 erw[dt,decide_eq_true_eq]at h;obtain⟨⟨⟨⟨⟨⟨rfl,r⟩,s⟩,t⟩,u⟩,B⟩,v⟩:=h;let j:=cn v;let(w,x):=Gj m;cases b with
 |nil=>ext t|cons n k =>
  let st:=aX (env:=X.env) (es:=k) (j n 7);let y:=(bF (pos:=i) (env:=X.env) (es:=k) λe z=>j e (by simp[z])).1;let A:=(bF (pos:=i) (env:=X.env)  j).2;show FN g.K w x p q (kJ r) ?_ s st y;rw[A];let:⇑(n::k)+⇑([]:↑Yn)+(if ([]:↑Yn).isEmpty=4 then 0 else 1)<30:=by simp at u ⊢;lia
  erw[decide_eq_true this];rfl
def CI(g:Gd ck Γ C d X)(k:PA X a (Qp C (bw Γ c))) (h:(eL (x=f)&&eL (f∈ck.fns)&&Qh X.env.scope x&&bE x&&!a.isEmpty&&aJ ck c X.N X.env.scope a)=4):PE X (.Call (.Name x p) a [] b) (OY C (ev Γ (.call f c))):=by
 erw[dt,decide_eq_true_eq]at h;obtain⟨⟨⟨⟨⟨rfl,l⟩,m⟩,n⟩,o⟩,q⟩:=h;let i:=cn q;let(B,D,G,H,r,s,t,u,v,_):=(g.fns _ l)
 cases a with|nil=>ext o|cons y j=>let st:=aX (env:=X.env) (es:=j) (i y 7);let z:=(bF (pos:=b) (env:=X.env) (es:=j) λe A=>i e (by simp[A])).1;show B7 g.P g.w g.K 9 v r g.room (cp m) s t u (aH n).1 k st z
def fM{X:Cx}(h:S7 X.N X.env.scope i x=4):X.N[i]?\x/\PV X.env.scope x/\(x==("__debug__":5))=df/\(x==("__classdict__":5))=df:=by erw[S7,dt,decide_eq_true_eq]at h;let(a,b):=aH h.2;show#[h.1.1,dg h.1.2,a,b]
def CJ{X:Cx}(b:∀e∈c,noStar e=4):∀e a,c=e::a->j0 (e::a) X.env=(df,uv e X.env)::j0 a X.env/\(QX d (j0 a X.env)).any (·.1)=df:=λe a z=>by subst z;show#[aX (b e 7),(bF λe f=>b e (by simp[f])).1]
def CK(d:∀e∈b,noStar e=4)(h:-b<20)(f:(a.endLine==c.line)=4)(g:Wk o m X.env (uv o X.env)=uv o X.env):V6 X o m b a c :=F6 (by rw[(bF d).2];change(4&&4&&eL (-b+0+0<30))=4;grind) f g
def wK(h:Yc m=4):m≠""/\m∉(["rows","earlier","shelf"]:↑5):=by simpa[Yc] using h
def MF(g:Gd ck Γ C d X)(h:Ye ck b f m i X.N X.env.scope q l=4)(n:∀a,q a=4->PA X.P4 a (Qp C (bw Γ es))/\(∀e∈a,noStar e=4)/\(a=[]->es=[])):PR X C l (PQ Γ (.mt b f m i es)):=by
 apply c_ h;intro o y j a Q z1;apply a_ z1;intro x T z2;erw[dt,decide_eq_true_eq]at z2;obtain⟨⟨⟨⟨⟨⟨rfl,p⟩,r⟩,s⟩,t⟩,u⟩,v⟩:=z2;let(Y,fa,fd,ps,A,_,q3,B,D,G):=(g.Q0.o _ p)
 let(H,k,I):=n a v;let(w1,w2,w3,w4):=fM s;let(J,L):=wK r;obtain⟨c,K⟩:∃c,Rk X.K b c:=by let(c,cd,_,_,K,O,_,_,_,_):=g.Q0.sh;cases b with|false=>show#[_,K]|true=>show#[_,O]
 show Oo K g.P g.w g.K w1 w2 w3 w4 9 G A g.room (B J c K.hc) D L H (λz=>by rw[I z];rfl) (CJ k) (CK k u t 9)
theorem Hv(f:C.K=X.K):∀{c}{a},J6 X.N X.env.scope c a=4->PA X a (V7 C c)/\(∀e∈a,noStar e=4)/\(a=[]->c=[])|[],a,h=>by cases M'.mp (h);show#[F7,(λe d=>nomatch d),λ_=>9]|p::c,a,h=>by let(e,j,rfl,z):=mB (h);rw[dt]at z;let h:=z;let(g,i,_):=Hv f h.2;apply gK h.1;intro o b q z1;apply a_ z1;intro x k z2;rw[dt]at z2;let(w1,w2,w3,w4):=fM z2.1;let(_,_,rfl):=CD z2.2;show#[F8 f (LK k_ (br w1 w2 w3 w4) vB λ_ _=>9) g 9,λe d=>(gb.mp d).elim (λz=>by rw[z];rfl) (i e),λz=>nomatch z]
def MG(g:Gd ck Γ C d X)(h:msB ck f m i e X.N X.env.scope j=4):PR X C j (PQ Γ (.Rc f m i e)):=by
 apply c_ h;intro o y b I J z1;apply f9 z1;intro L a O z1;apply a_ z1;intro x Q z2;erw[dt,decide_eq_true_eq]at z2;obtain⟨⟨⟨⟨⟨⟨⟨rfl,rfl⟩,k⟩,l⟩,n⟩,p⟩,q⟩,r⟩:=z2;let(T,Y,fd,ps,s,_,q3,t,u,v):=(g.Q0.o _ k)
 let(z,c,A):=Hv (X:=X.P4) g.K r;let(w1,w2,w3,w4):=fM n;let(B,D):=wK l;let(G,cd,_,_,K,H,_,_,_,_):=g.Q0.sh;show Ms H K g.P g.w g.K w1 w2 w3 w4 9 v s g.room (t B G K.hc) u D z A (CJ c) (CK c q p 9)
def MH(g:Gd ck Γ C d X)(h:foB ck f i X.N X.env.scope q j=4)(l:∀c,q c=4->PA X.P4 c (Qp C (bw Γ es))/\(∀e∈c,noStar e=4)/\(c=[]->es=[])):PR X C j (RW 4 i >>= λ_=>bw Γ es >>= λk=>az k >>= λ_=>dA Γ f df i k)/\∀b,isTrue j X.env b=(do let v <-b;ĕ j.pos;VE [v] (truthy v)):=by
 apply cR h;intro I c m z1;apply a_ z1;intro y J z1;let(a,c,rfl,z1):=mB z1;apply a_ z1;intro x L z2;erw[dt,decide_eq_true_eq]at z2;obtain⟨⟨⟨⟨⟨rfl,n⟩,p⟩,r⟩,s⟩,t⟩:=z2;let(O,Q,T,Y,u,z,A,_,B,D):=(g.Q0.o _ n)
 let(G,H,_):=l c t;let(w1,w2,w3,w4):=fM s;show#[Oq g.P g.w g.K w1 w2 w3 w4 9 D u g.room (cp p) (z 9) A B (aH r).1 G (bF H).1,λ_=>9]
def gc(h:(b&&aJ k a N c d)=4):aJ k a N c d=4:=(ve.mp h).2
mutual
theorem bS:∀(e:E) (X:Cx) (A:nS),Gd ck Γ C d X->bN ck e X.N X.env.scope A=4->PE X A (OY C (ev Γ e))
 |.var i,X,A,g,h=>by apply a_ h;intro x G k;clear h;let h:=k;erw[dt,decide_eq_true_eq]at h;let(h3,h4):=aH h.2;show ng h.1.1 (dg h.1.2) h3 h4|.cst u,X,A,g,h=>by
  apply yz h;intro c q0 G k;cases c with
  |int j=>let:=cT k;subst this;show kG vB λ_ _=>9
  |str y=>let:=cT k;subst this;show kG AS λ_ _=>9
  |bool y=>let:=cT k;subst this;show kG Hg λ_ _=>9
  |none=>let:=cT k;subst this;show kG AR λ_ _=>9
  |_=>ext k
 |.QN x u,X,A,g,h=>by apply a_ h;intro y G k;clear h;let h:=k;erw[dt,decide_eq_true_eq,QL]at h;obtain⟨⟨⟨rfl,J⟩,h2⟩,p,hp,e1,e2⟩:=h;let:=Gh e2;subst this e1;let(a1,v,q1,q2,q3):=g.RZ p hp;show kG (EB (cp J) q1 q2 (aH h2).1) q3|.bin op a b,X,A,g,h=>by apply yy h;intro a' S8 b' G k;clear h;let h:=k;erw[dt,decide_eq_true_eq]at h;let((rfl,J),h2):=h;show Fw g.K (bS a X _ g J) (bS b X _ g h2)|.cmp op a b,X,A,g,h=>by apply sA h;intro a' S8 b' G z1;let h:=z1;erw[dt,decide_eq_true_eq,td]at h;obtain⟨⟨⟨rfl,h0⟩,J⟩,h2⟩:=h;show Fx g.P g.w g.K g.u (bS a X _ g J) (bS b X _ g h2) h0|.and B,X,A,g,h=>by apply sD h;intro OO G k;clear h;let h:=k;show CL B X _ g h|.or B,X,A,g,h=>by apply sD h;intro OO G k;clear h;let h:=k;show Hw B X _ g h|.not a,X,A,g,h=>by apply CB h;intro a' G k;clear h;let h:=k;show Fz (bS a X _ g h)|.bad,X,A,g,h=>sE|.P0 i,X,A,g,h=>by apply f9 h;intro o m q z1;apply a_ z1;intro x px z2;erw[dt,decide_eq_true_eq]at z2;let(rfl,J):=z2;let(w1,w2,w3,w4):=fM J;let(cl,_,_,_,K,_,_,_,_,_):=g.Q0.sh;show Cr K g.K w1 w2 w3 w4|.QV f i B,X,A,g,h=>yu (MH (es:=B) g h λas L=>#[jq B X.P4 as g.P4 L,cn L,λz=>by subst z;cases B with|nil=>rfl|cons _ _=>simp[aJ]at L]).1|.RH b f m i B,X,A,g,h=>yu (MF (es:=B) g h λas L=>#[jq B X.P4 as g.P4 L,cn L,λz=>by subst z;cases B with|nil=>rfl|cons _ _=>simp[aJ]at L])|.Rc f m i js,X,A,g,h=>yu (MG g h)|.inD a2 a i,X,A,g,h=>sE|.VY i,X,A,g,h=>by let(x,G,rfl,k):=aC h;clear h;let h:=k;erw[dt,decide_eq_true_eq]at h;let(h3,h4):=aH h.2;show FV h.1.1 (dg h.1.2) h3 h4|.RG i a b,X,A,g,h=>by
  apply c_ h;intro o m ab as N' z1;let(x,px,rfl,z2):=aC z1;apply sC z2;intro a' b' z3;clear h z1;let z2:=z3;erw[dt,decide_eq_true_eq]at z2;obtain⟨⟨⟨⟨⟨⟨⟨⟨rfl,J⟩,h2⟩,h3⟩,h4⟩,O⟩,h6⟩,L⟩,h8⟩:=z2;let(q1,q2):=aH h3;let sa:=bF (pos:=N') (env:=X.env) (es:=[a',b']) λe he=>by
   obtain rfl|he:=gb.mp he
   .show O
   simp at he;subst he;show h6
  show Co g.u J (dg h2) q1 q2 (bS a X _ g L) (bS b X _ g h8) #[9,by rw[sa.2];rfl,h4,by rw[aX O,aX h6];rfl]
 |.VZ i,X,A,g,h=>by apply cR h;intro f' as _ z1;let(f,_,rfl,z2):=aC z1;apply dB z2;intro c z3;apply c_ z3;intro o m ab bs N' z4;let(x,px,rfl,z5):=aC z4;erw[dt,decide_eq_true_eq,M']at z5;obtain⟨⟨⟨⟨⟨⟨⟨rfl,rfl⟩,J⟩,rfl⟩,h3⟩,h4⟩,O⟩,h6⟩:=z5;let(q1,q2):=aH O;show FZ g.calm g.K (cp J) (g.blt _ (by decide +kernel)) h3 (dg h4) q1 q2 h6|.V0 ln a b,X,A,g,h=>by apply oQ h;intro _ _ _ k;apply dB k;intro _ z2;apply yy z2;intro _ _ _ _ z3;apply oQ z3;intro _ _ _ z4;apply dB z4;intro _ z6;apply oQ z6;intro _ _ _ z7;apply dB z7;intro _ z9;erw[dt,decide_eq_true_eq]at z9;obtain⟨⟨⟨⟨⟨⟨rfl,J⟩,h2⟩,h3⟩,h4⟩,O⟩,h6⟩:=z9;show F0 g.calm g.K (cp J) (g.blt _ (by decide +kernel)) (cp h2) (g.blt _ (by decide +kernel)) (bS a X _ g O) (bS b X _ g h6) (aX h3) (aX h4)|.UM a T,X,A,g,h=>by apply cR h;intro f' as G z1;let(x,p1,rfl,z2):=aC z1;clear h z1;apply sC z2;intro a' b' z4;let(y,p2,rfl,z3):=aC z4;let h:=z3;erw[dt,decide_eq_true_eq]at h;obtain⟨⟨⟨⟨⟨rfl,rfl⟩,J⟩,h2⟩,h3⟩,h4⟩:=h;show yn g.K (cp J) (g.blt _ kK) (cp h2) (g.blt _ (CH T)) (bS a X _ g h4) (aX h3)|.tup B,X,A,g,h=>by apply Ga h;intro l q0 G k;clear h;let h:=k;show FE (jq B X _ g h)|.lst B,X,A,g,h=>by apply Ge h;intro l G k;clear h;let h:=k;show FF (jq B X _ g h)|.RF r,X,A,g,h=>by apply J3 h;intro G;show B6 g.P g.w r|.idx a b,X,A,g,h=>by apply gK h;intro a' b' G k;clear h;let h:=k;erw[dt]at h;show FG g.K g.u (uT h.1.1) (bS a X _ g h.1.2) (bS b X _ g h.2)|.Pf a lo hi,X,A,g,h=>by apply gK h;intro a' b' G z1;apply Gg z1;intro a3 Q8 p1 k;clear h z1;erw[dt]at k;show FI g.K (bS a X _ g k.1.1) (MJ lo X _ g k.1.2) (MJ hi X _ g k.2)|.bi f B,X,A,g,h=>by apply cR h;intro f' as G z1;let(x,p1,rfl,z2):=aC z1;let h:=z2;show MC g (jq B X _ g (gc h)) h|.SU f B,X,A,g,h=>by apply cR h;intro f' as G z1;let(x,p1,rfl,z2):=aC z1;apply dB z2;intro c z3;apply cR z3;intro g' a4 p2 z4;let(y,p3,rfl,z5):=aC z4;let h:=z5;show MD g (jq B X _ g (gc h)) h|.PY m a B,X,A,g,h=>by apply c_ h;intro o a0 ab as N' z1;let h:=z1;let h':=h;erw[dt]at h';show ME g (bS a X _ g h'.1.2) (jq B X _ g (gc h)) h|.call f B,X,A,g,h=>by apply cR h;intro f' as G z1;let(x,p1,rfl,z2):=aC z1;let h:=z2;show CI g (jq B X _ g (gc h)) h|.comp n t ik ac cond e,X,A,g,h=>by
  apply J5 h;intro an tg al ap Y G k;clear h;let h:=k;erw[dt,decide_eq_true_eq]at h;obtain⟨⟨⟨⟨⟨⟨⟨J,h2⟩,h3⟩,h4⟩,O⟩,h6⟩,L⟩,h8⟩:=h;subst J;let S:=Bp (X:=X) 9 (qE _ _) h2;split at O
  .rename_i as ar;let OQ:=cn O;let hI:PI X tg al (SW C ik (bw Γ ac)):=Ht g ar (jq ac X _ g O) (λa e=>by
    subst e;cases ac with
    |nil=>simp[aJ]at O
    |cons e1 PX =>
     cases PX with
     |nil=>erw[aJ,dt]at O;show#[e1,9,bS e1 X _ g O.1.2]
     |cons _ _=>simp[aJ]at O) OQ
   show Cg S g.calm hI (λD s H ex=>CG (fa:=λx=>eL (Y.names.lookup x\.cell)) g.calm g.K S.nd (λ_ z=>z) h3)
    (λD s H ex=>by
     cases ap with
     |nil =>
      cases cond with
      |nil=>show λam s σ H Q I ⟨c0,e1,e2,ok,w⟩=>xY am s σ H Q I (by subst e1 e2;rw[show aN Γ []=pure c4 from rfl,ao]at w;show w c0 9 9 ok (Nx.refl c0))
      |cons _ _=>simp[aJ]at L
     |cons c1 cs =>
      cases cs with
      |nil =>
       cases cond with
       |nil=>simp[aJ]at L
       |cons e1 PX =>
        cases PX with
        |nil=>erw[aJ,dt]at L;show xZ (sF e1 (Qe X _ Y D s H ex) c1 (g.cx _ _ _ _ _ _) L.1.2)
        |cons _ _=>simp[aJ]at L
      |cons _ _=>simp at h6)
    (λD s H ex=>bS e (Qe X _ Y D s H ex) an (g.cx _ _ _ _ _ _) h8) (wJ h4)
  ext O
theorem jq:∀(b:↑E) (X:Cx) (a:↑nS),Gd ck Γ C d X->aJ ck b X.N X.env.scope a=4->PA X a (Qp C (bw Γ b))
 |[],X,a,g,h=>by
  cases a with
  |nil=>show FD
  |cons _ _=>simp[aJ]at h
 |e::b,X,a,g,h=>by
  cases a with
  |nil=>simp[aJ]at h
  |cons c a=>erw[aJ,dt]at h;show B3 (bS e X c g h.1.2) (jq b X a g h.2) (aX h.1.1)
theorem MJ:∀(a:↑E) (X:Cx) (o:Option nS),Gd ck Γ C d X->wH ck a X.N X.env.scope o=4->PO X o (tO C (SV Γ a))
 |[],X,o,g,h=>by
  cases o with
  |none=>show iV
  |some _=>simp[wH]at h
 |[e],X,o,g,h=>by
  cases o with
  |none=>simp[wH]at h
  |some b=>erw[wH]at h;show zV (bS e X b g h)
 |_::_::_,X,o,g,h=>by simp[wH]at h
theorem CL:∀(c:↑E) (X:Cx) (a:↑nS),Gd ck Γ C d X->aJ ck c X.N X.env.scope a=4->∀{b},PE X (.BoolOp .And a b) (OY C (kD Γ c))
 |[],X,a,g,h,b=>sE|[e],X,a,g,h,b=>by
  cases a with
  |nil=>simp[aJ]at h
  |cons f a =>
   cases a with
   |nil=>erw[aJ,dt]at h;show AV (bS e X f g h.1.2)
   |cons _ _=>simp[aJ]at h
 |e::j::c,X,a,g,h,b=>by
  cases a with
  |nil=>simp[aJ]at h
  |cons f a =>
   let i:noStar f=4/\bN ck e X.N X.env.scope f=4/\aJ ck (j::c) X.N X.env.scope a=4:=by rw[aJ]at h;erw[dt]at h;show#[h.1.1,h.1.2,h.2]
   cases a with
   |nil=>let:=i.2.2;simp[aJ]at this
   |cons k l=>show snd_and (bS e X f g i.2.1) (CL (j::c) X _ g i.2.2)
theorem Hw:∀(c:↑E) (X:Cx) (a:↑nS),Gd ck Γ C d X->aJ ck c X.N X.env.scope a=4->∀{b},PE X (.BoolOp .Or a b) (OY C (Jq Γ c))
 |[],X,a,g,h,b=>sE|[e],X,a,g,h,b=>by
  cases a with
  |nil=>simp[aJ]at h
  |cons f a =>
   cases a with
   |nil=>erw[aJ,dt]at h;show AV (bS e X f g h.1.2)
   |cons _ _=>simp[aJ]at h
 |e::j::c,X,a,g,h,b=>by
  cases a with
  |nil=>simp[aJ]at h
  |cons f a =>
   let i:noStar f=4/\bN ck e X.N X.env.scope f=4/\aJ ck (j::c) X.N X.env.scope a=4:=by rw[aJ]at h;erw[dt]at h;show#[h.1.1,h.1.2,h.2]
   cases a with
   |nil=>let:=i.2.2;simp[aJ]at this
   |cons k l=>show Jv (bS e X f g i.2.1) (Hw (j::c) X _ g i.2.2)
theorem sF:∀(e:E) (X:Cx) (c:nS),Gd ck Γ C d X->bN ck e X.N X.env.scope c=4->PT X c (Qu C (O0 Γ e))
 |.and j,X,c,g,h=>by apply sD h;intro J l k;clear h;let h:=k;show(yB j X _ g h).pt|.or j,X,c,g,h=>by apply sD h;intro J l k;clear h;let h:=k;show(CM j X _ g h).pt|.not a,X,c,g,h=>by apply CB h;intro A l k;clear h;let h:=k;show FA (sF a X _ g h)|.cmp L a b,X,c,g,h=>by apply sA h;intro A O H l z1;let h:=z1;erw[dt,decide_eq_true_eq,td]at h;obtain⟨⟨⟨rfl,B⟩,o⟩,p⟩:=h;show Fy g.P g.w g.K g.u (bS a X _ g o) (bS b X _ g p) B|.var i,X,c,g,h=>by let(x,l,rfl,k):=aC h;erw[dt,decide_eq_true_eq]at k;let(q,s):=aH k.2;show kF (ng k.1.1 (dg k.1.2) q s) g.K λ_=>9|.idx a b,X,c,g,h=>cD|.bi f j,X,c,g,h=>by apply cR h;intro I v l z1;let(x,D,rfl,z2):=aC z1;let h:=z2;show PT.eqv (kF (MC g (jq j X _ g (gc h)) h) g.K λ_=>9) λst Q w=>Hu w|.SU f j,X,c,g,h=>cD|.PY m a j,X,c,g,h=>cD|.call f j,X,c,g,h=>by apply cR h;intro I v l z1;let(x,D,rfl,z2):=aC z1;let h:=z2;show PT.eqv (kF (CI g (jq j X _ g (gc h)) h) g.K λ_=>9) λst Q w=>Hu w|.cst u,X,c,g,h=>cD|.QN x u,X,c,g,h=>cD|.UM a T,X,c,g,h=>by apply cR h;intro I v l z1;let(x,D,rfl,z2):=aC z1;clear h z1;apply sC z2;intro A H Y;let(y,p2,rfl,z3):=aC Y;let h:=z3;erw[dt,decide_eq_true_eq]at h;obtain⟨⟨⟨⟨⟨rfl,rfl⟩,o⟩,p⟩,q⟩,s⟩:=h;show PT.eqv (kF (yn g.K (cp o) (g.blt _ kK) (cp p) (g.blt _ (CH T)) (bS a X _ g s) (aX q)) g.K λ_=>9) λst Q w=>?_;let w:W (ev Γ a >>= λx=>M.Pd (qa x.2 T)) st Q:=w;erw[ai]at w ⊢;show W.mono w λx s1 w1=>?_;let(b,e,w2):=cK.mp w1;show cK.mpr #[b,e,ao.mpr (cK.mpr #[b,9,w2])]|.bad,X,c,g,h=>cD|.P0 i,X,c,g,h=>cD|.QV f i j,X,c,g,h=>by
  let(o,p):=MH (es:=j) g h λv G=>#[jq j X.P4 v g.P4 G,cn G,λz=>by subst z;cases j with|nil=>rfl|cons _ _=>simp[aJ]at G]
  show kF (yu o) g.K p
 |.RH _ f m i j,X,c,g,h=>cD|.Rc f m i js,X,c,g,h=>cD|.inD ab a i,X,c,g,h=>by apply sA h;intro A O H l z1;let(x,D,rfl,z2):=aC z1;let h:=z2;erw[dt,decide_eq_true_eq,td]at h;obtain⟨⟨⟨⟨⟨rfl,B⟩,o⟩,p⟩,q⟩,s⟩:=h;let(q1,q2):=aH q;show FW g.u o (dg p) q1 q2 (bS a X _ g s) B|.VY i,X,c,g,h=>cD|.V0 ln a b,X,c,g,h=>cD|.VZ i,X,c,g,h=>cD|.RG i a b,X,c,g,h=>cD|.bin L a b,X,c,g,h=>cD|.tup j,X,c,g,h=>cD|.lst j,X,c,g,h=>cD|.RF r,X,c,g,h=>cD|.Pf a lo hi,X,c,g,h=>cD|.comp n t ik ac cond e,X,c,g,h=>cD
theorem yB:∀(c:↑E) (X:Cx) (a:↑nS),Gd ck Γ C d X->aJ ck c X.N X.env.scope a=4->∀{b},PW X (.BoolOp .And a b) (Qu C (aN Γ c))
 |[],X,a,g,h,b=>by
  cases a with
  |nil=>rintro n k s σ H Q I ⟨i,rfl,rfl,m,w⟩;rw[show aN Γ []=pure c4 from rfl,ao]at w;show isTrue_and_nil #[i.H,I,w i 9 9 m (Nx.refl i)]
  |cons _ _=>simp[aJ]at h
 |[e],X,a,g,h,b=>by
  cases a with
  |nil=>simp[aJ]at h
  |cons f a =>
   cases a with
   |nil=>erw[aJ,dt]at h;show EC (sF e X f g h.1.2)
   |cons _ _=>simp[aJ]at h
 |e::l::c,X,a,g,h,b=>by
  cases a with
  |nil=>simp[aJ]at h
  |cons f a =>
   let j:noStar f=4/\bN ck e X.N X.env.scope f=4/\aJ ck (l::c) X.N X.env.scope a=4:=by rw[aJ]at h;erw[dt]at h;show#[h.1.1,h.1.2,h.2]
   cases a with
   |nil=>let:=j.2.2;simp[aJ]at this
   |cons o p=>show FC (sF e X f g j.2.1) (yB (l::c) X _ g j.2.2)
theorem CM:∀(c:↑E) (X:Cx) (a:↑nS),Gd ck Γ C d X->aJ ck c X.N X.env.scope a=4->∀{b},PW X (.BoolOp .Or a b) (Qu C (iw Γ c))
 |[],X,a,g,h,b=>by
  cases a with
  |nil=>rintro n k s σ H Q I ⟨i,rfl,rfl,m,w⟩;rw[show iw Γ []=pure df from rfl,ao]at w;show isTrue_or_nil #[i.H,I,w i 9 9 m (Nx.refl i)]
  |cons _ _=>simp[aJ]at h
 |[e],X,a,g,h,b=>by
  cases a with
  |nil=>simp[aJ]at h
  |cons f a =>
   cases a with
   |nil=>erw[aJ,dt]at h;show Ic (sF e X f g h.1.2)
   |cons _ _=>simp[aJ]at h
 |e::l::c,X,a,g,h,b=>by
  cases a with
  |nil=>simp[aJ]at h
  |cons f a =>
   let j:noStar f=4/\bN ck e X.N X.env.scope f=4/\aJ ck (l::c) X.N X.env.scope a=4:=by rw[aJ]at h;erw[dt]at h;show#[h.1.1,h.1.2,h.2]
   cases a with
   |nil=>let:=j.2.2;simp[aJ]at this
   |cons o p=>show Jw (sF e X f g j.2.1) (CM (l::c) X _ g j.2.2)
end
def MK(g:Gd ck Γ C d X)(b:pln e=4)(h:bN ck e X.N X.env.scope f=4):PE X f (z_ C (ev Γ e)):=by
 cases e with
 |var i=>apply a_ h;intro x k a;erw[dt,decide_eq_true_eq]at a;let(l,m):=aH a.2;show Cm a.1.1 (dg a.1.2) l m|cst u =>
  apply yz h;intro c n k a;cases c with
  |int j=>let:=cT a;subst this;show kI vB λ_ _=>9
  |str y=>let:=cT a;subst this;show kI AS λ_ _=>9
  |bool y=>let:=cT a;subst this;show kI Hg λ_ _=>9
  |none=>let:=cT a;subst this;show kI AR λ_ _=>9
  |_=>ext a
 |_=>ext b
def Xj(d:R0)(x:5)(a:8):nS->Bool|.ListComp e c s b=>eL (d.names.lookup x\.local)&&(a==b.line)&&!(s.names.any λ(n,k)=>n==x&&(k==.local||k==.cell))|_=>df
def iG(s:RO)(k:nS->Bool):Bool:=if h:s.ctorIdx=24 then ĝ (motive_2:=λ_=>Bool) s h (λe _=>k e) else df
def jR(h:iG s k=4):∃e p,s=.Expr e p/\k e=4:=bJ h λz=>ĝ s z λ_ _ _ h=>#[_,_,9,h]
def kL{P:RO->6}(h:iG s k=4)(fz:∀e p,k e=4->P (.Expr e p)):P s:=bJ h λz=>ĝ s z λ_ _ _ h=>fz _ _ h
def mC(s:RO)(k:nS->nS->Bool):Bool:=if h:s.ctorIdx=0x5 then ŝ (motive_2:=λ_=>Bool) s h (λa v _=>cN a λt=>k t v) else df
def wL(h:mC s k=4):∃t v p,s=.Assign [t] v p/\k t v=4:=bJ h λz=>ŝ s z λa v q _ h=>by let(t,rfl,z1):=cP h;show#[_,_,_,9,h]
def jc{P:RO->6}(h:mC s k=4)(fz:∀t v p,k t v=4->P (.Assign [t] v p)):P s:=by let(t,v,p,rfl,z):=wL h;show fz _ _ _ z
def CN(s:RO)(k:nS->Bool):Bool:=match s with|.Raise (b6 e) ef _=>k e|_=>df
def Gm{P:RO->6}(h:CN s k=4)(fz:∀e p,k e=4->P (.Raise (b6 e) ef p)):P s:=by
 unfold CN at h;split at h
 .show fz _ _ h
 ext h
def CO(s:RO)(k:RO->ExceptHandler->Bool):Bool:=match s with|.Try b hs [] [] _=>cN b λb=>cN hs λh=>k b h|_=>df
def wM(h:CO s k=4):∃b a p,s=.Try [b] [a] [] [] p/\k b a=4:=by
 unfold CO at h;split at h
 .let(b,rfl,z1):=cP h;apply dB z1;intro a z2;show#[_,_,_,9,z2]
 ext h
def CP(s:ExceptHandler)(k:nS->5->RO->↑RO->Bool):Bool:=match s with|.ExceptHandler (b6 t) (b6 n) (b::a) _=>k t n b a|_=>df
def wN(h:CP s k=4):∃t n b a p,s=.ExceptHandler (b6 t) (b6 n) (b::a) p/\k t n b a=4:=by
 unfold CP at h;split at h
 .show#[_,_,_,_,_,9,h]
 ext h
def Gn(s:RO)(k:5->nS->Bool):Bool:=mC s λt v=>aQ t λy=>k y v
def lA(h:Gn s k=4):∃y p v a,s=.Assign [.Name y p] v a/\k y v=4:=by apply jc h;intro t v a z;apply a_ z;intro y p z;show#[y,p,v,a,9,z]
def J9{P:RO->6}(h:Gn s k=4)(fz:∀y p v a,k y v=4->P (.Assign [.Name y p] v a)):P s:=by let(y,p,v,a,rfl,z):=lA h;show fz _ _ _ _ z
def ML(e:nS)(k:5->Pos->Bool):Bool:=if h:e.ctorIdx=23 then ZL (motive_1:=λ_=>Bool) e h k else df
def J_{P:nS->6}(h:ML e k=4)(fz:∀x p,k x p=4->P (.Name x p)):P e:=bJ h λz=>ZL e z λ_ _ _ h=>fz _ _ h
def Hx(s:RO)(k:nS->ϝ->nS->Bool):Bool:=if h:s.ctorIdx=0x7 then ĭ (motive_2:=λ_=>Bool) s h (λt a b _=>k t a b) else df
def Gp{P:RO->6}(h:Hx s k=4)(fz:∀t a b p,k t a b=4->P (.AugAssign t a b p)):P s:=bJ h λz=>ĭ s z λ_ _ _ _ _ h=>fz _ _ _ _ h
def qG(s:RO)(k:Option nS->Bool):Bool:=if h:s.ctorIdx=3 then ù (motive_2:=λ_=>Bool) s h (λv _=>k v) else df
def oU(h:qG s k=4):∃v p,s=.Return v p/\k v=4:=bJ h λz=>ù s z λ_ _ _ h=>#[_,_,9,h]
def Gq{P:RO->6}(h:qG s k=4)(fz:∀v p,k v=4->P (.Return v p)):P s:=bJ h λz=>ù s z λ_ _ _ h=>fz _ _ h
def CQ(v:Option nS)(k:nS->Bool):Bool:=match v with|some e=>k e|none=>df
def lC(h:CQ v k=4):∃e,v\e/\k e=4:=by cases v with|none=>ext h|some e=>show#[e,9,h]
def Ka{P:Option nS->6}(h:CQ v k=4)(fz:∀e,k e=4->P (b6 e)):P v:=by let(e,rfl,z):=lC h;show fz _ z
def uU(s:RO)(k:nS->↑RO->↑RO->Bool):Bool:=if h:s.ctorIdx=12 then Ŏ (motive_2:=λ_=>Bool) s h (λc a b _=>k c a b) else df
def wO(h:uU s k=4):∃c a b p,s=.If c a b p/\k c a b=4:=bJ h λz=>Ŏ s z λ_ _ _ _ _ h=>#[_,_,_,_,9,h]
def Gr{P:RO->6}(h:uU s k=4)(fz:∀c a b p,k c a b=4->P (.If c a b p)):P s:=bJ h λz=>Ŏ s z λ_ _ _ _ _ h=>fz _ _ _ _ h
def CS(s:RO)(k:nS->nS->↑RO->Bool):Bool:=if h:s.ctorIdx=0x9 then ς (motive_2:=λ_=>Bool) s h (λt i b o _=>o.isEmpty&&k t i b) else df
def wQ(h:CS s k=4):∃t i b p,s=.For t i b [] p/\k t i b=4:=bJ h λz=>ς s z λt i b o q _ h=>by rw[dt,M']at h;let(rfl,h):=h;show#[_,_,_,_,9,h]
def Gu{P:RO->6}(h:CS s k=4)(fz:∀t i b p,k t i b=4->P (.For t i b [] p)):P s:=by let(t,i,b,p,rfl,z):=wQ h;show fz _ _ _ _ z
def Kb(s:RO)(k:nS->↑RO->Bool):Bool:=if h:s.ctorIdx=11 then Ű (motive_2:=λ_=>Bool) s h (λc b o _=>o.isEmpty&&k c b) else df
def Ak(h:Kb s k=4):∃c b p,s=.While c b [] p/\k c b=4:=bJ h λz=>Ű s z λc b o q _ h=>by rw[dt,M']at h;let(rfl,h):=h;show#[_,_,_,9,h]
def Kc{P:RO->6}(h:Kb s k=4)(fz:∀c b p,k c b=4->P (.While c b [] p)):P s:=by let(c,b,p,rfl,z):=Ak h;show fz _ _ _ z
def oV(a:R0):↑nS->↑5->Bool|[],[]=>4|e::b,D::c=>isNm e D&&Qh a D&&bE D&&oV a b c|_,_=>df
def kdE(a:R0)(n:5)(e:nS)(G:↑5):Bool:=oP e "isinstance" λb=>jz b λx y=>isNm x n&&if -G=1 then oV a [y] G else uS y λl=>oV a l G&&eL (-G<100)
def Vv(a:R0)(n:5):↑nS->List ↑5->Bool|[],[]=>4|e::b,G::Gs=>kdE a n e G&&Vv a n b Gs|_,_=>df
def Ke(v:nS)(k:↑nS->Bool):Bool:=if h:v.ctorIdx=24 then Ý (motive_1:=λ_=>Bool) v h (λa _=>k a) else df
def lD(h:Ke v k=4):∃a p,v=.List a p/\k a=4:=bJ h λz=>Ý v z λ_ _ _ h=>#[_,_,9,h]
def grB(a:↑(5 × 5 ×Bool))(c:5)(G:↑5)(b:Bool):Bool:=if -G=1 then G.all λD=>eL ((c,D,b)∈a) else !b&&eL (2<=-G)&&G.all λD=>eL ((c,D,df)∈a)
def s1B(N:↑5)(a:R0)(k:8)(n:5)(b:List ↑5)(s:RO):Bool:=Gn s λz v=>Ke v λc=>eL (N[k]?\z)&&oJ a z&&Vv a n c b
def s2E(N:↑5)(d:R0)(k:8)(n:5)(e:List ↑5)(s:RO):Bool:=iG s λc=>dN c λo m b f g=>aQ o λz=>cN f λa=>eL (m="extend")&&S7 N d k z&&(b.endLine==g.line)&&Ke a λh=>Vv d n h e
def Xk(N:↑5)(a:R0)(k:8)(n:5)(b:↑(List ↑5))(c:RO)(d:↑RO):Bool:=match b,d with|[e,f,g],[h,i]=>s1B N a k n e c&&s2E N a k n f h&&s2E N a k n g i|_,_=>df
def TF(k:Ck)(c:5)(b:List ↑5)(a:↑Bool):Bool:=eL (-b=-a)&&eL (-a<100)&&(b.zip a).all λr=>grB k.xi c r.1 r.2
def cnB(k:Ck)(x:5)(c:↑(List ↑5))(p:5 ×↑Bool):Bool:=match c with|[a,b,d]=>eL ((p.1,x)∈k.xd)&&TF k p.1 a (p.2.take ⇑a)&&TF k p.1 b ((p.2.drop ⇑a).take ⇑b)&&TF k p.1 d ((p.2.drop ⇑a).drop ⇑b)|_=>df
def mW(k:Ck):RE->↑5->R0->nS->Bool|.mt d f m i h,N,c,e=>Ye k d f m i N c (λg=>aJ k h N c g) e|.Rc f m i j,N,c,e=>msB k f m i j N c e|.arg f r,N,c,e=>oP e f λg=>cN g λa=>eL (f∈k.fns)&&Qh c f&&bE f&&noStar a&&mW k r N c a|.call f h,N,c,e=>oP e f λg=>!g.isEmpty&&eL (f∈k.fns)&&Qh c f&&bE f&&aJ k h N c g|.tup e r,N,c,x=>uS x λl=>jz l λa b=>noStar a&&noStar b&&bN k e N c a&&mW k r N c b|.UN d f m i e r,N,c,x=>Ye k d f m i N c (λg=>jz g λa b=>noStar a&&noStar b&&bN k e N c a&&mW k r N c b) x
mutual
noncomputable def Al(k:Ck):S->↑5->R0->RO->Bool
 |.set i e,N,d,s=>mC s λt v=>ML t λx p=>eL (N[i]?\x)&&oJ d x&&eL (d.kind=.function)&&bN k e N d v&&(d4 v||Xj d x p.line v||(match v with|.ListComp _ _ _ _=>4|_=>df))&&(match e with|.comp _ _ _ _ _ _=>4|_=>d4 v)|.put i a b,N,d,s=>mC s λt u=>mw t λo h=>aQ o λx=>eL (N[i]?\x)&&jQ d x&&bE x&&d4 u&&fH h&&bN k a N d h&&bN k b N d u|.app i e,N,d,s=>iG s λc=>dN c λo m f g w=>aQ o λx=>cN g λa=>eL (m="append")&&eL (N[i]?\x)&&jQ d x&&bE x&&(f.endLine==w.line)&&noStar a&&bN k e N d a|.Sg,_,_,_=>df|.mX i,N,d,s=>Gn s λy v=>oP v "Desk" λg=>g.isEmpty&&eL (N[i]?\y)&&oJ d y&&Qh d "Desk"|.jm i e,N,d,s=>mC s λt v=>iF t λo m _=>aQ o λx=>aQ v λ_=>eL (m="rows")&&S7 N d i x&&bN k e N d v|.Sh i,N,d,s=>iG s λc=>dN c λo m f g w=>iF o λQ m1 _=>aQ Q λx=>cN g λa=>iF a λT m2 _=>aQ T λY=>eL (m="append")&&eL (m1="earlier")&&eL (m2="rows")&&eL (Y=x)&&(f.endLine==w.line)&&S7 N d i x|.ext i e,N,d,s=>iG s λc=>dN c λo m f g w=>aQ o λx=>cN g λa=>eL (m="extend")&&eL (N[i]?\x)&&jQ d x&&bE x&&(f.endLine==w.line)&&noStar a&&bN k e N d a|.bad,_,_,_=>4|.newD i,N,d,s=>mC s λt v=>aQ t λx=>Gf v&&eL (N[i]?\x)&&oJ d x|.putD i a b,N,d,s=>mC s λt u=>mw t λo h=>aQ o λx=>eL (N[i]?\x)&&jQ d x&&bE x&&d4 u&&fH h&&bN k a N d h&&bN k b N d u|.Rf i a e,N,d,s=>iG s λc=>dN c λo m f g w=>mw o λo' h=>aQ o' λx=>cN g λb=>eL (m="append")&&eL (N[i]?\x)&&jQ d x&&bE x&&fH h&&(f.endLine==w.line)&&noStar b&&bN k a N d h&&bN k e N d b&&pln e|.aug sub i a e,N,d,s=>Hx s λt B b=>mw t λo h=>aQ o λx=>eL (B=if sub=4 then .Sub else .Add)&&eL (N[i]?\x)&&jQ d x&&bE x&&fH h&&bN k a N d h&&bN k e N d b&&pln e|.exp e,N,d,s=>iG s λA=>d4 A&&bN k e N d A|.ret e,N,d,s=>qG s λv=>CQ v λA=>bN k e N d A|.ite c a b,N,d,s=>uU s λC h u=>bN k c N d C&&fk k a N d h&&fk k b N d u|.O_ t is ik D q,N,d,s=>CS s λJ z G=>Xh t N d (λ_=>4) is J&&wD z&&(match iD d J ik z with
    |some g=>aJ k D N d g
    |none=>df)&&fk k q N d G
 |.V1 c q,N,d,s=>Kb s λC G=>bN k c N d C&&fk k q N d G|.QG c e,N,d,s=>CN s λr=>oP r c λg=>cN g λa=>eL (c∈k.xc)&&Qh d c&&bE c&&noStar a&&bN k e N d a|.Qa r,N,d,s=>qG s λv=>CQ v λe=>mW k r N d e|.Tt i c b L H,N,d,s=>uU s λt a o=>uQ t λl B r=>aQ l λx=>cN a λI=>qG I λv=>CQ v λe=>dN e λu m f g w=>jz g λa1 a2=>o.isEmpty&&eL (B=.Eq)&&Yd c r&&S7 N d i x&&eL (m="replace")&&Yd L a1&&Yd H a2&&nh u&&(f.endLine==w.line)&&!(L==H)&&eL (-H<=14)&&bN k b N d u|.Si r,N,d,s=>iG s λe=>d4 e&&mW k r N d e|.T6 r x UO j l O,N,d,s=>CO s λb hd=>iG b λv=>CP hd λtx n I ss=>(mW k r N d v&&d4 v)&&(isNm tx x&&Qh d x&&bE x&&UO.all (cnB k x O))&&(eL (N[j]?\n)&&F9 d n&&bE n&&Qh d "isinstance")&&(Xk N d l n O I ss&&eL (j≠l))
noncomputable def fk(k:Ck):↑S->↑5->R0->↑RO->Bool
 |[],_,_,a=>a.isEmpty|s::c,N,b,a=>match a with
  |s'::a=>Al k s N b s'&&fk k c N b a
  |[]=>df
end
section
variable{ck:Ck}{Γ:Tab}{C:Ct}{d:8}{X:Cx}
def oW(h:oJ a x=4):Loc a x:=by unfold oJ at h;erw[W9,decide_eq_true_eq]at h;show h
def gf(h:d4 v=4):WQ v t a b=pure df:=by cases v<;>first|rfl|cases h
def yC(h:d4 v=4):ģ [t] v a b=pure df:=by show gf h
def Gv(h:fH i=4):∀b c a,augStore i b c a=(do VE [a,b,c] (õ b c a);Ŀ [a,b,c] [];pure .next):=by intro b c a;cases i<;>first|rfl|cases h
def yD(h:fH i=4):∀v,ç (.Subscript o i p) a v=(do
   let b <-VE [v] (uv o a)
   let c <-VE [v,b] (uv i a)
   ĕ p
   VE [v,b,c] (õ b c v)
   Ŀ [v,b,c] []):=by
 intro v;cases i<;>first|rfl|cases h
structure Gs(ck:Ck)(Γ:Tab)(C:Ct)(d:8)(X:Cx):6 where
 gd:Gd ck Γ C d X
 nd:X.N.Nodup
 fn:∀x,X.fn x=4
 po:ŏ (i5 X.prog X.w) X.A X.env X.xe
 kd:X.env.scope.kind=.function
 xs:V_ ck X.K X.mg
 xl:∀c H',C.xw (.str c) H'->∀C' T H pins σ s e s',W.nsIn X.K kr c\b6 (.ref C')->Inv X pins σ H s->cy X.prog X.w X.stack H s e C' T .none H' s'->X.xe (.ref e) s'
 sk:X.stack=X.env::X.outer/\X.env.frame\X.env.locals
 ex:X.ex=[]
def yE(g:Gd ck Γ C d X)(h:(match iD X.env.scope k l c with|some i=>aJ ck b X.N X.env.scope i|none=>df)=4):PI X k c (SW C l (bw Γ b)):=by
 split at h
 .rename_i i f;show Ht g f (jq b X _ g h) (λa e=>by
   subst e;cases b with
   |nil=>simp[aJ]at h|cons j m =>
    cases m with
    |nil=>erw[aJ,dt]at h;show#[j,9,bS j X _ g h.1.2]
    |cons _ _=>simp[aJ]at h) (cn h)
 ext h
def oX{a p e:Pos}(hk:X.env.scope.kind=.function):WQ (.ListComp c b s a) (b6 (.Name x p)) e.line X.env=pure (Xj X.env.scope x p.line (.ListComp c b s a)):=by
 let f:X.env.blockKind=.function:=by unfold Env.blockKind;rw[hk];rfl
 change pure (X.env.blockKind==.function&&X.env.kindOf x==b6 _&&p.line==a.line&&!(s.names.any λ(n,k)=>n==x&&(k==.local||k==.cell)))=_;unfold Xj;let:(X.env.kindOf x==b6 NameKind.local)=eL (X.env.scope.names.lookup x\.local):=by unfold Env.kindOf;rw[so];simp
 left
def Kf{b cond}(G:Gs ck Γ C d X)(A:X.N[i]?\x)(hx:oJ X.env.scope x=4) (h:bN ck (.comp n t ik b cond e) X.N X.env.scope (.ListComp c [⟨tg,f,k,0⟩] a u)=4) (B) (J:∀j,B j=4->j≠i) :L2.PS X (.Assign [.Name x p] (.ListComp c [⟨tg,f,k,0⟩] a u) R7) (PD C B (ev Γ (.comp n t ik b cond e) >>= λr=>fD i r >>= λ_=>pure .nx)):=by
 let g:=G.gd;let L:=bS _ X _ g h;cases o:Xj _ x p.line _ with
 |false=>show Ho J G.nd A (oW hx) (.inl (G.fn x)) L (by rw[oX G.kd,o])|true =>
  let hl:=by erw[Xj,dt,decide_eq_true_eq]at o;show o.1.1
  let(O,ab,v,T,q,p',e0,Y):=lz h;ext e0;clear h L;erw[dt,decide_eq_true_eq]at Y;obtain⟨⟨⟨⟨⟨⟨⟨h1,h2⟩,h3⟩,h4⟩,h5⟩,h6⟩,l⟩,h8⟩:=Y;subst h1;let S:=Bp  9 (qE _ _) h2;show JJ J S g.calm G.nd A hl (yE g h5) (λD s H ex=>CG  g.calm g.K S.nd (λ_ z=>z) h3)
   (λD s H ex=>by
    cases k with
    |nil =>
     cases cond with
     |nil=>show λm s σ H Q I ⟨c0,y,e2,ok,w⟩=>xY m s σ H Q I (by subst y e2;rw[show aN Γ []=pure c4 from rfl,ao]at w;show w c0 9 9 ok (Nx.refl c0))
     |cons _ _=>simp[aJ]at l
    |cons c1 cs =>
     cases cs with
     |nil =>
      cases cond with
      |nil=>simp[aJ]at l
      |cons y PX =>
       cases PX with
       |nil=>erw[aJ,dt]at l;show xZ (sF y _ c1 (g.cx _ _ _ _ _ _) l.1.2)
       |cons _ _=>simp[aJ]at l
     |cons _ _=>simp at h6)
   (λD s H ex=>bS e _ c (g.cx _ _ _ _ _ _) h8) (by rw[oX G.kd,o]) (wJ h4)
def Gw(G:Gs ck Γ C d X)(h:Al ck (.QG c e) X.N X.env.scope f=4):L2.PS X f (PD C (Vj (.QG c e)) (exec Γ (.QG c e))):=by apply Gm h;intro r v j;apply oQ j;intro x y z z1;apply dB z1;intro a g;erw[dt,decide_eq_true_eq]at g;obtain⟨⟨⟨⟨k,l⟩,m⟩,n⟩,o⟩:=g;let(p,q,t,u):=G.xs.xc _ k;show Mq G.gd.calm (cp l) q (aH m).1 u (bS e X a G.gd o) (aX  n) λi w b σ s e f I F=>G.xl _ i w p ef i b σ s e f t I F
def CT(h:grB a c G b=4):Grp a c G b:=by
 unfold grB at h;split at h
 .rename_i e
  match G,e with|[D],_=>show .inl #[D,9,by left]
 simp only[dt,td,decide_eq_true_eq]at h;show .inr #[h.1.1,h.1.2,λD f=>of_decide_eq_true (nH.mp h.2 D f)]
def Hy(o:wI ck X.K X.mg)(h:oV X.env.scope [e] [D]=4)(g:(c,D,b)∈ck.xi):∃p k i,e=.Name D p/\PE X (.Name D p) (tC k)/\(∀u,RelV k u->u=i)/\∀a,W.nsIn X.K kr c\b6 (.ref a)->g7 X.K a=4/\W.kitOne X.K (.ref a) i\b:=by
 erw[oV,dt]at h;obtain⟨⟨⟨q,l⟩,r⟩,_⟩:=h;let(p,rfl):=jb q;let(i,t,m):=o D #[_,g,9];obtain⟨v,rfl,f⟩|⟨rfl,rfl,f⟩:=t
 .show#[p,_,_,9,λn s σ H Q I z=>eO I (cp l) f #[.ref v,H,I,9,z] (aH r).1,λu z=>z,λa j=>m _ g 9 a j]
 show#[p,.ty _,_,9,xQ (cp l) f (show H8 _\_ by decide +kernel) 9 (by decide +kernel) (by rfl),λu z=>z,λa j=>m _ g 9 a j]
theorem CU(b:wI ck X.K X.mg):∀{a}{G},oV X.env.scope a G=4->(∀D∈G,(c,D,df)∈ck.xi)->(∃f,ot X c a f)/\-a=-G
 |[],[],_,_=>#[#[[],.nil],9]|[],_::_,h,_=>by simp[oV]at h|_::_,[],h,_=>by simp[oV]at h|e::a,D::G,h,g=>by
  let i:oV X.env.scope [e] [D]=4:=by erw[oV,dt]at h ⊢;show#[h.1,ttt]
  let j:=by erw[oV,dt]at h;show h.2
  let(p,r,s,rfl,k,l,m):=Hy b i (g D ki);let((f,n),o):=CU b j λD q=>g D (ib _ q);show#[#[_,.cons k l m n],by simp[o]]
def MM(g:X.N[j]?\n)(i:PV X.env.scope n)(k:(n==("__debug__":5))=df)(m:(n==("__classdict__":5))=df)(o:Gl X "isinstance")(q:X.mg "isinstance"=ef)(r:wI ck X.K X.mg)(h:kdE X.env.scope n e G=4)(v:Grp ck.xi c G b):PE X e (Fg X.K j c b):=by
 let(O,p,Q,rfl,w):=f_ (show oP e "isinstance" _=4 from h);let(x,y,rfl,a):=gL w;rw[dt]at a;let(T,rfl):=jb a.1;obtain⟨D,rfl,f⟩|⟨rfl,RN,f⟩:=v
 .let(A,Y,dv,rfl,B,H,I):=Hy r (a.2) f;show Jf g i k m o q B H I
 let s:=a.2;rw[if_neg ⋯]at s;let(l,q0,A,rfl,t):=oO s;rw[dt,decide_eq_true_eq]at t;let((J,L),u):=CU r t.1 f;show Jg g i k m o q L (λz=>by rw[z]at u;simp at u;lia) 7
theorem wR(i:X.N[j]?\n)(k:PV X.env.scope n)(l:(n==("__debug__":5))=df)(m:(n==("__classdict__":5))=df)(o:Gl X "isinstance")(p:X.mg "isinstance"=ef)(q:wI ck X.K X.mg):∀{a} {f} {g},Vv X.env.scope n a f=4->-f=-g->(∀r∈f.zip g,Grp ck.xi c r.1 r.2)->PA X a (uC X.K j c g)
 |[],[],[],_,_,_=>dw|[],[],_::_,_,h,_=>by simp at h|[],_::_,_,h,_,_=>by simp[Vv]at h|_::_,[],_,h,_,_=>by simp[Vv]at h|_::_,_::_,[],_,h,_=>by simp at h|e::a,G::f,b::g,h,hl,s=>by
  erw[Vv,dt]at h;let hs:j0 (e::a) X.env=(df,uv e X.env)::j0 a X.env:=by let(_,_,_,rfl,_):=f_ (h.1);rfl
  show bY (MM i k l m o p q h.1 (s _ ki)) (wR i k l m o p q h.2 (by exists hl) λr t=>s r (ib _ t)) hs
def Ov(G:Gs ck Γ C d X)(f:X.N[j]?\n)(g:PV X.env.scope n)(o:(n=="__debug__")=df/\(n=="__classdict__")=df)(i:Qh X.env.scope "isinstance"=4)(b:TF ck c l m=4)(h:s1B X.N X.env.scope k n l s=4):L2.PS (X.O9 ea) s (AZ (ER (uC X.K j c m)) (tM k)):=by let(z,q,v,t,rfl,a):=lA h;let(u,w,rfl,e):=lD a;erw[dt,decide_eq_true_eq]at e;unfold TF at b;erw[dt,decide_eq_true_eq]at b;show qY  G.nd e.1.1 (oW e.1.2) (vP (wR (X:=X.O9 ea)  f g o.1 o.2 (cp i) (G.gd.blt _ kK) G.xs.xi e.2 b.1.1 λr p=>CT (nH.mp b.2 r p))) 9 (.inl (G.fn _))
def tXt(X:Cx)(j k:8)(c:5)(e:↑Bool):TS:=AW (Zc X.K "list" (λx f H Q=>∃l b a zs,x=.ref l/\f=[.ref b]/\H l\.lst a/\(Py X.K H b zs\/Pu X.K H b zs)/\-a+ -zs<=ei/\Q .OP (upd H l (.lst (a++zs)))) (AQ k) (A6 (ER (uC X.K j c e)) EO))
def MN(G:Gs ck Γ C d X)(f:X.N[j]?\n)(g:PV X.env.scope n)(o:(n=="__debug__")=df/\(n=="__classdict__")=df)(i:Qh X.env.scope "isinstance"=4)(a:TF ck c l m=4)(h:s2E X.N X.env.scope k n l s=4):L2.PS (X.O9 p) s (tXt X j k c m):=by let(B,D,rfl,q):=jR h;let(H,I,b,J,L,rfl,t):=mq q;let(O,u,rfl,v):=aC t;let(Q,rfl,e):=cP v;erw[dt,decide_eq_true_eq]at e;obtain⟨⟨⟨rfl,w⟩,x⟩,y⟩:=e;let(T,Y,rfl,z):=lD y;let(w1,w2,w3,w4):=fM w;unfold TF at a;erw[dt,decide_eq_true_eq]at a;show iU (tU  F.plainAttrs_list F.slot_list_extend F.type_list_extend og (br w1 w2 w3 w4) (bY (vP (wR (X:=X.O9 p)  f g o.1 o.2 (cp i) (G.gd.blt _ kK) G.xs.xi z a.1.1 λr A=>CT (nH.mp a.2 r A))) dw 9) 9 9 x 9 9) 9
def CV(h:Xk N a k n b c e=4):k< -N:=by
 unfold Xk at h;split at h
 .simp only[dt]at h;let(z,f,v,g,rfl,z1):=lA h.1.1;let(i,j,rfl,z2):=lD z1;erw[dt,decide_eq_true_eq]at z2;show(gr.mp z2.1.1).1
 ext h
def CW(l:σ[j]?\b6 (.ref m))(n:σ[k]?\b6 (.ref p))(r:oe.cls=.ref s)(t:W.nsIn X.K kr c\b6 (.ref s))(v:H m\.QD oe u)(f:H p\.lst (a.map V.bl))(hl:-a<200/\-b2<100) (q:∀b,(∀y o,y≠p->H y\o->b y\o)->b p\.lst ((a++b2).map V.bl)->D.nx σ b):tXt X j k c b2 D σ H:=by
 let w:1000<=ei:=7
 show#[_,n,.inl #[9,_,Py.of f],ou l r t b2 H _ v λx g=>#[by rw[f7];lia,λh i=>?_]];let A:(upd x h (.lst (b2.map V.bl))) p\.lst (a.map V.bl):=by let z:=g _ _ f;rw[aj (ay z i)];show z
 show#[p,h,_,_,9,9,A,.inl (Py.of ak),by rw[f7,f7];lia,?_];show q _ (λy o B e=>?_) (by rw[ro];show ak);let z:=g _ _ e;rw[aj B,aj (ay z i)];show z
def MO(G:Gs ck Γ C d X)(A:X.N[j]?\n)(Yh:F9 X.env.scope n=4)(ON:bE n=4)(B:Qh X.env.scope "isinstance"=4)(Pp:j≠k)(I:cnB ck x RI p=4)(h:Xk X.N X.env.scope k n RI s1 ss=4):∃i Dc,X.mg x\.ref Dc/\W.nsIn X.K kr p.1\b6 (.ref i)/\W.exmOne X.K (.ref i) (.ref Dc)\4/\SuE X (s1::ss) j k p:=by
 let kl:=CV h;let(c,a):=p;unfold Xk at h;split at h
 rotate_left
 .cases h
 rename_i g v D3 s2 s3;unfold cnB at I;erw[dt,decide_eq_true_eq]at I h;obtain⟨⟨⟨c1,l⟩,m⟩,r⟩:=I;let((z1,z2),z3):=h;let(i,Cd,r1,r2,r3,r4):=G.xs.xd _ c1;show#[i,Cd,r3,r2,r4,λea oe ws hd h2=>?_];let J:PV X.env.scope n:=.inl (of_decide_eq_true Yh);let o:=aH ON;let w:a=(a.take ⇑g++(a.drop ⇑g).take ⇑v)++(a.drop ⇑g).drop ⇑v:=by rw[RA,Xf,Xf]
 generalize a.take ⇑g=L at l w;generalize (a.drop ⇑g).take ⇑v=b2 at m w;generalize (a.drop ⇑g).drop ⇑v=b3 at r w;subst w;let l1:-L<100:=by unfold TF at l;erw[dt,decide_eq_true_eq]at l;show l.1.2
 let l2:-b2<100:=by unfold TF at m;erw[dt,decide_eq_true_eq]at m;show m.1.2
 let l3:-b3<100:=by unfold TF at r;erw[dt,decide_eq_true_eq]at r;show r.1.2
 show#[_,fc (Ov (ea:=ea) G A J o B l z1) (fc (MN G A J o B m z2) (fc (MN G A J o B r z3) mY)),λD σ H u i hl hσ hH O Q q=>?_];let UU:k < -σ:=7
 let ac:(1000:8)<=ei:=7
 unfold Ln AZ ER;show ou hσ O Q L H _ hH λH1 Yg=>#[by rw[f7];lia,λb Ux=>?_]
 let g1:(σ.set k (b6 (V.ref b)))[k]?\b6 (.ref b):=i4 UU;let g2:(σ.set k (b6 (V.ref b)))[j]?\b6 (.ref ea):=by rw[ko (sg Pp)];show hσ
 let f:∀y o,H y\o->upd H1 b (.lst (L.map V.bl)) y\o/\y≠b:=λy o' T=>by let z:=Yg _ _ T;let s:=ay z Ux;rw[aj s];show#[z,s]
 let Y:=f _ _ hH;show CW g2 g1 O Q Y.1 ak #[7,l2] λH2 t e2=>?_;show CW g2 g1 O Q (t _ _ Y.2 Y.1) e2 #[by rw[nc];lia,l3] λH3 ab e3=>?_;show q H3 b (λy o' T=>?_) ?_ e3
 .let(z,s):=f _ _ T;show ab _ _ s (t _ _ s z)
 cases e:H b with|none=>rfl|some o'=>show absurd 9 (f _ _ e).2
def Gy(G:Gd ck Γ C d X)(h:mW ck (.call f b) X.N X.env.scope e=4):PR X C e (PQ Γ (.call f b)):=by
 let(c,p,v,rfl,z):=f_ (h);clear h;erw[dt,decide_eq_true_eq]at z;obtain⟨⟨⟨⟨i,j⟩,k⟩,l⟩,g⟩:=z;let(x,y,A,B,m,n,o,q,r,s):=(G.fns _ j)
 cases c with|nil=>ext i|cons a c=>let(t,u):=CJ  (cn g) _ _ 9;show JZ G.P G.w G.K 9 r s m G.room (cp k) n o q (aH l).1 (jq b _ _ G.P4 g) t u
def Kg(G:Gd ck Γ C d X)(f:∀b,mW ck r X.N X.env.scope b=4->PR X C b (PQ Γ r))(h:mW ck (.tup c r) X.N X.env.scope x=4):PR X C x (PQ Γ (.tup c r)):=by let(l,q,p,rfl,z):=oO (h);clear h;let(a,b,rfl,e):=gL z;erw[dt]at e;obtain⟨⟨⟨g,i⟩,j⟩,k⟩:=e;show Mw (bS c _ a G.P4 j) (f b k) (aX g) (aX  i)
def Kh(G:Gd ck Γ C d X)(q:∀b,mW ck r X.N X.env.scope b=4->PR X C b (PQ Γ r))(h:mW ck (.UN g f m i j r) X.N X.env.scope x=4):PR X C x (PQ Γ (.UN g f m i j r)):=by
 apply c_ (h);intro o y k Y N' z1;clear h;apply a_ z1;intro x px z2;erw[dt,decide_eq_true_eq]at z2;obtain⟨⟨⟨⟨⟨⟨rfl,s⟩,t⟩,u⟩,v⟩,z⟩,A⟩:=z2;let(np,fa,fd,ps,B,_,q3,D,H,I):=(G.Q0.o _ s)
 let(a,b,rfl,l):=gL A;erw[dt]at l;obtain⟨⟨⟨n,p⟩,J⟩,L⟩:=l;let(w1,w2,w3,w4):=fM u;let(O,Q):=wK t;obtain⟨c,K⟩:∃c,Rk X.K g c:=by let(c,cd,_,_,K,T,_,_,_,_):=G.Q0.sh;cases g with|false=>show#[_,K]|true=>show#[_,T]
 show Mx K G.P G.w G.K w1 w2 w3 w4 9 I B G.room (D O c K.hc) H Q (bS j _ a G.P4 J) (q b L) (aX n) (aX  p) (CK (λe he=>by
  obtain rfl|he:=gb.mp he
  .show n
  rw[mN.mp he];show p) z v 9)
theorem Am(G:Gd ck Γ C d X):∀r e,mW ck r X.N X.env.scope e=4->PR X C e (PQ Γ r)
 |.mt b f m i c,e,h=>MF  G h λj g=>#[jq c _ j G.P4 g,cn g,λz=>by subst z;cases c with|nil=>rfl|cons _ _=>simp[aJ]at g]|.Rc f m i B,e,h=>MG G h|.arg f r,e,h=>by
  let(j,p,D,rfl,z):=f_ (h);clear h;let(a,rfl,k):=cP z;erw[dt,decide_eq_true_eq]at k;obtain⟨⟨⟨⟨l,n⟩,o⟩,q⟩,s⟩:=k;let(H,I,J,L,t,u,v,y,A,O):=(G.fns _ l)
  show Mt G.P G.w G.K 9 A t G.room (cp n) u v y (aH o).1 (Am G r a s) (aX  q)
 |.call f c,e,h=>Gy G h|.tup e r,x,h=>Kg G (Am G r) h|.UN d f m i e r,x,h=>Kh G (Am G r) h
def Gz(G:Gs ck Γ C d X)(h:Al ck (.Tt i c b f g) X.N X.env.scope j=4):L2.PS X j (PD C (Vj (.Tt i c b f g)) (exec Γ (.Tt i c b f g))):=by let(t,a,o,p,rfl,z1):=wO (show uU j _=4 from h);let(l,T,r,Y,rfl,z2):=oM z1;let(x,px,rfl,k):=aC z2;let(s1,rfl,n):=cP k;let(v,p6,rfl,q):=oU n;let(e,rfl,s):=lC q;let(z,m,u,as,N',rfl,w):=mq s;let(a1,a2,rfl,y):=gL w;clear h z1 z2 k n q s w;erw[dt,decide_eq_true_eq,M',td]at y;obtain⟨⟨⟨⟨⟨⟨⟨⟨⟨⟨⟨rfl,rfl⟩,A⟩,B⟩,rfl⟩,D⟩,H⟩,I⟩,J⟩,L⟩,O⟩,Q⟩:=y;let(_,_,rfl):=oR A;let(_,_,rfl):=oR D;let(_,_,rfl):=oR H;let(w1,w2,w3,w4):=fM B;show Mu w1 w2 w3 w4 (bS b X z G.gd Q) (kJ I) J L O
def GA(G:Gs ck Γ C d X)(h:Al ck (.T6 r x c j l e) X.N X.env.scope o=4):L2.PS X o (PD C (Vj (.T6 r x c j l e)) (exec Γ (.T6 r x c j l e))):=by let(b,hd,p,rfl,z1):=wM (h);let(v,p4,rfl,f):=jR z1;let(tx,n,s1,ss,q,rfl,z):=wN f;clear h z1 f;erw[dt,decide_eq_true_eq]at z;obtain⟨⟨⟨⟨s,t⟩,⟨⟨u,b2⟩,w⟩,y⟩,⟨⟨g,i⟩,A⟩,B⟩,k,D⟩:=z;let(p5,rfl):=jb u;let H:=CV k;show MA (λm a=>by let a:(eL (m≠j)&&eL (m≠l))=4:=a;exists a) G.nd g (of_decide_eq_true i) H (Am G.gd r v s) (gf t) G.sk G.ex (cp b2) (aH w).1 λp I=>?_;let(J,L,O,Q,T,Y):=MO G g i A B D (nH.mp y p I) k;show#[J,L,O,Q,T,Y]
def CY(G:Gs ck Γ C d X)(h:Al ck (.mX i) X.N X.env.scope b=4):L2.PS X b (PD C (Vj (.mX i)) (exec Γ (.mX i))):=by apply J9 h;intro y p v m z1;apply oQ z1;intro n o q z2;erw[dt,decide_eq_true_eq,M']at z2;obtain⟨⟨⟨rfl,c⟩,e⟩,f⟩:=z2;let(r,s,t,u,K,g,M,F,k,l):=G.gd.Q0.sh;show JY K g G.gd.K (λj a=>by let a:eL (j≠i)=4:=a;exists a) G.nd c (oW e) (.inl (G.fn _)) M F (G.gd.room.mono G.gd.Q0.lv) (cp f) l k
mutual
theorem Ow:∀(s:S) (X:Cx) (f:RO),Gs ck Γ C d X->Al ck s X.N X.env.scope f=4->L2.PS X f (PD C (Vj s) (exec Γ s))
 |.set i e,X,f,G,h=>by
  apply jc h;intro t v p1 z1;apply J_ z1;intro x p z2;clear h z1;let h:=z2;erw[dt,decide_eq_true_eq]at h;obtain⟨⟨⟨⟨⟨g,k⟩,Q⟩,A⟩,J⟩,L⟩:=h;let Qs:∀j,Vj (.set i e) j=4->j≠i:=λj hj=>of_decide_eq_true (show eL (j≠i)=4 from hj);by_cases hc:d4 v=4
  .show Ho Qs G.nd g (oW k) (.inl (G.fn x)) (bS e X v G.gd A) (gf hc)
  cases e with
  |comp n t ik al cond e=>let(ap,tg,ac,ar,am,p3,rfl,_):=lz A;show Kf G g k A _ Qs
  |_=>show absurd L hc
 |.put i a b,X,f,G,h=>by apply jc h;intro t v p z1;apply gK z1;intro o a' p1 z2;apply a_ z2;intro x px B;erw[dt,decide_eq_true_eq]at B;obtain⟨⟨⟨⟨⟨⟨g,k⟩,Q⟩,A⟩,J⟩,L⟩,h7⟩:=B;let(T,Y):=aH Q;show Mp G.gd.P G.gd.w G.gd.K G.gd.u g (dg k) T Y (bS b X _ G.gd h7) (bS a X _ G.gd L) (yC A) 9 (yD J)|.Sg,X,f,G,h=>by ext h|.mX i,X,f,G,h=>CY G h|.jm i e,X,f,G,h=>by apply jc h;intro t v p1 z1;apply f9 z1;intro o m q z2;apply a_ z2;intro x px B;let(y,py,rfl,z4):=aC B;erw[dt,decide_eq_true_eq]at z4;let((rfl,g),k):=z4;let(w1,w2,w3,w4):=fM g;let(cl,_,_,_,K,_,_,_,_,_):=G.gd.Q0.sh;show JQ K G.gd.K w1 w2 w3 w4 (bS e X _ G.gd k) 9|.Sh i,X,f,G,h=>by apply kL h;intro c p0 z1;apply c_ z1;intro o m ab as N' z2;apply f9 z2;intro o1 m1 T B;apply a_ B;intro x px z4;apply dB z4;intro a z5;apply f9 z5;intro o2 m2 Y z6;apply a_ z6;intro x2 a0 z7;erw[dt,decide_eq_true_eq]at z7;obtain⟨⟨⟨⟨⟨rfl,rfl⟩,rfl⟩,rfl⟩,g⟩,k⟩:=z7;let(w1,w2,w3,w4):=fM k;let(cl,_,_,_,K,_,_,_,_,_):=G.gd.Q0.sh;show JR K G.gd.K w1 w2 w3 w4 g|.app i e,X,f,G,h=>by apply kL h;intro c p0 z1;apply c_ z1;intro o m ab as N' z2;apply a_ z2;intro x px B;apply dB B;intro a z4;erw[dt,decide_eq_true_eq]at z4;obtain⟨⟨⟨⟨⟨⟨rfl,g⟩,k⟩,Q⟩,A⟩,J⟩,L⟩:=z4;let(T,Y):=aH Q;let st:=aX (env:=X.env) (es:=[]) J;let sa:=(bF (pos:=N') (env:=X.env) (es:=[a]) λe he=>by simp at he;subst he;show J).2;show Mn G.gd.K g (dg k) T Y (bS e X _ G.gd L) ?_ A st;rw[sa];rfl|.ext i e,X,f,G,h=>by apply kL h;intro c p0 z1;apply c_ z1;intro o m ab as N' z2;apply a_ z2;intro x px B;apply dB B;intro a z4;erw[dt,decide_eq_true_eq]at z4;obtain⟨⟨⟨⟨⟨⟨rfl,g⟩,k⟩,Q⟩,A⟩,J⟩,L⟩:=z4;let(T,Y):=aH Q;let st:=aX (env:=X.env) (es:=[]) J;let sa:=(bF (pos:=N') (env:=X.env) (es:=[a]) λe he=>by simp at he;subst he;show J).2;show Mo G.gd.K g (dg k) T Y (bS e X _ G.gd L) ?_ A st;rw[sa];rfl|.bad,X,f,G,h=>λan sh σ H D I ⟨_,_,_,_,w⟩=>(bp.mp w).elim|.newD i,X,f,G,h=>by apply jc h;intro t v p1 z1;apply a_ z1;intro x p z2;clear h z1;let h:=z2;erw[dt,decide_eq_true_eq]at h;let(p2,rfl):=qC h.1.1;show JL (λj hj=>of_decide_eq_true (show eL (j≠i)=4 from hj)) G.nd h.1.2 (oW h.2) (.inl (G.fn _)) (gf 9)|.putD i a b,X,f,G,h=>by apply jc h;intro t v p z1;apply gK z1;intro o a' p1 z2;apply a_ z2;intro x px B;erw[dt,decide_eq_true_eq]at B;obtain⟨⟨⟨⟨⟨⟨g,k⟩,Q⟩,A⟩,J⟩,L⟩,h7⟩:=B;let(T,Y):=aH Q;show JM G.gd.u g (dg k) T Y (bS b X _ G.gd h7) (bS a X _ G.gd L) (yC A) 9 (yD J)|.Rf i a e,X,f,G,h=>by apply kL h;intro c p0 z1;apply c_ z1;intro o m ab as N' z2;apply gK z2;intro o' a' p1 B;apply a_ B;intro x px z4;apply dB z4;intro b z5;erw[dt,decide_eq_true_eq]at z5;obtain⟨⟨⟨⟨⟨⟨⟨⟨⟨rfl,g⟩,k⟩,Q⟩,A⟩,J⟩,L⟩,h7⟩,h8⟩,h9⟩:=z5;let ha:=MK (C:=C) (Γ:=Γ) (d:=d) (ck:=ck) G.gd h9 h8;let(T,Y):=aH Q;let st:=aX (env:=X.env) (es:=[]) L;let sa:=(bF (pos:=N') (env:=X.env) (es:=[b]) λe he=>by simp at he;subst he;show L).2;show JN G.gd.K G.gd.u g (dg k) T Y ha (bS a X _ G.gd h7) (uT A) ?_ J st;rw[sa];rfl|.aug sub i a e,X,f,G,h=>by apply Gp h;intro t op b p z0;clear h;let h:=z0;apply gK h;intro o a' p1 z1;apply a_ z1;intro x px z2;erw[dt,decide_eq_true_eq]at z2;obtain⟨⟨⟨⟨⟨⟨⟨rfl,g⟩,k⟩,Q⟩,A⟩,J⟩,L⟩,h7⟩:=z2;let ha:=MK (C:=C) (Γ:=Γ) (d:=d) (ck:=ck) G.gd h7 L;let(T,Y):=aH Q;show Mr g (dg k) T Y ha (bS a X _ G.gd J) (Gv A)|.exp e,X,f,G,h=>by apply kL h;intro e' p z0;clear h;let h:=z0;erw[dt]at h;show Mh (bS e X _ G.gd h.2) (gf h.1)|.ret e,X,f,G,h=>by apply Gq h;intro v p z0;apply Ka z0;intro e' z1;clear h z0;let h:=z1;show Mi (bS e X _ G.gd h)|.ite c a b,X,f,G,h=>by apply Gr h;intro c' a' b' p z0;clear h;let h:=z0;erw[dt]at h;let ha:=oY a X _ G h.1.2;let hb:=oY b X _ G h.2;show Mj (sF c X _ G.gd h.1.1) (Qj.weak ha λD σ H z=>si (λj hj=>(ve.mp (show(QP a j&&QP b j)=4 from hj)).1) z) (Qj.weak hb λD σ H z=>si (λj hj=>(ve.mp (show(QP a j&&QP b j)=4 from hj)).2) z)|.O_ t is ik al O,X,f,G,h=>by apply Gu h;intro tg ac Rm p z0;clear h;let h:=z0;rw[dt,dt,dt]at h;show Mm G.po G.gd.calm (yE G.gd h.1.2) (CG (fa:=λ_=>4) G.gd.calm G.gd.K G.nd (λx _=>G.fn x) h.1.1.1) (oY O X _ G h.2) (wJ h.1.1.2) λj hj=>by let hj:(eL (j∉is)&&QP O j)=4:=hj;exists hj|.V1 c O,X,f,G,h=>by apply Kc h;intro c' Rm p z0;clear h;let h:=z0;erw[dt]at h;show Ml G.po (sF c X _ G.gd h.1) (oY O X _ G h.2)|.QG c e,X,f,G,h=>Gw G h|.T6 r x V8 j l RI,X,f,G,h=>GA G h|.Si r,X,f,G,h=>by let(e,p,rfl,z):=jR (show iG f _=4 from h);rw[dt]at z;show My (Am G.gd r e z.2) (gf z.1) G.xl|.Tt i c b c1 c2,X,f,G,h=>Gz G h|.Qa r,X,f,G,h=>by let(v,p,rfl,z):=oU (show qG f _=4 from h);let(e,rfl,z):=lC z;show JX (Am G.gd r e z) G.xl
theorem oY:∀(b:↑S) (X:Cx) (a:↑RO),Gs ck Γ C d X->fk ck b X.N X.env.scope a=4->Qj X a (PD C (QP b) (execs Γ b))
 |[],X,a,G,h=>by
  cases a with
  |nil=>show Mg
  |cons _ _=>simp[fk]at h
 |s::b,X,a,G,h=>by
  cases a with
  |nil=>simp[fk]at h
  |cons e a=>erw[fk,dt]at h;let f:=Ow s X e G h.1;let g:=oY b X a G h.2;show JI (PS.weak f λD σ H z=>si (λj c=>by erw[QP,dt]at c;show c.1) z) (Qj.weak g λD σ H z=>si (λj c=>by erw[QP,dt]at c;show c.2) z)
end
end
section
variable{ck:Ck}{Γ:Tab}{d:8}{P:DD}{w:Q1}{K:PySem.W.Frag}{mg:5->Option i7}{base:Te}
def jd{n i:8}(h:(start a n)[i]?\b6 (k,u)):a[i]?\u/\k=if O6 u=4 then .loc else .any:=by
 unfold start at h;by_cases b:i< -a
 .rw[K0 ⋯,ri]at h;rw[Sk b]at h ⊢;erw[ύ,Option.some.injEq,Prod.mk.injEq]at h;let(c,e):=h;subst e;show#[9,c.symm]
 rw[vu ⋯,Y5]at h;left
def jS{i:8}(h:a[i]?\v):(L2.start N a)[i]?\b6 v:=by unfold L2.start;let b:=(gr.mp h).1;rw[K0 ⋯,ri,h];rfl
def CZ(q:∀a,f a->QK H a)(h:au #[P,w,K,H,f,λ_=>False,s] f H m t)(x:-N=n):Ok ⟨P,w,K,H,f,λ_=>False,s⟩ ⟨λ_=>False,H,L2.start N t,start m n,λ_=>[]⟩:=by
 let b:∀(j:8) (u:U),(start m n)[j]?≠b6 (b6 (.A',u)):=λj u e=>by let:=(jd e).2;split at this<;>ext this
 show#[λa o e _=>e,λa z=>z.elim,λa z=>#[q a z,λz=>z],λa z=>z.elim,?_,λi k u e=>?_,λi j k A u B r hk C g p D G=>?_,#[λj u r e _=>(b j u e).elim,λi j a ⟨u,_,e,_,_⟩=>(b i u e).elim,λj a ⟨u,_,e,_,_⟩=>(b j u e).elim]]
 .let:=h.len;simp[start,L2.start,x];lia
 .let(g,p):=jd e;let(v,ev,c):=h.get g;show#[v,jS ev,?_];subst p;by_cases l:O6 u=4
  .rw[if_pos l];show Rep.O6 l c
  rw[if_neg l];show Rep.mv (.up λa z=>.inl z) c
 let(_,y):=jd g;subst y;split at hk<;>ext hk
def sG(h:aV Γ b c\.ok (k,u)):-c=b.np/\((k=.own\/k=.loc\/k=.any)/\(∃a,execs Γ b.body (start c b.ns)\(.ok (.rt k u),a))\/(k=.loc/\u=.OP/\∃a,execs Γ b.body (start c b.ns)\(.ok .nx,a))):=by
 unfold aV at h;split at h
 .rename_i hl;show#[hl,?_];split at h
  .rename_i e;ext h;show .inl #[.inl 9,_,e]
  .rename_i e;ext h;show .inl #[.inr (.inl 9),_,e]
  .rename_i e;ext h;show .inl #[.inr (.inr 9),_,e]
  .rename_i e;ext h;show .inr #[9,9,_,e]
  .cases h
  ext h
 ext h
def uV(h:aV Γ a f\.exc c):-f=a.np/\∃b,execs Γ a.body (start f a.ns)\(.ok (.rt .io (.str c)),b):=by
 unfold aV at h;split at h
 .rename_i hl;show#[hl,?_];split at h
  .cases h
  .cases h
  .cases h
  .cases h
  .rename_i e;ext h;show#[_,e]
  ext h
 ext h
def Hz{st}(F:SJ K q.name t st f fd)(S:dy N ps (aE st))(hN:-N=q.ns)(Rp:-ps=q.np) (Vy:fk ck q.body N (aE st) (bX st)=4) (J:∀x∈cm,mg x=ef) (L:∀g∈ck.fns,CF P w K mg base d (Γ g) g) (RZ:∀p∈ck.gl,∃j v,mg p.1\j/\RelV v j/\∀C S H,C.K=K->Rep C S H p.2 v) (Q0:Yf ck Γ P w K mg base d) (xs:V_ ck K mg):d7 P w K mg base (Q_ P w) (d+1) f fd ps (spT P w K (aV Γ q) q.np):=by
 let(oc,od,kV,al,pm,an,Qm,ct,Uq,rfl,lk,O5):=F.ex;show A9 lk O5 S (λvs H Q E h=>h.1.trans Rp.symm) λA l s H vs Q E hr h=>?_;let(hl,us,r,O,Ph,Y,ab,b):=h;let V3:=hr.un;show let y:Ct:=#[P,w,K,H,O,λ_=>False,λu H'=>∃c,u=.str c/\∀m,W.nsIn K kr c\b6 (.ref m)->E (.ref m) ef H'];?_
 let q1:(UR P w K H O).Eqv y:=#[9,9,9]
 let B:y.Eqv (UR P w K H O):=#[9,9,9]
 let G:Gs ck Γ y d (tQ (Q_ P w) P w K mg base N t _ f Qm A l s H E) :=
  #[#[9,9,9,by change(A.deeper _).units+60<VC;lia,9,hr,J,L,λp hp=>let ⟨j,v,q1,B,q3⟩:=RZ p hp;⟨j,v,q1,B,λS H=>q3 _ S H 9⟩,Q0],S.nd,λ_=>9,Ť,S.kind,xs,
   λc H' ⟨c',e1,hE⟩ m T H2 ac σ s2 e s' hm I F=>by ext e1;show F.leave I.ok.frames 9 I.stack I.j5 λT' Q4 F'=>#[e,m,T',H',9,F'.down I 9 9 9,hE m hm],
   #[9,9]
   ,9
   ]
 show#[_,oY _ _ _ G Vy,_,9,9,CZ Y (ab.cg q1) hN,?_];cases r with|exc c=>let(_,i,e):=uV Ph;show#[_,i,e,λcf ec ok n kp=>#[c,9,λm hC=>b m cf.H hC λa o z=>ok.same a o z λz=>z]]|ok x =>
 let(k,u):=x;let(hk,b):=b;let(_,D):=sG Ph;let mk:∀(c:Cf),Ok y c->∀v,JH y c k u v->Back _ H c.H c.S k u v:=λc ok v r=>by
  show#[λa o e=>ok.same a o e λz=>z,λa z=>ok.QU a z,λe=>?_,λe=>?_,λe=>?_]
  .subst e;let(r0,e,h1,h2,h3,h4):=r;show#[r0,e,h1,h2,h4.cg B]
  .subst e;show Rep.cg B r
  subst e;show Rep.cg B r
 obtain⟨_,i,e⟩|⟨rfl,rfl,i,e⟩:=D
 .rcases hk with rfl|rfl|rfl<;>show#[_,i,e,λc ec ok n kp v r=>b v c.H c.S (mk c ok v r)]
 show#[_,i,e,λc ec ok n kp=>b .OP c.H c.S (mk c ok .OP 9)]
def An{d}(q:h.Eqv C)(l:h.QJ=C.QJ)(D:h.H₀=C.H₀)(m:h.IO=C.IO)(a:JW h C.H₀ r G (.ob d f b) g H)(I:-N=n)(hl:-g<n):Ok C #[λ_=>False,C.H₀,L2.start N (.ref r::H),bV (.ob d f b::g) n,λ_=>G]:=by
 let p:∀(j:8) (k:Kd) (u:U),(bV (.ob d f b::g) n)[j]?\b6 (k,u)->(j=0/\k=.A'/\u=.ob d f b)\/∃i,j=i+1/\g[i]?\u/\k=if O6 u=4 then .loc else .any:=λj k u e=>by cases j with|zero=>ext e;show .inl #[9,9,9]|succ i=>show .inr #[i,9,jd (n:=n - 1) (by assumption)]
 let y:∀(j:8) (k:Kd) (u:U),k.root=4->(bV (.ob d f b::g) n)[j]?≠b6 (b6 (k,u)):=λj k u hk e=>by
  obtain⟨_,rfl,_⟩|⟨_,_,_,rfl⟩:=p j k u e
  .cases hk
  split at hk<;>ext hk
 let c:∀(j:8) (u:U),(bV (.ob d f b::g) n)[j]?\b6 (.A',u)->j=0/\u=.ob d f b:=λj u e=>by
  obtain⟨z,_,z2⟩|⟨_,_,_,z⟩:=p j _ u e
  .show#[z,z2]
  split at z<;>ext z
 show#[λa o e _=>e,λa z=>z.elim,λx z=>by let:=a.par x (l▸z);show#[this.1,m▸this.2],λx z=>?_,?_,λj k u e=>?_,λi j k Q u A r hk T s B Y e4=>(y i k u hk s).elim,#[λj u r' e B=>?_,λi j x ⟨u,_,e,_,_⟩ ⟨A,_,J,_,_⟩=>(c i u e).1.trans (c j A J).1.symm,λj x _ ⟨i,k,u,hk,e,_⟩=>y i k u hk e]]
 .let(o,ho,_):=bf.there a.ob x ((a.iod x).mp (m▸z));show#[#[o,ho],o,ho]
 .let:=a.any.len;simp[bV,start,L2.start,I];lia
 .rcases p j k u e with⟨rfl,rfl,rfl⟩|⟨i,rfl,s,rfl⟩
  .show#[_,jS 9,r,9]
  let(v,b1,b2):=a.any.get s;let b2:=b2.cg q;show#[v,jS (by assumption),?_];by_cases t:O6 u=4
  .rw[if_pos t];show Rep.O6 t b2
  rw[if_neg t];show Rep.mv (.up λa z=>.inl (l▸z)) b2
 let(rfl,rfl):=c j u e;ext B;show a.ob.X_ q λx L=>by let(z1,z2,O):=a.ob.fr x L;show#[z1,l▸z2,D▸m▸O]
def yF(h:d8 Γ b a c\.ok r):-c=b.np/\∃f st k u o,execs Γ a (bV c b.ns)\(.ok f,st)/\UQ f\(k,u)/\XX st\o/\r=(k,.tup [u,o]):=by
 unfold d8 at h;split at h
 .rename_i hl;show#[hl,?_];split at h
  .rename_i f st e;rw[mx]at h;let(g,i,h):=h;rw[i0]at h;let(o,j,h):=h;ext h;show#[f,st,g.1,g.2,o,e,i,j,9]
  ext h
 ext h
def C2{st}(h:XX st\o):∃d u a,o=.ob d u a/\st[0]?\b6 (.A',.ob d u a):=by
 unfold XX at h;split at h
 .cases h;show#[_,_,_,9,9]
 ext h
def C3(h:UQ f\(k,u)):f=.nx/\k=.loc/\u=.OP\/k=.loc/\f=.rt .loc u\/∃c,k=.io/\u=.str c/\f=.rt .io (.str c):=by
 unfold UQ at h;split at h
 .cases h;show .inr (.inl #[9,9])
 .cases h;show .inr (.inr #[_,9,9,9])
 .cases h;show .inl #[9,9,9]
 ext h
def Ki{st}(F:SJ K x D st f fd)(S:dy N ps (aE st))(hN:-N=t.ns)(Rp:-ps=t.np)(a0:t.np<=t.ns)(Qs:QP i 0=4) (Vy:fk ck i N (aE st) (bX st)=4) (ab:∀x∈cm,mg x=ef) (ac:∀g∈ck.fns,CF P w K mg base d (Γ g) g) (RZ:∀p∈ck.gl,∃j v,mg p.1\j/\RelV v j/\∀C S H,C.K=K->Rep C S H p.2 v) (Q0:Yf ck Γ P w K mg base d) (xs:V_ ck K mg):d7 P w K mg base (Q_ P w) (d+1) f fd ps (Uc P w K (d8 Γ t i) t.np):=by
 let(oc,od,kV,a1,pm,an,Qm,ct,Uq,rfl,lk,O5):=F.ex;show A9 lk O5 S (λvs H Q E h=>h.1.trans Rp.symm) λA m s H vs Q E hr h=>?_;let(hl,r,PH,us,d0,u0,al,k,u,o,as,Y,IO,rfl,Ph,am,b):=h;let V3:=hr.un;show let B:Ct:=#[P,w,K,H,Y,IO,λu H'=>∃c,u=.str c/\∀q,W.nsIn K kr c\b6 (.ref q)->E (.ref q) ef H'];?_
 let q1:(TC P w K H Y IO).Eqv B:=#[9,9,9]
 let q2:B.Eqv (TC P w K H Y IO):=#[9,9,9]
 let G:Gs ck Γ B d (tQ (Q_ P w) P w K mg base N D (aE st) f Qm A m s H E) :=
  #[#[9,9,9,by change(A.deeper _).units+60<VC;lia,9,hr,ab,ac,λp hp=>let ⟨j,v,q1,q2,q3⟩:=RZ p hp;⟨j,v,q1,q2,λS H=>q3 _ S H 9⟩,Q0],S.nd,λ_=>9,Ť,S.kind,xs,
   λc H' ⟨c',e1,hE⟩ q T H2 ar σ s2 e s' hm I F=>by ext e1;show F.leave I.ok.frames 9 I.stack I.j5 λT' Q4 F'=>#[e,q,T',H',9,F'.down I 9 9 9,hE q hm],
   #[9,9],9]
 let(Uz,fl,J,k',u',o',e,e1,e2,e3):=yF Ph;show#[_,oY i _ _ G Vy,_,9,9,An (C:=B) q1 9 9 9 am hN (by grind),?_];ext e3;let(d2,u2,ap,rfl,OQ):=C2 e2;let L:∀(c:Cf),c.st=J->Ok B c->Kept (QP i) #[λ_=>False,H,L2.start N (.ref r::PH),bV (.ob d0 u0 al::us) t.ns,λ_=>as] c->∀(k:Kd) (u:U) v,(k=.loc->JH B c .loc u v)->uM (TC P w K H Y IO) H c.H c.S r (.ob d2 u2 ap) k u v:=λc ec l kp k u v r2=>by
  rw[<-ec]at OQ;let(v0,y1,r',y2):=l.sl 0 _ _ OQ;subst y2;let O:=y1;rw[kp.1 0 Qs]at O;ext O;let rd:=l.dd.kd 0 _ _ OQ y1;show#[λx y z1 z2=>l.same x y z1 z2,λx y z1=>?_,λx z=>l.QU x z,#[_,λa ha=>(rd.fr a (ib _ ha)).2.2.symm,rd.X_ q2 rd.fr],λhk=>Rep.cg q2 (r2 hk)];by_cases z:IO x
  .show(l.io x z).2
  show#[y,l.same x y z1 z]
 show#[fl,J,e,λc ec l n kp=>?_];let L:=L c ec l kp;obtain⟨rfl,rfl,rfl⟩|⟨rfl,rfl⟩|⟨c',rfl,rfl,rfl⟩:=C3 e1
 .rcases b with⟨_,b⟩|⟨z,_⟩
  .show b .OP c.H c.S (L .loc .OP .OP λ_=>9)
  ext z
 .rcases b with⟨_,b⟩|⟨z,_⟩
  .show λv r=>b v c.H c.S (L .loc _ v λ_=>r)
  ext z
 obtain⟨z,_⟩|⟨_,c2,e5,b⟩:=b
 .cases z
 ext e5;show#[c',9,λq hC=>b q c.H c.S hC (L .io .OP .OP λz=>by rfl)]
def Fn.bd(a:Fn):↑S:=match a.ob with|some b=>b|none=>a.body
def Yi(a:Fn):Bool:=match a.ob with|some b=>QP b 0|none=>4
inductive Ld(ck:Ck)(K:W.Frag)(mg:5->Option i7)(fn:Fn)(b:Bool)(m:5):6|mk (x qual:Str) (st:RO) (f:ke) (fd:ð) (N ps:↑Str):SJ K x qual st f fd->(m=""->x=fn.name/\mg fn.name\.ref f)->(m≠""->∀cl,SR K b cl->Meth K cl m f)->Binds K fd ps []->dy N ps (aE st)->⇑N=fn.ns->⇑ps=fn.np->fk ck fn.bd N (aE st) (bX st)=c4->Yi fn=c4->fn.np<=fn.ns->Ld ck K mg fn b m
def GB{a:↑Fn}(b:(a.map (·.name)).Nodup)(h:c∈a):a.find? (λg=>eL (g.name=c.name))\c:=by
 induction a with
 |nil=>ext h|cons g a e =>
  rw[lx,vl]at b;obtain rfl|h:=gb.mp h
  .simp
  rw[List.find?_cons];let:eL (g.name=c.name)=df:=by apply decide_eq_false;intro z;show b.1 (z▸Wh h)
  rw[this];show e b.2 h
def wU(c:(a.map (·.name)).Nodup)(h:b∈a):O2 a (d+1) b.name=oA (O2 a d) b:=by
 funext e
 change(match a.find? λg=>decide _ with|some b=>oA _ b e|none=>ef)=_;rw[GB c h]
def qH(h:a.ob=ef):oA Γ a=aV Γ a:=by unfold oA;rw[h]
def GC(h:a.ob\b):oA Γ a=d8 Γ a b:=by unfold oA;rw[h]
def yG(O9:(Pg.map (·.name)).Nodup)(I:∀x∈cm,mg x=ef)(RZ:∀p∈ck.gl,∃J v,mg p.1\J/\RelV v J/\∀C S H,C.K=K->Rep C S H p.2 v) (ld:∀g∈ck.fns,∃a∈Pg,a.name=g/\a.ob=ef/\Ld ck K mg a 4 "") (lo:∀q∈ck.obs,∃a∈Pg,a.name=q.1/\(∃b,a.ob\b)/\Ld ck K mg a q.2.1 q.2.2) (sh:Xi P w K mg base) (xs:V_ ck K mg):∀d,(∀g∈ck.fns,CF P w K mg base (d+0x4) (O2 Pg d g) g)/\Yf ck (O2 Pg d) P w K mg base (d+0x4):=by
 intro d;induction d with
 |zero =>
  show#[λg hg=>?_,λq hq=>?_,sh,gs _]
  .let(a,L,rfl,O,l):=ld g hg;let(x,i,st,f,n,N,o,F,t,_,B,S,T,D,_,_,_):=l;show#[_,f,n,o,#[λvs H Q E h=>h.1.trans D.symm,λA G s H args j vs Q E _ _ _ _ h=>by let(_,j,r,_,e,_):=h;ext e],(t 9).2,F.kp,B,λj k u e=>(by ext e),λj c e=>by ext e]
  let(a,L,e,_,l):=lo q hq;let(x,i,st,f,n,N,o,F,t,Tw,B,S,T,D,_,_,_):=l;show#[_,f,n,o,#[λvs H Q E h=>h.1.trans D.symm,λA G s H args j vs Q E _ _ _ _ h=>by let(_,_,_,_,_,_,_,_,_,_,_,_,_,_,e,_):=h;ext e],λz=>e▸(t z).2,F.kp,Tw,B,λj k e=>by ext e]
 |succ d ih =>
  show#[λg hg=>?_,λq hq=>?_,sh,7]
  .let(a,L,rfl,O,l):=ld g hg;let(x,i,st,f,n,N,o,F,t,_,B,S,T,D,Y,_,_):=l;let(rfl,ab):=t 9;rw[wU O9 L,qH O];rw[show a.bd=a.body by unfold Fn.bd;rw[O]]at Y;show#[a.np,f,n,o,Hz F S T D Y I ih.1 RZ ih.2 xs,ab,F.kp,B,λj k u e=>?_,λj c e=>(uV e).1];let(O,h2):=sG e;show#[?_,O];obtain⟨z,_⟩|⟨z,_⟩:=h2
   .show z
   show .inr (.inl z)
  let(a,L,e,(b,Rn),l):=lo q hq;let(y,bb,m):=q
  dsimp only at e Rn l
  subst e;let(x,i,st,f,n,N,o,F,t,Tw,B,S,T,D,Y,hB,ac):=l;rw[wU O9 L,GC Rn];rw[show a.bd=b by unfold Fn.bd;rw[Rn]]at Y;unfold Yi at hB;rw[Rn]at hB;show#[a.np,f,n,o,Ki F S T D ac hB Y I ih.1 RZ ih.2 xs,λz=>(t z).2,F.kp,Tw,B,λj r e=>(yF e).1]
end
def GD(a:↑Int):U:=.lst (a.map .int)
theorem qI{S}:∀(a:↑Int),au C S H (a.map .int) (a.map V.int)|[]=>9|n::a=>#[_,_,9,9,qI a]
def wV(h:Py C.K H a (b.map V.int)):Rep C (QK H) H (GD b) (.ref a):=by
 show#[a,_,9,?_,qI b];obtain(h|⟨o,h⟩)|h:=h
 .show .inl #[#[_,h],.inl h]
 .show .inl #[#[_,h],.inr #[o,h]]
 show .inr h
theorem uW:∀{l:↑α},(∀a∈l,f a=g a)->l.filterMap f=l.filterMap g|[],_=>9|a::l,h=>by rw[Wi,Wi,h a ⋯,uW λb c=>h b (by simp[c])]
theorem yH:∀(l:↑5) (b:↑i7),l.Nodup->-b=-l->l.filterMap (λn=>((l.zip b).lookup n).map (n,·))=l.zip b
 |[],_,_,_=>9|a::l,[],_,h=>nomatch h
 |a::l,u::b,c,h=>by
  rw[vl]at c;let d:=yH l b c.2 (by exists h);erw[ĉ,Wi,LS,beq_self_eq_true,ύ];congr 1
  conv=>rhs;rw[<-d]
  show uW λn e=>?_;let:(n==a)=df:=by rw[beq_eq_false_iff_ne];rintro rfl;left
  rw[this]
def C4(l:↑5)(b:↑i7)(h:-b=-l):l.filter (λn=>((l.zip b).lookup n).isNone)=[]:=by
 rw[Ud];intro n hn;induction l generalizing b with
 |nil=>ext hn|cons a l c =>
  cases b with
  |nil=>ext h
  |cons u b =>
   erw[ĉ,LS];cases e:n==a with
   |true=>simp
   |false =>
    obtain rfl|hn:=gb.mp hn
    .simp at e
    show c b (by exists h) hn
def C5{kV c pm f g}(h:(a.map (·.arg)).Nodup)(hl:-b=-a.map (·.arg)):bindArgs (W.fnOf x q #[[],a,ef,[],[],ef,[]] e d .none kV c pm t f g) #[b,[]]=pure ((a.map (·.arg)).zip b):=by
 let m:=yH _ b h hl;let o:=C4 _ b hl;change(if _ then _ else _)=_;rw[if_neg (by simp[hl])];let p:∀k:8,¬(!(((a.map (·.arg)).take k).filter λn=>(((a.map (·.arg)).zip b).lookup n).isNone).isEmpty)=4:=λk=>by rw[Ud.mpr λn r=>Ud.mp o n (VV r)];show tv
 show(if_neg (p _)).trans ?_;let s:∀(l:↑5) (i j:8),(l.drop i).zip ((ef.getD #v[]:Array i7).toList.drop j)=[]:=λl i j=>by simp
 show Eq.trans (congrArg (λz=>Bind.bind (forIn z _ _) _) (s _ _ _)) ?_;show congrArg (pure:↑(5 ×i7)->Sem (↑(5 ×i7))) ((congrArg (List.filterMap _) (P' _)).trans m)
structure Me where
 fn:Fn
 x:5
 i:8
 N:↑5
 a:ke
 c:ke
 m:i7
 cr:Obj
def Me.fd(top:8->RO)(m:Me):ð:=W.fnOf m.x m.fn.name (gz (top m.i)) (bX (top m.i)) (aE (top m.i)) .none .none .none m.m ef (.ref m.c) .none
def Me.fo(top:8->RO)(m:Me):Obj:=#[.type "function",ef,.func (m.fd top),#v[]]
def adr(ms:↑Me)(xa:↑ke):↑ke:=3::(ms.flatMap (λm=>[m.c,m.a])++xa)
def PN(top:8->RO)(g:Gx)(ms:↑Me):W.Frag:=(3,g.1)::(ms.flatMap (λm=>[(m.c,m.cr),(m.a,m.fo top)])++g.2)
def yI(top)(g:Gx)(ms)(xa)(h:g.2.map (·.1)=xa):adr ms xa=(PN top g ms).map (·.1):=by unfold adr PN;rw[lx,ro,List.map_flatMap,h];rfl
def C6(v:Option (Option i7))(a:ke):Bool:=match v with|some (b6 (.ref b))=>eL (b=a)|_=>df
def ni(h:C6 v a=4):v\b6 (.ref a):=by
 unfold C6 at h;split at h
 .rw[of_decide_eq_true h]
 ext h
def nn(o:Option (Option i7)):Bool:=match o with|some ef=>4|_=>df
def HA(h:nn o=4):o\ef:=by
 unfold nn at h;split at h
 .rfl
 ext h
def MP(p:Arguments)(a:↑5):Bool:=p.posonlyargs.isEmpty&&p.vararg.isNone&&p.kwonlyargs.isEmpty&&p.kw_defaults.isEmpty&&p.kwarg.isNone&&p.defaults.isEmpty&&eL (p.args.map (·.arg)=a)
def scB(N:↑5)(b:8)(a:R0):Bool:=eL (a.kind=.function)&&eL (a.isCoroutine=df)&&eL (a.isGenerator=df)&&decide N.Nodup&&(N.take b).all (oJ a)&&a.names.all (λy=>eL (y.2≠.free))
def Vz(K:W.Frag)(d:Bool):Option ke:=match W.nsIn K kr (if d=4 then "Desk" else "Shelf") with|some (b6 (.ref C))=>b6 C|_=>ef
def PL(K:W.Frag)(C:ke)(x:5)(a:ke):Bool:=C6 (W.findIn K (.ref C) x) a&&W.isFn K (.ref a)
def Xl(m:Me):Bool:=eL (m.fn.name∈(["Desk.__init__","Desk.say","Desk.say_deed"]:↑5))
def Yj(K:W.Frag)(d:Bool)(x:5)(a:ke):Bool:=match Vz K d with|some C=>PL K C x a|none=>df
def mOk(ck:Ck)(top:8->RO)(K:W.Frag)(m:Me):Bool:=W.codeIn K (.ref m.c) m.fn.name&&W.keepIn K (.ref m.a)&&(if m.x=m.fn.name then C6 (W.nsIn K kr m.fn.name) m.a else Yj K (Xl m) m.x m.a)&&MP (gz (top m.i)) (m.N.take m.fn.np) &&
 scB m.N m.fn.np (aE (top m.i))&&eL (-m.N=m.fn.ns)&&eL (m.fn.np<=m.fn.ns)&&(fk ck m.fn.bd m.N (aE (top m.i)) (bX (top m.i))&&Yi m.fn)
def GF:↑i7->↑5->Bool|[],[]=>4|.str x _::l,y::r=>eL (x=y)&&GF l r|_,_=>df
def MQ(b:↑5)(o:Obj):Bool:=match o.cls,o.data with|.type t,.seq a _=>eL (t="tuple")&&eL (a.size<1000)&&GF a.toList b|_,_=>df
theorem yJ:∀{l}{a},GF l a=4->Vals (a.map V.str) l|[],[],_=>.nil|.str x t::l,y::r,h=>by erw[GF,dt,decide_eq_true_eq]at h;let(rfl,h):=h;show .cons #[t,9] (yJ h)
def glK(K:W.Frag)(p:5 ×U):Bool:=match p.2,W.nsIn K kr p.1 with
 |.int i,b6 (b6 (.int j _))=>eL (i=j)|.str i,b6 (b6 (.str j _))=>eL (i=j)|.tup b,b6 (b6 (.ref a))=>match strsOf b,K.lookup a with
  |some c,b6 o=>MQ c o
  |_,_=>df
 |_,_=>df
def S9(ck:Ck)(top:8->RO)(K:W.Frag)(ms:↑Me):Bool:=ms.all (mOk ck top K)&&cm.all (λy=>nn (W.nsIn K kr y))&&ck.gl.all (glK K)&&eL (K.map (·.1)).Nodup
def MR{K:W.Frag}(b:(K.map (·.1)).Nodup)(h:(a,o)∈K):K.lookup a\o:=by
 induction K with
 |nil=>ext h|cons p K c =>
  rw[lx,vl]at b;rw[LS];obtain rfl|h:=gb.mp h
  .simp
  let:(a==p.1)=df:=by rw[beq_eq_false_iff_ne];rintro rfl;show b.1 (mn.mpr #[_,h,9])
  rw[this];show c b.2 h
def C7(d:S9 ck top (PN top g ms) ms=4)(h:m∈ms):SJ (PN top g ms) m.x m.fn.name (top m.i) m.a (m.fd top)/\(if m.x=m.fn.name then C6 (W.nsIn (PN top g ms) kr m.fn.name) m.a else Yj (PN top g ms) (Xl m) m.x m.a)=4 /\ (∀b,-b=-m.N.take m.fn.np->bindArgs (m.fd top) #[b,[]]=pure ((m.N.take m.fn.np).zip b))/\dy m.N (m.N.take m.fn.np) (aE (top m.i))/\-m.N=m.fn.ns/\-m.N.take m.fn.np=m.fn.np/\(fk ck m.fn.bd m.N (aE (top m.i)) (bX (top m.i))=4/\Yi m.fn=4/\m.fn.np<=m.fn.ns):=by
 erw[S9,dt,decide_eq_true_eq]at d;let z:=nH.mp d.1.1.1 m h;erw[mOk,dt,decide_eq_true_eq]at z;obtain⟨⟨⟨⟨⟨⟨⟨z1,z2⟩,o⟩,c⟩,j⟩,p⟩,q⟩,k⟩:=z;erw[scB,dt,decide_eq_true_eq]at j;obtain⟨⟨⟨⟨⟨r,s⟩,t⟩,l⟩,u⟩,v⟩:=j;let f:(PN top g ms).lookup m.a\m.fo top:=MR d.2 (gb.mpr (.inr (S0 _ (List.mem_flatMap.mpr #[m,h,by simp]))));let hl:-m.N.take m.fn.np=m.fn.np:=7
 show#[II f z1 z2,o,λb n=>?_,#[r,s,t,l,by rw[hl],λx w=>?_,λy A=>?_],p,hl,k.1,k.2,q]
 .unfold Me.fd;revert c;cases gz _ with|mk B C D G H I J=>intro c;erw[MP,dt,M',Ã,decide_eq_true_eq]at c;obtain⟨⟨⟨⟨⟨⟨rfl,rfl⟩,rfl⟩,rfl⟩,rfl⟩,rfl⟩,e⟩:=c;rw[<-e]at n ⊢;show C5 (by rw[e];show(XC _ _).nodup l) n
 .let:=nH.mp u x w;simpa[oJ] using this
 let:=nH.mp v y A;exists this
def ckM(ck:Ck)(ms:↑Me):Bool:=ck.fns.all (λg=>ms.any λm=>eL (m.fn.name=g)&&eL (m.x=g)&&m.fn.ob.isNone) &&
 ck.obs.all (λq=>ms.any λm=>eL (m.fn.name=q.1)&&m.fn.ob.isSome&&(if q.2.2="" then eL (m.x=m.fn.name) else eL (m.x=q.2.2)&&eL (m.x≠m.fn.name)&&eL (Xl m=q.2.1)))
def HB{h}{j}(l:S9 ck top (PN top g ms) ms=4)(X:(PN top g ms).In h)(G:h.Ns kr j){m}(o:m∈ms){b}{n:5}(i:if n="" then m.x=m.fn.name else(m.x=n/\m.x≠m.fn.name)/\Xl m=b):Ld ck (PN top g ms) j m.fn b n:=by
 let(a,b,c,d,e,f,k):=C7 l o;show#[_,_,_,_,_,_,_,a,λz=>?_,λz q p=>?_,.all c,d,e,f,k.1,k.2.1,k.2.2]
 .rw[if_pos z]at i;rw[if_pos i]at b;show#[i,W.mg_of X G (ni b)]
 rw[if_neg z]at i;rw[if_neg i.1.2]at b;unfold Yj Vz at b;rw[i.2,p]at b;erw[PL,dt]at b;rw[<-i.1.1];show#[ni b.1,b.2,a.kp]
def Kj(e:S9 ck top (PN top g ms) ms=4)(f:ckM ck ms=4)(X:(PN top g ms).In h)(G:h.Ns kr i):(∀c∈ck.fns,∃fn∈ms.map (·.fn),fn.name=c/\fn.ob=ef/\Ld ck (PN top g ms) i fn 4 "")/\(∀q∈ck.obs,∃fn∈ms.map (·.fn),fn.name=q.1/\(∃b,fn.ob\b)/\Ld ck (PN top g ms) i fn q.2.1 q.2.2):=by
 erw[ckM,dt,nH,QL,decide_eq_true_eq,Ã]at f;let(l,n):=f;show#[λc o=>?_,λq p=>?_]
 .let(m,a,(d,j),k):=l c o;show#[m.fn,Wh a,d,k,HB e X G a 7]
 let(m,a,(d,j),k):=n q p;show#[m.fn,Wh a,d,VL.mp j,HB e X G a ?_];left
def Yk(top:8->RO)(K:W.Frag)(ms:↑Me)(d:Bool)(a:RO->Bool):Bool:=match Vz K d with
 |none=>df|some C=>W.plainGet K C B'&&W.hasDictIn K C&&W.plainOver K C&&(W.findIn K (.ref C) "__setattr__"==b6 (b6 (.builtin "object.__setattr__")))&&(["rows","earlier","shelf"]:↑5).all (λx=>nn (W.findIn K (.ref C) x))&&W.makesIn K C&&W.keepIn K (.ref C) &&
  ms.any λm=>eL (m.x="__init__")&&eL (m.x≠m.fn.name)&&eL (m.fn.np=1)&&eL (m.N=(["self"]:↑5))&&a (top m.i)&&jQ (aE (top m.i)) "self"&&eL (Xl m=d)
def shB(top:8->RO)(K:W.Frag)(ms:↑Me):Bool:=Yk top K ms df (λst=>ini (bX st))&&Yk top K ms 4 λst=>JV (bX st)&&Qh (aE st) "Shelf"
def C8(k:S9 ck top (PN top g ms) ms=4)(hs:Yk top (PN top g ms) ms d l=4)(X:(PN top g ms).In h)(G:h.Ns kr n):∃(C:ke) (m:Me),Rk (PN top g ms) d C/\Mk (PN top g ms) C m.a/\SJ (PN top g ms) "__init__" m.fn.name (top m.i) m.a (m.fd top)/\dy ["self"] ["self"] (aE (top m.i))/\Binds (PN top g ms) (m.fd top) ["self"] []/\l (top m.i)=4/\PV (aE (top m.i)) "self"/\n (if d=4 then "Desk" else "Shelf")\.ref C:=by
 unfold Yk at hs;split at hs
 .cases hs
 rename_i C c;let f:=by
  unfold Vz at c;split at c
  .rename_i e;ext c;show e
  ext c
 erw[dt,QL,decide_eq_true_eq]at hs;obtain⟨⟨⟨⟨⟨⟨⟨o,p⟩,q⟩,r⟩,s⟩,t⟩,u⟩,m,v,⟨⟨⟨⟨⟨⟨w,b2⟩,y⟩,z⟩,A⟩,B⟩,D⟩⟩:=hs;let(F,b,j,S,_,_,_):=C7 k v;rw[if_neg b2]at b;unfold Yj at b;rw[D,c]at b;erw[PL,dt]at b;rw[y,z]at j S;rw[w]at F b;show#[C,m,#[f,#[o,p,q,beq_iff_eq.mp r],λx H=>HA (nH.mp s x H)],#[t,ni b.1,b.2,u],F,S,.all j,A,dg B,W.mg_of X G f]
def Kk(b:S9 ck top (PN top g ms) ms=4)(hs:shB top (PN top g ms) ms=4)(X:(PN top g ms).In h)(G:h.Ns kr f):Xi P w (PN top g ms) f c:=by let(i,j):=ve.mp hs;let(C,m,K,M,F,S,B,k,l,n):=C8 b i X G;let(o,v,d,p,q,r,s,a,t,u):=C8 b j X G;rw[dt]at a;show#[C,o,_,_,K,d,p,Cv q r a.1 t (λX e=>cp (by rw[e];show a.2)) d M (F5  F S k l K) B n,s,u]
def Kl(e:S9 ck top (PN top g ms) ms=4)(X:(PN top g ms).In h)(G:h.Ns kr f):∀p∈ck.gl,∃b v,f p.1\b/\RelV v b/\∀C S H,C.K=PN top g ms->Rep C S H p.2 v:=by
 intro p l;erw[S9,dt]at e;let z:=nH.mp e.1.2 p l;unfold glK at z;split at z
 .rename_i i j k c d;obtain rfl:=of_decide_eq_true z;show#[_,.int i,W.mg_of X G d,#[_,9],λ_ _ _ _=>by rw[c];rfl]
 .rename_i i j k c d;obtain rfl:=of_decide_eq_true z;show#[_,.str i,W.mg_of X G d,#[_,9],λ_ _ _ _=>by rw[c];rfl]
 .rename_i y a c d;split at z
  .rename_i A o m q;unfold MQ at z;split at z
   .rename_i t r n s u;erw[dt,decide_eq_true_eq]at z;let((rfl,z2),w):=z;show#[_,.ref a,W.mg_of X G d,9,λC S H x=>?_];rw[c,bI m];show#[a,_,9,.inr #[o,r,n,x▸q,s,u,Ue (lg z2 7),yJ w],au.strs.mpr 9]
   ext z
  ext z
 ext z
def gX(ck:Ck)(K:W.Frag):Bool:=ck.xc.all (λx=>match W.nsIn K kr x with|some (b6 (.ref C))=>W.excIn K C VW "ValueError.__new__"|_=>df)&&ck.xd.all λp=>match W.nsIn K kr p.1,W.nsIn K kr p.2 with|some (b6 (.ref C)),b6 (b6 (.ref D))=>W.exmOne K (.ref C) (.ref D)==b6 4|_,_=>df
def Km(K:W.Frag)(x:5):Option ke:=match W.nsIn K kr x with|some (b6 (.ref C))=>b6 C|_=>ef
def clV(K:W.Frag)(D:5):Option i7:=match W.nsIn K kr D with|some (b6 (.ref C))=>b6 (.ref C)|some ef=>if D="ValueError" then b6 (.type "ValueError") else ef|_=>ef
def gY(ck:Ck)(K:W.Frag):Bool:=ck.xi.all (λp=>match Km K p.1,clV K p.2.1 with|some C,b6 a=>g7 K C&&(W.kitOne K (.ref C) a==b6 p.2.2)|_,_=>df)
def Ao{K}(h:Km K x\C):W.nsIn K kr x\b6 (.ref C):=by
 unfold Km at h;split at h
 .simp_all
 ext h
def MS{K}(z:gY ck K=4)(X:K.In h)(G:h.Ns kr f):wI ck K f:=by
 intro D g;rw[gY,nH]at z;let(i,b,rfl):=g;let d:=z i b;split at d
 .rename_i n j o a;show#[j,?_,λp k e C q=>?_]
  .unfold clV at a;split at a
   .rename_i e;ext a;show .inl #[_,9,W.mg_of X G e]
   .rename_i e;split at a
    .rename_i c;ext a;show .inr #[c,9,W.mg_none_of X G e]
    ext a
   ext a
  let z1:=z p k;rw[e,a]at z1;split at z1
  .rename_i r l c m;ext m;let:=Ao c;left
  ext z1
 ext d
def Kn{K}(z:gX ck K=4)(X:K.In h)(G:h.Ns kr b)(a:wI ck K b):V_ ck K b:=by
 rw[gX,dt,nH,nH]at z;show#[λx d=>?_,λp f=>?_,a]
 .let:=z.1 x d;split at this
  .rename_i e;show#[_,W.mg_of X G e,e,this]
  left
 let:=z.2 p f;split at this
 .rename_i c g;show#[_,_,W.mg_of X G c,c,W.mg_of X G g,beq_iff_eq.mp this]
 left
def walk{l:W.OpenLaw}{K:Į->W.Frag} (Q:l.most\63) (Y:d.params.defaults=[]) (hr:cY (B+0x5) ø) (hY:∀w h,YP w h->(K w.params).In h) (D:(n.map (·.name)).Nodup) (Rn:c.ob=ef) (SF:c∈n) (S_:c.name=d.name) (F:∀w i o h,(K w.params).In h->h.Ns kr i->i d.name\.ref o ->
   (∀y∈cm,i y=ef)/\(∀p∈ck.gl,∃m v,i p.1\m/\RelV v m/\∀C S H,C.K=K w.params->Rep C S H p.2 v)/\((∀g∈ck.fns,∃c∈n,c.name=g/\c.ob=ef/\Ld ck (K w.params) i c 4 "")/\(∀q∈ck.obs,∃c∈n,c.name=q.1/\(∃b,c.ob\b)/\Ld ck (K w.params) i c q.2.1 q.2.2))/\(∀e,Xi l.prog w (K w.params) i e)/\V_ ck (K w.params) i /\
   ∃j st r N,SJ (K w.params) c.name j st o r/\dy N [x] (aE st)/\-N=c.ns/\1=c.np/\fk ck c.body N (aE st) (bX st)=4/\∀s u,ω s r #[[u],[]] [(x,u)])
  (T:∀A,-A<=63->O2 n (B+1) c.name [GD A]\.ok (.loc,.bl 4)) :
  W.WalkO q I XP YP l.row.toRowW d [] (λf vs=>PySem.call f vs) :=
 L2.E1    (CX:=λw=>Q_ l.prog w)  Q 7 Y hr hY
  (λw i o h KX G Wx=>by let(k,J,(ld,lo),O,L,j,st,r,N,F1,S,hN,Rp,hc,hb):=F w i o h KX G Wx;show#[r,hb,λe _ _=>Hz F1 S hN Rp hc k (yG D k J ld lo (O e) L B).1 J (yG D k J ld lo (O e) L B).2 L])
  (λw H a A hl _ hS=>by let t:=T A hl;rw[wU D SF,qH Rn]at t;let Sj:=(sG t).1.symm;show#[Sj.symm,_,_,_,t,λ_ z=>z,#[_,_,9,wV hS,9],.inr (.inl 9),λv H' S' b=>b.loc 9])
  λ_ _ _ _ _ ⟨_,_,_,_,_,_,z⟩=>z
def walk2{l:W.OpenLaw}{g:Į->Gx} (D:l.most\63) (H:d.params.defaults=[]) (I:cY (dp+0x5) ø) (p:ms.map (·.fn)=Pg) (J:(Pg.map (·.name)).Nodup) (i:ckM ck ms=4) (r:m.fn.ob=ef) (t:m∈ms) (v:m.fn.name=d.name) (z:m.x=m.fn.name) (L:m.N.take m.fn.np=[x]) (ok:∀P,S9 ck top (PN top (g P) ms) ms=4) (O:∀P,((gX ck (PN top (g P) ms)&&gY ck (PN top (g P) ms))&&shB top (PN top (g P) ms) ms)=4) (Q:∀P,(g P).2.map (·.1)=xa) (T:∀A,-A<=63->O2 Pg (dp+1) m.fn.name [GD A]\.ok (.loc,.bl 4)) :W.WalkO q j XP (W.kHook (λP=>PN top (g P) ms) (adr ms xa) λP=>yI top (g P) ms xa (Q P)).says l.row.toRowW d [] (λf vs=>PySem.call f vs) :=walk D H I (λw h Y=>W.kIn_of Y) J r (p▸mn.mpr #[m,t,9]) v (λw mg fa h X G B=>by let hk:=ok w.params;let o:=ve.mp (O w.params);let(a,b,c,e,f,k,n):=C7 hk t;rw[if_pos z]at b;rw[<-v,W.mg_of X G (ni b)]at B;ext B;rw[L]at c e k;rw[z]at a;show#[λy hy=>W.mg_none_of X G (HA ?_),Kl hk X G,p▸Kj hk i X G,λC=>Kk hk o.2 X G,Kn (ve.mp o.1).1 X G (MS (ve.mp o.1).2 X G),_,_,_,_,a,e,f,k,by let:=n.1;rw[show m.fn.bd=m.fn.body by unfold Fn.bd;rw[r]]at this;lia,λs u=>.of_eq (c [u] 9)];erw[S9,dt]at hk;show nH.mp hk.1.1.2 y hy) T
end TM
namespace TM
open PySem L2
abbrev oL(a:↑U):Kd×U:=(Kd.own,U.lst a)
abbrev lI(i:Int):Kd×U:=(Kd.loc,U.int i)
abbrev zS(x:5):Kd×U:=(Kd.loc,U.str x)
abbrev lT(a:↑U):Kd×U:=(Kd.loc,U.tup a)
abbrev aL(a:↑U):Kd×U:=(Kd.any,U.lst a)
abbrev bL(b:Bool):Kd×U:=(Kd.loc,U.bl b)
abbrev Sl:=Option (Kd×U)
abbrev cI(i:Int):E:=E.cst (U.int i)
abbrev cO:E:=cI 0
abbrev cA:E:=cI 1
abbrev cQ(x:5):E:=E.cst (U.str x)
abbrev J':E:=E.var 0
abbrev OM:E:=E.var 1
abbrev OW:E:=E.var 2
abbrev OX:E:=E.var 3
abbrev P2:E:=E.var 0x4
abbrev PU:E:=E.var 0x5
def Run(m:M α)(st:aq)(a:α)(b:aq):6:=m st\(.ok a,b)
def ae(d:Run m st a st1)(e:Run (f a) st1 b c):Run (m >>= f) st b c:=by change M.bind m f st=_;unfold M.bind;rw[d];show e
def aK:Run (pure a:M α) st a st:=9
def dC(h:o\a):Run (M.Pd o) st a st:=by subst h;rfl
def bc(h:aU a st):Run (az a) st () st:=by change az a st=_;unfold az;left
def kv(i:8)(k:Kd):Kd:=if k.root=4 then .bor i else k
def iH(h:st[i]?\b6 (k,u))(hk:k≠.A':=by intro z;ext z):Run (dM i) st (kv i k,u) st:=by change dM i st=_;unfold dM;rw[h];cases k<;>first|rfl|show absurd 9 hk
def af(h:st[i]?\b6 (.loc,u)):Run (ev Γ (.var i)) st (.loc,u) st:=iH h
def av(h:st[i]?\b6 (.any,u)):Run (ev Γ (.var i)) st (.any,u) st:=iH h
def aw(h:st[i]?\b6 (.own,u)):Run (ev Γ (.var i)) st (.bor i,u) st:=iH h
def ah:Run (ev Γ (.cst u)) st (.loc,u) st:=9
def jA:Run (ev Γ (.QN x u)) st (.loc,u) st:=9
def aT(e:Run (ev Γ a) st x d)(f:Run (ev Γ b) d y c)(g:aU [x,y] c)(h:Rr i x y\r):Run (ev Γ (.bin i a b)) st r c :=ae e (ae f (ae (bc g) (dC h)))
def gh(f:Run (ev Γ a) st x e)(g:Run (ev Γ b) e y d)(h:aU [x,y] d)(i:cS op x.2 y.2\c):Run (ev Γ (.cmp op a b)) st (bL c) d :=ae f (ae g (ae (bc h) (ae (dC i) aK)))
def aI(d:Run (ev Γ a) st x st1)(e:Run (ev Γ b) st1 y c)(f:aU [x,y] c)(g:mU x y.2\r):Run (ev Γ (.idx a b)) st r c :=ae d (ae e (ae (bc f) (dC g)))
def d_:Run (SV Γ []) st ef st:=9
def dE(h:Run (ev Γ e) st (k,.int i) a):Run (SV Γ [e]) st (b6 i) a:=ae h 9
def gk(e:Run (ev Γ a) st x b)(f:Run (SV Γ lo) b l c)(g:Run (SV Γ i) c h d)(j:aU [x] d)(k:jP x l h\r):Run (ev Γ (.Pf a lo i)) st r d :=ae e (ae f (ae g (ae (bc j) (dC k))))
def ag:Run (bw Γ []) st [] st:=9
def aa(c:Run (ev Γ e) st r a)(d:Run (bw Γ f) a g b):Run (bw Γ (e::f)) st (r::g) b:=ae c (ae d aK)
def bW(c:Run (bw Γ es) st b a)(d:aU b a)(e:QO f b\r):Run (ev Γ (.bi f es)) st r a:=ae c (ae (bc d) (dC e))
def yK(c:Run (bw Γ d) st b a)(e:aU b a)(g:uD f b\r):Run (ev Γ (.SU f d)) st r a:=ae c (ae (bc e) (dC g))
def eh(e:Run (ev Γ a) st x c)(f:Run (bw Γ g) c d b)(h:aU (x::d) b)(i:jn m x.2 d\r):Run (ev Γ (.PY m a g)) st r b:=ae e (ae f (ae (bc h) (dC i)))
def sH(h:Γ f a\.ok r)(b:isAny r.1=df):Run (jx Γ f a) st r st:=by let(k,u):=r;unfold jx;rw[h];cases k<;>first|rfl|cases b
def aM(b:Run (bw Γ c) st rs a)(d:aU rs a)(e:Γ f (rs.map (·.2))\.ok r)(g:isAny r.1=df:=by show 9):Run (ev Γ (.call f c)) st r a:=ae b (ae (bc d) (sH e g))
def eN(c:Run (bw Γ d) st rs a)(e:aU rs a)(f:Run (c8 rs) a us b)(g:-us<=ei):Run (ev Γ (.tup d)) st (lT us) b:=by show ae c (ae (bc e) (ae f ?_));rw[if_pos g];rfl
def bQ(c:Run (bw Γ d) st rs a)(e:aU rs a)(f:Run (c8 rs) a us b)(g:-us<=ei):Run (ev Γ (.lst d)) st (oL us) b:=by show ae c (ae (bc e) (ae f ?_));rw[if_pos g];rfl
def C9:Run (ev Γ (.RF r)) st (.own,.OT [] []) st:=9
def yL:Run (lift (.own,u)) st u st:=9
def aD:Run (lift (.loc,u)) st u st:=9
def g8(h:O6 u=4):Run (lift (.any,u)) st u st:=by change(if O6 u=4 then pure u else M.fail) st=_;rw[if_pos h];rfl
def aF:Run (c8 []) st [] st:=9
def ax(c:Run (lift r) st u a)(d:Run (c8 e) a f b):Run (c8 (r::e)) st (u::f) b:=ae c (ae d aK)
def C_(h:Run (ev Γ e) st r a):Run (kD Γ [e]) st r a:=h
def Ko(h:Run (ev Γ e) st (k,.bl p) a)(c:if p=4 then Run (kD Γ (d::f)) a r b else b=a/\r=(bL df)):Run (kD Γ (e::d::f)) st r b:=by show ae h ?_;cases p with|true=>show c|false=>let(rfl,rfl):=c;show aK
def HC(h:Run (kD Γ b) st r a):Run (ev Γ (.and b)) st r a:=h
def aB(f:Run (ev Γ a) st x e)(g:Run (ev Γ b) e y d)(h:aU [x,y] d)(i:cS op x.2 y.2\c):Run (O0 Γ (.cmp op a b)) st c d:=ae f (ae g (ae (bc h) (dC i)))
def iI(h:Run (O0 Γ a) st c b):Run (O0 Γ (.not a)) st (!c) b:=ae h aK
def mD(h:Run (aN Γ b) st c a):Run (O0 Γ (.and b)) st c a:=h
def iJ(h:Run (iw Γ b) st c a):Run (O0 Γ (.or b)) st c a:=h
def fm:Run (aN Γ []) st 4 st:=9
def di(h:Run (O0 Γ e) st c a):Run (aN Γ [e]) st c a:=h
def wW(h:Run (O0 Γ e) st 4 a)(d:Run (aN Γ (f::g)) a c b):Run (aN Γ (e::f::g)) st c b:=ae h d
def Dd(h:Run (O0 Γ e) st df a):Run (aN Γ (e::b::c)) st df a:=ae h aK
def g9(h:Run (O0 Γ e) st c a):Run (iw Γ [e]) st c a:=h
def qJ(h:Run (O0 Γ e) st 4 a):Run (iw Γ (e::b::c)) st 4 a:=ae h aK
def yM(h:Run (O0 Γ e) st df a)(d:Run (iw Γ (f::g)) a c b):Run (iw Γ (e::f::g)) st c b:=ae h d
def aS:Run (fD i (.own,u)) st () (st.set i (b6 (.own,u))):=9
def aY:Run (fD i (.loc,u)) st () (st.set i (b6 (.loc,u))):=9
def jB:Run (fD i (.any,u)) st () (st.set i (b6 (.any,u))):=9
def MT(c:Run (ev Γ e) st r a)(d:Run (fD i r) a () b):Run (exec Γ (.set i e)) st .nx b:=ae c (ae d aK)
def MU(d:∃f h,st[i]?\b6 (f,.lst h)/\f≠.A')(j:Run (ev Γ e) st r g)(l:Run (lift r) g u b)(m:b[i]?\b6 (k,.lst c))(hk:k.root=4)(hl:-c<ei):Run (exec Γ (.app i e)) st .nx (b.set i (b6 (k,.lst (c++[u])))):=by
 let(f,h,d,n):=d;show ae (iH d n) (ae   9 (ae j (ae l (ae (a:=()) ?_ aK))));change modS i _ b=_;unfold modS;rw[m];erw[hk,if_true];let e:Ft u (.lst c)\.lst (c++[u]):=by change(if -c<ei then _ else _)=_;left
 rw[e]
def MV(c:Run (ev Γ e) st r a)(d:Run (retS r) a f b):Run (exec Γ (.ret e)) st f b:=ae c d
def kM:Run (retS (.own,u)) st (.rt .own u) st:=9
def aO:Run (retS (.loc,u)) st (.rt .loc u) st:=9
def De(h:O6 u=4):Run (retS (.any,u)) st (.rt .loc u) st:=by change(if O6 u=4 then(pure _:M Fl) else pure _) st=_;rw[if_pos h];rfl
def oZ(h:st[j]?\b6 (.own,u)):Run (retS (.bor j,a)) st (.rt .own u) (st.set j ef):=by change(match st[j]? with|some (b6 (.own,u))=>b6 _|_=>ef)=_;rw[h]
def sI(g:Run (O0 Γ c) st 4 d)(h:Run (execs Γ a) d f e):Run (exec Γ (.ite c a b)) st f e:=ae g h
def wX(g:Run (O0 Γ c) st df d)(h:Run (execs Γ b) d f e):Run (exec Γ (.ite c a b)) st f e:=ae g h
def bj:Run (execs Γ []) st .nx st:=9
def fF(c:Run (exec Γ s) st .nx a)(d:Run (execs Γ e) a f b):Run (execs Γ (s::e)) st f b:=ae c d
def uX(b:Run (exec Γ s) st (.rt k u) a):Run (execs Γ (s::c)) st (.rt k u) a:=ae b aK
def aR(b:Run (ev Γ e) st r st1)(c:Run (fD i r) st1 () a)(d:Run (execs Γ g) a f h):Run (execs Γ (.set i e::g)) st f h:=fF (MT b c) d
def mE(d:st[i]?\b6 (k',.lst p))(g:Run (ev Γ e) st r b)(h:Run (lift r) b u a)(j:a[i]?\b6 (k,.lst c))(hk:k.root=4)(hl:-c<ei) (l:Run (execs Γ m) (a.set i (b6 (k,.lst (c++[u])))) f n) (o:k'≠.A':=by intro z;ext z):Run (execs Γ (.app i e::m)) st f n:=fF (MU #[_,_,d,o] g h j hk hl) l
def bx(c:Run (ev Γ e) st r a)(d:Run (retS r) a (.rt k u) b):Run (execs Γ (.ret e::f)) st (.rt k u) b:=uX (MV c d)
def jT(d:Run (O0 Γ c) st 4 st1)(e:Run (execs Γ a) st1 .nx st2)(g:Run (execs Γ h) st2 f i):Run (execs Γ (.ite c a b::h)) st f i:=fF (sI d e) g
def eG(e:Run (O0 Γ c) st df st1)(g:Run (execs Γ b) st1 .nx d)(h:Run (execs Γ i) d f j):Run (execs Γ (.ite c a b::i)) st f j:=fF (wX e g) h
def sJ(f:Run (O0 Γ c) st 4 d)(g:Run (execs Γ a) d (.rt k u) e):Run (execs Γ (.ite c a b::h)) st (.rt k u) e:=uX (sI f g)
def MW(h:Run (bw Γ d) st c b)(i:aU c b)(j:QW k c\l)(m:qx c g a=4)(n:Run (forM t g (execs Γ a) c l) b f e):Run (exec Γ (.O_ t g k d a)) st f e:=by show ae h (ae (bc i) (ae (dC j) ?_));rw[if_pos m];show n
def iK(e:Run (bw Γ b) st rs st1)(g:aU rs st1)(h:QW i rs\j)(k:qx rs d a=4)(l:Run (forM t d (execs Γ a) rs j) st1 .nx c)(m:Run (execs Γ n) c f o):Run (execs Γ (.O_ t d i b a::n)) st f o:=fF (MW e g h k l) m
def HD(h:aU b st):Run (forM t c a b []) st .nx st:=ae (bc h) aK
def MX(h:aU d st)(g:Run (fE t e x) st () b)(i:Run a b .nx c)(j:Run (forM t e a d k) c f l):Run (forM t e a d (x::k)) st f l:=ae (bc h) (ae g (ae i j))
theorem yN(I:↑(Kd×U)->aq->6)(hs:∀a st,I a st->aU rs st)(Ś:∀x a st,I (x::a) st->∃b c,Run (fE t is x) st () b/\Run body b .nx c/\I a c):∀a st,I a st->∃d,Run (forM t is body rs a) st .nx d/\I [] d|[],st,h=>#[st,HD (hs _ _ h),h]|x::a,st,h=>by let(m,e,f,g,i):=Ś x a st h;let(j,k,l):=yN I hs Ś a e i;show#[j,MX (hs _ _ h) f g k,l]
def dF(h:Run (fD i r) st () a):Run (fE df [i] r) st () a:=h
def aA(b:-a=fn.np)(hk:k=.own\/k=.loc)(hs:start a fn.ns=st0)(h:Run (execs Γ fn.body) st0 (.rt k u) st):aV Γ fn a\.ok (k,u):=by subst hs;unfold aV;rw[if_pos b,h];obtain rfl|rfl:=hk<;>rfl
def uY{cond}(h:aU a st):Run (cz k t cond c a [] b) st b st:=ae (bc h) aK
def o_{cond}(h:aU d st)(i:Run (fE t (i9 k) x) (pz k ef++st) () j)(l:Run cond j 4 m)(n:Run c m r o)(p:Run (lift r) o u f) (hl:-e<ei) (w:Run (cz k t cond c d q (e++[u])) (f.drop k) s g):Run (cz k t cond c d (x::q) e) st s g:=by
 show ae (bc h) (ae (a:=b6 u) (st1:=f.drop k) ?_ ?_)
 .change inScope k _ st=_;unfold inScope;let v:Run (fE t _ x >>= λ_=>cond >>= λb=>if b=4 then(c >>= λr=>lift r >>= λu=>pure (b6 u)) else pure ef) _ _ f :=ae i (ae l (ae n (ae  p 9)))
  rw[v]
 left
def wY{cond}(h:aU c st)(i:Run (fE t (i9 k) x) (pz k ef++st) () j)(l:Run cond j df g) (m:Run (cz k t cond d c n e) (g.drop k) o f):Run (cz k t cond d c (x::n) e) st o f:=by
 show ae (bc h) (ae (a:=ef)  ?_ m);change inScope k _ st=_;unfold inScope;let p:Run (fE t _ x >>= λ_=>cond >>= λb=>if b=4 then(d >>= λr=>lift r >>= λu=>pure (b6 u)) else pure ef) _ ef g :=ae i (ae l (9))
 rw[p]
def bO{a cond}(d:Run (bw Γ a) st rs b)(f:aU rs b)(g:QW ik rs\h)(i:Run (cz k t (aN Γ cond) (ev Γ e) rs h []) b j c):Run (ev Γ (.comp k t ik a cond e)) st (oL j) c :=ae d (ae (bc f) (ae (dC g) (ae i aK)))
theorem Df{cond}(h:aU c st)(g)(d:Kd×U->Kd):∀b a,-a+ -b<=ei -> (∀x∈b,x.1=.loc\/x.1=.any)->(∀x∈b,Run cond (b6 x::st) 4 (b6 x::st)/\Run e (b6 x::st) (d x,g x) (b6 x::st)/\Run (lift (d x,g x)) (b6 x::st) (g x) (b6 x::st))->Run (cz 1 df cond e c b a) st (a++b.map g) st
 |[],a,_,_,_=>by rw[YF,P'];show uY h|x::b,a,hl,hk,i=>by
  let(j,l,m):=i x 7;rw[l0]at hl;show o_     h ?_ j l m 7 ?_
  .let(k,u):=x;obtain z|z:=hk _ (ki ..)<;>(ext z;rfl)
  let:=Df h g d b (a++[g x]) (by grind) (λy f=>hk y (by simp[f])) λy f=>i y (by simp[f]);left
theorem pb{cond}(h:aU src st)(p)(g)(d:Kd×U->Kd):∀b a,-a+ -b<=ei -> (∀x∈b,x.1=.loc\/x.1=.any)->(∀x∈b,Run cond (b6 x::st) (p x) (b6 x::st)/\Run elt (b6 x::st) (d x,g x) (b6 x::st)/\Run (lift (d x,g x)) (b6 x::st) (g x) (b6 x::st))->Run (cz 1 df cond elt src b a) st (a++(b.filter p).map g) st
 |[],a,_,_,_=>by rw[ĸ,YF,P'];show uY h|x::b,a,hl,hk,f=>by
  let(e,l,m):=f x 7;rw[l0]at hl;let i:Run (fE df (i9 1) x) (pz 1 ef++st) () (b6 x::st):=by let(k,u):=x;obtain z|z:=hk _ (ki ..)<;>(ext z;rfl)
  cases j:p x with
  |true=>rw[j]at e;show o_     h i e l m 7 ?_;let:=pb h p g d b (a++[g x]) (by grind) (λy c=>hk y (by simp[c])) λy c=>f y (by simp[c]);left
  |false=>rw[j]at e;show wY   h i e ?_;let:=pb h p g d b a 7 (λy c=>hk y (by simp[c])) λy c=>f y (by simp[c]);left
def Qw(a:↑Fn)(f:5)(b:Fn):6:=(a.find? λg=>eL (g.name=f))\b
def yO(h:Qw a f b)(c):O2 a (d+1) f c=oA (O2 a d) b c:=by change(match a.find? λg=>eL (g.name=f) with|some b=>oA (O2 a d) b c|none=>ef)=_;rw[show _\b from h]
def cq(h:Qw Pg f a)(b)(c:a.ob=ef:=by rfl):O2 Pg (d+1) f b=aV (O2 Pg d) a b:=by rw[yO h];unfold oA;rw[c]
def lE(h:Qw Pg f a)(c)(e:a.ob\b):O2 Pg (d+1) f c=d8 (O2 Pg d) a b c:=by rw[yO h];unfold oA;rw[e]
def bR(h:0<j):Rr .mod (k,.int i) (a,.int j)\lI (i % j):=by change(Fj i j).map _=_;rw[Fj,if_pos h];rfl
def wZ(h:0<j/\j<1073741824):Rr .Rq (k,.int i) (a,.int j)\lI (i / j):=by change(Fi i j).map _=_;rw[Fi,if_pos h];rfl
def q9(h:(-((2 ^ 64):Int)<i/\i<2 ^ 64)\/(-((2 ^ 64):Int)<j/\j<2 ^ 64)):Rr .mul (k,.int i) (a,.int j)\lI (i * j):=by change(Fh i j).map _=_;rw[Fh,if_pos h];rfl
def q_(h:0<=j/\j<=1000000/\i.natAbs<2 ^ 64):Rr .pow (k,.int i) (a,.int j)\lI (i ^ j.toNat):=by change(Fm i j).map _=_;rw[Fm,if_pos h];rfl
def du:Rr .add (k,.int i) (a,.int j)\lI (i+j):=9
def aG(h:Px a i\u):mU (k,.lst a) (.int i)\(kE k,u):=by change(Px a i).map _=_;rw[h];rfl
def k_(h:Px a i\u):mU (k,.tup a) (.int i)\(kE k,u):=by change(Px a i).map _=_;rw[h];rfl
def yP:Kd.own≠Kd.A':=7
local macro_rules
 |`(tactic| sizeOf_list_dec)=>`(tactic| first|exact bj|apply aR|apply mE|apply bx|exact ah|exact af rfl|exact av rfl|exact aw rfl|apply aT|apply gh|apply aI|apply bW|apply aM|apply eh|apply aB|exact ag|apply aa|apply eN|apply bQ|exact aF|apply ax|exact aD|exact yL|(first|exact trivial|exact⟨⟨_,rfl,rfl⟩,trivial⟩|exact#[#[_,rfl,rfl],#[_,rfl,rfl],trivial])|exact du|exact vF|exact bR (by first|lia|decide)|exact wZ (by first|lia|decide)|exact q9 (by first|lia|decide)|exact q_ (by decide)|exact aY|exact aS|exact jB|exact aO|exact kM|exact oZ rfl|exact mh _|exact rfl|exact yP)
def w_(c k:Int):Int:=((c % 10 ^ 15+1) * 48271+k * k * 16807+k * 7919) % 2147483647 * 69621 % 2147483629
def Ap:Fn:=#["_law_mix",2,3,[.set 2 (.bin .add (.bin .add (.bin .mul (.bin .add (.bin .mod J' (.bin .pow (cI 10) (cI 15))) cA) (cI 48271)) (.bin .mul (.bin .mul OM OM) (cI 16807))) (.bin .mul OM (cI 7919))),.ret (.bin .mod (.bin .mul (.bin .mod OW (cI 2147483647)) (cI 69621)) (cI 2147483629))]]
def GG(a:0<=k)(b:k<2 ^ 63):aV Γ Ap [.int c,.int k]\.ok (lI (w_ c k)):=by
 apply aA  9 (.inr 9) 9
 repeat' sizeOf_list_dec
def yQ:Fn:=#["_law_cell",2,3,[.ite (.cmp .lt OM (.bi .len [J'])) [.ret (.idx J' OM)] [],.set 2 cO,.ite (.cmp .gt (.bi .len [J']) cO) [.set 2 (.idx J' (.bin .mod OM (.bi .len [J'])))] [],.ret (.bin .add (.bin .mul (cI 2) (.call "_law_mix" [OW,OM])) cA)]]
def Dg(Γ:Tab):6:=∀c k:Int,0<=k->k<2 ^ 63->Γ "_law_mix" [.int c,.int k]\.ok (lI (w_ c k))
def g_(h:eL (i<j)=c):cS .lt (.int i) (.int j)\c:=by subst h;rfl
def jC(h:eL (j<i)=c):cS .gt (.int i) (.int j)\c:=by subst h;rfl
def eI(h:(i==j)=c):cS .eq (.int i) (.int j)\c:=by subst h;rfl
def dG:QO .len [(k,.lst xs)]\lI (-xs:8):=9
def kN:QO .len [(k,.tup xs)]\lI (-xs:8):=9
def HE(a:↑Int)(k:8):Int:=if k< -a then(a[k]?).getD 0 else 2 * w_ ((a[k % -a]?).getD 0) k+1
def Dh(g:Dg Γ){k:8}(hk:k<2 ^ 62):aV Γ yQ [.lst (a.map .int),.int k]\.ok (lI (HE a k)):=by
 let d:∀c,Γ "_law_mix" [.int c,.int k]\.ok (lI (w_ c k)):=λc=>g c k 7 7;unfold HE;by_cases h:k< -a
 .rw[if_pos h];let b:Px (a.map U.int) (k:Int)\.int ((a[k]?).getD 0):=bo (by simp[h]);apply aA (st0:=[b6 (aL (a.map .int)),b6 (lI k),ef]) 9 (.inr 9) 9;apply sJ
  all_goals repeat' (first|show g_ (by simp[h])|show aG b|show De 9|sizeOf_list_dec)
 rw[if_neg h];let f:cS .lt (.int k) (.int (-a.map U.int:8))\df:=g_ 7;by_cases i:0< -a
 .let j:k % -a< -a:=œ _ i;let b:Px (a.map U.int) ((k:Int) % (-a.map U.int:8))\.int ((a[k % -a]?).getD 0):=by show bo (by simp[j])
  let l:(0:Int)<(-a.map U.int:8):=7
  apply aA (st0:=[b6 (aL (a.map .int)),b6 (lI k),ef]) 9 (.inr 9) 9;apply eG
  all_goals repeat' (first|show f|sizeOf_list_dec)
  apply jT
  all_goals repeat' (first|show jC 7|show bR l|show aG b|show d _|sizeOf_list_dec)
 let e:a=[]:=Td 7;subst e;apply aA (st0:=[b6 (aL ([].map .int)),b6 (lI k),ef]) 9 (.inr 9) 9;apply eG
 all_goals repeat' (first|show f|sizeOf_list_dec)
 apply eG
 all_goals repeat' (first|show d _|sizeOf_list_dec)
def sL:Fn:=#["_law_drawn",2,0x5,[.set 2 (.lst []),.set 3 (.bin .Rq J' (cI 2)),.O_ df [0x4] .Pt [OM] [.ite (.cmp .eq (.bin .mod J' (cI 2)) cO) [.app 2 (.bin .mod OX (cI 64)),.set 3 (.bin .Rq OX (cI 64))] [.app 2 (.bin .mod (.bin .Rq (.call "_law_mix" [J',P2]) (cI 0x7)) (cI 4096))]],.ret OW]]
def uZ(x):QW .Pt [x]=BL x:=9
def xb(h:n<2 ^ 62):QW .Pt [(k,.int (n:8))]\((i9 n).map λi:8=>(lI (0+(i:Int)))):=by rw[uZ,BL,if_pos ⋯,Zj]
def iL(n:8)(a:↑(Kd×U)):6:=∃i,i<=n/\a=((i9 n).drop i).map λi:8=>(lI (0+(i:Int)))
def iL.cons(h:iL n (x::b)):∃i,i<n/\x=(lI (i:8))/\iL n b/\i+ -b+1=n:=by
 let(i,c,e):=h;by_cases a:i<n
 .rw[É (by exists a)]at e;ext e;show#[i,a,by simp,#[_,a,9],by simp;lia]
 rw[List.drop_eq_nil_of_le (by grind)]at e;ext e
def iL.all(n):iL n ((i9 n).map λi:8=>(lI (0+(i:Int)))):=#[0,mh _,9]
def Aq(u:Dg Γ)(D:n<1000):∃a:↑Int,-a=n/\(∀d∈a,0<=d)/\aV Γ sL [.int c,.int n]\.ok (oL (a.map .int)):=by
 let v:(1000:8)<=ei:=7
 show let I:↑(Kd×U)->aq->6:=λl st=>∃(a:↑Int) (b:↑U) (left:Int) (o:Sl),st=[b6 (lI c),b6 (lI n),b6 (oL b),b6 (lI left),o]/\b=a.map .int/\(∀d∈a,0<=d)/\-a+ -l=n/\iL n l;?_;let f:=yN (t:=df) (is:=[0x4]) (body:=execs Γ [.ite (.cmp .eq (.bin .mod J' (cI 2)) cO)
    [.app 2 (.bin .mod OX (cI 64)),
    .set 3 (.bin .Rq OX (cI 64))]
    [.app 2 (.bin .mod (.bin .Rq (.call "_law_mix" [J',P2]) (cI 0x7)) (cI 4096))]]) (rs:=[(lI n)]) I (λ_ _ _=>ttt) (λx l st w=>by
  let(a,b,left,o,e,g,j,hl,y):=w;subst e;let h:-b=-a:=by rw[g];simp
  let(i,G,rfl,q,r):=y.cons;let A:Γ "_law_mix" [.int c,.int i]\.ok (lI (w_ c i)):=u c i 7 7;rw[l0]at hl;by_cases s:c % 2=0
  .show#[[b6 (lI c),b6 (lI n),b6 (oL b),b6 (lI left),b6 (lI i)],[b6 (lI c),b6 (lI n),b6 (oL (b++[.int (left % 64)])),b6 (lI (left / 64)),b6 (lI i)],aY,?_,#[a++[left % 64],_,left / 64,_,9,by simp[g],?_,by simp;lia,q]]
   .apply jT
    all_goals repeat' (first|show eI (by simp[s])|show(by rw[h];lia)|sizeOf_list_dec)
   intro d m;obtain z|z:=my.mp m
   .show j d z
   rw[mN.mp z];lia
  show#[[b6 (lI c),b6 (lI n),b6 (oL b),b6 (lI left),b6 (lI i)],[b6 (lI c),b6 (lI n),b6 (oL (b++[.int (w_ c i / 0x7 % 4096)])),b6 (lI left),b6 (lI i)],aY,?_,#[a++[w_ c i / 0x7 % 4096],_,left,_,9,by simp[g],?_,by simp;lia,q]]
  .apply eG
   all_goals repeat' (first|show eI (by simp[s])|show A|show(by rw[h];lia)|sizeOf_list_dec)
  intro d m;obtain z|z:=my.mp m
  .show j d z
  rw[mN.mp z];lia)
 let(B,C,a,b,left,o,e,g,j,hl,_):=f ((i9 n).map λi:8=>(lI (0+(i:Int)))) [b6 (lI c),b6 (lI n),b6 (oL []),b6 (lI (c / 2)),ef] ⟨[],[],c / 2,ef,9,9,by simp,by simp,iL.all n⟩;subst e g;show#[a,by simpa using hl,j,?_];apply aA (st0:=[b6 (lI c),b6 (lI n),ef,ef,ef]) 9 (.inl 9) 9
 repeat' sizeOf_list_dec
 let p:=xb (k:=.loc) (n:=n) 7;refine' iK (rs:=[(lI n)]) (st1:=[b6 (lI c),b6 (lI n),b6 (oL []),b6 (lI (c / 2)),ef]) _ ttt p 9 C _
 all_goals repeat' sizeOf_list_dec
end TM
local macro_rules
 |`(tactic| sizeOf_list_dec)=>`(tactic| first|exact TM.bj|apply TM.aR|apply TM.mE|apply TM.bx|exact TM.ah|exact TM.af rfl|exact TM.av rfl|exact TM.aw rfl|apply TM.aT|apply TM.gh|apply TM.aI|apply TM.bW|apply TM.aM|apply TM.eh|apply TM.aB|exact TM.ag|apply TM.aa|apply TM.eN|apply TM.bQ|exact TM.aF|apply TM.ax|exact TM.aD|exact TM.yL|(first|exact trivial|exact⟨⟨_,rfl,rfl⟩,trivial⟩|exact#[#[_,rfl,rfl],#[_,rfl,rfl],trivial])|exact TM.du|exact TM.vF|exact TM.bR (by first|lia|decide)|exact TM.wZ (by first|lia|decide)|exact TM.q9 (by first|lia|decide)|exact TM.q_ (by decide)|exact TM.aY|exact TM.aS|exact TM.jB|exact TM.aO|exact TM.kM|exact TM.oZ rfl|exact mh _|exact rfl|exact TM.yP)
namespace O1
open PySem L2
def bA(l:↑8):6:=b_ l=4\/∃a b k,l=a++47::b/\b_ a=4/\2<=k/\k<=99/\(~~~(fA k))=b
def len_list(x:5):-x=-x.cps.toList:=by rfl
def je(a:0<=k)(b:k<=99):-fA k<=2:=by
 let(m,rfl):=WD a;let c:m<100:=7
 clear a b;revert m;decide +kernel
def bA.len(h:bA l):1<=-l/\-l<=11:=by
 obtain h|⟨a,b,k,rfl,h,e,c,d⟩:=h
 .let:=(cj l).mp h;lia
 let:=(cj a).mp h;let hl:=je  7 c;rw[len_list,d]at hl;simp;lia
def bA.Ox(h:bA (~~~x)):∃y r,rD x Hl=y::r/\b_ (~~~y)=4:=by
 obtain h|⟨a,b,k,e,h,_⟩:=h
 .show#[x,[],cL (kf h),h]
 let(r,c):=tZ e (kf h) 7;show#[_,r,c,7]
theorem hJ:∀(b:↑5) a,(b.foldl (λa p=>a++B'.cps++p.cps) a).toList=a.toList++(b.map λp=>(~~~p)).flatten|[],a=>by simp|p::b,a=>by rw[ķ,hJ b];let:B'.cps=#v[]:=9;simp[this]
def join_list(a):(~~~(Ds B' a))=(a.map λp=>(~~~p)).flatten:=by cases a with|nil=>rfl|cons t a=>change(a.foldl _ t.cps).toList=_;rw[hJ];simp
def one(c:8):5:=#[#v[c]]
def join_ones(a):(~~~(Ds B' (a.map one)))=a:=by rw[join_list,k9];induction a with|nil=>rfl|cons c a b=>rw[lx,Ė,b];rfl
def u3(a:↑8)(h:-a<=100):ZZ B' (a.map one)=4:=by
 unfold ZZ;let e:=PySem.StrLaws.joinTotal B' (a.map one);let b:-B'=0:=9;let d:((a.map one).map (·.length)).sum=-a:=by rw[k9];clear h e;induction a with|nil=>rfl|cons c a f=>rw[lx,Ŗ,f];change 1+ -a=-a+1;lia
 rw[e,b,d];let g:-a+ -a.map one * 0<=100:=7
 revert g;generalize -a+ -a.map one * 0=m;revert m;decide
def Kp(x)(j:8):(~~~(PySem.StrLaws.sliceText x ef (b6 (j:Int))))=x.cps.toList.take j:=by
 by_cases h:j<=-x.cps.toList
 .rw[PySem.StrLaws.sliceText_to  ⟨⋯,⋯⟩];simp
 let e:PySem.StrLaws.sliceText x ef (b6 j)=PySem.StrLaws.sliceText x ef (b6 ⇑x):=by
  unfold PySem.StrLaws.sliceText;let hl:=len_list x;let:PySem.Builtin.Str.strSliceIndices ef (b6 j) 1 ⇑x=PySem.Builtin.Str.strSliceIndices ef (b6 ⇑x) 1 ⇑x:=by
   let a:¬((j:Int)<0):=7
   let b:¬((-x:Int)<0):=7
   let c:min (j:Int) ⇑x=-x:=7
   simp[PySem.Builtin.Str.strSliceIndices,a,b,c]
  rw[this]
 let hl:=len_list x;rw[e,PySem.StrLaws.sliceText_to  ⟨⋯,⋯⟩,List.drop_zero,Y_   ⋯];rw[Y_ ⋯]
def Ar(d:b_ a=4)(e:∀c∈b,low c=4):b_ ((a++b).take 0x8)=4:=by
 let h:=(cj a).mp d;show(cj _).mpr #[by grind,by grind,λc f=>?_];let g:=VV f;obtain m|m:=my.mp g
 .show h.2.2 c m
 let:=e c m;simp[low]at this;lia
def mF(a:∀c∈b,low c=4)(d:1<=-b)(e:-b<=0x8):b_ b=4 :=(cj b).mpr #[d,e,λc f=>by let:=a c f;simp[low]at this;lia]
def small:5:="abcdefghijklmnopqrstuvwxyz"
def xf:(~~~small)=(i9 26).map (97+·):=by rfl
def pd(a:0<=k)(b:k<26):Px (~~~small) k\(97+k.toNat):=by let(j,rfl):=WD a;show bo ?_;rw[xf,ri,Υ ⋯];rfl
def xg(h:j<26):low (97+j)=4:=by simp[low];lia
def u4(k:8):5:=#[#v[97+k / 26,97+k % 26]]
def xh(h:k<40):b_ (~~~(u4 k))=4:=by
 show mF (λc a=>?_) (by change 1<=2;decide) (by change 2<=0x8;decide);let b:=by simpa[u4] using a
 obtain rfl|rfl:=b
 .show xg 7
 show xg 7
theorem kO [DecidableEq α]:∀{l m:↑α},l.Nodup->(∀x∈l,x∈m)->-l<=-m
 |[],_,_,_=>mh _|x::l,m,b,h=>by
  let(c,d):=vl.mp b;let e:=h x ki;let f:=kO   d λy a=>(Ž (by rintro rfl;show c a)).mpr (h y (ib _ a))
  grind
def dO:↑5:=(i9 40).map u4
def sM:(dO.Nodup):=by decide +kernel
def xj(a:↑5)(h:-a<40):∃x∈dO,x∉a:=by apply Ĭ;intro b;let:=λx c=>Ĭ λd=>b #[x,c,d];let:=kO sM this;simp[dO]at this;lia
end O1
namespace TM
open PySem L2 O1
def jf(a:0<=z)(h:z<2 ^ 62):QW .Pt [(k,.int z)]\((i9 z.toNat).map λi:8=>(lI (0+(i:Int)))):=by rw[uZ,BL,if_pos ⋯]
def jF(a:-x<=ei)(h:Px (~~~x) i\c):mU (k,.str x) (.int i)\zS (O1.one c):=by erw[mU];rw[if_pos a,h];rfl
def pf:-small<=ei:=7
def cE{a:↑Int}{i}(h:i< -a):Px (a.map U.int) (i:Int)\.int ((a[i]?).getD 0):=bo (by simp[h])
theorem cU:∀a,strsOf (a.map U.str)\a|[]=>9|s::a=>by change(strsOf _).map _=_;rw[cU a];rfl
def sN(a:E):Fn:=#["_law_name",2,0x6,[.set 2 (cQ "abcdefghijklmnopqrstuvwxyz"),.set 3 (.PY .join (cQ "") [.comp 1 df .Pt [.bin .add cA (.bin .mod (.idx J' cO) (cI 0x8))] [] (.idx OX (.bin .mod (.idx OM (.bin .add (cI 0x4) J')) (cI 26)))]),.ite (.cmp .gt (.bi .len [OM]) cO) [.set 0x4 (.idx (.PY .split (.idx OM (.bin .mod (.idx J' cA) (.bi .len [OM]))) [(cQ "/")]) cO),.ite (.cmp .eq (.bin .mod (.idx J' (cI 2)) (cI 0x4)) cA) [.set 3 (.Pf (.bin .add P2 OX) [] [(cI 0x8)])] [],.ite (.cmp .eq (.bin .mod (.idx J' (cI 2)) (cI 0x4)) (cI 2)) [.set 3 (.bin .add (.bin .add P2 (cQ "/")) (.bi .str [.bin .add (cI 2) (.bin .mod (.idx J' (cI 3)) a)]))] []] [],.set 0x5 (.bin .add (.lst [OX]) (.comp 1 df .Pt [(cI 40)] [] (.bin .add (.idx OX (.bin .Rq J' (cI 26))) (.idx OX (.bin .mod J' (cI 26)))))),.ret (.idx (.comp 1 df .seq [PU] [.cmp .OR J' OW] J') cO)]]
def GH(h:E):6:=∀(Γ:Tab) (a:↑Int),12<=-a->(∀d∈a,0<=d)->∃m:Int,0<m/\m<=98/\∀b c e f g,Run (ev Γ h) [b6 (aL (a.map .int)),b,c,e,f,g] (lI m) [b6 (aL (a.map .int)),b,c,e,f,g]
abbrev MY:E:=cI 98
def GI:GH MY:=λ_ _ _ _=>#[98,by decide,by decide,λ_ _ _ _ _=>ah]
section
variable{Γ:Tab}{ds:List Int}
def dd(ds:↑Int)(i:8):Int:=(ds[i]?).getD 0
def gm(a:∀d∈ds,0<=d)(i):0<=dd ds i:=by unfold dd;cases e:ds[i]? with|none=>simp|some d=>show a d (va e)
def sO(r:12<=-ds)(g:∀d∈ds,0<=d):∃b:↑8,(∀c∈b,low c=4)/\1<=-b/\-b<=0x8 /\ Run (ev Γ (.comp 1 df .Pt [.bin .add cA (.bin .mod (.idx J' cO) (cI 0x8))] [] (.idx OX (.bin .mod (.idx OM (.bin .add (cI 0x4) J')) (cI 26)))))
   [b6 (aL (ds.map .int)),o1,b6 (zS small),o3,o4,o5] (oL ((b.map O1.one).map .str)) [b6 (aL (ds.map .int)),o1,b6 (zS small),o3,o4,o5]:=by
 let s:=gm g 0;show let n:=(1+dd ds 0 % 0x8).toNat;?_;let h:n<=0x8/\1<=n:=by change(1+dd ds 0 % 0x8).toNat<=0x8/\1<=(1+dd ds 0 % 0x8).toNat;lia
 show let f:8->8:=λi=>97+(dd ds (0x4+i) % 26).toNat;?_;show#[(i9 n).map f,?_,by simp;show h.2,by simp;show h.1,?_]
 .intro c m;let(i,_,rfl):=mn.mp m;let:=gm g (0x4+i);show xg 7
 let a:Run (cz 1 df (aN Γ []) (ev Γ (.idx OX (.bin .mod (.idx OM (.bin .add (cI 0x4) J')) (cI 26)))) [(lI (1+dd ds 0 % 0x8))] ((i9 n).map λi:8=>(lI (0+(i:Int)))) [])
   [b6 (aL (ds.map .int)),o1,b6 (zS small),o3,o4,o5] ([]++((i9 n).map λi:8=>(lI (0+(i:Int)))).map λx=>match x.2 with|.int j=>.str (O1.one (97+(dd ds (0x4+j.toNat) % 26).toNat))|u=>u) [b6 (aL (ds.map .int)),o1,b6 (zS small),o3,o4,o5]:=by
  let t:(0x8:8)<=ei:=7
  show Df (by show ttt) _ (λ_=>.loc) _ _ 7 (λx a=>?_) (λx a=>?_)
  .let(i,_,rfl):=mn.mp a;show .inl 9
  let(i,o,rfl):=mn.mp a;let v:i<n:=by exists o
  let l:Px (ds.map U.int) (0x4+(0+(i:Int)))\.int (dd ds (0x4+i)):=by rw[show(0x4+(0+(i:Int)))=((0x4+i:Nat):Int) by lia];show cE 7
  let p:=gm g (0x4+i);let hs:=pd (k:=dd ds (0x4+i) % 26) 7 7;show#[fm,?_,aD];erw[aaF,Zj];rw[aaF]at l
  repeat' (first|show aG l|show jF pf hs|sizeOf_list_dec)
 let e:((i9 n).map f).map O1.one=(i9 n).map λi=>O1.one (97+(dd ds (0x4+i) % 26).toNat):=by rw[k9];rfl
 rw[e];let q:([]++((i9 n).map λi:8=>(lI (0+(i:Int)))).map λx=>match x.2 with|.int j=>U.str (O1.one (97+(dd ds (0x4+j.toNat) % 26).toNat))|u=>u)=((i9 n).map λi=>O1.one (97+(dd ds (0x4+i) % 26).toNat)).map U.str:=by simp
 rw[q]at a;show bO (rs:=[(lI (1+dd ds 0 % 0x8))]) ?_ ttt (jf 7 7) a
 repeat' (first|show aG (cE (i:=0) 7)|sizeOf_list_dec)
def eU(h:-x+ -y<=ei):Rr .add (k,.str x) (a,.str y)\zS (x++y):=by erw[Rr,BJ];left
theorem dP:∀(a:↑5) n,eR n (a.map U.str)=4|[],n=>by rfl|s::a,n=>by erw[lx,eR,dP a n];rfl
theorem u5(x):∀(a:↑5),((a.map U.str).any λy=>cC y (.str x))=eL (x∈a)
 |[]=>by simp|s::a=>by
  rw[lx,aaf,u5 x a];let:cC (.str s) (.str x)=eL (x=s):=by
   erw[cC]
   grind
  left
def GJ(x)(a:↑5):Vg (.str x) (a.map U.str)\eL (x∈a):=by unfold Vg;rw[if_pos #[by rfl,dP a 50],u5]
def fq{x}{a:↑5}:cS .OR (.str x) (.lst (a.map U.str))\eL (x∉a):=by change(Vg _ _).map _=_;rw[GJ];simp
def u6:Run (ev Γ (.comp 1 df .Pt [(cI 40)] [] (.bin .add (.idx OX (.bin .Rq J' (cI 26))) (.idx OX (.bin .mod J' (cI 26))))))
   [b,c,b6 (zS small),d,e,f] (oL (dO.map .str)) [b,c,b6 (zS small),d,e,f]:=by
 let n:(100:8)<=ei:=7
 let a:Run (cz 1 df (aN Γ []) (ev Γ (.bin .add (.idx OX (.bin .Rq J' (cI 26))) (.idx OX (.bin .mod J' (cI 26))))) [(lI 40)] ((i9 40).map λi:8=>(lI (0+(i:Int)))) [])
   [b,c,b6 (zS small),d,e,f] ([]++((i9 40).map λi:8=>(lI (0+(i:Int)))).map λx=>match x.2 with|.int j=>.str (u4 j.toNat)|u=>u) [b,c,b6 (zS small),d,e,f]:=by
  show Df (by show ttt) _ (λ_=>.loc) _ _ 7 (λx a=>?_) (λx a=>?_)
  .let(i,_,rfl):=mn.mp a;show .inl 9
  let(i,o,rfl):=mn.mp a;let p:i<40:=7
  show#[fm,?_,aD];simp;let g:=pd (k:=(i:Int) / 26) 7 7;let h:=pd (k:=(i:Int) % 26) 7 7;let l:((i:Int) / 26).toNat=i / 26:=7
  rw[l]at g
  repeat' (first|show jF pf g|show jF pf h|show ad|sizeOf_list_dec)
 let m:([]++((i9 40).map λi:8=>(lI (0+(i:Int)))).map λx=>match x.2 with|.int j=>U.str (u4 j.toNat)|u=>u)=dO.map U.str:=by rfl
 rw[m]at a;show bO (rs:=[(lI 40)]) (by repeat' sizeOf_list_dec) ttt (jf 7 7) a
def As{names ts:↑5}(hl:-ts<=1000):Run (ev Γ (.comp 1 df .seq [PU] [.cmp .OR J' OW] J'))
   [o0,b6 (aL (names.map .str)),o2,o3,o4,b6 (oL (ts.map .str))] (oL ((ts.filter λx=>eL (x∉names)).map .str)) [o0,b6 (aL (names.map .str)),o2,o3,o4,b6 (oL (ts.map .str))]:=by
 let c:1000<=ei:=7
 let a:=pb (cond:=aN Γ [.cmp .OR J' OW]) (elt:=ev Γ J') (src:=[(.bor 0x5,.lst (ts.map .str))]) (st:=[o0,b6 (aL _),o2,o3,o4,b6 _]) #[#[.own,9,9],ttt]
  (λx=>match x.2 with|.str y=>eL (y∉names)|_=>df) (λx=>x.2) (λ_=>.loc) ((ts.map U.str).map λu=>(kE (.bor 0x5),u)) [] (by grind) (λx a=>by let(u,_,rfl):=mn.mp a;show .inl 9) (λx a=>by
   let(u,b,rfl):=mn.mp a;let(y,_,rfl):=mn.mp b;show#[di ?_,af 9,aD]
   repeat' (first|show fq|sizeOf_list_dec))
 let e:([]++(((ts.map U.str).map λu=>(kE (.bor 0x5),u)).filter λx=>match x.2 with|.str y=>eL (y∉names)|_=>df).map λx=>x.2)=(ts.filter λx=>eL (x∉names)).map U.str:=by rw[Ϭ,Ϭ,k9,k9];rfl
 rw[e]at a;show bO (rs:=[(.bor 0x5,.lst _)]) (by repeat' sizeOf_list_dec) #[#[.own,9,9],ttt] 9 a
end
section
variable{Γ:Tab}{ds:List Int}
def Au{a:↑5}(l:-a<40)(q:bA (~~~b)):∃x c,bA (~~~x)/\x∉a /\ Run (execs Γ [.set 0x5 (.bin .add (.lst [OX]) (.comp 1 df .Pt [(cI 40)] [] (.bin .add (.idx OX (.bin .Rq J' (cI 26))) (.idx OX (.bin .mod J' (cI 26)))))),
  .ret (.idx (.comp 1 df .seq [PU] [(.cmp .OR J' OW)] J') cO)]) [f,b6 (aL (a.map .str)),b6 (zS small),b6 (zS b),g,ef] (.rt .loc (.str x)) c:=by
 let r:1000<=ei:=7
 let(y,s,m):=xj a l;let n:(b::dO).filter (λx=>eL (x∉a))≠[]:=λz=>by left
 cases e:(b::dO).filter _ with
 |nil=>show absurd e n|cons x i =>
  let o:x∈(b::dO).filter (λx=>eL (x∉a)):=by rw[e];simp
  let(d,p):=W4.mp o;let j:=As (Γ:=Γ) (names:=a) (ts:=b::dO) (by simp[dO]) (o0:=f) (o2:=b6 (zS small)) (o3:=b6 (zS b)) (o4:=g);rw[e]at j;let ad:Rr .add (oL [.str b]) (oL (dO.map U.str))\oL ((b::dO).map U.str):=by rfl
  show#[x,[f,b6 (aL (a.map .str)),b6 (zS small),b6 (zS b),g,b6 (oL ((b::dO).map .str))],?_,by simpa using p,?_]
  .rcases gb.mp d with rfl|h
   .lia
   let(k,hk,rfl):=mn.mp h;show .inl (xh 7)
  show aR  (aT  (bQ (aa (af 9) ag) (by(first|show ttt|show⟨⟨_,9,9⟩,ttt⟩|show#[#[_,9,9],#[_,9,9],ttt])) (ax aD aF) (by grind)) u6 ttt ad) aS ?_;show bx (aI j ah ttt (aG (by show bo 9))) aO
def Di(Xm:GH w)(hd:12<=-ds)(p:∀d∈ds,0<=d){a:↑5}(hn:-a<40)(hw:∀x∈a,bA (~~~x)):∃x,bA (~~~x)/\x∉a/\aV Γ (sN w) [.lst (ds.map .int),.lst (a.map .str)]\.ok (zS x):=by
 let(m,WA,am,z):=Xm Γ ds hd p;let h8:(1000:8)<=ei:=7
 let(g,Xn,A,q,Xo):=sO (Γ:=Γ) hd p (o1:=b6 (aL (a.map .str))) (o3:=ef) (o4:=ef) (o5:=ef);let Xp:jn .join (.str "") [(oL ((g.map O1.one).map U.str))]\zS (Ds B' (g.map O1.one)):=by change(strsOf ((g.map O1.one).map U.str)).bind _=_;rw[cU];change(if ZZ B' (g.map O1.one)=4 then _ else _)=_;rw[if_pos (u3 g ⋯)];rfl
 show let b:5:=Ds B' (g.map O1.one);?_;let B:(~~~b)=g:=join_ones g;let Qg:b_ (~~~b)=4:=by rw[B];show mF Xn A q
 let C:-b<=0x8:=by rw[len_list,B];show q
 let j:∀{f:Fl} {e:aq} (D:↑S),Run (execs Γ D) [b6 (aL (ds.map .int)),b6 (aL (a.map .str)),b6 (zS small),b6 (zS b),ef,ef] f e ->
   Run (execs Γ (.set 2 (cQ "abcdefghijklmnopqrstuvwxyz")::.set 3 (.PY .join (cQ "") [.comp 1 df .Pt [.bin .add cA (.bin .mod (.idx J' cO) (cI 0x8))] [] (.idx OX (.bin .mod (.idx OM (.bin .add (cI 0x4) J')) (cI 26)))])::D))
    [b6 (aL (ds.map .int)),b6 (aL (a.map .str)),ef,ef,ef,ef] f e:=λD h=>aR (r:=(zS small)) ah aY (aR (eh ah (aa Xo ag) (by(first|show ttt|show⟨⟨_,9,9⟩,ttt⟩|show#[#[_,9,9],#[_,9,9],ttt])) Xp) aY h)
 let s:∀(k:5) (l:Sl),bA (~~~k)->∃x e,bA (~~~x)/\x∉a/\Run (execs Γ [.set 0x5 (.bin .add (.lst [OX]) (.comp 1 df .Pt [(cI 40)] [] (.bin .add (.idx OX (.bin .Rq J' (cI 26))) (.idx OX (.bin .mod J' (cI 26)))))),
  .ret (.idx (.comp 1 df .seq [PU] [(.cmp .OR J' OW)] J') cO)]) [b6 (aL (ds.map .int)),b6 (aL (a.map .str)),b6 (zS small),b6 (zS k),l,ef] (.rt .loc (.str x)) e:=λk l G=>Au hn G
 by_cases hz:0< -a
 .
  let H:(dd ds 1).toNat % -a< -a:=œ _ hz;show let o:=a[(dd ds 1).toNat % -a]'H;?_;let UW:bA (~~~o):=hw _ (Qx H);let(y,r,PZ,I):=UW.Ox;let W7:-y<=0x8:=by rw[len_list];show((cj _).mp I).2.1
  let Yh:-o<=11:=by rw[len_list];show UW.len.2
  let J:=gm p 1;let Qo:Px (a.map U.str) (dd ds 1 % (-a.map U.str:8))\.str o:=by rw[f7,show dd ds 1 % (⇑a:Nat)=(((dd ds 1).toNat % ⇑a:Nat):Int) by rw[Int.natCast_emod,Ą J]];show bo (by simp[H];rfl)
  let RC:jn .split (.str o) [(zS "/")]\oL ((y::r).map U.str):=by change(if (è "/"==0)=df/\-o+2<=ei then b6 (oL ((rD o "/").map .str)) else ef)=_;rw[if_pos #[by decide,⋯],show("/":Str)=Hl from rfl,PZ]
  let hp:(0:Int)<(-a.map U.str:8):=7
  let L:mU (oL ((y::r).map U.str)) (.int 0)\zS y:=aG (by change Px _ ((0:8):Int)=_;show bo 9);let an:=gm p 2;let ap:=gm p 3;let i1:Px (ds.map U.int) 1\.int (dd ds 1):=cE (i:=1) 7;let i2:Px (ds.map U.int) 2\.int (dd ds 2):=cE (i:=2) 7;let i3:Px (ds.map U.int) 3\.int (dd ds 3):=cE (i:=3) 7;let go:∀k:5,bA (~~~k)->Run (execs Γ [.ite (.cmp .eq (.bin .mod (.idx J' (cI 2)) (cI 0x4)) cA)
    [.set 3 (.Pf (.bin .add P2 OX) [] [(cI 0x8)])]
    [],
   .ite (.cmp .eq (.bin .mod (.idx J' (cI 2)) (cI 0x4)) (cI 2))
    [.set 3 (.bin .add (.bin .add P2 (cQ "/")) (.bi .str [.bin .add (cI 2) (.bin .mod (.idx J' (cI 3)) w)]))]
    []]) [b6 (aL (ds.map .int)),b6 (aL (a.map .str)),b6 (zS small),b6 (zS b),b6 (zS y),ef] .nx [b6 (aL (ds.map .int)),b6 (aL (a.map .str)),b6 (zS small),b6 (zS k),b6 (zS y),ef] ->
    ∃x,bA (~~~x)/\x∉a/\aV Γ (sN w) [.lst (ds.map .int),.lst (a.map .str)]\.ok (zS x):=λk G hr=>by
   let(x,e,N,O,Q):=s k (b6 (zS y)) G;show#[x,N,O,aA (st0:=[b6 (aL (ds.map .int)),b6 (aL (a.map .str)),ef,ef,ef,ef]) 9 (.inr 9) 9 (j _ (jT (st1:=[b6 (aL (ds.map .int)),b6 (aL (a.map .str)),b6 (zS small),b6 (zS b),ef,ef]) ?_ (aR (r:=(zS y)) (st1:=[b6 (aL (ds.map .int)),b6 (aL (a.map .str)),b6 (zS small),b6 (zS b),ef,ef]) ?_ aY hr) Q))]
   .repeat' (first|show jC 7|sizeOf_list_dec)
   repeat' (first|show bR hp|show aG Qo|show aG i1|show RC|show L|sizeOf_list_dec)
  let T:∀{c:Bool} {t l:Sl},(dd ds 2 % 0x4==1)=c->Run (O0 Γ (.cmp .eq (.bin .mod (.idx J' (cI 2)) (cI 0x4)) cA)) [b6 (aL (ds.map .int)),b6 (aL (a.map .str)),b6 (zS small),t,l,ef] c [b6 (aL (ds.map .int)),b6 (aL (a.map .str)),b6 (zS small),t,l,ef]:=λY=>by repeat' (first|show aG i2|show eI Y|sizeOf_list_dec)
  let t2:∀{c:Bool} {t l:Sl},(dd ds 2 % 0x4==2)=c->Run (O0 Γ (.cmp .eq (.bin .mod (.idx J' (cI 2)) (cI 0x4)) (cI 2))) [b6 (aL (ds.map .int)),b6 (aL (a.map .str)),b6 (zS small),t,l,ef] c [b6 (aL (ds.map .int)),b6 (aL (a.map .str)),b6 (zS small),t,l,ef]:=λY=>by repeat' (first|show aG i2|show eI Y|sizeOf_list_dec)
  by_cases n:dd ds 2 % 0x4=1
  .let ab:-y+ -b<=ei:=7
   let W_:jP (zS (y++b)) ef (b6 0x8)\zS (PySem.StrLaws.sliceText (y++b) ef (b6 0x8)):=by erw[jP];rw[if_pos (by rw[len_list];change(y.cps++b.cps).toList.length<=_;rw[û,nc,<-len_list,<-len_list];lia)]
   show go (PySem.StrLaws.sliceText (y++b) ef (b6 0x8)) (.inl ?_) ?_
   .let:=Kp (y++b) 0x8;rw[show((0x8:Nat):Int)=0x8 from rfl]at this;rw[this];change b_ ((y.cps++b.cps).toList.take 0x8)=4;rw[û];show Ar I (by rw[B];show Xn)
   show jT (T (by simp[n])) (aR (gk (aT (af 9) (af 9) ttt (eU ab)) d_ (dE ah) ttt W_) aY bj) (eG (t2 (by simp[n])) bj bj)
  by_cases Vp:dd ds 2 % 0x4=2
  .let ar:=í (dd ds 3) (show m≠0 by lia);let Tw:=Ç (dd ds 3) WA;let Ub:0<=2+dd ds 3 % m:=7
   let u:2+dd ds 3 % m<=99:=7
   let ac:=je Ub u;let Vm:QO .str [(lI (2+dd ds 3 % m))]\zS (fA (2+dd ds 3 % m)):=by
    erw[QO,hZ,BK];rw[if_pos (by
     have:(2+dd ds 3 % m).natAbs<2 ^ 0x7:=⋯
     have h2:(2+dd ds 3 % m).natAbs≠0:=⋯
     have:=(Nat.log2_lt h2).mpr this;lia)]
    rfl
   let al:-(y++("/":5))=-y+1:=by rw[len_list,len_list];change(y.cps++_).toList.length=_;rw[û,nc];rfl
   let v:Run (ev Γ (.bin .add (cI 2) (.bin .mod (.idx J' (cI 3)) w))) [b6 (aL (ds.map .int)),b6 (aL (a.map .str)),b6 (zS small),b6 (zS b),b6 (zS y),ef] (lI (2+dd ds 3 % m)) [b6 (aL (ds.map .int)),b6 (aL (a.map .str)),b6 (zS small),b6 (zS b),b6 (zS y),ef]:=aT ah (aT (aI (av 9) ah ttt (aG i3)) (z _ _ _ _ _) ttt (bR WA)) ttt du;show go (y++"/"++fA (2+dd ds 3 % m)) (.inr #[(~~~y),(~~~(fA (2+dd ds 3 % m))),2+dd ds 3 % m,?_,I,7,u,9]) ?_
   .change((y.cps++#v[47])++(fA _).cps).toList=_;simp
   show eG (T (by simp[Vp])) bj (jT (t2 (by simp[Vp])) (aR (aT (aT (af 9) ah ttt (eU (by change -y+1<=ei;lia))) (bW (aa v ag) ttt Vm) ttt (eU 7)) aY bj) bj)
  show go b (.inl Qg) ?_;show eG (T (by simp[n])) bj (eG (t2 (by simp[Vp])) bj bj)
 let(x,e,N,O,Q):=s b ef (.inl Qg);show#[x,N,O,aA (st0:=[b6 (aL (ds.map .int)),b6 (aL (a.map .str)),ef,ef,ef,ef]) 9 (.inr 9) 9 (j _ (eG (st1:=[b6 (aL (ds.map .int)),b6 (aL (a.map .str)),b6 (zS small),b6 (zS b),ef,ef]) ?_ bj Q))]
 repeat' (first|show jC (decide_eq_false (by erw[f7];lia))|sizeOf_list_dec)
end
def ph(Γ:Tab):6:=∀(a:↑Int) (k:8),k<2 ^ 62->∃z,Γ "_law_cell" [.lst (a.map .int),.int (k:8)]\.ok (lI z)
def kP(Γ:Tab):6:=∀(c:Int) (n:8),n<1000->∃a:↑Int,-a=n/\(∀d∈a,0<=d)/\Γ "_law_drawn" [.int c,.int (n:8)]\.ok (oL (a.map .int))
def Dj(Γ:Tab):6:=∀(b:↑Int) (a:↑5),12<=-b->(∀d∈b,0<=d)->-a<40->(∀x∈a,bA (~~~x))->∃x,bA (~~~x)/\x∉a/\Γ "_law_name" [.lst (b.map .int),.lst (a.map .str)]\.ok (zS x)
def fNames:Fn:=#["_law_names",3,0x5,[.set 3 (.lst []),.O_ df [0x4] .Pt [OW] [.app 3 (.call "_law_name" [.call "_law_drawn" [.call "_law_cell" [J',.bin .add OM P2],(cI 12)],OX])],.ret OX]]
theorem Av(hc:ph Γ)(hd:kP Γ)(hn:Dj Γ){ns:List Int}(hb:b<1000)(hm:m<40):
    ∃names:List 5,names.length=m/\names.Nodup/\(∀x∈names,bA x.cps.toList)/\aV Γ fNames [.lst (ns.map .int),.int (b:8),.int (m:8)]=b6 (.ok (oL (names.map .str))):=by
  let hsz:(1000:8)<=ei:=by decide
  show let I:List (Kd×U)->aq->6:=λxs st=>∃(names:List 5) (us:List U) (o:Sl),st=[b6 (aL (ns.map .int)),b6 (lI (b:8)),b6 (lI (m:8)),b6 (oL us),o]/\us=names.map .str/\names.Nodup/\(∀x∈names,bA x.cps.toList)/\names.length+xs.length=m/\iL m xs;?_;let loop:=yN (t:=df) (is:=[0x4]) (body:=execs Γ [.app 3 (.call "_law_name" [.call "_law_drawn" [.call "_law_cell" [J',.bin .add OM P2],(cI 12)],OX])]) (rs:=[(lI (m:8))]) I (λ_ _ _=>trivial) (λx xs st Pj=>by
    obtain⟨names,us,o,e,e2,O9,hw,hl,hr⟩:=Pj;subst e;obtain⟨i,hi,rfl,Sw,hlen⟩:=hr.cons;rw[l0]at hl;obtain⟨z,hz⟩:=hc ns (b+i) 7;rw[ϲ]at hz;obtain⟨ds,d1,d2,d3⟩:=hd z 12 7;obtain⟨x,x1,x2,x3⟩:=hn ds names 7 d2 7 hw;rw[<-e2]at x3;refine⟨[b6 (aL (ns.map .int)),b6 (lI (b:8)),b6 (lI (m:8)),b6 (oL us),b6 (lI (i:8))],[b6 (aL (ns.map .int)),b6 (lI (b:8)),b6 (lI (m:8)),b6 (oL (us++[.str x])),b6 (lI (i:8))],aY,?_,⟨names++[x],_,_,9,by simp[e2],?_,?_,by simp;lia,Sw⟩⟩
    · repeat' (first|exact hz|exact d3|exact x3|exact(by rw[e2,f7];lia)|sizeOf_list_dec)
    · rw[C0]
      exact ⟨O9, by simp, fun y hy w V4 => by let : w = x := by simpa using V4
                                              subst this;rintro rfl;exact x2 hy⟩
    · intro y hy
      rcases my.mp hy with h|h
      · exact hw y h
      · rw[mN.mp h];exact x1)
  obtain⟨st',Ph,names,us,o,e,e2,O9,hw,hl,_⟩:=loop ((i9 m).map λi:8=>(lI (0+(i:Int)))) [b6 (aL (ns.map .int)),b6 (lI (b:8)),b6 (lI (m:8)),b6 (oL []),ef] ⟨[],[],ef,9,9,by simp,by simp,by simp,iL.all m⟩;subst e e2;refine⟨names,by simpa using hl,O9,hw,?_⟩;apply aA (st0:=[b6 (aL (ns.map .int)),b6 (lI (b:8)),b6 (lI (m:8)),ef,ef]) 9 (.inl 9) 9
  repeat' sizeOf_list_dec
  let hit:=xb (k:=.loc) (n:=m) 7;refine' iK (rs:=[(lI (m:8))]) (st1:=[b6 (aL (ns.map .int)),b6 (lI (b:8)),b6 (lI (m:8)),b6 (oL []),ef]) _ trivial hit 9 Ph _
  all_goals repeat' sizeOf_list_dec
def mG:Fn:=#["_law_told",2,0x6,[.set 2 (.bi .len [OM]),.ite (.and [.cmp .gt (.bin .mod (.idx J' (cI 2)) (cI 3)) cO,.cmp .gt (.bin .mod (.idx J' cO) (.bi .len [OM])) cO]) [.set 2 (.bin .mod (.idx J' cO) (.bi .len [OM]))] [],.set 3 (.lst []),.O_ df [0x4] .Pt [.idx (.lst [cO,cO,cA,cA,cA,(cI 2),(cI 2),(cI 2),(cI 3),(cI 0x8)]) (.bin .mod (.idx J' cA) (cI 10))] [.set 0x5 (.idx OM (.bin .mod (.idx J' (.bin .add (cI 3) P2)) OW)),.ite (.cmp .OR PU OX) [.app 3 PU] []],.ret (.bi .tuple [OX])]]
theorem Oy:∀j:8,j<10->∃q,q<=0x8/\Px [U.int 0,.int 0,.int 1,.int 1,.int 1,.int 2,.int 2,.int 2,.int 3,.int 0x8] (j:Int)\.int (q:8)
 |0,_=>⟨0,7,9⟩|1,_=>⟨0,7,9⟩|2,_=>⟨1,7,9⟩|3,_=>⟨1,7,9⟩|0x4,_=>#[1,7,9]
 |0x5,_=>⟨2,7,9⟩|0x6,_=>⟨2,7,9⟩|0x7,_=>⟨2,7,9⟩|0x8,_=>⟨3,7,9⟩|0x9,_=>#[0x8,7,9]
 |n+10,h=>absurd h 7
def Kq(e:0<=z)(a:0<t)(hl:t<=-xs):∃x∈xs,Px xs (z % t)\x:=by
 let b:=í z (by lia:t≠0);let f:=Ç z a;let(j,c):=WD b;let d:j< -xs:=7
 show#[_,Qx d,?_];rw[c];show bo 7
def nj{xs:↑5}{z t:Int}(a:0<=z)(b:0<t)(hl:t<=-xs):∃x∈xs,Px (xs.map U.str) (z % t)\.str x:=by let(u,c,e):=Kq (xs:=xs.map _) a b 7;let(x,d,rfl):=mn.mp c;show#[x,d,e]
def Dk{Γ}{g:↑Int}{a:↑5}(hd:11<=-g)(C:∀d∈g,0<=d)(hn:0< -a):∃b:↑5,-b<=0x8/\b.Nodup/\(∀x∈b,x∈a)/\aV Γ mG [.lst (g.map .int),.lst (a.map .str)]\.ok (lT (b.map .str)):=by
 let ac:(1000:8)<=ei:=7
 let Y:Px (g.map U.int) 0\.int (dd g 0):=cE (i:=0) 7;let i1:Px (g.map U.int) 1\.int (dd g 1):=cE (i:=1) 7;let i2:Px (g.map U.int) 2\.int (dd g 2):=cE (i:=2) 7;let n0:=gm C 0;let n1:=gm C 1;let n2:=gm C 2;let v:(0:Int)<(-a.map U.str:8):=7
 let hL:(-a.map U.str:Int)=-a:=7
 let WA:=Ç (dd g 0) v;let al:=í (dd g 0) (by lia:(-a.map U.str:Int)≠0);show let B:=λ(t:Int) (j:↑U) (p m:Sl)=>([b6 (aL (g.map .int)),b6 (aL (a.map .str)),b6 (lI t),b6 (oL j),p,m]:aq);?_
 let hj:(dd g 1 % 10).toNat<10:=7
 let(q,hq,Qo):=Oy _ hj;rw[Ą ⋯]at Qo;let w:∀t:Int,0<t->t<=-a->∃b:↑5,-b<=0x8/\b.Nodup/\(∀x∈b,x∈a)/\∃l,Run (execs Γ (mG.body.drop 2)) [b6 (aL (g.map .int)),b6 (aL (a.map .str)),b6 (lI t),ef,ef,ef] (.rt .loc (.tup (b.map .str))) l:=λt z D=>by
  show let I:↑(Kd×U)->aq->6:=λG st=>∃(b:↑5) (j:↑U) (p m:Sl),st=B t j p m/\j=b.map .str/\b.Nodup/\(∀x∈b,x∈a)/\-b+ -G<=q/\iL q G;?_;let A:=yN (t:=df) (is:=[0x4]) (body:=execs Γ [.set 0x5 (.idx OM (.bin .mod (.idx J' (.bin .add (cI 3) P2)) OW)),
   .ite (.cmp .OR PU OX)
    [.app 3 PU]
    []]) (rs:=[(lI (q:8))]) I (λ_ _ _=>ttt) (λx G st Pj=>by
   let(b,j,p,m,e,s,H,J,hl,hr):=Pj;subst e;let(i,hi,rfl,Sw,ab):=hr.cons;rw[l0]at hl;let ik:Px (g.map U.int) (3+(i:Int))\.int (dd g (3+i)):=by rw[show(3+(i:Int))=((3+i:Nat):Int) by lia];show cE 7
   let(x,hx,Yl):=nj (xs:=a) (gm C (3+i)) z D;let VX:cS .OR (.str x) (.lst j)\eL (x∉b):=by rw[s];show fq
   by_cases QF:x∈b
   .show#[B t j (b6 (lI (i:8))) m,B t j (b6 (lI (i:8))) (b6 (.any,.str x)),aY,?_,#[b,j,_,_,9,s,H,J,7,Sw]];show aR (r:=(.any,.str x)) (st1:=B t j (b6 (lI (i:8))) m) ?_ jB (eG (st1:=B t j (b6 (lI (i:8))) (b6 (.any,.str x))) ?_ bj bj)
    .repeat' (first|show aG ik|show bR z|show aG Yl|sizeOf_list_dec)
    let:cS .OR (.str x) (.lst j)\df:=by rw[VX];simp[QF]
    repeat' (first|show this|sizeOf_list_dec)
   show#[B t j (b6 (lI (i:8))) m,B t (j++[.str x]) (b6 (lI (i:8))) (b6 (.any,.str x)),aY,?_,#[b++[x],_,_,_,9,by simp[s],?_,?_,by simp;lia,Sw]]
   .show aR (r:=(.any,.str x)) (st1:=B t j (b6 (lI (i:8))) m) ?_ jB (jT (st1:=B t j (b6 (lI (i:8))) (b6 (.any,.str x))) (st2:=B t (j++[.str x]) (b6 (lI (i:8))) (b6 (.any,.str x))) ?_ ?_ bj)
    .repeat' (first|show aG ik|show bR z|show aG Yl|sizeOf_list_dec)
    .let:cS .OR (.str x) (.lst j)\4:=by rw[VX];simp[QF]
     repeat' (first|show this|sizeOf_list_dec)
    repeat' (first|show g8 9|show(by rw[s,f7];lia)|sizeOf_list_dec)
   .rw[C0]
    grind
   grind)
  let(l,Ph,b,j,p,m,e,s,H,J,hl,_):=A ((i9 q).map λi:8=>(lI (0+(i:Int)))) (B t [] ef ef) ⟨[],[],ef,ef,9,9,by simp,by simp,by simp,iL.all q⟩;subst e s;show#[b,by simp at hl;lia,H,J,?_];let L:=xb (k:=.loc) (n:=q) 7;show#[B t (b.map .str) p m,aR (r:=(oL [])) (bQ ag ttt aF (mh _)) aS (iK (rs:=[(lI (q:8))]) (st1:=B t [] ef ef) ?_ ttt L 9 Ph ?_)]
  .show aa (aI (x:=(oL [U.int 0,.int 0,.int 1,.int 1,.int 1,.int 2,.int 2,.int 2,.int 3,.int 0x8])) (y:=(lI (dd g 1 % 10))) (st1:=B t [] ef ef) ?_ ?_ ttt (aG Qo)) ag
   .repeat' (first|show(by decide:(10:8)<=ei)|sizeOf_list_dec)
   repeat' (first|show aG i1|sizeOf_list_dec)
  repeat' sizeOf_list_dec
 let o:∀t:Int,0<t->t<=-a->(∀{f:Fl} {l:aq},Run (execs Γ (mG.body.drop 2)) [b6 (aL (g.map .int)),b6 (aL (a.map .str)),b6 (lI t),ef,ef,ef] f l->Run (execs Γ mG.body) [b6 (aL (g.map .int)),b6 (aL (a.map .str)),ef,ef,ef,ef] f l) ->
   ∃b:↑5,-b<=0x8/\b.Nodup/\(∀x∈b,x∈a)/\aV Γ mG [.lst (g.map .int),.lst (a.map .str)]\.ok (lT (b.map .str)):=λt z D hh=>by
  let(b,a1,a2,a3,l,a4):=w t z D;show#[b,a1,a2,a3,aA (st0:=[b6 (aL (g.map .int)),b6 (aL (a.map .str)),ef,ef,ef,ef]) 9 (.inr 9) 9 (hh a4)]
 show let u:aq:=[b6 (aL (g.map .int)),b6 (aL (a.map .str)),b6 (lI (-a.map U.str:8)),ef,ef,ef];?_
 let N:∀{c:Bool},eL (0<dd g 2 % 3)=c->Run (O0 Γ (.cmp .gt (.bin .mod (.idx J' (cI 2)) (cI 3)) cO)) u c u:=λh=>by repeat' (first|show aG i2|show jC h|sizeOf_list_dec)
 let q2:∀{c:Bool},eL (0<dd g 0 % (-a.map U.str:8))=c->Run (O0 Γ (.cmp .gt (.bin .mod (.idx J' cO) (.bi .len [OM])) cO)) u c u:=λh=>by repeat' (first|show aG Y|show bR v|show jC h|sizeOf_list_dec)
 let O:Run (ev Γ (.bi .len [OM])) [b6 (aL (g.map .int)),b6 (aL (a.map .str)),ef,ef,ef,ef] (lI (-a.map U.str:8)) [b6 (aL (g.map .int)),b6 (aL (a.map .str)),ef,ef,ef,ef]:=by repeat' sizeOf_list_dec
 let s3:Run (ev Γ (.bin .mod (.idx J' cO) (.bi .len [OM]))) u (lI (dd g 0 % (-a.map U.str:8))) u:=by repeat' (first|show aG Y|show bR v|sizeOf_list_dec)
 by_cases Q:0<dd g 2 % 3
 .by_cases T:0<dd g 0 % (-a.map U.str:8)
  .show o (dd g 0 % (-a.map U.str:8)) T 7 λh=>aR O aY (jT (mD (wW (N (decide_eq_true Q)) (di (q2 (decide_eq_true T))))) (aR s3 aY bj) h)
  show o (-a.map U.str:8) v 7 λh=>aR O aY (eG (mD (wW (N (decide_eq_true Q)) (di (q2 (decide_eq_false T))))) bj h)
 show o (-a.map U.str:8) v 7 λh=>aR O aY (eG (mD (Dd (N (decide_eq_false Q)))) bj h)
def HF(j:Run (ev Γ l) st rv b)(m:b[i]?\b6 (n,o))(p:Run (ev Γ q) b rk c)(r:Run (c8 [rv,rk]) c [e,g] d)(s:d[i]?\b6 (k,h))(hk:k.root=4)(t:ix g e h\u) (v:Run (execs Γ w) (d.set i (b6 (k,u))) f x) (y:n≠.A':=by intro z;ext z):Run (execs Γ (.put i q l::w)) st f x:=by show fF (ae j (ae (iH m y) (ae p (ae r (ae (a:=())  ?_ aK))))) v;change modS i _ d=_;unfold modS;rw[s];erw[hk];change(match ix g e h with|some o=>_|none=>ef)=_;rw[t]
abbrev Row:=5 ×↑5
def OS(r:Row):U:=.tup [.str r.1,.tup (r.2.map .str)]
abbrev tR(a:↑Row):U:=U.tup (a.map OS)
def keyOf(r:Row):Row:=(r.1,cF r.2)
def sorted_strs(h:-a<64):QO .sorted [(k,.tup (a.map .str))]\oL ((cF a).map .str):=by change(strsOf _).bind _=_;rw[cU];left
def Dl(Γ:Tab):6:=∀(c:↑Int) (a:↑5),11<=-c->(∀d∈c,0<=d)->0< -a ->
 ∃b:↑5,-b<=0x8/\b.Nodup/\(∀x∈b,x∈a)/\Γ "_law_told" [.lst (c.map .int),.lst (a.map .str)]\.ok (lT (b.map .str))
structure kQ(names:↑5)(r:Row):6 where
 word:r.1∈names
 Qn:-r.2<=0x8
 once:r.2.Nodup
 told:∀x∈r.2,x∈names
def sQ(Γ:Tab):6:=∀(c:↑Int) (b m:8),b<1000->m<40->∃a:↑5,-a=m/\a.Nodup/\(∀x∈a,bA (~~~x))/\Γ "_law_names" [.lst (c.map .int),.int (b:8),.int (m:8)]\.ok (oL (a.map .str))
def HG(h:Qw a "_law_mix" Ap):Dg (O2 a (d+1)):=λc k b e=>by rw[cq h];show GG b e
def pj(h:Qw a "_law_mix" Ap)(b:Qw a "_law_cell" yQ):ph (O2 a (d+2)):=λc k hk=>#[_,by rw[cq b];show Dh (HG h) hk]
def drawnOk(h:Qw f "_law_mix" Ap)(g:Qw f "_law_drawn" sL):kP (O2 f (d+2)):=λc n i=>by let(j,a,b,e):=Aq (HG  h)  i;show#[j,a,b,by rw[cq g];show e]
def Kr(g:GH i)(h:Qw j "_law_name" (sN i)):Dj (O2 j (d+1)):=λk f a b c e=>by let(x,p,q,r):=Di  g a b c e;show#[x,p,q,by rw[cq h];show r]
def Ks(h:Qw f "_law_told" mG):Dl (O2 f (d+1)):=λg e a b c=>by let(x,p,q,r,s):=Dk  a b c;show#[x,p,q,r,by rw[cq h];show s]
structure eV(md:E)(Pg:↑Fn):6 where
 mix:Qw Pg "_law_mix" Ap
 cell:Qw Pg "_law_cell" yQ
 drawn:Qw Pg "_law_drawn" sL
 name:Qw Pg "_law_name" (sN md)
 names:Qw Pg "_law_names" fNames
 told:Qw Pg "_law_told" mG
def eV.pj(M:eV b a):ph (O2 a (d+2)):=TM.pj M.mix M.cell
def eV.drawnOk(M:eV b a):kP (O2 a (d+2)):=TM.drawnOk M.mix M.drawn
def eV.Dm(c:GH e)(M:eV e f):sQ (O2 f (d+3)):=λi b m g h=>by let(a,p,q,r,s):=Av  M.pj M.drawnOk (TM.Kr c M.name)  g h;show#[_,p,q,r,by rw[cq M.names];show s]
abbrev Dn(a:↑Fn):6:=eV MY a
def eV.namesOk(M:Dn a):sQ (O2 a (d+3)):=eV.Dm GI M
def qK(h:Run (execs Γ (a++m)) st f d):(∃i,Run (execs Γ a) st .nx i/\Run (execs Γ m) i f d)\/(Run (execs Γ a) st f d/\f≠.nx):=by
 induction a generalizing st with
 |nil=>show .inl #[st,bj,h]|cons s a n =>
  let b:M.bind _ _ st\_:=h;unfold M.bind at b;cases e:exec Γ s st with
  |none=>left
  |some p =>
   let(x,i):=p;rw[e]at b;cases x with
   |exc c=>ext b
   |ok g =>
    cases g with
    |nx =>
     obtain⟨o,j,l⟩|⟨j,l⟩:=n b
     .show .inl #[o,fF e j,l]
     show .inr #[fF e j,l]
    |rt k u=>ext b;show .inr #[uX e,λz=>nomatch z]
    |_=>ext b;show .inr #[ae (e) aK,λz=>nomatch z]
def MZ(b:Run (exec Γ s) st f a)(c:f≠.nx):Run (execs Γ (s::d)) st f a:=by cases f with|nx=>show absurd 9 c|rt k u=>show uX b|_=>show ae b aK
def bz(i:Run (O0 Γ c) st p g)(k:p=4->Run (execs Γ (a++j)) g f h)(l:p=df->Run (execs Γ (b++j)) g f h):Run (execs Γ (.ite c a b::j)) st f h:=by
 cases p with
 |true =>
  obtain⟨m,d,e⟩|⟨d,e⟩:=qK (k 9)
  .show fF (sI i d) e
  show MZ (sI i d) e
 |false =>
  obtain⟨m,d,e⟩|⟨d,e⟩:=qK (l 9)
  .show fF (wX i d) e
  show MZ (wX i d) e
def Dp(h:Run (ev Γ e) st (k,.bl p) st)(c:p=4->Run (kD Γ (a::b)) st (bL q) st):Run (kD Γ (e::a::b)) st (bL (p&&q)) st:=by show Ko h ?_;left
def gp(h:Run (O0 Γ e) st p st)(a:p=df->Run (iw Γ (b::c)) st q st):Run (iw Γ (e::b::c)) st (p||q) st:=by cases p with|true=>show qJ h|false=>show yM h (a 9)
def pk(h:Run (O0 Γ e) st p st)(a:p=4->Run (aN Γ (b::c)) st q st):Run (aN Γ (e::b::c)) st (p&&q) st:=by cases p with|true=>show wW h (a 9)|false=>show Dd h
theorem dQ{cond:M Bool}(h:aU src st)(k:Kd)(hk:k=.loc\/k=.any)(a g:α->U)(d:Kd)(e:∀y,Run cond (b6 (k,a y)::st) 4 (b6 (k,a y)::st)):∀(c:↑α) (b:↑U),-b+ -c<=ei -> (∀y∈c,Run elt (b6 (k,a y)::st) (d,g y) (b6 (k,a y)::st)/\Run (lift (d,g y)) (b6 (k,a y)::st) (g y) (b6 (k,a y)::st))->Run (cz 1 df cond elt src (c.map λy=>(k,a y)) b) st (b++c.map g) st
 |[],b,_,_=>by rw[YF,YF,P'];show uY h|y::c,b,hl,f=>by
  let(i,j):=f y 7;rw[l0]at hl;show o_     h ?_ (e y) i j 7 ?_
  .rcases hk with rfl|rfl
   .show dF aY
   show dF jB
  let:=dQ h k hk a g d e c (b++[g y]) 7 λz l=>f z (by simp[l]);left
theorem jU{cond:M Bool}(h:aU src st)(k:Kd)(hk:k=.loc\/k=.any)(a g:α->U)(p:α->Bool)(d:Kd):∀(c:↑α) (b:↑U),-b+ -c<=ei -> (∀y∈c,Run cond (b6 (k,a y)::st) (p y) (b6 (k,a y)::st)/\(p y=4->Run elt (b6 (k,a y)::st) (d,g y) (b6 (k,a y)::st)/\Run (lift (d,g y)) (b6 (k,a y)::st) (g y) (b6 (k,a y)::st)))->Run (cz 1 df cond elt src (c.map λy=>(k,a y)) b) st (b++(c.filter p).map g) st
 |[],b,_,_=>by rw[YF,ĸ,YF,P'];show uY h|y::c,b,hl,f=>by
  let(e,i):=f y 7;rw[l0]at hl;let m:Run (fE df (i9 1) (k,a y)) (pz 1 ef++st) () (b6 (k,a y)::st):=by
   obtain rfl|rfl:=hk
   .show dF aY
   show dF jB
  cases j:p y with
  |true=>rw[j]at e;let(n,o):=i j;show o_     h m e n o 7 ?_;let:=jU h k hk a g p d c (b++[g y]) 7 λz l=>f z (by simp[l]);left
  |false=>rw[j]at e;show wY   h m e ?_;let:=jU h k hk a g p d c b 7 λz l=>f z (by simp[l]);left
theorem gM(e:α->Kd×U)(I:↑α->↑α->aq->6)(hs:∀d r st,I d r st->aU rs st) (Ś:∀d y r st,I d (y::r) st->∃a b,Run (fE t is (e y)) st () a/\Run body a .nx b/\I (d++[y]) r b):∀(r d:↑α) (st:aq),I d r st->∃c,Run (forM t is body rs (r.map e)) st .nx c/\I (d++r) [] c|[],d,st,h=>#[st,HD (hs _ _ _ h),by left]|y::r,d,st,h=>by let(m,f,g,i,j):=Ś d y r st h;let(k,l,n):=gM e I hs Ś r _ f j;show#[k,MX (hs _ _ _ h) g i l,by left]
def gN(d:Run (bw Γ e) st c a)(g:aU c a)(h:Γ f (c.map (·.2))\.ok r)(i:wm r.2\b)(j:isAny r.1=df:=by show 9):Run (O0 Γ (.call f e)) st b a:=ae d (ae (bc g) (ae (sH h j) (dC i)))
def Kt(h:Run (ev Γ (.bi f j)) st (k,.bl b) c):Run (O0 Γ (.bi f j)) st b c:=by
 let o:=h;obtain⟨d,e,l,n,g,m,r,i,p,q⟩:∃d e,bw Γ j st\_/\∃(a:Unit) (g:aq),az d e\_/\∃r i,M.Pd _ g\_/\(r,i)=((k,U.bl b),c):=by
  let w:W (bw Γ j >>= λd=>az d >>= λ_=>M.Pd _) st λr s=>(r,s)=((k,U.bl b),c):=#[_,_,o,9]
  rw[ai]at w;let(d,e,l,w):=w;rw[ai]at w;let(a,g,n,w):=w;let(r,i,m,w):=w;show#[d,e,l,a,g,n,r,i,m,w]
 ext q;show ae l (ae  m (ae p (dC 9)))
def Dq(c:st[i]?\b6 (k',.lst n))(d:Run (ev Γ e) st r b)(o:b[i]?\b6 (k,.lst g))(hk:k.root=4)(p:qc r (.lst g)\.lst zs) (h:Run (execs Γ j) (b.set i (b6 (k,.lst zs))) f l) (m:k'≠.A':=by intro z;ext z):Run (execs Γ (.ext i e::j)) st f l:=by show fF (ae (iH c m) (ae   9 (ae d (ae (a:=())  ?_ aK)))) h;change modS i _ b=_;unfold modS;left
def GK(h:-b+ -a<=ei)(hs:eF k a=4):qc (k,.tup a) (.lst b)\.lst (b++a):=by change(if -b+ -a<=ei/\eF k a=4 then _ else _)=_;rw[if_pos #[h,hs]]
def yR(h:-b+ -a<=ei)(hs:eF k a=4):qc (k,.lst a) (.lst b)\.lst (b++a):=by change(if -b+ -a<=ei/\eF k a=4 then _ else _)=_;rw[if_pos #[h,hs]]
theorem fb:∀a:↑5,fB (a.map U.str)=4|[]=>by rfl|s::a=>by simp[fB,O6,fb a]
def fI(r):O6 (OS r)=4:=by simp[OS,O6,fB,fb]
theorem cH:∀a:↑Row,fB (a.map OS)=4|[]=>by rfl|r::a=>by simp[fB,fI,cH a]
theorem jV:∀(a b:↑5),c7 (a.map U.str) (b.map U.str)=eL (a=b)
 |[],[]=>by rfl|[],_::_=>by simp[c7]|_::_,[]=>by simp[c7]|x::a,y::b=>by
  rw[lx,lx,c7,jV a b];erw[cC];by_cases h:x=y
  .subst h;simp
  simp[h]
def Aw(a b):cC (OS a) (OS b)=eL (a=b):=by
 let(c,e):=a;let(d,b2):=b;erw[OS,cC,c7,jV];by_cases h:c=d
 .subst h;simp
 simp[h]
def yS(r):P1 50 (OS r)=4:=by simp[OS,P1,eR,dP]
def GL{op:Bool}{a b}:cS .eq (OS a) (OS b)\eL (a=b):=by erw[cS];rw[if_pos #[yS a,yS b],Aw]
def jW(a:↑5)(n):P1 (n+1) (.lst (a.map U.str))=4:=by simp[P1,dP]
def kR{a b:↑5}:cS .eq (.lst (a.map U.str)) (.lst (b.map U.str))\eL (a=b):=by erw[cS];rw[if_pos #[jW a 49,jW b 49]];erw[cC,jV]
def eW:cS .eq (.str a) (.str b)\eL (a=b):=by rfl
def sR(f:α->β)(a)(lo b):cut (a.map f) lo b=(cut a lo b).map f:=by simp[cut]
def GN(h:eF k (a.map U.str)=4):jP (k,.lst (a.map .str)) lo b\oL ((cut a lo b).map .str):=by erw[jP];rw[if_pos h,sR]
def jg(h:x∈cut a lo b):x∈a:=List.mem_of_mem_drop (VV h)
def Dr(h:-a<4000)(b:-bg a<64):uD .sset [(k,.lst (a.map .str))]\oL ((cF (bg a)).map .str):=by
 let e:h_ (.lst (a.map U.str))\bg a:=by change(strsOf _).bind _=_;rw[cU];change(if -a+1<WS then _ else _)=_;rw[if_pos (by change ⇑a+1<4096;lia)]
 change(h_ _).bind _=_;left
def Dt{l a:↑5}(h:∀x∈l,x∈a):-bg l<=-a:=kO (rO l) λx b=>h x ((gH l x).mp b)
def HH(d:Run (ev Γ a) st x c)(e:qa x.2 T\b):Run (O0 Γ (.UM a T)) st b c:=ae d (dC e)
def gq(h:-xs+ -ys<=ei)(a:eF k xs=4)(b:eF k' ys=4):Rr .add (k,.lst xs) (k',.lst ys)\oL (xs++ys):=by erw[Rr,BJ];rw[if_pos #[h,a,b]]
def cV(x y:5):(~~~(x++y))=(~~~x)++(~~~y):=by change(x.cps++y.cps).toList=_;simp
def str_len(x y:5):-(x++y)=-x+ -y:=by rw[len_list,len_list,len_list,cV,nc]
def dZ{x y:5}(h:(~~~x)=(~~~y)):x=y:=by let⟨a⟩:=x;left
def cZ(a:↑Row):↑5:=(a.map λr=>r.1::r.2).flatten
def lF(a:↑Row):↑5:=cF (bg (cZ a))
def u7(d)(y):cZ (d++[y])=cZ d++[y.1]++y.2:=by simp[cZ]
def pq:x∈cZ a↔∃r∈a,x=r.1\/x∈r.2:=by
 erw[cZ,ϑ,mn];constructor
 .rintro⟨l,⟨r,b,rfl⟩,c⟩;show#[r,b,gb.mp c]
 rintro⟨r,b,c⟩;show#[_,#[r,b,9],gb.mpr c]
def kS(h:∀r∈b,kQ a r):∀x∈cZ b,x∈a:=by
 intro x hx;let(r,c,hx):=pq.mp hx;obtain rfl|hx:=hx
 .show(h r c).word
 show(h r c).told x hx
def pv(h:∀r∈rows,-r.2<=0x8):-cZ rows<=0x9 * -rows:=by induction rows with|nil=>simp[cZ]|cons r rows a=>let c:=h r 7;let b:=a λs hs=>h s (by simp[hs]);erw[cZ,lx,Ė,nc,l0]at b ⊢;lia
def xm(h:∀r∈b,kQ a r):-lF b<=-a:=by change(cF _).length<=_;rw[gE];show Dt (kS h)
def Du:Fn:=#["words_of",1,3,[.set 1 (.lst []),.O_ df [2] .seq [J'] [.app 1 (.idx OW cO),.ext 1 (.idx OW cA)],.ret (.SU .sset [OM])]]
def kU(hl:-a<=120)(i:∀r∈a,kQ b r)(A:-b<64):aV Γ Du [tR a]\.ok (oL ((lF a).map .str)):=by
 let j:(4000:8)<=ei:=7
 let l:TM.start [tR a] 3=[b6 (.loc,tR a),ef,ef]:=by simp[TM.start,O6,cH]
 let c:=λr h=>(i r h).Qn;let(m,n,_,f,e):=gM (t:=df) (is:=[2]) (body:=execs Γ [.app 1 (.idx OW cO),.ext 1 (.idx OW cA)]) (rs:=[(.loc,tR a)]) (λr:Row=>(Kd.loc,OS r))
  (λd r st=>d++r=a/\∃f,st=[b6 (.loc,tR a),b6 (oL ((cZ d).map .str)),f]) (λ_ _ _ _=>ttt) (λd y r st o=>by
   let(g,f,e):=o;subst e;let p:y∈a:=by rw[<-g];simp
   let q:=pv (rows:=d) λs hs=>c s (by rw[<-g];simp[hs]);let v:-d<=120:=by grind
   let w:=c y p;show#[_,[b6 (.loc,tR a),b6 (oL ((cZ d).map .str++[.str y.1]++y.2.map .str)),b6 (.loc,OS y)],dF aY,?_,by rw[<-g];simp,b6 (.loc,OS y),?_]
   .show mE (k:=.own) (k':=.own)  9 (aI (x:=(.loc,OS y)) (af 9) ah ttt 9) aD 9 9 (by grind)
     (Dq (k:=.own) 9 (aI (x:=(.loc,OS y)) (af 9) ah ttt 9) 9 9 (GK 7 9) bj)
   rw[u7];simp) a [] _ ⟨9,ef,9⟩
 subst e;let z:(a.map OS).map (λu=>(kE .loc,u))=a.map λr=>(Kd.loc,OS r):=by rw[k9];rfl
 let B:=pv c;let v:=Dt (kS i);show aA 9 (.inl 9) l (aR (r:=(oL [])) (bQ ag ttt aF (mh _)) aS (iK  (aa (af 9) ag) ttt 9 9 (by rw[z];show n) (bx (yK (aa (aw 9) ag) ∅ (Dr 7 7)) kM)))
def GO(h:-a<1000):ix (.str x) u (.OT a b)\.OT (dput a b x u).1 (dput a b x u).2:=by
 let c:1000<=ei:=7
 change(if -a<ei then _ else _)=_
 grind
end TM
namespace Od
section
variable{W:Type}[DecidableEq W]{rows:List (W×List W)}{K:List W}{ps qs st Pa:List (W× 8)}
structure NS(rows:↑(W×↑W))(K:↑W)(ps:↑(W× 8)):6 where
 ok:∀x∈ps.map (·.1),x∉K/\x∈rows.map (·.1)
 once:(ps.map (·.1)).Nodup
def NS.take(x:NS rows K ps)(d:r∈rows)(f:r.1∉K)(g:r.1∉ps.map (·.1))(p):NS rows K (ps++[(r.1,p)]):=by
 show#[λy hy=>?_,?_]
 .rw[ro]at hy;obtain hy|hy:=my.mp hy
  .show x.ok y hy
  rw[mN.mp hy];show#[f,Wh d]
 rw[ro,C0];show#[x.once,by simp,λa h b c e=>g (by let c:b=r.1:=mN.mp c;rw[<-c,<-e];show h)]
def NS.perm(x:NS rows K ps)(h:qs.Perm ps):NS rows K qs:=#[λy a=>x.ok y ((h.map _).mem_iff.mp a),(h.map _).nodup_iff.mpr x.once]
structure LI(rows:↑(W×↑W))(Pa:↑(W× 8)):6 where
 nd:(Pa.map (·.1)).Nodup
 wd:∀x∈Pa.map (·.1),x∈rows.map (·.1)
def LI.step(x:LI rows Pa)(n:NS rows (Pa.map (·.1)) st):LI rows (Pa++st):=by
 show#[?_,λy c=>?_]
 .rw[ro,C0];show#[x.nd,n.once,λa d b f e=>(n.ok b f).1 (e▸d)]
 rw[ro]at c;show(my.mp c).elim (x.wd y) λc=>(n.ok y c).2
def HI{K L:↑W}(h:K.Nodup)(s:∀x∈K,x∈L):-K<=-L:=by
 induction K generalizing L with
 |nil=>simp|cons a K c =>
  let(d,f):=vl.mp h;let:=c  f λx b=>by let g:x≠a:=λe=>d (e▸b);show(Ž g).mpr (s x (by simp[b]))
  grind
def ba(ps:↑(W× 8))(w:W):↑8:=(ps.filter λp=>eL (p.1=w)).map (·.2)
def M0(a b)(w:W):ba (a++b) w=ba a w++ba b w:=by simp[ba]
end
end Od
namespace TM
open PySem L2 O1
def Dv(h:st[j]?\b6 (.own,u)):Run (lift (.bor j,a)) st u (st.set j (b6 (.loc,u))):=by change(match st[j]? with|some (b6 (.own,u))=>b6 _|_=>ef)=_;rw[h]
def M1(h:Run c st df a):Run (qb c b (n+1)) st .nx a:=ae h aK
def Oz(h:Run c st 4 b)(e:Run a b .nx d)(g:Run (qb c a n) d f i):Run (qb c a (n+1)) st f i:=ae h (ae e g)
def M3(h:Run (qb (O0 Γ c) (execs Γ a) fuel) st .nx b)(e:Run (execs Γ g) b f d):Run (execs Γ (.V1 c a::g)) st f d:=fF h e
def yT(hk:k=.loc\/k=.any):Run (fE 4 [i,j] (k,.tup [a,b])) st () ((st.set i (b6 (k,a))).set j (b6 (k,b))):=by obtain rfl|rfl:=hk<;>rfl
def Ku(h:Run (execs Γ b) (st.set i (b6 (.A',.OT [] []))) f a):Run (execs Γ (.newD i::b)) st f a:=fF (ae   9 aK) h
def sT(h:st[i]?\b6 (.A',.OT a b)):Run (kC i) st (a,b) st:=by change kC i st=_;unfold kC;rw[h]
def xn:Run (ia (k,.str y)) st y st:=9
def GP(d:st[i]?\b6 (.A',.OT a b))(e:y∉a)(f:-a<ei):Run (oy i y (oL c)) st () (st.set i (b6 (.A',.OT (a++[y]) (b++[.lst c])))):=by change oy i y _ st=_;unfold oy;left
def GQ(d:st[i]?\b6 (.A',.OT a b))(e:fg a b y\.lst c)(f:-c<ei):Run (oz i y u) st () (st.set i (b6 (.A',.OT a (mV a b y (.lst (c++[u])))))):=by change oz i y u st=_;unfold oz;left
def M4(c:Run (ev Γ a) st (k,.str y) b)(d:b[i]?\b6 (.A',.OT e f)):Run (O0 Γ (.inD neg a i)) st (Z7 neg y e) b :=ae c (ae xn (ae (sT d) aK))
def Kv(d:Run (ev Γ e) st (oL xs) a)(c:a[i]?\b6 (.A',.OT b g))(h:Run (ev Γ j) a (k,.str y) a)(l:y∉b)(m:-b<ei) (n:Run (execs Γ o) (a.set i (b6 (.A',.OT (b++[y]) (g++[.lst xs])))) f p):Run (execs Γ (.putD i j e::o)) st f p:=by show fF ?_ n;show ae d (ae (sT c) (ae h (ae xn (ae (GP c l m) aK))))
def Kw(b:st[i]?\b6 (.A',.OT a c))(e:Run (ev Γ g) st (k,.str y) st)(h:y∈a)(j:Run (ev Γ l) st r st)(m:Run (lift r) st u st)(n:fg a c y\.lst d)(o:-d<ei) (p:Run (execs Γ q) (st.set i (b6 (.A',.OT a (mV a c y (.lst (d++[u])))))) f s):Run (execs Γ (.Rf i g l::q)) st f s:=by show fF ?_ p;show ae (sT b) (ae e (ae xn (ae (sT b) ?_)));rw[if_pos h];show ae j (ae m (ae (GQ b n o) aK))
def M5(h:st[i]?\b6 (.A',.OT a b)):Run (ev Γ (.VY i)) st (.bor i,.OT a b) (st.set i (b6 (.own,.OT a b))):=by change BP i st=_;unfold BP;rw[h]
def Kx(c:st[i]?\b6 (.own,.OT d e))(f:Run (ev Γ a) st (k,.str y) st)(g:Run (ev Γ b) st z st)(h:Run (lift z) st u st)(j:(match fg d e y with|some v=>(Kd.loc,v)|none=>(.loc,u))=r):Run (ev Γ (.RG i a b)) st r st:=by show ae (iH c) (ae   9 (ae f (ae   9 (ae g (ae h (ae (iH c) (dC ?_)))))));subst j;rfl
def M6(b:st[i]?\b6 (oL us))(c:Run (ev Γ d) st (k1,.int (j:8)) st)(e:us[j]?\.int o)(g:Run (ev Γ h) st (k2,.int w) st) (k:Run (execs Γ l) (st.set i (b6 (oL (us.set j (.int (o - w)))))) f m):Run (execs Γ (.aug 4 i d h::l)) st f m:=by
 let hl:uE i st\(.ok us,st):=by unfold uE;rw[b];rfl
 let q:=(gr.mp e).1;let n:uF us j\o:=by unfold uF;left
 let p:SH ⇑us j\j:=by unfold SH;left
 show fF (ae   hl (ae c (ae   9 (ae   hl (ae (dC n) (ae g (ae   9 (ae (a:=())  ?_ aK)))))))) k;change modS i _ st=_;unfold modS;rw[b];erw[ix];rw[p];rfl
def M7(a:st[i]?\b6 (.own,u))(b:BM u\r):Run (ev Γ (.VZ i)) st r st:=ae (iH a) (dC b)
theorem pw(f)(y):∀a,fg a (a.map f) y=if y∈a then b6 (f y) else ef
 |[]=>9|k::a=>by
  change(if k=y then b6 _ else fg a _ y)=_;by_cases e:k=y
  .simp_all
  rw[if_neg e,pw f y a]
  grind
theorem u9(f)(y)(u):∀a,a.Nodup->mV a (a.map f) y u=a.map λk=>if k=y then u else f k
 |[],_=>9|k::a,h=>by
  let(b,c):=vl.mp h;rw[lx,lx];change(if k=y then u::a.map f else f k::mV a _ y u)=_;by_cases e:k=y
  .subst e;rw[if_pos rfl,if_pos rfl];congr 1
   show YH λz g=>?_;let d:z≠k:=λq=>b 7;left
  rw[if_neg e,if_neg e,u9 f y u a c]
def stN(s:5 × 8):U:=.tup [.str s.1,.int (s.2:8)]
theorem qL(f:α->Int):∀(b:↑α),intsOf (b.map λa=>U.int (f a))\b.map f|[]=>9|n::b=>by change(intsOf _).map _=_;rw[qL f b];rfl
def GR(h:-ps<64)(c:(ps.map (·.1)).Nodup):∃a:↑(5 × 8),a.Perm ps/\BM (.OT (ps.map (·.1)) (ps.map λp=>.int (p.2:8)))\oL (a.map stN):=by
 let d:=qL (λp:5 × 8=>((p.2:8):Int)) ps;let e:(ps.map (·.1)).zip (ps.map λp:5 × 8=>((p.2:8):Int))=ps.map λp=>(p.1,((p.2:8):Int)):=by rw[List.zip_map']
 show let P:=mR ((ps.map λp=>(p.1,((p.2:8):Int))).map (·.1));?_;let b:P.Perm (i9 ⇑ps):=by let:=iW ((ps.map λp=>(p.1,((p.2:8):Int))).map (·.1));simpa[P] using this
 show#[P.map λi=>ps.getD i (B',0),?_,?_]
 .show(b.map _).trans ?_;let:(i9 ⇑ps).map (λi=>ps.getD i (B',0))=ps:=by
   apply Wj
   .simp
   intro i k f;simp[Zu,f]
  rw[this]
 change(intsOf (ps.map λp=>U.int (p.2:8))).bind _=_;rw[d];change(if -ps.map (·.1)<64/\(ps.map (·.1)).Nodup/\-ps.map (·.1)=⇑(ps.map λp:5 × 8=>((p.2:8):Int)) then _ else _)=_;rw[if_pos #[by left,c,by simp],e];congr 3
 change(Fo _).map zP=_;change(P.map λi=>(ps.map λp=>(p.1,((p.2:8):Int))).getD i (B',0)).map zP=_;rw[k9,k9];show YH λi g=>?_;let j:i< -ps:=uk.mp (b.mem_iff.mp g);simp[Zu,j,zP,stN]
def Dw(h:eL (j<=i)=c):cS .ge (.int i) (.int j)\c:=by subst h;rfl
def qM:cS .OR (.str x) (.OT a b)\!eL (x∈a):=9
def u_{ss:↑5}:cS .isin (.str x) (.lst (ss.map U.str))\eL (x∈ss):=by let h:=@fq x ss;let e:cS .OR _ (.lst _)=(cS .isin (.str x) (.lst (ss.map U.str))).map _:=9;left
def Dx:cS .ne (.str a) (.str b)\!eL (a=b):=by rfl
def sU(a:↑Bool):QO .all [(k,.lst (a.map .bl))]\bL (a.all id):=by
 change(ox _).map _=_;let:∀a ,ox (a.map U.bl)\a:=λa=>by induction a with|nil=>rfl|cons b a c=>change(ox _).map _=_;rw[c];rfl
 rw[this];rfl
mutual
theorem qN:∀(n:8) (u:U),P1 n u=4->cC u u=4|_,.OP,_=>9|_,.bl b,_=>by simp[cC]|_,.int i,_=>by simp[cC]|_,.str x,_=>by simp[cC]|0,.tup a,h=>by simp[P1]at h|0,.lst a,h=>by simp[P1]at h|n+1,.tup a,h=>by rw[cC];show jX n a (by simpa[P1] using h)|n+1,.lst a,h=>by rw[cC];show jX n a (by simpa[P1] using h)|_,.OT _ _,h=>by simp[P1]at h
theorem jX:∀(n:8) (a:↑U),eR n a=4->c7 a a=4
 |_,[],_=>9|n,u::a,h=>by
  let b:P1 n u=4/\eR n a=4:=by simpa[eR] using h
  rw[c7,qN n u b.1,jX n a b.2];rfl
end
def qO(h:P1 50 u=4):cS .ne u u\df:=by erw[cS];rw[if_pos #[h,h],qN 50 u h];rfl
def yU(h:-a<1000)(b:x∉a):ix (.str x) u (.OT a c)\.OT (a++[x]) (c++[u]):=by rw[GO h];unfold dput;rw[if_neg b]
def gu(h:P1 50 (.lst us)=4):cS .ne (.lst us) (.lst [])\!us.isEmpty:=by erw[cS];rw[if_pos #[h,by rfl]];cases us with|nil=>simp[cC,c7]|cons u us=>rfl
theorem lG(f:α->Int):∀(l:↑α) (n:8),eR n (l.map λa=>U.int (f a))=4|[],n=>by rfl|a::l,n=>by rw[lx,eR,lG f l n];rfl
theorem vb:∀(a:↑(5 × 8)) n,eR (n+1) (a.map stN)=4|[],n=>by rfl|s::a,n=>by rw[lx,eR,vb a n];rfl
theorem pA{cond:M Bool}(h:aU src st)(a b g:α->U)(p:α->Bool):∀(d:↑α) (c:↑U),-c+ -d<=ei -> (∀y∈d,Run cond (b6 (.loc,a y)::b6 (.loc,b y)::st) (p y) (b6 (.loc,a y)::b6 (.loc,b y)::st)/\Run elt (b6 (.loc,a y)::b6 (.loc,b y)::st) (.loc,g y) (b6 (.loc,a y)::b6 (.loc,b y)::st)) -> Run (cz 2 4 cond elt src (d.map λy=>(lT [a y,b y])) c) st (c++(d.filter p).map g) st
 |[],c,_,_=>by rw[YF,ĸ,YF,P'];show uY h|y::d,c,hl,f=>by
  let(e,l):=f y 7;rw[l0]at hl;let j:Run (fE 4 (i9 2) (lT [a y,b y])) (pz 2 ef++st) () _:=yT (.inl 9);cases k:p y with
  |true=>rw[k]at e;show o_     h j e l aD 7 ?_;let:=pA h a b g p d (c++[g y]) 7 λz i=>f z (by simp[i]);left
  |false=>rw[k]at e;show wY   h j e ?_;let:=pA h a b g p d c 7 λz i=>f z (by simp[i]);left
def set_range(n:8)(f:8->α)(t:8)(v:α):((i9 n).map f).set t v=(i9 n).map λp=>if p=t then v else f p:=by
 apply Wj
 .simp
 intro i a b;erw[List.getElem_set,List.getElem_map,η]
 grind
def GS{a:↑Row}{t:8}(h:a[t]?\r):Px (a.map OS) (t:Int)\OS r:=bo (by simp[h])
def qP(h:-ss<4000):h_ (.lst (ss.map .str))\bg ss:=by change(strsOf _).bind _=_;rw[cU];change(if -ss+1<WS then _ else _)=_;rw[if_pos (by change ⇑ss+1<4096;lia)]
end TM
namespace KL
open PySem L2 TM
def dR:Fn:=#["gathered",1,0x4,[.newD 1,.O_ 4 [2,3] .seq [J'] [.ite (.inD 4 OW 1) [.putD 1 OW (.lst [])] [],.Rf 1 OW OX],.ret (.VY 1)]]
def bu:Fn:=#["places_that_tell",1,0x4,[.set 1 (.lst []),.O_ 4 [2,3] .UL [J'] [.ext 1 (.comp 1 df .seq [.idx OX cA] [] (.tup [J',OX]))],.ret (.call "gathered" [OM])]]
def dm:Fn:=#["new_steps",3,0x6,[.set 3 (.RF df),.O_ df [0x4] .seq [OM] [.set 0x5 (.idx (.idx J' P2) cO),.ite (.and [.cmp .OR PU OW,.cmp .OR PU OX]) [.put 3 PU P2] []],.ret (.VZ 3)]]
def bB:Fn:=#["steps_in_rounds",1,10,[.set 1 (.call "places_that_tell" [J']),.set 2 (.comp 1 df .seq [J'] [] (.bi .len [.idx J' cA])),.set 3 (.RF df),.set 0x4 (.lst []),.set 0x5 (.comp 2 4 .UL [OW] [.cmp .eq OM cO] J'),.V1 (.cmp .ne PU (.lst [])) [.set 0x6 (.call "new_steps" [J',PU,OX]),.set 0x5 (.lst []),.O_ 4 [0x7,0x8] .seq [.var 0x6] [.put 3 (.var 0x7) (.cst (.bl 4)),.O_ df [0x9] .seq [.RG 1 (.var 0x7) (.lst [])] [.aug 4 2 (.var 0x9) cA,.ite (.cmp .eq (.idx OW (.var 0x9)) cO) [.app 0x5 (.var 0x9)] []]],.ite (.cmp .ne (.var 0x6) (.lst [])) [.app 0x4 (.var 0x6)] []],.ret P2]]
def gO:Fn:=#["order",1,3,[.set 1 (.lst []),.O_ df [2] .seq [.call "steps_in_rounds" [J']] [.ext 1 OW],.ret OM]]
def iM:Fn:=#["learnt",1,1,[.ret (.bi .sorted [.comp 2 4 .seq [.call "order" [J']] [] J'])]]
end KL
namespace KL
open PySem L2 TM O1 Od
def eu(f:5->↑8)(k:5):U:=.lst ((f k).map λt:8=>U.int (t:8))
def lH(d)(y)(k:5):ba (d++[y]) k=if y.1=k then ba d k++[y.2] else ba d k:=by
 by_cases e:y.1=k
 .simp[ba,e]
 simp[ba,e]
def vc(d)(k:5):-ba d k<=-d:=by unfold ba;rw[f7];show ŷ _ _
def sV(hl:-f<=1000):∃c,(∀w,w∉c->ba f w=[])/\aV Γ dR [.lst (f.map stN)]\.ok (.own,.OT c (c.map (eu (ba f)))):=by
 let H:(2000:8)<=ei:=7
 let I:TM.start [.lst (f.map stN)] 0x4=[b6 (aL (f.map stN)),ef,ef,ef]:=9;show let S:=λ(c:↑Str) (J:↑U) (i j:Sl)=>([b6 (aL (f.map stN)),b6 (.A',.OT c J),i,j]:aq);?_
 show let m:↑TM.S:=[.ite (.inD 4 OW 1)
    [.putD 1 OW (.lst [])]
    [],
   .Rf 1 OW OX];?_
 let(L,N,x,c,i,j,e,l,hk,O):=gM (t:=4) (is:=[2,3]) (body:=execs Γ m) (rs:=[(aL (f.map stN))]) (λp:5 × 8=>(Kd.any,stN p))
  (λd r st=>d++r=f/\∃(c:↑5) (i j:Sl),st=S c (c.map (eu (ba d))) i j/\c.Nodup/\(∀w,w∉c->ba d w=[])/\-c<=-d) (λ_ _ _ _=>ttt) (λd y r st Q=>by
   let(x,c,i,j,e,l,hk,O):=Q;subst e;let Y:-d<1000:=by grind
   show let n:Sl:=b6 (.any,.str y.1);?_;show let o:Sl:=b6 (.any,.int (y.2:8));?_;let RY:=vc d y.1;let q:∀(c:↑5),c.Nodup->y.1∈c->Run (execs Γ [.Rf 1 OW OX]) (S c (c.map (eu (ba d))) n o) .nx (S c (c.map (eu (ba (d++[y])))) n o):=λc l g=>by
    let T:fg c (c.map (eu (ba d))) y.1\.lst ((ba d y.1).map λt:8=>U.int (t:8)):=by rw[pw,if_pos g];rfl
    let hs:mV c (c.map (eu (ba d))) y.1 (.lst ((ba d y.1).map (λt:8=>U.int (t:8))++[.int (y.2:8)]))=c.map (eu (ba (d++[y]))):=by
     rw[u9 _ _ _ _ l];show YH λk hk=>?_;unfold eu;rw[lH];by_cases e:y.1=k
     .simp_all
     rw[if_neg e,if_neg (sg e)]
    rw[<-hs];show Kw (k:=.any) (r:=(.any,.int (y.2:8))) 9 (av 9) g (av 9) (g8 9) T (by grind) bj
   let s:Run (O0 Γ (.inD 4 OW 1)) (S c (c.map (eu (ba d))) n o) (!eL (y.1∈c)) (S c (c.map (eu (ba d))) n o):=M4 (neg:=4) (k:=.any) (av 9) 9;let B:Run (fE 4 [2,3] (.any,stN y)) (S c (c.map (eu (ba d))) i j) () (S c (c.map (eu (ba d))) n o):=yT (.inr 9);by_cases g:y.1∈c
   .rw[decide_eq_true g]at s;show#[_,_,B,bz s (λh=>by ext h) λ_=>q c l g,by rw[<-x];simp,c,_,_,9,l,λw v=>?_,by simp;lia];let A:y.1≠w:=λz=>v (by rw[<-z];show g);rw[lH,if_neg A];show hk w v
   rw[decide_eq_false g]at s;let C:(c++[y.1]).Nodup:=by rw[C0];show#[l,by simp,λa ha b hb e=>?_];left
   let em:c.map (eu (ba d))++[.lst []]=(c++[y.1]).map (eu (ba d)):=by
    rw[ro];congr 1
    change _=[eu (ba d) y.1]
    unfold eu;rw[hk y.1 g];rfl
   let D:=q (c++[y.1]) C 7;rw[<-em]at D;show#[_,_,B,bz s (λ_=>Kv (k:=.any) (xs:=[]) (bQ ag ttt aF (mh _)) 9 (av 9) g 7 D) λh=>(by ext h),by rw[<-x];simp,c++[y.1],_,_,9,C,λw v=>?_,by simp;lia];let G:w∉c/\w≠y.1:=by exists v
   rw[lH,if_neg (sg G.2)];show hk w G.1) f [] (S [] [] ef ef) ⟨9,[],ef,ef,9,.nil,λ_ _=>9,gs _⟩
 subst e;rw[z8]at *;show#[c,hk,?_];let e:(f.map stN).map (λu=>(kE .any,u))=f.map λp=>(Kd.any,stN p):=by rw[k9];rfl
 show aA 9 (.inl 9) I (Ku (iK (rs:=[(aL (f.map stN))]) (st1:=S [] [] ef ef) (aa (av 9) ag) ttt 9 9 (by rw[e];show N) (bx (M5 9) (oZ 9))))
def HJ(Γ:Tab):6:=∀a:↑(5 × 8),-a<=1000->∃b:↑5,(∀w,w∉b->ba a w=[])/\Γ "gathered" [.lst (a.map stN)]\.ok (.own,.OT b (b.map (eu (ba a))))
structure Ym(n:8)(ks:↑5)(g:5->↑8):6 where
 no:∀w,w∉ks->g w=[]
 le:∀w,-g w<=1000
 lt:∀w,∀t∈g w,t<n
def jY(J:HJ Γ)(L:∀r∈a,-r.2<=0x8)(hr:-a<=120):∃l g,Ym ⇑a l g/\aV Γ bu [tR a]\.ok (.own,.OT l (l.map (eu g))):=by
 let N:(2000:8)<=ei:=7
 let O:TM.start [tR a] 0x4=[b6 (.loc,tR a),ef,ef,ef]:=by simp[TM.start,O6,cH]
 show let S:=λ(b:↑(Str×Nat)) (m n:Sl)=>([b6 (.loc,tR a),b6 (oL (b.map stN)),m,n]:aq);?_
 show let o:↑TM.S:=[.ext 1 (.comp 1 df .seq [.idx OX cA] [] (.tup [J',OX]))];?_
 let(Q,T,s,b,m,n,e,v,C):=gM (t:=4) (is:=[2,3]) (body:=execs Γ o) (rs:=[(.loc,tR a)]) (λp:Row× 8=>(lT [.int (p.2:8),OS p.1]))
  (λd r st=>d++r=a.zipIdx/\∃(b:↑(5 × 8)) (m n:Sl),st=S b m n/\(∀p∈b,p.2< -a)/\-b<=0x8 * -d) (λ_ _ _ _=>ttt) (λd y r st Y=>by
   let(s,b,m,n,e,v,C):=Y;subst e;let(q,i):=y;let D:(a.zipIdx)[-d]?\(q,i):=by rw[<-s];simp
   rw[ž,i0]at D;let(c,G,e):=D;let e1:c=q:=congrArg Prod.fst e;let H:0+ -d=i:=congrArg Prod.snd e;rw[Ġ]at H;subst e1 H;let Sa:-d<120:=by grind
   let ab:=L c (va G);show let f:Sl:=b6 (lI (-d:8));?_;show let j:Sl:=b6 (.loc,OS c);?_;let I:=dQ (cond:=aN Γ []) (elt:=ev Γ (.tup [J',OX])) (src:=[(lT (c.2.map .str))]) (st:=S b f j) ttt .loc (.inl 9) U.str (λx=>stN (x,-d)) .loc (λ_=>fm) c.2 [] 7
    (λy _=>#[eN (aa (af 9) (aa (af 9) ag)) ttt (ax aD (ax aD aF)) (by change 2<=ei;lia),aD])
   rw[z8]at I;let e:(c.2.map U.str).map (λu=>(kE .loc,u))=c.2.map λr=>(zS r):=by rw[k9];rfl
   let hc:Run (ev Γ (.comp 1 df .seq [.idx OX cA] [] (.tup [J',OX]))) (S b f j) _ (S b f j) :=bO (rs:=[(lT (c.2.map .str))]) (aa (aI (x:=(.loc,OS c)) (af 9) ah ttt 9) ag) ttt (by change b6 _=_;rw[e]) I
   let em:b.map stN++(c.2.map λx=>stN (x,-d))=(b++c.2.map λx=>(x,-d)).map stN:=7
   show#[S b f j,S (b++c.2.map λx=>(x,-d)) f j,yT (.inl 9),?_,by rw[<-s];simp,_,_,_,9,λp A=>?_,by simp;lia]
   .change Run _ _ _ [b6 (.loc,tR a),b6 _,f,j];rw[<-em];show Dq (k:=.own) (k':=.own) 9 hc 9 9 (yR (by rw[f7,f7];lia) 9) bj
   obtain z|z:=my.mp A
   .show v p z
   let(x,_,rfl):=mn.mp z;show(gr.mp G).1) a.zipIdx [] (S [] ef ef) ⟨9,[],ef,ef,9,λp h=>(nomatch h),by simp⟩
 subst e;rw[z8,List.length_zipIdx]at C;let B:QW .UL [(.loc,tR a)]\(a.zipIdx.map λp:Row× 8=>(lT [.int (p.2:8),OS p.1])):=by change b6 _=_;rw[List.zipIdx_map,k9];rfl
 let(l,k1,k2):=J b 7;show#[l,ba b,#[k1,λw=>by let:=vc b w;lia,λw t ht=>by let(p,h,rfl):=mn.mp ht;show v p (W4.mp h).1],?_]
 show aA 9 (.inl 9) O (aR (r:=(oL [])) (bQ ag ttt aF (mh _)) aS (iK (rs:=[(.loc,tR a)]) (st1:=S [] ef ef) (aa (af 9) ag) ttt B 9 T
  (bx (aM (aa (aw 9) ag) ∅ k2) kM)))
def qd{f:↑5}(G:∀r∈a,r.1∈f)(Yh:-f<64){R:↑8}(H:∀t∈R,t< -a):∃st,NS a g st/\aV Γ dm [tR a,.lst (R.map λt:8=>.int (t:8)),.OT g z]\.ok (oL (st.map stN)):=by
 let I:(2000:8)<=ei:=7
 let J:TM.start [tR a,.lst (R.map λt:8=>.int (t:8)),.OT g z] 0x6=[b6 (.loc,tR a),b6 (aL (R.map λt:8=>.int (t:8))),b6 (.any,.OT g z),ef,ef,ef]:=by simp[TM.start,O6,cH]
 show let S:=λ(b:↑(Str×Nat)) (n i:Sl)=>([b6 (.loc,tR a),b6 (aL (R.map λt:8=>.int (t:8))),b6 (.any,.OT g z),b6 (.own,.OT (b.map (·.1)) (b.map λp=>.int (p.2:8))),n,i]:aq);?_
 show let j:↑TM.S:=[.set 0x5 (.idx (.idx J' P2) cO),
   .ite (.and [.cmp .OR PU OW,.cmp .OR PU OX])
    [.put 3 PU P2]
    []];?_
 let C:∀{b:↑(5 × 8)},NS a g b->-b<=-f:=λ{b} x=>by
  let:=HI x.once (L:=f) λw N=>by let(r,o,q):=mn.mp (x.ok w N).2;rw[<-q];show G r o
  exists this
 let(O,Q,v,b,n,i,e,x):=gM (t:=df) (is:=[0x4]) (body:=execs Γ j) (rs:=[(aL (R.map λt:8=>.int (t:8)))]) (λt:8=>(Kd.any,U.int (t:8)))
  (λd r st=>d++r=R/\∃(b:↑(5 × 8)) (n i:Sl),st=S b n i/\NS a g b) (λ_ _ _ _=>ttt) (λd t r st T=>by
   let(v,b,n,i,e,x):=T;subst e;let Y:t< -a:=H t (by rw[<-v];simp);let A:a[t]?\a[t]:=by simp[Y]
   generalize a[t]=c at A;show let l:Sl:=b6 (.any,.int (t:8));?_;show let y:Sl:=b6 (zS c.1);?_;let P_:=C x;let s:Run (O0 Γ (.and [.cmp .OR PU OW,.cmp .OR PU OX])) (S b l y) (!eL (c.1∈g)&&!eL (c.1∈b.map (·.1))) (S b l y) :=mD (pk (aB (af 9) (av 9) ttt qM) λ_=>di (aB (af 9) (aw 9) ∅ qM))
   let m:∀{D:aq},Run (execs Γ [.ite (.and [.cmp .OR PU OW,.cmp .OR PU OX])
    [.put 3 PU P2]
    []]) (S b l y) .nx D->Run (execs Γ j) (S b l i) .nx D:=λh =>
    aR (r:=(zS c.1)) (aI (x:=(.loc,OS c)) (aI (af 9) (av 9) ttt (k_ (GS A))) ah ttt 9) aY h
   let B:Run (fE df [0x4] (.any,.int (t:8))) (S b n i) () (S b l i):=dF jB;by_cases o:c.1∈g
   .rw[decide_eq_true o]at s;show#[_,_,B,m (bz s (λh=>by ext h) λ_=>bj),by rw[<-v];simp,b,_,_,9,x]
   by_cases q:c.1∈b.map (·.1)
   .rw[decide_eq_false o,decide_eq_true q]at s;show#[_,_,B,m (bz s (λh=>by ext h) λ_=>bj),by rw[<-v];simp,b,_,_,9,x]
   rw[decide_eq_false o,decide_eq_false q]at s;show#[_,S (b++[(c.1,t)]) l y,B,m (bz s (λ_=>?_) λh=>by ext h),by rw[<-v];simp,_,_,_,9,x.take (va A) o q t];let e1:(b++[(c.1,t)]).map (·.1)=b.map (·.1)++[c.1]:=7
   let e2:((b++[(c.1,t)]).map λp=>U.int (p.2:8))=(b.map λp=>U.int (p.2:8))++[.int (t:8)]:=7
   change Run _ _ _ [b6 (.loc,tR a),b6 (aL (R.map λt:8=>.int (t:8))),b6 (.any,.OT g z),b6 (.own,.OT ((b++[(c.1,t)]).map (·.1)) ((b++[(c.1,t)]).map λp=>.int (p.2:8))),l,y];rw[e1,e2];show HF (k:=.own) (rv:=(.any,.int (t:8))) (rk:=(zS c.1)) (av 9) 9 (af 9) (ax (g8 9) (ax aD aF)) 9 9 (yU (by rw[f7];lia) q) bj) R [] (S [] ef ef) ⟨9,[],ef,ef,9,⟨λ_ h=>(nomatch h),.nil⟩⟩
 subst e;let P_:=C x;let(qs,q1,q2):=GR (ps:=b) 7 x.once;show#[qs,x.perm q1,?_];let e:(R.map λt:8=>U.int (t:8)).map (λu=>(kE .any,u))=R.map λt=>(Kd.any,U.int (t:8)):=by rw[k9];rfl
 show aA 9 (.inl 9) J (aR (r:=(.own,.OT [] [])) C9 aS (iK (rs:=[(aL (R.map λt:8=>.int (t:8)))]) (st1:=S [] ef ef) (aa (av 9) ag) ttt 9 9 (by rw[e];show Q) (bx (M7 9 q2) kM)))
def kW(n:8)(f:8->Int):↑U:=(i9 n).map λp=>U.int (f p)
def vd(R:↑8):↑U:=R.map λt:8=>U.int (t:8)
def Dy(h:t<n):(kW n f)[t]?\.int (f t):=by simp[kW,h]
def wS(a:↑Row)(b:↑5)(g:5->↑8)(m:8->Int)(K:↑5)(c:↑U)(d:Sl)(R:↑8)(e f h i:Sl):aq :=[b6 (.loc,tR a),b6 (.own,.OT b (b.map (eu g))),b6 (oL (kW ⇑a m)),b6 (.own,.OT K c),d,b6 (oL (vd R)),e,f,h,i]
def vf:↑TM.S:=[.aug 4 2 (.var 0x9) cA,.ite (.cmp .eq (.idx OW (.var 0x9)) cO) [.app 0x5 (.var 0x9)] []]
def vg{f R:↑8}(B:∀t∈f,t< -a)(C:∀t∈R,t< -a)(hl:-R+ -f<=150000)(D:∀st,aU src st):∃u b v,(∀t∈b,t< -a)/\-b<=-R+ -f /\ Run (forM df [0x9] (execs Γ vf) src (f.map λt:8=>(lI (t:8)))) (wS a ks g m K vs b4 R o6 o7 o8 o9) .nx (wS a ks g u K vs b4 b o6 o7 o8 v):=by
 let G:(200000:8)<=ei:=7
 let(H,I,o,u,b,v,e,q,J):=gM (t:=df) (is:=[0x9]) (body:=execs Γ vf) (rs:=src) (λt:8=>(lI (t:8)))
  (λd r st=>d++r=f/\∃(m:8->Int) (b:↑8) (o9:Sl),st=wS a ks g m K vs b4 b o6 o7 o8 o9/\(∀t∈b,t< -a)/\-b<=-R+ -d) (λ_ _ st _=>D st) (λd t r st L=>by
   let(o,m,b,o9,e,q,J):=L;subst e;let l:t< -a:=B t (by rw[<-o];simp);let O:-d< -f:=by grind
   show let i:Sl:=b6 (lI (t:8));?_;show let c:8->Int:=λp=>if p=t then m t - 1 else m p;?_
   let N:(kW ⇑a m).set t (.int (m t - 1))=kW ⇑a c:=by unfold kW;rw[set_range];show YH λp _=>?_;erw[c];split<;>rfl
   let s:Run (O0 Γ (.cmp .eq (.idx OW (.var 0x9)) cO)) (wS a ks g c K vs b4 b o6 o7 o8 i) (c t==0) (wS a ks g c K vs b4 b o6 o7 o8 i) :=aB (aI (x:=(.bor 2,.lst (kW ⇑a c))) (aw 9) (af 9) ∅ (aG (bo (Dy l)))) ah ttt (eI 9)
   let n:∀{y:aq},Run (execs Γ (vf.drop 1)) (wS a ks g c K vs b4 b o6 o7 o8 i) .nx y->Run (execs Γ vf) (wS a ks g m K vs b4 b o6 o7 o8 i) .nx y:=λh=>by show M6 (us:=kW ⇑a m) (k1:=.loc) (k2:=.loc) (j:=t) (w:=1) 9 (af 9) (Dy l) ah ?_;rw[N];show h
   cases z:c t==0 with|false=>rw[z]at s;show#[_,_,dF aY,n (bz s (λh=>by ext h) λ_=>bj),by rw[<-o];simp,c,b,i,9,q,by grind]|true=>rw[z]at s;show#[_,wS a ks g c K vs b4 (b++[t]) o6 o7 o8 i,dF aY,n (bz s (λ_=>?_) λh=>by ext h),by rw[<-o];simp,c,b++[t],i,9,λx A=>(my.mp A).elim (q x) λA=>by left,by grind];unfold wS;rw[show vd (b++[t])=vd b++[.int (t:Nat)] by simp[vd]];show mE (k:=.own) (k':=.own) (r:=(lI (t:8))) 9 (af 9) aD 9 9 (by unfold vd;grind) bj) f [] (wS a ks g m K vs b4 R o6 o7 o8 o9) ⟨9,m,R,o9,9,C,by simp⟩
 subst e;show#[u,b,v,q,by assumption,I]
def Dz:↑TM.S:=[.put 3 (.var 0x7) (.cst (.bl 4)),.O_ df [0x9] .seq [.RG 1 (.var 0x7) (.lst [])] vf]
def Ax(q:Ym ⇑a c g){st:↑(5 × 8)}(D:(b++st.map (·.1)).Nodup)(hl:-b+ -st<=120):∃i y R A B j, (∀t∈R,t< -a)/\-R<=1000 * -st/\Run (forM 4 [0x7,0x8] (execs Γ Dz) [(.bor 0x6,.lst (st.map stN))] (st.map λs=>(Kd.loc,stN s))) (wS a c g m b vs b4 [] (b6 (oL (st.map stN))) o7 o8 o9) .nx (wS a c g i (b++st.map (·.1)) y b4 R (b6 (oL (st.map stN))) A B j):=by
 show let l:Sl:=b6 (oL (st.map stN));?_;let(I,J,C,i,y,R,A,B,j,e,x,G):=gM (t:=4) (is:=[0x7,0x8]) (body:=execs Γ Dz) (rs:=[(.bor 0x6,.lst (st.map stN))]) (λs:5 × 8=>(Kd.loc,stN s))
  (λd r f=>d++r=st/\∃(m:8->Int) (vs:↑U) (R:↑8) (o7 o8 o9:Sl),f=wS a c g m (b++d.map (·.1)) vs b4 R l o7 o8 o9/\(∀t∈R,t< -a)/\-R<=1000 * -d) (λ_ _ f ⟨_,m,vs,R,o7,o8,o9,e,_⟩=>by subst e;show∅) (λd s r f L=>by
   let(C,m,vs,R,o7,o8,o9,e,x,G):=L;subst e;let(w,p):=s;let Sa:-d< -st:=by grind
   let N:w∉b++d.map (·.1):=λz=>by rw[<-C,ro,<-RA,C0]at D;show D.2.2 w z w 7 9
   show let n:Sl:=b6 (zS w);?_;show let o:Sl:=b6 (lI (p:8));?_;let O:=q.le w;let(i,H,j,Q,y2,T):=vg (Γ:=Γ) (ks:=c) (g:=g) (m:=m) (K:=b++d.map (·.1)++[w]) (vs:=vs++[.bl 4]) (b4:=b4) (o6:=l) (o7:=n) (o8:=o) (o9:=o9) (src:=[(.loc,eu g w)]) (q.lt w) x 7 (λ_=>ttt);let em:b++(d++[(w,p)]).map (·.1)=b++d.map (·.1)++[w]:=7
   let Y:-(b++d.map (·.1))<1000:=by grind
   let hg:(match fg c (c.map (eu g)) w with|some v=>(Kd.loc,v)|none=>(.loc,U.lst []))=(.loc,eu g w):=by
    rw[pw];by_cases h:w∈c
    .rw[if_pos h]
    rw[if_neg h];unfold eu;rw[q.no w h];rfl
   let e2:((g w).map λt:8=>U.int (t:8)).map (λu=>(kE .loc,u))=(g w).map λt=>(lI (t:8)):=by rw[k9];rfl
   show#[wS a c g m (b++d.map (·.1)) vs b4 R l n o o9,wS a c g i (b++d.map (·.1)++[w]) (vs++[.bl 4]) b4 H l n o j,yT (.inl 9),?_,by rw[<-C];simp,i,vs++[.bl 4],H,n,o,j,by rw[em],Q,by grind];show HF (k:=.own) (rv:=(bL 4)) (rk:=(zS w)) ah 9 (af 9) (ax aD (ax aD aF)) 9 9 (yU Y N) ?_;show iK (rs:=[(.loc,eu g w)]) (aa (Kx (k:=.loc) (z:=(oL [])) (u:=.lst []) 9 (af 9) (bQ ag ttt aF (mh _)) yL hg) ag) ttt (by change b6 (List.map (λu=>(kE .loc,u)) _)=_;rw[e2]) 9 T bj) st [] (wS a c g m b vs b4 [] l o7 o8 o9) ⟨9,m,vs,[],o7,o8,o9,by simp,λ_ h=>(nomatch h),by simp⟩
 subst e;show#[i,y,R,A,B,j,x,by simpa using G,by exists J]
def gv(PL:↑(↑(5 × 8))):↑U:=PL.map λl=>U.lst (l.map stN)
def DA:↑TM.S:=[.set 0x6 (.call "new_steps" [J',PU,OX]),.set 0x5 (.lst []),.O_ 4 [0x7,0x8] .seq [.var 0x6] Dz,.ite (.cmp .ne (.var 0x6) (.lst [])) [.app 0x4 (.var 0x6)] []]
def DB(Γ:Tab)(a:↑Row):6:=∀(R:↑8) (b:↑5) (c:↑U),(∀t∈R,t< -a)->∃st:↑(5 × 8),NS a b st/\Γ "new_steps" [tR a,.lst (vd R),.OT b c]\.ok (oL (st.map stN))
def LI.Qn{s:↑(5 × 8)}(x:LI a s):-s<=-a:=by let:=HI x.nd x.wd;left
theorem qQ(hr:-a<=120)(O:DB Γ a)(Q:Ym ⇑a d g):∀f b PL R m e p i j l, LI a b->(∀t∈R,t< -a)->PL.flatten=b->-PL<=-b->(-a - -b)+(if R=[] then 1 else 2)<=f -> ∃T c q,LI a T/\c.flatten=T/\-c<=120/\q[0x4]?\b6 (oL (gv c)) /\ Run (qb (O0 Γ (.cmp .ne PU (.lst []))) (execs Γ DA) f) (wS a d g m (b.map (·.1)) e (b6 (oL (gv PL))) R p i j l) .nx q
 |0,b,PL,R,m,e,p,i,j,l,_,_,_,_,h=>by split at h<;>lia|f+1,b,PL,R,m,e,p,i,j,l,x,J,Y,ab,h=>by
  let ac:(20000:8)<=ei:=7
  let P_:=LI.Qn x;let tc:Run (O0 Γ (.cmp .ne PU (.lst []))) (wS a d g m (b.map (·.1)) e (b6 (oL (gv PL))) R p i j l) (!(vd R).isEmpty) (wS a d g m (b.map (·.1)) e (b6 (oL (gv PL))) R p i j l) :=aB (aw 9) (bQ ag ttt aF (mh _)) ∅ (gu (by change eR 49 _=4;show lG (λt:8=>((t:8):Int)) R 49))
  cases R with
  |nil=>show#[b,PL,_,x,Y,7,9,M1 tc]
  |cons t0 R =>
   let(st,n,OQ):=O (t0::R) (b.map (·.1)) e J;let L:=x.step n;let em:(b++st).map (·.1)=b.map (·.1)++st.map (·.1):=ro;let O9:=L.nd;let v:=LI.Qn L;rw[em]at O9;rw[nc]at v;let(w,y,z,A,B,C,y1,y2,D):=Ax (Γ:=Γ) Q O9 (by rw[f7];lia) (m:=m) (vs:=e) (b4:=b6 (oL (gv PL))) (o7:=i) (o8:=j) (o9:=l);let G:Run (O0 Γ (.cmp .ne (.var 0x6) (.lst []))) (wS a d g w (b.map (·.1)++st.map (·.1)) y (b6 (oL (gv PL))) z (b6 (oL (st.map stN))) A B C) (!(st.map stN).isEmpty) (wS a d g w (b.map (·.1)++st.map (·.1)) y (b6 (oL (gv PL))) z (b6 (oL (st.map stN))) A B C) :=aB (aw 9) (bQ ag ttt aF (mh _)) ∅ (gu (by change eR 49 _=4;show vb st 48))
   obtain⟨c,o,f1,f2,hb⟩:∃(c:↑(↑(5 × 8))) (o:Sl),c.flatten=b++st/\-c<=-(b++st)/\Run (execs Γ (DA.drop 3)) (wS a d g w (b.map (·.1)++st.map (·.1)) y (b6 (oL (gv PL))) z (b6 (oL (st.map stN))) A B C) .nx (wS a d g w ((b++st).map (·.1)) y (b6 (oL (gv c))) z o A B C):=by
    rw[em];cases st with
    |nil=>show#[PL,_,by rw[Y,P'],by left,bz G (λh=>by ext h) λ_=>bj]
    |cons s st=>show#[PL++[s::st],b6 (.loc,.lst ((s::st).map stN)),by left,by simp;lia,bz G (λ_=>?_) λh=>by ext h];rw[show gv (PL++[s::st])=gv PL++[.lst ((s::st).map stN)] by simp[gv]];show mE (k:=.own) (k':=.own) (r:=(.bor 0x6,.lst ((s::st).map stN))) (u:=.lst ((s::st).map stN)) 9 (aw 9) (Dv 9) 9 9 (by unfold gv;rw[f7];lia) bj
   let e1:(st.map stN).map (λu=>(kE (.bor 0x6),u))=st.map λs=>(Kd.loc,stN s):=by rw[k9];rfl
   let hw:Run (execs Γ DA) (wS a d g m (b.map (·.1)) e (b6 (oL (gv PL))) (t0::R) p i j l) .nx _ :=
    aR (r:=(oL (st.map stN))) (aM (aa (af 9) (aa (aw 9) (aa (aw 9) ag))) #[#[.own,9,9],#[.own,9,9],ttt] OQ) aS (aR (r:=(oL [])) (bQ ag ttt aF (mh _)) aS
     (iK (rs:=[(.bor 0x6,.lst (st.map stN))]) (aa (aw 9) ag) ∅ (by change b6 (List.map (λu=>(kE (.bor 0x6),u)) _)=_;rw[e1]) 9 D hb))
   let(H,I,N,z1,z2,z3,z4,z5):=qQ hr O Q f (b++st) c z w y o A B C L y1 f1 f2 (by
    rw[if_neg (QC _ _)]at h;rw[nc];cases st with
    |nil=>left
    |cons s st=>grind)
   show#[H,I,N,z1,z2,z3,z4,Oz tc hw z5]
def HK(Γ:Tab)(a:↑Row):6:=∃(b:↑5) (g:5->↑8),Ym ⇑a b g/\Γ "places_that_tell" [tR a]\.ok (.own,.OT b (b.map (eu g)))
def jr(q:-a<=120)(s:HK Γ a)(v:DB Γ a):∃b PL,LI a b/\PL.flatten=b/\-PL<=120/\aV Γ bB [tR a]\.ok (oL (gv PL)):=by
 let w:(20000:8)<=ei:=7
 let(d,g,z,A):=s;let B:TM.start [tR a] 10=[b6 (.loc,tR a),ef,ef,ef,ef,ef,ef,ef,ef,ef]:=by simp[TM.start,O6,cH]
 show let m:8->Int:=λp=>(((a[p]?).getD default).2.length:8);?_
 show let f:Sl:=b6 (.loc,tR a);?_;show let j:Sl:=b6 (.own,.OT d (d.map (eu g)));?_;show let C:Sl:=b6 (oL (kW ⇑a m));?_;let k:=dQ (cond:=aN Γ []) (elt:=ev Γ (.bi .len [.idx J' cA])) (src:=[(.loc,tR a)]) (st:=[f,j,ef,ef,ef,ef,ef,ef,ef,ef]) ttt .loc (.inl 9) OS (λr=>.int (-r.2:8)) .loc (λ_=>fm) a [] 7
  (λy _=>#[bW (aa (aI (x:=(.loc,OS y)) (af 9) ah ttt 9) ag) ttt (by rw[kN,f7]),aD])
 let e:(a.map OS).map (λu=>(kE .loc,u))=a.map λr=>(Kd.loc,OS r):=by rw[k9];rfl
 let D:(a.map λr=>U.int (-r.2:8))=kW ⇑a m:=by
  unfold kW;apply Wj
  .simp
  intro i G H;let I:i< -a:=7
  simp[m,I]
 rw[z8,D]at k;show let l:=(i9 ⇑a).filter λp=>m p==0;?_;show let c:aq:=[f,j,C,b6 (.own,.OT [] []),b6 (oL []),ef,ef,ef,ef,ef];?_
 let n:=pA (st:=c) (cond:=aN Γ [.cmp .eq OM cO]) (elt:=ev Γ J') (src:=[(.bor 2,.lst (kW ⇑a m))]) ∅ (λp:8=>U.int (p:8)) (λp:8=>U.int (m p)) (λp:8=>U.int (p:8)) (λp=>m p==0) (i9 ⇑a) [] 7
  (λy _=>#[di (aB (af 9) ah ttt (eI 9)),af 9])
 rw[z8]at n;let J:((kW ⇑a m).zipIdx.map λp=>(kE (.bor 2),U.tup [.int p.2,p.1]))=(i9 ⇑a).map λp:8=>(lT [.int (p:8),.int (m p)]):=by
  unfold kW;apply Wj
  .simp
  intro i G H;simp[kE]
 let L:Run (ev Γ (.comp 2 4 .UL [OW] _ J')) c (oL (vd l)) c :=bO  (aa (aw 9) ag) ∅ (by change b6 _=_;rw[J]) n
 let(b,PL,N,z1,z2,O,o,Q):=qQ q v z fuel [] [] l m [] ef ef ef ef #[.nil,λ_ h=>(nomatch h)] (λt T=>uk.mp (W4.mp T).1) 9 (gs _) (by unfold fuel;split<;>simp<;>lia);show#[b,PL,z1,z2,O,?_];show aA 9 (.inl 9) B (aR  (aM (aa (af 9) ag) ttt A) aS (aR (bO  (aa (af 9) ag) ttt (by change b6 _=_;rw[e]) k) aS (aR (r:=(.own,.OT [] [])) C9 aS (aR (r:=(oL [])) (bQ ag ttt aF (mh _)) aS (aR L aS (M3 Q (bx (aw o) (oZ o))))))))
def Ay{PL}(hs:Γ "steps_in_rounds" [tR a]\.ok (oL (gv PL)))(f:PL.flatten=g)(hl:-g<=120):aV Γ gO [tR a]\.ok (oL (g.map stN)):=by
 let i:(20000:8)<=ei:=7
 let j:TM.start [tR a] 3=[b6 (.loc,tR a),ef,ef]:=by simp[TM.start,O6,cH]
 show let S:=λ(l:↑(Str×Nat)) (b:Sl)=>([b6 (.loc,tR a),b6 (oL (l.map stN)),b]:aq);?_
 let(m,n,c,b,e):=gM (t:=df) (is:=[2]) (body:=execs Γ [.ext 1 OW]) (rs:=[(oL (gv PL))]) (λl:↑(5 × 8)=>(Kd.loc,U.lst (l.map stN)))
  (λd r st=>d++r=PL/\∃b:Sl,st=S d.flatten b) (λ_ _ _ _=>ttt) (λd y r st o=>by
   let(c,b,e):=o;subst e;let p:-d.flatten+ -y<=120:=by let:=congrArg (λl:↑(↑(5 × 8))=>-l.flatten) c;erw[List.flatten_append,Ė,nc,f]at this;lia
   show#[S d.flatten (b6 (.loc,.lst (y.map stN))),S (d++[y]).flatten (b6 (.loc,.lst (y.map stN))),dF aY,?_,by rw[<-c];simp,_,9];let em:(d++[y]).flatten.map stN=d.flatten.map stN++y.map stN:=7
   change Run _ _ _ [b6 (.loc,tR a),b6 (oL ((d++[y]).flatten.map stN)),b6 (.loc,.lst (y.map stN))];rw[em];show Dq (k:=.own) (k':=.own) 9 (af 9) 9 9 (yR (by rw[f7,f7];lia) 9) bj) PL [] (S [] ef) ⟨9,ef,9⟩
 subst e;let e:(gv PL).map (λu=>(kE .own,u))=PL.map λl=>(Kd.loc,U.lst (l.map stN)):=by unfold gv;rw[k9];rfl
 let h:=aA (Γ:=Γ) (fn:=gO) 9 (.inl 9) j (aR (r:=(oL [])) (bQ ag ttt aF (mh _)) aS (iK (rs:=[(oL (gv PL))]) (st1:=S [] ef) (aa (aM (aa (af 9) ag) ttt hs) ag) ttt 9 9 (by rw[e];show n) (bx (aw 9) (oZ 9))));rw[z8,f]at h;show h
def xp(h:-a<64):QO .sorted [(k,.lst (a.map .str))]\oL ((cF a).map .str):=by change(strsOf _).bind _=_;rw[cU];left
def xq{b:↑(5 × 8)}(hl:-b<64)(ho:Γ "order" [tR a]\.ok (oL (b.map stN))):aV Γ iM [tR a]\.ok (oL ((cF (b.map (·.1))).map .str)):=by
 let d:20000<=ei:=7
 let f:TM.start [tR a] 1=[b6 (.loc,tR a)]:=by simp[TM.start,O6,cH]
 let c:=pA (st:=[b6 (.loc,tR a)]) (cond:=aN Γ []) (elt:=ev Γ J') (src:=[(oL (b.map stN))]) ttt _ (λs=>U.int s.2) (λs=>U.str s.1) _ b [] (by grind) (λy _=>#[fm,af 9]);rw[List.filter_eq_self.mpr (λ_ _=>rfl)]at c;let e:(b.map stN).map (λu=>(kE .own,u))=b.map λs=>(lT [.str s.1,.int (s.2:8)]):=by rw[k9];rfl
 let g:(b.map λs=>U.str s.1)=(b.map (·.1)).map U.str:=by rw[k9];rfl
 rw[g]at c;show aA 9 (.inl 9) f (bx (bW (aa (bO  (aa (aM (aa (af 9) ag) ttt ho) ag) ttt (by change b6 _=_;rw[e]) c) ag) ttt (xp 7)) kM)
structure Lrn(prog:↑Fn):6 where
 g:Qw prog "gathered" dR
 p:Qw prog "places_that_tell" bu
 n:Qw prog "new_steps" dm
 s:Qw prog "steps_in_rounds" bB
 o:Qw prog "order" gO
def GU(L:Lrn prog)(n)(i:∀r∈c,-r.2<=0x8)(j:-c<=60):∃d,LI c d/\-d<=60/\O2 prog (n+0x4) "order" [tR c]\.ok (oL (d.map stN)):=by
 let k:∀r∈c,r.1∈c.map (·.1):=λr h=>mn.mpr #[r,h,9];let y:-c.map (·.1)<=60:=7
 let l:HJ (O2 prog (n+1)):=λz hl=>by let(e,a,b):=sV  hl;show#[e,a,(cq L.g _).trans b]
 let m:HK (O2 prog (n+2)) c:=by let(e,g,a,b):=jY l i 7;show#[e,g,a,(cq L.p _).trans b]
 let q:DB (O2 prog (n+2)) c:=λR A B t=>by let(st,a,b):=qd  k 7 t;show#[st,a,(cq L.n _).trans b]
 let(d,PL,f,u,C,v):=jr 7 m q;let w:=(cq L.s _).trans v;let x:=pe (LI.Qn f) j;show#[d,f,x,(cq L.o _).trans (Ay w u 7)]
end KL
namespace TM
open PySem L2 O1
def M8(h:st[i]?\b6 (.A',.ob df u a)):Run (Vh i) st (u,a) st:=by change Vh i st=_;unfold Vh;rw[h]
def HL(h:st[i]?\b6 (.A',.ob df u c))(d:f u c\(a,b))(e:O6 a=4)(g:fB b=4):Run (T7 i f) st () (st.set i (b6 (.A',.ob df a b))):=by change T7 i f st=_;unfold T7;left
def jZ(h:st[i]?\b6 (.A',.ob df u a)):Run (ev Γ (.P0 i)) st (.loc,u) st:=ae (M8 h) aK
def DC(h:st[i]?\b6 (.A',.ob d u a)):Run (RW d i) st () st:=by change RW d i st=_;unfold RW;left
def sW(h:st[i]?\b6 (.A',.ob d u e))(g:XU b d\a)(m:Γ f (.ob a u e::c.map (·.2))\.ok (k,.tup [w,.ob a j l]))(n:r9 k w\p):Run (dA Γ f b i c) st p (st.set i (b6 (.A',.ob d j l))):=by
 change dA Γ f b i c st=_;unfold dA;rw[h]
 dsimp only
 rw[g];change(BO a _).map _=_;unfold BO;left
def DE:Run (V2 (.inl r)) st r st:=9
def Ky(c:st[i]?\b6 (.A',.ob d t e))(g:Run (bw Γ j) st b a)(l:aU b a)(h:a[i]?\b6 (.A',.ob d u n))(o:Γ f (.ob d u n::b.map (·.2))\.ok (k,.tup [w,.ob d q r]))(s:r9 k w\p):Run (PQ Γ (.mt d f m i j)) st p (a.set i (b6 (.A',.ob d q r))):=ae (DC c) (ae g (ae (bc l) (sW h 9 o s)))
def vh(c:st[i]?\b6 (.A',.ob d u0 us0))(e:Run (bw Γ es) st b a)(g:aU b a)(h:a[i]?\b6 (.A',.ob d u us))(j:Γ f (.ob d u us::b.map (·.2))\.ok (lT [w,.ob d k l])):Run (ev Γ (.RH d f m i es)) st (.loc,w) (a.set i (b6 (.A',.ob d k l))):=ae (Ky (m:=m) c e g h j 9) DE
def Kz(c:st[i]?\b6 (.A',.ob 4 p d))(e:Run (bw Γ g) st b a)(j:aU b a)(h:a[i]?\b6 (.A',.ob 4 u k))(l:Γ f (.ob 4 u k::b.map (·.2))\.ok (lT [w,.ob 4 n o])):Run (ev Γ (.QV f i g)) st (.loc,w) (a.set i (b6 (.A',.ob 4 n o))):=ae (Ky (m:="") c e j h l 9) DE
def M9(h:UP st a\b):Run (Vi a) st b st:=by change Vi a st=_;unfold Vi;left
def DF(a:UP st b\c)(h:st[i]?\b6 (.A',.ob 4 u d))(e:Γ f (.ob df u d::c.map (·.2))\.ok (k,.tup [w,.ob df g j]))(l:r9 k w\p):Run (PQ Γ (.Rc f m i b)) st p (st.set i (b6 (.A',.ob 4 g j))):=ae (M9 a) (sW h 9 e l)
def M_(a:UP st b\c)(h:st[i]?\b6 (.A',.ob 4 u d))(e:Γ f (.ob df u d::c.map (·.2))\.ok (lT [w,.ob df g j])):Run (ev Γ (.Rc f m i b)) st (.loc,w) (st.set i (b6 (.A',.ob 4 g j))):=ae (DF (m:=m) a h e 9) DE
def KA(h:Run (PQ Γ r) st (.inr c) a):Run (PQ Γ (.arg f r)) st (.inr c) a:=ae h aK
def Na(h:Run (PQ Γ r) st (.inl x) a)(c:aU [x] a)(d:Run (jx Γ f [x.2]) a y b):Run (PQ Γ (.arg f r)) st (.inl y) b:=ae h (ae (bc c) (ae d aK))
def lJ(h:Run (PQ Γ r) st (.inr c) a):Run (execs Γ (.Qa r::b)) st (.rt .io (.str c)) a:=uX (ae h aK)
def sX(h:Run (PQ Γ r) st (.inl x) a)(c:Run (retS x) a (.rt k u) b):Run (execs Γ (.Qa r::d)) st (.rt k u) b:=uX (ae h c)
def KC(h:Run (execs Γ b) (st.set i (b6 (.A',.ob 4 (.tup []) []))) f a):Run (execs Γ (.mX i::b)) st f a:=fF 9 h
def KG(g:Run (ev Γ e) st r b)(j:Run (lift r) b c a)(h:a[i]?\b6 (.A',.ob df u d))(k:O6 c=4)(l:fB d=4)(m:Run (execs Γ n) (a.set i (b6 (.A',.ob df c d))) f o):Run (execs Γ (.jm i e::n)) st f o :=fF (ae g (ae j (ae (HL h 9 k l) aK))) m
def KH(h:st[i]?\b6 (.A',.ob df u a))(hl:-a<ei)(b:O6 u=4)(c:fB (a++[u])=4)(d:Run (execs Γ e) (st.set i (b6 (.A',.ob df u (a++[u])))) f g):Run (execs Γ (.Sh i::e)) st f g :=fF (ae (HL h (by unfold Fp;left) b c) aK) d
def cu(g:-c=e.np)(hs:bV c e.ns=b)(h:Run (execs Γ a) b f (b6 (.A',.ob d u i)::st'))(j:UQ f\(k,w)):d8 Γ e a c\.ok (k,.tup [w,.ob d u i]):=by subst hs;unfold d8;rw[if_pos g,h];change(UQ f).bind _=_;rw[j];rfl
end TM
namespace K
open PySem L2 TM
def lK:Fn:=#["is_stem",1,1,[.ite (.or [.cmp .eq J' (cQ ""),.cmp .gt (.bi .len [J']) (.QN "LONGEST_STEM" (.int 0x8))]) [.ret (.cst (.bl df))] [],.ret (.bi .all [.comp 1 df .seq [J'] [] (.cmp .isin J' (.QN "LETTERS" (.str "abcdefghijklmnopqrstuvwxyz")))])]]
def dW:Fn:=#["is_later_sense",1,1,[.ret (.cmp .isin J' (.comp 1 df .Rb [.bin .add (.QN "FIRST_SENSE" (.int 1)) cA,.bin .add (.QN "LAST_SENSE" (.int 99)) cA] [] (.bi .str [J'])))]]
def lL:Fn:=#["is_word",1,1,[.ite (.cmp .OR (cQ "/") J') [.ret (.call "is_stem" [J'])] [],.ret (.and [.call "is_stem" [.call "stem_of" [J']],.call "is_later_sense" [.call "number_of" [J']]])]]
def lM:Fn:=#["stem_of",1,1,[.ret (.idx (.PY .partition J' [(cQ "/")]) cO)]]
def iN:Fn:=#["number_of",1,1,[.ret (.idx (.PY .partition J' [(cQ "/")]) (cI 2))]]
def pB:Fn:=#["is_row",1,2,[.set 1 (.idx J' cA),.ite (.or [.cmp .gt (.bi .len [OM]) (.QN "MOST_TOLD" (.int 0x8)),.cmp .lt (.SU .la [OM]) (.bi .len [OM])]) [.ret (.cst (.bl df))] [],.ret (.and [.call "is_word" [.idx J' cO],.bi .all [.comp 1 df .seq [OM] [] (.call "is_word" [J'])]])]]
def dH:Fn:=#["in_one_order",1,1,[.ret (.tup [.idx J' cO,.bi .tuple [.bi .sorted [.idx J' cA]]])]]
def nq:Fn:=#["alike",2,2,[.ret (.cmp .eq (.call "in_one_order" [J']) (.call "in_one_order" [OM]))]]
noncomputable abbrev pC:Fn:=TM.Du
noncomputable abbrev dR:Fn:=KL.dR
def cW:Fn:=#["refuse_unknown",2,2,[.ite (.cmp .gt (.V0 4 OM (.call "words_of" [J'])) cO) [.QG "Unknown" (cQ "the book has no such word")] []]]
noncomputable abbrev bu:Fn:=KL.bu
noncomputable abbrev dm:Fn:=KL.dm
noncomputable abbrev bB:Fn:=KL.bB
noncomputable abbrev gO:Fn:=KL.gO
noncomputable abbrev iM:Fn:=KL.iM
def dX:Fn:=#["read_row",1,2,[.set 1 (.PY .split J' [(cQ " ")]),.ite (.or [.cmp .lt (.bi .len [OM]) (cI 3),.not (.call "is_word" [.idx OM cO]),.cmp .ne (.idx OM cA) (cQ "=")]) [.QG "NoText" (cQ "a row begins with a word and =, and tells something")] [],.Qa (.tup (.idx OM cO) (.call "read_told" [.Pf OM [(cI 2)] []]))]]
def iO:Fn:=#["read_told",1,1,[.ite (.cmp .eq J' (.lst [.QN "PICTURE_SIGN" (.str "*")])) [.ret (.tup [])] [],.ite (.not (.bi .all [.comp 1 df .seq [J'] [] (.call "is_word" [J'])])) [.QG "NoText" (cQ "a row tells words, or * alone")] [],.ret (.bi .tuple [J'])]]
def ft:Fn:=#["places_alike",2,2,[.ret (.comp 2 4 .UL [J'] [.call "alike" [OM,OX]] J')]]
def dI:Fn:=#["gained_and_lost",2,0x6,[.set 2 (.call "learnt" [J']),.set 3 (.call "learnt" [OM]),.set 0x4 (.comp 1 df .seq [OX] [.cmp .OR J' OX] J'),.set 0x5 (.comp 1 df .seq [OW] [.cmp .OR J' P2] J'),.ret (.tup [P2,PU])]]
def mH:Fn:=#["Shelf.__init__",1,1,[.bad,.bad]]
def jh:Fn:=#["Shelf.book",1,1,[.Sg,.ret (.P0 0)]]
def eB:Fn:=#["Shelf.put",3,0x4,[.Sg,.set 3 (.tup [OM,.bi .tuple [OW]]),.ite (.or [.not (.call "is_row" [OX]),.cmp .ne (.call "places_alike" [.P0 0,OX]) (.lst [])]) [.QG "Unfit" (cQ "this is no row, or one alike to it stands there")] [],.ite (.cmp .ge (.bi .len [.P0 0]) (.QN "MOST_ROWS" (.int 60))) [.QG "TooMany" (cQ "no more rows can be put in")] [],.ret (.RH df "Shelf.do_deed" "do_deed" 0 [.bin .add (.P0 0) (.tup [OX])])]]
def ji:Fn:=#["Shelf.take",3,0x4,[.Sg,.set 3 (.call "places_alike" [.P0 0,.tup [OM,.bi .tuple [OW]]]),.ite (.cmp .eq OX (.lst [])) [.QG "NoRow" (cQ "no row alike to this one stands there")] [],.ret (.RH df "Shelf.do_deed" "do_deed" 0 [.bin .add (.Pf (.P0 0) [] [.idx OX cO]) (.Pf (.P0 0) [.bin .add (.idx OX cO) cA] [])])]]
def eX:Fn:=#["Shelf.do_deed",2,2,[.Sg,.Sh 0,.ret (.RH df "Shelf.turn_to" "turn_to" 0 [OM])]]
def eY:Fn:=#["Shelf.turn_to",2,3,[.Sg,.set 2 (.call "gained_and_lost" [.P0 0,OM]),.jm 0 OM,.ret OW]]
def sY:Fn:=#["shown",1,1,[.ret (.PY .join (cQ "\n") [.comp 1 df .seq [J'] [] (.bin .add (.bin .add (.idx J' cO) (cQ " = ")) (.call "shown_told" [.idx J' cA]))])]]
def gP:Fn:=#["shown_told",1,1,[.ite (.cmp .eq J' (.tup [])) [.ret (.QN "PICTURE_SIGN" (.str "*"))] [],.ret (.PY .join (cQ " ") [J'])]]
def pD:Fn:=#["listed",1,1,[.ite (.cmp .eq J' (.lst [])) [.ret (cQ "-")] [],.ret (.PY .join (cQ " ") [J'])]]
def eJ:Fn:=#["shown_changes",1,1,[.ret (.PY .join (cQ " ") [.bin .add (.bin .add (.bin .add (.lst [(cQ "+")]) (.idx J' cO)) (.lst [(cQ "-")])) (.idx J' cA)])]]
def cv:Fn:=#["answer_about",3,3,[.ite (.or [.cmp .OR OM (.QN "WORD_QUESTIONS" (.tup [.str "round",.str "price",.str "read",.str "under",.str "over",.str "musts",.str "why"])),.not (.call "is_word" [OW])]) [.QG "NoText" (cQ "this is nothing that a desk is told")] [],.Si (.call "refuse_unknown" [J',.lst [OW]]),.ite (.cmp .eq OM (cQ "round")) [.bad] [],.ite (.cmp .eq OM (cQ "price")) [.bad] [],.ite (.cmp .eq OM (cQ "read")) [.bad] [],.ite (.cmp .eq OM (cQ "under")) [.bad] [],.ite (.cmp .eq OM (cQ "over")) [.bad] [],.ite (.cmp .eq OM (cQ "musts")) [.bad] [],.bad]]
def a9:Fn:=#["answer_at_large",2,2,[.ite (.cmp .eq OM (cQ "learnt")) [.ret (.call "listed" [.call "learnt" [J']])] [],.ite (.cmp .eq OM (cQ "lacks")) [.bad] [],.ite (.cmp .eq OM (cQ "need")) [.bad] [],.Tt 1 "book" (.call "shown" [J']) "\n" ";",.QG "NoText" (cQ "this is nothing that a desk is told")]]
def mI:Fn:=#["Desk.__init__",1,1,[.bad]]
def bh:Fn:=#["Desk.say",2,3,[.Sg,.ite (.or [.not (.UM OM .str),.cmp .isin (cQ "\n") OM]) [.QG "NoText" (cQ "a desk is told texts without line feeds")] [],.ite (.cmp .eq OM (cQ "back")) [.bad] [],.set 2 (.PY .partition OM [(cQ " ")]),.ite (.cmp .eq (.idx OW cA) (cQ "")) [.Qa (.call "answer_at_large" [.Rc "Shelf.book" "book" 0 [],OM])] [],.ite (.or [.cmp .eq (.idx OW cO) (cQ "put"),.cmp .eq (.idx OW cO) (cQ "take")]) [.Qa (.UN 4 "Desk.say_deed" "say_deed" 0 ((.idx OW cO)) (.call "read_row" [.idx OW (cI 2)]))] [],.Qa (.call "answer_about" [.Rc "Shelf.book" "book" 0 [],.idx OW cO,.idx OW (cI 2)])]]
def d5:Fn:=#["Desk.say_deed",3,3,[.Sg,.ite (.cmp .eq OM (cQ "put")) [.Qa (.arg "shown_changes" (.Rc "Shelf.put" "put" 0 [(2,0),(2,1)]))] [],.Qa (.arg "shown_changes" (.Rc "Shelf.take" "take" 0 [(2,0),(2,1)]))]]
noncomputable abbrev qR:Fn:=TM.Ap
noncomputable abbrev pE:Fn:=TM.yQ
noncomputable abbrev mJ:Fn:=TM.sL
def pF:Fn:=#["_law_name",2,0x6,[.set 2 (cQ "abcdefghijklmnopqrstuvwxyz"),.set 3 (.PY .join (cQ "") [.comp 1 df .Pt [.bin .add cA (.bin .mod (.idx J' cO) (cI 0x8))] [] (.idx OX (.bin .mod (.idx OM (.bin .add (cI 0x4) J')) (cI 26)))]),.ite (.cmp .gt (.bi .len [OM]) cO) [.set 0x4 (.idx (.PY .split (.idx OM (.bin .mod (.idx J' cA) (.bi .len [OM]))) [(cQ "/")]) cO),.ite (.cmp .eq (.bin .mod (.idx J' (cI 2)) (cI 0x4)) cA) [.set 3 (.Pf (.bin .add P2 OX) [] [(cI 0x8)])] [],.ite (.cmp .eq (.bin .mod (.idx J' (cI 2)) (cI 0x4)) (cI 2)) [.set 3 (.bin .add (.bin .add P2 (cQ "/")) (.bi .str [.bin .add (cI 2) (.bin .mod (.idx J' (cI 3)) (cI 98))]))] []] [],.set 0x5 (.bin .add (.lst [OX]) (.comp 1 df .Pt [(cI 40)] [] (.bin .add (.idx OX (.bin .Rq J' (cI 26))) (.idx OX (.bin .mod J' (cI 26)))))),.ret (.idx (.comp 1 df .seq [PU] [.cmp .OR J' OW] J') cO)]]
noncomputable abbrev mK:Fn:=TM.fNames
noncomputable abbrev pG:Fn:=TM.mG
def gQ:Fn:=#["_law_stands",2,2,[.ret (.cmp .ne (.comp 1 df .seq [J'] [.and [.cmp .eq (.idx J' cO) (.idx OW cO),.cmp .eq (.bi .sorted [.idx J' cA]) (.bi .sorted [.idx OW cA])]] J') (.lst []))]]
def gR:Fn:=#["_law_made",3,0x7,[.set 3 (.lst []),.O_ df [0x4] .Pt [.bin .mod (.idx OM cA) (cI 13)] [.set 0x5 (.call "_law_drawn" [.call "_law_cell" [J',.bin .add (cI 10) P2],(cI 11)]),.set 0x6 (.tup [.idx OW (.bin .mod (.idx PU cO) (.bi .len [OW])),.call "_law_told" [PU,OW]]),.ite (.not (.call "_law_stands" [OX,.var 0x6])) [.app 3 (.var 0x6)] []],.ite (.cmp .eq (.bin .mod (.idx OM (cI 2)) (cI 0x6)) cA) [.O_ df [0x4] .Pt [(cI 72)] [.set 0x6 (.tup [.bin .add (cQ "full/") (.bi .str [.bin .add (cI 2) (.bin .mod P2 (cI 0x9))]),.tup [.idx (cQ "abcdefgh") (.bin .Rq P2 (cI 0x9)),(cQ "x")]]),.ite (.and [.cmp .lt (.bi .len [OX]) (cI 60),.not (.call "_law_stands" [OX,.var 0x6])]) [.app 3 (.var 0x6)] []]] [],.ret OX]]
def fN:Fn:=#["_law_is_word",1,2,[.set 1 (.PY .split J' [(cQ "/")]),.ite (.or [.cmp .lt (.bi .len [.idx OM cO]) cA,.cmp .gt (.bi .len [.idx OM cO]) (cI 0x8),.cmp .gt (.bi .len [OM]) (cI 2)]) [.ret (.cst (.bl df))] [],.ite (.cmp .ne (.comp 1 df .seq [.idx OM cO] [.cmp .OR J' (cQ "abcdefghijklmnopqrstuvwxyz")] J') (.lst [])) [.ret (.cst (.bl df))] [],.ret (.or [.cmp .eq (.bi .len [OM]) cA,.cmp .isin (.idx OM cA) (.comp 1 df .Rb [(cI 2),(cI 100)] [] (.bi .str [J']))])]]
def gS:Fn:=#["_law_row_of",1,1,[.ite (.or [.cmp .lt (.bi .len [J']) (cI 3),.cmp .ne (.idx J' cA) (cQ "="),.not (.call "_law_is_word" [.idx J' cO])]) [.ret (.cst .OP)] [],.ite (.cmp .eq (.Pf J' [(cI 2)] []) (.lst [(cQ "*")])) [.ret (.tup [.idx J' cO,.tup []])] [],.ite (.cmp .ne (.comp 1 df .seq [.Pf J' [(cI 2)] []] [.not (.call "_law_is_word" [J'])] J') (.lst [])) [.ret (.cst .OP)] [],.ret (.tup [.idx J' cO,.bi .tuple [.Pf J' [(cI 2)] []]])]]
def bC:Fn:=#["_law_due",2,0x5,[.set 2 (.PY .split J' [(cQ " ")]),.ite (.cmp .isin (cQ "\n") J') [.ret cO] [],.ite (.or [.cmp .eq (.idx OW cO) (cQ "put"),.cmp .eq (.idx OW cO) (cQ "take")]) [.set 3 (.call "_law_row_of" [.Pf OW [cA] []]),.ite (.cmp .is OX (.cst .OP)) [.ret cO] [],.ite (.cmp .eq (.idx OW cO) (cQ "take")) [.ret (.idx (.lst [(cI 0x4),.cst .OP]) (.bi .int [.call "_law_stands" [OM,OX]]))] [],.ite (.or [.cmp .gt (.bi .len [.idx OX cA]) (cI 0x8),.cmp .lt (.SU .la [.idx OX cA]) (.bi .len [.idx OX cA]),.call "_law_stands" [OM,OX]]) [.ret (cI 2)] [],.ret (.idx (.lst [.cst .OP,(cI 3)]) (.bi .int [.cmp .ge (.bi .len [OM]) (cI 60)]))] [],.ite (.cmp .isin J' (.lst [(cQ "back"),(cQ "learnt"),(cQ "lacks"),(cQ "need"),(cQ "book")])) [.ret (.cst .OP)] [],.ite (.or [.cmp .OR (.idx OW cO) (.lst [(cQ "round"),(cQ "price"),(cQ "read"),(cQ "under"),(cQ "over"),(cQ "musts"),(cQ "why")]),.cmp .ne (.bi .len [OW]) (cI 2)]) [.ret cO] [],.ite (.not (.call "_law_is_word" [.idx OW cA])) [.ret cO] [],.set 0x4 (.comp 1 df .seq [OM] [] (.idx J' cO)),.O_ df [3] .seq [OM] [.set 0x4 (.bin .add P2 (.bi .list [.idx OX cA]))],.ret (.idx (.lst [cA,.cst .OP]) (.bi .int [.cmp .isin (.idx OW cA) P2]))]]
def lN:Fn:=#["_law_odd",1,2,[.set 1 (.lst [(cQ ""),(cQ " "),(cQ "Learnt"),(cQ "learnt "),(cQ " learnt"),(cQ "learn"),(cQ "lack"),(cQ "needs"),(cQ "books"),(cQ "back a"),(cQ "book a"),(cQ "need a")]),.set 1 (.bin .add OM (.lst [(cQ "round"),(cQ "price"),(cQ "read"),(cQ "under"),(cQ "over"),(cQ "musts"),(cQ "why"),(cQ "why "),(cQ "why A"),(cQ "why a/1"),(cQ "why a/02")])),.set 1 (.bin .add OM (.lst [(cQ "why abcdefghi"),(cQ "why a b"),(cQ "put"),(cQ "take"),(cQ "put "),(cQ "put a"),(cQ "put a ="),(cQ "put a = "),(cQ "put a = * b")])),.set 1 (.bin .add OM (.lst [(cQ "put a = b *"),(cQ "put a  = b"),(cQ "put a == b"),(cQ "put A = b"),(cQ "put a = b/1"),(cQ "take a = B"),(cQ "take = a")])),.set 1 (.bin .add OM (.lst [(cQ "a = b"),(cQ "put a = *\nput b = *"),(cQ "learnt\n"),(cQ "-"),(cQ "+ -")])),.ret (.idx OM (.bin .mod J' (cI 44)))]]
def fu:Fn:=#["_law_bent",3,14,[.set 3 (.idx OW (.bin .mod (.idx J' cO) (.bi .len [OW]))),.set 0x4 (.lst [(cQ "learnt"),(cQ "lacks"),(cQ "need"),(cQ "book"),(cQ "back"),.bin .add (cQ "round ") OX,.bin .add (cQ "why ") OX,.bin .add (cQ "musts ") OX]),.O_ df [0x5] .seq [.Pf OM [] [(cI 0x6)]] [.app 0x4 (.bin .add (cQ "put ") (.PY .join (cQ " ") [.bin .add (.lst [.idx PU cO,(cQ "=")]) (.bin .add (.bi .list [.idx PU cA]) (.Pf (.lst [(cQ "*")]) [] [.bi .int [.cmp .eq (.idx PU cA) (.tup [])]]))])),.app 0x4 (.bin .add (cQ "take ") (.PY .join (cQ " ") [.bin .add (.lst [.idx PU cO,(cQ "=")]) (.bin .add (.bi .list [.idx PU cA]) (.Pf (.lst [(cQ "*")]) [] [.bi .int [.cmp .eq (.idx PU cA) (.tup [])]]))]))],.set 0x6 (.idx P2 (.bin .mod (.idx J' cA) (.bi .len [P2]))),.set 0x7 (cQ "abcdefghijklmnopqrstuvwxyz/ =*0123456789-"),.ite (.cmp .eq (.bin .mod (.idx J' (cI 2)) (cI 0x4)) cO) [.set 0x7 (cQ " !\"#$&'()*+,-./0123456789:;<=>?@ABCDEFGHIJKLMNOPQRSTUVWXYZ[\\]^_abcdefghijklmnopqrstuvwxyz{|}~\n")] [],.set 0x8 (.bin .mod (.idx J' (cI 3)) (.bin .add (.bi .len [.var 0x6]) cA)),.set 0x9 (.idx (.var 0x7) (.bin .mod (.idx J' (cI 0x4)) (.bi .len [.var 0x7]))),.set 10 (.PY .split (.var 0x6) [(cQ " ")]),.set 11 (.bin .mod (.idx J' (cI 3)) (.bi .len [.var 10])),.set 12 (.lst [.bin .add (.bin .add (.Pf (.var 0x6) [] [.var 0x8]) (.var 0x9)) (.Pf (.var 0x6) [.var 0x8] [])]),.app 12 (.bin .add (.Pf (.var 0x6) [] [.var 0x8]) (.Pf (.var 0x6) [.bin .add (.var 0x8) cA] [])),.app 12 (.bin .add (.bin .add (.Pf (.var 0x6) [] [.var 0x8]) (.var 0x9)) (.Pf (.var 0x6) [.bin .add (.var 0x8) cA] [])),.app 12 (.PY .join (cQ " ") [.bin .add (.bin .add (.Pf (.var 10) [] [.var 11]) (.lst [OX])) (.Pf (.var 10) [.var 11] [])]),.set 13 (.bin .add (.Pf (.var 10) [] [.bin .add (.var 11) cA]) (.Pf (.var 10) [.var 11] [])),.app 12 (.PY .join (cQ " ") [.var 13]),.ret (.idx (.var 12) (.bin .mod (.idx J' (cI 0x5)) (cI 0x5)))]]
def eD:Fn:=#["_law_tries",3,10,[.set 3 (.comp 1 df .seq [.comp 1 df .Rb [(cI 2),(cI 20)] [] (.bin .add (cQ "spare/") (.bi .str [J']))] [.cmp .OR J' OX] J'),.set 0x4 (.lst [.call "_law_bent" [.Pf J' [cA] [(cI 0x7)],OM,OW],.call "_law_bent" [.Pf J' [(cI 0x7)] [(cI 13)],OM,OW]]),.app 0x4 (.call "_law_odd" [.idx J' cO]),.set 0x5 (.lst [(cQ "round"),(cQ "price"),(cQ "read"),(cQ "under"),(cQ "over"),(cQ "musts"),(cQ "why")]),.app 0x4 (.bin .add (.bin .add (.idx PU (.bin .mod (.idx J' (cI 13)) (cI 0x7))) (cQ " ")) (.idx OX cO)),.app 0x4 (.bin .add (.bin .add (.bin .add (cQ "take ") (.idx OW cO)) (cQ " = ")) (.idx OX cA)),.app 0x4 (.bin .add (.bin .add (.bin .add (.bin .add (.bin .add (cQ "take ") (.idx OW cO)) (cQ " = ")) (.idx OW cO)) (cQ " ")) (.idx OW cO)),.app 0x4 (.bin .add (.bin .add (cQ "put ") (.idx OX (cI 2))) (cQ " = a b c d e f g h i")),.app 0x4 (.bin .add (.bin .add (.bin .add (.bin .add (.bin .add (cQ "put ") (.idx OX (cI 0x4))) (cQ " = *\n")) (.idx OX (cI 0x5))) (cQ " = ")) (.idx OX (cI 0x4))),.O_ 4 [0x6,0x7] .seq [.Pf (.Pf OM [.bin .mod (.idx J' (cI 12)) (.bi .max [cA,.bi .len [OM]])] []) [] [cA]] [.set 0x8 (.bin .add (cQ "take ") (.PY .join (cQ " ") [.bin .add (.lst [.var 0x6,(cQ "=")]) (.bin .add (.bi .list [.var 0x7]) (.Pf (.lst [(cQ "*")]) [] [.bi .int [.cmp .eq (.var 0x7) (.tup [])]]))])),.app 0x4 (.bin .add (.bin .add (.bin .add (.var 0x8) (cQ "\n")) (.idx OX (cI 0x4))) (cQ " = *"))],.O_ 4 [0x6,0x7] .seq [.Pf (.Pf OM [.bin .mod (.idx J' (cI 14)) (.bi .max [cA,.bi .len [OM]])] []) [] [cA]] [.app 0x4 (.bin .add (cQ "put ") (.PY .join (cQ " ") [.bin .add (.lst [.var 0x6,(cQ "=")]) (.bin .add (.SU .Ra [.var 0x7]) (.Pf (.lst [(cQ "*")]) [] [.bi .int [.cmp .eq (.var 0x7) (.tup [])]]))]))],.ite (.cmp .eq (.bi .len [OM]) (cI 60)) [.app 0x4 (.bin .add (.bin .add (cQ "put ") (.idx OX (cI 3))) (cQ " = *"))] [],.set 0x9 (.bin .mod (.idx J' (cI 15)) (.bi .len [P2])),.ret (.bin .add (.Pf P2 [.var 0x9] []) (.Pf P2 [] [.var 0x9]))]]
def d6:Fn:=#["_law_refused",2,0x4,[.Sg,.set 2 (.lst []),.T6 (.mt 4 "Desk.say" "say" 0 [OM]) "PrimerError" [("NoRow",[df,df,df,df,4,df,4]),("NoText",[4,df,df,df,df,df,4]),("TooMany",[df,df,df,4,df,df,4]),("Unfit",[df,df,4,df,df,df,4]),("Unknown",[df,4,df,df,df,df,4])] 3 2 [[["NoText"],["Unknown"],["Unfit"]],[["TooMany"],["NoRow"]],[["Lacking","NoDeed","Unlearnt"],["ValueError"]]],.ret OW]]
def eM:Fn:=#["_law_own_words",2,3,[.set 2 (.lst [(cQ "back"),(cQ "book"),(cQ "need"),(cQ "by"),(cQ "knot"),(cQ "learnt"),(cQ "lacks"),(cQ "put"),(cQ "take"),(cQ "round"),(cQ "price"),(cQ "read"),(cQ "under")]),.set 2 (.bin .add OW (.lst [(cQ "over"),(cQ "musts"),(cQ "why")])),.ret (.comp 1 df .Pt [.bi .len [J']] [] (.idx OX (.bin .mod (.bin .add OW J') (cI 16))))]]
def mL:Fn:=#["law",1,11,[.set 1 (.call "_law_drawn" [.call "_law_cell" [J',cO],(cI 20)]),.set 2 (.call "_law_names" [J',cA,.bin .add cA (.bin .mod (.idx OM cO) (cI 0x6))]),.ite (.cmp .eq (.bin .mod (.idx OM (cI 0x4)) (cI 0x6)) cA) [.set 2 (.call "_law_own_words" [OW,.idx OM (cI 0x5)])] [],.mX 3,.set 0x4 (.call "_law_made" [J',OM,OW]),.O_ 4 [0x5,0x6] .seq [P2] [.exp (.RH 4 "Desk.say" "say" 3 [.bin .add (cQ "put ") (.PY .join (cQ " ") [.bin .add (.lst [PU,(cQ "=")]) (.bin .add (.bi .list [.var 0x6]) (.Pf (.lst [(cQ "*")]) [] [.bi .int [.cmp .eq (.var 0x6) (.tup [])]]))])])],.set 0x7 (.lst [.RH 4 "Desk.say" "say" 3 [(cQ "book")],.RH 4 "Desk.say" "say" 3 [(cQ "learnt")]]),.set 0x8 (.idx (.lst [.cst .OP,(cI 0x7),.cst (.bl 4),.lst [(cQ "learnt")],.tup [(cQ "learnt")]]) (.bin .mod (.idx OM (cI 3)) (cI 0x5))),.ite (.cmp .ne (.QV "_law_refused" 3 [.var 0x8]) (.lst [.cst (.bl 4),.cst (.bl df),.cst (.bl df),.cst (.bl df),.cst (.bl df),.cst (.bl df),.cst (.bl 4)])) [.ret (.cst (.bl df))] [],.O_ df [0x9] .seq [.call "_law_tries" [.call "_law_drawn" [.call "_law_cell" [J',(cI 40)],(cI 16)],P2,OW]] [.set 10 (.call "_law_due" [.var 0x9,P2]),.set 0x6 (.comp 1 df .Pt [(cI 0x7)] [] (.or [.cmp .eq J' (.var 11),.cmp .eq J' (cI 0x6)])),.ite (.and [.cmp .Se (.var 10) (.cst .OP),.cmp .ne (.QV "_law_refused" 3 [.var 0x9]) (.var 0x6)]) [.ret (.cst (.bl df))] [],.ite (.and [.cmp .Se (.var 10) (.cst .OP),.cmp .ne (.lst [.RH 4 "Desk.say" "say" 3 [(cQ "book")],.RH 4 "Desk.say" "say" 3 [(cQ "learnt")]]) (.var 0x7)]) [.ret (.cst (.bl df))] []],.ret (.cst (.bl 4))]]
def prog:↑Fn:=[lK,dW,lL,lM,iN,pB,dH,nq,pC,dR,cW,bu,dm,bB,gO,iM,dX,iO,ft,dI,mH,jh,eB,ji,eX,eY,sY,gP,pD,eJ,cv,a9,mI,bh,d5,qR,pE,mJ,pF,mK,pG,gQ,gR,fN,gS,bC,lN,fu,eD,d6,eM,mL]
def ck:Ck:=#[(prog.filter λf=>f.ob.isNone&&eL (f.name∉(["Shelf.__init__","Desk.__init__"]:↑5))).map (·.name),[("DEAREST_READ",(.int 2000)),("FIRST_SENSE",(.int 1)),("LAST_SENSE",(.int 99)),("LETTERS",(.str "abcdefghijklmnopqrstuvwxyz")),("LONGEST_STEM",(.int 0x8)),("MOST_NOT_LEARNT",(.int 0x5)),("MOST_ROWS",(.int 60)),("MOST_TOLD",(.int 0x8)),("PICTURE_SIGN",(.str "*")),("WORD_QUESTIONS",(.tup [.str "round",.str "price",.str "read",.str "under",.str "over",.str "musts",.str "why"]))],["NoRow","NoText","TooMany","Unfit","Unknown"],[("NoRow","PrimerError"),("NoText","PrimerError"),("TooMany","PrimerError"),("Unfit","PrimerError"),("Unknown","PrimerError")],([("NoRow","Lacking",df),("NoRow","NoDeed",df),("NoRow","NoRow",4),("NoRow","NoText",df),("NoRow","TooMany",df),("NoRow","Unfit",df),("NoRow","Unknown",df),("NoRow","Unlearnt",df),("NoRow","ValueError",4)]:↑(5 × 5 ×Bool))++([("NoText","Lacking",df),("NoText","NoDeed",df),("NoText","NoRow",df),("NoText","NoText",4),("NoText","TooMany",df),("NoText","Unfit",df),("NoText","Unknown",df),("NoText","Unlearnt",df),("NoText","ValueError",4)]:↑(5 × 5 ×Bool))++([("TooMany","Lacking",df),("TooMany","NoDeed",df),("TooMany","NoRow",df),("TooMany","NoText",df),("TooMany","TooMany",4),("TooMany","Unfit",df),("TooMany","Unknown",df),("TooMany","Unlearnt",df),("TooMany","ValueError",4)]:↑(5 × 5 ×Bool))++([("Unfit","Lacking",df),("Unfit","NoDeed",df),("Unfit","NoRow",df),("Unfit","NoText",df),("Unfit","TooMany",df),("Unfit","Unfit",4),("Unfit","Unknown",df),("Unfit","Unlearnt",df),("Unfit","ValueError",4)]:↑(5 × 5 ×Bool))++([("Unknown","Lacking",df),("Unknown","NoDeed",df),("Unknown","NoRow",df),("Unknown","NoText",df),("Unknown","TooMany",df),("Unknown","Unfit",df),("Unknown","Unknown",4),("Unknown","Unlearnt",df),("Unknown","ValueError",4)]:↑(5 × 5 ×Bool)),[("Shelf.book",df,"book"),("Shelf.put",df,"put"),("Shelf.take",df,"take"),("Shelf.do_deed",df,"do_deed"),("Shelf.turn_to",df,"turn_to"),("Desk.say",4,"say"),("Desk.say_deed",4,"say_deed"),("_law_refused",4,"")]]
end K
namespace TM
open PySem L2 O1
def jl(c:8):↑5->↑8|[]=>[]|[x]=>(~~~x)|x::y::r=>(~~~x)++c::jl c (y::r)
def dJ(c):∀a,(~~~(Ds #[#v[c]] a))=jl c a:=by
 let h:∀a ,(~~~(Θ _ a))=jl c a:=λa=>by match a with|[]=>rfl|[x]=>rfl|x::y::r=>let b:=dJ.go c (y::r);change(x++⟨#v[c]⟩++Θ _ _).cps.toList=_;rw[cV,cV,b,RA];rfl
 intro a;change(ŕ _ a).cps.toList=_;rw[Û];show h a
where go (c:8):∀a ,(~~~(Θ _ a))=jl c a
 |[]=>9|[x]=>9|x::y::r=>by change(x++⟨#v[c]⟩++Θ _ _).cps.toList=_;rw[cV,cV,go c _,RA];rfl
theorem xr:∀{a b},a≠[]->b≠[]->(∀x∈a,c∉(~~~x))->(∀y∈b,c∉(~~~y))->jl c a=jl c b->a=b|[],_,h,_,_,_,_=>absurd 9 h|_::_,[],_,h,_,_,_=>absurd 9 h|[x],[y],_,_,_,_,e=>by rw[TM.dZ (e)]|[x],y::z::r,_,_,d,_,e=>by let e:(~~~x)=(~~~y)++c::jl c _:=e;show absurd (by rw[e];simp) (d x 7)|x::z::r,[y],_,_,_,f,e=>by let e:(~~~x)++c::jl c _=(~~~y):=e;show absurd (by rw[<-e];simp) (f y 7)|x::z::r,y::l::m,_,_,d,f,e=>by let(g,i):=rF e (d x 7) (f y 7);rw[TM.dZ g,xr (QC _ _) (QC _ _) (λx j=>d x (ib _ j)) (λy k=>f y (ib _ k)) i]
def pH(h:a≠[])(b:∀x∈a,(~~~x)≠[])(d:∀x∈a,c∉(~~~x)):rD (Ds #[#v[c]] a) ⟨#v[c]⟩=a:=by
 let f:=ů (Ds #[#v[c]] a) #[#v[c]];let e:jl c (rD (Ds #[#v[c]] a) #[#v[c]])=jl c a:=by rw[<-dJ.go,f,dJ]
 show xr (λz=>?_) h (Ů _ c) d e;rw[z]at e;cases a with
 |nil=>show h 9|cons x r =>
  cases r with
  |nil=>show b x 7 e.symm
  |cons y r=>show absurd e.symm (by change (~~~x)++c::_≠[];simp)
theorem yV:∀{a:↑5},(∀x∈a,-x<=n)->(a.map (·.length)).sum<=n * -a|[],_=>mh _|x::a,h=>by let:=yV λy b=>h y (ib _ b);let:=h x ki;rw[lx,Ŗ,l0,Nat.mul_succ];lia
def jj(h:∀x∈a,-x<=n)(hs:-sep=1)(hl:(n+1) * -a<=1000000):ZZ sep a=4/\-Ds sep a<=(n+1) * -a:=by
 let b:=yV h;show#[ħ (by grind),?_];change(ŕ sep a).length<=_;rw[Û];let:=StrLaws.join_length_le sep a
 grind
def iP(h:ZZ a b=4):jn .join (.str a) [(k,.lst (b.map .str))]\zS (Ds a b):=by change(strsOf (b.map U.str)).bind _=_;rw[cU];change(if ZZ a b=4 then _ else _)=_;rw[if_pos h]
def DG(h:ZZ a b=4):jn .join (.str a) [(k,.tup (b.map .str))]\zS (Ds a b):=by change(strsOf (b.map U.str)).bind _=_;rw[cU];change(if ZZ a b=4 then _ else _)=_;rw[if_pos h]
def Az(hs:-a=1)(hl:-x<=1000000)(e:rD x a=b):jn .split (.str x) [(k,.str a)]\oL (b.map .str):=by
 change(if (-a==0)=df/\-x+2<=ei then b6 _ else ef)=_;let c:1000002<=ei:=7
 rw[if_pos #[by rw[hs];rfl,⋯],e]
def fw(d:c<256):rD x #[#v[c]]≠[]:=λz=>by
 by_cases h:c∈(~~~x)
 .let(a,b,e,f):=cw h;let(r,g):=tZ e f d;left
 rw[cL h]at z;ext z
def kX(x)(c):jl c (rD x #[#v[c]])=(~~~x):=by rw[<-dJ.go,ů]
def split_free(h:y∈rD x #[#v[c]]):c∉(~~~y):=Ů _ c y h
def Qd:↑5->8|[]=>0|x::r=>-x+1+Qd r
theorem nu:∀a b,Qd (a++b)=Qd a+Qd b|[],b=>by simp[Qd]|x::a,b=>by rw[Ī,Qd,Qd,nu a b];lia
def GV(a)(lo b):Qd (cut a lo b)<=Qd a:=by
 let c:∀(l:↑5) (n:8),Qd (l.drop n)<=Qd l:=λl n=>by let h:=congrArg Qd (Xf n l);rw[nu]at h;lia
 let d:∀(l:↑5) (n:8),Qd (l.take n)<=Qd l:=λl n=>by let h:=congrArg Qd (Xf n l);rw[nu]at h;lia
 show pe (d _ _) (c _ _)
theorem yW:∀{l},x∈l->-x+1<=Qd l
 |y::l,h=>by
  rw[Qd];obtain rfl|h:=gb.mp h
  .lia
  let:=yW h;lia
theorem yX:∀l,-l<=Qd l|[]=>gs _|x::l=>by let:=yX l;rw[Qd,l0];lia
theorem xu(c):∀{l},l≠[]->-jl c l+1=Qd l|[],h=>absurd 9 h|[x],_=>by rfl|x::y::r,_=>by let:=xu c (QC y r);change((~~~x)++c::jl c _).length+1=-x+1+Qd _;rw[nc,l0,len_list];lia
def lO(x)(a:c<256):Qd (rD x #[#v[c]])=-x+1:=by rw[<-xu c (fw a),kX,len_list]
theorem yY:∀l,(l.map (·.length)).sum+ -l=Qd l|[]=>9|x::l=>by let:=yY l;rw[lx,Ŗ,l0,Qd];lia
def DI:-Ds #[#v[c]] l<=Qd l:=by rw[len_list,dJ];cases l with|nil=>show mh _|cons x r=>let:=xu c (QC x r);lia
def vi(h:Qd l<=100000):jn .join (.str #[#v[c]]) [(k,.lst (l.map .str))]\zS (Ds #[#v[c]] l):=by let:=yY l;show iP (ħ (by rw[show(⟨#v[c]⟩:Str).length=1 from rfl];lia))
def gT(e:(~~~x)=a++c::b)(g:c∉a)(d:c<256):rD x #[#v[c]]=⟨a.toArray⟩::rD #[b.toArray] #[#v[c]]:=by
 let f:=fw (x:=#[b.toArray]) d;show xr  (fw d) (QC _ _) (λy hy=>split_free hy) (λy hy=>?_) ?_
 .rcases gb.mp hy with rfl|hy
  .lia
  show split_free hy
 rw[kX,e];cases q:rD _ _ with|nil=>show absurd q f|cons z r=>let:=kX #[b.toArray] c;rw[q]at this;change _=a++c::jl c _;rw[this]
end TM
namespace TM
open PySem L2
def Wp(Γ:Tab)(b:↑S)(st:aq)(Q:Fl->aq->6):6:=∃f a,Run (execs Γ b) st f a/\Q f a
def Wp.set(h:Run (ev Γ e) st r c)(g:Run (fD i r) c () d)(j:Wp Γ k d Q):Wp Γ (.set i e::k) st Q:=let ⟨f,s,a,b⟩:=j;⟨f,s,aR h g a,b⟩
def Wp.ret(h:Run (ev Γ e) st r a)(c:Run (retS r) a (.rt k u) b)(d:Q (.rt k u) b):Wp Γ (.ret e::f) st Q:=#[_,_,bx h c,d]
def Wp.if2(h:Run (O0 Γ c) st p st)(e:p=4->Wp Γ (a++d) st Q)(g:p=df->Wp Γ (b++d) st Q):Wp Γ (.ite c a b::d) st Q:=by cases p with|true=>let(f,s,x,y):=e 9;show#[f,s,bz h (λ_=>x) (λz=>nomatch z),y]|false=>let(f,s,x,y):=g 9;show#[f,s,bz h (λz=>nomatch z) λ_=>x,y]
def Wp.ite(h:Run (O0 Γ c) st p st)(e:Wp Γ (a++d) st Q)(f:Wp Γ (b++d) st Q):Wp Γ (.ite c a b::d) st Q:=.if2 h (λ_=>e) λ_=>f
def Wp.no(h:Run (O0 Γ c) st p st)(d:p=df)(k:Wp Γ (b++e) st Q):Wp Γ (.ite c a b::e) st Q:=let ⟨f,s,x,y⟩:=k;⟨f,s,bz h (λz=>by rw[d]at z;ext z) λ_=>x,y⟩
def Wp.mX(k:Wp Γ a (st.set i (b6 (.A',.ob 4 (.tup []) []))) Q):Wp Γ (.mX i::a) st Q:=let ⟨f,s,x,y⟩:=k;⟨f,s,KC x,y⟩
def lP{l:↑α}(j:α->Kd×U)(J:8->aq->6)(u:Run (bw Γ m) st rs st)(v:aU rs st)(w:QW y rs\l.map j)(z:qx rs n g=4)(hs:∀d s,J d s->aU rs s)(A:J 0 st)(Ś:∀d s x,l[d]?\x->J d s->∃i,Run (fE t n (j x)) s () i/\Wp Γ g i λf o=>f=.nx/\J (d+1) o)(k:∀s,J ⇑l s->Wp Γ B s Q):Wp Γ (.O_ t n y m g::B) st Q:=by
 let(o,C,_,p):=gM (t:=t) (is:=n) (body:=execs Γ g) (rs:=rs) j (λd r s=>d++r=l/\J ⇑d s) (λ_ _ s h=>hs _ s h.2) (λd r rs s D=>by let(e,p):=D;let(i,a,f,q,b,rfl,c):=Ś ⇑d s r (by rw[<-e];simp) p;show#[i,q,a,b,by rw[<-e];simp,by rw[nc];show c]) l [] st ⟨9,A⟩
 let(f,q,a,b):=k o (by exists p);show#[f,q,iK u v w z C a,b]
def Wp.yes(h:Run (O0 Γ c) st p st)(d:p=4)(k:Wp Γ (a++e) st Q):Wp Γ (.ite c a b::e) st Q:=let ⟨f,s,x,y⟩:=k;⟨f,s,bz h (λ_=>x) (λz=>by rw[d]at z;ext z),y⟩
def pI(d:-c=b.np)(hk:k=.own\/k=.loc)(h:Wp Γ b.body (start c b.ns) λf _=>f=.rt k u):aV Γ b c\.ok (k,u):=let ⟨_,_,a,e⟩:=h;aA d hk 9 (e▸a)
end TM
namespace TM
open PySem L2 O1
def nv(b:0<=i)(c:i<=99):QO .str [(k,.int i)]\zS (fA i):=by
 erw[QO,hZ,BK];rw[if_pos (by
  by_cases a:i.natAbs=0
  .rw[a];decide
  have:i.natAbs<2 ^ 0x7:=⋯
  have:=(Nat.log2_lt a).mpr this;lia)]
 rfl
theorem qT:∀(l D:↑5),-l.foldl fV D<=-D+ -l
 |[],D=>by simp|x::l,D=>by
  let h:=qT l (fV D x);let:-fV D x<=-D+1:=by unfold fV;split<;>simp
  grind
theorem vj:∀(l D:↑5),D.Nodup->-D+ -l<=-l.foldl fV D->(D++l).Nodup
 |[],D,h,_=>by left|x::l,D,h,hl=>by
  rw[ķ,l0]at hl;by_cases c:x∈D
  .let e:fV D x=D:=by unfold fV;rw[if_pos c]
   rw[e]at hl;let:=qT l D;lia
  let e:fV D x=D++[x]:=by unfold fV;rw[if_neg c]
  rw[e]at hl;let d:(D++[x]).Nodup:=by rw[C0];show#[h,by simp,λa f b g z=>c ?_];left
  let:=vj l _ d (by rw[nc,List.length_singleton];lia);left
def yZ(l):eL (-bg l< -l)=!decide l.Nodup:=by
 by_cases h:l.Nodup
 .let a:=kO h λx b=>(gH l x).mpr b;left
 let a:¬-l<=-bg l:=λz=>h (vj l [] .nil (by simpa[bg] using z));left
def pJ(hl:-a<=100):uD .la [(k,.tup (a.map .str))]\lI (-bg a:8):=by
 let e:h_ (.tup (a.map U.str))\bg a:=by change(strsOf _).bind _=_;rw[cU];change(if -a+1<WS then _ else _)=_;rw[if_pos (by change ⇑a+1<4096;lia)]
 change(h_ _).map _=_;rw[e];rfl
def len_str(h:-x<=100000):QO .len [(k,.str x)]\lI (-x:8):=by
 let a:200000<=ei:=7
 change(if -x<=ei then b6 _ else ef).map _=_
 grind
def sZ(x)(c):Tu #[#v[c]] x=eL (c∈(~~~x)):=PySem.StrLaws.found_one x c
def isNum(b:5):Bool:=(i9 98).any λj:8=>eL (fA (2+(j:Int))=b)
def wb(x:5):Bool:=if 47∈(~~~x) then b_ (kb x "/").1.cps.toList&&isNum (kb x "/").2.2 else b_ (~~~x)
def DJ(h:isNum y=4):47∉(~~~y):=by
 let a:∀n:_root_.Fin 98,47∉(~~~(fA (2+n))):=by decide +kernel
 unfold isNum at h;rw[QL]at h;let(j,b,e):=h;rw[<-of_decide_eq_true e];show a #[j,uk.mp b]
def DK(h:Run (ev Γ e) st (k,.bl p) st)(a:p=df->Run (ev Γ b) st (bL q) st):Run (ev Γ (.or [e,b])) st (bL (p||q)) st:=by cases p with|true=>show(ae h aK)|false=>show(ae h (a 9))
def ny(h:bA (~~~x)):wb x=4:=by
 unfold wb;obtain h|⟨a,b,k,e,h,d,f,g⟩:=h
 .rw[if_neg (kf h)];show h
 let c:=O1.gB e (kf h);rw[if_pos ⋯,show("/":Str)=⟨#v[47]⟩ from rfl,c,dt];show#[7,?_];unfold isNum;rw[QL];show#[(k - 2).toNat,uk.mpr 7,decide_eq_true ?_];rw[show 2+(k - 2).toNat=k by lia];show TM.dZ 7
structure Rw(r:Row):6 where
 ln:-r.2<=40
 w:-r.1<=100
 ws:∀x∈r.2,-x<=100
def gU(r:Row):Bool:=(eL (-r.2<=0x8)&&decide r.2.Nodup)&&(wb r.1&&r.2.all wb)
def y7(h:gU r=4):-r.2<=0x8:=by unfold gU at h;left
end TM
namespace K
open PySem L2 TM O1
def DL(b:-x<=100000):aV Γ lK [.str x]\.ok (bL (b_ (~~~x))):=by
 let d:(200000:8)<=ei:=7
 let g:=len_list x;show let S:aq:=[b6 (zS x)];?_
 let a:=dQ (cond:=aN Γ []) (elt:=ev Γ (.cmp .isin J' (.QN "LETTERS" (.str "abcdefghijklmnopqrstuvwxyz")))) (src:=[(zS x)]) (st:=S) ttt .loc (.inl 9) (λc:8=>U.str #[#v[c]]) (λc=>U.bl (low c)) .loc (λ_=>fm) (~~~x) [] (by rw[Ķ,Ġ];lia)
  (λc i=>#[gh (c:=low c) (af 9) jA ttt (by change b6 (Tu #[#v[c]] "abcdefghijklmnopqrstuvwxyz")=_;let:=nO "abcdefghijklmnopqrstuvwxyz" (by decide +kernel) c;rw[show Tu #[#v[c]] "abcdefghijklmnopqrstuvwxyz"=low c from this]),aD])
 rw[z8]at a;let e:QO .all [(oL (x.cps.toList.map λc=>U.bl (low c)))]\bL (x.cps.toList.all low):=by let:=sU (k:=.own) (x.cps.toList.map low);rw[k9,Ę]at this;show this
 show pI 9 (.inr 9) (Wp.if2 (iJ (gp (aB (af 9) ah ttt eW) λ_=>g9 (aB (bW (aa (af 9) ag) ttt (len_str b)) jA ttt (jC (c:=eL (0x8< -x)) (by rw[so];simp;lia))))) (λz=>?_) λz=>?_)
 .let:b_ (~~~x)=df:=by
   rw[W9,decide_eq_true_eq,decide_eq_true_eq]at z;unfold b_;obtain rfl|z:=z
   .rfl
   rw[decide_eq_false (p:=⇑x.cps.toList<=0x8) ⋯];simp
  rw[this];show Wp.ret ah aO 9
 let:b_ (~~~x)=x.cps.toList.all low:=by
  rw[ó,decide_eq_false_iff_not,decide_eq_false_iff_not]at z;unfold b_;let f:1<=-x.cps.toList:=by
   obtain h|h:=Nat.eq_zero_or_pos ⇑x.cps.toList
   .show absurd (TM.dZ (x:=x) (y:="") (by rw[Td h];rfl)) z.1
   show h
  rw[decide_eq_true f,decide_eq_true (p:=⇑x.cps.toList<=0x8) ⋯];rfl
 rw[this];show Wp.ret (bW (aa (bO (rs:=[(zS x)]) (aa (af 9) ag) ttt 9 a) ag) ttt e) aO 9
def GW(y):eL (y∈(i9 98).map λi:8=>fA (2+(i:Int)))=isNum y:=by unfold isNum;rw[so,decide_eq_true_eq,QL,mn];erw[decide_eq_true_eq]
def AA:aV Γ dW [.str y]\.ok (bL (isNum y)):=by
 let a:200000<=ei:=7
 show let S:aq:=[b6 (zS y)];?_
 let b:=dQ (cond:=aN Γ []) (elt:=ev Γ (.bi .str [J'])) (src:=[(lI (1+1)),(lI (99+1))]) (st:=S) ttt .loc (.inl 9) (λi:8=>U.int (2+i)) _ .loc (λ_=>fm) (i9 98) [] (by grind)
  (λi c=>#[bW (aa (af 9) ag) ttt (nv 7 (by grind)),aD])
 show aA 9 (.inr 9) (9) (bx (gh  (af 9) (bO  (aa (aT jA ah ttt du) (aa (aT jA ah ttt du) ag)) ttt 9 b) ttt ?_) aO);rfl
def DM(b:a=⟨a.name,1,1,[.ret (.idx (.PY .partition J' [(cQ "/")]) (cI n))]⟩)(hl:-x<=100000)(h:Px [U.str (kb x "/").1,.str (kb x "/").2.1,.str (kb x "/").2.2] n\.str y):aV Γ a [.str x]\.ok (zS y):=by
 let c:200000<=ei:=7
 let d:jn .partition (.str x) [(zS "/")]\lT [.str (kb x "/").1,.str (kb x "/").2.1,.str (kb x "/").2.2]:=by change(if (è "/"==0)=df/\-x<=ei then _ else _)=_;rw[if_pos #[by decide,⋯]]
 rw[b];show aA  9 (.inr 9) 9 (bx (aI (eh (af 9) (aa ah ag) ttt d) ah ttt (k_ h)) aO)
def DN(h:-x<=100000):(kb x "/").1.length<=100000:=by
 rw[show("/":Str)=⟨#v[47]⟩ from rfl];by_cases c:47∈(~~~x)
 .let(a,b,e,d):=cw c;rw[O1.gB e d,len_list];rw[len_list,e]at h
  grind
 rw[O1.iV c];show h
def DO(c:∀x,-x<=100000->Γ "is_stem" [.str x]\.ok (bL (b_ (~~~x))))(d:∀y,Γ "is_later_sense" [.str y]\.ok (bL (isNum y))) (hs:∀x,-x<=100000->Γ "stem_of" [.str x]\.ok (zS (kb x "/").1)) (e:∀x,-x<=100000->Γ "number_of" [.str x]\.ok (.loc,.str (kb x "/").2.2)) (a:-x<=100000):aV Γ lL [.str x]\.ok (bL (wb x)):=by
  show pI 9 (.inr 9) (Wp.if2 (p:=!eL (47∈(~~~x))) (aB ah (af 9) ttt (by change(b6 (Tu "/" x)).map _=_;rw[show Tu "/" x=eL (47∈(~~~x)) from sZ x 47];rfl)) (λz=>?_) λz=>?_)
  . let b:47∉(~~~x):=by exists z
    unfold wb;rw[if_neg b];show Wp.ret (aM (aa (af 9) ag) ttt (c x a)) aO 9
  . let b:47∈(~~~x):=by exists z
    unfold wb;rw[if_pos b];show Wp.ret (HC (Dp (aM (aa (aM (aa (af 9) ag) ttt (hs x a)) ag) ttt (c _ (DN a))) λ_=>C_ (aM (aa (aM (aa (af 9) ag) ttt (e x a)) ag) ttt (d _)))) aO 9
def cX(Γ:Tab)(f:5):6:=∀x:5,-x<=100000->Γ f [.str x]\.ok (bL (wb x))
def AB(g:cX Γ f){a:↑5}(hs:∀x∈a,-x<=100000)(hl:-a<=100000)(h:Run (ev Γ e) st (k,u) st)(d:aU [(k,u)] st)(b:QW .seq [(k,u)]\(a.map λx=>(zS x))):Run (ev Γ (.bi .all [.comp 1 df .seq [e] [] (.call f [J'])])) st (bL (a.all wb)) st:=by
 let i:200000<=ei:=7
 let c:=dQ (cond:=aN Γ []) (elt:=ev Γ (.call f [J']))   d .loc (.inl 9) _ _ .loc (λ_=>fm) a [] (by grind)
  (λx c=>#[aM (aa (af 9) ag) ttt (g x (hs x c)),aD])
 let j:=by let:=sU (k:=.own) (a.map wb);rw[k9,Ę]at this;show this
 show bW (aa (bO  (aa h ag) d b c) ag) ttt j
def GX(a:cX Γ "is_word")(h:Rw r):aV Γ pB [OS r]\.ok (bL (gU r)):=by
 let b:(200000:8)<=ei:=7
 let g:=h.ln;let c:TM.start [OS r] 2=[b6 (.loc,OS r),ef]:=by simp[TM.start,fI]
 show let S:aq:=[b6 (.loc,OS r),b6 (lT (r.2.map .str))];?_
 let gl:Run (ev Γ (.bi .len [OM])) S (lI (-r.2:8)) S:=by let h:=bW (Γ:=Γ) (st:=S) (f:=.len) (es:=[OM]) (aa (af 9) ag) ttt (kN (xs:=r.2.map U.str));left
 let d:Run (O0 Γ (.or [.cmp .gt (.bi .len [OM]) (.QN "MOST_TOLD" (.int 0x8)),.cmp .lt (.SU .la [OM]) (.bi .len [OM])])) S (eL (0x8< -r.2)||!decide r.2.Nodup) S:=by show iJ (gp (aB gl jA ttt (jC (by rw[so];simp;lia))) λ_=>g9 (aB (yK (aa (af 9) ag) ttt (pJ 7)) gl ttt (g_ ?_)));rw[<-yZ,so];simp
 show aA (st:=S) 9 (.inr 9) c (aR (aI (x:=(.loc,OS r)) (af 9) ah ttt 9) aY (bz d (λz=>?_) λz=>?_))
 .let:gU r=df:=by
   unfold gU
   grind
  rw[this];show bx ah aO
 let:gU r=(wb r.1&&r.2.all wb):=by unfold gU;left
 rw[this];show bx (HC (Dp (aM (aa (aI (x:=(.loc,OS r)) (af 9) ah ttt 9) ag) ttt (a r.1 (by let:=h.w;lia))) λ_=>C_ (AB a (λx e=>by let:=h.ws x e;lia) 7 (af 9) ttt (by change b6 _=_;rw[k9];rfl)))) aO
def AD(hx:-x<=100000):aV Γ fN [.str x]\.ok (bL (wb x)):=by
 let w:(200000:8)<=ei:=7
 let A:jn .split (.str x) [(zS "/")]\oL ((rD x "/").map U.str):=by change(if (è "/"==0)=df/\-x+2<=ei then b6 (oL ((rD x "/").map .str)) else ef)=_;rw[if_pos #[by decide,⋯]]
 let B:=len_list x;obtain⟨y,r,C,W7,D⟩:∃(y:5) (r:↑5),rD x "/"=y::r/\-y<=-x/\wb x=(b_ (~~~y)&&(eL (r=[])|| -r==1&&r.any isNum)):=by
  by_cases g:47∈(~~~x)
  .let(a,b,e,k):=cw g;let G:=gT e k 7;let H:=O1.gB e k;let hl:⇑(⟨a.toArray⟩:5)=-a:=by rw[len_list]
   show#[#[a.toArray],_,G,by rw[hl,B,e];simp,?_];unfold wb;rw[if_pos g,show("/":Str)=⟨#v[47]⟩ from rfl,H];congr 1
   by_cases m:47∈b
   .let(I,b2,J,L):=cw m;let N:=gT (x:=#[b.toArray]) (a:=I) (b:=b2) J L 7;let nn:isNum ⟨b.toArray⟩=df:=by cases q:isNum ⟨b.toArray⟩ with|false=>rfl|true=>show absurd (DJ q) (by exists m)
    rw[N,nn];simp[fw]
   rw[cL m];simp
  show#[x,[],cL g,gs _,?_];unfold wb;rw[if_neg g];simp
 show let S:aq:=[b6 (zS x),b6 (oL ((y::r).map .str))];?_
 let d:-y<=100000:=7
 let n:=len_list y;let O:aU [(Kd.bor 1,U.lst ((y::r).map .str))] S:=∅
 let u:Run (ev Γ (.idx OM cO)) S (zS y) S:=aI (aw 9) ah ∅ (aG (bo (j:=0) 9));let gl:Run (ev Γ (.bi .len [.idx OM cO])) S (lI (-y:8)) S:=bW (aa u ag) ttt (len_str d);let o:Run (ev Γ (.bi .len [OM])) S (lI ((-r+1:8):Int)) S:=by let h:=bW (Γ:=Γ) (st:=S) (f:=.len) (es:=[OM]) (aa (aw 9) ag) O (dG (xs:=(y::r).map U.str));rw[f7]at h;show h
 let s:=jU (cond:=aN Γ [.cmp .OR J' (cQ "abcdefghijklmnopqrstuvwxyz")]) (elt:=ev Γ J') (src:=[(zS y)]) (st:=S) ttt .loc (.inl 9) (λc:8=>U.str #[#v[c]]) (λc=>U.str #[#v[c]]) (λc=>!low c) .loc (~~~y) [] (by rw[Ķ,Ġ];lia)
  (λc hc=>#[di (aB (af 9) ah ttt (by change(b6 (Tu #[#v[c]] "abcdefghijklmnopqrstuvwxyz")).map _=_;rw[show Tu #[#v[c]] "abcdefghijklmnopqrstuvwxyz"=low c from nO "abcdefghijklmnopqrstuvwxyz" (by decide +kernel) c];rfl)),λ_=>#[af 9,aD]])
 rw[z8]at s;let Q:((y.cps.toList.filter λc=>!low c).map λc=>U.str #[#v[c]])=((y.cps.toList.filter λc=>!low c).map λc=>(⟨#v[c]⟩:5)).map U.str:=by rw[k9];rfl
 rw[Q]at s;let v:=aB (Γ:=Γ) (op:=.ne) (bO (ik:=.seq) (rs:=[(zS y)]) (aa u ag) ttt 9 s) (bQ (rs:=[]) (us:=[]) ag ttt aF (mh _)) ttt (gu (us:=((y.cps.toList.filter λc=>!low c).map λc=>(⟨#v[c]⟩:5)).map U.str) (by rw[P1];show dP _ _));rw[Ù,Ù,show(!(y.cps.toList.filter λc=>!low c).isEmpty)=!y.cps.toList.all low by
  congr 1
  rw[so,M',Ud,nH];simp]at v
 let t:=dQ (cond:=aN Γ []) (elt:=ev Γ (.bi .str [J'])) (src:=[(lI 2),(lI 100)]) (st:=S) ttt .loc (.inl 9) (λi:8=>U.int (2+(i:Int))) (λi=>U.str (fA (2+(i:Int)))) .loc (λ_=>fm) (i9 98) [] 7
  (λi T=>#[bW (aa (af 9) ag) ttt (nv 7 (by let:=uk.mp T;lia)),aD])
 rw[z8]at t;let e:((i9 98).map λi:8=>U.str (fA (2+(i:Int))))=((i9 98).map λi:8=>fA (2+(i:Int))).map U.str:=by rw[k9];rfl
 rw[e]at t;let Y:¬1< -r->Run (ev Γ (.or [.cmp .eq (.bi .len [OM]) cA,.cmp .isin (.idx OM cA) (.comp 1 df .Rb [(cI 2),(cI 100)] [] (.bi .str [J']))])) S (bL (eL (r=[])|| -r==1&&r.any isNum)) S:=λh=>by
  cases r with
  |nil=>show DK (p:=4) (q:=df) (gh o ah ttt (eI 9)) λz=>by ext z|cons z r =>
   cases r with
   |cons _ _=>simp at h
   |nil =>
    let g1:Run (ev Γ (.idx OM cA)) S (zS z) S:=aI (aw 9) ah ∅ (aG (bo (j:=1) 9));let k:cS .isin (.str z) (.lst (((i9 98).map λi:8=>fA (2+(i:Int))).map U.str))\isNum z:=by rw[u_,GW]
    let:=DK (p:=df) (q:=isNum z) (gh (op:=.eq) (b:=cI 1) o ah ttt (eI 9)) λ_=>gh g1 (bO (ik:=.Rb) (rs:=[(lI 2),(lI 100)]) (aa ah (aa ah ag)) ttt 9 t) ttt k;exists this
 let Xt:b_ (~~~y)=(!(eL (-y<1)||decide (0x8< -y))&&y.cps.toList.all low):=by unfold b_;rw[<-n,so];simp;lia
 rw[D,Xt];show pI 9 (.inr 9) (Wp.set (eh (af 9) (aa ah ag) ttt (C▸A)) aS (Wp.if2 (iJ (gp (aB gl ah ttt (g_ (c:=eL (-y<1)) (by rw[so];simp;lia))) λ_=>gp (aB gl ah ttt (jC (c:=eL (0x8< -y)) (by rw[so];simp;lia))) λ_=>g9 (aB o ah ttt (jC (c:=eL (1< -r)) (by rw[so];simp;lia))))) (λz=>?_) λz=>Wp.if2 v (λz2=>?_) λz2=>?_))
 .let:(!(eL (-y<1)||decide (0x8< -y))&&(eL (r=[])|| -r==1&&r.any isNum))=df:=by
   obtain z|z:=Φ.mp z
   .rw[z];rfl
   obtain z|z:=Φ.mp z
   .rw[z,ę];rfl
   let z:=of_decide_eq_true z;let hr:(eL (r=[])|| -r==1&&r.any isNum)=df:=by
    cases r with
    |nil=>simp at z|cons a l=>cases l with
     |nil=>simp at z
     |cons _ _=>simp
   rw[hr,X']
  rw[Bool.and_right_comm,this];show Wp.ret ah aO 9
 .rw[td]at z2;rw[z2,X',ϳ];show Wp.ret ah aO 9
 rw[Å]at z2;erw[ó]at z;rw[z2,z.1,z.2.1,Ř,Bool.not_false,Bool.and_self,Bool.true_and];show Wp.ret (Y (of_decide_eq_false z.2.2)) aO 9
def GY(h:-r.2<64):aV Γ dH [OS r]\.ok (.loc,OS (keyOf r)):=by
 let a:=sorted_strs (k:=.loc)  h;apply aA (st0:=[b6 (.loc,OS r)]) 9 (.inr 9) (by simp[TM.start,fI,dH])
 repeat' (first|show b|show c|show a|show(by decide:(2:8)<=ei)|sizeOf_list_dec)
end K
namespace K
open PySem L2 TM O1 Od KL
def tb(a:↑Row):U:=tR a
def RL(p:List ↑Row):↑U:=p.map tb
def Pz(a:↑Row)(p:List ↑Row):U:=.ob df (tb a) (RL p)
def O4(a:↑Row)(p:List ↑Row):U:=.ob 4 (tb a) (RL p)
structure LwG(dn:8)(rows:↑Row)(L:↑5):6 where
 ln:-L<64
 wd:∀x∈L,x∈rows.map (·.1)
 run:O2 prog (dn+0x5) "learnt" [tb rows]\.ok (oL (L.map .str))
def lw(b:8)(a:↑Row):↑5:=open Classical in if h:∃L,LwG b a L then h.choose else []
def gl(K L:↑5):↑5:=L.filter λx=>eL (x∉K)
def Ta(c:8)(a b:↑Row):U:=.tup [.lst ((gl (lw c a) (lw c b)).map .str),.lst ((gl (lw c b) (lw c a)).map .str)]
structure Bk(rs:↑Row):6 where
 ok:∀r∈rs,gU r=4
 ln:-rs<=60
def dY(a):O6 (tb a)=4:=by simp[tb,O6,cH]
theorem s9:∀p,fB (RL p)=4|[]=>9|r::p=>by rw[RL,lx,fB,dY];show s9 p
theorem y8(n):∀a:↑Row,eR (n+2) (a.map OS)=4|[]=>by rfl|r::a=>by rw[lx,eR,y8 n a];simp[OS,P1,eR];show jW _ _
def KI(K L):-gl K L<=-L:=ŷ _ _
def LOk(b:8)(Γ:Tab)(f:5):6:=∀a:↑Row,Bk a->-lw b a<64/\Γ f [tb a]\.ok (oL ((lw b a).map .str))
def Nb(a:st[i]?\b6 (oL (L.map .str)))(d:st[j]?\b6 (k,.lst (K.map .str)))(hk:k=.own\/k=.any)(hl:-L<=1000):Run (ev Γ (.comp 1 df .seq [.var i] [.cmp .OR J' (.var (j+1))] J')) st (oL ((gl K L).map .str)) st:=by
 let e:1000<=ei:=7
 let c:=jU (cond:=aN Γ [.cmp .OR J' (.var (j+1))]) (elt:=ev Γ J') (src:=[(.bor i,.lst _)])  ⟨⟨.own,9,a⟩,ttt⟩ .loc (.inl 9) U.str _ (λx=>eL (x∉K)) .loc L [] 7
  (λx c=>by
   let b:=d;show#[di ?_,λ_=>#[af 9,aD]];obtain rfl|rfl:=hk
   .show aB (af 9) (aw b) #[#[.own,9,b],ttt] fq
   show aB (af 9) (av b) ttt fq)
 show bO  (aa (aw a) ag) #[#[.own,9,a],ttt] (by change b6 _=_;rw[k9];rfl) c
def KJ(c:LOk f Γ "learnt")(h:Bk b)(g:Bk a):aV Γ dI [tb b,tb a]\.ok (.loc,Ta f b a):=by
 let i:1000<=ei:=7
 let(m,j):=c b h;let(n,k):=c _ g;show let d:Sl:=b6 (.loc,tb b);?_;show let e:Sl:=b6 (.loc,tb a);?_;let l:TM.start [tb b,tb a] 0x6=[d,e,ef,ef,ef,ef]:=by simp[TM.start,dY,d,e]
 show aA 9 (.inr 9) l (aR (aM (aa (af 9) ag) ttt j) aS (aR (aM (aa (af 9) ag) ttt k) aS
  (aR (Nb    9 9 (.inl 9) 7) aS (aR (Nb    9 9 (.inl 9) 7) aS
   (bx (eN  (aa (aw   9) (aa (aw 9) ag)) #[#[.own,9,9],#[.own,9,9],ttt] (ax (Dv 9) (ax (Dv 9) aF)) (by change 2<=ei;lia)) aO)))))
def ShT(c:8)(Γ:Tab):6:=∀b a p,Bk b->Bk a->Γ "Shelf.turn_to" [Pz b p,tb a]\.ok (lT [Ta c b a,Pz a p])
def DP(g:∀a b,Bk a->Bk b->Γ "gained_and_lost" [tb a,tb b]\.ok (.loc,Ta i a b))(h:Bk d)(j:Bk c):d8 Γ eY (eY.body.drop 1) [Pz d e,tb c]\.ok (lT [Ta i d c,Pz c e]):=by
 show let f:Sl:=b6 (.loc,tb c);?_;let k:bV [Pz d e,tb c] 3=[b6 (.A',Pz d e),f,ef]:=by simp[bV,TM.start,dY,f]
 show cu  9 k (aR (aM (aa (jZ 9) (aa (af 9) ag)) ttt (g d _ h j)) aY
  (KG  (af 9) aD 9 (dY _) (s9 _) (bx (af 9) aO))) 9
def DQ(g:ShT i Γ)(h:Bk a)(j:Bk b)(m:-c<=100):d8 Γ eX (eX.body.drop 1) [Pz a c,tb b]\.ok (lT [Ta i a b,Pz b (c++[a])]):=by
 let k:1000<=ei:=7
 show let f:Sl:=b6 (.loc,tb b);?_;let l:bV [Pz a c,tb b] 2=[b6 (.A',Pz a c),f]:=by simp[bV,TM.start,dY,f]
 let e:RL (c++[a])=RL c++[tb a]:=by simp[RL]
 let d:=g a _ (c++[a]) h j;unfold Pz at d ⊢;rw[e]at d ⊢;show cu  9 l (KH   9 (by unfold RL;grind) (dY _) (by rw[<-e];show s9 _)
  (bx (vh  9 (aa (af 9) ag) ttt 9 d) aO)) 9
def DR:d8 Γ jh (jh.body.drop 1) [Pz a b]\.ok (lT [tb a,Pz a b]) :=cu  9 9 (bx (jZ 9) aO) 9
end K
namespace TM
open PySem L2 O1
def DS(h:-a+ -b<=ei):Rr .add (k,tR a) (c,tR b)\(kT k c,.tup ((a++b).map OS)):=by change(if _ then _ else _)=_;left
def jD(h:Run (ev Γ e) st x a):Run (execs Γ (.QG c e::b)) st (.rt .io (.str c)) a:=ae (ae h aK) aK
end TM
namespace K
open PySem L2 TM O1 Od KL
def Tb(r s:Row):Bool:=eL (keyOf r=keyOf s)
def AE(a:∀r,-r.2<64->Γ "in_one_order" [OS r]\.ok (.loc,OS (keyOf r)))(h:-r.2<64)(b:-s.2<64):aV Γ nq [OS r,OS s]\.ok (bL (Tb r s)):=by
 apply aA (st0:=[b6 (.loc,OS r),b6 (.loc,OS s)]) 9 (.inr 9) (by simp[TM.start,fI,nq])
 repeat' (first|show a r h|show a s b|show GL (op:=4)|sizeOf_list_dec)
def UX(a:↑Row)(r:Row):↑8:=(i9 ⇑a).filter λp=>Tb (a.getD p ("",[])) r
def Wa(Γ:Tab):6:=∀(a:↑Row) (r:Row),Bk a->-r.2<64->Γ "places_alike" [tb a,OS r]\.ok (oL ((UX a r).map λn:8=>.int (n:8)))
def jY(b:∀r s,-r.2<64->-s.2<64->Γ "alike" [OS r,OS s]\.ok (bL (Tb r s)))(c:Bk a)(d:-r.2<64):aV Γ ft [tb a,OS r]\.ok (oL ((UX a r).map λn:8=>.int (n:8))):=by
 let f:2000<=ei:=7
 let k:=c.ln;let g:TM.start [tb a,OS r] 2=[b6 (.loc,tb a),b6 (.loc,OS r)]:=by simp[TM.start,dY,fI]
 let h:=pA (st:=[b6 (.loc,tb a),b6 (.loc,OS r)]) (cond:=aN Γ [.call _ [OM,OX]]) (elt:=ev Γ J') (src:=[(.loc,tb a)]) ttt _ (λp:8=>OS (a.getD p _)) (λp:8=>U.int p) _ (i9 ⇑a) [] (by grind)
  (λy l=>#[di (gN (aa (af 9) (aa (af 9) ag)) ttt (b _ r (by
   let m:y< -a:=7
   let e:a.getD y ("",[])=a[y]:=7
   rw[e];let:=y7 (c.ok a[y] (Qx _));lia) d) 9),af 9])
 let e:((a.map OS).zipIdx.map λp=>(kE .loc,U.tup [.int p.2,p.1]))=(i9 ⇑a).map λp:8=>(lT [.int p,OS (a.getD p ("",[]))]):=by
  apply Wj
  .simp
  intro i o q;let j:i< -a:=7
  simp[kE,Zu,j]
 show aA 9 (.inl 9) g (bx (bO  (aa (af 9) ag) ttt (by change b6 _=_;rw[e]) h) kM)
def nz:UX a r=[]↔∀s∈a,keyOf s≠keyOf r:=by
 unfold UX;rw[Ud];constructor
 .intro h s hs e;let(i,b,rfl):=ò.mp hs;show h i (uk.mpr b) ?_;let c:a.getD i ("",[])=a[i]:=by simp[b]
  rw[c,Tb,decide_eq_true_eq];show e
 intro h i b e;let b:=uk.mp b;let c:a.getD i ("",[])=a[i]:=7
 rw[c,Tb,decide_eq_true_eq]at e;show h _ (Qx _) e
def pK(Γ:Tab):6:=∀r:Row,Rw r->Γ "is_row" [OS r]\.ok (bL (gU r))
def ShD(c:8)(Γ:Tab):6:=∀a b p,Bk a->Bk b->-p<=100->Γ "Shelf.do_deed" [Pz a p,tb b]\.ok (lT [Ta c a b,Pz b (p++[a])])
def j3:Run (ev Γ (.lst [])) st (oL []) st:=bQ   ag ttt aF (mh _)
def pL(e:Wa Γ)(f:pK Γ)(g:Bk a)(b:Rw r)(h:st[0]?\b6 (.A',Pz a c))(d:st[3]?\b6 (.loc,OS r)):Run (O0 Γ (.or [.not (.call "is_row" [OX]),.cmp .ne (.call "places_alike" [.P0 0,OX]) (.lst [])])) st (!gU r||!(UX a r).isEmpty) st:=by show iJ (gp (iI (gN (aa (af d) ag) ttt (f r b) 9)) λ_=>g9 (aB (aM (aa (jZ h) (aa (af d) ag)) ttt (e a r g (by let:=b.ln;lia))) j3 ttt ?_));let:=gu (us:=(UX a r).map λn:8=>U.int n) (by show lG _ _ _);left
def GZ{c:↑5}:bV [Pz a b,.str w,.tup (c.map .str)] 0x4=[b6 (.A',Pz a b),b6 (zS w),b6 (lT (c.map .str)),ef]:=by simp[bV,TM.start,O6,fb]
def nA(a:st[1]?\b6 (zS w))(b:st[2]?\b6 (lT (c.map .str))):Run (ev Γ (.tup [OM,.bi .tuple [OW]])) st (.loc,OS (w,c)) st :=eN (aa (af a) (aa (bW (aa (af b) ag) ttt 9) ag)) ttt (ax aD (ax aD aF)) (by change 2<=ei;decide)
def putSt(a:↑Row)(b:List ↑Row)(r:Row)(o:Sl):aq:=[b6 (.A',Pz a b),b6 (zS r.1),b6 (lT (r.2.map .str)),o]
def G0(f:Wa Γ)(g:pK Γ)(i:ShD j Γ)(c:Bk a)(k:Rw r)(e:gU r=4)(l:∀s∈a,keyOf s≠keyOf r)(hl:-a<60)(m:-b<=100):d8 Γ eB (eB.body.drop 1) [Pz a b,.str r.1,.tup (r.2.map .str)]\.ok (lT [Ta j a (a++[r]),Pz (a++[r]) (b++[a])]):=by
 let n:(2000:8)<=ei:=7
 let d:Bk (a++[r]):=#[λx o=>(my.mp o).elim (c.ok x) λh=>by rw[mN.mp h];show e,by simp;lia]
 show let S:aq:=putSt a b r (b6 (.loc,OS r));?_;let t:=pL (Γ:=Γ) (st:=S)  f g c k 9 9;rw[nz.mpr l,e]at t;let p:Run (O0 Γ (.cmp .ge (.bi .len [.P0 0]) (.QN "MOST_ROWS" (.int 60)))) S df S:=aB (bW (aa (jZ 9) ag) ttt (kN)) jA ttt (Dw (by grind));show cu (st':=_) 9 GZ (aR (nA 9 9) aY
  (bz t (λz=>by ext z) λ_=>bz p (λz=>by ext z) λ_=>bx (vh (st:=S) 9 (aa (aT (jZ   9) (eN (us:=[r].map OS) (aa (af 9) ag) ttt (ax aD aF) (by change 1<=ei;lia)) ttt (DS (by grind))) ag) ttt 9 (i a _ b c d m)) aO)) 9
def DT(c:Wa Γ)(d:pK Γ)(f:Bk a)(g:Rw r)(h:gU r=df\/∃s∈a,keyOf s=keyOf r):d8 Γ eB (eB.body.drop 1) [Pz a b,.str r.1,.tup (r.2.map .str)]\.ok (.io,.tup [.str "Unfit",Pz a b]):=by
 show let S:=putSt a b r (b6 (.loc,OS r));?_;let t:=pL  (st:=S)  c d f g 9 9;let e:(!gU r||!(UX a r).isEmpty)=4:=by
  obtain h|⟨s,hs,h⟩:=h
  .rw[h];rfl
  cases i:(UX a r).isEmpty with|false=>simp|true=>show absurd h (nz.mp (M'.mp i) s hs)
 rw[e]at t;show cu  9 GZ (aR (nA 9 9) aY (bz t (λ_=>jD ah) λz=>by ext z)) 9
def DU(c:Wa Γ)(d:pK Γ)(e:Bk a)(f:Rw r)(g:gU r=4)(h:∀s∈a,keyOf s≠keyOf r)(hl:60<=-a):d8 Γ eB (eB.body.drop 1) [Pz a b,.str r.1,.tup (r.2.map .str)]\.ok (.io,.tup [.str "TooMany",Pz a b]):=by show let S:=putSt a b r (b6 (.loc,OS r));?_;let t:=pL  (st:=S)  c d e f 9 9;rw[nz.mpr h,g]at t;let i:Run (O0 Γ (.cmp .ge (.bi .len [.P0 0]) (.QN "MOST_ROWS" (.int 60)))) S 4 S:=aB (bW (aa (jZ 9) ag) ttt (kN)) jA ttt (Dw (by grind));show cu  9 GZ (aR (nA 9 9) aY (bz t (λz=>by ext z) λ_=>bz i (λ_=>jD ah) λz=>by ext z)) 9
def AF(d:Wa Γ)(e:Bk a)(hl:-r.2<64)(f:∀s∈a,keyOf s≠keyOf r):d8 Γ ji (ji.body.drop 1) [Pz a b,.str r.1,.tup (r.2.map .str)]\.ok (.io,.tup [.str "NoRow",Pz a b]):=by let c:=d a r e hl;rw[nz.mpr f]at c;show let S:=putSt a b r (b6 (oL []));?_;let t:Run (O0 Γ (.cmp .eq OX _)) S 4 S:=aB (aw 9) j3 ∅ 9;show cu  9 GZ (aR (aM (aa (jZ 9) (aa (nA 9 9) ag)) ttt c) aS (bz t (λ_=>jD ah) λz=>by ext z)) 9
end K
namespace TM
open PySem L2 O1
def gw(d:-b=a.np)(hs:start b a.ns=st0)(h:Run (execs Γ a.body) st0 (.rt .io (.str c)) st):aV Γ a b\.exc c:=by subst hs;unfold aV;rw[if_pos d,h]
def xv(b:Run (bw Γ c) st a st)(d:aU a st)(e:Γ f (a.map (·.2))\.ok (.loc,u)):Run (PQ Γ (.call f c)) st (.inl (.loc,u)) st:=by show ae b (ae (bc d) ?_);change mi Γ f _ st=_;unfold mi;rw[e]
def kY(b:Run (bw Γ d) st a st)(e:aU a st)(g:Γ f (a.map (·.2))\.exc c):Run (PQ Γ (.call f d)) st (.inr c) st:=by show ae b (ae (bc e) ?_);change mi Γ f _ st=_;unfold mi;rw[g]
def OA(a:Run (ev Γ e) st (.loc,x) st)(b:Run (PQ Γ r) st (.inl (.loc,y)) st):Run (PQ Γ (.tup e r)) st (.inl (lT [x,y])) st:=ae a (ae b (ae (bc  ttt) (9)))
def Nc(a:Run (ev Γ e) st x st)(b:Run (PQ Γ r) st (.inr c) st):Run (PQ Γ (.tup e r)) st (.inr c) st:=ae a (ae b aK)
def HM(a:Run (ev Γ e) st x st)(b:Run (PQ Γ r) st (.inl y) st)(c:aU [x,y] st)(h:st[i]?\b6 (.A',.ob d u g))(j:Γ f [.ob d u g,x.2,y.2]\.ok (k,.tup [w,.ob d l n]))(o:r9 k w\p):Run (PQ Γ (.UN d f m i e r)) st p (st.set i (b6 (.A',.ob d l n))) :=ae (DC h) (ae a (ae b (ae (bc c) (sW  h 9 j o))))
def KN(a:Run (ev Γ e) st x st)(b:Run (PQ Γ r) st (.inr c) st)(h:st[i]?\b6 (.A',.ob d u g)):Run (PQ Γ (.UN d f m i e r)) st (.inr c) st:=ae (DC h) (ae a (ae b aK))
def KO(h:Run (PQ Γ r) st (.inr c) a):Run (execs Γ (.Si r::b)) st (.rt .io (.str c)) a:=uX (ae h aK)
def KP{j k}(h:Run (PQ Γ r) st (.inr c) a)(hl:e.lookup c\d)(g:a[j]?\ef)(i:j≠k)(l:Run (fD k (.loc,.lst (d.map .bl))) a () b)(m:Run (execs Γ n) b f o):Run (execs Γ (.T6 r x e j k p::n)) st f o:=by
 show fF (ae h ?_) m;unfold BV
 dsimp only
 rw[hl];change BU j k d a=_;unfold BU;rw[g];show(if_pos i).trans (ae l aK)
def DV(h:wb x=4):-x<=11:=by
 let hs:∀{l:↑8},b_ l=4->-l<=0x8:=λh=>((cj _).mp h).2.1;unfold wb at h;split at h
 .rename_i c;rw[dt]at h;let(a,b,e,d):=cw c;let f:=O1.gB e d;rw[show("/":Str)=⟨#v[47]⟩ from rfl,f]at h;let k:=hs h.1;let g:∀n:_root_.Fin 98,-fA (2+n)<=2:=by decide +kernel
  let m:-b<=2:=by let z:=h.2;unfold isNum at z;rw[QL]at z;let(j,i,e):=z;let:=g #[j,uk.mp i];rw[of_decide_eq_true e,len_list]at this;lia
  rw[len_list,e]
  grind
 let:=hs h;rw[len_list];lia
def qU:cS .eq (.tup (a.map U.str)) (.tup [])\eL (a=[]):=by erw[cS];rw[if_pos #[by simp[P1,dP],by rfl]];cases a<;>simp[cC,c7]
def kZ{x:5}(h:bA (~~~x)):∀c∈(~~~x),47<=c:=by
 let d:∀n:_root_.Fin 100,∀c∈(~~~(fA n)),47<=c:=by decide +kernel
 obtain h|⟨a,b,k,e,h,j,l,m⟩:=h
 .let(f,g,i):=(cj _).mp h
  grind
 let(f,g,i):=(cj _).mp h;rw[e];intro c hc;obtain hc|hc:=my.mp hc
 .grind
 obtain rfl|hc:=gb.mp hc
 .decide
 let:=d #[k.toNat,7] c
 grind
def tl(r:Row):↑5:=if r.2=[] then [("*":5)] else r.2
def bG(r:Row):5:=r.1++(" = ":5)++Ds " " (tl r)
structure RowW(r:Row):6 where
 Qn:-r.2<=0x9
 w1:bA (~~~r.1)
 w2:∀x∈r.2,bA (~~~x)
def fO(h:RowW r):1<=-tl r/\-tl r<=0x9:=by
 unfold tl;split
 .simp
 rename_i z;show#[ē λe=>z (Td e),h.Qn]
def DW(h:RowW r):∀x∈tl r,(~~~x)≠[]/\-x<=11/\∀c∈(~~~x),42<=c:=by
 intro x a;unfold tl at a;split at a
 .rw[mN.mp a];show#[by decide +kernel,by decide +kernel,by decide +kernel]
 let b:=h.w2 x a;let:=b.len;show#[λz=>by left,by show this.2,λc d=>by let:=kZ b c d;lia]
def gy(h:RowW r):∀x∈r.1::("=":5)::tl r,(~~~x)≠[]/\-x<=11/\∀c∈(~~~x),42<=c:=by
 intro x hx;obtain rfl|hx:=gb.mp hx
 .let:=h.w1.len;show#[λz=>by left,by show this.2,λc a=>by let:=kZ h.w1 c a;lia]
 obtain rfl|hx:=gb.mp hx
 .show#[by decide +kernel,by decide +kernel,by decide +kernel]
 show DW h x hx
def jk(h:RowW r):bG r=Ds #[#v[32]] (r.1::("=":5)::tl r):=by show TM.dZ ?_;let e:(~~~(Ds " " (tl r)))=jl 32 _:=dJ 32 _;rw[bG,cV,cV,e,dJ];let hl:=(fO h).1;cases q:tl r with|nil=>left|cons y a=>rw[RA];rfl
def xx(h:RowW r):rD (bG r) #[#v[32]]=r.1::("=":5)::tl r:=by rw[jk h];show pH (QC _ _) (λx a=>(gy h x a).1) λx a b=>by let:=(gy h x a).2.2 32 b;lia
theorem DX:∀{e},d∈jl c e->d=c\/∃x∈e,d∈(~~~x)
 |[],h=>by ext h|[x],h=>.inr #[x,by simp,h]|x::y::r,h=>by
  obtain h|h:=my.mp h
  .show .inr #[x,by simp,h]
  obtain h|h:=gb.mp h
  .show .inl h
  obtain h|⟨z,a,b⟩:=DX h
  .show .inl h
  show .inr #[z,ib _ a,b]
def gV(h:RowW r):(~~~(bG r))≠[]/\-bG r<=140/\∀c∈(~~~(bG r)),32<=c:=by
 let e:=jj (sep:=#[#v[32]])   (λx f=>(gy h x f).2.1) 9 (by let:=(fO h).2;grind);rw[jk h];show#[λz=>?_,pe e.2 (by let:=(fO h).2;grind),λc d=>?_]
 .rw[dJ]at z;show absurd z (by change (~~~r.1)++32::_≠[];simp)
 rw[dJ]at d;obtain rfl|⟨x,a,b⟩:=DX d
 .simp
 let:=(gy h x a).2.2 c b;lia
def textOf(a:↑Row):5:=Ds #[#v[10]] (a.map bG)
def vk(h:∀r∈a,RowW r)(hl:-a<=60):ZZ ⟨#v[10]⟩ (a.map bG)=4/\-textOf a<=10000:=by
 let b:=jj (sep:=#[#v[10]])   (λx c=>by let(r,d,rfl):=mn.mp c;show(gV (h r d)).2.1) 9 (by grind)
 show#[b.1,pe b.2 (by grind)]
def xy(h:∀r∈a,RowW r)(d:a≠[]):rD (textOf a) ⟨#v[10]⟩=a.map bG:=by
 show pH (by exists d) (λx b=>?_) λx b e=>?_
 .let(r,c,rfl):=mn.mp b;show(gV (h r c)).1
 let(r,c,rfl):=mn.mp b;let:=(gV (h r c)).2.2 10 e;lia
def AG(h:∀r∈a,RowW r):Ĵ (textOf a) "\n" ";"=Ds ";" (a.map bG):=by
 by_cases b:a=[]
 .subst b;decide +kernel
 rw[show("\n":Str)=⟨#v[10]⟩ from rfl,StrLaws.replace_one,xy h b];show(Û _ _).symm
noncomputable def iQ(a:↑5):Option ↑5:=if a=[("*":5)] then b6 [] else if a.all wb=4 then b6 a else ef
def lQ:↑5->Option Row
 |w::e::t::a=>if (wb w&&eL (e=("=":5)))=4 then(iQ (t::a)).map λb=>(w,b) else ef
 |_=>ef
def s_(x:5):Option Row:=lQ (rD x #[#v[32]])
def y9(h:lQ L\r)(hl:-L<=40):Rw r:=by
 unfold lQ at h;split at h
 .rename_i w e t d;split at h
  .rename_i b;rw[dt]at b;rw[i0]at h;let(c,a,rfl):=h;let k:-c<=⇑(t::d)/\∀x∈c,wb x=4:=by
    unfold iQ at a;split at a
    .simp_all
    split at a
    .rename_i q;ext a;show#[gs _,nH.mp q]
    ext a
   show#[?_,pe (DV b.1) 7,λy f=>pe (DV (k.2 y f)) 7]
   grind
  grind
 grind
def DY(h:RowW r):s_ (bG r)\r:=by
 unfold s_;rw[xx h];let hl:=fO h;obtain⟨t,a,e⟩:∃t a,tl r=t::a:=by cases q:tl r with|nil=>left|cons t a=>show#[t,a,9]
 rw[e];change(if (wb r.1&&decide _)=4 then _ else _)=_;rw[ny h.w1,if_pos ⋯,<-e];unfold iQ tl;by_cases b:r.2=[]
 .rw[if_pos b];change b6 _=_;rw[<-b]
 rw[if_neg b,if_neg (λz=>?_),if_pos (nH.mpr λx c=>ny (h.w2 x c))]
 .rfl
 let d:("*":5)∈r.2:=7
 show absurd (kZ (h.w2 _ d) 42 (by decide +kernel)) 7
def vm(a:↑5):O6 (.tup (a.map U.str))=4:=by simp[O6,fb]
def lR(hl:-x<=100000):jn .split (.str x) [(k,.str #[#v[c]])]\oL ((rD x #[#v[c]]).map .str):=Az 9 7 9
def split_len(a:c<256)(hl:-x<=100000)(h:y∈rD x #[#v[c]]):-y<=100000:=by let:=yW h;let:=lO x a;lia
def AH(a:c<256)(hl:-x<=99999):-rD x #[#v[c]]<=100000:=by let:=yX (rD x #[#v[c]]);let:=lO x a;lia
def Nd(a b:α)(r):cut (a::b::r) (b6 2) ef=r:=by unfold cut;rw[HT.tT,Y_ ⋯];rfl
def tf(g:-d=b.np)(h:Wp Γ b.body (start d b.ns) λf _=>f=.rt .io (.str c)):aV Γ b d\.exc c:=let ⟨_,_,a,e⟩:=h;gw g 9 (e▸a)
def Wp.QG(h:Run (ev Γ e) st x a)(q:Q (.rt .io (.str c)) a):Wp Γ (.QG c e::b) st Q:=#[_,_,jD h,q]
def Wp.OB(h:Run (PQ Γ r) st (.inr c) a)(q:Q (.rt .io (.str c)) a):Wp Γ (.Qa r::b) st Q:=#[_,_,lJ h,q]
def Wp.BS(h:Run (PQ Γ r) st (.inl x) a)(c:Run (retS x) a (.rt k u) b)(q:Q (.rt k u) b):Wp Γ (.Qa r::d) st Q:=#[_,_,sX h c,q]
end TM
namespace K
open PySem L2 TM O1 Od KL
def xA(c:cX Γ f){a:↑5}(hs:∀x∈a,-x<=100000)(hl:-a<=100000)(h:Run (ev Γ e) st (aL (a.map .str)) st):Run (ev Γ (.bi .all [.comp 1 df .seq [e] [] (.call f [J'])])) st (bL (a.all wb)) st:=by
 let d:(200000:8)<=ei:=7
 let b:=dQ (cond:=aN Γ []) (elt:=ev Γ (.call f [J'])) (src:=[(aL (a.map .str))]) (st:=st) ttt .any (.inr 9) U.str (λx=>U.bl (wb x)) .loc (λ_=>fm) a [] 7
  (λx b=>#[aM (aa (av 9) ag) ttt (c x (hs x b)),aD])
 rw[z8]at b;let g:QO .all [(oL (a.map λx=>U.bl (wb x)))]\bL (a.all wb):=by let:=sU (k:=.own) (a.map wb);rw[k9,Ę]at this;show this
 show bW (aa (bO (rs:=[(aL (a.map .str))]) (aa h ag) ttt (by change b6 _=_;rw[k9];rfl) b) ag) ttt g
def G1(Γ:Tab):6:=∀a:↑5,-a<=100000->(∀x∈a,-x<=100000)->Γ "read_told" [.lst (a.map .str)]=match iQ a with|some b=>b6 (.ok (lT (b.map .str)))|none=>b6 (.exc "NoText")
def AI(f:cX Γ "is_word")(hl:-a<=100000)(hs:∀x∈a,-x<=100000):aV Γ iO [.lst (a.map .str)]=match iQ a with|some g=>b6 (.ok (lT (g.map .str)))|none=>b6 (.exc "NoText"):=by
 show let S:aq:=[b6 (aL (a.map .str))];?_
 let d:TM.start [.lst _] 1=S:=9;let b:Run (O0 Γ (.cmp .eq J' (.lst [.QN "PICTURE_SIGN" _]))) S _ S :=aB (y:=(oL ([("*":5)].map .str))) (av 9) (bQ (aa jA ag) ttt (ax aD aF) 7) ttt kR
 let c:=iI (Kt (xA f (st:=S) (e:=.var 0) hs hl (av 9)));unfold iQ;by_cases e:a=[("*":5)]
 .rw[decide_eq_true e]at b;rw[if_pos e];show aA 9 (.inr 9) d (sJ b (bx (eN ag ttt aF (mh _)) aO))
 rw[decide_eq_false e]at b;rw[if_neg e];cases q:a.all wb with|true=>rw[q]at c;show aA 9 (.inr 9) d (bz b (λz=>by ext z) λ_=>bz c (λz=>by ext z) λ_=>bx (bW  (aa (av 9) ag) ttt 9) (De (vm a)))|false=>rw[q]at c;show gw 9 d (bz b (λz=>by ext z) λ_=>bz c (λ_=>jD ah) λz=>by ext z)
def KQ(Γ:Tab):6:=∀x:5,-x<=99999->Γ "read_row" [.str x]=match s_ x with|some r=>b6 (.ok (.loc,OS r))|none=>b6 (.exc "NoText")
def DZ(D:cX Γ "is_word")(G:G1 Γ)(H:-x<=99999):aV Γ dX [.str x]=match s_ x with|some r=>b6 (.ok (.loc,OS r))|none=>b6 (.exc "NoText"):=by
 let I:(200000:8)<=ei:=7
 obtain⟨L,m⟩:∃L,rD x #[#v[32]]=L:=#[_,9]
 let p:-L<=100000:=by rw[<-m];show AH 7 H
 let n:∀y∈L,-y<=100000:=λy l=>by rw[<-m]at l;show split_len 7 7 l
 let s:=lR (k:=.loc) (x:=x) (c:=32) 7;rw[m]at s;let gl:=bW (Γ:=Γ) (st:=[b6 (zS x),b6 (oL (L.map .str))]) (f:=.len) (es:=[OM]) (aa (aw 9) ag) ∅ (dG (xs:=L.map U.str));rw[f7]at gl;let g:-L<3->aV Γ dX [.str x]\.exc "NoText":=λh=>tf 9 (Wp.set (eh (af 9) (aa ah ag) ttt s) aS (Wp.yes (iJ (qJ (aB gl ah ttt (g_ (decide_eq_true 7))))) 9 (Wp.QG ah 9)));let J:s_ x=lQ L:=by unfold s_;rw[m]
 rw[J]
 match L,g,gl,p,n with
 |[],g,_,_,_=>show g 7|[_],g,_,_,_=>show g 7|[_,_],g,_,_,_=>show g 7|w::e::t::d,_,gl,p,n =>
  show let S:aq:=[b6 (zS x),b6 (oL ((w::e::t::d).map .str))];?_
  let v:Run (ev Γ (.idx OM cO)) S (zS w) S:=aI (aw 9) ah ∅ (aG (bo (j:=0) 9));let z:=iJ (yM (aB (op:=.lt) (b:=cI 3) gl ah ttt (g_ (decide_eq_false 7))) (gp (iI (gN (aa v ag) ttt (D w (n w 7)) 9)) λ_=>g9 (aB (op:=.ne) (a:=.idx OM cA) (b:=.cst (.str "=")) (x:=(zS e)) (aI (aw 9) ah ∅ (aG (bo (j:=1) 9))) ah ttt Dx)));rw[show lQ (w::e::t::d)=if (wb w&&eL (e=("=":Str)))=c4 then(iQ (t::d)).map λA=>(w,A) else ef from rfl];let set {Q:Fl->aq->6} (h:Wp Γ (dX.body.drop 1) S Q):Wp Γ dX.body (TM.start [.str x] 2) Q:=Wp.set (eh (af 9) (aa ah ag) ttt s) aS h;cases q:(wb w&&eL (e=("=":5))) with
  |false=>show tf 9 (set (Wp.yes z (by rw[<-å,q];rfl) (Wp.QG ah 9)))
  |true =>
   let N:jP (.bor 1,.lst ((w::e::t::d).map .str)) (b6 2) ef\oL ((t::d).map .str):=by change b6 (oL (cut ((w::e::t::d).map U.str) (b6 2) ef))=_;rw[lx,lx,Nd]
   let B:=gk (Γ:=Γ) (aw (i:=1) (st:=S) 9) (dE (ah (u:=.int 2))) d_ ∅ N;let o:=G (t::d) (by erw[l0]at p ⊢;lia) λy l=>n y (by erw[gb]at l ⊢;show .inr (.inr l));rw[if_pos rfl];cases C:iQ (t::d) with
   |none=>rw[C]at o;show tf 9 (set (Wp.no z (by rw[<-å,q];rfl) (Wp.OB (Nc v (kY (aa B ag) ttt o)) 9)))
   |some A=>rw[C]at o;show pI 9 (.inr 9) (set (Wp.no z (by rw[<-å,q];rfl) (Wp.BS (OA v (xv (aa B ag) ttt o)) aO 9)))
def AJ(h:RowW r):aV Γ gP [.tup (r.2.map .str)]\.ok (zS (Ds " " (tl r))):=by
 show let S:aq:=[b6 (lT (r.2.map .str))];?_
 let c:TM.start [.tup (r.2.map .str)] 1=S:=by simp[TM.start,vm,S]
 let a:Run (O0 Γ (.cmp .eq J' _)) S _ S:=aB (af 9) (eN ag ttt aF (mh _)) ttt qU;by_cases e:r.2=[]
 .rw[decide_eq_true e]at a;let b:Ds " " (tl r)="*":=by unfold tl;rw[if_pos e];rfl
  rw[b];show aA 9 (.inr 9) c (sJ a (bx jA aO))
 rw[decide_eq_false e]at a;let b:tl r=r.2:=by unfold tl;rw[if_neg e]
 let d:=jj (sep:=" ")   (λx f=>(DW h x f).2.1) 9 (by let:=(fO h).2;lia);rw[b]at d ⊢;show aA 9 (.inr 9) c (bz a (λz=>by ext z) λ_=>bx (eh ah (aa (af 9) ag) ttt (DG d.1)) aO)
def OC(h:RowW r)(c:Run (ev Γ a) st (zS r.1) st)(d:Run (ev Γ b) st (zS (Ds " " (tl r))) st):Run (ev Γ (.bin .add (.bin .add a (cQ " = ")) b)) st (zS (bG r)) st:=by
 let e:1000<=ei:=7
 let g:=jj (sep:=" ")   (λx f=>(DW h x f).2.1) 9 (by let:=(fO h).2;lia);let i:=(fO h).2;let j:-r.1<=11:=by show h.w1.len.2
 let k:⇑(" = ":5)=3:=by rfl
 show aT (aT c ah ttt (eU 7)) d ttt (eU (by rw[str_len];lia))
def AK(h:∀r∈a,RowW r)(hl:-a<=60)(d:∀r∈a,Γ "shown_told" [.tup (r.2.map .str)]\.ok (zS (Ds " " (tl r)))):aV Γ sY [tR a]\.ok (zS (textOf a)):=by
 let f:1000<=ei:=7
 show let S:aq:=[b6 (.loc,tR a)];?_
 let g:TM.start [tR a] 1=S:=by simp[TM.start,O6,cH,S]
 let b:=dQ (cond:=aN Γ []) (elt:=ev Γ (.bin .add (.bin .add (.idx J' cO) _) (.call _ [.idx J' cA]))) (src:=[(.loc,tR a)]) (st:=S) ttt .loc (.inl 9) OS _ .loc (λ_=>fm) a [] (by grind)
  (λr c=>#[OC (h r c) (aI  (af 9) ah ttt 9) (aM (aa (aI  (af 9) ah ttt 9) ag) ttt (d r c)),aD])
 let e:(a.map λr=>U.str (bG r))=(a.map bG).map U.str:=by rw[k9];rfl
 rw[e]at b;let i:QW .seq [(.loc,tR a)]\(a.map λr=>(Kd.loc,OS r)):=by change b6 _=_;rw[k9];rfl
 show aA 9 (.inr 9) g (bx (eh ah (aa (bO  (aa (af 9) ag) ttt i b) ag) ttt (iP (vk h hl).1)) aO)
end K
namespace TM
open PySem L2 O1
def KR(h:Run (dM i) st (k,.str z) st)(d:z≠c)(e:Run (execs Γ g) st f a):Run (execs Γ (.Tt i c b j l::g)) st f a :=fF (ae h (ae (aK) (by rw[if_neg d];rfl))) e
def KS(h:Run (dM i) st (k,.str c) st)(d:Run (ev Γ b) st (e,.str t) a)(hl:-t<=1048576):Run (execs Γ (.Tt i c b c1 c2::ss)) st (.rt .loc (.str (Ĵ t c1 c2))) a :=uX (ae h (ae (aK) (by rw[if_pos rfl];show ae d (ae (aK) (by unfold zR;rw[if_pos hl];rfl)))))
def Nf(c:Run (ev Γ a) st x st)(d:h_ x.2\e)(f:Run (ev Γ b) st y st)(g:h_ y.2\h)(i:BN e h\r):Run (ev Γ (.V0 ln a b)) st r st :=ae c (ae (dC d) (ae f (ae (dC g) (dC i))))
end TM
namespace K
open PySem L2 TM O1 Od KL
structure Gb(rows:↑Row):6 where
 bk:Bk rows
 w:∀r∈rows,RowW r
def Ng(h:Gb a)(b:x∈lw e a):-x<=11:=by
 unfold lw at b;split at b
 .rename_i c;let(r,d,rfl):=mn.mp ((Ň c).wd x b);show(h.w r d).w1.len.2
 grind
def VB(L:↑5):5:=if L=[] then "-" else Ds " " L
def pm(a b:↑5):↑5:=(([("+":5)]++a)++[("-":5)])++b
def chg(K L:↑5):5:=Ds " " (pm (gl K L) (gl L K))
def D0(hl:-L<=200)(h:∀x∈L,-x<=11):ZZ " " L=4:=(jj  h 9 7).1
def xB(hl:-L<64)(h:∀x∈L,-x<=11):aV Γ pD [.lst (L.map .str)]\.ok (zS (VB L)):=by
 show let S:aq:=[b6 (aL (L.map .str))];?_
 let a:Run (O0 Γ (.cmp .eq J' _)) S _ S:=aB (av 9) j3 ttt (kR (b:=[]));show aA (st:=S) 9 (.inr 9) (9) (bz a (λz=>?_) λz=>?_)
 .rw[decide_eq_true_eq]at z;unfold VB;rw[if_pos z];show bx ah aO
 rw[decide_eq_false_iff_not]at z;unfold VB;rw[if_neg z];show bx (eh ah (aa (av 9) ag) ttt (iP (D0 7 h))) aO
def KU(h:x∈gl K L):x∈L:=(W4.mp h).1
def Nh(e:-a<64)(f:-b<64)(c:∀x∈a,-x<=11)(d:∀x∈b,-x<=11):ZZ " " (pm a b)=4:=by
 show D0 (by simp[pm];lia) λx hx=>?_;erw[pm,my,mN]at hx;obtain((rfl|hx)|rfl)|hx:=hx
 .decide +kernel
 .show c x hx
 .decide +kernel
 show d x hx
def OD(g:-a<64)(h:-b<64)(i:∀x∈a,-x<=11)(j:∀x∈b,-x<=11)(m:Run (ev Γ n) st (o,.lst (a.map .str)) st)(p:Run (ev Γ q) st (r,.lst (b.map .str)) st)(t:aU [(o,.lst (a.map .str))] st)(u:aU [(r,.lst (b.map .str))] st):Run (ev Γ (.PY .join (cQ " ") [.bin .add (.bin .add (.bin .add (.lst [(cQ "+")]) n) (.lst [(cQ "-")])) q])) st (zS (Ds " " (pm a b))) st:=by
 let v:1000<=ei:=7
 let c:∀(k:Kd) (l:↑5),eF k (l.map U.str)=4:=λk l=>by simp[eF,fb]
 let one:∀s ,Run (ev Γ _) st (oL ([s].map .str)) st:=λs=>bQ (aa ah ag) ttt (ax aD aF) (by change 1<=ei;lia);let d:=aT (one "+") m (t) (gq 7 (c _ _) (c _ _));rw[<-ro]at d;let e:=aT d (one "-") ttt (gq 7 (c _ _) (c _ _));rw[<-ro]at e;let f:=aT e p (u) (gq 7 (c _ _) (c _ _));rw[<-ro]at f;show eh ah (aa f ag) ttt (iP (Nh g h i j))
structure WL(L:↑5):6 where
 ln:-L<64
 w:∀x∈L,-x<=11
def WL.gl(h:WL L):WL (gl K L):=#[Nat.lt_of_le_of_lt (KI K L) h.ln,λx a=>h.w x (KU a)]
def vn(f:WL (lw c a))(g:WL (lw c b)):aV Γ eJ [Ta c a b]\.ok (zS (chg (lw c a) (lw c b))):=by let d:=WL.gl (K:=lw c a) g;let e:=WL.gl (K:=lw c b) f;show aA 9 (.inr 9) (9) (bx (OD  d.ln e.ln d.w e.w (aI  (av 9) ah ttt 9) (aI  (av 9) ah ttt 9) ttt ttt) aO)
def D4(a:↑Row):5:=Ds ";" (a.map bG)
def AL(hs:Γ "shown" [tb d]\.ok (zS (textOf d)))(h:Gb d):aV Γ a9 [tb d,.str "book"]\.ok (zS (D4 d)):=by
 show let S:aq:=[b6 (.loc,tb d),b6 (zS "book")];?_
 let f:∀c:5,c≠"book"->Run (O0 Γ (.cmp .eq OM (.cst (.str c)))) S df S:=λc g=>by let:=aB (Γ:=Γ) (st:=S) (op:=.eq) (a:=.var 1) (b:=.cst (.str c)) (af 9) ah ttt eW;rw[decide_eq_false g.symm]at this;show this
 let e:=KS (Γ:=Γ) (st:=S) (i:=1) (c:="book") (c1:="\n") (c2:=";") (b:=.call "shown" [J']) (ss:=[.QG "NoText" (cQ "this is nothing that a desk is told")]) (iH 9) (aM (aa (af 9) ag) ttt hs) (by let:=(vk h.w h.bk.ln).2;lia);rw[AG h.w]at e;show aA 9 (.inr 9) (by simp[TM.start,dY,S,O6,a9]) (bz (f "learnt" 7) (λz=>by ext z) λ_=>bz (f "lacks" 7) (λz=>by ext z) λ_=>bz (f "need" 7) (λz=>by ext z) λ_=>e)
def xC(e:LOk d Γ "learnt")(h:Gb c)(hl:Γ "listed" [.lst ((lw d c).map .str)]\.ok (zS (VB (lw d c)))):aV Γ a9 [tb c,.str "learnt"]\.ok (zS (VB (lw d c))):=by
 show let S:aq:=[b6 (.loc,tb c),b6 (zS "learnt")];?_
 let t:=aB (Γ:=Γ) (st:=S)  (a:=.var 1) (b:=.cst (.str "learnt")) (af 9) ah ttt eW;show aA 9 (.inr 9) (by simp[TM.start,dY,S,O6,a9]) (sJ t (bx (aM (aa (aM (aa (af 9) ag) ttt (e c h.bk).2) ag) ttt hl) aO))
def OE{S}(h:S[1]?\b6 (zS x)):Run (O0 Γ (.cmp .eq OM (.cst (.str c)))) S (eL (x=c)) S:=aB (af h) ah ttt eW
def xD{x:5}(d:x≠"learnt")(e:x≠"lacks")(f:x≠"need")(g:x≠"book"):aV Γ a9 [tb a,.str x]\.exc "NoText":=by
 show let S:aq:=[b6 (.loc,tb a),b6 (zS x)];?_
 let b:∀c:5,x≠c->Run (O0 Γ (.cmp .eq OM (.cst (.str c)))) S df S:=λc h=>by
  let:=OE (Γ:=Γ) (S:=S) (x:=x) (c:=c) 9
  rwa [decide_eq_false h]at this
 show gw (st0:=S) 9 (by simp[TM.start,dY,S,O6,a9]) (bz (b _ d) (λz=>by ext z) λ_=>bz (b _ e) (λz=>by ext z) λ_=>bz (b _ f) (λz=>by ext z) λ_=>KR (iH 9) g (jD ah))
def D5(b:Γ "words_of" [tb a]\.ok (oL ((lF a).map .str)))(hl:-lF a<=100)(c:x∉cZ a):aV Γ cW [tb a,.lst [.str x]]\.exc "Unknown":=by
 show let S:aq:=[b6 (.loc,tb a),b6 (aL [.str x])];?_
 let d:x∉bg (lF a):=λz=>c (by let:=(gH _ _).mp z;show(gH _ _).mp ((dc _).mem_iff.mp this))
 let e:BN (bg [x]) (bg (lF a))\lI (1:8):=by change b6 _=_;rw[if_neg d]
 let t:=aB  (st:=S) (op:=.gt) (Nf (ln:=4) (av (i:=1)  9) (qP (ss:=[x]) 7) (aM (aa (af (i:=0) 9) ag) ttt b) (qP 7) e) (ah (u:=.int 0)) ttt 9;show gw  9 (by simp[TM.start,dY,S,O6,cW]) (bz t (λ_=>jD ah) λz=>by ext z)
def wq:↑5:=["round","price","read","under","over","musts","why"]
def pM(a:cX Γ "is_word")(hl:-x<=100000):Run (O0 Γ (.or [.cmp .OR OM (.QN "WORD_QUESTIONS" (.tup [.str "round",.str "price",.str "read",.str "under",.str "over",.str "musts",.str "why"])),.not (.call "is_word" [OW])])) [b6 (.loc,tb rows),b6 (zS q),b6 (zS x)] (eL (q∉wq)||!wb x) [b6 (.loc,tb rows),b6 (zS q),b6 (zS x)] :=
 iJ (gp (aB (af 9) jA ttt (by
  let h:zN (.str q) (.tup (wq.map .str))\eL (q∈wq):=by let b:=u_ (x:=q) (ss:=wq);show b
  change(zN (.str q) (.tup (wq.map .str))).map _=_;left)) λ_=>g9 (iI (gN (aa (af 9) ag) ttt (a x hl) 9)))
def xE(c:cX Γ "is_word")(hl:-x<=100000)(h:q∉wq\/wb x=df):aV Γ cv [tb a,.str q,.str x]\.exc "NoText":=by
 let b:=pM  (rows:=a) (q:=q)  c hl;let e:(eL (q∉wq)||!wb x)=4:=by left
 rw[e]at b;show gw  9 (by simp[TM.start,dY,O6,cv]) (bz b (λ_=>jD ah) λz=>by ext z)
def xF(c:cX Γ "is_word")(hl:-x<=100000)(d:q∈wq)(e:wb x=4)(f:Γ "refuse_unknown" [tb a,.lst [.str x]]\.exc "Unknown"):aV Γ cv [tb a,.str q,.str x]\.exc "Unknown":=by
 show let S:aq:=[b6 (.loc,tb a),b6 (zS q),b6 (zS x)];?_
 let b:=pM  (rows:=a) (q:=q)  c hl;rw[e,decide_eq_false (λz=>z d)]at b;let gl:Run (ev Γ (.lst [OW])) S _ S:=bQ (aa (af 9) ag) ttt (ax aD aF) (by change 1<=ei;decide);show gw  9 (by simp[TM.start,dY,O6,cv]) (bz b (λz=>by ext z) λ_=>KO (kY  (aa (af 9) (aa gl ag)) ttt f))
def Vz(e:8)(o:Option 5)(b a:↑Row)(d:List ↑Row):Option (Ex (Kd×U)):=match o with|none=>b6 (.ok (lT [Ta e b a,Pz a d]))|some c=>b6 (.ok (.io,.tup [.str c,Pz a d]))
def Yo(d:8)(o:Option 5)(b a:↑Row)(e:List ↑Row):Option (Ex (Kd×U)):=match o with|none=>b6 (.ok (lT [.str (chg (lw d b) (lw d a)),O4 a e]))|some c=>b6 (.ok (.io,.tup [.str c,O4 a e]))
def KW(c:8)(Γ:Tab):6:=∀a b:↑Row,Gb a->Gb b->Γ "shown_changes" [Ta c a b]\.ok (zS (chg (lw c a) (lw c b)))
def HN(n:KW h Γ)(p:Gb a)(q:Gb b)(i:UP (b6 (.A',O4 a d)::st') js\r)(j:Γ f (Pz a d::r.map (·.2))=Vz h o a b e):∃l k w,(∀g,Run (execs Γ (.Qa (.arg "shown_changes" (.Rc f m 0 js))::g)) (b6 (.A',O4 a d)::st') l (b6 (.A',O4 b e)::st'))/\UQ l\(k,w)/\Yo h o a b e\.ok (k,.tup [w,O4 b e]):=by cases o with|none=>show#[_,.loc,_,λg=>sX (Na (DF    i 9 j 9) ttt (sH (n a _ p q) 9)) aO,9,9]|some c=>show#[_,.io,_,λg=>lJ (KA (DF    i 9 j 9)),9,9]
def vp{e:5}(t:e="put"\/e="take")(j:KW l Γ)(m:Gb c)(n:Gb f)(p:Γ (if e="put" then "Shelf.put" else "Shelf.take") [Pz c d,.str r.1,.tup (r.2.map .str)]=Vz l o c f u):d8 Γ d5 (d5.body.drop 1) [O4 c d,.str e,OS r]=Yo l o c f u:=by
 show let T:aq:=[b6 (zS e),b6 (.loc,OS r)];?_
 let q:bV [O4 c d,.str e,OS r] 3=b6 (.A',O4 c d)::T:=by simp[bV,TM.start,fI,O6,T]
 let s:=aB (Γ:=Γ) (st:=b6 (.A',O4 c d)::T)  (a:=.var 1) (b:=.cst (.str "put")) (af 9) ah ttt eW;obtain rfl|rfl:=t
 .let(v,k,w,g,h,i):=HN   (js:=[(2,0),(2,1)]) (st':=T) j m n 9 p;rw[i];show cu  9 q (bz s (λ_=>g _) λz=>by ext z) h
 let(v,k,w,g,h,i):=HN   (js:=[(2,0),(2,1)]) (st':=T) j m n 9 p;rw[i];show cu  9 q (bz s (λz=>by ext z) λ_=>g _) h
def mM(a:5)(r:Row):5:=a++(" ":5)++bG r
def D6{a:5}(b:a="put"\/a="take"):kb (mM a r) " "=(a,(" ":5),bG r):=by
 let h:32∉(~~~a):=by obtain rfl|rfl:=b<;>decide +kernel
 let e:(~~~(mM a r))=(~~~a)++32::(~~~(bG r)):=by rw[mM,cV,cV,RA];rfl
 rw[show(" ":Str)=⟨#v[32]⟩ from rfl,O1.gB e h]
def D7{a:5}(b:a="put"\/a="take")(h:RowW r):-mM a r<=200/\10∉(~~~(mM a r)):=by
 let hl:=gV h;let e:(~~~(mM a r))=(~~~a)++32::(~~~(bG r)):=by rw[mM,cV,cV,RA];rfl
 let d:-a.cps.toList<=0x4/\10∉(~~~a):=by obtain rfl|rfl:=b<;>decide +kernel
 let c:=hl.2.1;rw[len_list]at c;rw[len_list,e]
 grind
def QY(a:↑Row)(b:List ↑Row)(c:5)(x:Sl):aq:=[b6 (.A',O4 a b),b6 (zS c),x]
def vq:Run (O0 Γ (.or [.not (.UM OM .str),.cmp .isin (cQ "\n") OM])) (QY rows past line ef) (eL (10∈(~~~line))) (QY rows past line ef) :=iJ (yM (iI (c:=4) (HH (af 9) 9)) (g9 (aB ah (af 9) ttt (by change b6 _=_;rw[show Tu "\n" line=decide _ from TM.sZ line 10]))))
def D8:Run (O0 Γ (.cmp .eq OM (cQ "back"))) (QY rows past line ef) (eL (line="back")) (QY rows past line ef):=aB (af 9) ah ttt eW
def Sz(p:5 × 5 × 5):U:=.tup [.str p.1,.str p.2.1,.str p.2.2]
def D9(hl:-a<=1000):Run (ev Γ (.PY .partition OM [(cQ " ")])) (QY b c a ef) (.loc,Sz (kb a " ")) (QY b c a ef):=by
 let d:1000<=ei:=7
 show eh (af 9) (aa ah ag) ttt ?_;change(if (è " "==0)=df/\-a<=ei then _ else _)=_;rw[if_pos #[by rfl,⋯]];rfl
def xG(h:[U.str p.1,.str p.2.1,.str p.2.2][n]?\.str y):Run (ev Γ (.idx OW (.cst (.int (n:8))))) (QY rows past line (b6 (.loc,Sz p))) (zS y) (QY rows past line (b6 (.loc,Sz p))):=aI  (af 9) ah ttt (k_ (bo h))
def G2(h:[U.str p.1,.str p.2.1,.str p.2.2][n]?\.str y):Run (O0 Γ (.cmp .eq (.idx OW (.cst (.int (n:8)))) (.cst (.str c)))) (QY rows past line (b6 (.loc,Sz p))) (eL (y=c)) (QY rows past line (b6 (.loc,Sz p))):=aB (xG h) ah ttt eW
def rA(c:5)(a:↑Row)(b:List ↑Row):Option (Ex (Kd×U)):=b6 (.ok (.io,.tup [.str c,O4 a b]))
def D_(d:10∈(~~~a)):d8 Γ bh (bh.body.drop 1) [O4 b c,.str a]=rA "NoText" b c:=by let t:=vq (Γ:=Γ) (rows:=b) (past:=c) (line:=a);rw[decide_eq_true d]at t;show cu  9 (9) (bz t (λ_=>jD ah) λz=>by ext z) 9
def Ea(h:qa u .str\df)(hs:bV [O4 a b,u] 3=[b6 (.A',O4 a b),b6 (k,u),ef])(c:∀{Γ}{st},st[1]?\b6 (k,u)->Run (ev Γ OM) st (k,u) st):d8 Γ bh (bh.body.drop 1) [O4 a b,u]=rA "NoText" a b:=by let t:Run (O0 Γ (.or [.not _,.cmp .isin (cQ "\n") OM])) [b6 (.A',O4 a b),b6 _,ef] 4 _:=iJ (qJ (iI  (HH (c 9) h)));show cu  9 hs (bz t (λ_=>jD ah) λz=>by ext z) 9
def lU{a:5}(f:10∉(~~~a))(hl:-a<=1000)(g:a≠"back")(h:Run (execs Γ (bh.body.drop 0x4)) (QY b c a (b6 (.loc,Sz (kb a " ")))) i (b6 (.A',O4 d j)::l))(m:UQ i\(k,w)):d8 Γ bh (bh.body.drop 1) [O4 b c,.str a]\.ok (k,.tup [w,O4 d j]):=by let t:=vq (Γ:=Γ) (rows:=b) (past:=c) (line:=a);rw[decide_eq_false f]at t;let e:=D8 (Γ:=Γ) (rows:=b) (past:=c) (line:=a);rw[decide_eq_false g]at e;show cu  9 (9) (bz t (λz=>by ext z) λ_=>bz e (λz=>by ext z) λ_=>aR (D9 hl) aY h) m
def tm(g:kb d " "=(a,(" ":5),b)):Run (O0 Γ (.cmp .eq (.idx OW cA) (cQ ""))) (QY e f d (b6 (.loc,Sz (kb d " ")))) df (QY e f d (b6 (.loc,Sz (kb d " ")))):=by
 let h:=G2 (Γ:=Γ) (rows:=e) (past:=f) (line:=d) (c:="") (p:=kb d " ") (n:=1)  (by rw[g];rfl)
 assumption
def xH(d:kb c " "=(a,(" ":5),b)):Run (O0 Γ (.or [.cmp .eq (.idx OW cO) (cQ "put"),.cmp .eq (.idx OW cO) (cQ "take")])) (QY rows past c (b6 (.loc,Sz (kb c " ")))) (eL (a="put")||decide (a="take")) (QY rows past c (b6 (.loc,Sz (kb c " ")))) :=iJ (gp (G2    (by rw[d];rfl)) λ_=>g9 (G2    (by rw[d];rfl)))
def nB(d:kb c " "=(a,(" ":5),b)):c≠"back":=λz=>by
 rw[z]at d;let e:(kb "back" " ").2.1=" ":=by rw[d]
 show absurd e (by decide +kernel)
def y_{a f b:5}(u:f="put"\/f="take")(g:kb a " "=(f,(" ":5),b))(i:10∉(~~~a))(hl:-a<=1000)(m:Γ "read_row" [.str b]\.ok (.loc,OS r))(j:Γ "Desk.say_deed" [O4 d e,.str f,OS r]=Yo q o d rows' s):d8 Γ bh (bh.body.drop 1) [O4 d e,.str a]=Yo q o d rows' s:=by let h:=xH (Γ:=Γ) (rows:=d) (past:=e) g;rw[show(decide _||decide _)=c4 by left]at h;let k:=xG (Γ:=Γ) (rows:=d) (past:=e) (line:=a) (p:=kb a " ") (n:=0)  (by rw[g];rfl);let t:=xG (Γ:=Γ) (rows:=d) (past:=e) (line:=a) (p:=kb a " ") (n:=2)  (by rw[g];rfl);let l:=xv   (aa t ag) ttt m;cases o with|none=>show lU  i hl (nB g) (bz (tm g) (λz=>by ext z) λ_=>bz h (λ_=>sX (HM   k l ttt 9 j 9) aO) λz=>by ext z) 9|some c=>show lU  i hl (nB g) (bz (tm g) (λz=>by ext z) λ_=>bz h (λ_=>lJ (HM   k l ttt 9 j 9)) λz=>by ext z) 9
def Eb{a e b:5}(l:e="put"\/e="take")(f:kb a " "=(e,(" ":5),b))(h:10∉(~~~a))(hl:-a<=1000)(i:Γ "read_row" [.str b]\.exc "NoText"):d8 Γ bh (bh.body.drop 1) [O4 c d,.str a]=rA "NoText" c d:=by let g:=xH (Γ:=Γ) (rows:=c) (past:=d) f;rw[show(decide _||decide _)=c4 by left]at g;let j:=xG (Γ:=Γ) (rows:=c) (past:=d) (line:=a) (p:=kb a " ") (n:=0)  (by rfl);let k:=xG (Γ:=Γ) (rows:=c) (past:=d) (line:=a) (p:=kb a " ") (n:=2) (y:=b) (by rw[f];rfl);show lU  h hl (nB f) (bz (tm f) (λz=>by ext z) λ_=>bz g (λ_=>lJ (KN   j (kY (aa k ag) ttt i) 9)) λz=>by ext z) 9
def xI(hk:Γ "Shelf.book" [Pz a b]\.ok (lT [tb a,Pz a b])):Run (ev Γ (.Rc "Shelf.book" "book" 0 [])) (QY a b c x) (.loc,tb a) (QY a b c x) :=M_         9 9 hk
def vt{d a b c:5}(h:a≠"put"/\a≠"take")(g:kb d " "=(a,(" ":5),b))(j:10∉(~~~d))(hl:-d<=1000)(hk:Γ "Shelf.book" [Pz e f]\.ok (lT [tb e,Pz e f]))(k:Γ "answer_about" [tb e,.str a,.str b]\.exc c):d8 Γ bh (bh.body.drop 1) [O4 e f,.str d]=rA c e f:=by let i:=xH (Γ:=Γ) (rows:=e) (past:=f) g;rw[decide_eq_false h.1,decide_eq_false h.2]at i;let l:=xG (Γ:=Γ) (rows:=e) (past:=f) (line:=d) (p:=kb d " ") (n:=0)  (by rw[g];rfl);let m:=xG (Γ:=Γ) (rows:=e) (past:=f) (line:=d) (p:=kb d " ") (n:=2)  (by rw[g];rfl);show lU  j hl (nB g) (bz (tm g) (λz=>by ext z) λ_=>bz i (λz=>by ext z) λ_=>lJ (kY (aa (xI hk) (aa l (aa m ag))) ttt k)) 9
def Ec(e:32∉(~~~a)):Run (O0 Γ (.cmp .eq (.idx OW cA) (cQ ""))) (QY b d a (b6 (.loc,Sz (kb a " ")))) 4 (QY b d a (b6 (.loc,Sz (kb a " ")))):=by
 let f:=G2 (Γ:=Γ) (rows:=b) (past:=d) (line:=a) (c:="") (p:=kb a " ") (n:=1)  (by rw[show(" ":Str)=⟨#v[32]⟩ from rfl,O1.iV e];rfl)
 assumption
def Ed{b a:5}(e:32∉(~~~b))(f:10∉(~~~b))(hl:-b<=1000)(g:b≠"back")(hk:Γ "Shelf.book" [Pz c d]\.ok (lT [tb c,Pz c d]))(h:Γ "answer_at_large" [tb c,.str b]\.ok (zS a)):d8 Γ bh (bh.body.drop 1) [O4 c d,.str b]\.ok (lT [.str a,O4 c d]) :=lU  f hl g (bz (Ec e) (λ_=>sX (xv (aa (xI hk) (aa (af 9) ag)) ttt h) aO) λz=>by ext z) 9
def Ee{a c:5}(e:32∉(~~~a))(f:10∉(~~~a))(hl:-a<=1000)(g:a≠"back")(hk:Γ "Shelf.book" [Pz b d]\.ok (lT [tb b,Pz b d]))(h:Γ "answer_at_large" [tb b,.str a]\.exc c):d8 Γ bh (bh.body.drop 1) [O4 b d,.str a]=rA c b d :=lU  f hl g (bz (Ec e) (λ_=>lJ (kY (aa (xI hk) (aa (af 9) ag)) ttt h)) λz=>by ext z) 9
def KY:↑(5 ×↑Bool):=[("NoRow",[df,df,df,df,4,df,4]),("NoText",[4,df,df,df,df,df,4]),("TooMany",[df,df,df,4,df,df,4]),("Unfit",[df,df,4,df,df,df,4]),("Unknown",[df,4,df,df,df,df,4])]
def vv(hs:bV [O4 a b,u] 0x4=[b6 (.A',O4 a b),b6 (k,u),ef,ef])(d:∀{Γ}{st},st[1]?\b6 (k,u)->Run (ev Γ OM) st (k,u) st)(hk:∀st,aU [(k,u)] st)(e:KY.lookup c\f)(g:Γ "Desk.say" [O4 a b,u]=rA c a b):d8 Γ d6 (d6.body.drop 1) [O4 a b,u]\.ok (lT [.lst (f.map .bl),O4 a b]):=by show cu  9 hs (aR j3 aS (KP (Ky      9 (aa (d 9) ag) (hk _) 9 g 9) e 9 7 aY (bx (af 9) aO))) 9
end K
namespace TM
open PySem L2 O1
def OF(a:α)(r):cut (a::r) (b6 1) ef=r:=by unfold cut;rw[HT.tT,Y_ ⋯];rfl
def dq(k)(a:↑5):eF k (a.map U.str)=4:=by unfold eF;rw[fb,ę]
def qV:jP (k,.lst (ss.map .str)) lo hi\oL ((cut ss lo hi).map .str):=GN (dq k ss)
def Ef(hs:aU [(k,.bl b)] st)(h:Run (ev Γ e) st (k,.bl b) st):Run (ev Γ (.idx (.lst [.cst a,.cst c]) (.bi .int [e]))) st (.loc,if b=4 then c else a) st:=by let hl:Run (ev Γ _) st (oL [a,c]) st:=bQ (aa ah (aa ah ag)) ttt (ax aD (ax aD aF)) (by change 2<=ei;decide);let d:Run (ev Γ (.bi .int [e])) st _ st:=bW (aa h ag) hs 9;cases b with|_=>show aI hl d ttt (aG (bo  9))
end TM
namespace K
open PySem L2 TM O1 Od KL
def lb(a:↑Row):U:=.lst (a.map OS)
def Sn(a:↑Row)(r:Row):Bool:=a.any λs=>Tb s r
def G3(Γ:Tab):6:=∀(a:↑Row) (x:Row),(∀s∈a,-s.2<=0x8)->-a<=100->-x.2<=40->Γ "_law_stands" [lb a,OS x]\.ok (bL (Sn a x))
def xJ(h:∀s∈a,-s.2<=0x8)(hl:-a<=100)(n:-r.2<=40):aV Γ gQ [lb a,OS r]\.ok (bL (Sn a r)):=by
 let i:(1000:8)<=ei:=7
 show let b:Sl:=b6 (.any,lb a);?_;show let c:Sl:=b6 (.loc,OS r);?_;let j:TM.start [lb a,OS r] 2=[b,c]:=by simp[TM.start,fI,lb,O6,b,c]
 let d:∀(k:Kd) (x:Row),mU (k,OS x) (.int 0)\(kE k,.str x.1):=λ_ _=>9;let f:∀(k:Kd) (x:Row),mU (k,OS x) (.int 1)\_:=λ_ _=>9;let l:=jU (cond:=aN Γ [.and [.cmp .eq (.idx J' cO) (.idx OW cO),.cmp .eq (.bi .sorted [.idx J' cA]) (.bi .sorted [.idx OW cA])]]) (elt:=ev Γ J') (src:=[(.any,lb a)]) (st:=[b,c]) ttt .any (.inr 9) OS OS (λs=>Tb s r) .any a [] (by grind)
  (λs hs=>by
   let:=h s hs;let e:Tb s r=(eL (s.1=r.1)&&eL (cF s.2=cF r.2)):=by unfold Tb keyOf;simp
   rw[e];show#[di (mD (pk (aB (aI (av 9) ah ttt (d _ s)) (aI (af 9) ah ttt (d _ r)) ttt eW) λ_=>di (aB (bW (aa (aI (av 9) ah ttt (f _ s)) ag) ttt (sorted_strs 7)) (bW (aa (aI (af 9) ah ttt (f _ r)) ag) ttt (sorted_strs 7)) ttt kR))),λ_=>#[av 9,g8 (fI s)]])
 let m:QW .seq [(.any,lb a)]\(a.map λy=>(Kd.any,OS y)):=by change b6 _=_;rw[k9];rfl
 let e:(!(a.filter λs=>Tb s r).isEmpty)=Sn a r:=by unfold Sn;rw[so];simp
 let g:=gu (us:=(a.filter λs=>Tb s r).map OS) (by rw[P1];show y8 47 _);rw[Ù,e]at g;show aA 9 (.inr 9) j (bx (gh (bO (ik:=.seq)  (aa (av 9) ag) ttt m l) j3 ttt g) aO)
def KZ:Option Row->U|some r=>OS r|none=>.OP
def AM(n:cX Γ "_law_is_word")(hl:-L<=1000)(hs:∀x∈L,-x<=100000):aV Γ gS [.lst (L.map .str)]\.ok (.loc,KZ (lQ L)):=by
 let p:(2000:8)<=ei:=7
 let gl:=bW (Γ:=Γ) (st:=[b6 (aL (L.map .str))]) (f:=.len) (es:=[J']) (aa (av 9) ag) ttt (dG (xs:=L.map U.str));rw[f7]at gl;show pI 9 (.inr 9) ?_
 match L,gl with
 |[],gl=>show Wp.yes (iJ (qJ (aB gl ah ttt (g_ 9)))) 9 (Wp.ret ah aO 9)|[_],gl=>show Wp.yes (iJ (qJ (aB gl ah ttt (g_ 9)))) 9 (Wp.ret ah aO 9)|[_,_],gl=>show Wp.yes (iJ (qJ (aB gl ah ttt (g_ 9)))) 9 (Wp.ret ah aO 9)|w::e::t::c,gl =>
  show let S:aq:=[b6 (aL ((w::e::t::c).map .str))];?_
  let h:Run (ev Γ (.idx J' cO)) S (.any,.str w) S:=aI (av 9) ah ttt (aG (bo (j:=0) 9));let g:=gk (Γ:=Γ) (st:=S) (av (i:=0) 9) (dE (ah (u:=.int 2))) d_ ttt (qV (k:=.any) (ss:=w::e::t::c));rw[Nd]at g;let l:lQ (w::e::t::c)=if (wb w&&eL (e=("=":5)))=4 then(iQ (t::c)).map λr=>(w,r) else ef:=9
  rw[l];show Wp.if2 (iJ (yM (aB gl ah ttt (g_ (decide_eq_false 7))) (gp (aB (b:=.cst (.str "=")) (aI (av 9) ah ttt (aG (bo (j:=1) 9))) ah ttt Dx) λ_=>g9 (iI (gN (aa h ag) ttt (n w (hs w 7)) 9))))) (λq=>?_) λq=>?_
  .rw[<-å,aah,td]at q;rw[q];show Wp.ret ah aO 9
  rw[<-å,aah,Å]at q;rw[q,if_pos rfl];unfold iQ;show Wp.if2 (aB (y:=(oL ([("*":5)].map .str))) g (bQ (aa ah ag) ttt (ax aD aF) (by change 1<=ei;lia)) ttt (kR (a:=t::c) (b:=["*"]))) (λm=>?_) λm=>?_
  .rw[if_pos (of_decide_eq_true m)];show Wp.ret (eN (us:=[.str w,.tup []]) (aa h (aa (eN ag ttt aF (mh _)) ag)) ttt (ax (g8 9) (ax aD aF)) (by change 2<=ei;lia)) aO 9
  rw[if_neg (of_decide_eq_false m)];let d:=jU (cond:=aN Γ [.not (.call "_law_is_word" [J'])]) (elt:=ev Γ J') (src:=[(oL ((t::c).map .str))]) (st:=S) ttt .loc (.inl 9) U.str U.str (λx=>!wb x) .loc (t::c) [] (by simp at hl ⊢;lia)
   (λx d=>#[di (iI (gN (aa (af 9) ag) ttt (n x (hs x (by erw[gb]at d ⊢;show .inr (.inr d)))) 9)),λ_=>#[af 9,aD]])
  rw[z8]at d;let o:=gu (us:=((t::c).filter λx=>!wb x).map U.str) (by rw[P1];show dP _ _);let s:(!((t::c).filter λx=>!wb x).isEmpty)=!(t::c).all wb:=by
   congr 1
   rw[so,M',Ud,nH];erw[td,Bool.not_eq_false]
  rw[Ù,s]at o;show Wp.if2 (aB (bO (ik:=.seq) (rs:=[(oL ((t::c).map .str))]) (aa g ag) ttt (by change b6 _=_;rw[k9];rfl) d) j3 ttt o) (λq=>?_) λq=>?_
  .rw[td]at q;rw[q];show Wp.ret ah aO 9
  rw[Å]at q;rw[q];show Wp.ret (eN (us:=[.str w,.tup ((t::c).map .str)]) (aa h (aa (bW (aa g ag) ttt 9) ag)) ttt (ax (g8 9) (ax aD aF)) (by change 2<=ei;lia)) aO 9
section
variable{Γ:Tab}{rows:List Row}{r:Row}{line a x:5}{L R:List 5}{x3 x4:Sl}
theorem Eg:∀b:↑5,Run (bw Γ (b.map λs=>E.cst (.str s))) st (b.map λs=>(zS s)) st|[]=>ag|s::b=>aa ah (Eg b)
theorem tq:∀b,Run (c8 (b.map λu=>(Kd.loc,u))) st b st|[]=>aF|u::b=>ax aD (tq b)
theorem lV:∀b:↑U,aU (b.map λu=>(Kd.loc,u)) st|[]=>trivial|_::b=>lV b
def iR{ss:↑5}(h:-ss<=100):Run (ev Γ (.lst (ss.map λs=>E.cst (.str s)))) st (oL (ss.map .str)) st:=by
 let b:100<=ei:=7
 let e:(ss.map λs=>(zS s))=(ss.map U.str).map λu=>(Kd.loc,u):=by rw[k9];rfl
 let a:=Eg (Γ:=Γ) (st:=st) ss;rw[e]at a;show bQ a (lV _) (tq _) (by grind)
def tw:↑5:=["back","learnt","lacks","need","book"]
def dU:Option 8->U|some i=>.int (i:8)|none=>.OP
def dS(line:5)(rows:↑Row)(L:↑5)(x3 x4:Sl):aq:=[b6 (zS line),b6 (.any,lb rows),b6 (oL (L.map .str)),x3,x4]
def za(h:eL (10∈(~~~line))=b):Run (O0 Γ (.cmp .isin (cQ "\n") J')) (dS line rows L x3 x4) b (dS line rows L x3 x4):=aB ah (af 9) ttt (by change b6 _=_;rw[show Tu "\n" line=decide _ from TM.sZ line 10,h])
def HP(hl:-line<=1000)(h:Run (execs Γ (bC.body.drop 1)) (dS line rows (rD line #[#v[32]]) ef ef) (.rt .loc u) b):aV Γ bC [.str line,lb rows]\.ok (.loc,u) :=aA  9 (.inr 9) (9) (aR (eh (af 9) (aa ah ag) ttt (lR 7)) aS h)
def K1(hl:-line<=1000)(h:10∈(~~~line)):aV Γ bC [.str line,lb rows]\.ok (.loc,dU (b6 0)) :=HP hl (bz (za (decide_eq_true h)) (λ_=>bx ah aO) λz=>by ext z)
def G4(h:L[i]?\x):Run (ev Γ (.idx OW (.cst (.int (i:8))))) (dS line rows L x3 x4) (zS x) (dS line rows L x3 x4) :=aI (aw 9) ah ∅ (aG (bo 7))
def K2:Run (O0 Γ (.cmp .eq (.idx OW cO) (.cst (.str c)))) (dS line rows (a::R) x3 x4) (eL (a=c)) (dS line rows (a::R) x3 x4):=aB (G4  9) ah ttt eW
def Eh:Run (O0 Γ (.or [.cmp .eq (.idx OW cO) (cQ "put"),.cmp .eq (.idx OW cO) (cQ "take")])) (dS line rows (a::R) x3 x4) (eL (a="put")||decide (a="take")) (dS line rows (a::R) x3 x4) :=iJ (gp K2 λ_=>g9 K2)
def xK(b:5)(rows:↑Row):Option Row->Option 8|none=>b6 0|some r=>if b="take" then(if Sn rows r=4 then ef else b6 0x4) else if (eL (0x8< -r.2)||(!decide r.2.Nodup||Sn rows r))=4 then b6 2 else if 60<=-rows then b6 3 else ef
def Ei(hl:-line<=1000)(h:Wp Γ (bC.body.drop 1) (dS line rows (rD line #[#v[32]]) ef ef) λf _=>f=.rt .loc u):aV Γ bC [.str line,lb rows]\.ok (.loc,u):=let ⟨_,_,a,e⟩:=h;HP hl (e▸a)
def zb(w:cX Γ "_law_is_word")(l:∀L,-L<=1000->(∀x∈L,-x<=100000)->Γ "_law_row_of" [.lst (L.map .str)]\.ok (.loc,KZ (lQ L)))(m:G3 Γ)(n:∀s∈rows,-s.2<=0x8)(o:-rows<=100) (hl:-line<=1000) (p:10∉(~~~line)) (z:a="put"\/a="take") (hs:rD line #[#v[32]]=a::R) (A:-R<=40):aV Γ bC [.str line,lb rows]\.ok (.loc,dU (xK a rows (lQ R))):=by
 let b:∀y∈R,-y<=100000:=λy B=>split_len (x:=line) (c:=32) 7 7 7;let e:=qV (k:=.bor 2) (ss:=a::R) (lo:=b6 1) (hi:=ef);rw[OF]at e;show Ei hl ?_;rw[hs];show Wp.no (za (decide_eq_false p)) 9 (Wp.yes Eh 7 (Wp.set (aM (aa (gk (aw 9) (dE ah) d_ ∅ e) ag) ttt (l R 7 b)) aY ?_));cases ho:lQ R with
 |none=>show Wp.yes (aB (af 9) ah ttt 9) 9 (Wp.ret ah aO 9)|some r =>
  let t:=y9 ho 7;let u:=t.ln;let g:=m rows r n o u;show Wp.no (aB (x:=(.loc,OS r)) (af 9) ah ttt 9) 9 (Wp.if2 K2 (λd=>?_) λd=>?_)
  .show Wp.ret (Ef (k:=.loc) ttt (aM (rs:=[(.any,lb rows),(.loc,OS r)]) (aa (av 9) (aa (af 9) ag)) ttt g)) aO ?_;unfold xK
   dsimp only
   rw[if_pos (of_decide_eq_true d)];split<;>rfl
  show let S:=dS line rows (a::R) (b6 (.loc,OS r)) ef;?_;let i:Run (ev Γ (.idx OX cA)) S (lT (r.2.map .str)) S:=aI (x:=(.loc,OS r)) (af 9) ah ttt 9;let gl:=bW (f:=.len) (aa i ag) ttt (kN (xs:=r.2.map U.str));rw[f7]at gl;let j:=bW (Γ:=Γ) (st:=S) (f:=.len) (es:=[OM]) (aa (av 9) ag) ttt (dG (xs:=rows.map OS));rw[f7]at j;let v:xK a rows (b6 r)=if (eL (0x8< -r.2)||(!decide r.2.Nodup||Sn rows r))=4 then b6 2 else if 60<=-rows then b6 3 else ef:=by
   unfold xK
   dsimp only
   rw[if_neg (of_decide_eq_false d)]
  rw[v];show Wp.if2 (iJ (gp (aB gl ah ttt (jC (c:=eL (0x8< -r.2)) (by rw[so];simp;lia))) λ_=>gp (aB (yK (aa i ag) ttt (pJ 7)) gl ttt (g_ (c:=!decide r.2.Nodup) (by rw[<-yZ,so];simp))) λ_=>g9 (gN (aa (av 9) (aa (af 9) ag)) ttt g 9))) (λq=>?_) λq=>?_
  .rw[if_pos q];show Wp.ret ah aO 9
  rw[if_neg (by rw[q];simp)];show Wp.ret (Ef (k:=.loc) ttt (gh j ah ttt (Dw (c:=eL (60<=-rows)) (by rw[so];simp;lia)))) aO ?_;by_cases h:60<=-rows
  .rw[if_pos h,if_pos (decide_eq_true h)];rfl
  rw[if_neg h,decide_eq_false h];rfl
def Ni(hl:-line<=1000)(b:10∉(~~~line))(c:line∉tw)(d:a≠"put"/\a≠"take")(hs:rD line #[#v[32]]=a::R)(h:Wp Γ (bC.body.drop 0x4) (dS line rows (a::R) ef ef) λf _=>f=.rt .loc u):aV Γ bC [.str line,lb rows]\.ok (.loc,u):=by show Ei hl ?_;rw[hs];show Wp.no (za (decide_eq_false b)) 9 (Wp.no Eh 7 (Wp.no (aB (af 9) (iR (ss:=tw) 7) ttt (u_)) (decide_eq_false c) h))
def Ej(b:line∈tw):aV Γ bC [.str line,lb rows]\.ok (.loc,dU ef):=by
 let d:∀y∈tw,-y<=1000/\10∉(~~~y)/\32∉(~~~y)/\y≠"put"/\y≠"take":=by decide +kernel
 let(hl,e,f,c):=d line b;show Ei hl ?_;rw[cL f];show Wp.no (za (decide_eq_false e)) 9 (Wp.no Eh (by rw[decide_eq_false c.1,decide_eq_false c.2];rfl) (Wp.yes (aB (af 9) (iR (ss:=tw) 7) ttt (u_)) (decide_eq_true b) (Wp.ret ah aO 9)))
def Nj:Run (O0 Γ (.or [.cmp .OR (.idx OW cO) (.lst [(cQ "round"),(cQ "price"),(cQ "read"),(cQ "under"),(cQ "over"),(cQ "musts"),(cQ "why")]),.cmp .ne (.bi .len [OW]) (cI 2)])) (dS line rows (a::R) x3 x4) (eL (a∉wq)||!eL (-R=1)) (dS line rows (a::R) x3 x4):=by
 let h:=bW (Γ:=Γ) (st:=dS line rows (a::R) x3 x4)  (es:=[OW]) (aa (aw 9) ag) ∅ (dG);rw[f7]at h;show iJ (gp (aB (G4  9) (iR (ss:=wq) 7) ttt fq) λ_=>g9 (aB h ah ttt ?_));change b6 (!((⇑(a::R):Int)==2))=_;congr 2
 grind
def Ek(hl:-line<=1000)(b:10∉(~~~line))(c:line∉tw)(d:a≠"put"/\a≠"take")(hs:rD line #[#v[32]]=a::R)(h:a∉wq\/ -R≠1):aV Γ bC [.str line,lb rows]\.ok (.loc,dU (b6 0)):=by show Ni hl b c d hs (Wp.yes Nj ?_ (Wp.ret ah aO 9));left
def Tc(d:↑Row):↑5:=(d.map (·.2)).flatten
def El:Tc (d++[y])=Tc d++y.2:=by simp[Tc]
theorem zc:∀{d},(∀s∈d,-s.2<=0x8)->-Tc d<=0x8 * -d
 |[],_=>mh _|s::d,h=>by
  let:=zc λy b=>h y (ib _ b);let:=h s ki;change(s.2++Tc d).length<=_
  grind
def Nk(o:cX Γ "_law_is_word")(g:∀s∈rows,-s.2<=0x8)(D:-rows<=100)(hl:-line<=1000)(p:10∉(~~~line))(t:line∉tw)(u:a≠"put"/\a≠"take")(hs:rD line #[#v[32]]=[a,x])(h:a∈wq):aV Γ bC [.str line,lb rows]\.ok (.loc,dU (if wb x=4 then(if x∈cZ rows then ef else b6 1) else b6 0)):=by
 let v:(2000:8)<=ei:=7
 let w:-x<=100000:=split_len (x:=line) (c:=32) 7 7 7;show Ni hl p t u hs (Wp.no Nj (by rw[decide_eq_false (λz=>z h)];rfl) (Wp.if2 (iI (gN (aa (G4 (i:=1) 9) ag) ttt (o x w) 9)) (λq=>?_) λq=>?_))
 .rw[if_neg ⋯];show Wp.ret ah aO 9
 rw[if_pos (by exists q)];let e:=dQ (cond:=aN Γ []) (elt:=ev Γ (.idx J' cO)) (src:=[(.any,lb rows)]) (st:=dS line rows [a,x] ef ef) ttt .any (.inr 9) OS (λr=>U.str r.1) .any (λ_=>fm) rows [] (by grind)
  (λr _=>#[aI (x:=(.any,OS r)) (av 9) ah ttt 9,g8 9])
 rw[z8,show(rows.map λr=>U.str r.1)=(rows.map (·.1)).map U.str by rw[k9];rfl]at e;let j:QW .seq [(.any,lb rows)]\(rows.map λy=>(Kd.any,OS y)):=by change b6 _=_;rw[k9];rfl
 show let F:=rows.map (·.1);?_;let G:-F<=100:=by erw[F];left
 show Wp.set (bO (ik:=.seq) (rs:=[(.any,lb rows)]) (aa (av 9) ag) ttt j e) aS (lP (l:=rows) (λr=>(.any,OS r)) (λd s=>∃f,s=dS line rows [a,x] f (b6 (oL ((F++Tc (rows.take d)).map .str)))) (rs:=[(.any,lb rows)]) (aa (av 9) ag) ttt j 9 (λ_ _ _=>ttt) ⟨ef,by simp[Tc,F];rfl⟩ ?_ ?_)
 .rintro d _ y m ⟨f,rfl⟩;let A:∀s∈rows.take d,-s.2<=0x8:=λs hs=>g s (VV hs);let B:=g y (va m);let C:=zc A;let H:-rows.take d<=100:=by rw[R_];lia
  let ad:=gq (k:=.bor 0x4) (k':=.own) (xs:=(F++Tc (rows.take d)).map U.str) (ys:=y.2.map U.str) (by rw[f7,f7,nc];lia) (dq _ _) (dq _ _);rw[<-ro,RA,<-El,show rows.take d++[y]=rows.take (d+1) by rw[ϰ,m];rfl]at ad;show#[_,dF jB,Wp.set (aT (aw 9) (bW (r:=(oL (y.2.map .str))) (aa (aI (x:=(.any,OS y)) (av 9) ah ttt 9) ag) ttt (show(if eF _ (y.2.map U.str)=4 then _ else _)=_ by rw[if_pos (dq _ _)])) ∅ ad) aS #[_,_,bj,9,_,9]]
 rintro _ ⟨f,rfl⟩;rw[ĩ];let n:x∈F++Tc rows↔x∈cZ rows:=by
  rw[pq];erw[F,Tc,my,mn,ϑ];constructor
  .rintro(⟨r,b,h2⟩|⟨l,⟨r,b,rfl⟩,h2⟩)
   .show#[r,b,.inl h2.symm]
   show#[r,b,.inr h2]
  rintro⟨r,b,h2|h2⟩
  .show .inl #[r,b,h2.symm]
  show .inr #[_,#[r,b,9],h2]
 show Wp.ret (Ef (k:=.loc) ttt (gh (G4 (i:=1) 9) (aw 9) ∅ (u_ (x:=x) (ss:=F++Tc rows)))) aO ?_;by_cases h:x∈cZ rows
 .rw[if_pos h,if_pos (decide_eq_true (n.mpr h))];rfl
 rw[if_neg h,decide_eq_false (λz=>h (n.mp z))];rfl
end
end K
namespace TM
open PySem L2 O1
def Bd(n m:8)(x:5):6:=-x<=n/\x.cps.toList.count 32<=m
def Bd.up(h:Bd n m x)(a:n<=b)(c:m<=d):Bd b d x:=#[pe h.1 a,pe h.2 c]
def Bd.app(h:Bd n m x)(a:Bd b c y):Bd (n+b) (m+c) (x++y):=by show#[by rw[str_len];show aad h.1 a.1,?_];rw[cV,List.count_append];show aad h.2 a.2
def tD(h:bA (~~~x)):Bd 11 0 x:=#[by show h.len.2,by rw[θ.mpr λz=>by have:=kZ h 32 z;lia];simp]
theorem k7:∀{l},l≠[]->(∀x∈l,c∉(~~~x))->(jl c l).count c+1=-l
 |[],h,_=>absurd 9 h|[x],_,h=>by change x.cps.toList.count c+1=1;rw[θ.mpr (h x ⋯)]|x::y::r,_,h=>by
  let b:=k7 (QC y r) λz a=>h z (ib _ a);change((~~~x)++c::jl c _).count c+1=⇑(y::r)+1
  grind
def vA(h:Bd n m x):-rD x #[#v[32]]<=m+1:=by rw[<-k7 (fw ⋯) λy a=>split_free a,kX];show Ϩ h.2
def zd(a:∀x∈l,32∉(~~~x)):Bd (Qd l) ⇑l (Ds #[#v[32]] l):=by show#[DI,?_];rw[dJ];cases l with|nil=>show mh _|cons x r=>let:=k7 (QC x r) a;lia
def G5(h:RowW r):Bd 140 10 (bG r):=by
 show#[(gV h).2.1,?_];rw[jk h,dJ];let:=k7  (QC r.1 _) λx a b=>by let:=(gy h x a).2.2 32 b;lia
 let:=(fO h).2;left
def Em{n m p}(h:Bd n m x)(b:p<=-x):Bd n m (Vf x ef (b6 (p:Int))):=by rw[StrLaws.sliceText_to #[⋯,by rw[<-len_list];lia]];let a:=h.1;show#[by show pe (ī (XC _ _)) a,pe (ĳ _ (XC _ _)) h.2]
def xM(x):Vf x (b6 ((-x:8)+1:Int)) ef=Vf x (b6 (-x:8)) ef:=by
 let e:Zl (b6 ((-x:8)+1:Int)) ef 1 ⇑x=Zl (b6 (-x:8)) ef 1 ⇑x:=by
  let a:¬((-x:8)+1:Int)<0:=7
  let b:¬((-x:8):Int)<0:=7
  let c:min ((-x:8)+1:Int) (-x:8)=min ((-x:8):Int) (-x:8):=7
  erw[Zl,if_neg a,if_neg b,c,if_pos (show(1:Int)>0 by decide)]
 unfold Vf;rw[e]
def pN{n m p}(h:Bd n m x)(c:p<=-x+1):Bd n m (Vf x (b6 (p:Int)) ef):=by
 let b:=h.1;let a:∀q:8,q<=-x->Bd n m (Vf x (b6 (q:Int)) ef):=λq d=>by rw[StrLaws.sliceText_from #[⋯,by rw[<-len_list];lia]];show#[by show pe (ī ((XC _ _).trans (Ϗ _ _))) b,pe (ĳ _ ((XC _ _).trans (Ϗ _ _))) h.2]
 by_cases e:p=-x+1
 .subst e;rw[ϲ,show((1:Nat):Int)=1 from rfl,xM x];show a _ (gs _)
 grind
def iS{a b:↑5}(h:-a+ -b<=200000):Rr .add (k,.lst (a.map .str)) (c,.lst (b.map .str))\oL ((a++b).map .str):=by
 let d:200000<=ei:=7
 rw[gq (by grind) (dq k a) (dq c b),ro]
def HQ{a:↑5}:QO .len [(k,.lst (a.map .str))]\lI (-a:8):=by
 let:=dG (k:=k) (xs:=a.map U.str)
 rwa [f7]at this
def En(i){n}(h:0<n):∃j:8,j<n/\i % (n:Int)=(j:Int):=by let a:=í i (show(n:Int)≠0 by lia);let b:=Ç i (show 0<(n:Int) by lia);show#[(i % n).toNat,7,7]
def G6{a:↑5}{j}(h:j< -a):∃y∈a,Px (a.map U.str) (j:Int)\.str y:=#[_,Qx h,bo (by simp[h])]
def pO(k):jP (k,.lst (a.map OS)) lo b\oL ((cut a lo b).map OS):=by erw[jP];rw[if_pos (by unfold eF;rw[cH,ę]),sR]
def xN:-cut xs lo hi<=-xs:=by unfold cut;rw[R_,Zo];lia
def ze(a:↑α)(j:8):-cut a ef (b6 (j:Int))<=j:=by unfold cut;rw[R_];change min (min j _ - 0) _<=j;lia
def tE{a:↑5}:QO .list [(k,.tup (a.map .str))]\oL (a.map .str):=by change(if eF k _=4 then _ else _)=_;rw[if_pos (dq _ _)]
def G7{a:↑5}:uD .Ra [(k,.tup (a.map .str))]\oL (a.reverse.map .str):=by change(if eF k _=4 then b6 _ else ef)=_;rw[if_pos (dq _ _),List.map_reverse]
def Tx(Γ:Tab)(st:aq)(e:E)(n m:8):6:=∃k x,(k=Kd.loc\/k=.any)/\Run (ev Γ e) st (k,.str x) st/\Bd n m x
def tF(h:k=.loc\/k=.any):aU [(k,u)] st:=by obtain rfl|rfl:=h<;>trivial
def pP(h:k=.loc\/k=.any)(b:a=.loc\/a=.any):aU [(k,u),(a,c)] st:=by obtain rfl|rfl:=h<;>obtain rfl|rfl:=b<;>trivial
def Tx.add(f:Tx Γ st a n m)(g:Tx Γ st b c h)(hl:n+c<=5000):Tx Γ st (.bin .add a b) (n+c) (m+h):=by
 let(k,x,i,j,d):=f;let(p,y,l,o,e):=g;let q:5000<=ei:=7
 show#[.loc,_,.inl 9,aT j o (pP i l) (eU (by let:=d.1;let:=e.1;lia)),d.app e]
def Tx.cst(h:Bd n m x):Tx Γ st (.cst (.str x)) n m:=#[.loc,x,.inl 9,ah,h]
def Tx.up(h:Tx Γ st a n m)(b:n<=c)(d:m<=e):Tx Γ st a c e:=let ⟨k,x,f,g,i⟩:=h;⟨k,x,f,g,i.up b d⟩
theorem Txs:∀{b},(∀e∈b,Tx Γ st e n m)->∃(c:↑(Kd×U)) (a:↑5),Run (bw Γ b) st c st/\aU c st/\Run (c8 c) st (a.map U.str) st/\-a=-b/\∀x∈a,Bd n m x
 |[],_=>#[[],[],ag,ttt,aF,9,by simp]|e::b,h=>by
  let(k,x,d,g,i):=h e ki;let(c,a,j,l,f,o,p):=Txs λy hy=>h y (ib _ hy);show#[_,x::a,aa g j,?_,?_,by simp[o],λy hy=>?_]
  .rcases d with rfl|rfl<;>show l
  .rcases d with rfl|rfl
   .show ax aD f
   show ax (g8 9) f
  obtain rfl|hy:=gb.mp hy
  .show i
  show p y hy
def Tx.lst(h:∀e∈b,Tx Γ st e n m)(hl:-b<=1000):∃a:↑5,Run (ev Γ (.lst b)) st (oL (a.map .str)) st/\-a=-b/\∀x∈a,Bd n m x:=by
 let(j,a,c,d,f,g,i):=Txs h;let k:1000<=ei:=7
 show#[a,bQ c d f (by grind),g,i]
def Tx.OG(a:st[i]?\b6 (oL (d.map .str)))(h:k=.loc\/k=.any)(g:Run (ev Γ e) st (k,.str x) st)(hl:-d<=1000)(b:Run (execs Γ j) (st.set i (b6 (oL ((d++[x]).map .str)))) f c):Run (execs Γ (.app i e::j)) st f c:=by
 let l:1000<ei:=7
 rw[ro]at b;obtain rfl|rfl:=h
 .show mE    a g aD a 9 (by rw[f7];lia) b
 show mE    a g (g8 9) a 9 (by rw[f7];lia) b
section
variable{Γ:Tab}{st:aq}{ss:List S}{i n m:8}{e:E}{us:List 5}{Q:Fl->aq->6}
structure SlT(n m:8)(o:Sl):6 where
 h:∃k x,(k=Kd.loc\/k=.any)/\o\(k,.str x)/\Bd n m x
def Tx.var(a:st[i]?\o)(h:SlT n m o):Tx Γ st (.var i) n m:=by
 let(k,x,hk,rfl,b):=h;obtain rfl|rfl:=hk
 .show#[_,x,.inl 9,af a,b]
 show#[_,x,.inr 9,av a,b]
def Wp.Nl(h:Tx Γ st e n m)(a:∀o,SlT n m o->Wp Γ ss (st.set i o) Q):Wp Γ (.set i e::ss) st Q:=by
 let(k,x,hk,b,c):=h;show Wp.set b ?_ (a _ #[k,x,hk,9,c]);obtain rfl|rfl:=hk
 .show aY
 show jB
structure Tl(N M a b:8)(us:↑5):6 where
 ge:a<=-us
 le:-us<=b
 bd:∀x∈us,Bd N M x
def Tl.up{N M a b c d}(h:Tl N M a b us)(f:c<=a)(g:b<=d):Tl N M c d us:=#[pe f h.ge,pe h.le g,h.bd]
abbrev QZ(us:↑5):Sl:=b6 (oL (us.map .str))
def Wp.app{N M a b}(g:st[i]?\QZ us)(c:Tl N M a b us)(v:b<=100)(h:Tx Γ st e n m)(j:n<=N)(l:m<=M)(o:∀d,Tl N M (a+1) (b+1) d->Wp Γ ss (st.set i (QZ d)) Q):Wp Γ (.app i e::ss) st Q:=by let(k,x,hk,r,t):=h;let(f,s,p,q):=o _ #[by simpa using c.ge,by simpa using c.le,λy u=>(my.mp u).elim (c.bd y) λz=>mN.mp z▸t.up j l];show#[f,s,Tx.OG g hk r (by let:=c.le;lia) p,q]
def Yq(Γ:Tab)(st:aq)(N M:8):↑E->6|[]=>True|e::a=>Tx Γ st e N M/\Yq Γ st N M a
theorem Yq.all{N M}:∀{a},Yq Γ st N M a->∀e∈a,Tx Γ st e N M
 |e::a,h,x,hx=>by
  obtain rfl|hx:=gb.mp hx
  .show h.1
  show h.2.all x hx
def Wp.K3(N M)(h:Yq Γ st N M d)(hl:-d<=100)(g:∀f,Tl N M ⇑d ⇑d f->Wp Γ ss (st.set i (QZ f)) Q):Wp Γ (.set i (.lst d)::ss) st Q:=by let(j,a,b,c):=Tx.lst h.all 7;show Wp.set a aS (g j #[7,7,c])
def Ix(Γ:Tab)(st:aq)(e:E)(n:8):6:=∃j:8,j<n/\Run (ev Γ e) st (lI j) st
def Ix.mod(hk:k=.loc\/k=.any)(h:Run (ev Γ a) st (k,.int d) st)(c:Run (ev Γ b) st (lI (n:8)) st)(f:0<n):Ix Γ st (.bin .mod a b) n:=by let(j,g,l):=En d f;show#[j,g,by rw[<-l];show aT h c (pP hk (.inl 9)) (bR 7)]
def Wb{ds:↑Int}{z:Int}(b:st[i]?\b6 (aL (ds.map .int)))(c:0<=z/\z< -ds):∃d∈ds,Run (ev Γ (.idx (.var i) (cI z))) st (.any,.int d) st:=by
 let(j,rfl):=WD c.1;let a:j< -ds:=7
 show#[_,Qx a,aI (av b) ah ttt (aG (by let:=cE a;rwa [Sk a]at this))]
def Ix.d{a:↑Int}{b}{z:Int}(c:st[0]?\b6 (aL (a.map .int)))(f:Run (ev Γ b) st (lI (n:8)) st)(g:0<=z/\z< -a)(j:0<n):Ix Γ st (.bin .mod (.idx J' (cI z)) b) n :=let ⟨_,_,h⟩:=Wb c g;.mod (.inr 9) h f j
def Wp.K4(h:Ix Γ st e n)(c:∀j,j<n->Wp Γ ss (st.set i (b6 (lI j))) Q):Wp Γ (.set i e::ss) st Q:=let ⟨j,a,b⟩:=h;Wp.set b aY (c j a)
def Eo(a:st[i]?\QZ us):Run (ev Γ (.bi .len [.var i])) st (lI (-us:8)) st:=bW (aa (aw a) ag) #[#[.own,9,a],ttt] HQ
def Nm(a:st[i]?\b6 (aL (us.map .str))):Run (ev Γ (.bi .len [.var i])) st (lI (-us:8)) st:=bW (aa (av a) ag) ttt HQ
def len_T(a:st[i]?\b6 (zS x))(h:-x<=1000):Run (ev Γ (.bi .len [.var i])) st (lI (-x:8)) st:=bW (aa (af a) ag) ttt (len_str 7)
def Tx.Wc(a:st[i]?\QZ us)(h:Ix Γ st e ⇑us)(b:∀x∈us,Bd n m x):Tx Γ st (.idx (.var i) e) n m:=by let(j,c,d):=h;let(y,f,g):=G6 c;show#[.loc,y,.inl 9,aI (aw a) d #[#[.own,9,a],ttt] (aG g),b y f]
def Tx.ixA(a:st[i]?\b6 (aL (us.map .str)))(h:Ix Γ st e ⇑us)(b:∀x∈us,Bd n m x):Tx Γ st (.idx (.var i) e) n m:=by let(j,c,d):=h;let(y,f,g):=G6 c;show#[.any,y,.inr 9,aI (av a) d ttt (aG g),b y f]
def Ix.up(h:Ix Γ st e n)(d:n<=c):Ix Γ st e c:=let ⟨j,a,b⟩:=h;⟨j,7,b⟩
def Wp.Wc(a:st[i]?\QZ us)(h:Ix Γ st e ⇑us)(b:∀x∈us,Wp Γ ss (st.set j (b6 (zS x))) Q):Wp Γ (.set j (.idx (.var i) e)::ss) st Q:=by let(l,c,d):=h;let(y,f,g):=G6 c;show Wp.set (aI (aw a) d #[#[.own,9,a],ttt] (aG g)) aY (b y f)
def Wp.ixA(a:st[i]?\b6 (aL (us.map .str)))(h:Ix Γ st e ⇑us)(b:∀x∈us,Wp Γ ss (st.set j (b6 (.any,.str x))) Q):Wp Γ (.set j (.idx (.var i) e)::ss) st Q:=by let(l,c,d):=h;let(y,f,g):=G6 c;show Wp.set (aI (av a) d ttt (aG g)) jB (b y f)
def Wp.OH(h:Tx Γ st e n m)(a:∀x,Bd n m x->Q (.rt .loc (.str x)) st):Wp Γ (.ret e::ss) st Q:=by
 let(k,x,hk,b,c):=h;show Wp.ret b ?_ (a x c);obtain rfl|rfl:=hk
 .show aO
 show De 9
def Ix.cst{z:Int}(h:0<=z/\z<n):Ix Γ st (cI z) n:=by let(j,rfl):=WD h.1;show#[j,7,ah]
def Tx.str:Tx Γ st (.cst (.str x)) ⇑x (x.cps.toList.count 32):=.cst #[gs _,gs _]
def Ep(c:Run (ev Γ e) st (k,.str x) st)(hk:k=.loc\/k=.any)(d:Run (SV Γ lo) st a st)(f:Run (SV Γ g) st b st)(h:Bd n m (Vf x a b))(j:-x<=1000):Tx Γ st (.Pf e lo g) n m:=by
 let l:1000<=ei:=7
 show#[.loc,_,.inl 9,gk c d f (tF hk) (by change(if -x<=ei then _ else _)=_;grind),h]
def Tx.to(b:st[i]?\b6 (zS x))(c:st[j]?\b6 (lI (p:8)))(a:Bd 160 12 x)(d:p< -x+1):Tx Γ st (.Pf (.var i) [] [.var j]) 160 12:=Ep (af b) (.inl 9) d_ (dE (af c)) (Em a 7) (by let:=a.1;lia)
def Tx.fr(b:st[i]?\b6 (zS x))(c:st[j]?\b6 (lI (p:8)))(a:Bd 160 12 x)(d:p< -x+1):Tx Γ st (.Pf (.var i) [.var j] []) 160 12:=Ep (af b) (.inl 9) (dE (af c)) d_ (pN a 7) (by let:=a.1;lia)
def Tx.ch(a:st[i]?\b6 (zS x))(h:Ix Γ st e ⇑x)(d:-x<=1000):Tx Γ st (.idx (.var i) e) 1 1:=by
 let f:1000<=ei:=7
 let(l,b,c):=h;rw[len_list]at b;show#[.loc,O1.one (~~~x)[l],.inl 9,aI (af a) c ttt (jF 7 (bo 7)),gs _,List.count_le_length]
def Tx.ov(b:st[i]?\b6 (zS x))(c:st[j]?\b6 (lI (p:8)))(a:Bd 160 12 x)(d:p< -x+1):Tx Γ st (.Pf (.var i) [.bin .add (.var j) cA] []) 160 12 :=Ep (af b) (.inl 9) (dE (aT (r:=(lI (p+1:8))) (af c) ah ttt du)) d_ (pN a 7) (by let:=a.1;lia)
def Wl(Γ:Tab)(st:aq)(e:E)(a b:8):6:=∃l:↑5,Run (ev Γ e) st (oL (l.map .str)) st/\(∀x∈l,32∉(~~~x))/\Qd l<=a/\-l<=b
def Wl.add(h:Wl Γ st e a b)(d:Wl Γ st f g c)(s:b+c<=1000):Wl Γ st (.bin .add e f) (a+g) (b+c):=by let(l,j,k,t,u):=h;let(v,o,p,w,q):=d;show#[_,aT j o ttt (iS 7),λx r=>(my.mp r).elim (k x) (p x),by rw[nu];lia,by grind]
structure Yr(a b:8)(l:↑5):6 where
 fr:∀x∈l,32∉(~~~x)
 tt:Qd l<=a
 le:-l<=b
 ge:0< -l
def Yr.split(a:Bd n m x):Yr (n+1) (m+1) (rD x #[#v[32]]):=#[λ_ h=>split_free h,by rw[lO x ⋯];show Ϩ a.1,vA a,ē λz=>fw   7 (Td z)]
def Wl.Pf{x y}(h:st[i]?\QZ L)(c:Yr a b L)(d:Run (SV Γ lo) st x st)(f:Run (SV Γ g) st y st):Wl Γ st (.Pf (.var i) lo g) a b :=#[_,gk (aw h) d f #[#[.own,9,h],ttt] qV,λx j=>c.fr x (jg j),pe (GV ..) c.tt,pe xN c.le]
def Wl.one(h:st[i]?\b6 (.any,.str x))(a:bA (~~~x)):Wl Γ st (.lst [.var i]) 12 1:=by
 let c:1000<=ei:=7
 show#[[x],bQ  (aa (av h) ag) ttt (ax (g8 9) aF) (by change 1<=ei;lia),λy b z=>?_,?_,gs _]
 .rw[mN.mp b]at z;let:=kZ a 32 z;lia
 let:=(tD a).1;change -x+1+0<=12;lia
def Wl.join(h:Wl Γ st e a b)(k:a<=1000):Tx Γ st (.PY .join (cQ " ") [e]) a b:=by let(l,d,f,g,j):=h;show#[.loc,_,.inl 9,eh ah (aa d ag) ttt (vi (c:=32) 7),(zd f).up g j]
def Wp.OI(h:Wl Γ st e a b)(c:∀l,(∀x∈l,32∉(~~~x))->Qd l<=a->-l<=b->Wp Γ ss (st.set i (QZ l)) Q):Wp Γ (.set i e::ss) st Q:=let ⟨l,d,p,q,r⟩:=h;Wp.set d aS (c l p q r)
def Tx.Nn(h:st[i]?\QZ l)(p:∀x∈l,32∉(~~~x))(q:Qd l<=a)(r:-l<=b)(d:a<=1000):Tx Γ st (.PY .join (cQ " ") [.var i]) a b :=#[.loc,_,.inl 9,eh ah (aa (aw h) ag) #[#[.own,9,h],ttt] (vi (c:=32) 7),(zd p).up q r]
def Tx.call(b:Run (bw Γ c) st a st)(d:aU a st)(g:Bd n m x)(h:Γ f (a.map (·.2))\.ok (zS x)):Tx Γ st (.call f c) n m:=#[.loc,x,.inl 9,aM b d h,g]
end
end TM
namespace TM
open PySem L2
def Er:Run (fE 4 [i,j] (lT [x,y])) st () ((st.set i (b6 (.loc,x))).set j (b6 (.loc,y))):=9
end TM
namespace K
open PySem L2 TM O1 Od KL
section
variable{Γ:Tab}{rows:List Row}{names:List 5}{ds:List Int}{r:Row}{st:aq}
def Ys(a b c:E):E:=.PY .join (cQ " ") [.bin .add (.lst [a,(cQ "=")]) (.bin .add c (.Pf (.lst [(cQ "*")]) [] [.bi .int [.cmp .eq b (.tup [])]]))]
def Es(h:RowW r)(l:b=.loc\/b=.any)(d:Run (ev Γ f) st (b,.str r.1) st)(m:g=.loc\/g=.any)(o:Run (ev Γ p) st (g,.tup (a.map .str)) st)(i:a=[]↔r.2=[])(hl:Run (ev Γ s) st (oL (r.2.map .str)) st):Run (ev Γ (Ys f p s)) st (zS (bG r)) st:=by
 let B:(1000:8)<=ei:=7
 let C:=h.Qn;let t:Run (ev Γ (.lst [f,(cQ "=")])) st (oL ([r.1,"="].map .str)) st:=by
  obtain rfl|rfl:=l
  .show bQ (aa d (aa ah ag)) ttt (ax aD (ax aD aF)) (by change 2<=ei;lia)
  show bQ (aa d (aa ah ag)) ttt (ax (g8 9) (ax aD aF)) (by change 2<=ei;lia)
 let c:Run (ev Γ (.bi .int _)) st _ st:=bW (aa (gh o (eN (rs:=[]) (us:=[]) ag ttt aF (mh _)) (pP m (.inl 9)) qU) ag) ttt 9;let u:=by
  let j:=gk (Γ:=Γ) (st:=st) (bQ   (aa ah ag) ttt (ax aD aF) (by change 1<=ei;lia)) d_ (dE c) ttt (qV  (ss:=[("*":5)]));let e:cut [("*":5)] ef (b6 (if eL (a=[])=4 then 1 else 0))=if r.2=[] then [("*":5)] else []:=by
   by_cases q:a=[]
   .rw[if_pos (decide_eq_true q),if_pos (i.mp q)];rfl
   rw[decide_eq_false q,if_neg λz=>q (i.mpr z)];rfl
  rw[e]at j;show j
 let k:=aT (Γ:=Γ) (st:=st) hl u ttt (iS (by grind));let v:r.2++(if r.2=[] then [("*":5)] else [])=tl r:=by
  unfold tl;by_cases q:r.2=[]
  .simp_all
  left
 rw[v]at k;let w:=aT (Γ:=Γ) (st:=st) t k ttt (iS (by let:=(fO h).2;grind));let y:=jj (sep:=" ") (n:=11)  (λx A=>(gy h x A).2.1) 9 (by let:=(fO h).2;grind);rw[jk h];show eh ah (aa w ag) ttt (iP y.1)
def zf(d:Bd 0x5 1 a)(h:RowW r)(e:b=.loc\/b=.any)(f:Run (ev Γ g) st (b,.str r.1) st)(i:c=.loc\/c=.any)(j:Run (ev Γ k) st (c,.tup (l.map .str)) st)(m:l=[]↔r.2=[])(hl:Run (ev Γ n) st (oL (r.2.map .str)) st):Tx Γ st (.bin .add (.cst (.str a)) (Ys g k n)) 160 12 :=((Tx.cst d).add   ⟨.loc,_,.inl 9,Es h e f i j m hl,G5 h⟩ 7).up 7 7
def K5:↑5:=[""," ","Learnt","learnt "," learnt","learn","lack","needs","books","back a","book a","need a"]
def K6:↑5:=["round","price","read","under","over","musts","why","why ","why A","why a/1","why a/02"]
def K7:↑5:=["why abcdefghi","why a b","put","take","put ","put a","put a =","put a = ","put a = * b"]
def K8:↑5:=["put a = b *","put a  = b","put a == b","put A = b","put a = b/1","take a = B","take = a"]
def K9:↑5:=["a = b","put a = *\nput b = *","learnt\n","-","+ -"]
def K_:∀x∈(((K5++K6)++K7)++K8)++K9,-x<=30/\x.cps.toList.count 32<=10:=by decide +kernel
def nE{a vs:↑5}(b:st[i]?\b6 (oL (a.map .str)))(hl:-a<=1000)(c:-vs<=100):Run (ev Γ (.bin .add (.var i) (.lst (vs.map λs=>E.cst (.str s))))) st (oL ((a++vs).map .str)) st :=aT (aw b) (iR c) #[#[.own,9,b],ttt] (iS 7)
def G8(b:0<=k):∃x,Bd 160 12 x/\aV Γ lN [.int k]\.ok (zS x):=by
 let(x,c,d):=nj (xs:=(((K5++K6)++K7)++K8)++K9)  (t:=44) b 7 7;let a:=K_ x c;show#[x,#[pe a.1 7,pe a.2 7],?_];show aA 9 (.inr 9) (9) (aR (iR (ss:=K5) 7) aS (aR (nE (vs:=K6) 9 7 7) aS (aR (nE (vs:=K7) 9 7 7) aS (aR (nE (vs:=K8) 9 7 7) aS (aR (nE (vs:=K9) 9 7 7) aS
  (bx (aI (aw 9) (aT (af 9) ah ttt (bR 7)) ∅ (aG d)) aO))))))
def HR(hk:k=.loc\/k=.any)(h:RowW r)(a:st[i]?\b6 (k,OS r))(d:Bd 0x5 1 b):Tx Γ st (.bin .add (.cst (.str b)) (Ys (.idx (.var i) cO) (.idx (.var i) cA) (.bi .list [.idx (.var i) cA]))) 160 12:=by
 let e:Run (ev Γ (.idx (.var i) cO)) st (k,.str r.1) st:=by
  obtain rfl|rfl:=hk
  .show aI (af a) ah ttt 9
  show aI (av a) ah ttt 9
 let c:Run (ev Γ (.idx (.var i) cA)) st (k,.tup (r.2.map .str)) st:=by
  obtain rfl|rfl:=hk
  .show aI (af a) ah ttt 9
  show aI (av a) ah ttt 9
 show zf d h hk e hk c Ģ (bW (aa c ag) (tF hk) tE)
local macro_rules
 |`(tactic| array_get_dec)=>`(tactic| first|apply Tx.str|apply Tx.add|((first|apply Tx.var|apply Tx.to|apply Tx.fr|apply Tx.ov|apply Tx.Wc (i:=3)|apply Tx.ixA (i:=2))<;>first|rfl|assumption|(apply Ix.cst;lia))|decide +kernel)
local macro_rules
 |`(tactic| sizeOf_list_dec)=>`(tactic| refine Wp.app rfl (by assumption) (by decide) (by repeat' array_get_dec) (by decide +kernel) (by decide +kernel) λ_ _=>?_)
def tH(J:8->aq->6)(g:Run (ev Γ b) st (.own,lb l) st)(h:qx [(.own,lb l)] c a=4)(i:J 0 st)(Ś:∀d s r,r∈l->d< -l->J d s->∃e,Run (fE t c (.loc,OS r)) s () e/\Wp Γ a e λf j=>f=.nx/\J (d+1) j)(k:∀s,J ⇑l s->Wp Γ m s Q):Wp Γ (.O_ t c .seq [b] a::m) st Q :=lP _ J (aa g ag) ttt (by change b6 _=_;rw[k9];rfl) h (λ_ _ _=>ttt) i (λd s x hk n=>Ś d s x (va hk) (gr.mp hk).1 n) k
def Et(Y:-ds=0x6)(G:0< -names)(H:∀x∈names,bA (~~~x))(I:∀r∈rows,RowW r):∃x,Bd 1000 30 x/\aV Γ fu [.lst (ds.map .int),lb rows,.lst (names.map .str)]\.ok (zS x):=by
 show let j:Sl:=b6 (aL (ds.map .int));?_;show let m:Sl:=b6 (.any,lb rows);?_;show let o:Sl:=b6 (aL (names.map .str));?_;show let A:aq:=[j,m,o,ef,ef,ef,ef,ef,ef,ef,ef,ef,ef,ef];?_
 obtain⟨f,s,run,x,y,rfl⟩:Wp Γ fu.body A λf _=>∃x,Bd 1000 30 x/\f=.rt .loc (.str x):=by
  show Wp.ixA 9 (Ix.d 9 (Nm 9) 7 G) λw t=>?_;let B:=H w t;let o3:SlT 11 0 (b6 (.any,.str w)):=#[.any,w,.inr 9,9,tD B]
  show Wp.K3 160 12 (by show#[?_,?_,?_,?_,?_,?_,?_,?_,ttt]<;>show Tx.up (by repeat' array_get_dec) (by decide +kernel) (by decide +kernel)) 7 λe b=>?_;show let C:=cut rows ef (b6 0x6);?_;let h6:-C<=0x6:=ze rows 0x6;show tH (l:=C) (λd s=>∃e g,s=[j,m,o,b6 (.any,.str w),QZ e,g,ef,ef,ef,ef,ef,ef,ef,ef]/\Tl 160 12 (0x8+2 * d) (0x8+2 * d) e) (gk (av (u:=lb rows) 9) d_ (dE ah) ttt (pO .any)) 9 ⟨e,ef,9,b⟩ ?_ ?_
  .rintro d s r J Sa ⟨e,g,rfl,b⟩;let t:=I r (jg J);show#[_,dF aY,Wp.app 9 b 7 (HR (i:=0x5) (k:=.loc) (.inl 9) t 9 #[by decide,by decide +kernel]) (gs _) (gs _) λe b=>Wp.app 9 b 7 (HR (i:=0x5) (k:=.loc) (.inl 9) t 9 #[by decide,by decide +kernel]) (gs _) (gs _) λe b=>#[_,_,bj,9,e,_,9,b]]
  rintro s ⟨e,g,rfl,b⟩;show Wp.Wc 9 (Ix.d 9 (Eo 9) 7 (by let:=b.ge;lia)) λa hl=>?_;let D:=b.bd a hl;let L:=D.1;let h:∀v:5,0< -v->-v<=200->Wp Γ (fu.body.drop 0x6) [j,m,o,b6 (.any,.str w),QZ e,g,b6 (zS a),b6 (zS v),ef,ef,ef,ef,ef,ef] λf _=>∃x,Bd 1000 30 x/\f=.rt .loc (.str x):=λv N s1=>by
   show Wp.K4 (n:=-a+1) (Ix.d 9 (aT (r:=(lI ((-a+1:8):Int))) (len_T 9 7) ah ttt du) 7 7) λj8 h8=>?_;show Wp.Nl (Tx.ch 9 (Ix.d 9 (len_T 9 7) 7 N) 7) λo9 h9=>?_;show Wp.set (eh (af 9) (aa ah ag) ttt (lR (c:=32) 7)) aS ?_;let wl:=Yr.split D;show Wp.K4 (Ix.d 9 (Eo 9) 7 wl.ge) λO Q=>?_;show Wp.K3 1000 30 (by show#[?_,ttt];show Tx.up (by repeat' array_get_dec) (by decide +kernel) (by decide +kernel)) 7 λe b=>?_
   sizeOf_list_dec
   sizeOf_list_dec
   show Wp.app 9 7 7 (Wl.join (Wl.add (Wl.add (Wl.Pf 9 wl d_ (dE (af 9))) (Wl.one 9 B) 7) (Wl.Pf 9 wl (dE (af 9)) d_) 7) 7) 7 7 λ_ _=>?_;show Wp.OI (Wl.add (Wl.Pf 9 wl d_ (dE (aT (af 9) ah ttt du))) (Wl.Pf 9 wl (dE (af 9)) d_) 7) λl p q r=>?_;show Wp.app 9 (by assumption) 7 (Tx.Nn 9 p q r 7) 7 7 λe b=>?_;show Wp.OH (Tx.Wc 9 (Ix.up (Ix.d (n:=0x5) 9 (by show ah) 7 7) b.ge) b.bd) λx y=>#[x,y,9]
  show Wp.set ah aY ?_;let(d2,_,T):=Wb (i:=0) (Γ:=Γ) (st:=[j,m,o,b6 (.any,.str w),QZ e,g,b6 (zS a),b6 (zS "abcdefghijklmnopqrstuvwxyz/ =*0123456789-"),ef,ef,ef,ef,ef,ef]) (ds:=ds) (z:=2) 9 7;show Wp.ite (aB (aT T ah ttt (bR 7)) ah ttt (eI 9)) (Wp.set ah aY (h _ (by decide +kernel) (by decide +kernel))) (h _ (by decide +kernel) (by decide +kernel))
 show#[x,y,aA 9 (.inr 9) (st0:=A) 9 run]
section
variable{sp:List 5}
def TJ:↑5:=(i9 18).map λi:8=>("spare/":5)++fA (2+(i:Int))
def Np:-TJ=18/\TJ.Nodup/\∀x∈TJ,-x<=0x8/\x.cps.toList.count 32<=0:=by decide +kernel
theorem xO:∀{S names:↑5},S.Nodup->-S<=-(S.filter λx=>eL (x∉names))+ -names
 |[],_,_=>by simp|s::S,names,h=>by
  rw[vl]at h;by_cases hs:s∈names
  .let a:=xO (names:=names.erase s) h.2;rw[List.filter_cons,if_neg ⋯];let e:(S.filter λx=>eL (x∉names.erase s))=S.filter λx=>eL (x∉names):=List.filter_congr λx b=>by let c:x≠s:=λz=>h.1 (z▸b);left
   rw[e,List.length_erase_of_mem hs]at a;let:=List.length_pos_of_mem hs;rw[l0];lia
  let a:=xO (names:=names) h.2
  grind
def Lb(Γ:Tab)(rows:↑Row)(names:↑5):6:=∀ds:↑Int,-ds=0x6->∃x,Bd 1000 30 x/\Γ "_law_bent" [.lst (ds.map .int),lb rows,.lst (names.map .str)]\.ok (zS x)
def Nq:jP (k,.lst (ds.map .int)) lo a\oL ((cut ds lo a).map .int):=by erw[jP];rw[if_pos (by unfold eF;rw[show fB _=c4 by induction ds with|nil=>rfl|cons d ds b=>show b,ę]),sR]
def G9{a b:8}(h:b<=-c)(d:a<=b):-cut c (b6 (a:Int)) (b6 (b:Int))=b - a:=by unfold cut;rw[HT.xT,HT.xT,R_,Zo];lia
def HS{z:Int}{st}(e:st[0]?\b6 (aL (ds.map .int)))(b:st[1]?\b6 (.any,lb rows))(f:0<=z/\z< -ds):∃l,-l<=1/\(∀r∈l,r∈rows)/\Run (ev Γ (.Pf (.Pf OM [.bin .mod (.idx J' (cI z)) (.bi .max [cA,.bi .len [OM]])] []) [] [cA])) st (.own,lb l) st:=by
 let(d,_,g):=Wb   e f;show let c:Int:=if (-rows.map OS:8)>(1:Int) then(-rows.map OS:8) else 1;?_
 let a:0<c:=by erw[c];lia
 show#[_,ze _ 1,λr h=>jg (jg h),gk (gk (av b) (dE (aT g (bW (aa ah (aa (bW (aa (av b) ag) ttt dG) ag)) ttt (9)) ttt (bR a))) d_ ttt (pO .any)) d_ (dE ah) ttt (pO .own)]
def b2(a:Bd 0x5 1 pre)(h:RowW (r.1,ts))(b:st[i]?\b6 (zS r.1))(c:st[j]?\b6 (lT (r.2.map .str)))(d:r.2=[]↔ts=[])(hl:Run (ev Γ e) st (oL (ts.map .str)) st):Tx Γ st (.bin .add (.cst (.str pre)) (Ys (.var i) (.var j) e)) 160 12 :=zf  a h (.inl 9) (af b) (.inl 9) (af c) d hl
def AN(hB:Lb Γ rows names)(hO:∀k,0<=k->∃x,Bd 160 12 x/\Γ "_law_odd" [.int k]\.ok (zS x))(hd:-ds=16)(h0:∀d∈ds,0<=d)(hn:0< -names)(ab:-names<=0x6)(hW:∀x∈names,bA (~~~x))(I:∀r∈rows,RowW r):∃q:↑5,-q<=100/\(∀x∈q,Bd 1000 30 x)/\aV Γ eD [.lst (ds.map .int),lb rows,.lst (names.map .str)]\.ok (oL (q.map .str)):=by
 let hz:(100000:8)<=ei:=7
 show let N:Sl:=ef;?_;show let u:Sl:=b6 (aL (ds.map .int));?_;show let v:Sl:=b6 (.any,lb rows);?_;show let w:Sl:=b6 (aL (names.map .str));?_;let(J,s2,s3):=Np;show let t:aq:=[u,v,w,N,N,N,N,N,N,N];?_
 let L:=dQ (cond:=aN Γ []) (elt:=ev Γ (.bin .add (cQ "spare/") (.bi .str [J']))) (src:=[(lI 2),(lI 20)]) (st:=t) ttt .loc (.inl 9) (λi:8=>U.int (2+(i:Int))) (λi=>U.str (("spare/":5)++fA (2+(i:Int)))) .loc (λ_=>fm) (i9 18) [] 7
  (λi O=>#[aT ah (bW (aa (af 9) ag) ttt (nv 7 (by let:=uk.mp O;lia))) ttt (eU (by
   let:=je (k:=2+(i:Int)) 7 (by let:=uk.mp O;lia);let:⇑("spare/":5)=0x6:=by decide +kernel
   lia)),aD])
 rw[z8,show((i9 18).map λi:Nat=>U.str (("spare/":Str)++fA (2+(i:Int))))=TJ.map U.str by unfold TJ;rw[k9];rfl]at L;let y:=jU (cond:=aN Γ [.cmp .OR J' OX]) (elt:=ev Γ J') (src:=[(oL (TJ.map .str))]) (st:=t) ttt .loc (.inl 9) U.str U.str (λx=>eL (x∉names)) .loc TJ [] (by simp[J];lia)
  (λx p=>#[di (aB (af 9) (av 9) ttt fq),λ_=>#[af 9,aD]])
 rw[z8]at y;obtain⟨sp,A⟩:∃sp,(TJ.filter λx=>eL (x∉names))=sp:=#[_,9]
 let sl:0x6<=-sp:=by let:=xO (S:=TJ) (names:=names) s2;rw[J,A]at this;lia
 let sb:∀x∈sp,Bd 0x8 0 x:=λx p=>by rw[<-A]at p;show s3 x (W4.mp p).1
 rw[A]at y;let nb:∀x∈names,Bd 11 0 x:=λx p=>tD (hW x p);show let Z (c:↑5) (o5 g h m:Sl):aq:=[u,v,w,QZ sp,QZ c,o5,g,h,m,N];?_
 show let R:Fl->aq->6:=λf _=>∃q:↑5,-q<=100/\(∀x∈q,Bd 1000 30 x)/\f=.rt .own (.lst (q.map .str));?_;obtain⟨f,s,run,q,B,C,rfl⟩:Wp Γ eD.body t R:=by
  show Wp.set (bO (rs:=[(oL (TJ.map .str))]) (aa (bO (rs:=[(lI 2),(lI 20)]) (aa ah (aa ah ag)) ttt 9 L) ag) ttt (by rfl) y) aS ?_;let Q:∀(a b:8) (st:aq),a+0x6=b->b<=16->st[0]?\u->st[1]?\v->st[2]?\w->Tx Γ st (.call "_law_bent" [.Pf J' [.cst (.int (a:8))] [.cst (.int (b:8))],OM,OW]) 1000 30:=λa b st Z9 hb e0 T D=>by let(x,B,C):=hB (cut ds (b6 (a:Int)) (b6 (b:Int))) (by rw[G9 ⋯ ⋯];lia);show Tx.call (aa (gk (av e0) (dE ah) (dE ah) ttt Nq) (aa (av T) (aa (av D) ag))) ttt B C
  show Wp.K3 1000 30 #[Q 1 0x7 _ 9 7 9 9 9,Q 0x7 13 _ 9 7 9 9 9,ttt] 7 λc e=>?_;let(Y,X8,g0):=Wb (i:=0) (Γ:=Γ) (st:=Z c N N N N) (ds:=ds) (z:=0) 9 7;let(x3,y3,z3):=hO Y (h0 Y X8);show Wp.app 9 e 7 (Tx.call (aa g0 ag) ttt y3 z3) 7 7 λc e=>?_;show Wp.set (iR (ss:=wq) 7) aS ?_;let bq:∀x∈wq,Bd 0x6 0 x:=by
   let:∀x∈wq,-x<=0x6/\x.cps.toList.count 32<=0:=by decide +kernel
   show this
  show Wp.app 9 e 7 (Tx.add (Tx.add (Tx.Wc 9 (Ix.d (n:=0x7) 9 (by show ah) 7 7) bq) Tx.str (by decide +kernel)) (Tx.Wc 9 (Ix.cst 7) sb) (by decide +kernel)) (by decide +kernel) (by decide +kernel) λc e=>?_
  iterate 0x4 sizeOf_list_dec
  rename_i c e;let en:∀c g h m,Tl 1000 30 0x8 11 c->Wp Γ (eD.body.drop 12) (Z c (QZ wq) g h m) R:=λc g h m e=>by show Wp.K4 (Ix.d 9 (Eo 9) 7 (by let:=e.ge;lia)) λj hj=>?_;let q1:=xN (xs:=c) (lo:=b6 (j:Int)) (hi:=ef);let q2:=xN (xs:=c) (lo:=ef) (hi:=b6 (j:Int));let:=e.le;show Wp.ret (aT (gk (aw 9) (dE (af 9)) d_ ∅ qV) (gk (aw 9) d_ (dE (af 9)) ∅ qV) ttt (iS 7)) kM #[_,by rw[nc];lia,λx p=>(my.mp p).elim (λp=>e.bd x (jg p)) λp=>e.bd x (jg p),9]
  let(l,d1,d2,d3):=HS (Γ:=Γ) (st:=Z c (QZ wq) N N N) (rows:=rows) (ds:=ds) (z:=12) 9 9 7;show tH (λd s=>∃c g h m,s=Z c (QZ wq) g h m/\Tl 1000 30 0x8 (0x8+d) c) d3 9 ⟨c,N,N,N,9,e⟩ ?_ ?_
  .rintro d s r G Sa ⟨c,g,h,m,rfl,e⟩;show#[_,Er,Wp.Nl (b2 (r:=r) (ts:=r.2) (pre:="take ") #[by decide,by decide +kernel] (I r (d2 r G)) 9 9 Ģ (bW (aa (af 9) ag) ttt tE)) λo h8=>?_];show Wp.app 9 e 7 (by repeat' array_get_dec) (by decide +kernel) (by decide +kernel) λc e=>#[_,_,bj,9,c,_,_,_,9,e.up 7 (gs _)]
  rintro s ⟨c,g,h,m,rfl,e⟩;let(l2,T,D,e3):=HS (Γ:=Γ) (st:=Z c (QZ wq) g h m) (rows:=rows) (ds:=ds) (z:=14) 9 9 7;show tH (λd s=>∃c g h m,s=Z c (QZ wq) g h m/\Tl 1000 30 0x8 (0x9+d) c) e3 9 ⟨c,g,h,m,9,e.up 7 7⟩ ?_ ?_
  .rintro d s r G Sa ⟨c,g,h,m,rfl,e⟩;let H:=I r (D r G);show#[_,Er,Wp.app 9 e 7 (b2 (r:=r) (ts:=r.2.reverse) (pre:="put ") #[by decide,by decide +kernel] #[by let:=H.Qn;simpa using this,H.w1,λx p=>H.w2 x (List.mem_reverse.mp p)] 9 9 7 (yK (aa (af 9) ag) ttt G7)) 7 7 λc e=>#[_,_,bj,9,c,_,_,_,9,e.up 7 (gs _)]]
  rintro s ⟨c,g,h,m,rfl,e⟩;show Wp.ite (aB (bW (aa (av 9) ag) ttt dG) ah ttt (eI 9)) ?_ (en c _ _ _ (e.up 7 7));show Wp.app 9 e 7 (by repeat' array_get_dec) (by decide +kernel) (by decide +kernel) λc e=>en c _ _ _ (e.up 7 7)
 show#[q,B,C,aA 9 (.inl 9) (st0:=t) 9 run]
end
end
section
variable{Γ:Tab}{names:List 5}{rows:List Row}{r:Row}{ds ns:List Int}
def mO:↑5:=["back","book","need","by","knot","learnt","lacks","put","take","round","price","read","under","over","musts","why"]
def Nr:∀x∈mO,bA (~~~x):=λx a=>.inl (nH.mp (by rfl:mO.all (λx=>b_ (~~~x))=4) x a)
def G_(m:0<=k)(hl:-names<=100):∃c:↑5,-c=-names/\(∀x∈c,bA (~~~x))/\aV Γ eM [.lst (names.map .str),.int k]\.ok (oL (c.map .str)):=by
 let l:(1000:8)<=ei:=7
 let b:∀j:8,∃x∈mO,Px (mO.map U.str) ((k+(0+(j:Int))) % 16)\.str x:=λj=>nj 7 7 7;show let f:=λj=>Classical.choose (b j);?_;let d:=λj=>Ň (b j);show let e:Sl:=b6 (aL (names.map .str));?_;show let g:Sl:=b6 (lI k);?_;show let S:aq:=[e,g,b6 (oL (mO.map .str))];?_
 let h:=dQ (cond:=aN Γ []) (elt:=ev Γ (.idx OX (.bin .mod (.bin .add OW J') _))) (src:=[(lI (-names:8))]) (st:=S) ttt .loc (.inl 9) _ _ .loc (λ_=>fm) (i9 ⇑names) [] 7
  (λj n=>#[aI  (aw 9) (aT (aT (af 9) (af 9) ttt du) ah ttt (bR 7)) ∅ (aG (d j).2),aD])
 rw[show((i9 ⇑names).map λj=>U.str (f j))=((i9 ⇑names).map f).map U.str by rw[k9];rfl]at h;let i:=bW (Γ:=Γ) (st:=S) (f:=.len) (es:=[J']) (aa (av 9) ag) ttt (dG);rw[f7]at i;let ad:Run (ev Γ _) [e,g,b6 (oL ((mO.take 13).map .str))] (oL (mO.map .str)) _ :=aT (a:=.var 2)  (aw 9) (iR  7) ∅ (gq   7 9 9)
 show#[_,by simp,λx b=>?_,aA 9 (.inl 9) (9) (aR (iR (ss:=mO.take 13) 7) aS (aR ad aS (bx (bO  (aa i ag) ttt (jf (Int.natCast_nonneg _) 7) h) kM)))];let(j,_,rfl):=mn.mp b;show Nr _ (d j).1
def HU:↑5:=(i9 0x9).map λi:8=>("full/":5)++fA (2+(i:Int))
def Eu:↑5:=["a","b","c","d","e","f","g","h","x"]
def Lc:∀x∈HU++Eu,bA (~~~x):=λx hx=>by
 obtain hx|hx:=my.mp hx
 .let(i,a,rfl):=mn.mp hx;let a:=uk.mp a;show .inr #[(~~~("full":5)),_,_,by rw[cV];rfl,by rfl,7,7,9]
 show .inl (nH.mp (by rfl:Eu.all (λx=>b_ (~~~x))=4) x hx)
def WW(names:↑5):↑5:=names++(HU++Eu)
def OJ(a:∀x∈names,bA (~~~x)):∀x∈WW names,bA (~~~x):=λx b=>(my.mp b).elim (a x) (Lc x)
structure MI(names:↑5)(rows:↑Row):6 where
 ok:∀r∈rows,kQ (WW names) r
 ky:(rows.map keyOf).Nodup
def MI.add(h:MI names rows)(i:kQ (WW names) r)(hs:Sn rows r=df):MI names (rows++[r]):=by
 let d:∀s∈rows,keyOf s≠keyOf r:=λs c e=>by unfold Sn at hs;rw[ė]at hs;show hs s c (decide_eq_true e)
 show#[λx hx=>?_,?_]
 .rcases my.mp hx with hx|hx
  .show h.ok x hx
  left
 rw[ro,C0];show#[h.ky,by simp,λa f b g e=>?_];let(s,c,rfl):=mn.mp f;show d s c (e.trans (by exists g))
def mS(ns ds:↑Int)(names:↑5)(rows:↑Row)(x4 x5 x6:Sl):aq:=[b6 (aL (ns.map .int)),b6 (aL (ds.map .int)),b6 (aL (names.map .str)),b6 (.own,lb rows),x4,x5,x6]
variable{x4 x5 x6:Sl}
def HV(a:G3 Γ)(h:MI names rows)(hl:-rows<=60)(b:kQ (WW names) r):Run (O0 Γ (.call "_law_stands" [OX,.var 0x6])) (mS ns ds names rows x4 x5 (b6 (.loc,OS r))) (Sn rows r) (mS ns ds names rows x4 x5 (b6 (.loc,OS r))) :=gN  (aa (aw 9) (aa (af 9) ag)) ∅ (a rows r (λs hs=>(h.ok s hs).Qn) 7 (by let:=b.Qn;lia)) 9
def HW(hl:-rows<=60):Run (execs Γ [.app 3 (.var 0x6)]) (mS ns ds names rows x4 x5 (b6 (.loc,OS r))) .nx (mS ns ds names (rows++[r]) x4 x5 (b6 (.loc,OS r))):=by
 let a:1000<=ei:=7
 let e:lb (rows++[r])=.lst (rows.map OS++[OS r]):=by unfold lb;rw[ro];rfl
 unfold mS;rw[e];show mE    9 (af 9) aD 9 9 (by grind) bj
def HX(hk:k=.loc\/k=.any)(c:Run (ev Γ a) st (k,.str x) st)(d:Run (ev Γ b) st (lT (ts.map .str)) st):Run (ev Γ (.tup [a,b])) st (.loc,OS (x,ts)) st:=by
 obtain rfl|rfl:=hk
 .show eN  (aa c (aa d ag)) ttt (ax aD (ax aD aF)) (by change 2<=ei;decide)
 show eN  (aa c (aa d ag)) ttt (ax (g8 9) (ax aD aF)) (by change 2<=ei;decide)
def Nt(l:Int):Bool:=match Px (~~~("abcdefgh":5)) l with|some c=>eL (O1.one c∈Eu)&&eL (O1.one c≠"x")|none=>df
def Ha:∀l:_root_.Fin 0x8,Nt ((l.val:8):Int)=4:=by decide +kernel
def Ew(H:ph Γ)(I:kP Γ)(J:Dl Γ)(D:G3 Γ)(L:0< -names)(hd:3<=-ds)(N:∀d∈ds,0<=d):∃rows,MI names rows/\-rows<=60/\aV Γ gR [.lst (ns.map .int),.lst (ds.map .int),.lst (names.map .str)]\.ok (.own,lb rows):=by
 let O:(1000:8)<=ei:=7
 show let M (rows:↑Row) (x4 x5 x6:Sl):aq:=mS ns ds names rows x4 x5 x6;?_;obtain⟨f,s,run,rows,Q,T,rfl⟩:Wp Γ gR.body (TM.start [.lst (ns.map .int),.lst (ds.map .int),.lst (names.map .str)] 0x7) λf _=>∃rows,MI names rows/\-rows<=60/\f=.rt .own (lb rows):=by
  show Wp.set j3 aS ?_;let(n,u,Y):=Wb (Γ:=Γ) (st:=M [] ef ef ef) (i:=1) (ds:=ds) (z:=1) 9 7;let n1:=N n u;show lP (l:=i9 (n % 13).toNat) (λi:8=>(lI (0+(i:Int)))) (λk s=>∃rows x4 x5 x6,MI names rows/\-rows<=k/\s=M rows x4 x5 x6) (aa (aT Y ah ttt (bR 7)) ag) ttt (jf (z:=n % 13) 7 7) 9 (λ_ _ _=>ttt) ⟨[],ef,ef,ef,⟨by simp,by simp⟩,by simp,9⟩ ?_ ?_
  .rintro k _ i v ⟨rows,x4,x5,x6,h,hl,rfl⟩;obtain⟨hk,rfl⟩:k<13/\k=i:=by
    let(a,b):=gr.mp v
    grind
   let(z,O):=H ns (10+k) 7;let(o,n,y,d3):=I z 11 7;let(g,t1,t2,t3,t4):=J o names 7 y L;let(G,UW,A):=nj (xs:=names) (z:=dd o 0) (t:=(-names.map U.str:8)) (gm y 0) 7 7;let m:kQ (WW names) (G,g):=#[S0 _ UW,t1,t2,λx p=>S0 _ (t3 x p)]
   let Tq:Γ "_law_cell" [.lst (ns.map .int),.int (10+(0+(k:Int)))]\.ok (lI z):=by left
   show#[_,dF aY,Wp.set (aM (aa (aM (aa (av 9) (aa (aT ah (af 9) ttt du) ag)) ttt Tq) (aa ah ag)) ttt d3) aS ?_];show Wp.set (HX (ts:=g) (.inr 9) (aI (av 9) (aT (aI (x:=(.bor 0x5,.lst (o.map .int))) (aw 9) ah ∅ (aG (cE (i:=0) 7))) (bW (aa (av 9) ag) ttt dG) ttt (bR 7)) ttt (aG A)) (aM (rs:=[(.bor 0x5,.lst (o.map .int)),(aL (names.map .str))]) (aa (aw 9) (aa (av 9) ag)) ∅ t4)) aY ?_;show Wp.if2 (iI (HV D h 7 m)) (λq=>#[_,_,HW 7,9,rows++[(G,g)],_,_,_,h.add m (by exists q),by simp;lia,9]) λ_=>#[_,_,bj,9,rows,_,_,_,h,7,9]
  rintro _ ⟨rows,x4,x5,x6,h,hl,rfl⟩;rw[Y']at hl;let(y,_,e2):=Wb (Γ:=Γ) (st:=M rows x4 x5 x6) (i:=1) (ds:=ds) (z:=2) 9 7;show Wp.ite (aB (aT e2 ah ttt (bR 7)) ah ttt (eI 9)) ?_ (Wp.ret (aw 9) (oZ 9) #[rows,h,7,9]);show lP (l:=i9 72) (λi:8=>(lI (0+(i:Int)))) (λk s=>∃rows x4 x5 x6,MI names rows/\-rows<=60/\s=M rows x4 x5 x6) (aa ah ag) ttt (jf (z:=72) 7 7) 9 (λ_ _ _=>ttt) ⟨rows,_,_,_,h,7,9⟩ ?_ λs ⟨rows,x4,x5,x6,h,hl,e⟩=>by subst e;show Wp.ret (aw 9) (oZ 9) #[rows,h,hl,9]
  rintro k _ i v ⟨rows,x4,x5,x6,h,hl,rfl⟩;obtain⟨hk,rfl⟩:k<72/\k=i:=by let(a,b):=gr.mp v;rw[η]at b;rw[Y']at a;show#[a,b]
  obtain⟨j,hj,ej⟩:∃j:8,j<0x9/\(0+(k:Int)) % 0x9=(j:Int):=#[k % 0x9,7,7]
  obtain⟨l,B,el⟩:∃l:8,l<0x8/\(0+(k:Int)) / 0x9=(l:Int):=#[k / 0x9,7,7]
  obtain⟨c,hc,Ss,C⟩:∃c,Px (~~~("abcdefgh":5)) (l:Int)\c/\(O1.one c)∈Eu/\O1.one c≠"x":=by
   let h:=Ha #[l,B];unfold Nt at h;split at h
   .simp_all
   ext h
  show let w:5:=("full/":5)++fA (2+(j:Int));?_;show let r:Row:=(w,[O1.one c,"x"]);?_
  let hw:w∈WW names:=oD _ (S0 _ (mn.mpr #[j,uk.mpr hj,9]));let m:kQ (WW names) r:=by
   show#[hw,by change 2<=0x8;decide,by simpa[r] using C,λx p=>?_]
   show oD _ (oD _ ?_);erw[r,gb,Zn,or_false]at p;obtain rfl|rfl:=p
   .show Ss
   decide
  show#[_,dF aY,Wp.set (HX (x:=w) (ts:=[O1.one c,"x"]) (.inl 9) (aT ah (bW (aa (aT ah (aT (r:=(lI (j:Int))) (af 9) ah ttt (by rw[<-ej];show bR 7)) ttt du) ag) ttt (nv 7 7)) ttt (eU (by
   let:=je (k:=2+(j:Int)) 7 7;let:⇑("full/":5)=0x5:=by decide +kernel
   lia))) (eN (us:=[.str (O1.one c),.str "x"]) (aa (aI ah (aT (r:=(lI (l:Int))) (af 9) ah ttt (by rw[<-el];show wZ 7)) ttt (jF (by decide +kernel) hc)) (aa ah ag)) ttt (ax aD (ax aD aF)) (by change 2<=ei;lia))) aY ?_]
  show Wp.if2 (mD (pk (aB (bW (aa (aw 9) ag) ∅ (dG (xs:=rows.map OS))) ah ttt (g_ (c:=eL (-rows<60)) (by rw[so];simp;lia))) λ_=>di (iI (HV D h hl m)))) (λq=>?_) λ_=>#[_,_,bj,9,rows,_,_,_,h,hl,9]
  rw[dt,decide_eq_true_eq,td]at q;show#[_,_,HW hl,9,rows++[r],_,_,_,h.add m q.2,by simp;lia,9]
 show#[rows,Q,T,aA 9 (.inl 9) 9 run]
end
end K
namespace TM
open PySem L2
def Nu(h:Run (ev Γ e) st x a)(c:Run (execs Γ d) a f b):Run (execs Γ (.exp e::d)) st f b:=fF (ae h aK) c
theorem pQ(n):∀a:↑Bool,eR n (a.map U.bl)=4|[]=>by rfl|b::a=>by rw[lx,eR,pQ n a];rfl
end TM
namespace K
open PySem L2 TM O1 Od KL
section
variable{dn:8}{Γ:Tab}{names:List 5}{rows d:List Row}{past:List (List Row)}{r:Row}{ns ds:List Int}{line:5}{o:Option 8}
def eqO(k:8):Option 8->Bool|some i=>k==i|none=>df
def tB(o:Option 8):↑Bool:=(i9 0x7).map λk=>eqO k o||k==0x6
def things:↑U:=[.OP,.int 0x7,.bl 4,.lst [.str "learnt"],.tup [.str "learnt"]]
def Xu(dn:8)(rows:↑Row):U:=.lst [.str (D4 rows),.str (VB (lw (dn+0x4) rows))]
structure DH(dn:8)(Γ:Tab)(names:↑5):6 where
 put:∀d r past,Gb d->Gb (d++[r])->(∀s∈d,keyOf s≠keyOf r)->-past<=100->Γ "Desk.say" [O4 d past,.str (("put ":5)++bG r)]\.ok (lT [.str (chg (lw dn d) (lw dn (d++[r]))),O4 (d++[r]) (past++[d])])
 book:∀rows past,Gb rows->Γ "Desk.say" [O4 rows past,.str "book"]\.ok (lT [.str (D4 rows),O4 rows past])
 Yt:∀rows past,Gb rows->Γ "Desk.say" [O4 rows past,.str "learnt"]\.ok (lT [.str (VB (lw (dn+0x4) rows)),O4 rows past])
 odd:∀rows past,∀u∈things,Γ "_law_refused" [O4 rows past,u]\.ok (lT [.lst ((tB (b6 0)).map .bl),O4 rows past])
 one:∀rows past line,MI names rows->-rows<=60->Gb rows->Bd 1000 30 line->∃o,Γ "_law_due" [.str line,lb rows]\.ok (.loc,dU o)/\∀i,o\i->Γ "_law_refused" [O4 rows past,.str line]\.ok (lT [.lst ((tB (b6 i)).map .bl),O4 rows past])
def wwU{st}(a:st[3]?\b6 (.A',O4 rows past))(H:DH dn Γ names)(g:Gb rows)(hs:st.set 3 (b6 (.A',O4 rows past))=st):Run (ev Γ (.lst [.RH 4 "Desk.say" "say" 3 [(cQ "book")],.RH 4 "Desk.say" "say" 3 [(cQ "learnt")]])) st (.own,Xu dn rows) st:=by let b:=vh (Γ:=Γ) (st:=st) (i:=3) (d:=4) (f:="Desk.say") (m:="say") (es:=[(cQ "book")]) (u0:=tb rows) (us0:=RL past) (u:=tb rows) (us:=RL past) a (aa ah ag) ttt a (H.book rows past g);let c:=vh (Γ:=Γ) (st:=st) (i:=3) (d:=4) (f:="Desk.say") (m:="say") (es:=[(cQ "learnt")]) (u0:=tb rows) (us0:=RL past) (u:=tb rows) (us:=RL past) a (aa ah ag) ttt a (H.Yt rows past g);rw[show st.set 3 (b6 (.A',.ob c4 (tb rows) (RL past)))=st from hs]at b c;show bQ (aa b (aa c ag)) ttt (ax aD (ax aD aF)) (by change 2<=ei;decide)
def lS(ns ds:↑Int)(names:↑5)(a:↑Row)(past:List ↑Row)(rows:↑Row)(t:aq):aq:=b6 (aL (ns.map .int))::b6 (oL (ds.map .int))::b6 (oL (names.map .str))::b6 (.A',O4 a past)::b6 (.own,lb rows)::t
variable{t:aq}{x5 x6 x8 x9 x10:Sl}
def lB:↑TM.S:=match mL.body.getD 0x9 .bad with|.O_ _ _ _ _ b=>b|_=>[]
def HY{kv}(a:Γ "_law_refused" [O4 rows past,u]\.ok (lT [v,O4 rows past]))(hk:k=.loc\/k=.any)(b:Run (ev Γ e) (lS ns ds names rows past rows t) (k,u) (lS ns ds names rows past rows t))(c:Run (ev Γ f) (lS ns ds names rows past rows t) (kv,v) (lS ns ds names rows past rows t))(hs:aU [(kv,v)] (lS ns ds names rows past rows t))(g:P1 50 v=4):Run (O0 Γ (.cmp .ne (.QV "_law_refused" 3 [e]) f)) (lS ns ds names rows past rows t) df (lS ns ds names rows past rows t) :=aB (Kz            9 (aa b ag) (tF hk) 9 a) c hs (qO g)
def Le(H:DH dn Γ names)(j:MI names rows)(hl:-rows<=60)(g:Gb rows)(l:Bd 1000 30 line):Wp Γ lB (lS ns ds nm rows past rows [x5,x6,b6 (.own,Xu dn rows),x8,b6 (zS line),x10]) λf s=>f=.nx/\∃m a,s=lS ns ds nm rows past rows [x5,m,b6 (.own,Xu dn rows),x8,b6 (zS line),a]:=by
 let q:(1000:8)<=ei:=7
 let(o,n,p):=H.one rows past line j hl g l;show let T (x6 x10:Sl):aq:=lS ns ds nm rows past rows [x5,x6,b6 (.own,Xu dn rows),x8,b6 (zS line),x10];?_;let b:=dQ (cond:=aN Γ []) (elt:=ev Γ (.or [.cmp .eq J' (.var 11),.cmp .eq J' (cI 0x6)])) (src:=[(lI 0x7)]) (st:=T x6 (b6 (.loc,dU o))) ttt .loc (.inl 9) (λk:8=>U.int (0+(k:Int))) (λk=>U.bl (eqO k o||k==0x6)) .loc (λ_=>fm) (i9 0x7) [] (by change 0+0x7<=ei;lia)
  (λk _=>#[DK (gh (af 9) (af (i:=11) (u:=dU o) 9) ttt (by
   cases o with
   |none=>rfl|some i =>
    change b6 ((0+(k:Int))==(i:Int))\(k==i);congr 1
    rw[so,beq_iff_eq,beq_iff_eq];lia)) λ_=>gh (af 9) ah ttt (by
    change b6 ((0+(k:Int))==0x6)\(k==0x6);congr 1
    rw[so,beq_iff_eq,beq_iff_eq];lia),aD])
 rw[z8,show((i9 0x7).map λk=>U.bl (eqO k o||k==0x6))=(tB o).map U.bl by unfold tB;rw[k9];rfl]at b;show Wp.set (aM (rs:=[(zS line),(.bor 0x4,lb rows)]) (aa (af 9) (aa (aw 9) ag)) ∅ n) aY ?_;show Wp.set (bO (ik:=.Pt) (rs:=[(lI 0x7)]) (aa ah ag) ttt (jf (z:=0x7) 7 7) b) aS ?_;let c:Run (O0 Γ (.cmp .Se (.var 10) (.cst .OP))) (T (b6 (oL ((tB o).map .bl))) (b6 (.loc,dU o))) o.isSome (T (b6 (oL ((tB o).map .bl))) (b6 (.loc,dU o))):=aB (af (u:=dU o) 9) ah ttt (by cases o<;>rfl);show Wp.no (mD (pk c λz=>di (by let(i,h):=VL.mp z;let e:=p i h;rw[<-h]at e;show HY e (.inl 9) (af 9) (aw 9) ∅ (by rw[P1];show pQ _ _)))) (X' _) ?_
 show Wp.no (mD (pk c λz=>di (aB (wwU 9 H g 9) (aw 9) ∅ (qO 9)))) (X' _) ⟨_,_,bj,9,_,_,9⟩
def zg(e:∀x∈names,bA (~~~x))(h:∀r∈rows,kQ (WW names) r)(hl:-rows<=60):Gb rows:=by let b:=OJ e;show#[#[λr a=>?_,hl],λr a=>#[by let:=(h r a).Qn;lia,b _ (h r a).word,λx c=>b _ ((h r a).told x c)]];let q:=h r a;unfold gU;rw[decide_eq_true q.Qn,decide_eq_true q.once,ny (b _ q.word),nH.mpr λx c=>ny (b _ (q.told x c))];rfl
theorem Ey:∀a:↑U,Run (bw Γ (a.map E.cst)) st (a.map λu=>(Kd.loc,u)) st|[]=>ag|u::a=>aa ah (Ey a)
def Hb{y:↑Int}(H:DH dn Γ names)(A:∀x∈names,bA (~~~x))(hd:-ds=20)(h0:∀d∈ds,0<=d)(p:MI names rows)(hl:-rows<=60)(Q:Γ "_law_made" [.lst (ns.map .int),.lst (ds.map .int),.lst (names.map .str)]\.ok (.own,lb rows)) (T:Γ "_law_cell" [.lst (ns.map .int),.int 40]\.ok (lI z)) (Y:Γ "_law_drawn" [.int z,.int 16]\.ok (oL (y.map .int))) (X9:∃m:↑5,-m<=100/\(∀x∈m,Bd 1000 30 x)/\Γ "_law_tries" [.lst (y.map .int),lb rows,.lst (names.map .str)]\.ok (oL (m.map .str))) :Wp Γ (mL.body.drop 3) [b6 (aL (ns.map .int)),b6 (oL (ds.map .int)),b6 (oL (names.map .str)),ef,ef,ef,ef,ef,ef,ef,ef] λf _=>f=.rt .loc (.bl 4):=by
 let hz:(1000:8)<=ei:=7
 let(m,x1,x2,x3):=X9;let g:=zg A p.ok hl;show let N:Sl:=ef;?_;show let B:Sl:=b6 (.own,Xu dn rows);?_;show let L (dk:↑Row) (past:List ↑Row) (t:aq):aq:=lS ns ds names dk past rows t;?_;show Wp.mX ?_;show Wp.set (aM (rs:=[(aL (ns.map .int)),(.bor 1,.lst (ds.map .int)),(.bor 2,.lst (names.map .str))]) (aa (av 9) (aa (aw 9) (aa (aw 9) ag))) #[#[.own,9,9],#[.own,9,9],ttt] Q) aS ?_;show lP (l:=rows) (λr=>(.loc,OS r)) (λk s=>∃past c h,-past<=k/\s=L (rows.take k) past [c,h,N,N,N,N]) (rs:=[(.bor 0x4,lb rows)]) (aa (aw 9) ag) ⟨⟨.own,9,9⟩,ttt⟩ (by change b6 _=_;rw[k9];rfl) 9 (λk s ⟨past,c,h,_,e⟩=>by subst e;show∅) ⟨[],N,N,gs _,9⟩ ?_ ?_
 .rintro k _ r hk ⟨past,c,h,hp,rfl⟩;let UU:=(gr.mp hk).1;let C:rows.take (k+1)=rows.take k++[r]:=by rw[ϰ,hk];rfl
  let hm:∀x∈rows.take k++[r],x∈rows:=λx q=>VV (i:=k+1) (by rw[C];show q);let g1:=zg A (rows:=rows.take k) (λx q=>p.ok x (VV q)) (by rw[R_];lia);let I:=zg A (rows:=rows.take k++[r]) (λx q=>p.ok x (hm x q)) (by rw[nc,R_];simp;lia);let hn:∀s∈rows.take k,keyOf s≠keyOf r:=λs hs z=>by let J:=p.ky;rw[<-Xf (k+1) rows,C,ro,ro,C0]at J;show(C0.mp J.1).2.2 _ (Wh hs) _ (List.mem_singleton_self _) z
  let O:=I.w r 7;show#[_,Er,?_];rw[C];show#[_,_,Nu (vh (u0:=tb (rows.take k)) (us0:=RL past) (u:=tb (rows.take k)) (us:=RL past) 9 (aa (aT ah (Es O (.inl 9) (af 9) (.inl 9) (af (u:=.tup (r.2.map .str)) 9) Ģ (bW (aa (af 9) ag) ttt tE)) ttt (eU (by
   let:=(gV O).2.1;let:⇑("put ":5)=0x4:=by decide +kernel
   lia))) ag) ttt 9 (H.put (rows.take k) r past g1 I hn 7)) bj,9,past++[rows.take k],_,_,by simp;lia,9]
 rintro _ ⟨past,c,h,hp,rfl⟩;rw[ĩ];show Wp.set (wwU 9 H g 9) aS ?_;let(j,v,ej):=Ix.mod (Γ:=Γ) (st:=L rows past [c,h,B,N,N,N]) (a:=.idx OM (cI 3)) (b:=cI 0x5) (n:=0x5) (.inl 9) (aI (aw 9) ah ∅ (aG (cE (i:=3) 7))) ah 7;obtain⟨u,hu,D⟩:∃u∈things,Px things ((j:8):Int)\u:=by let v:j< -things:=v;show#[things[j],Qx v,bo (Sk v)]
 show Wp.set (aI (bQ (aa ah (aa ah (aa ah (aa (bQ (us:=[.str "learnt"]) (aa ah ag) ttt (ax aD aF) (by change 1<=ei;lia)) (aa (eN (us:=[.str "learnt"]) (aa ah ag) ttt (ax aD aF) (by change 1<=ei;lia)) ag))))) ttt (ax aD (ax aD (ax aD (ax yL (ax aD aF))))) (by change 0x5<=ei;lia)) ej ttt (aG D)) aY ?_;show Wp.no (HY (t:=[c,h,B,b6 (.loc,u),N,N]) (H.odd rows past u hu) (.inl 9) (af 9) (bQ (rs:=((tB (b6 0)).map U.bl).map λu=>(Kd.loc,u)) (Ey ((tB (b6 0)).map U.bl)) (lV _) (tq _) (by change 0x7<=ei;lia)) ttt (by rw[P1];show pQ _ _)) 9 ?_;show lP (l:=m) (λx=>(zS x)) (λk s=>∃w6 w9 Uh,s=L rows past [c,w6,B,b6 (.loc,u),w9,Uh]) (rs:=[(oL (m.map .str))]) (aa (aM (rs:=[(oL (y.map .int)),(.bor 0x4,lb rows),(.bor 2,.lst (names.map .str))]) (aa (aM (aa (aM (aa (av 9) (aa ah ag)) ttt T) (aa ah ag)) ttt Y) (aa (aw 9) (aa (aw 9) ag))) #[#[.own,9,9],#[.own,9,9],ttt] x3) ag) ttt (by change b6 _=_;rw[k9];rfl) 9 (λ_ _ _=>ttt) ⟨h,N,N,9⟩ ?_ ?_
 .rintro k _ x hk ⟨w6,w9,Uh,rfl⟩;let(f,s,a,e,v6,G,e2):=Le (Γ:=Γ) (ns:=ns) (ds:=ds) (past:=past) (line:=x) (x5:=c) (x6:=w6) (x8:=b6 (.loc,u)) (x10:=Uh) (nm:=names) H p hl g (x2 x (va hk));show#[_,dF aY,f,s,a,e,v6,_,G,e2]
 rintro _ ⟨w6,w9,Uh,rfl⟩;show Wp.ret ah aO 9
end
end K
namespace TM
open PySem L2 O1
def Nv(h:wb x=4):∀c∈(~~~x),33<=c:=by
 let hs:∀{l:↑8},b_ l=4->∀c∈l,33<=c:=λh c hc=>by let:=((cj _).mp h).2.2 c hc;lia
 unfold wb at h;split at h
 .rename_i d;rw[dt]at h;let(a,b,e,f):=cw d;let g:=O1.gB e f;rw[show("/":Str)=⟨#v[47]⟩ from rfl,g]at h;let i:∀n:_root_.Fin 98,∀c∈(~~~(fA (2+n))),33<=c:=by decide +kernel
  let z:=h.2;unfold isNum at z;rw[QL]at z;let(j,k,m):=z;let o:=i #[j,uk.mp k];intro c hc;rw[e]at hc;obtain hc|hc:=my.mp hc
  .show hs h.1 c 7
  obtain rfl|hc:=gb.mp hc
  .decide
  left
 show hs h
def Hc(h:lQ L\r):wb r.1=4/\r.2.all wb=4:=by
 unfold lQ at h;split at h
 .split at h
  .rename_i a;rw[dt]at a;rw[i0]at h;let(c,b,rfl):=h;show#[a.1,?_];unfold iQ at b
   grind
  grind
 grind
end TM
namespace K
open PySem L2 TM O1 Od KL
def bH(e:aV (O2 prog d) fn a=r)(h:Qw prog fn.name fn:=by show 9)(b:fn.ob=ef:=by show 9):O2 prog (d+1) fn.name a=r:=(cq h a b).trans e
def fy(e:d8 (O2 prog d) a b c=r)(h:Qw prog a.name a:=by show 9)(f:a.ob\b:=by show 9):O2 prog (d+1) a.name c=r:=(lE h c f).trans e
def makers:Dn prog:=#[9,9,9,9,9,9]
def Yt:Lrn prog:=#[9,9,9,9,9]
def lok(n):LOk n (O2 prog (n+0x5)) "learnt":=λe h=>by
 let(i,a,b,c):=GU Yt n (λr f=>y7 (h.ok r f)) h.ln;let d:∃L,LwG n e L:=#[_,by rw[(dc _).length_eq,f7];lia,λx g=>a.wd x ((dc _).mem_iff.mp g),bH (KL.xq 7 c)]
 unfold lw;rw[dif_pos d];show#[d.choose_spec.ln,d.choose_spec.run]
def wl(h:Gb a):WL (lw n a):=#[(lok n a h.bk).1,λx b=>Ng h b]
def OK(n):∀a b,Bk a->Bk b->O2 prog (n+0x6) "gained_and_lost" [tb a,tb b]\.ok (.loc,Ta n a b):=λa b c d=>bH (KJ (lok n) c d)
def sht(n):ShT n (O2 prog (n+0x7)):=λb c p h a=>fy (DP (OK n) h a)
def shd(n):ShD n (O2 prog (n+0x8)):=λc d p h a b=>fy (DQ (sht n) h a b)
def Yu(n):Wa (O2 prog (n+3)):=λd r h a=>bH (K.jY (λr s b c=>bH (AE (λr h=>bH (GY h)) b c)) h a)
def iT(d):cX (O2 prog (d+2)) "is_word":=λx h=>bH (DO (λx a=>bH (DL a)) (λy=>bH AA)
 (λx hl=>bH (fn:=lM) (DM 9 hl 9)) (λx hl=>bH (fn:=iN) (DM 9 hl 9)) h)
def rws(n):pK (O2 prog (n+3)):=λr h=>bH (GX (iT n) h)
def Nw(k n):KW k (O2 prog (n+1)):=λa b c d=>bH (vn (wl c) (wl d))
def Ny(n):KQ (O2 prog (n+0x4)):=λx c=>bH (DZ (iT _) (λd a b=>bH (AI (iT n) a b)) c)
def Yv(n):O2 prog (n+1) "Shelf.book" [Pz a b]\.ok (lT [tb a,Pz a b]):=fy DR
def tI(n):cX (O2 prog (n+1)) "_law_is_word":=λx h=>bH (AD h)
def Lf(n):G3 (O2 prog (n+1)):=λd x a b c=>bH (xJ a b c)
section
variable{rows rows':List Row}{past Pl:List (List Row)}{line:5}{o:Option 5}{r:Row}{names:List 5}
def dput(n)(c:Gb rows)(b:Gb (rows++[r]))(f:∀s∈rows,keyOf s≠keyOf r)(g:-past<=100):O2 prog (n+11) "Desk.say" [O4 rows past,.str (("put ":5)++bG r)]\.ok (lT [.str (chg (lw n rows) (lw n (rows++[r]))),O4 (rows++[r]) (past++[rows])]):=by
 let a:=b.w r 7;let h:=b.bk.ok r 7;let hl:=b.bk.ln;let e:("put ":5)++bG r=mM "put" r:=TM.dZ (by rfl);let i:Rw r:=#[by let:=a.Qn;lia,by rw[len_list];let:=a.w1.len;lia,λx j=>by rw[len_list];let:=(a.w2 x j).len;lia]
 let(l,k):=D7 (.inl 9) a;let d:=Ny (n+0x6) (bG r) (by let:=(gV a).2.1;lia);rw[DY a]at d;rw[e];show fy (y_  (.inl 9) (D6 (.inl 9)) k 7 d (fy (vp (o:=ef) (.inl 9) (Nw n (n+0x8)) c b (fy (G0 (Yu (n+0x5)) (rws (n+0x5)) (shd n) c.bk i h f (by simp at hl;lia) g)))))
def Nz(n)(b:32∉(~~~line))(c:10∉(~~~line))(hl:-line<=1000)(d:line≠"back")(e:O2 prog (n+10) "answer_at_large" [tb rows,.str line]\.ok (zS a)):O2 prog (n+11) "Desk.say" [O4 rows past,.str line]\.ok (lT [.str a,O4 rows past]) :=fy (Ed b c hl d (Yv _) e)
def cls:8->5|0=>"NoText"|1=>"Unknown"|2=>"Unfit"|3=>"TooMany"|_=>"NoRow"
def Ez(n)(a:i<0x5)(h:O2 prog (n+11) "Desk.say" [O4 rows past,.str line]=rA (cls i) rows past):O2 prog (n+12) "_law_refused" [O4 rows past,.str line]\.ok (lT [.lst ((tB (b6 i)).map .bl),O4 rows past]):=by
 let b:=(by decide +kernel:∀i:_root_.Fin 0x5,KY.lookup (cls i.val)\tB (b6 i.val)) ⟨i,a⟩
 show(lE (show Qw prog "_law_refused" _ from 9) _ 9).trans (vv 9 (λh=>af h) (λ_=>ttt) b h)
def OL(n){d b:5}(j:d="put"\/d="take")(p:kb line " "=(d,(" ":5),b))(t:10∉(~~~line))(hl:-line<=1000)(A:-b<=1000)(u:-rD b #[#v[32]]<=40)(g:Gb rows)(a:xK d rows (s_ b)\i):i<0x5/\O2 prog (n+11) "Desk.say" [O4 rows past,.str line]=rA (cls i) rows past:=by
 let k:=Ny (n+0x6) b 7;cases q:s_ b with
 |none=>rw[q]at k a;ext a;show#[by decide,fy (Eb j p t hl k)]|some r =>
  rw[q]at k a;let l:=y9 q u;let(w1,w2):=Hc q;let f:∀c:5,(O2 prog (n+0x9)) (if d="put" then "Shelf.put" else "Shelf.take") [Pz rows past,.str r.1,.tup (r.2.map .str)]\.ok (.io,.tup [.str c,Pz rows past])->O2 prog (n+11) "Desk.say" [O4 rows past,.str line]=rA c rows past:=λc h=>fy (y_ (o:=b6 c) (rows':=rows) j p t hl k (fy (vp (o:=b6 c) j (Nw n (n+0x8)) g g h)))
  let hs:Sn rows r=df->∀s∈rows,keyOf s≠keyOf r:=λh s v e=>by unfold Sn at h;rw[ė]at h;show h s v (decide_eq_true e)
  unfold xK at a
  dsimp only at a
  obtain rfl|rfl:=j
  .rw[if_neg ⋯]at a;split at a
   .rename_i z;ext a;show#[by decide,f _ (fy (DT (Yu (n+0x5)) (rws (n+0x5)) g.bk l ?_))];erw[W9,decide_eq_true_eq,td,decide_eq_false_iff_not]at z;obtain z|z|z:=z
    .show .inl (by unfold gU;grind)
    .show .inl (by unfold gU;left)
    unfold Sn at z;rw[QL]at z;let(s,w,x):=z;show .inr #[s,w,of_decide_eq_true x]
   rename_i z;split at a
   .rename_i m;ext a;erw[Bool.not_eq_true,ó,decide_eq_false_iff_not,Å,decide_eq_true_eq]at z;let y:gU r=4:=by unfold gU;left
    show#[by decide,f _ (fy (DU (Yu (n+0x5)) (rws (n+0x5)) g.bk l y (hs z.2.2) m))]
   ext a
  rw[if_pos rfl]at a;split at a
  .cases a
  rename_i z;ext a;show#[by decide,f _ (fy (AF (Yu (n+0x5)) g.bk (by let:=l.ln;lia) (hs (by exists z))))]
def pair(n)(D:MI names rows)(hN:-names<=20)(hl:-rows<=60)(g:Gb rows)(f:Bd 1000 30 line):∃o,O2 prog (n+12) "_law_due" [.str line,lb rows]\.ok (.loc,dU o)/\∀i,o\i->O2 prog (n+12) "_law_refused" [O4 rows past,.str line]\.ok (lT [.lst ((tB (b6 i)).map .bl),O4 rows past]):=by
 let H:∀s∈rows,-s.2<=0x8:=λs hs=>(D.ok s hs).Qn;let m:=λu=>(cq (Pg:=prog) (d:=n+11) (show Qw prog "_law_due" bC from 9) u)
 let G:=λu=>(lE (Pg:=prog) (d:=n+10) (show Qw prog "Desk.say" bh from 9) u 9)
 let J:∀L:↑5,-L<=1000->(∀x∈L,-x<=100000)->O2 prog (n+11) "_law_row_of" [.lst (L.map .str)]\.ok (.loc,KZ (lQ L)):=λL a b=>bH (AM (tI (n+0x9)) a b);by_cases k:10∈(~~~line)
 .show#[b6 0,(m _).trans (K1 f.1 k),λi e=>by ext e;show Ez n 7 ((G _).trans (D_ k))]
 by_cases t:line∈tw
 .show#[ef,(m _).trans (Ej t),λi e=>by ext e]
 let Y:=vA f;by_cases v:32∈(~~~line)
 .let(a,b,e,N):=cw v;let hs:=gT e N 7;let p:=O1.gB e N;obtain⟨w,hw⟩:∃w:5,(⟨a.toArray⟩:5)=w:=#[_,9]
  obtain⟨B,O⟩:∃B:5,(⟨b.toArray⟩:5)=B:=#[_,9]
  let I:-B<=1000:=by let:=f.1;rw[len_list,e]at this;rw[<-O,len_list];simp at this ⊢;lia
  rw[hw,O]at hs p;let p:kb line " "=(w,(" ":5),B):=p;let Q:-rD B #[#v[32]]<=40:=by grind
  by_cases l:w="put"\/w="take"
  .show#[xK w rows (s_ B),(m _).trans (zb (tI (n+10)) J (Lf (n+10)) H 7 f.1 k l hs Q),λi j=>?_];let(q1,q2):=OL n (past:=past) l p k f.1 I Q g j;show Ez n q1 q2
  let l:w≠"put"/\w≠"take":=not_or.mp l;let T:(w∉wq\/wb B=df)->O2 prog (n+12) "_law_refused" [O4 rows past,.str line]\.ok (lT [.lst ((tB (b6 0)).map .bl),O4 rows past]):=λh=>Ez n 7 ((G _).trans (vt l p k f.1 (Yv (n+0x9)) (bH (xE (iT (n+0x7)) 7 h))));by_cases A:w∈wq/\-rD B #[#v[32]]=1
  .let C:32∉(~~~B):=λz=>by let(a',b',e',Um):=cw z;let:=A.2;rw[gT e' Um ⋯,l0]at this;show fw (x:=#[b'.toArray]) (c:=32) 7 (Td 7)
   rw[cL C]at hs;show#[_,(m _).trans (Nk (tI (n+10)) H 7 f.1 k t l hs A.1),λi j=>?_];cases q:wb B with
   |false=>rw[q]at j;ext j;show T (.inr q)|true =>
    rw[q,if_pos rfl]at j;split at j
    .cases j
    rename_i hx;ext j;let ab:-WW names<=40:=by unfold WW;rw[nc];change -names+18<=40;lia
    let wo:=kU (Γ:=O2 prog (n+0x8)) 7 D.ok 7;show Ez n 7 ((G _).trans (vt l p k f.1 (Yv (n+0x9)) (bH (xF (iT (n+0x7)) 7 A.1 q (bH (D5 (bH (kU 7 D.ok 7)) (by let:=xm D.ok;lia) hx))))))
  show#[b6 0,(m _).trans (Ek f.1 k t l hs (by
   by_cases z:w∈wq
   .show .inr λy=>A #[z,y]
   show .inl z)),λi j=>?_]
  ext j;show T ?_;by_cases z:w∈wq
  .cases q:wb B with
   |false=>show .inr 9|true =>
    let v:32∉(~~~B):=λy=>by let:=Nv q 32 y;lia
    show absurd #[z,by rw[cL v];rfl] A
  show .inl z
 let hs:=cL v;let nf:∀y∈tw,line≠y:=λy hy e=>t (e▸hy);let sy:O2 prog (n+12) "_law_refused" [O4 rows past,.str line]\.ok (lT [.lst ((tB (b6 0)).map .bl),O4 rows past]):=Ez n 7 ((G _).trans (Ee v k f.1 (nf "back" 7) (Yv (n+0x9)) (bH (xD (nf "learnt" 7) (nf "lacks" 7) (nf "need" 7) (nf "book" 7)))));show#[b6 0,?_,λi j=>by ext j;show sy];by_cases l:line="put"\/line="take"
 .show(m _).trans (zb (R:=[]) (tI (n+10)) J (Lf (n+10)) H 7 f.1 k l hs 7)
 show(m _).trans (Ek (R:=[]) f.1 k t (not_or.mp l) hs (.inr 7))
def dh(n)(j:-names<=20):DH (n+1) (O2 prog (n+12)) names where
 put:=λd r past a b c e=>dput (n+1) a b c e
 book:=λrows past g=>Nz (n+1) (by decide +kernel) (by decide +kernel) (by decide +kernel) 7 (bH (AL (bH (AK g.w g.bk.ln λr l=>bH (AJ (g.w r l)))) g))
 Yt:=λrows past g=>Nz (n+1) (by decide +kernel) (by decide +kernel) (by decide +kernel) 7 (bH (xC (lok (n+0x5)) g (bH (xB (wl g).ln (wl g).w))))
 odd:=λrows past u f=>by
  let go:∀(k:Kd),bV [O4 rows past,u] 0x4=[b6 (.A',O4 rows past),b6 (k,u),ef,ef]->bV [O4 rows past,u] 3=[b6 (.A',O4 rows past),b6 (k,u),ef]->qa u .str\df->(∀{Γ:Tab} {st:aq},st[1]?\b6 (k,u)->Run (ev Γ OM) st (k,u) st)->(∀st,aU [(k,u)] st)->O2 prog (n+12) "_law_refused" [O4 rows past,u]\.ok (lT [.lst ((tB (b6 0)).map .bl),O4 rows past]):=λk m p q i s=>fy (vv m i s (show KY.lookup ("NoText":5)\tB (b6 0) by decide +kernel) (fy (Ea q p i)))
  erw[things,gb,Zn,or_false]at f;obtain rfl|rfl|rfl|rfl|rfl:=f
  .show go .loc 9 9 9 (λh=>af h) λ_=>ttt
  .show go .loc 9 9 9 (λh=>af h) λ_=>ttt
  .show go .loc 9 9 9 (λh=>af h) λ_=>ttt
  .show go .any 9 9 9 (λh=>av h) λ_=>ttt
  show go .loc 9 9 9 (λh=>af h) λ_=>ttt
 one:=λrows past line a b c d=>pair n a j b c d
end
def pure(c)(Q:-c<=63):O2 prog 13 "law" [GD c]\.ok (bL 4):=by
 let q:ph (O2 prog 12):=makers.pj;let r:kP (O2 prog 12):=makers.drawnOk;let(z,u):=q c 0 7;let(j,v,l,y):=r z 20 7;let(z2,hz2):=q c 40 7;let(A,B,C,D):=r z2 16 7;let T:=gm l 0;let(b,Y,a2,G,t):=(makers.namesOk:sQ (O2 prog 12)) c 1 (1+dd j 0 % 0x6).toNat 7 7;rw[Ą ⋯]at t;let(H,w1,w2,w3):=G_ (Γ:=O2 prog 11) (names:=b) (k:=dd j 0x5) (gm l 0x5) 7;let w3:=bH w3;let d:∀e:↑5,0< -e->-e<=0x6->(∀x∈e,bA (~~~x))->Wp (O2 prog 12) (mL.body.drop 3) [b6 (aL (c.map .int)),b6 (oL (j.map .int)),b6 (oL (e.map .str)),ef,ef,ef,ef,ef,ef,ef,ef] (λf _=>f=.rt .loc (.bl 4)):=λe n I m=>by
  let(h,m1,m2,m3):=Ew (Γ:=O2 prog 11) (ns:=c) makers.pj makers.drawnOk (Ks makers.told) (Lf 10) n 7 l;let g:=zg m m1.ok m2;let(J,L,N,O):=AN (Γ:=O2 prog 11) (rows:=h) (names:=e) (ds:=A) (λj a=>by
   let(x,o,p):=Et (Γ:=O2 prog 10) a n m g.w;show#[x,o,bH p]) (λk hk=>by
   let(x,o,p):=G8 (Γ:=O2 prog 10) hk;show#[x,o,bH p]) B C n I m g.w
  show Hb (dh 0 7) m v l m1 m2 (bH m3) hz2 D #[J,L,N,bH O]
 show bH (fn:=mL) ?_;obtain⟨f,s,run,rfl⟩:Wp (O2 prog 12) mL.body (TM.start [.lst (c.map .int)] 11) λf _=>f=.rt .loc (.bl 4):=by show Wp.set (aM (aa (aM (aa (av 9) (aa ah ag)) ttt u) (aa ah ag)) ttt y) aS ?_;show Wp.set (aM (aa (av 9) (aa ah (aa (aT ah (aT (aI (aw 9) ah ∅ (aG (cE (i:=0) 7))) ah ttt (bR 7)) ttt du) ag))) ttt t) aS ?_;show Wp.ite (aB (aT (aI (aw 9) ah ∅ (aG (cE (i:=0x4) 7))) ah ttt (bR 7)) ah ttt (eI 9)) (Wp.set (aM (aa (aw 9) (aa (aI (aw 9) ah ∅ (aG (cE (i:=0x5) 7))) ag)) ∅ w3) aS (d H 7 7 w2)) (d b 7 7 G)
 show aA 9 (.inr 9) 9 run
end K
namespace K
open PySem L2 TM PySem.W PyProof.Rows
def mz(z:Mz)(f:Fn):Me:=#[f,z.x,z.i,z.N,z.a,z.c,z.m,z.cr]
def ml:Me:=mz zl mL
def ms:↑Me:=List.zipWith mz zs [lK,dW,lL,lM,iN,pB,dH,nq,pC,dR,cW,bu,dm,bB,gO,iM,dX,iO,ft,dI,mH,jh,eB,ji,eX,eY,sY,gP,pD,eJ,cv,a9,mI,bh,d5,qR,pE,mJ,pF,mK,pG,gQ,gR,fN,gS,bC,lN,fu,eD,d6,eM,mL]
def hk:Hook:=kHook (λP=>PN top (gx P) ms) (adr ms xa) λP=>yI top (gx P) ms xa 9
def hz1:hk.obs=λs=>aZ.map s.heap.get?:=by kernel_rfl
def hz2(w):hk.val w=(fZ (gx w.params)).map λp=>b6 p.2:=by kernel_rfl
def hl:LeftO PySem.Challenge.rw_primer_k73_refused_at_the_desk.row.prog vw UY xt hk.obs hk.val 5100:=λw=>by let(s,e,a):=i0.mp (So w);let b:=RN w;let c:=VD w;let d:=hl4 w;let f:=UZ w;let g:=hl6 w;rw[e]at b c d f g;rw[Lg e,hz1,hz2];show congrArg b6 (Ö (Ö a (Ö (R' c) (Ö (R' b) (Ö (R' d) (R' f))))) (R' g))
def ho(P:Į):S9 ck top (PN top (gx P) ms) ms=4:=by kernel_rfl
def hox(P:Į):((gX ck (PN top (gx P) ms)&&gY ck (PN top (gx P) ms))&&shB top (PN top (gx P) ms) ms)=4:=by kernel_rfl
end K
open PySem PySem.W PyProof.Rows K
theorem PySem.Challenge.cw_primer_k73_refused_at_the_desk_holds : PySem.Challenge.rw_primer_k73_refused_at_the_desk.Holds := by
 w_on
 refine holds_law hs λz => ?_;refine holds_open hl hk.of hk.keeps (λs e => xl_of s (ve.mp e).1) XL.keeps 9 9 9 (λs e => recFacts_of (ve.mp e).2) 9 z (by kernel_rfl) ⟨9, 9, 9, 9, 9, by decide +kernel⟩ ?hw ?a
 (case hw => w_witness2)
 exact TM.walk2 (l := PySem.Challenge.rw_primer_k73_refused_at_the_desk) (Pg := prog) (ck := ck) (dp := 12) (x := "_law_script") (m := ml) 9 9 ⟨9, by decide, by decide, 9⟩ 9 (by decide +kernel) (by decide +kernel) 9 (List.mem_iff_getElem?.mpr ⟨51, 9⟩) 9 9 9 ho hox (λ_ => 9) K.pure
