import PyProof.Rows.All
import OpenK.AllK
import PyProof.StrLawsChain
import PyProof.StrLawsFirst
import PyProof.Rows.StrNews2
import PySem.SetOps
import PyProof.ZipIter
import PyProof.DictItems
import PyProof.MeetsStr2
import PyProof.StationsW
import PyProof.ExcBaseAll.ValueError
import PyProof.RulesAs
import PyProof.NsDelKeeps
import PyProof.IsiNone
import PyProof.ReprBulk
import PySem.Challenge.RW_primer_k55_whole_gained_and_lost
set_option Elab.async false
set_option linter.all false
set_option bootstrap.genMatcherCode false
set_option maxRecDepth 100000
set_option maxHeartbeats 4000000
set_option genInjectivity false
set_option genSizeOf false
set_option autoImplicit true
set_option relaxedAutoImplicit true
open Option renaming some->bD,none->cK,map_eq_some_iff->i7,bind_eq_some_iff->o9,ite_none_right_eq_some->Ug,isSome_iff_exists->Ys,isNone_iff_eq_none->ì,map_eq_none_iff->ý,map_some->Ă,isSome_map->Ĳ,getD_none->ϡ
open PySem renaming wpAny_bind->b6,wpAny_pure->cL,sizeLine->et,wpAny->g8,model->il,Value->ki,Addr->mn,starEach->mu,Shared->nc,wpAny_setState_of->rl,Expr->sL,mainGlobals->tv,wpAny_holding->ve,Program->B',wpAny_call_entry->NB,wpAny_Call_Name_kw->Oh,eval->Oj,wpAny_mono->Ox,bootBuiltins->Pd,wpAny_newObj_type->Pu,rawInt->Qg,wpAny_callSpecial?_slot->Qi,wpAny_seqItems->Qw,backTo->QM,World->Q2,wpAny_field->Rc,cLine->R0,keywordEach->Sz,wpAny_truthy_bool->Tw,wpAny_rule->Ul,wpAny_isInstance->Uv,Heap->UD,scanBound->UO,holding->Vx,wpAny_forIn_list->Vz,codeAny_builtin->VO,cellsFrom->VQ,foldedSetIterable->VT,Stmt->VU,Scope->V9,Keyword->V_,attributeBase->W8,wpAny_setField->Xk,backToKw->Xl,wpAny_pyIter_tuple->Xw,sysModules->Xx,wpAny_specialOf->XB,wpAny_passesOwn->XI,compareOp->XM,ofAClassStatement->XO,binaryOp->Yz,wpAny_typeOf->YQ,swapsWith->YR,call->Zl,SetTable->Zr,Builtin->ZY,wpAny_setField_rec->Á,typeIs_str->Â,tupleKind_room_in1->Ã,call_meets->Ä,assignEach->Å,Around->Ç,wpAny_getItem_str_slice->Ë,wpAny_storeSet_of->Ò,tupleKeyHash->Ó,pyNext->Ô,fits_of_scanBound->Õ,IsPair->Ù,wpAny_askSetting->à,codeAny->æ,behindInMarks->ç,call_isinstance->í,wpAny_setEntries_of->ï,getItem->ò,codeAny_mono->ó,wpAny_pyIter_list->Ć,sliceBounds->ć,swapsWithSole->Č,wpAny_Call_method0_late->ē,relayAll->Ĕ,compEnvC->ĕ,FuncData->ę,standAt->ğ,setItem->Ġ,relabel->ġ,notedBy->Ģ,callerA->ģ,JoinOk->Ĥ,wpAny_updateSeq->ħ,wpAny_loadPart'->Ĩ,post_val_or_str->ĩ,wpAny_isTrue_Compare1->ī,isSubtype_tuple_tuple->Ĭ,IsPart->Ĵ,treeTable->Ĺ,pushCells->ĺ,wpAny_attempt->ń,swappedStores->Ņ,plainId_quiet->ņ,IsZip->Ň,wpAny_tupleItemsOf->Ō,assign->ō,Params->ŏ,IsTupleKey->Ő,wpAny_setEpoch_of->Ř,wpAny_pyIter_enum->ř,sub_set_self->Ś,setField->ś,setAddHashed->Ŝ,release->ŝ,concat_meets->ş,call_meetsIn->Š,tupleKind->ū,pyIter->Ŭ,noFill_tuple_add->ŭ,isSubtype->Ů,getMethod->ů,PassesOwn->ű,wpAny_of_eq->Ÿ,unsupported->Ź,subscripted->ź,wpAny_execs_nil->Δ,step->Ε,pushCells_keeps->Ζ,letOwnedTupleGo->Η,valueAt->Ξ,wpAny_runValue->Τ,isSubtype_stop->Υ,entryFor_alias->Φ,callWith->Χ,NameKind->ε,wpAny_standAt->ψ,wpAny_onRaise->ω,wpAny_newList->ϊ,wpAny_comprehension_free->ϋ,seq_tuple_add->ό,strValues->ϛ,pickOrder->Ϝ,eqIsQuiet->ϝ,atKey->Ϟ,wpAny_Call_method_late->Ϩ,typeOf->ϩ,setNextDrawn->Ϫ,collect->ϫ,IsEnum->ϰ,BindsTo->ϲ,wpAny_nextOf_list_end->aac,wpAny_updateSeq_pair->aam,wpAny_alloc->aan,storeSet->aao,seqIndex_of->aap,entryFor->aaq,Operator->aas,wpAny_Tuple_spliced->aaF,wpAny_load->aaL,wpAny_call->aaM,wpAny_Name->aaN,wpAny_List_spliced->aaO,typeLookup->aaP,builtinsNs->aaQ,wpAny_sequenceKey->aa0,wpAny_pyIter_slot->aa1,wpAny_assign_Name->aa2,slot_list_getitem->aa3,searchCouldBeSeen->aa4,wpAny_setScan_of->abd,wpAny_pyIter_zip->abe,wpAny_eqBool_str->abf,wpAny_eqBool_int->abg,setDiscardHashed->abh,meets_dict_items->abi
open Bool renaming true->cb,and_eq_true->df,false->dt,false_eq_true->PD,and_eq_true_iff->Qh,false_ne_true->RR,not_eq_true'->S7,eq_iff_iff->UE,or_eq_true->YU,and_false->À,true_and->Β,eq_false_iff->aab,not_false->aaK,not_true->aaY,and_self->aaZ
open PySem.Heap renaming get?_push_of_some->cn,get?_push_size->hU,lt_size->i8,SameBut->tr,get?_update_self->N1,size_push->WJ,get?_update_ne->Yr,get?_update_other->ZR,ExtBut->ő,IsTuple->aa9
open List renaming length_map->eu,getElem?_eq_some_iff->gj,mem_cons->gs,getElem?_set_self->hH,range->hW,mem_singleton->js,mem_append->ke,mem_cons_of_mem->kj,getElem?_set_ne->ko,map_cons->k9,map_map->lg,mem_map->mh,getElem?_map->mx,mem_cons_self->my,map_append->nH,length_cons->oD,size_toArray->qv,length_append->ro,replicate->rr,mem_of_getElem?->rD,nodup_cons->sx,nodup_append->ti,mem_append_right->tj,append_nil->uv,nil_append->vr,getElem?_eq_getElem->vu,getElem?_append_right->y6,all_eq_true->y7,getElem?_append_left->y9,lookup_cons->Hf,mem_filter->MW,length_filter_le->N6,mem_range->O7,isEmpty_iff->PH,map_congr_left->QF,length_range->Q0,getElem?_drop->Rz,length->R',ext_getElem->Sd,filter_eq_nil_iff->SM,getD->Tu,mem_iff_getElem->Uj,mem_append_left->Uk,filter_sublist->UJ,filter_eq_self->UN,take_of_length_le->U0,getElem_mem->U2,append_assoc->VC,filterMap_cons->Wa,getElem?_replicate->W6,lookup->W',eq_nil_of_length_eq_zero->Xa,filter_append->Xb,perm_ext_iff_of_nodup->XN,not_mem_nil->X1,map_nil->X2,length_take->X4,length_drop->X8,drop_eq_getElem_cons->Ym,pairwise_cons->Y9,nodup_nil->Z5,take_append_drop->Í,dropLast_eq_take->Î,isEmpty_map->Ð,filter_cons->Ñ,of_mem_zip->Þ,forIn_cons->ß,mem_map_of_mem->ã,getElem_of_mem->ä,length_erase_of_mem->ú,filter_cons_of_neg->þ,any_eq_true->ÿ,range_succ_eq_map->ĉ,length_pos_of_mem->Ċ,length_eq_one_iff->ċ,length_zip->ď,drop_left'->Đ,length_replicate->Ē,mem_of_mem_take->Ĝ,mem_erase_of_ne->ĝ,getElem?_zipIdx->Ğ,zip_cons_cons->ĳ,findIdx?_eq_some_iff_getElem->ķ,map->ļ,flatten_cons->Ľ,any_eq_false->ľ,perm_middle->ŉ,cons_ne_nil->Ŋ,cons_append->ŋ,foldl_cons->ŕ,filter_nil->Ŗ,filter_map->ŗ,perm_append_singleton->ũ,getD_eq_getElem?_getD->Ū,pairwise_iff_getElem->Ŵ,isEmpty_eq_false_iff->ŵ,getElem?_zip_eq_some->Ŷ,findIdx?_eq_none_iff->ŷ,getElem?_take_of_lt->ž,findIdx?->ſ,length_eq_zero_iff->Μ,filter_cons_of_pos->Ν,mem_iff_getElem?->θ,eq_nil_or_concat->ι,concat_eq_append->μ,pairwise_append->ρ,mem_of_mem_drop->ς,length_eraseIdx->τ,getElem?_of_mem->υ,dropLast_concat->χ,length_pos_iff->ϕ,getElem?_range->ϖ,flatten_append->ϗ,mem_filterMap->Ϣ,getElem_range->ϣ,filterMap_map->Ϥ,append_of_mem->ϥ,take_sublist->Ϻ,take_add_one->ϻ,filter_congr->aaa,zipIdx_cons->aag,take_length->aah,nodup_range->aai,map_fst_zip->aaj,getElem_inj->aak,drop_length->aal,zipIdx_nil->aaC,range_succ->aaD,length_set->aaE,forIn_nil->aaJ,zip_map'->aaV,sum_cons->aaW,any_cons->aaX,map_id->abo
open Decidable renaming decide->gi
open Array renaming length_toList->hZ,getElem?_eq_some_iff->wh,forIn_toList->Ry,getElem?_toList->Vs,getElem?_eq_getElem->Yb,getD_eq_getD_getElem?->å,size_map->ê,toList_append->Ħ,mem_toList_iff->ν,toList_push->ϧ,getD->abt
open Nat renaming le_refl->i9,ne_of_lt->lx,lt_of_lt_of_le->pb,zero_le->ri,le_trans->va,lt_irrefl->OH,ne_of_gt->O6,le_of_lt->VH,lt_succ_of_lt->XA,zero_add->È,le_of_lt_succ->É,mod_lt->î,le_succ->ù,lt_succ_self->ă,le_of_eq->Ď,lt_of_le_of_lt->Ķ,succ_pos->ł,lt_trans->Ń,pos_of_ne_zero->Ϸ,add_sub_cancel->ϸ,add_right_comm->Ϲ,lt_trichotomy->aaf
open PySem.Value renaming ref->oa,str->DD,none->M6,isStrOf->Xt,type->YS,bool->Ā,isStrOf_shape->ξ,int->Ϭ,isInt->aa5,float->aa6,bytes->aa7
open PySem.SetTable renaming below->tA,grown->Sq,insertAt->UG,sizeAbove->Ws,turns->Zp,eraseAt->Zy,fits->Æ,bits->á,layClean->é,relaid->û,laid->Ė,fill->ė,tooFull->į,orStandIn->Ο,fresh->ϟ,runEnd->Ϯ,drop->ϯ
open Ne renaming symm->uk
open Sum renaming inr->vl,inl->Ŀ
open PySem.Txt renaming partition->y8,join->Se,split->Vc
open Option.some renaming inj->D',injEq->Ě
open PySem.PyData renaming keyHash->Ou
open PySem.Obj renaming mapSeq->Oy,putSet->Ua,data_mapFields->Xs,isFreed_of_fields->Ę,cls_mapFields->ŀ,mapFields->aa8
open PyProof.Rows renaming slot_tuple_getitem->OI,callWith_type1->Q8,seqObj->Tr,size_push'->YI,callWith_builtin1->Y8,StrsAre->õ,AllBare->Ĉ,envOfC->ĵ,listUpdate_at->ň,subscriptTail_builtinR->ϳ,listItems_at->ϴ,IntsAre->ϵ,seqEpoch_at->aaB,entry_tuple_getitem->aaG,sortedHeap->aaS,args_tuple_getitem->aaT,Subscript_->aaU,slot_str_getitem->abn,joinOk_of->abv,call_isinstance_yes->abw
open PySem.Str renaming empty->O',ofString->è,length->Ű,join->ώ
open PySem.Heap.SameBut renaming update->Po,refl->Tx
open PySem.Builtin.SmallTypes renaming nextOf->PQ,ownedTupleIsFree->TV,ownedTupleHandOut->ë
open PySem.Builtin.Str renaming occurrences->Qe,partsBetween->â,strKind->ŧ,glued->ż
open PySem.Builtin.Tuple renaming tupleHashOf->Ss,tupleExact->Xy,tupleItemsOf->Ì
open PySem.Calls renaming callWith_builtin->SA,evalArgs_plain->XJ,spliced_cons->YT,spliced_nil->ñ,Name_function_global->Ť,call_function_entry->Ŧ
open Classical renaming byContradiction->S0
open PySem.NameKind renaming free->UI,cell->VA
open False renaming elim->Vf
open PySem.Builtin.List renaming listTooLong->Vo,listExtendWith->W_,listSameRef->Ļ,listLengthHint->abu
open PySem.W renaming OpenLaw->VB,kas_sort->Ö,openGood->Ψ
open PySem.Builtin.Slice renaming slicePlaces->Xv,sliceAdjust->Ú,sliceApplied->ĭ,slicePartIndex->abk,sliceFields->abl
open PySem.AutoSeq1 renaming wpAny_loadPart'->XY,idx_int->π
open ForInStep renaming yield->X'
open Int renaming toNat_natCast->Ê,eq_ofNat_of_zero_le->Ą,toNat_of_nonneg->Į,emod_lt_of_pos->ĸ,emod_nonneg->ť,le_refl->Ϛ,zero_add->abr
open List.cons renaming injEq->Ï
open PySem.SetTable.layClean renaming free->Ø
open Prod renaming ext->Û,fst->Ũ
open PySem.Expr.Name renaming elim->Ü
open List.Perm renaming refl->Ý,swap->Ϙ,cons->ϙ
open PySem.Shared renaming TypeIs->ð
open PySem.Builtin.Frozenset renaming differenceUpdate->ô,difference->č,sizeOf->ĥ,updateFrom->aau,unchanged->aav,slot0->aaw,isAnySet->aax,copyOf->aay,baseOf->aaz,addrOf->aaA
open PyProof.Rows.F renaming plain_set_update_loop->ö,entry_set_update_loop->ø
open PySem.SetTable.probe renaming go->ü
open PySem.SeqAt renaming EqAt->ā,ne_of_list_tuple->Κ,RcAt->ϐ,RcNeAt->aaR
open True renaming intro->ą
open PySem.Around renaming under_plainId->đ,under->ı
open LT renaming lt->ě
open PySem.SetTable.below renaming go->Ī
open PySem.Expr.Tuple renaming elim->İ
open PySem.F renaming args_str_split_2->Ł,entry_str_split->Œ,slot_str_split->š,args_list_extend_2->ϱ,entry_list_extend->aad,slot_list_extend->aat
open PySem.Stmt.AugAssign renaming elim->Ŏ
open PySem.Expr.Subscript renaming elim->œ
open PySem.Expr.Attribute renaming elim->Ŕ
open PySem.pickOrder renaming go->Ş
open PySem.Expr.ListComp renaming elim->Ţ
open PySem.Expr.Constant renaming elim->ţ
open PySem.Expr.UnaryOp renaming elim->Ų
open PySem.Expr.Compare renaming elim->ų
open PySem.StrLaws renaming glued_eq_join->Ż,strSub_toList->ύ
open PyProof.Rows.IsTup renaming new->Ž
open List.Nodup renaming sublist->Α
open PySem.Stmt.Return renaming elim->Θ
open PySem.Stmt.Assign renaming elim->Ι
open PySem.Expr.BoolOp renaming elim->Λ
open PySem.PassesOwn renaming leaving->Ρ
open PySem.Stmt.While renaming elim->Ω
open PySem.Expr.Slice renaming elim->ζ
open PySem.Expr.BinOp renaming elim->η
open PySem.Code renaming frames->ο,quiet_builtin->Ϡ,isGuard->abb,isFrame->abc
open PySem.Stmt.Expr renaming elim->Ϗ
open PySem.Expr.List renaming elim->ϑ
open PySem.Expr.Dict renaming elim->ϒ
open PySem.Expr.Call renaming elim->ϓ
open PySem.Draws renaming list->ϔ
open LawfulBEq renaming eq_of_beq->Ϧ
open PySem.Stmt.For renaming elim->ϭ
open Prod.mk renaming injEq->aae
open PySem.Stmt.If renaming elim->aar
open PyProof.Rows.LSm renaming range_all->aaH,kept_iter->aaI
open PySem.Heap.IsSliceOf renaming new->aba
open PySem.Walks renaming list->abj
open PySem.Builtin.Range renaming rangeSize->abm
open List.Pairwise renaming sublist->abp,nil->abq
local macro_rules|`(def $a:declId $b:optDeclSig $c:declVal)=>`(noncomputable def $a:declId $b:optDeclSig $c:declVal)
local macro_rules|`(def $a:declId $b* : $t :=$v)=>do let k:=t.raw;let u:=k.getKind;if k.isIdent||u==`Lean.Parser.Term.prop||u==`num||u==`coeNotation||u==`Lean.Parser.Term.app&&(k[0].getId==`M||k[0].getId==`Option||k[0].getKind==`num)then Lean.Macro.throwUnsupported else`(theorem $a:declId $b* : $t :=$v)
local macro_rules|`(abbrev $a:declId $b:optDeclSig $c:declVal)=>`(@[reducible]noncomputable def $a:declId $b:optDeclSig $c:declVal)
local macro_rules|`(tactic|show $t)=>`(tactic|refine $t)
local macro_rules|`(tactic|let $d:letDecl)=>`(tactic|have $d:letDecl)
local macro_rules|`(tactic|let⟨$a⟩:=$t)=>do let p<-`(Lean.Parser.Tactic.rcasesPatLo|$(⟨a⟩):ident);`(tactic|obtain⟨$p⟩:=$t)
local macro_rules|`(tactic|let($a,$b,*):=$t)=>do let g:=fun(x:Lean.Term)=>if x.raw.isIdent then`(Lean.Parser.Tactic.rcasesPatLo|$(⟨x⟩):ident)else`(Lean.Parser.Tactic.rcasesPatLo|_);let p<-(#[a]++b.getElems).mapM fun x=>match x with|`(($c,$d,*))=>do let q<-(#[c]++d.getElems).mapM g;`(Lean.Parser.Tactic.rcasesPatLo|⟨$q,*⟩)|_=>g ⟨x⟩;`(tactic|obtain⟨$p,*⟩:=$t)
local macro_rules|`(⋯)=>`(by lia)
local macro_rules|`(#[$a,*])=>`(⟨$a,*⟩)
local macro_rules|`(#v[$a,*])=>`(List.toArray [$a,*])
local macro_rules|`(⇑$x)=>`(($x).length)
local macro_rules|`(↥$x)=>`(($x).heap.objs.size)
local macro_rules|`(~~~$x)=>`(($x).cps.toList)
local macro_rules|`(↑$x)=>`(List $x)
local macro_rules|`($x≈$y)=>`($x=some $y)
local macro_rules|`(‹$x›)=>`(g8 (il ($x).prog ($x).w) ($x).A)
local macro_rules|`(tactic|erw[$a,*]$[$l]?)=>do let b:Array Lean.Term:=a.getElems.map fun r=>⟨r.raw[1]⟩;`(tactic|simp only[$[$b:term],*]$[$l]?)
local macro_rules|`(tactic|exists $x)=>`(tactic|simpa using $x)
def ttt:True:=trivial
local macro_rules|`(∅)=>`(⟨⟨.own,rfl,rfl⟩,trivial⟩)
local macro_rules|`(tactic|ext $p $q*)=>do let x:=p.raw[0][0];let c<-`(tactic|cases $(⟨x⟩):term);if q.size=0 then pure c else `(tactic|($c:tactic;ext $q*))
local macro_rules|`(tactic|left)=>`(tactic|simp_all)
local macro_rules|`($x\$y)=>`($x=some $y)
local macro_rules|`(-$x)=>match x with|`(($_ : $_))=>Lean.Macro.throwUnsupported|_=>`(($x).length)
local macro_rules|`(9)=>`(rfl)
local macro_rules|`(7)=>`(⋯)
local macro_rules|`(8)=>`(Nat)
local macro_rules|`(6)=>`(Prop)
local macro_rules|`(5)=>`(PySem.Str)
local macro_rules|`(4)=>`(cb)
namespace L2
open PySem PySem.Spec PyProof.Rows
def fU(s:VU):Arguments:=match s with|.FunctionDef _ a _ _ _ _ _ _ _ _=>a|_=>{posonlyargs:=[],args:=[],vararg:=cK,kwonlyargs:=[],kw_defaults:=[],kwarg:=cK,defaults:=[]}
def cC(s:VU):↑VU:=match s with|.FunctionDef _ _ b _ _ _ _ _ _ _=>b|_=>[]
def aO(s:VU):V9:=match s with|.FunctionDef _ _ _ _ _ _ a _ _ _=>a|_=>{kind:=.function,names:=[],isGenerator:=dt,isCoroutine:=dt}
end L2
namespace TM
open PySem L2 PyProof.Rows
abbrev Gx:=Obj×↑(mn×Obj)
def ZJ(n q:5)(k l c:8)(r s:mn)(x y z:ki)(a b t:8):Obj:=#[.type "code",cK,.fields #v[.str n k,.str q (k+1),.str "/claim/cut.py" (k+2),.int l 0,.int c 0,.int 0 0,.int 0 0,.int 3 0,.ref r,.bool 4,.int t 0,.ref s,.none,x,y,z,.int a 0,.int l 0,.str "/claim/cut.py" b],#v[]]
def co(n:5)(k l c:8)(r s:mn)(x y z:ki)(a b t:8):Obj:=ZJ n n k l c r s x y z a b t
def ge(P:ŏ)(x:5)(k:8)(v:ki):DictEntry:=#[Ou P x,.str x k,v]
end TM
namespace K
open PySem L2 TM PySem.W PyProof.Rows
def QZ:↑Obj->8->BT->Option BT
 |[],_,t=>bD t|o::l,n,t=>match ((t.ins n o).get n).isSome with
  |true=>QZ l (n+1) (t.ins n o)
  |false=>cK
theorem wD:∀{l}{n}{t b}{a},QZ l n t\b->absHeap t n e=⟨a,e⟩->absHeap b (n+ -l) e=⟨a++l,e⟩
 |[],n,t,b,a,h,k=>by ext h;exists k|o::l,n,t,b,a,h,k=>by
  unfold QZ at h;cases g:((t.ins n o).get n).isSome with
  |false=>rw[g]at h;ext h
  |true=>rw[g]at h;let z:=wD (a:=a.push o) h (by rw[absHeap_ins g,k];rfl);rw[oD,show n+(⇑l+1)=n+1+⇑l by lia,z];simp
def rT(p:B')(w:Q2)(m:8)(a:Option ki):8->SharedT->Thread->Option SharedT
 |0,_,_=>cK|n+1,s,t=>match through t with
  |true=>bD s
  |false=>match stepOk m a t with
   |false=>cK
   |true=>match stepT (denote Ĺ) p w s t with
    |some (b,c)=>rT p w m a n b c
    |none=>cK
theorem FX:∀{n}{s b}{t},rT p w m a n s t\b->topRun Ĺ p w m a n s.abs t\b.abs
 |0,_,_,_,h=>by ext h|n+1,s,b,t,h=>by
  unfold rT at h;unfold topRun;cases c:through t with
  |true=>rw[c]at h;ext h;rfl
  |false =>
   rw[c]at h;cases hk:stepOk m a t with
   |false=>rw[hk]at h;ext h
   |true =>
    rw[hk]at h;cases hs:stepT (denote Ĺ) p w s t with
    |none=>rw[hs]at h;ext h
    |some r=>let(d,e):=r;rw[hs]at h;rw[stepT_spec hs];show FX h
def oT(p:B')(w:Q2)(N:8):Option nc:=(fencedOpening Ĺ p w N).bind λs=>match s.heap.isNs tv&&s.gens.size==0 with
 |true=>(QZ s.heap.objs.toList 0 .nil).bind λT=>(rT p w ↥s (s.heap.nsMap tv "__annotations__") N #[T,↥s,s.heap.life,s.gens,s.drawn,s.toks,s.os] (topStub p)).bind λu=>match staticsOk (importedModules p.main.body) s.heap u.abs.heap&&namesBound p u.abs.heap&&gensDone u.abs&&laidKept s.heap u.abs.heap with
  |true=>bD u.abs
  |false=>cK
 |false=>cK
def Jr(h:oT p w N\r):openEnds Ĺ p w N\r:=by
 unfold oT at h;let(s,e,h):=o9.mp h;unfold openEnds;rw[e];change topFrom Ĺ p w N s=_;unfold topFrom;cases g:s.heap.isNs tv&&s.gens.size==0 with
 |false=>rw[g]at h;ext h|true =>
  rw[g]at h;let(T,b,h):=o9.mp h;let(u,c,h):=o9.mp h;let z:=wD (e:=s.heap.life) (a:=#v[]) b 9;let y:=FX c;rw[show SharedT.abs #[T,↥s,s.heap.life,s.gens,s.drawn,s.toks,s.os]=s from by change Shared.mk (absHeap T ↥s s.heap.life) _ _ _ _=s;rw[show ↥s=0+⇑s.heap.objs.toList by simp,z];simp]at y
  change Option.bind _ _=_;rw[y];show h
def top(i:8):VU:=if i<1000 then PySem.Challenge.pw_primer_k55_whole_gained_and_lost.main.body.getD i (.Pass #[0,0,0,0]) else match PySem.Challenge.pw_primer_k55_whole_gained_and_lost.main.body.getD (i / 1000 - 1) (.Pass #[0,0,0,0]) with|.ClassDef _ _ _ b _ _ _ _ _ _ _=>b.getD (i % 1000) (.Pass #[0,0,0,0])|_=>.Pass #[0,0,0,0]
def m0:ki:=.str "primer.words" 287
def m1:ki:=.str "primer.books" 330
def m2:ki:=.str "primer.learning" 401
def m3:ki:=.str "primer.shelf" 449
def m4:ki:=.str "primer.knots" 557
def m5:ki:=.str "primer.reader" 577
def m6:ki:=.str "primer.writer" 601
def m7:ki:=.str "law_primer_k55_whole_gained_and_lost" 616
structure Mz where
 x:5
 y:5
 i:8
 N:↑5
 a:mn
 c:mn
 m:ki
 cr:Obj
def z2(x y:5)(i:8)(N:↑5)(a c:mn)(m:ki)(k l e:8)(r s:mn)(u v w:ki)(d b t:8):Mz:=#[x,y,i,N,a,c,m,ZJ x y k l e r s u v w d b t]
def z1(x:5)(i:8)(N:↑5)(a c:mn)(m:ki)(k l e:8)(r s:mn)(u v w:ki)(d b t:8):Mz:=z2 x x i N a c m k l e r s u v w d b t
def zl:Mz:=z1 "law" 64 ["_law_script","_law_drawn_here","_law_names_here","_law_shelf","_law_past","_law_k","_law_found","_law_turn_here","_law_gains","_law_loses","_law_word","_law_rows","_law_leaning_here"] 416 415 m7 730 299 1 412 413 .none .none (.ref 414) 733 734 181
def zs:↑Mz:=[z1 "is_stem" 12 ["text"] 92 91 m0 297 19 1 88 89 .none .none (.ref 90) 300 301 181,
 z1 "is_later_sense" 13 ["text"] 97 96 m0 303 23 1 93 94 .none .none (.ref 95) 306 307 181,
 z1 "is_word" 14 ["text"] 104 103 m0 309 25 1 98 99 (.ref 100) (.ref 101) (.ref 102) 313 314 181,
 z1 "stem_of" 15 ["word"] 111 110 m0 316 29 1 105 106 (.ref 107) (.ref 108) (.ref 109) 320 321 181,
 z1 "number_of" 16 ["word"] 118 117 m0 323 31 1 112 113 (.ref 114) (.ref 115) (.ref 116) 327 328 181,
 z1 "is_row" 20 ["row","told"] 123 122 m1 336 36 1 119 120 .none .none (.ref 121) 339 340 181,
 z1 "in_one_order" 21 ["row"] 130 129 m1 342 41 1 124 125 (.ref 126) (.ref 127) (.ref 128) 346 347 181,
 z1 "alike" 22 ["row","other"] 137 136 m1 349 43 2 131 132 (.ref 133) (.ref 134) (.ref 135) 354 355 181,
 z1 "has_alike_rows" 23 ["book"] 142 141 m1 357 45 1 138 139 .none .none (.ref 140) 360 361 181,
 z1 "fits" 24 ["book"] 147 146 m1 363 47 1 143 144 .none .none (.ref 145) 366 367 181,
 z1 "fitted" 25 ["book"] 154 153 m1 369 51 1 148 149 (.ref 150) (.ref 151) (.ref 152) 373 374 181,
 z1 "words_of" 26 ["book","words","row"] 161 160 m1 376 55 1 155 156 (.ref 157) (.ref 158) (.ref 159) 382 383 181,
 z1 "rows_of" 27 ["book","word"] 166 165 m1 385 61 2 162 163 .none .none (.ref 164) 388 389 181,
 z1 "gathered" 28 ["pairs","found","key","value"] 173 172 m1 391 63 1 167 168 (.ref 169) (.ref 170) (.ref 171) 398 399 181,
 z1 "places_that_tell" 30 ["book","pairs","place","row"] 178 177 m2 403 71 1 174 175 .none .none (.ref 176) 406 407 181,
 z1 "new_steps" 31 ["book","places","known","steps","place","word"] 185 184 m2 409 76 3 179 180 (.ref 181) (.ref 182) (.ref 183) 418 419 181,
 z1 "steps_in_rounds" 32 ["book","tellers","missing","known","found","ready","steps","word","place","teller"] 190 189 m2 421 83 1 186 187 .none .none (.ref 188) 424 425 181,
 z1 "order" 33 ["book","found","steps"] 197 196 m2 427 101 1 191 192 (.ref 193) (.ref 194) (.ref 195) 433 434 181,
 z1 "learnt" 34 ["book"] 202 201 m2 436 106 1 198 199 .none .none (.ref 200) 439 440 181,
 z1 "not_learnt" 35 ["book"] 209 208 m2 442 108 1 203 204 (.ref 205) (.ref 206) (.ref 207) 446 447 181,
 z1 "places_alike" 37 ["book","row"] 214 213 m3 451 111 2 210 211 .none .none (.ref 212) 454 455 181,
 z1 "gained_and_lost" 38 ["ahead","behind","known","known_then","gained","lost"] 219 218 m3 457 113 2 215 216 .none .none (.ref 217) 460 461 181,
 z2 "__init__" "Shelf.__init__" 40000 ["self"] 233 232 m3 475 121 1 227 228 (.ref 229) (.ref 230) (.ref 231) 479 480 181,
 z2 "book" "Shelf.book" 40001 ["self"] 240 239 m3 482 125 1 234 235 (.ref 236) (.ref 237) (.ref 238) 486 487 181,
 z2 "learnt_now" "Shelf.learnt_now" 40002 ["self"] 247 246 m3 489 128 1 241 242 (.ref 243) (.ref 244) (.ref 245) 493 494 181,
 z2 "deeds" "Shelf.deeds" 40003 ["self"] 254 253 m3 496 131 1 248 249 (.ref 250) (.ref 251) (.ref 252) 500 501 181,
 z2 "put" "Shelf.put" 40004 ["self","word","told","row"] 261 260 m3 503 134 3 255 256 (.ref 257) (.ref 258) (.ref 259) 510 511 181,
 z2 "take" "Shelf.take" 40005 ["self","word","told","places"] 268 267 m3 513 142 3 262 263 (.ref 264) (.ref 265) (.ref 266) 520 521 181,
 z2 "back" "Shelf.back" 40006 ["self"] 275 274 m3 523 148 1 269 270 (.ref 271) (.ref 272) (.ref 273) 527 528 181,
 z2 "do_deed" "Shelf.do_deed" 40007 ["self","rows"] 282 281 m3 530 153 2 276 277 (.ref 278) (.ref 279) (.ref 280) 535 536 181,
 z2 "turn_to" "Shelf.turn_to" 40008 ["self","rows","changes"] 289 288 m3 538 157 2 283 284 (.ref 285) (.ref 286) (.ref 287) 544 545 181,
 z1 "knot" 41 ["book","blocks","word","row"] 301 300 m4 559 162 1 297 298 .none .none (.ref 299) 562 563 181,
 z1 "is_blocked" 42 ["book","pair","inside","places"] 306 305 m4 565 170 3 302 303 .none .none (.ref 304) 568 569 181,
 z1 "is_knot" 43 ["book","pairs","words"] 311 310 m4 571 175 2 307 308 .none .none (.ref 309) 574 575 181,
 z1 "read" 46 ["text"] 316 315 m5 581 182 1 312 313 .none .none (.ref 314) 584 585 181,
 z1 "read_row" 47 ["line","parts"] 323 322 m5 587 188 1 317 318 (.ref 319) (.ref 320) (.ref 321) 592 593 181,
 z1 "read_told" 48 ["parts"] 328 327 m5 595 193 1 324 325 .none .none (.ref 326) 598 599 181,
 z1 "shown" 50 ["book"] 333 332 m6 603 200 1 329 330 .none .none (.ref 331) 606 607 181,
 z1 "shown_told" 51 ["told"] 340 339 m6 609 202 1 334 335 (.ref 336) (.ref 337) (.ref 338) 613 614 181,
 z1 "_law_mix" 53 ["_law_cell_here","_law_k","_law_by"] 347 346 m7 618 207 2 341 342 (.ref 343) (.ref 344) (.ref 345) 624 625 181,
 z1 "_law_cell" 54 ["_law_script","_law_k","_law_seed"] 354 353 m7 627 210 2 348 349 (.ref 350) (.ref 351) (.ref 352) 633 634 181,
 z1 "_law_drawn" 55 ["_law_cell_here","_law_many","_law_found","_law_left","_law_k"] 361 360 m7 636 217 2 355 356 (.ref 357) (.ref 358) (.ref 359) 644 645 181,
 z1 "_law_name" 56 ["_law_drawn_here","_law_names_here","_law_letters","_law_name_here","_law_stem","_law_spare"] 366 365 m7 647 227 2 362 363 .none .none (.ref 364) 650 651 181,
 z1 "_law_names" 57 ["_law_script","_law_base","_law_many","_law_names_here","_law_k"] 373 372 m7 653 238 3 367 368 (.ref 369) (.ref 370) (.ref 371) 661 662 181,
 z1 "_law_told" 58 ["_law_drawn_here","_law_names_here","_law_top","_law_told_here","_law_k","_law_one"] 380 379 m7 664 243 2 374 375 (.ref 376) (.ref 377) (.ref 378) 673 674 181,
 z1 "_law_stands" 59 ["_law_rows","_law_row"] 385 384 m7 676 253 2 381 382 .none .none (.ref 383) 679 680 181,
 z1 "_law_leaning" 60 ["_law_rows","_law_word","_law_found","_law_at","_law_own","_law_told_here"] 392 391 m7 682 255 2 386 387 (.ref 388) (.ref 389) (.ref 390) 691 692 181,
 z1 "_law_turn" 61 ["_law_shelf","_law_drawn_here","_law_names_here","_law_past","_law_rows","_law_row","_law_kind","_law_word","_law_into","_law_book","_law_told_here"] 399 398 m7 694 264 0x4 393 394 (.ref 395) (.ref 396) (.ref 397) 708 709 181,
 z1 "_law_in_and_out" 62 ["_law_shelf","_law_word","_law_many","_law_past","_law_row","_law_k","_law_rows"] 406 405 m7 711 279 0x4 400 401 (.ref 402) (.ref 403) (.ref 404) 721 722 181,
 z1 "_law_afresh" 63 ["_law_shelf","_law_book","_law_known","_law_held"] 411 410 m7 724 292 1 407 408 .none .none (.ref 409) 727 728 181,
 zl]
def fz(m:Mz):Obj:=#[.type "function",cK,.func (W.fnOf m.x m.y (fU (top m.i)) (cC (top m.i)) (aO (top m.i)) .none .none .none m.m cK (.ref m.c) .none),#v[]]
def fZ(g:Gx):W.Frag:=(3,g.1)::(zs.flatMap (λm=>[(m.c,m.cr),(m.a,fz m)])++g.2)
def gg(P:ŏ):Obj:=#[.type "dict",cK,.dict #v[ge P "__name__" 165 (.str "law_primer_k55_whole_gained_and_lost" 616),ge P "__doc__" 166 .none,ge P "__package__" 167 .none,ge P "__loader__" 168 (.builtin "__main__.__loader__#opaque"),ge P "__spec__" 169 .none,ge P "__annotations__" 170 (.ref 0x6),ge P "__builtins__" 171 (.ref 0x4),ge P "__file__" 173 (.str "/claim/cut.py" 172),ge P "__cached__" 174 .none,ge P "PrimerError" 206 (.ref 24),ge P "NoText" 222 (.ref 37),ge P "Unfit" 238 (.ref 49),ge P "TooMany" 254 (.ref 61),ge P "NoRow" 270 (.ref 73),ge P "NoDeed" 286 (.ref 85),ge P "LETTERS" 290 (.str "abcdefghijklmnopqrstuvwxyz" 289),ge P "LONGEST_STEM" 292 (.int 0x8 291),ge P "FIRST_SENSE" 294 (.int 1 293),ge P "LAST_SENSE" 296 (.int 99 295),ge P "is_stem" 302 (.ref 92),ge P "is_later_sense" 308 (.ref 97),ge P "is_word" 315 (.ref 104),ge P "stem_of" 322 (.ref 111),ge P "number_of" 329 (.ref 118),ge P "MOST_TOLD" 333 (.int 0x8 332),ge P "MOST_ROWS" 335 (.int 60 334),ge P "is_row" 341 (.ref 123),ge P "in_one_order" 348 (.ref 130),ge P "alike" 356 (.ref 137),ge P "has_alike_rows" 362 (.ref 142),ge P "fits" 368 (.ref 147),ge P "fitted" 375 (.ref 154),ge P "words_of" 384 (.ref 161),ge P "rows_of" 390 (.ref 166),ge P "gathered" 400 (.ref 173),ge P "places_that_tell" 408 (.ref 178),ge P "new_steps" 420 (.ref 185),ge P "steps_in_rounds" 426 (.ref 190),ge P "order" 435 (.ref 197),ge P "learnt" 441 (.ref 202),ge P "not_learnt" 448 (.ref 209),ge P "places_alike" 456 (.ref 214),ge P "gained_and_lost" 462 (.ref 219),ge P "Shelf" 556 (.ref 292),ge P "knot" 564 (.ref 301),ge P "is_blocked" 570 (.ref 306),ge P "is_knot" 576 (.ref 311),ge P "PICTURE_SIGN" 580 (.str "*" 579),ge P "read" 586 (.ref 316),ge P "read_row" 594 (.ref 323),ge P "read_told" 600 (.ref 328),ge P "shown" 608 (.ref 333),ge P "shown_told" 615 (.ref 340),ge P "_law_mix" 626 (.ref 347),ge P "_law_cell" 635 (.ref 354),ge P "_law_drawn" 646 (.ref 361),ge P "_law_name" 652 (.ref 366),ge P "_law_names" 663 (.ref 373),ge P "_law_told" 675 (.ref 380),ge P "_law_stands" 681 (.ref 385),ge P "_law_leaning" 693 (.ref 392),ge P "_law_turn" 710 (.ref 399),ge P "_law_in_and_out" 723 (.ref 406),ge P "_law_afresh" 729 (.ref 411),ge P "law" 735 (.ref 416)] 65,#v[]]
def xo(P:ŏ):↑(mn×Obj):=[(292,({cls:=.type "type",data:=.cls {name:="Shelf",bases:=[.type "object"],mro:=[.ref 292,.type "object"],ns:=291,qualname:="Shelf" },slots:=#v[cK,cK,bD (.str "Shelf" 463),bD (.str "Shelf" 471),bD (.builtin "object.__new__"),bD (.bool 4)]}:Obj)),
 (291,({cls:=.type "dict",data:=.dict #v[{hash:=Ou P "__module__",key:=.str "__module__" 470,val:=.str "primer.shelf" 449},{hash:=Ou P "__firstlineno__",key:=.str "__firstlineno__" 474,val:=.int 119 473},{hash:=Ou P "__init__",key:=.str "__init__" 481,val:=.ref 233},{hash:=Ou P "book",key:=.str "book" 488,val:=.ref 240},{hash:=Ou P "learnt_now",key:=.str "learnt_now" 495,val:=.ref 247},{hash:=Ou P "deeds",key:=.str "deeds" 502,val:=.ref 254},{hash:=Ou P "put",key:=.str "put" 512,val:=.ref 261},{hash:=Ou P "take",key:=.str "take" 522,val:=.ref 268},{hash:=Ou P "back",key:=.str "back" 529,val:=.ref 275},{hash:=Ou P "do_deed",key:=.str "do_deed" 537,val:=.ref 282},{hash:=Ou P "turn_to",key:=.str "turn_to" 546,val:=.ref 289},{hash:=Ou P "__static_attributes__",key:=.str "__static_attributes__" 549,val:=.ref 290},{hash:=Ou P "__dict__",key:=.str "__dict__" 551,val:=.ref 293},{hash:=Ou P "__weakref__",key:=.str "__weakref__" 553,val:=.ref 294},{hash:=Ou P "__doc__",key:=.str "__doc__" 554,val:=.none}] 0x4}:Obj))]
def gx(P:ŏ):Gx:=(gg P,xo P)
def xa:↑mn:=[292,291]
def aZ:↑mn:=3::(zs.flatMap (λm=>[m.c,m.a])++xa)
def vw:B':=view PySem.Challenge.pw_primer_k55_whole_gained_and_lost [12,13,14,15,16,20,21,22,23,24,25,26,27,28,30,31,32,33,34,35,37,38,40000,40001,40002,40003,40004,40005,40006,40007,40008,41,42,43,46,47,48,50,51,53,54,55,56,57,58,59,60,61,62,63,64]
def R8:↑5:=["PrimerError","NoText","Unfit","TooMany","NoRow","NoDeed","LETTERS","LONGEST_STEM","FIRST_SENSE","LAST_SENSE","MOST_TOLD","MOST_ROWS","Shelf","PICTURE_SIGN"]
noncomputable abbrev xt(s:nc):Bool:=xlAt vw [] s&&recOk (RowW.records PySem.Challenge.rw_primer_k55_whole_gained_and_lost.row.toRowW) s
noncomputable abbrev oe(w:Q2):Option nc:=oT PySem.Challenge.rw_primer_k55_whole_gained_and_lost.row.prog w 4000
noncomputable abbrev os(s:nc):=openSeen vw R8 (importedModules PySem.Challenge.rw_primer_k55_whole_gained_and_lost.row.prog.main.body) xt 4 s
noncomputable abbrev qF{α β:Type}(x:α×β):α:=Prod.rec (motive:=λ_=>α) (λa _=>a) x
noncomputable abbrev qS{α β:Type}(x:α×β):β:=Prod.rec (motive:=λ_=>β) (λ_ a=>a) x
noncomputable abbrev S2(b:Bool):Type:={p:Bool×Bool // (p.1&&p.2)=b}
def S2.t(x:S2 b)(a:x.1.1=4)(c:x.1.2=4):b=4:=by rw[<-x.2,a,c];rfl
noncomputable def w1(l:VB):S2 l.wellSaid:=#[(_,_),9]
noncomputable def w2(l:VB):S2 (w1 l).1.1:=#[(_,_),9]
noncomputable def w3(l:VB):S2 (w2 l).1.1:=#[(_,_),9]
noncomputable def w4(l:VB):S2 (w3 l).1.1:=#[(_,_),9]
noncomputable def w5(l:VB):S2 (w4 l).1.1:=#[(_,_),9]
noncomputable def w6(l:VB):S2 (w5 l).1.1:=#[(_,_),9]
noncomputable def w7(l:VB):S2 (w6 l).1.1:=#[(_,_),9]
noncomputable def w8(l:VB):S2 (w7 l).1.1:=#[(_,_),9]
noncomputable def w9(l:VB):S2 (w8 l).1.1:=#[(_,_),9]
noncomputable def WV(l:VB):S2 (w9 l).1.1:=#[(_,_),9]
noncomputable def WW(l:VB):S2 (WV l).1.1:=#[(_,_),9]
noncomputable def WX(l:VB):S2 (WW l).1.1:=#[(_,_),9]
noncomputable def WY(l:VB):S2 (WX l).1.1:=#[(_,_),9]
noncomputable def WZ(l:VB):S2 (WY l).1.1:=#[(_,_),9]
noncomputable def W0(l:VB):S2 (WZ l).1.1:=#[(_,_),9]
noncomputable def W2(l:VB):S2 (W0 l).1.1:=#[(_,_),9]
noncomputable def W3(l:VB):S2 (W2 l).1.1:=#[(_,_),9]
def W4:(w1 PySem.Challenge.rw_primer_k55_whole_gained_and_lost).1.2=4:=by kernel_rfl
def ha2:(w2 PySem.Challenge.rw_primer_k55_whole_gained_and_lost).1.2=4:=by kernel_rfl
def ha3:(w3 PySem.Challenge.rw_primer_k55_whole_gained_and_lost).1.2=4:=by kernel_rfl
def ha4:(w4 PySem.Challenge.rw_primer_k55_whole_gained_and_lost).1.2=4:=by kernel_rfl
def ha5:(w5 PySem.Challenge.rw_primer_k55_whole_gained_and_lost).1.2=4:=by kernel_rfl
def ha6:(w6 PySem.Challenge.rw_primer_k55_whole_gained_and_lost).1.2=4:=by kernel_rfl
def ha7:(w7 PySem.Challenge.rw_primer_k55_whole_gained_and_lost).1.2=4:=by kernel_rfl
def ha8:(w8 PySem.Challenge.rw_primer_k55_whole_gained_and_lost).1.2=4:=by kernel_rfl
def ha9:(w9 PySem.Challenge.rw_primer_k55_whole_gained_and_lost).1.2=4:=by kernel_rfl
def Ll:(WV PySem.Challenge.rw_primer_k55_whole_gained_and_lost).1.2=4:=by kernel_rfl
def Lm:(WW PySem.Challenge.rw_primer_k55_whole_gained_and_lost).1.2=4:=by kernel_rfl
def Ln:(WX PySem.Challenge.rw_primer_k55_whole_gained_and_lost).1.2=4:=by kernel_rfl
def Lo:(WY PySem.Challenge.rw_primer_k55_whole_gained_and_lost).1.2=4:=by kernel_rfl
def Lp:(WZ PySem.Challenge.rw_primer_k55_whole_gained_and_lost).1.2=4:=by kernel_rfl
def Lq:(W0 PySem.Challenge.rw_primer_k55_whole_gained_and_lost).1.2=4:=by kernel_rfl
def Ls:(W2 PySem.Challenge.rw_primer_k55_whole_gained_and_lost).1.2=4:=by kernel_rfl
def Lu:(W3 PySem.Challenge.rw_primer_k55_whole_gained_and_lost).1.2=4:=by kernel_rfl
def ha0:(W3 PySem.Challenge.rw_primer_k55_whole_gained_and_lost).1.1=4:=by kernel_rfl
def hs:PySem.Challenge.rw_primer_k55_whole_gained_and_lost.wellSaid=4:=S2.t (w1 _) (S2.t (w2 _) (S2.t (w3 _) (S2.t (w4 _) (S2.t (w5 _) (S2.t (w6 _) (S2.t (w7 _) (S2.t (w8 _) (S2.t (w9 _) (S2.t (WV _) (S2.t (WW _) (S2.t (WX _) (S2.t (WY _) (S2.t (WZ _) (S2.t (W0 _) (S2.t (W2 _) (S2.t (W3 _) (ha0) Lu) Ls) Lq) Lp) Lo) Ln) Lm) Ll) ha9) ha8) ha7) ha6) ha5) ha4) ha3) ha2) W4
def O8(w):(oe w).map (λs=>qF (os s))\(Ψ vw R8).1:=by kernel_rfl
def Pn(w):(oe w).map (λs=>qF (qS (qS (os s))))\(Ψ vw R8).2.2.1:=by kernel_rfl
def hl4(w):(oe w).map (λs=>qF (qS (qS (qS (os s)))))\(Ψ vw R8).2.2.2.1:=by kernel_rfl
def Tq(w):(oe w).map (λs=>qF (qS (os s)))\(Ψ vw R8).2.1:=by kernel_rfl
def R9(w):(oe w).map (λs=>qS (qS (qS (qS (os s)))))\(Ψ vw R8).2.2.2.2:=by kernel_rfl
def hl6(w):(oe w).map (λs=>aZ.map s.heap.get?)\((fZ (gx w.params)).map λp=>bD p.2):=by kernel_rfl
end K
namespace L2
open PySem PySem.Spec PyProof.Rows
abbrev Key:=Sum Int 5
def pq:Key->ki->Bool|.inl k,v=>aa5 k v|.inr x,v=>Xt x v
def Lv(w:Q2):Key->Int|.inl k=>hashInt k|.inr x=>hashStr w x
theorem bJ:∀{k}{v},pq k v=4->(∃i t,k=Ŀ i/\v=Ϭ i t)\/(∃x t,k=vl x/\v=DD x t)|.inl i,v,h=>by let(t,e):=Value.isInt_shape   h;show .inl #[i,t,9,e]|.inr x,v,h=>by let(t,e):=ξ   h;show .inr #[x,t,9,e]
def yr(i)(t):pq (.inl i) (.int i t)=4:=by simp[pq,aa5]
def yt(x)(t):pq (.inr x) (.str x t)=4:=by simp[pq,Xt]
def GB(a b):gi ((Ŀ a:Key)=Ŀ b)=(a==b):=by
 by_cases e:a=b
 .subst e;simp
 let h:¬(Ŀ a:Key)=Ŀ b:=λq=>e (Sum.inl.inj q);rw[decide_eq_false h];show(beq_eq_false_iff_ne.mpr e).symm
def GC(a b):gi ((vl a:Key)=vl b)=gi (a=b):=by simp
def GD(a)(b):gi ((Ŀ a:Key)=vl b)=dt:=decide_eq_false (λq=>nomatch q)
def GF(a)(b):gi ((vl a:Key)=Ŀ b)=dt:=decide_eq_false (λq=>nomatch q)
def a_(prog:B')(w:Q2):PySem.KeyKind prog w Key where
 is:=pq
 hash:=Lv w
 inj:=λv a b g f=>by
  obtain⟨i,t,rfl,rfl⟩|⟨x,t,rfl,rfl⟩:=bJ g
  .rcases bJ f with⟨j,u,rfl,e⟩|⟨y,u,rfl,e⟩
   .injection e with c _;rw[c]
   show nomatch e
  obtain⟨j,u,rfl,e⟩|⟨y,u,rfl,e⟩:=bJ f
  .show nomatch e
  injection e with c _;rw[c]
 byValue:=λk v h=>by obtain⟨i,t,rfl,rfl⟩|⟨x,t,rfl,rfl⟩:=bJ h<;>rfl
 pyHash:=λd h=>by
  obtain⟨i,t,rfl,rfl⟩|⟨x,t,rfl,rfl⟩:=bJ d
  .show wpAny_pyHash_int h
  show wpAny_pyHash_str h
 eqBool:=λl d h=>by
  obtain⟨i,t,rfl,rfl⟩|⟨x,t,rfl,rfl⟩:=bJ l
  .rcases bJ d with⟨j,u,rfl,rfl⟩|⟨y,u,rfl,rfl⟩
   .rw[GB]at h;show abg h
   rw[GD]at h;show SeqAt.EqAt.int_str i t y u _ _ _ _ h
  obtain⟨j,u,rfl,rfl⟩|⟨y,u,rfl,rfl⟩:=bJ d
  .rw[GF]at h;show SeqAt.EqAt.str_int x t j u _ _ _ _ h
  rw[GC]at h;show abf h
 «strs»:=λk x t v h=>by
  obtain⟨i,u,rfl,e⟩|⟨y,u,rfl,e⟩:=bJ h
  .show nomatch e
  injection e with c _
  subst c;cases v<;>rfl
def sj(prog)(w)(i)(t):(a_ prog w).is (.inl i) (.int i t)=4:=yr i t
def sm(prog)(w)(x)(t):(a_ prog w).is (.inr x) (.str x t)=4:=yt x t
inductive V where|Mx|bl (b:Bool)|int (i:Int)|str (x:Str)|Uc (b:Array UInt8)|Ud (b:UInt64)|ref (a:mn)|ty (n:String)
 deriving DecidableEq
def RelV:V->ki->6|.Mx,u=>u=M6|.bl b,u=>u=Ā b|.int i,u=>∃t,u=Ϭ i t|.str x,u=>∃t,u=DD x t|.Uc b,u=>∃t,u=aa7 b t|.Ud b,u=>∃t,u=aa6 b t|.ref a,u=>u=oa a|.ty n,u=>u=YS n
abbrev Vals:↑V->↑ki->6:=Paired RelV
def Vals.length(r:Vals a b):-a=-b:=Paired.length r
theorem Vals.get:∀{a}{b}{i:8}{x},Vals a b->a[i]?\x->∃u,b[i]?\u/\RelV x u|_,_,_,_,.nil,e=>by simp at e|_,_,0,_,.cons r _,e=>by simp at e;subst e;show#[_,9,r]|_,_,i+1,x,.cons _ t,e=>by let(u,d,c):=Vals.get   t (by exists e);show#[u,by assumption,c]
theorem Vals.set(r:RelV x u):∀{a}{b} i,Vals a b->Vals (a.set i x) (b.set i u)|_,_,_,.nil=>.nil|_,_,0,.cons _ t=>.cons r t|_,_,i+1,.cons q t=>.cons q (Vals.set r i t)
theorem Vals.append:∀{a b}{c d},Vals a c->Vals b d->Vals (a++b) (c++d)|_,_,_,_,.nil,s=>s|_,_,_,_,.cons r t,s=>.cons r (Vals.append t s)
theorem Vals.take:∀{a}{b} n,Vals a b->Vals (a.take n) (b.take n)|_,_,0,_=>.nil|_,_,_+1,.nil=>.nil|_,_,n+1,.cons r t=>.cons r (Vals.take n t)
theorem Vals.drop:∀{a}{b} n,Vals a b->Vals (a.drop n) (b.drop n)|_,_,0,r=>r|_,_,_+1,.nil=>.nil|_,_,n+1,.cons _ t=>Vals.drop n t
def gK:Option V->Option ki->6|some v,bD u=>RelV v u|none,cK=>True|_,_=>False
noncomputable def KV{κ:Type}:↑(κ×V)->↑(κ×ki)->6:=Paired λ(p:κ×V) (q:κ×ki)=>p.1=q.1/\RelV p.2 q.2
def kV:Key->V|.inl i=>.int i|.inr x=>.str x
inductive HO where
 |lst (xs:↑V)|tup (xs:↑V)|dK (kvs:↑(Key×V))|dT (kvs:↑(↑Key×V))
 |set (S:Int->Bool) (n:Nat)|ins (C dx:mn) (fs:↑(Str×V))|own (x:mn)|xd (fs:↑(Str×V))|met (f x:mn)|W5 (lo hi:Int)|N0 (o:Obj) (u:HO)|R_ (ps:Array ki)|ext (φ:UD->Prop)
abbrev Hp:=mn->Option HO
def upd(H:Hp)(a:mn)(o:HO):Hp:=λb=>if b=a then bD o else H b
def ak:upd H a o a\o:=by unfold upd;simp
def aj(h:b≠a):upd H a o b=H b:=by unfold upd;rw[if_neg h]
def Js{H:Hp}(h:H a\o)(c:H b\u)(d:o≠u):a≠b:=by intro e;subst e;rw[h]at c;show d (D' c)
def bT{H:Hp}(h:H a\o)(c:H b=cK):a≠b:=by grind
section
variable(P:B')(w:Q2)
def bX(H:Hp)(h:UD)(a:mn):HO->6
 |.lst c=>-c<=et/\∃(e:↑ki) (n:8),Vals c e/\h.get? a\{cls:=.type "list",data:=.seq e.toArray n}|.tup c=>-c<=et/\∃e:↑ki,Vals c e/\IsTup h a e.toArray|.dK b=>-b<=et/\(a==Xx)=dt/\∃j,KV b j/\h.DictOf (a_ P w) a j|.dT b=>-b<=et/\(a==Xx)=dt/\∃c:↑(↑Key×mn×ki),
   Paired (λ(p:↑Key×V) (q:↑Key×mn×ki)=>p.1=q.1/\H q.2.1\.tup (p.1.map kV)/\RelV p.2 q.2.2) b c /\
   ∃o k r,h.get? a\o/\o.ExactDict/\o.data=.dict k r/\k.toList=c.map (entryOfKey (ū (a_ P w)))/\(c.map (·.1)).Nodup
 |.set S n=>h.SetOf (intKind P w) a S n|.ins C i g=>H i\.own a/\-g<=1000/\i≠a/\h.get? a\W.instObj C i /\
   ∃d,h.Ns1 i d/\(∀f,gK (g.lookup f) (d f))/\PySem.Within d (g.map (·.1))
 |.own _=>∃o,h.get? a\o|.xd g=>∃d,h.Ns1 a d/\∀f,gK (g.lookup f) (d f)|.W5 lo s=>∃t u v,h.get? a\{cls:=.type "range",data:=.fields #v[.int lo t,.int s u,.int 1 v]}|.N0 o u=>h.get? a\o/\bX H h a u|.R_ y=>h.get? a\{cls:=.none,data:=.fields y}|.met f x=>h.get? a\W.methodObj (.ref f) (.ref x)|.ext φ=>φ h/\(∃o,h.get? a\o)/\∀l m:UD,φ l->(∀o,l.get? a\o->m.get? a\o)->φ m
def Nw(H:Hp)(h:UD):6:=∀a o,H a\o->bX P w H h a o
end
def bX.lt(x:bX P w H h a o):a<h.objs.size:=by cases o with|lst b=>let(_,_,_,_,e):=x;show i8 e|tup b=>let(_,_,_,p):=x;show p.lt|set S n=>let(o,_,_,_,e,_):=x;show i8 e|ins C d c=>let(_,_,_,e,_):=x;show i8 e|own y=>let(_,e):=x;show i8 e|xd c=>let(_,(_,_,_,e,_),_):=x;show i8 e|W5 lo g=>let(_,_,_,e):=x;show i8 e|N0 i u=>let(e,_):=x;show i8 e|R_ j=>show i8 (x)|met f y=>show i8 (x)|ext φ=>let(_,(_,e),_):=x;show i8 e|_=>let(_,_,_,_,o,_,_,e,_):=x;show i8 e
theorem Paired.GG:∀{c:↑α}{d},Paired F c d->(∀a b,F a b->G a b)->Paired G c d|_,_,.nil,_=>.nil|_,_,.cons r t,f=>.cons (f _ _ r) (Paired.GG t f)
def bX.ja(x:bX P w H h a o)(k:∀b u,(b=a\/H b\.own a)->h.get? b\u->G.get? b\u) (ho:∀b,H b\.own a->D b\.own a) (I:∀b l,H b\.tup l->D b\.tup l):bX P w D G a o:=by induction o with|lst l=>let(z,m,n,r,e):=x;show#[z,m,n,r,k _ _ (.inl 9) e]|tup l=>let(z,m,r,g,e,c):=x;show#[z,m,r,g,k _ _ (.inl 9) e,c]|dK s=>let(z,y,J,r,g,i,j,e,c):=x;show#[z,y,J,r,g,i,j,k _ _ (.inl 9) e,c]|dT s=>let(z,y,l,r,g,i,j,e,c):=x;show#[z,y,l,Paired.GG r λp q z=>#[z.1,I _ _ z.2.1,z.2.2],g,i,j,k _ _ (.inl 9) e,c]|set S n=>let(g,i,j,t,e,c):=x;show#[g,i,j,t,k _ _ (.inl 9) e,c]|ins C dx N=>let(d,z,Q,e,A,(B,i,j,T,c),r):=x;show#[ho _ d,z,Q,k _ _ (.inl 9) e,A,#[B,i,j,k _ _ (.inr d) T,c],r]|own y=>let(g,e):=x;show#[g,k _ _ (.inl 9) e]|xd N=>let(A,(B,i,j,e,c),r):=x;show#[A,#[B,i,j,k _ _ (.inl 9) e,c],r]|W5 lo hi=>let(t,u,v,e):=x;show#[t,u,v,k _ _ (.inl 9) e]|N0 g u Y=>let(e,q):=x;show#[k _ _ (.inl 9) e,Y q]|R_ ps=>let e:=x;show k a _ (.inl 9) e|met f y=>let e:=x;show k a _ (.inl 9) e|ext φ=>let(p,(o,e),st):=x;show#[st _ _ p λo q=>k _ _ (.inl 9) q,#[o,k _ _ (.inl 9) e],st]
def Nw.lt(x:Nw P w H h)(e:H a\o):a<h.objs.size:=(x a o e).lt
def Nw.fresh(x:Nw P w H h)(e:h.objs.size<=a):H a=cK:=by cases q:H a with|none=>rfl|some u=>show absurd (pb (x.lt q) e) (OH _)
def Nw.kept(x:Nw P w H h)(k:∀b u,h.get? b\u->h'.get? b\u):Nw P w H h':=λa o e=>(x a o e).ja (λb u _ q=>k b u q) (λ_ q=>q) λ_ _ q=>q
def Nw.laid(x:Nw P w H h)(k:∀b u,h.get? b\u->h'.get? b\u)(g:h.objs.size<=a)(i:bX P w (upd H a o) h' a o):Nw P w (upd H a o) h':=λb u e=>by
 let d:=x.fresh g;by_cases f:b=a
 .subst f;rw[ak]at e;left
 rw[aj f]at e;show(x b u e).ja (λc v _ q=>k c v q) (λc q=>by rw[aj (bT q d)];show q) λc j q=>by rw[aj (bT q d)];show q
def Rd(H:Hp)(a:mn)(u:HO):6:=H a\u\/∃o,H a\.N0 o u
def Rd.ok(r:Rd H a u)(x:Nw P w H h):bX P w H h a u:=by
 obtain r|⟨o,r⟩:=r
 .show x a u r
 let(_,q):=x a _ r;show q
def Ue:Option HO->6|some (.lst _)=>True|some (.dK _)=>True|some (.dT _)=>True|some (.set _ _)=>True|some (.ins _ _ _)=>True|some (.ext _)=>True|_=>False
def Nw.write(ok:Nw P w H h)(a:Ue (H x))(l:e=x\/H e\.own x)(k:∀b u,b≠e->h.get? b\u->i.get? b\u)(p:∃u,i.get? e\u) (j:bX P w (upd H x m) i x m):Nw P w (upd H x m) i:=λb u q=>by
 let n:∀c y,H c\.own y->c≠x:=λc y r z=>by subst z;rw[r]at a;show a
 let s:∀c d,H c\.tup d->c≠x:=λc d r z=>by subst z;rw[r]at a;show a
 by_cases f:b=x
 .subst f;rw[ak]at q;ext q;show j
 rw[aj f]at q;by_cases g:b=e
 .let o:H b\.own x:=by
   obtain z|z:=l
   .show absurd (g.trans z) f
   rw[g];show z
  rw[q]at o;ext o;let(v,t):=p;show#[v,by rw[g];show t]
 show(ok b u q).ja (λc v hc r=>k c v ?_ r) (λc r=>by rw[aj (n c b r)];show r) λc d r=>by rw[aj (s c d r)];show r
 obtain rfl|hc:=hc
 .show g
 rintro rfl;obtain z|z:=l
 .show n c b hc z
 rw[hc]at z;ext z;show f 9
structure Un(fs ex:↑mn)(H H':Hp)(h h':UD):6 where
 keep:∀b o,h.get? b\o->H b=cK->b∉fs->b∉ex->h'.get? b\o
 slot:∀b o,h.get? b\o->H b=cK->b∈fs->b∉ex->∃sl,h'.get? b\{o with slots:=sl}
 free:∀b o,h.get? b\o->H b=cK->b∉ex->H' b=cK
 there:∀b o,h.get? b\o->b∉ex->∃o',h'.get? b\o'
 lY:∀b xs,H b\.tup xs->H' b\.tup xs
 Oo:∀b o u,H b\.N0 o u->H' b\.N0 o u
 OA:∀b ps,H b\.R_ ps->∃more,H' b\.R_ (ps++more)
def Un.any(u:Un e f H j h g)(q:h.get? b\a)(n:H b=cK)(c:b∉f):∃i,g.get? b\{a with slots:=i}:=by
 by_cases d:b∈e
 .show u.slot b a q n d c
 show#[_,u.keep b a q n d c]
def Un.kept(k:∀b u,h.get? b\u->h'.get? b\u):Un c d H H h h' :=#[λb a q _ _ _=>k b a q,λb a q _ _ _=>#[_,k b a q],λ_ _ _ n _=>n,λb a q _=>#[a,k b a q],λ_ _ q=>q,λ_ _ _ q=>q,λ_ e q=>#[#v[],by left]]
def Un.refl:Un a b H H h h:=Un.kept λ_ _ q=>q
def Un.laid(k:∀b u,h.get? b\u->h'.get? b\u)(d:h.objs.size<=a)(c:H a=cK):Un f g H (upd H a o) h h' where
 keep:=λb u q _ _ _=>k b u q
 slot:=λb u q _ _ _=>#[_,k b u q]
 free:=λb u q n _=>by rw[aj (lx (pb (i8 q) d))];show n
 there:=λb u q _=>#[u,k b u q]
 lY:=λb e q=>by rw[aj (bT q c)];show q
 Oo:=λb u e q=>by rw[aj (bT q c)];show q
 OA:=λb i q=>#[#v[],by rw[aj (bT q c),q];simp]
def Un.write(c:Ue (H x))(l:e=x\/H e\.own x)(k:∀b u,b≠e->h.get? b\u->d.get? b\u)(m:∃u,d.get? e\u):Un p r H (upd H x o) h d:=by
 let g:∀b,H b=cK->b≠x:=λb n z=>by subst z;rw[n]at c;show c
 let f:∀b,H b=cK->b≠e:=λb n z=>by left
 let a:∀b u,H b\u->¬Ue (bD u)->b≠x:=λb u q s z=>by left
 show#[λb u q n _ _=>k b u (f b n) q,λb u q n _ _=>#[_,k b u (f b n) q],λb u q n _=>by rw[aj (g b n)];show n,λb u q _=>?_,
  λb i q=>by rw[aj (a b _ q λz=>z)];show q,λb u i q=>by rw[aj (a b _ q λz=>z)];show q,λb t q=>#[#v[],by rw[aj (a b _ q λz=>z),q];simp]]
 by_cases j:b=e
 .simp_all
 show#[u,k b u j q]
def ZK(h:UD)(H:Hp):↑mn:=(hW h.objs.size).filter λa=>(H a).isSome
def qm(h:UD)(H:Hp):UD:=W.hideAll h (ZK h H)
def yu(h)(H):(qm h H).objs.size=h.objs.size:=W.hideAll_size _ _
def zY(e:h.get? b\o)(n:H b=cK):(qm h H).get? b\o :=W.hideAll_get _ e λa=>by let q:=(MW.mp a).2;left
def Dw(e:(qm h H).get? b\o):h.get? b\o/\H b=cK:=by let a:=W.of_hideAll _ e;show#[a,?_];cases q:H b with|none=>rfl|some x=>let c:b∈ZK h H:=MW.mpr #[O7.mpr (i8 a),by simp[q]];let z:(qm h H).get? b=cK:=W.hideAll_none _ c;left
structure Mod(K:W.Frag)(mg:5->Option ki)(base:UD):6 where
 Uh:K.In base
 glob:base.Ns tv mg
 blt:∃mb,base.Ns aaQ mb/\∀x:5,x≠"__name__"->mb x=Pd x
 nolimit:base.NoLimit
structure Cx where
 prog:B'
 w:Q2
 K:W.Frag
 mg:5->Option ki
 base:UD
 A:Ç
 N:↑5
 s₀:nc
 H₀:Hp
 env:Env
 outer:↑Env
 stack:↑Env
 ex:↑mn
 fn:5->Bool
 calm:Bool
 pn:↑(mn×Obj)
 xe:ki->nc->6
def OP(l:↑Env):↑mn:=l.filterMap (·.frame)
noncomputable abbrev Cx.fs(X:Cx):↑mn:=OP X.outer
def NA(a:V9)(x:5):6:=a.names.lookup x\.local\/a.names.lookup x\.cell\/a.names.lookup x\.free
def Loc(a:V9)(x:5):6:=a.names.lookup x\.local\/a.names.lookup x\.cell
def Look(a:Env)(h:UD)(m:5->Option ki)(x:5)(u:ki):6 :=(a.kindOf x\.local/\m x\u)\/((a.kindOf x\.cell\/a.kindOf x\.free)/\∃c,a.cells.lookup x\c/\h.IsCell c (bD u))
structure Cx.Ok(X:Cx):6 where
 mod:Mod X.K X.mg X.base
 kind:X.env.scope.kind=.function
 glob:X.env.globals=tv
 blt:X.env.builtins=aaQ
 above:↥X.s₀<=X.env.locals
 inj:∀x y c,X.env.cells.lookup x\c->X.env.cells.lookup y\c->x=y
 has:∀x,(X.env.kindOf x\.cell\/X.env.kindOf x\.free)->∃c,X.env.cells.lookup x\c
 Ui:∀x c,X.fn x=4->X.env.cells.lookup x\c->↥X.s₀<=c
 hd:X.calm=4->X.A.handled=cK
 frames:X.A.frames\X.stack
 VG:X.stack=X.outer\/(X.stack=X.env::X.outer/\X.env.frame\X.env.locals)
 ZL:∀b∈X.ex,b≠X.env.locals/\∀x c,X.env.cells.lookup x\c->c≠b
 bs:∀b o,X.base.get? b\o->X.s₀.heap.get? b\o/\X.H₀ b=cK
 Q1:X.base.objs.size<=↥X.s₀
 Qk:∀b o,X.base.get? b\o->b∉X.ex
 Q3:∀b∈X.ex,b∉X.fs
 lV:X.s₀.heap.FunFrames X.base X.outer
 Sa:∀b∈X.fs,X.H₀ b=cK
structure Inv(X:Cx)(pins:↑(mn×Obj))(σ:↑(Option V))(H:Hp)(s:nc):6 where
 ok:X.Ok
 os:s.os=X.s₀.os
 bare:Ĉ s.gens
 base:Un X.fs X.ex X.H₀ H X.s₀.heap s.heap
 loc:∃m,s.heap.Ns X.env.locals m/\∀(i:8) (x:5) (v:V),X.N[i]?\x->σ[i]?\bD v->NA X.env.scope x->∃u,RelV v u/\Look X.env s.heap m x u
 cell:∀x c,X.env.cells.lookup x\c->∃v,s.heap.IsCell c v
 free:H X.env.locals=cK
 Nl:∀x c,X.env.cells.lookup x\c->H c=cK
 pin:∀p∈X.pn++pins,s.heap.get? p.1\p.2/\H p.1=cK/\p.1≠X.env.locals/\p.1∉X.fs/\∀v,p.2.data≠.cell v
 Ms:Nw X.prog X.w H s.heap
 len:-σ=-X.N
section
variable{X:Cx}{pins:List (mn×Obj)}{σ:List (Option V)}{H H':Hp}{s:nc}{h':UD}
def Cx.Ok.Lw(ok:X.Ok)(e:X.base.get? b\o):b∉X.fs:=λa=>by let:=(ok.lV.mem a).1;left
def Inv.bs(I:Inv X pins σ H s):∀b o,X.base.get? b\o->s.heap.get? b\o/\H b=cK:=λb o e=>#[I.base.keep b o (I.ok.bs b o e).1 (I.ok.bs b o e).2 (I.ok.Lw e) (I.ok.Qk b o e),I.base.free b o (I.ok.bs b o e).1 (I.ok.bs b o e).2 (I.ok.Qk b o e)]
def Inv.bk(I:Inv X pins σ H s):∀b o,X.base.get? b\o->s.heap.get? b\o:=λb o e=>(I.bs b o e).1
def Inv.mod(I:Inv X pins σ H s):Mod X.K X.mg X.base:=I.ok.mod
def Inv.O9(I:Inv X pins σ H s):X.K.In s.heap:=I.ok.mod.Uh.keeps I.bk
def Inv.lt(I:Inv X pins σ H s):X.env.locals<↥s:=let ⟨_,a,_⟩:=I.loc;a.lt
def Inv.sz(I:Inv X pins σ H s):↥X.s₀<=↥s:=va I.ok.above (VH I.lt)
def Inv.GH(I:Inv X pins σ H s)(h:↥s<=a):a∉X.fs:=λb=>by let(_,o,ho,_):=I.ok.lV.mem b;show absurd (pb (i8 ho) (va I.sz h)) (OH _)
def Inv.Sb(I:Inv X pins σ H s):∀x c,X.env.cells.lookup x\c->c≠X.env.locals:=λx c e z=>by let(v,o,ho,a):=I.cell x c e;let(m,(b,d,f,g,h,_),_):=I.loc;left
def Inv.lV(I:Inv X pins σ H s):s.heap.FunFrames X.base X.outer:=by
 let all:∀l,(∀b∈OP l,b∈X.fs)->X.s₀.heap.FunFrames X.base l->s.heap.FunFrames X.base l:=by intro l;induction l with|nil=>intro _ _;trivial|cons f r g=>intro hs hl;let(hk,(L,o,a,h,ho,i),j):=hl;let c:=hs L (by unfold OP;rw[Wa,a];show my);let(k,e):=I.base.slot L o ho (I.ok.Sa L c) c λz=>I.ok.Q3 L z c;show#[hk,#[L,_,a,h,e,i],g (λb d=>hs b (by unfold OP;rw[Wa,a];show kj _ d)) j]
 show all _ (λ_ d=>d) I.ok.lV
def Inv.stack(I:Inv X pins σ H s):s.heap.FunFrames X.base X.stack:=by
 obtain e|⟨e,a⟩:=I.ok.VG
 .rw[e];show I.lV
 rw[e];let(m,b,_):=I.loc;show .cons (by rw[I.ok.kind];decide) a b ?_ I.lV;show Heap.get?_none_of_le (va I.ok.Q1 I.ok.above)
def Inv.mL(I:Inv X pins σ H s):∀b∈OP X.stack,b∈X.env.locals::X.fs:=λb a=>by
 obtain e|⟨e,c⟩:=I.ok.VG
 .rw[e]at a;show kj _ a
 rw[e]at a;unfold OP at a;rw[Wa,c]at a;show a
def Inv.wF(I:Inv X pins σ H s):∀b∈OP X.stack,H b=cK:=λb hb=>by
 obtain e|hb:=gs.mp (I.mL b hb)
 .rw[e];show I.free
 let(_,o,ho,_):=I.ok.lV.mem hb;show I.base.free b o ho (I.ok.Sa b hb) λz=>I.ok.Q3 b z hb
def Inv.step{ch:↑mn}(I:Inv X pins σ H s) (B:∀b∈ch,(b∈X.ex\/↥X.s₀<=b)/\b≠X.env.locals/\(∀x c,X.env.cells.lookup x\c->c≠b)/\∀p∈X.pn++pins,p.1≠b) (g:∀b o,b≠X.env.locals->b∉X.fs->b∉ch->s.heap.get? b\o->H b=cK->h'.get? b\o) (slot:∀b o,b≠X.env.locals->b∈X.fs->b∉ch->s.heap.get? b\o->H b=cK->∃T,h'.get? b\{o with slots:=T}) (f:∀b o,b∉ch->s.heap.get? b\o->H b=cK->H' b=cK) (y:∀b o,b∉ch->s.heap.get? b\o->∃C,h'.get? b\C) (lY:∀b t,H b\.tup t->H' b\.tup t) (Oo:∀b o u,H b\.N0 o u->H' b\.N0 o u) (OA:∀b J,H b\.R_ J->∃D,H' b\.R_ (J++D)) (ns:∀m,s.heap.Ns X.env.locals m->h'.Ns X.env.locals m) (Ms:Nw X.prog X.w H' h') (hg:Ĉ g') :Inv X pins σ H' {s with heap:=h',gens:=g',drawn:=d',toks:=t' }:=by
 let ZM:∀b o,X.s₀.heap.get? b\o->b≠X.env.locals:=λb o e=>lx (pb (i8 e) I.ok.above);let N:∀b o,X.s₀.heap.get? b\o->b∉X.ex->b∉ch:=λb o e a A=>by
  obtain z|z:=(B b A).1
  .show a z
  show absurd (pb (i8 e) z) (OH _)
 let h:∀x c,X.env.cells.lookup x\c->∀v,s.heap.IsCell c v->h'.IsCell c v:=λx c e v MO=>by
  let(o,ho,Y):=MO;let G:c∉ch:=λz=>(B c z).2.2.1 x c e 9;by_cases hc:c∈X.fs
  .let(T,q):=slot c o (I.Sb x c e) hc G ho (I.Nl x c e);show#[_,q,Y]
  show#[o,g c o (I.Sb x c e) hc G ho (I.Nl x c e),Y]
 show#[I.ok,I.os,hg,#[λb o e n A a=>?_,λb o e n A a=>?_,λb o e n a=>?_,λb o e a=>?_,λb t e=>lY b t (I.base.lY b t e),λb o t e=>Oo b o t (I.base.Oo b o t e),λb J e=>?_],?_,λx c e=>?_,?_,λx c e=>?_,λp hp=>?_,Ms,I.len]
 .show g b o (ZM b o e) A (N b o e a) (I.base.keep b o e n A a) (I.base.free b o e n a)
 .let(T,j):=I.base.slot b o e n A a;let(ab,Q):=slot b _ (ZM b o e) A (N b o e a) j (I.base.free b o e n a);show#[ab,Q]
 .let(C,j):=I.base.there b o e a;show f b C (N b o e a) j (I.base.free b o e n a)
 .let(C,j):=I.base.there b o e a;show y b C (N b o e a) j
 .let(m1,j):=I.base.OA b J e;let(m2,Q):=OA b _ j;show#[m1++m2,by left]
 .let(m,hn,hl):=I.loc;show#[m,ns m hn,λi x v j Q e3=>?_];let(u,r,l):=hl i x v j Q e3;show#[u,r,?_];obtain l|⟨k,c,e,z⟩:=l
  .show .inl l
  show .inr #[k,c,e,h x c e _ z]
 .let(v,z):=I.cell x c e;show#[v,h x c e v z]
 .let(m,(o,_,_,ho,_),_):=I.loc;show f _ o (λz=>(B _ z).2.1 9) ho I.free
 .let(v,o,ho,Y):=I.cell x c e;show f c o (λz=>(B c z).2.2.1 x c e 9) ho (I.Nl x c e)
 let(e,n,ne,nf,d):=I.pin p hp;let G:p.1∉ch:=λz=>(B p.1 z).2.2.2 p hp 9;show#[g p.1 p.2 ne nf G e n,f p.1 p.2 G e n,ne,nf,d]
def Inv.un(I:Inv X pins σ H s)(u:Un X.fs [] H H' s.heap h')(d:Nw X.prog X.w H' h'):Inv X pins σ H' {s with heap:=h',toks:=t' }:=by let(m,(o,k,l,ho,r),_):=id I.loc;let(p,f):=u.any ho I.free (by simp);show I.step   (ch:=[]) (λ_ z=>nomatch z) (λb o _ a _ e n=>u.keep b o e n a (by simp)) (λb o _ a _ e n=>u.slot b o e n a (by simp)) (λb o _ e n=>u.free b o e n (by simp)) (λb o _ e=>u.there b o e (by simp)) u.lY u.Oo u.OA (λq g=>by let(t,h,i,c,j):=g;rw[ho]at c;ext c;show#[_,h,i,f,j]) d I.bare
def Inv.call(I:Inv X pins σ H s)(u:Un (OP X.stack) h H H' s.heap h')(i:Nw X.prog X.w H' h')(j:Ĉ k) (f:∀b∈h,(b∈X.ex\/↥X.s₀<=b)/\b≠X.env.locals/\(∀x c,X.env.cells.lookup x\c->c≠b)/\∀p∈X.pn++pins,p.1≠b) :Inv X pins σ H' {s with heap:=h',gens:=k,drawn:=A,toks:=B }:=by let(m,(o,C,D,ho,r),_):=id I.loc;let(G,d):=u.any ho I.free λz=>(f _ z).2.1 9;show I.step  f (λb o d l a e n=>u.keep b o e n (λz=>(gs.mp (I.mL b z)).elim d l) a) (λb o _ _ a e n=>u.any e n a) (λb o a e n=>u.free b o e n a) (λb o a e=>u.there b o e a) u.lY u.Oo u.OA (λJ q=>by let(N,t,v,g,y):=q;rw[ho]at g;ext g;show#[_,t,v,d,y]) i j
def Inv.turned(I:Inv X pins σ H s)(k:∀b o,b≠it->s.heap.get? b\o->h'.get? b\o)(y:H it=cK)(d:it≠X.env.locals) (g:it∈X.ex\/↥X.s₀<=it) (h:∀x c,X.env.cells.lookup x\c->c≠it) (i:∀p∈X.pn++pins,p.1≠it):Inv X pins σ H {s with heap:=h',toks:=t' }:=by
 let f:∀b u,H b\u->b≠it:=λb u e z=>by left
 show I.step (g':=s.gens) (d':=s.drawn) (ch:=[it]) (λb j=>?_) (λb o _ _ a e _=>k b o (λz=>a (by simp[z])) e) (λb o _ _ a e _=>#[o.slots,k b o (λz=>a (by simp[z])) e]) (λ_ _ _ _ n=>n)
  (λb o a e=>#[o,k b o (λz=>a (by simp[z])) e]) (λ_ _ e=>e) (λ_ _ _ e=>e) (λb A e=>#[#v[],by left]) (λm l=>?_) (λb u e=>?_) I.bare
 .let e:b=it:=by exists j
  subst e;show#[g,d,h,i]
 .let(o,t,w,ho,r):=l;show#[o,t,w,k _ o (uk d) ho,r]
 show(I.Ms b u e).ja (λc v a q=>k c v ?_ q) (λ_ q=>q) λ_ _ q=>q;obtain z|z:=a
 .rw[z];show f b u e
 show f c _ z
def Inv.tok(I:Inv X pins σ H s)(t):Inv X pins σ H {s with toks:=t}:=I.un  (t':=t) Un.refl I.Ms
def Inv.kept(I:Inv X pins σ H s)(k:∀b u,s.heap.get? b\u->h'.get? b\u):Inv X pins σ H {s with heap:=h',toks:=t' }:=I.un (Un.kept k) (I.Ms.kept k)
def Inv.laid(I:Inv X pins σ H s)(k:∀b u,s.heap.get? b\u->h'.get? b\u)(c:↥s<=a)(d:bX X.prog X.w (upd H a o) h' a o):Inv X pins σ (upd H a o) {s with heap:=h',toks:=t' }:=I.un (Un.laid k c (I.Ms.fresh c)) (I.Ms.laid k c d)
def Inv.write(I:Inv X pins σ H s)(c:Ue (H x))(d:e=x\/H e\.own x)(k:∀b u,b≠e->s.heap.get? b\u->h'.get? b\u)(f:∃u,h'.get? e\u) (a:bX X.prog X.w (upd H x o) h' x o):Inv X pins σ (upd H x o) {s with heap:=h',toks:=g }:=I.un (Un.write c d k f) (I.Ms.write c d k f a)
def Inv.weak(I:Inv X pins σ H s)(hl:-a=-σ)(w:∀(i:8) v,a[i]?\bD v->σ[i]?\bD v):Inv X pins a H s :=#[I.ok,I.os,I.bare,I.base,let ⟨m,b,c⟩:=I.loc;⟨m,b,λi x v d e f=>c i x v d (w i v e) f⟩,I.cell,I.free,I.Nl,I.pin,I.Ms,hl.trans I.len]
def Inv.fg(I:Inv X pins σ H s)(h:∀p∈a,s.heap.get? p.1\p.2/\H p.1=cK/\p.1≠X.env.locals/\p.1∉X.fs/\∀v,p.2.data≠.cell v):Inv X a σ H s :=#[I.ok,I.os,I.bare,I.base,I.loc,I.cell,I.free,I.Nl,λp b=>(ke.mp b).elim (λz=>I.pin p (Uk _ z)) (h p),I.Ms,I.len]
def mM{N:↑5}(c:N.Nodup){i j:8}(a:N[i]?\x)(b:N[j]?\x):i=j:=by let(f,d):=gj.mp a;let(g,e):=gj.mp b;show(aak c).mp (d.trans e.symm)
def pv(I:Inv X pins σ H s)(hN:X.N.Nodup)(G:X.N[i]?\x)(l:Loc X.env.scope x)(r:RelV v u) (h:∀Y,Inv X pins (σ.set i (bD v)) H Y->(∃a,tr a s.heap Y.heap/\(a=X.env.locals\/X.env.cells.lookup x\a))->Q () Y) (hf:X.fn x=4\/X.env.scope.names.lookup x\.local:=by first|show .inl 9|show .inr 9|assumption):g8 M A (storeName X.env x u) Q E s:=by
 let(m,hn,hl):=id I.loc;let W7:(X.env.scope.kind==.class||(X.env.scope.kind==.module&&X.env.locals != X.env.globals))=dt:=by rw[I.ok.kind];rfl
 let ZN:i < -σ:=by rw[I.len];show(gj.mp G).1
 let Sb:=I.Sb;let f:∀{a} {h'},(∃o,s.heap.get? a\o/\H a=cK)->tr a s.heap h'->Nw X.prog X.w H h':=λ{a h'} ha hs b ob e=>by
  let(_,_,M5):=ha;show(I.Ms b ob e).ja (λc w' t q=>(hs.2 c ?_).trans q) (λ_ q=>q) λ_ _ q=>q
  grind
 obtain hk|hk:=l
 .show wpAny_storeName_local hk hn (λh' VI hs=>?_) W7;let(oL,_,_,Q5,_):=id hn;show h _ #[I.ok,I.os,I.bare,#[λb o e n C l=>?_,λb o e n C l=>?_,I.base.free,λb o e l=>?_,I.base.lY,I.base.Oo,I.base.OA],#[_,VI,λj y v' g B e3=>?_],λy c e=>?_,I.free,I.Nl,λp hp=>?_,f #[oL,Q5,I.free] hs,by exists I.len] ⟨_,hs,.inl 9⟩
  .show(hs.2 b (lx (pb (i8 e) I.ok.above))).trans (I.base.keep b o e n C l)
  .let(sl,g):=I.base.slot b o e n C l;show#[sl,(hs.2 b (lx (pb (i8 e) I.ok.above))).trans g]
  .let(o',g):=I.base.there b o e l;show#[o',(hs.2 b (lx (pb (i8 e) I.ok.above))).trans g]
  .by_cases D:j=i
   .subst D;rw[G]at g;ext g;rw[hH ZN]at B;ext B;show#[u,r,.inl #[hk,by simp]]
   rw[ko (uk D)]at B;let(u',r',q):=hl j y v' g B e3;show#[u',r',?_];obtain⟨k,e⟩|⟨k,c,e,z⟩:=q
   .show .inl #[k,?_];let:y≠x:=λe=>D (mM hN g (e▸G));simp[this,e]
   show .inr #[k,c,e,z.sameBut hs (Sb y c e)]
  .let(w',z):=I.cell y c e;show#[w',z.sameBut hs (Sb y c e)]
  let(e,n,J,nf,d):=I.pin p hp;show#[(hs.2 p.1 J).trans e,n,J,nf,d]
 let O_:X.fn x=4:=by left
 let(c,t):=I.ok.has x (.inl hk);let(w',z):=I.cell x c t;show wpAny_storeName_cell I.ok.kind hk t z (λh' Ts hs=>?_);let(oc,ab,ac):=id z;show h {s with heap:=h' } ⟨I.ok,I.os,I.bare,⟨λb o e n C l=>?_,λb o e n C l=>?_,I.base.free,λb o e l=>?_,I.base.lY,I.base.Oo,I.base.OA⟩,⟨m,hn.sameBut hs (uk (Sb x c t)),λj y v' g B e3=>?_⟩,λy T e=>?_,I.free,I.Nl,λp hp=>?_,f ⟨oc,ab,I.Nl x c t⟩ hs,by exists I.len⟩ ⟨c,hs,.inr t⟩
 .show(hs.2 b (lx (pb (i8 e) (I.ok.Ui x c O_ t)))).trans (I.base.keep b o e n C l)
 .let(sl,g):=I.base.slot b o e n C l;show#[sl,(hs.2 b (lx (pb (i8 e) (I.ok.Ui x c O_ t)))).trans g]
 .let(o',g):=I.base.there b o e l;show#[o',(hs.2 b (lx (pb (i8 e) (I.ok.Ui x c O_ t)))).trans g]
 .by_cases D:j=i
  .subst D;rw[G]at g;ext g;rw[hH ZN]at B;ext B;show#[u,r,.inr #[.inl hk,c,t,Ts]]
  rw[ko (uk D)]at B;let(u',r',q):=hl j y v' g B e3;show#[u',r',?_];obtain q|⟨k,T,e,z'⟩:=q
  .show .inl q
  show .inr #[k,T,e,z'.sameBut hs ?_];rintro rfl;show D (mM hN g (I.ok.inj _ _ _ e t▸G))
 .by_cases ZO:T=c
  .subst ZO;show#[_,Ts]
  let(w2,z2):=I.cell y T e;show#[w2,z2.sameBut hs ZO]
 let(e,n,J,nf,d):=I.pin p hp;show#[(hs.2 p.1 ?_).trans e,n,J,nf,d];intro q;left
def so(I:Inv X pins σ H s)(b:X.N.Nodup)(c:X.N[i]?\x)(d:Loc X.env.scope x)(r:RelV v u) (h:∀a,Inv X pins (σ.set i (bD v)) H a->Q () a) (e:X.fn x=4\/X.env.scope.names.lookup x\.local:=by first|show .inl 9|show .inr 9|assumption):g8 M A (storeName X.env x u) Q E s :=pv I b c d r (λa f _=>h a f) e
def Inv.Jt(I:Inv X pins σ H s)(ho:a.os=s.os)(u:Un (OP X.stack) ch H H' s.heap a.heap)(d:Nw X.prog X.w H' a.heap)(f:Ĉ a.gens) (g:∀b∈ch,(b∈X.ex\/↥X.s₀<=b)/\b≠X.env.locals/\(∀x c,X.env.cells.lookup x\c->c≠b)/\∀p∈X.pn++pins,p.1≠b):Inv X pins σ H' a:=by let(h',h,i,j,k):=a;let e:=ho;subst e;show I.call    u d f g
end
abbrev XK:=ki->Option mn->Hp->6
abbrev St:=↑(Option V)
abbrev VK:=V->Hp->6
abbrev TE:=St->Hp->VK->6
abbrev TT:=St->Hp->(Bool->Hp->6)->6
abbrev TA:=St->Hp->(↑V->Hp->6)->6
structure Ends where
 nx:St->Hp->6
 rt:VK
 bk:St->Hp->6:=λ_ _=>False
 ct:St->Hp->6:=λ_ _=>False
abbrev TS:=Ends->St->Hp->6
inductive EP(X:Cx)(pins:↑(mn×Obj))(σ:St)(Q:VK)(u:ki)(s':nc):6|mk (v:V) (H':Hp):Inv X pins σ H' s'->RelV v u->Q v H'->EP X pins σ Q u s'
def TP(X:Cx)(a:↑(mn×Obj))(σ:St)(Q:Bool->Hp->6)(b:Bool)(d:nc):6:=∃c,Inv X a σ c d/\Q b c
inductive AP(X:Cx)(pins:↑(mn×Obj))(σ:St)(Q:↑V->Hp->6)(us:↑ki)(s':nc):6|mk (vs:↑V) (H':Hp):Inv X pins σ H' s'->Vals vs us->Q vs H'->AP X pins σ Q us s'
def SP(X:Cx)(a:↑(mn×Obj))(D:Ends)(f:Flow)(d:nc):6 :=match f with|.next=>∃c b,Inv X a c b d/\D.nx c b|.brk=>∃c b,Inv X a c b d/\D.bk c b|.cont=>∃c b,Inv X a c b d/\D.ct c b|.ret u=>∃v c b,Inv X a c b d/\RelV v u/\D.rt v b
def PE(X:Cx)(e:sL)(t:TE):6 :=∀(a:↑(mn×Obj)) (s:nc) (σ:St) (H:Hp) (Q:VK),Inv X a σ H s->t σ H Q->‹X› (Oj e X.env) (EP X a σ Q) X.xe s
def PT(X:Cx)(e:sL)(t:TT):6 :=∀(a:↑(mn×Obj)) (s:nc) (σ:St) (H:Hp) (Q:Bool->Hp->6),Inv X a σ H s->t σ H Q->‹X› (isTrue e X.env (Oj e X.env)) (TP X a σ Q) X.xe s
def PW(X:Cx)(e:sL)(t:TT):6 :=∀(b:Sem ki) (a:↑(mn×Obj)) (s:nc) (σ:St) (H:Hp) (Q:Bool->Hp->6),Inv X a σ H s->t σ H Q->‹X› (isTrue e X.env b) (TP X a σ Q) X.xe s
def PW.pt(h:PW X e t):PT X e t:=h _
def PA(X:Cx)(c:↑sL)(t:TA):6 :=∀(b:Pos) (a:↑(mn×Obj)) (s:nc) (σ:St) (H:Hp) (Q:↑V->Hp->6),Inv X a σ H s->t σ H Q->‹X› (spliced (QM b (mu c X.env))) (AP X a σ Q) X.xe s
def PS(X:Cx)(st:VU)(t:TS):6 :=∀(a:↑(mn×Obj)) (s:nc) (σ:St) (H:Hp) (D:Ends),Inv X a σ H s->t D σ H->‹X› (exec st X.env) (SP X a D) X.xe s
def ND(X:Cx)(st:↑VU)(t:TS):6 :=∀(a:↑(mn×Obj)) (s:nc) (σ:St) (H:Hp) (D:Ends),Inv X a σ H s->t D σ H->‹X› (execs st X.env) (SP X a D) X.xe s
def My(h:g8 M A t Q E s)(b:∀a s,Q a s->c a s):g8 M A t c E s:=Ox h b λ_ _ x=>x
def bin(k:PE X a l)(m:PE X b tb){R:V->V->Hp->6}(I:Inv X c σ H s)(h:l σ H λx g=>tb σ g λy d=>R x y d)
 {Q} {f:ki->ki->Sem α}
    (n:∀v u e x y d,Inv X c σ d e->RelV x v->RelV y u->R x y d->‹X› (f v u) Q X.xe e) :
    ‹X› (Oj a X.env) (λv o=>‹X› (Oj b X.env) (λu p=>‹X› (f v u) Q X.xe p) X.xe o) X.xe s:=by
  show My (k c s σ H _ I h) λv q i=>?_;let(x,g,r,t,z):=i;show My (m c q σ g _ r z) λu e j=>?_;let(y,d,B,C,D):=j;show n v u e x y d B t C D
def GI(i:8):TE:=λσ H Q=>∃v,σ[i]?\bD v/\Q v H
def tC(v:V):TE:=λ_ H Q=>Q v H
def bH(j:X.N[i]?\x)(k:NA X.env.scope x)(d:(x==("__debug__":5))=dt:=by decide)(n:(x==("__classdict__":5))=dt:=by decide):PE X (.Name x o) (GI i):=by
 intro b s σ H Q I h;let(v,e,h):=h;let(m,p,hl):=I.loc;let(u,r,l):=hl i x v j e k;let a:EP X b σ Q u s:=#[v,H,I,r,h]
 obtain⟨hk,q⟩|⟨hk,c,f,g⟩:=l
 .show aaN (wpAny_loadName_local I.ok.kind hk p q a) d
 obtain hk|hk:=hk
 .show aaN (wpAny_loadName_cell I.ok.kind hk f g a) d
 show aaN (wpAny_loadName_free I.ok.kind hk f g a n) d
def zZ:PE X (.Constant (.int i) j a) (tC (.int i)):=λ_ _ _ H _ I h=>wpAny_Constant_int #[.int i,H,I.tok _,#[_,9],h]
def FY:PE X (.Constant (.bool b) j a) (tC (.bl b)):=λ_ _ _ H _ I h=>Constant_bool #[.bl b,H,I,9,h]
def z_:PE X (.Constant .none j a) (tC .Mx):=λ_ _ _ H _ I h=>Constant_none #[.Mx,H,I,9,h]
def Aa:PE X (.Constant (.str x) j a) (tC (.str x)):=λ_ _ _ H _ I h=>Calls.Constant_str #[.str x,H,I.tok _,#[_,9],h]
def Gl(X:Cx)(x:5):6:=X.env.kindOf x\.globalImplicit
def mq(I:Inv X a σ H s)(b:Gl X x)(c:X.mg x\u)(h:Q u s) (d:(x==("__debug__":5))=dt:=by decide):‹X› (Oj (.Name x e) X.env) Q E s :=Ť I.ok.kind b (Calls.loadGlobal_global (by rw[I.ok.glob];show I.mod.glob.keeps I.bk) c h) d
def cY(I:Inv X a σ H s)(b:Gl X x)(c:X.mg x=cK)(d:Pd x\u)(h:Q u s) (e:x≠"__name__":=by decide) (f:(x==("__debug__":5))=dt:=by decide):‹X› (Oj (.Name x g) X.env) Q E s:=by let(k,i,j):=I.mod.blt;show Ť I.ok.kind b (Calls.loadGlobal_builtin (by rw[I.ok.glob];show I.mod.glob.keeps I.bk) c (by rw[I.ok.blt];show i.keeps I.bk) ((j x e).trans d) h) f
def Dx(a:Gl X x)(b:X.mg x\u)(r:RelV v u)(c:(x==("__debug__":5))=dt:=by decide):PE X (.Name x d) (tC v) :=λ_ _ _ H _ I h=>mq I a b #[v,H,I,r,h] c
def Dy(a:Gl X x)(b:X.mg x=cK)(c:Pd x\u)(r:RelV v u)(d:x≠"__name__":=by decide)(e:(x==("__debug__":5))=dt:=by decide):PE X (.Name x f) (tC v) :=λ_ _ _ H _ I h=>cY I a b c #[v,H,I,r,h] d e
def PC(X:Cx)(d:CmpOp)(a b:sL)(t:TE):6 :=
 ∀(c:↑(mn×Obj)) (s:nc) (σ:St) (H:Hp) (Q:VK),Inv X c σ H s->t σ H Q ->
  ‹X› (Oj a X.env) (λv e=>‹X› (Oj b X.env) (λu f=>‹X› (XM d v u) (EP X c σ Q) X.xe f) X.xe e) X.xe s
def tB(t:TE):TT:=λσ H Q=>t σ H λx a=>∃c,x=.bl c/\Q c a
def Ab(h:PC X g a b t)(f:ç g b=dt:=by first|show p _ (by decide) (by decide)|rfl):PT X (.Compare a [g] [b] i) (tB t):=by intro e s σ H Q I j;show ī (My (h e s σ H _ I j) λv r f=>My f λu w k=>My k λc y ⟨x,l,m,n,o⟩=>?_) f;let(d,rfl,q):=o;ext n;show Tw #[l,m,q]
def Lx(t u:TT):TT:=λσ H Q=>t σ H λc a=>if c=4 then u σ a Q else Q dt a
def tOr(t u:TT):TT:=λσ H Q=>t σ H λc a=>if c=4 then Q 4 a else u σ a Q
def Ly(t:TT):TT:=λσ H Q=>t σ H λc a=>Q (!c) a
def Dz(d:PT X a f):PW X (.BoolOp .And [a] g) f:=by intro i b s σ H Q I h;show isTrue_and (My (d b s σ H Q I h) λc j e=>?_);cases c with|true=>show isTrue_and_nil e|false=>show e
def GJ(d:PT X a f):PW X (.BoolOp .Or [a] g) f:=by intro i b s σ H Q I h;show isTrue_or (My (d b s σ H Q I h) λc j e=>?_);cases c with|false=>show isTrue_or_nil e|true=>show e
def GK(l:PT X a m)(n:PW X (.BoolOp .And (b::e) f) o):PW X (.BoolOp .And (a::b::e) f) (Lx m o):=by intro p d s σ H Q I h;show isTrue_and (My (l d s σ H _ I h) λc q g=>?_);let(i,j,k):=g;cases c with|true=>show n p d q σ i Q j k|false=>show#[i,j,k]
def Ju(l:PT X a m)(n:PW X (.BoolOp .Or (b::e) f) o):PW X (.BoolOp .Or (a::b::e) f) (tOr m o):=by intro p d s σ H Q I h;show isTrue_or (My (l d s σ H _ I h) λc q g=>?_);let(i,j,k):=g;cases c with|true=>show#[i,j,k]|false=>show n p d q σ i Q j k
def GL(c:PT X a d):PT X (.UnaryOp .Not a e) (Ly d):=by intro b s σ H Q I h;show isTrue_not (c b s σ H _ I h)
def Jv(b tb:TE):TE:=λσ H Q=>b σ H λx a=>∃c,x=.bl c/\if c=4 then tb σ a Q else Q (.bl dt) a
def Jw(a:TE):TE:=λσ H Q=>a σ H λx b=>∃c,x=.bl c/\Q (.bl (!c)) b
def GN(h:PE X a t):PE X (.BoolOp e [a] c) t:=λb s σ H Q I d=>BoolOp_one (h b s σ H Q I d)
def GO(l:PE X a m)(n:PE X (.BoolOp .And (b::e) g) tb):PE X (.BoolOp .And (a::b::e) g) (Jv m tb):=by intro d s σ H Q I h;show BoolOp_and (My (l d s σ H _ I h) λv o i=>?_);let(x,j,k,p,f):=i;let(c,rfl,f):=f;ext p;show Tw ?_;cases c with|true=>show n d o σ j Q k f|false=>show#[.bl _,j,k,9,f]
def GP(f:PE X a g):PE X (.UnaryOp .Not a i) (Jw g):=by intro b s σ H Q I h;show UnaryOp_ (My (f b s σ H _ I h) λv m d=>?_);let(x,j,k,l,e):=d;let(c,rfl,e):=e;ext l;show not_of (Tw #[.bl (!c),j,k,9,e])
def M3(K:W.Frag)(H:Hp)(a:mn)(c:↑V):6 :=
 Rd H a (.lst c) \/
  ∃(o:Obj) (b:Array ki) (n:8),K.lookup a\o/\o.cls=.type "list"/\o.dict=cK/\o.data=.seq b n/\b.size<=et/\Vals c b.toList
def MV(K:W.Frag)(H:Hp)(a:mn)(c:↑V):6 :=
 Rd H a (.tup c) \/
  ∃(o:Obj) (b:Array ki) (n:8),K.lookup a\o/\o.cls=.type "tuple"/\o.data=.seq b n/\b.size<=et/\Vals c b.toList
def Lz:ki->Option V|.none=>bD .Mx|.bool b=>bD (.bl b)|.int i _=>bD (.int i)|.str x _=>bD (.str x)|.bytes b _=>bD (.Uc b)|.float b _=>bD (.Ud b)|.ref a=>bD (.ref a)|.type n=>bD (.ty n)|_=>cK
def RelV.abs(r:RelV x u):Lz u\x:=by cases x with|Mx=>ext r;rfl|bl _=>ext r;rfl|ref _=>ext r;rfl|ty _=>ext r;rfl|_=>let(t,rfl):=r;rfl
def RelV.inj(r:RelV x u)(q:RelV y u):x=y:=D' (r.abs.symm.trans q.abs)
theorem Vals.inj:∀{a b}{c},Vals a c->Vals b c->a=b|_,_,_,.nil,.nil=>9|_,_,_,.cons r t,.cons d e=>by rw[r.inj d,Vals.inj t e]
def M3.of{K}(h:H a\.lst b):M3 K H a b:=.inl (.inl h)
def MV.of{K}(h:H a\.tup b):MV K H a b:=.inl (.inl h)
inductive ZP(s:nc)(a:mn)(xs:↑V):6|mk (F':↑ki):Vals xs F'->PlainL s.heap a F'.toArray->⇑xs<=et->ZP s a xs
def Inv.list(I:Inv X c σ H s)(h:M3 X.K H a d):ZP s a d:=by
 obtain h|⟨o,b,n,hk,f,g,hs,i,r⟩:=h
 .let(z,b,n,r,e):=h.ok I.Ms;show#[b,r,#[_,n,e,9,9,9],z]
 show#[b.toList,r,#[o,n,I.O9 a o hk,f,g,by exists hs],?_];let e:=-r;erw[hZ]at e;lia
inductive ZQ(s:nc)(a:mn)(xs:↑V):6|mk (F':↑ki):Vals xs F'->IsTup s.heap a F'.toArray->⇑xs<=et->ZQ s a xs
def Inv.tuple(I:Inv X c σ H s)(h:MV X.K H a d):ZQ s a d:=by
 obtain h|⟨o,b,n,hk,f,hs,g,r⟩:=h
 .let(z,b,r,p):=h.ok I.Ms;show#[b,r,p,z]
 show#[b.toList,r,#[o,I.O9 a o hk,f,n,by exists hs],?_];let e:=-r;erw[hZ]at e;lia
def Inv.mN(I:Inv X c σ H s)(h:M3 X.K H a f)(g:M3 X.K H a i):f=i:=by
 let(j,r,(o,n,e,_,_,d),_):=I.list h;let(b,k,(l,m,p,_,_,q),_):=I.list g;let:j=b:=by left
 subst this;show r.inj k
def Inv.kq(I:Inv X c σ H s)(h:MV X.K H a f)(g:MV X.K H a i):f=i:=by
 let(j,r,(o,e,_,n,d),_):=I.tuple h;let(b,k,(l,m,_,p,q),_):=I.tuple g;let:j=b:=by left
 subst this;show r.inj k
abbrev Cx.oU(X:Cx)(E:ki->nc->6):Cx:={X with xe:=E}
abbrev Cx.VJ(X:Cx):Cx:=X.oU λ_ _=>False
def Cx.Ok.oU{X:Cx}(ok:X.Ok)(E):((X.oU E).Ok):=#[ok.mod,ok.kind,ok.glob,ok.blt,ok.above,ok.inj,ok.has,ok.Ui,ok.hd,ok.frames,ok.VG,ok.ZL,ok.bs,ok.Q1,ok.Qk,ok.Q3,ok.lV,ok.Sa]
def Cx.Ok.kr{X:Cx}(ok:(X.oU E).Ok):(X.Ok):=#[ok.mod,ok.kind,ok.glob,ok.blt,ok.above,ok.inj,ok.has,ok.Ui,ok.hd,ok.frames,ok.VG,ok.ZL,ok.bs,ok.Q1,ok.Qk,ok.Q3,ok.lV,ok.Sa]
def Inv.oU(I:Inv X a σ H s)(E):Inv (X.oU E) a σ H s:=#[I.ok.oU E,I.os,I.bare,I.base,I.loc,I.cell,I.free,I.Nl,I.pin,I.Ms,I.len]
def Inv.kr(I:Inv (X.oU E) a σ H s):Inv X a σ H s:=#[I.ok.kr,I.os,I.bare,I.base,I.loc,I.cell,I.free,I.Nl,I.pin,I.Ms,I.len]
def SP.kr(h:SP (X.oU E) a D f d):SP X a D f d:=by cases f with|ret u=>let(v,b,c,I,r,q):=h;show#[v,b,c,I.kr,r,q]|_=>let(b,c,I,q):=h;show#[b,c,I.kr,q]
def ND.VJ{st}(h:ND X.VJ st t):ND X st t:=λa s σ H D I b=>Ox (h a s σ H D (I.oU _) b) (λ_ _ q=>q.kr) λ_ _ z=>Vf z
section
variable{X:Cx}{st:VU}{rest:List VU}{t u:TS}{e:sL}{te:TE}{pos:Pos}
def Jx:TS:=λD σ H=>D.nx σ H
def LA(t u:TS):TS:=λD σ H=>t {D with nx:=u D} σ H
def wG:ND X [] Jx:=λ_ _ σ H _ I h=>Δ #[σ,H,I,h]
def mO(b:PS X st t)(c:ND X rest u):ND X (st::rest) (LA t u):=by intro a s σ H D I h;show wpAny_execs_cons (My (b a s σ H _ I h) λf d q=>?_);cases f with|next=>let(g,i,j,q):=q;show c a d g i D j q|_=>show q
def Inv.quiet(I:Inv X a σ H s):interactive X.env=dt:=by simp[interactive,I.ok.kind]
def FZ(te:TE):TS:=λD σ H=>te σ H λ_ a=>D.nx σ a
def jD(b:PE X e te)(hs:YR e cK pos.line X.env=pure dt:=by rfl):PS X (.Expr e pos) (FZ te):=by intro a s σ H D I h;show wpAny_Expr_any (My (b a s σ H _ I h) λv g ⟨x,c,d,i,f⟩=>#[σ,c,d,f]) I.quiet hs
def LB(te:TE):TS:=λD σ H=>te σ H D.rt
def Ac(b:PE X e te):PS X (.Return (bD e) pos) (LB te):=by intro a s σ H D I h;show wpAny_Return_some (My (b a s σ H _ I h) λv i ⟨x,c,d,f,g⟩=>#[x,σ,c,d,f,g])
def LC(c:TT)(t u:TS):TS:=λD σ H=>c σ H λb a=>if b=4 then t D σ a else u D σ a
def Jy(m:PT X c n)(o:ND X a t)(p:ND X b u):PS X (.If c a b pos) (LC n t u):=by intro f s σ H D I h;show wpAny_If (My (m f s σ H _ I h) λd i g=>?_);let(j,k,l):=g;cases d with|true=>show o f i σ j D k l|false=>show p f i σ j D k l
end
abbrev TG:=V->St->Hp->(St->Hp->6)->6
abbrev Tt:=↑V->St->Hp->(St->Hp->6)->6
def PG(X:Cx)(a:sL)(t:TG):6 :=
 ∀(b:↑(mn×Obj)) (s:nc) (σ:St) (H:Hp) (v:V) (u:ki) (Q:St->Hp->6),Inv X b σ H s->RelV v u->t v σ H Q ->
  ‹X› (ō a X.env u) (λ_ e=>∃c d,Inv X b c d e/\Q c d) X.xe s
def Um(X:Cx)(f:↑sL)(t:Tt):6 :=
 ∀(a:↑(mn×Obj)) (s:nc) (σ:St) (H:Hp) (b:↑V) (c:↑ki) (Q:St->Hp->6),Inv X a σ H s->Vals b c->t b σ H Q ->
  ‹X› (assignInOrder ((Å f X.env).map (·.2)) c) (λ_ g=>∃d e,Inv X a d e g/\Q d e) X.xe s
abbrev GQ:=V->V->V->Hp->(Hp->6)->6
def qo(X:Cx)(t:GQ):6 :=
 ∀(a:↑(mn×Obj)) (s:nc) (σ:St) (H:Hp) (o i v:V) (b c u:ki) (Q:Hp->6),Inv X a σ H s->RelV o b->RelV i c->RelV v u->t o i v H Q ->
  ‹X› (Ġ b c u) (λ_ e=>∃d,Inv X a σ d e/\Q d) X.xe s
abbrev W9:=V->V->Hp->VK->6
def VL(X:Cx)(b:aas)(t:W9):6 :=
 ∀(a:↑(mn×Obj)) (s:nc) (σ:St) (H:Hp) (x y:V) (v u:ki) (Q:VK),Inv X a σ H s->RelV x v->RelV y u->t x y H Q ->
  ‹X› (inplaceOp b v u) (EP X a σ Q) X.xe s
def wH(i:8):TG:=λv σ H Q=>Q (σ.set i (bD v)) H
def wI(b:X.N.Nodup)(c:X.N[i]?\x)(d:Loc X.env.scope x)(e:X.fn x=4\/X.env.scope.names.lookup x\.local:=by first|show .inl 9|show .inr 9|assumption):PG X (.Name x f) (wH i):=by intro a s σ H v u Q I r h;show aa2 (so I b c d r (λj g=>#[_,H,g,h]) e)
def Jz:Tt:=λa σ H Q=>a=[]/\Q σ H
def F0(t:TG)(u:Tt):Tt:=λa σ H Q=>∃v r,a=v::r/\t v σ H λb c=>u r b c Q
def DA:Um X [] Jz:=by intro a s σ H b c Q I r h;let(e,h):=h;show assignInOrder_nil #[σ,H,I,h]
def Ad(d:PG X e t)(f:Um X b u) (hs:(Å (e::b) X.env).map (·.2)=ō e X.env::(Å b X.env).map (·.2):=by rfl):Um X (e::b) (F0 t u):=by intro a s σ H o p Q I r h;let(v,q,g,h):=h;subst g;cases r with|cons r i=>rw[hs];show assignInOrder_cons (My (d a s σ H _ _ _ I r h) λ_ j c=>?_);let(k,l,m,n):=c;show f a j k l _ _ Q m i n
def LD(K:W.Frag)(n:8)(t:Tt):TG:=λv σ H Q=>∃a b,v=.ref a/\MV K H a b/\-b=n/\t b σ H Q
def GR(g:X.calm=4)(h:Um X d t) (i:-Å d X.env=n:=by rfl) (j:(Å d X.env).findIdx? (·.1)=cK:=by rfl):PG X (.Tuple d k l) (LD X.K n t):=by intro c s σ H v u Q I r f;let(a,m,p,q,hl,f):=f;subst p;ext r;let(A,w,x,B):=I.tuple q;show assign_Tuple_tuple (I.ok.hd g) x (by simp[i,<-hl,⇑w]) j λC y=>?_;let z:=I.kept (t':=s.toks) λb o e=>y b o (lx (i8 e)) e;show h c _ σ H m _ Q z (by omega) f
def LF(a b:TE)(t:GQ):TG:=λv σ H Q=>a σ H λo c=>b σ c λi d=>t o i v d λe=>Q σ e
def Ae(ho:PE X o f)(g:PE X i j)(hs:qo X t) (k:∀v,ō (.Subscript o i c) X.env v=(do
   let b <-Vx [v] (Oj o X.env)
   let d <-Vx [v,b] (Oj i X.env)
   ğ c
   Vx [v,b,d] (Ġ b d v)
   ŝ [v,b,d] []):=by intro _;rfl):PG X (.Subscript o i c) (LF f j t):=by
 intro a s σ H v u Q I r h;rw[k];show b6 (ve (My (ho a s σ H _ I h) λb l e=>?_));let(x,m,n,p,q):=e;show b6 (ve (My (g a l σ m _ n q) λd w z=>?_));let(y,A,B,C,D):=z;show b6 (ψ (b6 (ve (My (hs a w σ A x y v b d u _ B p C r D) λ_ Y G=>?_))));let(J,N,T):=G;show wpAny_release #[σ,J,N,T]
def GS(a:TE)(g:TG):TS:=λD σ H=>a σ H λx b=>g x σ b D.nx
def uL(d:PE X e f)(i:PG X b g)(hs:Č [b] e c.line X.env=pure dt:=by rfl)(j:Ņ [b] e X.env=pure cK:=by rfl) (k:(Å [b] X.env).map (·.2)=[ō b X.env]:=by rfl):PS X (.Assign [b] e c) (GS f g):=by intro a s σ H D I h;show wpAny_Assign_stores (My (d a s σ H _ I h) λv l ⟨x,m,n,o,p⟩=>?_) hs j;rw[k];show My (i a l σ m x v _ n o p) λ_ r q=>q
def uM(d:X.N.Nodup)(f:X.N[i]?\x)(g:Loc X.env.scope x)(j:PE X e k)(hs:YR e (bD (.Name x a)) c.line X.env=pure dt:=by rfl)(l:X.fn x=4\/X.env.scope.names.lookup x\.local:=by first|show .inl 9|show .inr 9|assumption):PS X (.Assign [.Name x a] e c) (GS k (wH i)):=by intro b s σ H D I h;show wpAny_Assign_Name (My (j b s σ H _ I h) λv r ⟨y,m,n,o,p⟩=>?_) hs;show so n d f g o (λt q=>#[_,m,q,p]) l
def JA(a b c:TE)(d:V->V->Hp->VK->6)(e:W9)(f:GQ):TS:=λD σ H=>a σ H λo g=>b σ g λi h=>d o i h λx j=>c σ j λy k=>e x y k λz l=>f o i z l λm=>D.nx σ m
def JB(X:Cx)(t:V->V->Hp->VK->6):6 :=
 ∀(a:↑(mn×Obj)) (s:nc) (σ:St) (H:Hp) (o i:V) (b c:ki) (Q:VK),Inv X a σ H s->RelV o b->RelV i c->t o i H Q ->
  ‹X› (ò b c) (EP X a σ Q) X.xe s
def DB(ho:PE X o n)(p:PE X i q)(r:JB X t)(u:PE X e w)(x:VL X y z)(hs:qo X A) (B:∀c d b,augStore i c d b=(do Vx [b,c,d] (Ġ c d b);ŝ [b,c,d] [];pure .next):=by intros;rfl):PS X (.AugAssign (.Subscript o i g) y e C) (JA n q w t z A):=by intro a s σ H D I h;show wpAny_AugAssign_SubscriptAny (My (ho a s σ H _ I h) λc G ⟨j,J,N,k,Q⟩=>?_) B;show My (p a G σ J _ N Q) λd T Y=>?_;let(l,H2,I2,m,q2):=Y;show My (r a T σ H2 j l c d _ I2 k m q2) λf s3 Xc=>?_;let(x3,H3,I3,r3,q3):=Xc;show My (u a s3 σ H3 _ I3 q3) λv s4 Xd=>?_;let(x4,H4,I4,r4,q4):=Xd;show My (x a s4 σ H4 x3 x4 f v _ I4 r3 r4 q4) λb s5 Xe=>?_;let(x5,H5,I5,r5,q5):=Xe;show My (hs a s5 σ H5 j l x5 c d b _ I5 k m r5 q5) λ_ s6 ⟨H6,I6,q6⟩=>#[σ,H6,I6,q6]
def Xf(f:Int->Int->Int):W9:=λx y H Q=>∃i j,x=.int i/\y=.int j/\Q (.int (f i j)) H
def GU:VL X .Add (Xf λi j=>i+j):=by intro a s σ H x y v u Q I b c h;let(i,j,d,e,q):=h;subst d;subst e;let(t,rfl):=b;let(f,rfl):=c;show iadd_int #[.int _,H,I.tok _,#[_,9],q]
def GV:VL X .Sub (Xf λi j=>i - j):=by intro a s σ H x y v u Q I b c h;let(i,j,d,e,q):=h;subst d;subst e;let(t,rfl):=b;let(f,rfl):=c;show isub_int #[.int _,H,I.tok _,#[_,9],q]
def GW(c:TT)(tb:TS):TS:=λD σ H=>∃W:8->St->Hp->6,(∃m,W m σ H)/\∀m σ H,W m σ H ->
 c σ H λb a=>if b=4 then ∃N:St->Hp->6,(∀d e,N d e->∃f,f<m/\W f d e)/\tb {D with nx:=N,ct:=N,bk:=D.nx} σ a else D.nx σ a
def Af(r:ű (il X.prog X.w) X.A X.env X.xe)(B:PT X c C)(G:ND X d tb):PS X (.While c d [] J) (GW C tb):=by
 intro a s σ H D I h;let(W,(m0,Q),e):=h;show wpAny_While (codeAny_whileLoop (λn T=>∃t u,Inv X a t u T/\W n t u) ?_ m0 ⟨σ,H,I,Q⟩);rintro n Y ⟨j,v,I1,w1⟩;show XI r (My (B a Y j v _ I1 (e n j v w1)) λb s2 Xg=>?_);let(x,y,k):=Xg;cases b with
 |true =>
  let(N,z,k):=k;show XI r (My (G a s2 j x _ y k) λf s3 l=>?_);cases f with
  |next=>let(g,i,m,o):=l;let(p,q,w3):=z g i o;show#[p,q,g,i,m,w3]
  |cont=>let(g,i,m,o):=l;let(p,q,w3):=z g i o;show#[p,q,g,i,m,w3]
  |_=>show l
 |false=>show Δ #[j,x,y,k]
structure It where
 go:8->Hp->6
 VM:8->Hp->V->Hp->6
 stop:8->Hp->6
def jb(X:Cx)(a:↑(mn×Obj))(H:Hp)(b:mn):6 :=H b=cK/\b≠X.env.locals/\b∉X.fs/\(b∈X.ex\/↥X.s₀<=b)/\(∀x c,X.env.cells.lookup x\c->c≠b)/\∀p∈X.pn++a,p.1≠b
def Inv.uN(I:Inv X a σ H s)(d:↥s<=b)(f:g b=cK):jb X a g b:=by
 show#[f,O6 (pb I.lt d),I.GH d,.inr (va I.sz d),λx c e z=>?_,λp h z=>?_]
 .let(v,q):=I.cell x c e;show absurd (pb q.lt (by left)) (OH _)
 show absurd (pb (i8 (I.pin p h).1) (by left)) (OH _)
structure Turn(P:B')(w:Q2)(K:W.Frag)(tg:sL)(J:It)(fp:↑mn)(it:mn)(tn:8->UD->6):6 where
 mem:it∈fp
 obj:∀i h,tn i h->∀b∈fp,∃o,h.get? b\o/\∀v,o.data≠.cell v
 keep:∀i h h',tn i h->(∀b∈fp,∀o,h.get? b\o->h'.get? b\o)->tn i h'
 item:∀(X:Cx),X.prog=P->X.w=w->X.K=K->X.calm=4->∀(i:8) (pins:↑(mn×Obj)) (s:nc) (σ:St) (H:Hp) (E:ki->nc->6),Inv X pins σ H s->(∀b∈fp,jb X pins H b)->tn i s.heap->J.go i H ->
  g8 (il P w) X.A (Ô (.ref it)) (λr s1=>∃u,r\u /\
   g8 (il P w) X.A (Η tg (.ref it) u) (λ_ s2=>∃x H',Inv X pins σ H' s2/\RelV x u/\J.VM i H x H'/\tn (i+1) s2.heap/\∀b∈fp,H' b=cK) E s1) E s
 done:∀(X:Cx),X.prog=P->X.w=w->X.K=K->X.calm=4->∀(i:8) (pins:↑(mn×Obj)) (s:nc) (σ:St) (H:Hp) (E:ki->nc->6),Inv X pins σ H s->(∀b∈fp,jb X pins H b)->tn i s.heap->J.stop i H ->
  g8 (il P w) X.A (Ô (.ref it)) (λr s1=>r=cK/\Inv X pins σ H s1) E s
 self:∀(A:Ç) (i:8) (s:nc) (Q:ki->nc->6) (E:ki->nc->6),tn i s.heap->Q (.ref it) s->g8 (il P w) A (Ŭ (.ref it)) Q E s
abbrev TI:=St->Hp->(It->Hp->6)->6
inductive Xh(X:Cx)(pins:↑(mn×Obj))(σ:St)(tg:sL)(R:It->Hp->6)(Uo:ki)(s2:nc):6|mk (it:mn) (fp:↑mn) (tn:Nat->UD->Prop) (J:It) (H':Hp):Uo=.ref it->Inv X pins σ H' s2->Turn X.prog X.w X.K tg J fp it tn->tn 0 s2.heap->(∀b∈fp,jb X pins H' b)->R J H'->Xh X pins σ tg R Uo s2
def PI(X:Cx)(c b:sL)(d:TI):6 :=
 ∀(a:↑(mn×Obj)) (s:nc) (σ:St) (H:Hp) (R:It->Hp->6),Inv X a σ H s->d σ H R ->
  ‹X› (Oj b X.env) (λv e=>‹X› (Ŭ v) (Xh X a σ c R) X.xe e) X.xe s
def wJ(ho:s.heap.get? it\o)(b:o.cls=.type n)(c:o.data=.fields d) (f:["enumerate","zip","dict_itemiterator","dict_reverseitemiterator","odict_iterator","itertools.zip_longest","itertools.pairwise"].contains n=dt) (a:Q () s):g8 M A (Η e (.ref it) u) Q E s:=by
  cases e<;>first
    | show cL a| (cases u<;>first
        | show cL a
        | (show b6 (aaL ho ?_)
           rw[b,c];change g8 M A (if (["enumerate","zip","dict_itemiterator","dict_reverseitemiterator","odict_iterator","itertools.zip_longest","itertools.pairwise"].contains n&&d[0]?==bD _)=4 then _ else _) Q E s;rw[if_neg (by grind)];show cL a))
def Xi(K:W.Frag)(a:mn):It :=#[λi H=>∃b x,M3 K H a b/\b[i]?\x,λi H x c=>c=H/\∀b,M3 K H a b->b[i]?\x,λi H=>∃b,M3 K H a b/\-b<=i]
def Xj(K:W.Frag)(a:mn):It :=#[λi H=>∃b x,MV K H a b/\b[i]?\x,λi H x c=>c=H/\∀b,MV K H a b->b[i]?\x,λi H=>∃b,MV K H a b/\-b<=i]
def Up(lo:Int)(n:8):It:=#[λi _=>i<n,λi H x a=>a=H/\x=.int (lo+i),λi _=>n<=i]
def yw{K}(a it):Turn P w K tg (Xi K a) [it] it (λi h=>h.IsListIter it a i) where
 mem:=by simp
 obj:=λi h st b f=>by let(o,e,c,d):=st;left
 keep:=λi h G st k=>st.at λo e=>k it (by simp) o e
 item:=by intro X n q r J i g s σ H E I l st t;subst n q r;let(N,x,m,v):=t;let(Q,y,p,T):=I.list m;let(u,hu,Y):=y.get v;let(z,A,f2,B,C,D):=l it (by simp);show wpAny_pyNext_list_item st p.isList (x:=u) (by left) λG j sb=>?_;let I1:=I.turned (t':=s.toks) (λb o f e=>(sb.2 b f).trans e) z A B C D;let(o,e,c,d):=id j;show#[u,9,wJ  e c d (by decide) #[x,H,I1,Y,#[9,λys hy=>by rw[I.mN hy m];show v],j,λb f=>(l b f).1]]
 done:=by intro X n q r J i g s σ H E I l st t;subst n q r;let(N,m,v):=t;let(Q,y,p,T):=I.list m;let(z,A,f2,B,C,D):=l it (by simp);let hl:=-y;show wpAny_pyNext_list_end (I.ok.hd J) st p.isList (by simp;lia) λG eb=>#[9,I.turned  (λb o f e=>eb b o f e) z A B C D]
 self:=λ_ _ _ _ _ st h=>wpAny_pyIter_listiter st h
def uO{K}(a it):Turn P w K tg (Xj K a) [it] it (λi h=>h.IsTupleIter it a i) where
 mem:=by simp
 obj:=λi h st b f=>by let(o,e,c,d):=st;left
 keep:=λi h G st k=>st.at λo e=>k it (by simp) o e
 item:=by intro X n q r J i g s σ H E I l st t;subst n q r;let(N,x,m,v):=t;let(Q,y,p,T):=I.tuple m;let(u,hu,Y):=y.get v;let(z,A,f2,B,C,D):=l it (by simp);show wpAny_pyNext_tuple_item st (p) (x:=u) (by left) λG j sb=>?_;let I1:=I.turned (t':=s.toks) (λb o f e=>(sb.2 b f).trans e) z A B C D;let(o,e,c,d):=id j;show#[u,9,wJ  e c d (by decide) #[x,H,I1,Y,#[9,λys hy=>by rw[I.kq hy m];show v],j,λb f=>(l b f).1]]
 done:=by intro X n q r J i g s σ H E I l st t;subst n q r;let(N,m,v):=t;let(Q,y,p,T):=I.tuple m;let(z,A,f2,B,C,D):=l it (by simp);let hl:=-y;show wpAny_pyNext_tuple_end (I.ok.hd J) st (p) (by simp;omega) λG eb=>#[9,I.turned  (λb o f e=>eb b o f e) z A B C D]
 self:=λ_ _ _ _ _ st h=>wpAny_pyIter_tupleiter st h
def uP{K}(it)(lo)(n):Turn P w K N (Up lo n) [it] it (λi h=>IsRangeIter h it (lo+(i:8) * 1) ((n:Int) - (i:8)) 1) where
 mem:=by simp
 obj:=λi h st b c=>by left
 keep:=λi h g st k=>k it (by simp) _ st
 item:=by intro X x y z j i a s σ H E I f st l;subst x y z;let(m,p,A,q,r,u):=f it (by simp);let W:=Walks.range (prog:=X.prog) (w:=X.w) (I.ok.hd j) it lo 1 n;show W.item i s _ _ l st λv g B C d D=>?_;let(t,rfl):=C;let G:Inv X a σ H {s with heap:=g,toks:=B}:=I.turned (λb o c e=>D b o (by exists c) e) m p q r u;show#[_,9,wJ   d 9 9 (by decide) #[.int _,H,G,#[t,?_],#[9,9],d,λb c=>(f b c).1]];simp
 done:=by intro X x y z j i a s σ H E I f st l;let(m,p,A,q,r,u):=f it (by simp);show wpAny_pyNext_range_end (I.ok.hd j) st (by let:n<=i:=l;lia) λg J=>#[9,I.turned  (λb o c e=>J b o c e) m p q r u]
 self:=λ_ _ _ _ _ st h=>wpAny_pyIter_rangeiter st h
def JC(K:W.Frag)(tl:TE):TI:=λσ H R=>tl σ H λx b=>∃a,x=.ref a/\(∃c,M3 K b a c)/\R (Xi K a) b
def LG(K:W.Frag)(tl:TE):TI:=λσ H R=>tl σ H λx b=>∃a,x=.ref a/\(∃c,MV K b a c)/\R (Xj K a) b
def DC(hl:PE X l tl):PI X n l (JC X.K tl):=by
 intro c s σ H R I h;show My (hl c s σ H _ I h) λv r f=>?_;let(x,g,d,i,j):=f;let(a,e,(t,k),q):=j;subst e;ext i;let(u,w,p,y):=d.list k;show Ć p.isList ?_;show#[_,_,_,_,g,9,d.kept  λb o e=>cn _ e,yw a _,#[_,hU _ 9,9,9],λb m=>?_,q];let e:=by exists m
 subst e;show d.uN (i9 _) (d.Ms.fresh (i9 _))
def GX(hl:PE X l tl):PI X n l (LG X.K tl):=by
 intro c s σ H R I h;show My (hl c s σ H _ I h) λv r f=>?_;let(x,g,d,i,j):=f;let(a,e,(t,k),q):=j;subst e;ext i;let(u,w,p,y):=d.tuple k;show Xw (p) ?_;show#[_,_,_,_,g,9,d.kept  λb o e=>cn _ e,uO a _,#[_,hU _ 9,9,9],λb m=>?_,q];let e:=by exists m
 subst e;show d.uN (i9 _) (d.Ms.fresh (i9 _))
def sr{lo a}(I:Inv X c σ H s)(f:-((2 ^ 62):Int)<=lo)(g:lo<2 ^ 62)(h:-((2 ^ 62):Int)<=a)(i:a<2 ^ 62) (q:R (Up lo (a - lo).toNat) H):‹X› (Ŭ (.ref ↥s)) (Xh X c σ n R) E {s with heap:=s.heap.push {cls:=.type "range",data:=.fields #v[.int lo t,.int a u,.int 1 v]},toks:=j}:=by
 show wpAny_pyIter_range (IsRange.new ..) (small_one f g h i) ?_;let d:Inv X c σ H {s with heap:=s.heap.push {cls:=.type "range",data:=.fields #v[.int lo t,.int a u,.int 1 v]},toks:=j}:=I.kept λb o e=>cn _ e;show#[_,_,_,_,H,9,
  d.kept  λb o e=>cn _ e,uP _ lo _,?_,λb k=>?_,q]
 .let l:lo+(0:8) * 1=lo:=by simp
  let m:(a - lo).toNat - (0:8)=abm lo a 1:=by rw[rangeSize_one];lia
  rw[l,m];show hU _ 9
 let e:b=(s.heap.push {cls:=.type "range",data:=.fields #v[.int lo t,.int a u,.int 1 v]}).objs.size:=by exists k
 subst e;show d.uN (i9 _) (d.Ms.fresh (i9 _))
def JD(a:TA):TI:=λσ H R=>a σ H λb c=>∃j:Int,b=[.int j]/\-((2 ^ 62):Int)<=j/\j<2 ^ 62/\R (Up 0 j.toNat) c
def JE(a:TA):TI:=λσ H R=>a σ H λb c=>∃i j:Int,b=[.int i,.int j]/\(-((2 ^ 62):Int)<=i/\i<2 ^ 62/\-((2 ^ 62):Int)<=j/\j<2 ^ 62)/\R (Up i (j - i).toNat) c
def yx(f:Gl X "range")(g:X.mg "range"=cK)(i:PA X [a] k)(hs:mu [a] X.env=[(dt,Oj a X.env)]:=by rfl):PI X u (.Call (.Name "range" p) [a] [] c) (JD k):=by intro b s σ H R I h;show Call_ (cY I f g boot_range (Q8 (My (i c b s σ H _ I h) λv w ⟨x,y,l,m,d⟩=>?_) hs 9));let(j,e,d,n,q):=d;subst e;cases m with|cons r o=>ext o;let(t,rfl):=r;show call_range_1 (sr l 7 7 d n (by left))
def yy(k:Gl X "range")(l:X.mg "range"=cK)(m:PA X [a,b] n)(hs:mu [a,b] X.env=[(dt,Oj a X.env),(dt,Oj b X.env)]:=by rfl)(o:mu [b] X.env=[(dt,Oj b X.env)]:=by rfl):PI X A (.Call (.Name "range" p) [a,b] [] d) (JE n):=by
 intro c s σ H R I h;show Call_ (cY I k l boot_range (Q8 (My (m d c s σ H _ I h) λB C ⟨D,G,u,v,f⟩=>?_) (by left) (by rw[o];rfl)));let(i,j,e,(f,w,x,y),q):=f;subst e;cases v with
 |cons r g =>
  cases g with
  |cons z g=>ext g;let(t,rfl):=r;let(J,rfl):=z;show call_range_2 (sr u f w x y q)
def LJ(d:TI)(g:TG)(tb:TS):TS:=λD σ H=>d σ H λJ e=>∃W:8->8->St->Hp->6,(∃m,W 0 m σ e)/\∀i m σ H,W i m σ H ->
 (J.stop i H/\D.nx σ H)\/(J.go i H/\∃N:St->Hp->6,(∀b a,N b a->∃c,c<m/\W (i+1) c b a)/\∀x a,J.VM i H x a->g x σ a λf h=>tb {D with nx:=N,ct:=N,bk:=D.nx} f h)
def qp(a:↑mn)(h:UD):↑(mn×Obj):=a.filterMap λb=>(h.get? b).map λo=>(b,o)
def fV(a:b∈c)(e:h.get? b\o):(b,o)∈qp c h:=Ϣ.mpr #[b,a,by rw[e];rfl]
def yz(a:p∈qp c h):p.1∈c/\h.get? p.1\p.2:=by let(b,d,e):=Ϣ.mp a;cases q:h.get? b with|none=>left|some o=>rw[q]at e;let f:=D' e;subst f;show#[d,q]
def Inv.pinned(I:Inv X a σ H s)(g:∀b∈c,jb X a H b)(ho:∀b∈c,∃o,s.heap.get? b\o/\∀v,o.data≠.cell v):Inv X (a++qp c s.heap) σ H s :=I.fg λp h=>(ke.mp h).elim (λz=>I.pin p (tj _ z)) λz=>by let(f,e):=yz z;let(i,j,k,_):=g p.1 f;let(o,l,d):=ho p.1 f;left
def Inv.mP(I:Inv X (a++c) σ H s):Inv X a σ H s:=I.fg λp b=>I.pin p (tj _ (Uk _ b))
def GY(y:ű (il X.prog X.w) X.A X.env X.xe)(hc:X.calm=4)(hi:PI X tg q wi)(hg:PG X tg g)(c:ND X z tb) (hs:∀x,VT q X.env x=pure x:=by intro _;rfl):PS X (.For tg q z [] ac) (LJ wi g tb):=by
 intro a s σ H D I h;show wpAny_For (My (hi a s σ H _ I h) λv s1 h1=>My h1 λUo s2 h2=>?_) hs;let(it,Y,tn,J,H2,e,I2,T,ab,f2,W,(m0,w0),B):=h2;subst e;let Sf:∀{j},(∀b∈Y,j b=cK)->∀b∈Y,jb X a j b:=λhn b c=>#[hn b c,(f2 b c).2]
 show codeAny_forLoop_any (λn s'=>∃i C j,Inv X a C j s'/\tn i s'.heap/\(∀b∈Y,j b=cK)/\W i n C j) ?_ m0 ⟨0,σ,H2,I2,ab,λb c=>(f2 b c).1,w0⟩;rintro n s3 ⟨i,G,H3,I3,M8,Uq,w3⟩;obtain⟨Q,qn⟩|⟨go,N,hN,Ε⟩:=B i n G H3 w3
 .show XI y (My (T.done X 9 9 9 hc i a s3 G H3 X.xe I3 (Sf Uq) M8 Q) λr s4 Xm=>?_);let(hr,I4):=Xm;subst hr;show Δ #[G,H3,I4,qn]
 show XI y (My (T.item X 9 9 9 hc i a s3 G H3 X.xe I3 (Sf Uq) M8 go) λr s4 Xn=>?_);let(u,hr,h4):=Xn;subst hr;show XI y (My h4 λ_ s5 Xo=>?_);let(x,H5,I5,r5,y5,P9,Xp):=Xo;let Xq:=I5.pinned (Sf Xp) (T.obj _ _ P9);show XI y (My (hg _ s5 G H5 x u _ Xq r5 (Ε x H5 y5)) λ_ s6 Xr=>?_);let(σ6,H6,I6,q6):=Xr;show XI y (My (c _ s6 σ6 H6 _ I6 q6) λf s7 t=>?_);let again:∀{k} {l},Inv X _ k l s7->N k l->∃m,m<n/\∃i C j,Inv X a C j s7/\tn i _/\(∀b∈Y,j b=cK)/\W i m C j:=λ{k l} p n7=>by let(m',hm,w7):=hN k l n7;show#[m',hm,i+1,k,l,p.mP,T.keep _ _ _ P9 λb c o e=>(p.pin (b,o) (tj _ (tj _ (fV c e)))).1,λb c=>?_,w7];let(o,e,d):=T.obj _ _ P9 b c;show(p.pin _ (tj _ (tj _ (fV c e)))).2.1
 cases f with|brk=>let(k,l,p,t):=t;show#[k,l,p.mP,t]|ret v=>let(x7,k,l,p,r7,t):=t;show#[x7,k,l,p.mP,r7,t]|_=>let(k,l,p,n7):=t;show again p n7
abbrev R2:=V->V->Hp->VK->6
def Oq(X:Cx)(f:ki->ki->Sem ki)(r:R2):6 :=
 ∀(a:↑(mn×Obj)) (s:nc) (σ:St) (H:Hp) (x y:V) (v u:ki) (Q:VK),Inv X a σ H s->RelV x v->RelV y u->r x y H Q ->
  ‹X› (f v u) (EP X a σ Q) X.xe s
def gN(X:Cx)(f:ki)(r:↑V->Hp->VK->6):6 :=
 ∀(a:↑(mn×Obj)) (s:nc) (σ:St) (H:Hp) (b:↑V) (c:↑ki) (Q:VK),Inv X a σ H s->Vals b c->r b H Q ->
  ‹X› (Zl f c) (EP X a σ Q) X.xe s
def LK(X:Cx)(r:V->Hp->(Bool->Hp->6)->6):6 :=
 ∀(a:↑(mn×Obj)) (s:nc) (σ:St) (H:Hp) (x:V) (v:ki) (Q:Bool->Hp->6),Inv X a σ H s->RelV x v->r x H Q ->
  ‹X› (truthy v) (TP X a σ Q) X.xe s
def rI(C:Int->Int->6)(g:Int->Int->V):R2:=λx y H Q=>∃i j,x=.int i/\y=.int j/\C i j/\Q (g i j) H
def Sg(g:Int->Int->V):R2:=λx y H Q=>∃i j,x=.int i/\y=.int j/\Q (g i j) H
def VN{g:Int->Int->Int} (rule:∀i j t u s Q E,C i j->Q (.int (g i j) s.toks) {s with toks:=s.toks+1}->‹X› (f (.int i t) (.int j u)) Q E s) :Oq X f (rI C λi j=>.int (g i j)):=by intro a s σ H x y v u Q I b c h;let(i,j,rfl,rfl,d,q):=h;let(t,rfl):=b;let(e,rfl):=c;show rule i j t e s _ _ d #[.int _,H,I.tok _,#[_,9],q]
def JF{g:Int->Int->Int} (rule:∀i j t u s Q E,Q (.int (g i j) s.toks) {s with toks:=s.toks+1}->‹X› (f (.int i t) (.int j u)) Q E s) :Oq X f (Sg λi j=>.int (g i j)):=by intro a s σ H x y v u Q I b c h;let(i,j,rfl,rfl,q):=h;let(t,rfl):=b;let(d,rfl):=c;show rule i j t d s _ _ #[.int _,H,I.tok _,#[_,9],q]
def GZ{g:Int->Int->Bool} (rule:∀i j t u s Q E,Q (.bool (g i j)) s->‹X› (f (.int i t) (.int j u)) Q E s) :Oq X f (Sg λi j=>.bl (g i j)):=by intro a s σ H x y v u Q I b c h;let(i,j,rfl,rfl,q):=h;let(t,rfl):=b;let(d,rfl):=c;show rule i j t d s _ _ #[.bl _,H,I,9,q]
def LL(i j:Int):6:=0<j/\j<1073741824
def LM(i j:Int):6:=0<=j/\j<=1000000/\i.natAbs<2 ^ 64
def G0(i j:Int):6:=(-((2 ^ 64):Int)<i/\i<2 ^ 64)\/(-((2 ^ 64):Int)<j/\j<2 ^ 64)
def G0.ok(h:G0 i j):IntMulOk i j:=by
 obtain⟨a,b⟩|⟨a,b⟩:=h
 .show .of_left (intBits_le_64 a b)
 show .of_right (intBits_le_64 a b)
def dY:Oq X (Yz .Add) (Sg λi j=>.int (i+j)):=JF λ_ _ _ _ _ _ _ q=>add_int q
def mQ:Oq X (Yz .Sub) (Sg λi j=>.int (i - j)):=JF λ_ _ _ _ _ _ _ q=>sub_int q
def qq:Oq X (Yz .Mult) (rI G0 λi j=>.int (i * j)):=VN λ_ _ _ _ _ _ _ a q=>mul_int q a.ok
def DE:Oq X (Yz .FloorDiv) (rI LL λi j=>.int (i / j)):=VN λi j _ _ _ _ _ a q=>by let b:=a.1;let c:=a.2;show floordiv_int 7 (by rw[Int.fdiv_eq_ediv_of_nonneg i ⋯];show q) (.inl (PyProof.noPylong_small (by omega)))
def bY:Oq X (Yz .Mod) (rI (λ_ j=>0<j) λi j=>.int (i % j)):=VN λi j _ _ _ _ _ a q=>by show mod_int' 7 (by rw[Int.fmod_eq_emod_of_nonneg i ⋯];show q)
def qr:Oq X (Yz .Pow) (rI LM λi j=>.int (i ^ j.toNat)):=VN λ_ _ _ _ _ _ _ a q=>pow_int_small a.1 a.2.1 a.2.2 q
def Ag(I:Inv X a σ H s)(q:Q (.bl k) H)(e:k=b):EP X a σ Q (.bool b) s:=by subst e;show#[.bl k,H,I,9,q]
def JG:Oq X (XM .Lt) (Sg λi j=>.bl (gi (i<j))):=GZ λ_ _ _ _ _ _ _ q=>lt_int q
def JH:Oq X (XM .Gt) (Sg λi j=>.bl (gi (j<i))):=GZ λ_ _ _ _ _ _ _ q=>gt_int q
def JI:Oq X (XM .GtE) (Sg λi j=>.bl (gi (j<=i))):=GZ λ_ _ _ _ _ _ _ q=>ge_int q
def yA:Oq X (XM .In) (λx y H Q=>∃i j,x=.str i/\y=.str j/\Q (.bl (!(Qe j i 0 ⇑j 1).isEmpty)) H):=by intro a s σ H x y v u Q I b c h;let(i,j,rfl,rfl,q):=h;let(t,rfl):=b;let(d,rfl):=c;show in_str (Ag I q 9)
def DF:Oq X (XM .IsNot) (λx y H Q=>y=.Mx/\Q (.bl (!gi (x=.Mx))) H):=by
 intro a s σ H x y v u Q I b c h;let(rfl,q):=h;ext c;show isnot_none_gen (Ag I q ?_);cases x<;>first
  |(ext b;rfl)|(let(t,rfl):=b;rfl)
def JJ(K:W.Frag)(x:V)(H:Hp)(k:Bool):6 :=match x with|.Mx=>k=dt|.bl b=>k=b|.int i=>k=(i != 0)|.str y=>-y<=et/\k=((-y:Int) != 0)|.Uc y=>y.size<=et/\k=((y.size:Int) != 0)|.ref p=>(∃a,M3 K H p a/\k=!a.isEmpty)\/(∃a,MV K H p a/\k=!a.isEmpty)\/∃c,H p\.dK c/\k=!c.isEmpty|_=>False
def uQ(r:KV a b):(!b.isEmpty)=!a.isEmpty:=by cases r<;>rfl
def mR(r:Vals a b):(!b.toArray.isEmpty)=!a.isEmpty:=by cases r<;>simp
def gO:(et:8)<2 ^ 63:=by decide
def G1:LK X (λx H Q=>∃k,JJ X.K x H k/\Q k H):=by
 intro n s σ H x v Q I f h;let(k,e,q):=h;let hl:=gO;let hs:et=16777216:=sizeLine_eq;cases x with
 |Mx=>ext f;let a:k=dt:=e;subst a;show truthy_none #[H,I,q]|bl b=>ext f;let a:k=b:=e;subst a;show Tw #[H,I,q]|int i=>let(t,rfl):=f;let a:k=(i != 0):=e;subst a;show PySem.P.truthy_int #[H,I,q]|str y=>let(t,rfl):=f;obtain⟨u,a⟩:-y<=et/\k=((-y:Int) != 0):=e;subst a;show PySem.P.truthy_str 7 #[H,I.tok _,q]|Uc y=>let(t,rfl):=f;obtain⟨u,a⟩:y.size<=et/\k=((y.size:Int) != 0):=e;subst a;show W.truthy_bytes 7 #[H,I.tok _,q]|ref p =>
  ext f;let a:=e;obtain⟨z,g,a⟩|⟨z,g,a⟩|⟨d,g,a⟩:=a
  .subst a;let(A,r,l,o):=I.list g;let c:=-r;show wpAny_truthy_list l.isList (by erw[qv];omega) #[H,I.tok _,by rw[mR r];show q]
  .subst a;let(A,r,l,o):=I.tuple g;let c:=-r;show truthy_tuple l (by erw[qv];omega) #[H,I.tok _,by rw[mR r];show q]
  subst a;obtain⟨o,B,j,r,m⟩:-d<=et/\(p==Xx)=dt/\∃j,KV d j/\s.heap.DictOf (a_ X.prog X.w) p j:=I.Ms p _ g;let c:-d=-j:=Paired.length r;show wpAny_truthy_dict B m 7 #[H,I.tok _,by rw[uQ r];show q]
 |_=>show(show False from e).elim
def Ah(e:PE X a f)(g:∀b,isTrue a X.env b=(do let v <-b;ğ a.pos;Vx [v] (truthy v))):PT X a (λσ H Q=>f σ H λx d=>∃k,JJ X.K x d k/\Q k d):=by intro c s σ H Q I h;show isTrue_plain (My (e c s σ H _ I h) λv i ⟨x,j,l,m,n⟩=>G1 c i σ j x v Q l m n) (g _)
def uR:Oq X (Yz .Add) (λx y H Q=>∃i j,x=.str i/\y=.str j/\-i+ -j<=et/\Q (.str (i++j)) H):=by intro a s σ H x y v u Q I b c h;let(i,j,rfl,rfl,d,q):=h;let(t,rfl):=b;let(e,rfl):=c;show add_str (λe f=>#[.str _,H,I.tok _,#[_,9],q]) d
def vals1(r:Vals [x] a):∃u,a=[u]/\RelV x u:=by cases r with|cons b c=>ext c;show#[_,9,b]
def vals2(r:Vals [x,y] b):∃u a,b=[u,a]/\RelV x u/\RelV y a:=by
 cases r with
 |cons c d =>
  cases d with
  |cons e f=>ext f;show#[_,_,9,c,e]
def yB(d:X.calm=4):gN X (.builtin "max") (λb H Q=>∃i j,b=[.int i,.int j]/\Q (.int (if j>i then j else i)) H):=by
 intro c s σ H b e Q I r h;let(i,j,rfl,q):=h;let(u,f,rfl,(t,rfl),(g,rfl)):=vals2 r;show max_two_ints (I.ok.hd d) λl m k=>#[_,H,I.kept k,?_,q]
 by_cases a:j>i
 .rw[if_pos a,if_pos a];show#[_,9]
 rw[if_neg a,if_neg a];show#[_,9]
def yC(d:X.calm=4):gN X (.builtin "min") (λb H Q=>∃i j,b=[.int i,.int j]/\Q (.int (if j<i then j else i)) H):=by
 intro c s σ H b e Q I r h;let(i,j,rfl,q):=h;let(u,f,rfl,(t,rfl),(g,rfl)):=vals2 r;show min_two_ints (I.ok.hd d) λl m k=>#[_,H,I.kept k,?_,q]
 by_cases a:j<i
 .rw[if_pos a,if_pos a];show#[_,9]
 rw[if_neg a,if_neg a];show#[_,9]
def qt:gN X (.type "str") (λa H Q=>∃i,a=[.int i]/\i.natAbs.log2<1920/\Q (.str (toString i)) H):=by intro b s σ H a d Q I r h;let(i,rfl,c,q):=h;let(u,rfl,t,rfl):=vals1 r;show PySem.P.str_of_int c #[.str _,H,I.tok _,#[_,9],q]
structure uS(h:UD)(x dx C:mn)(mA:5->Option ki):6 where
 obj:h.get? x\W.instObj C dx
 ns:h.Ns1 dx mA
 ne:dx≠x
def yD{h:UD}(n:h.Ns1 f g):∃c,h.get? f\c/\∀b,W.lookIn b c\g b:=by
 let(o,d,p,ho,i,hk,_,j):=n;show#[o,ho,λb=>?_];let e:=j b;unfold nsFind findBy at e;rw[<-Array.find?_toList]at e;unfold W.lookIn;rw[i]
 dsimp only
 split
 .rename_i y q;rw[q]at e;show congrArg bD e
 rename_i q;rw[q]at e;let a:d.toList.any (·.refKey)=dt:=by rw[ľ];intro y k;let(z,t,l):=hk y (ν.mp k);simp[DictEntry.refKey,l]
 let m:¬d.toList.any (·.refKey)=4:=by rw[a];show RR
 rw[if_neg m];show congrArg bD e
def uS.look(I:uS h x c C d):∃b,W.InstAt h x (W.instObj C c) C (bD b)/\∀a,W.lookIn a b\d a :=
 let ⟨b,ho,hl⟩:=yD I.ns
 ⟨b,⟨I.obj,9,9,ho⟩,hl⟩
section
variable{prog:B'}{w:Q2}{A:Ç}{E:ki->nc->6}{s:nc}{K:PySem.W.Frag}{x dx C f:mn}{mA:5->Option ki}{name:5}{v:ki}
def get_map(X:K.In s.heap)(I:uS s.heap x dx C mA)(c:W.plainGet K C name=4)(d:W.hasDictIn K C=4) (e:W.findIn K (.ref C) name\cK) (g:mA name\v) (a:W.handedIn v=4) (h:Q v {s with toks:=s.toks+1}) :g8 (il prog w) A (getAttr (.ref x) name b) Q E s:=by let(i,J,hl):=I.look;show W.get_value X J (W.plainGet_of c).1 (W.findObj_own d e 9 (by rw[hl,g])) a h
def Ai(X:K.In s.heap)(I:uS s.heap x dx C mA)(a:W.plainGet K C name=4) (b:W.findIn K (.ref C) name\bD (.ref f)) (c:W.isFn K (.ref f)=4) (d:mA name=cK) (h:Q (.ref f,[.ref x]) s) :g8 (il prog w) A (ů (.ref x) name g) Q E s:=by let(e,J,hl):=I.look;show W.method_fn X J (W.plainGet_of a).1 (W.plainGet_of a).2 b (beq_iff_eq.mp c) (by change(W.lookIn name e).map (·.isSome)\dt;rw[hl,d];rfl) h
def DG(X:K.In s.heap)(I:uS s.heap x dx C mA) (hs:W.findIn K (.ref C) "__setattr__"\bD (.builtin "object.__setattr__")) (k:W.plainOver K C=4) (l:W.takerIn K C name\cK) (m:W.hasDictIn K C=4) (n:PySem.Within mA o) (p:-o<=et) (h:∀c,uS c x dx C (λy=>if y=name then bD v else mA y)->tr dx s.heap c->Q () {s with heap:=c,toks:=s.toks+2}) :g8 (il prog w) A (setAttr (.ref x) name v) Q E s:=by let(D,J,hl):=I.look;show W.set_plain X J hs (W.osa_open (s:={s with toks:=s.toks+1}) (r:=cK) X J k l λb=>?_);let(G,q,t):=W.any_some m;let u:s.heap.get? x\⟨.ref C,bD dx,.plain,#v[]⟩:=I.obj;show b6 (cL (b6 (b6 (wpAny_loadPart u (b6 (W.Looks.here (s:={s with toks:=s.toks+1}) (W.looks_clsIn X q) ?_))))));rw[t];show cL (a:=bD dx) (b6 (cL (b6 ?_)));show wpAny_nsSet1 (s:={s with toks:=s.toks+1}) I.ns λc i j=>?_;let(H,z,B,d,e,g):=i.count (PySem.Within.cons name v n);show b6 (wpAny_lookBehind d (by rw[e];show pastItsLine_dict (va g (by rw[oD];lia))) ?_);show cL (h _ #[(j.2 _ (uk I.ne)).trans I.obj,i,I.ne] j)
def Aj(X:K.In s.heap)(e:W.makesIn K C=4) (i:W.findIn K (.ref C) "__init__"\bD (.ref f)) (j:W.typeIn K (.ref f)\.type "function") (h:æ (il prog w) (A.under (.builtin "type.__call__" ⟨.ref C::b,c⟩)) (.call (.ref f) #[.ref (↥s+1)::b,c]) (W.InitBack (↥s+1) R)
   {s with heap:=(s.heap.push W.emptyDict).push (W.instObj C ↥s)}) :
  æ (il prog w) A (.call (.ref C) #[b,c]) R s:=by
 let(k,g,d,t,os):=s;show W.make_core (W.makes_of X e) (W.looks_findIn X i) (λa=>W.bind_fn X a j) (.inl 9) h
end
def fA(f:5)(v:V):↑(5 ×V)->↑(5 ×V)|[]=>[(f,v)]|(g,x)::r=>if g=f then(g,v)::r else(g,x)::fA f v r
theorem ll(f g)(v):∀b,(fA f v b).lookup g=if g=f then bD v else b.lookup g
 |[]=>by
  change W' g [(f,v)]=_;by_cases h:g=f
  .let a:(g==f)=4:=beq_iff_eq.mpr h;erw[W',a,if_pos h]
  let a:(g==f)=dt:=beq_eq_false_iff_ne.mpr h;erw[W',a,if_neg h]
 |(k,x)::r=>by
  let c:=ll f g v r;rw[show fA f v ((k,x)::r)=(if k=f then(k,v)::r else(k,x)::fA f v r) from rfl];by_cases hk:k=f
  .rw[if_pos hk];by_cases h:g=k
   .let a:(g==k)=4:=beq_iff_eq.mpr h;erw[W',a,if_pos (h.trans hk)]
   let a:(g==k)=dt:=beq_eq_false_iff_ne.mpr h;erw[W',a,if_neg (λe:g=f=>h (e.trans hk.symm))]
  rw[if_neg hk];by_cases h:g=k
  .let a:(g==k)=4:=beq_iff_eq.mpr h;erw[W',a,if_neg (λe:g=f=>hk (h.symm.trans e))]
  let a:(g==k)=dt:=beq_eq_false_iff_ne.mpr h;erw[W',a];show c
theorem ku(f)(v):∀a,f∈(fA f v a).map (·.1)/\∀g,g∈a.map (·.1)->g∈(fA f v a).map (·.1)
 |[]=>#[by simp[fA],λg h=>by simp at h]|(k,x)::r=>by
  let(b,c):=ku f v r;rw[show fA f v ((k,x)::r)=(if k=f then(k,v)::r else(k,x)::fA f v r) from rfl];by_cases hk:k=f
  .rw[if_pos hk];subst hk;show#[by simp,λg h=>by exists h]
  rw[if_neg hk];show#[?_,λg h=>?_]
  .rw[k9];show kj _ b
  rw[k9]at h ⊢;obtain e|e:=gs.mp h
  .show gs.mpr (.inl e)
  show kj _ (c g e)
theorem lp(f)(v):∀a,-fA f v a<=-a+1
 |[]=>by simp[fA]|(k,x)::r=>by
  let b:=lp f v r;rw[show fA f v ((k,x)::r)=(if k=f then(k,v)::r else(k,x)::fA f v r) from rfl];by_cases hk:k=f
  .rw[if_pos hk,oD,oD];lia
  rw[if_neg hk,oD,oD];lia
def gK.some_of(r:gK (bD v) o):∃u,o\u/\RelV v u:=by cases o with|none=>show(r).elim|some u=>show#[u,9,r]
def gK.none_of(r:gK cK o):o=cK:=by cases o with|none=>rfl|some u=>show(r).elim
def yE(r:RelV v u):W.handedIn u=4:=by cases v with|Mx=>cases(show u=M6 from r);rfl|bl b=>cases(show u=Ā b from r);rfl|int i=>let(t,e):=(show ∃t,u=Ϭ i t from r);ext e;rfl|str x=>let(t,e):=(show ∃t,u=DD x t from r);ext e;rfl|Uc b=>let(t,e):=(show ∃t,u=aa7 b t from r);ext e;rfl|Ud b=>let(t,e):=(show ∃t,u=aa6 b t from r);ext e;rfl|ref a=>cases(show u=oa a from r);rfl|ty n=>cases(show u=YS n from r);rfl
def qu(i:Nw P w H h)(e:H a\.ins C g c):∃b,uS h a g C b/\(∀f,gK (c.lookup f) (b f))/\PySem.Within b (c.map (·.1))/\-c<=1000/\H g\.own a:=by
 let(d,z,j,k,b,n,r,q):=(show bX P w H h a (.ins C g c) from i a _ e)
 show#[b,#[k,n,j],r,q,z,d]
structure Q6(K:W.Frag)(C:mn):6 where
 pg:W.plainGet K C O'=4
 hd:W.hasDictIn K C=4
 po:W.plainOver K C=4
 sa:W.findIn K (.ref C) "__setattr__"\bD (.builtin "object.__setattr__")
def Q6.get{K}(c:Q6 K C)(f):W.plainGet K C f=4:=c.pg
def gP(K:W.Frag)(C:mn)(f:5):6:=W.findIn K (.ref C) f\cK
def gP.JK{K}(n:gP K C f):W.takerIn K C f\cK:=by unfold W.takerIn;rw[show W.findIn K (.ref C) f\cK from n];rfl
structure Meth(K:W.Frag)(C:mn)(m:5)(f:mn):6 where
 at_:W.findIn K (.ref C) m\bD (.ref f)
 fn:W.isFn K (.ref f)=4
 kp:W.keepIn K (.ref f)=4
def uT(I:Inv X d σ H s)(e:H a\.ins C p j)(c:Q6 X.K C)(n:gP X.K C f)(l:j.lookup f\v) (h:∀u g,Inv X d σ H g->RelV v u->Q u g):g8 (il X.prog X.w) A (getAttr (.ref a) f b) Q E s:=by let(k,O,r,_,_,_):=qu I.Ms e;let(u,m,i):=gK.some_of (v:=v) (o:=k f) (by rw[<-l];show r f);show get_map I.O9 O (c.get f) c.hd n m (yE i) (h u _ (I.tok _) i)
def mS(I:Inv X b σ H s)(e:H a\.ins C j d)(c:Q6 X.K C)(k:Meth X.K C m g)(l:d.lookup m=cK) (h:Q (.ref g,[.ref a]) s):g8 (il X.prog X.w) A (ů (.ref a) m n) Q E s:=by let(f,O,r,_,_,_):=qu I.Ms e;let i:f m=cK:=gK.none_of (by rw[<-l];show r m);show Ai I.O9 O (c.get m) k.at_ k.fn i h
def uU(I:Inv X i σ H s)(e:H a\.ins C j d)(c:Q6 X.K C)(n:gP X.K C f)(hl:-d<1000)(t:RelV y u) (h:∀l,Inv X i σ (upd H a (.ins C j (fA f y d))) l->Q () l):g8 (il X.prog X.w) A (setAttr (.ref a) f u) Q E s:=by
 let(m,O,r,p,_,ho):=qu I.Ms e;let v:-d.map (·.1)<=et:=by rw[eu,sizeLine_eq];lia
 show DG I.O9 O c.sa c.po n.JK c.hd p v λB k D=>h _ ?_;let G:∃o,B.get? j\o:=let ⟨o,_,_,J,_⟩:=k.ns;⟨o,J⟩;show I.write (x:=a) (e:=j) (by rw[e];show ą) (.inr ho) (λb q N z=>(D.2 b N).trans z) G ?_;show#[by rw[aj O.ne];show ho,?_,O.ne,k.obj,_,k.ns,λg=>?_,λg T=>?_]
 .let:=lp f y d;lia
 .change gK ((fA f y d).lookup g) (if g=f then bD u else m g);rw[ll];by_cases q:g=f
  .rw[if_pos q,if_pos q];show t
  rw[if_neg q,if_neg q];show r g
 by_cases q:g=f
 .rw[q];show(ku f y d).1
 show(ku f y d).2 g (p g λz=>T ?_);change(if g=f then bD u else m g)=cK;rw[if_neg q];show z
def Inv.made(I:Inv X c σ H s):Inv X c σ (upd (upd H ↥s (.own (↥s+1))) (↥s+1) (.ins C ↥s []))
  {s with heap:=(s.heap.push W.emptyDict).push (W.instObj C ↥s)}:=by
 let d:(s.heap.push W.emptyDict).get? ↥s\W.emptyDict:=hU s.heap 9;let g:((s.heap.push W.emptyDict).push (W.instObj C ↥s)).get? (↥s+1)\(W.instObj C ↥s):=by
  let:=hU (s.heap.push W.emptyDict) (o:=W.instObj C ↥s) 9
  rwa [WJ]at this
 let h:(s.heap.push W.emptyDict).Ns ↥s (λ_=>cK):=#[W.emptyDict,#v[],_,d,9,(λe i=>absurd i (by simp)),λ_=>9]
 let j:=I.laid (a:=↥s) (o:=.own (↥s+1)) (h':=s.heap.push W.emptyDict) (t':=s.toks) (λb u q=>cn _ q) (i9 _) ⟨_,d⟩;show j.laid (a:=↥s+1) (o:=.ins C ↥s []) (t':=s.toks) (λb u q=>cn _ q) (Ď (WJ _ _)) ?_;let f:↥s≠↥s+1:=lx (ă _);show#[by rw[aj f,ak],ri _,f,g,λ_=>cK,(Heap.Ns1.of_empty h).at λo q=>cn _ q,λ_=>ą,λy k=>absurd 9 k]
def DH(b:W8 e f a (Oj e a)=Oj e a) (h:g8 (il prog w) A (Oj e a) (λo c=>g8 (il prog w) A (getAttr o f 4) Q E c) E s):g8 (il prog w) A (Oj (.Attribute e f d) a) Q E s :=Attribute_any_ h (by rw[arm_eval_Attribute,b])
def G2(K:W.Frag)(d:TE)(f:5):TE:=λσ H Q=>d σ H λx b=>∃a C e c v,x=.ref a/\b a\.ins C e c/\Q6 K C/\gP K C f/\c.lookup f\v/\Q v b
def LN(K:W.Frag)(e g:TE)(f:5):TS:=λD σ H=>g σ H λy h=>e σ h λx c=>∃a C d b,x=.ref a/\c a\.ins C d b/\Q6 K C/\gP K C f/\-b<1000 /\
 D.nx σ (upd c a (.ins C d (fA f y b)))
def uV(d:PE X e g)(i:W8 e f X.env (Oj e X.env)=Oj e X.env):PE X (.Attribute e f j) (G2 X.K g f):=by intro b s σ H Q I h;show DH i (My (d b s σ H _ I h) λu z k=>?_);let(x,m,o,p,a,C,A,B,v,r,t,c,n,l,q):=k;subst r;obtain rfl:u=oa a:=p;show uT o t c n l λD G w y=>#[v,m,w,y,q]
def uW(i:PE X o j)(k:PE X b m)(hs:YR b (bD (.Attribute o f e)) g.line X.env=pure dt):PS X (.Assign [.Attribute o f e] b g) (LN X.K j m f):=by intro d s σ H D I h;show plainObj_wpAny_Assign_Attribute (My (k d s σ H _ I h) λu p ⟨y,r,t,v,q⟩=>My (i d p σ r _ t q) λw Q ⟨x,T,z,A,a,C,Y,fs,B,G,c,n,l,J⟩=>?_) hs;subst B;obtain rfl:w=oa a:=A;show uU z G c n l v λs3 N=>#[σ,_,N,J]
inductive mT(K:W.Frag)(H:Hp):V->ki->6 where
 |Mx:mT K H .Mx (.type "NoneType")|bl (x:Bool):mT K H (.bl x) (.type "bool")|int (i:Int):mT K H (.int i) (.type "int")|str (x:Str):mT K H (.str x) (.type "str")|Ud (x:UInt64):mT K H (.Ud x) (.type "float")|lst {a:mn} {xs:↑V} (e:H a\.lst xs):mT K H (.ref a) (.type "list")|N0 {a:mn} {o:Obj} {xs:↑V} (e:H a\.N0 o (.lst xs)):mT K H (.ref a) (.type "list")|tup {a:mn} {xs:↑V} (e:H a\.tup xs):mT K H (.ref a) (.type "tuple")|dK {a:mn} {kvs:↑(Key×V)} (e:H a\.dK kvs):mT K H (.ref a) (.type "dict")|dT {a:mn} {kvs:↑(↑Key×V)} (e:H a\.dT kvs):mT K H (.ref a) (.type "dict")|ins {a C dx:mn} {fs:↑(Str×V)} (e:H a\.ins C dx fs) (cl:Q6 K C) (ha:W.findIn K (.ref C) "__class__"\bD (.builtin "object.__class__"))
   (hn:W.specialIn K (.builtin "object.__class__") "__get__"\bD (.builtin "getset_descriptor.__get__")) (VP:W.takesIn K (.builtin "object.__class__")\cb)
   (hm:W.mroIn K C (.type "object")\cb):mT K H (.ref a) (.ref C)
structure dF(k:8)(A:Ç):6 where
 hd:A.handled=cK
 dp:A.depth+3 * k+0x5<recursionLimit
 un:A.units+16 * k+200<R0
 gd:A.guards\[]
def dF.mono(r:dF k A)(h:j<=k):dF j A:=#[r.hd,by let:=r.dp;lia,by let:=r.un;lia,r.gd]
def dF.deeper(r:dF (k+1) A)(a):dF k (A.deeper a) :=#[r.hd,by let:=r.dp;change A.depth+1+3 * k+0x5 < _;lia,by let:=r.un;change A.units+3+16 * k+200 < _;lia,r.gd]
def uX{A:Ç}:(A.under (.builtin "type.__call__" ⟨.ref C::a,b⟩)).depth=A.depth+1:=by first|rfl|simp[ı,Code.weight,abb,Code.isCaller,ο,abc,guardIds]
def uY{A:Ç}:(A.under (.builtin "type.__call__" ⟨.ref C::a,b⟩)).units=A.units+1:=by first|rfl|simp[ı,Code.cUnits,ο]
def dF.make(r:dF (k+1) A)(C)(a)(b):dF k (A.under (.builtin "type.__call__" ⟨.ref C::a,b⟩)) :=#[r.hd,by let:=r.dp;rw[uX];lia,by let:=r.un;rw[uY];lia,by first|show r.gd|(simp[ı,abb,ο,abc,guardIds];show r.gd)|(change _=_;show r.gd)]
def dF.depth(r:dF k A):A.depth<recursionLimit:=by let:=r.dp;lia
def JL:TA:=λ_ H Q=>Q [] H
def JM(a:TE)(b:TA):TA:=λσ H Q=>a σ H λx c=>b σ c λd e=>Q (x::d) e
def fB:PA X [] JL:=λ_ _ _ _ H Q I h=>ñ #[[],H,I,.nil,h]
def d9(d:PE X e f)(g:PA X c t)(hs:mu (e::c) X.env=(dt,Oj e X.env)::mu c X.env:=by rfl):PA X (e::c) (JM f t):=by intro b a s σ H Q I h;rw[hs];change g8 _ _ (spliced ((dt,Oj e X.env)::QM b (mu c X.env))) _ _ s;show YT (My (d a s σ H _ I h) λu i j=>?_);let(x,k,l,m,n):=j;show My (g b a i σ k _ l n) λw y ⟨o,p,q,r,v⟩=>#[x::o,p,q,.cons m r,v]
def LO(t:TA):TE:=λσ H Q=>t σ H λa b=>-a<=et/\∀p,b p=cK->Q (.ref p) (upd b p (.tup a))
def LP(t:TA):TE:=λσ H Q=>t σ H λa b=>-a<=et/\∀p,b p=cK->Q (.ref p) (upd b p (.lst a))
def G3(h:PA X i t):PE X (.Tuple i n d) (LO t):=by intro a s σ H Q I j;show aaF (My (h d a s σ H _ I j) λk c ⟨l,f,g,r,z,q⟩=>#[by rw[<-⇑r];show z,?_]);let m:f ↥c=cK:=g.Ms.fresh (i9 _);show#[.ref ↥c,upd f ↥c (.tup l),g.laid (t':=c.toks) (λb u e=>cn _ e) (i9 _) ?_,9,q _ m];show#[z,k,r,#[_,hU _ 9,9,_,9]]
def Ak(h:PA X i t):PE X (.List i d) (LP t):=by intro a s σ H Q I j;show aaO (My (h d a s σ H _ I j) λk c ⟨l,f,g,r,z,q⟩=>#[by rw[<-⇑r];show z,?_]);let m:f ↥c=cK:=g.Ms.fresh (i9 _);show#[.ref ↥c,upd f ↥c (.lst l),g.laid (t':=c.toks) (λb u e=>cn _ e) (i9 _) ?_,9,q _ m];show#[z,k,0,r,hU _ 9]
abbrev Sp:=↑V->Hp->VK->XK->6
abbrev Sh:=↑Env->Hp->nc->XK->ki->nc->6
structure uZ(P:B')(w:Q2)(K:W.Frag)(mg:5->Option ki)(base:UD)(A:Ç)(outer:↑Env)(s:nc)(H:Hp):6 where
 frames:A.frames\outer
 mod:Mod K mg base
 bs:∀b o,base.get? b\o->s.heap.get? b\o/\H b=cK
 Q1:base.objs.size<=↥s
 lV:s.heap.FunFrames base outer
 Sa:∀b∈OP outer,H b=cK
 Ms:Nw P w H s.heap
 bare:Ĉ s.gens
def CE(a:↑Env)(P:B')(w:Q2)(H:Hp)(s:nc)(Q:VK)(u:ki)(b:nc):6 :=∃v c,b.os=s.os/\Ĉ b.gens/\Un (OP a) [] H c s.heap b.heap/\Nw P w c b.heap/\RelV v u/\Q v c
def CR(c:Sh)(a:↑Env)(P:B')(w:Q2)(H:Hp)(s:nc)(Q:VK)(E:XK)(r:Result)(b:nc):6 :=match r with|.ok (.ret u)=>CE a P w H s Q u b|.ok _=>False|.error e=>c a H s E e b
structure gL(P:B')(w:Q2)(K:W.Frag)(mg:5->Option ki)(base:UD)(CX:Sh)(k:8)(f:mn)(fd:ę)(ps:↑5)(sp:Sp):6 where
 len:∀vs H Q E,sp vs H Q E->-vs=-ps
 run:∀(A:Ç) (outer:↑Env) (s:nc) (H:Hp) (args:Args) (us:↑ki) (vs:↑V) (Q:VK) (E:XK),dF k A->uZ P w K mg base A outer s H->ϲ s fd args (ps.zip us)->Vals vs us->sp vs H Q E ->
  æ (il P w) A (.call (.ref f) args) (CR CX outer P w H s Q E) s
def uZ.make{K}(e:uZ P w K c b A a s H)(C)(d)(f):uZ P w K c b (A.under (.builtin "type.__call__" ⟨.ref C::d,f⟩)) a s H:=#[by first|show e.frames|(simpa[ı,Code.envs,pushEnvs] using e.frames),e.mod,e.bs,e.Q1,e.lV,e.Sa,e.Ms,e.bare]
def Inv.JN(I:Inv X a σ H s):uZ X.prog X.w X.K X.mg X.base X.A X.stack s H :=#[I.ok.frames,I.ok.mod,I.bs,va I.ok.Q1 I.sz,I.stack,I.wF,I.Ms,I.bare]
def Inv.after(I:Inv X a σ H s)(h:CE X.stack X.prog X.w H s Q u e):EP X a σ Q u e:=by let(v,f,os,c,i,j,r,q):=h;let(l,g,d,t,k):=e;obtain rfl:k=s.os:=os;show#[v,f,I.call      i j c (λb z=>absurd z (by simp)),r,q]
def JO(C:mn)(c:Sp)(d:↑V)(E:XK)(t:TA):TE:=λσ H Q=>t σ H λe b=>∀x a,b x=cK->b a=cK->a≠x ->
 c (.ref x::(e++d)) (upd (upd b a (.own x)) x (.ins C a [])) (λv f=>v=.Mx/\Q (.ref x) f) E
def Binds(K:W.Frag)(d:ę)(b:↑5)(c:↑ki):6 :=∀(s:nc) (a:↑ki),K.In s.heap->-(a++c)=-b->ϲ s d #[a,[]] (b.zip (a++c))
def Binds.all{K}(h:∀a,-a=-b->bindArgs c #[a,[]]=pure (b.zip a)):Binds K c b []:=λs a _ hl=>by rw[uv]at hl ⊢;show .of_eq (h a hl)
def Passes(c:Sh)(X:Cx)(E:XK):6:=∀(a:↑(mn×Obj)) (σ:St) (H:Hp) (s:nc) (e:ki) (b:nc),Inv X a σ H s->c X.stack H s E e b->X.xe e b
def qw(F:gL X.prog X.w X.K X.mg X.base i k f j c l)(m:dF k X.A)(n:Binds X.K j c d)(o:Vals p d)(q:Passes i X E) (I:Inv X a σ H s) (r:Vals vs us) (h:l (vs++p) H Q E):‹X› (Zl (.ref f) us) (EP X a σ Q) X.xe s:=by
 let g:=r.append o;let hl:-(us++d)=-c:=by rw[<-⇑g];show F.len _ _ _ _ h
 show aaM (ó (F.run X.A _ s H _ _ _ Q E m I.JN (n s us I.O9 hl) g h) λr t b=>?_);cases r with
 |error e=>show q a σ H s e t I b|ok v =>
  cases v with
  |ret u=>show I.after b
  |cont=>assumption
  |_=>show Vf b
structure Mk(K:W.Frag)(C f:mn):6 where
 makes:W.makesIn K C=4
 init:W.findIn K (.ref C) "__init__"\bD (.ref f)
 fn:W.isFn K (.ref f)=4
 kp:W.keepIn K (.ref C)=4
def Al(M:Mk X.K C f)(F:gL X.prog X.w X.K X.mg X.base o k f p i q)(t:dF (k+1) X.A)(y:Binds X.K p i b)(z:Vals j b) (B:Passes o X E) (I:Inv X a σ H s) (r:Vals l us) (h:∀x c,H x=cK->H c=cK->c≠x->q (.ref x::(l++j)) (upd (upd H c (.own x)) x (.ins C c [])) (λv D=>v=.Mx/\Q (.ref x) D) E) :
  ‹X› (Zl (.ref C) us) (EP X a σ Q) X.xe s:=by
 let m:=h (↥s+1) ↥s (I.Ms.fresh (ù _)) (I.Ms.fresh (i9 _)) (lx (ă _));let d:=Inv.made (C:=C) I;let n:Vals (V.ref (↥s+1)::(l++j)) (oa (↥s+1)::(us++b)):=.cons 9 (r.append z);let hl:⇑(oa (↥s+1)::us++b)=-i:=by let e:=-n;rw[F.len _ _ _ _ m]at e;show e.symm
 show aaM (Aj (f:=f) I.O9 M.makes M.init (beq_iff_eq.mp M.fn) (ó (F.run _ X.stack _ _ #[oa (↥s+1)::us,[]] (oa (↥s+1)::(us++b)) _ _ E (t.make C us [])
  (d.JN.make C us []) (y _ (oa (↥s+1)::us) d.O9 hl) n m) λr G g=>?_))
 cases r with
 |error e=>show B a σ _ _ e G d g|ok J =>
  cases J with
  |ret u=>let(v,N,T,Y,ev,q3):=d.after g;subst ev;show#[Y,#[V.ref (↥s+1),N,T,9,q3]]
  |_=>show Vf g
def Am(M:Mk X.K C f)(F:gL X.prog X.w X.K X.mg X.base b k f c d e)(g:dF (k+1) X.A)(i:Gl X x)(j:X.mg x\.ref C)(l:Binds X.K c d m)(n:Vals o m)(q:Passes b X E) (r:(x==("__debug__":5))=dt:=by decide):PE X (.Call (.Name x p) [] [] t) (JO C e o E JL):=by intro a s σ H Q I h;show Oh (mq I i j ?_ r);show W.callWith_K0 I.O9 M.kp (Al (us:=[]) M F g l n q I .nil h)
structure d_(N P:↑5)(sc:V9):6 where
 kind:sc.kind=.function
 co:sc.isCoroutine=dt
 gen:sc.isGenerator=dt
 nd:N.Nodup
 pre:N.take ⇑P=P
 par:∀x∈P,sc.names.lookup x\.local\/sc.names.lookup x\.cell
 Si:∀y∈sc.names,y.2≠.free
theorem pw{kindOf}:∀{a}{m},(∀v,(x,v)∉a)->bindL kindOf a m x=m x
 |[],_,_=>9|(n,v)::r,m,h=>by
  unfold bindL;rw[pw λw b=>h w (kj _ b)];split
  .let:x≠n:=by rintro rfl;show h v my
   simp[this]
  rfl
theorem pz{kindOf}:∀{a}{m},(∀v,(x,v)∉a)->bindC kindOf a m x=m x
 |[],_,_=>9|(n,v)::r,m,h=>by
  unfold bindC;rw[pz λw b=>h w (kj _ b)];split
  .rfl
  let:x≠n:=by rintro rfl;show h v my
  simp[this]
theorem pA{kindOf}:∀{P:↑5}{a}{i:8}{m},P.Nodup->P[i]?\x->a[i]?\v->kindOf x\.local -> bindL kindOf (P.zip a) m x\v|[],_,_,_,_,h,_,_=>by simp at h|_::_,[],_,_,_,_,h,_=>by simp at h|p::P,w::a,0,m,b,c,d,hk=>by simp at c d;subst c;subst d;change bindL _ ((p,w)::P.zip a) m p=_;unfold bindL;rw[pw λv e=>(sx.mp b).1 (Þ e).1,if_pos hk];simp|p::P,w::a,i+1,m,b,c,d,hk=>by unfold bindL;show pA  (sx.mp b).2 (by assumption) (by assumption) hk
theorem pB{kindOf}:∀{P:↑5}{a}{i:8}{m},P.Nodup->P[i]?\x->a[i]?\v->kindOf x≠bD .local -> bindC kindOf (P.zip a) m x\v|[],_,_,_,_,h,_,_=>by simp at h|_::_,[],_,_,_,_,h,_=>by simp at h|p::P,w::a,0,m,b,c,d,hk=>by simp at c d;subst c;subst d;change bindC _ ((p,w)::P.zip a) m p=_;unfold bindC;rw[pz λv e=>(sx.mp b).1 (Þ e).1,if_neg hk];simp|p::P,w::a,i+1,m,b,c,d,hk=>by unfold bindC;show pB  (sx.mp b).2 (by assumption) (by assumption) hk
def start(N:↑5)(a:↑V):St:=a.map bD++rr (-N - -a) cK
def su(i:Sh)(P:B')(w:Q2)(K:W.Frag)(j:5->Option ki)(d:UD)(N:↑5)(c:5)(a:V9)(f:mn)(g:ki)(A:Ç)(b:↑Env)(s:nc)(H:Hp)(E:XK):Cx where
 prog:=P
 w:=w
 K:=K
 mg:=j
 base:=d
 A:=A.deeper (ĵ c a ↥s f g)
 N:=N
 s₀:=s
 H₀:=H
 env:=ĵ c a ↥s f g
 outer:=b
 stack:=ĵ c a ↥s f g::b
 ex:=[]
 calm:=4
 fn:=λ_=>4
 pn:=[]
 xe:=λe k=>g8 (il P w) (A.deeper (ĵ c a ↥s f g)) (leaving (ĵ c a ↥s f g) e) (λ_ h=>i b H s E e h) (λl h=>i b H s E l h) k
def sv{a:V9}(h:a.names.lookup x\.cell):∃c,(VQ n a.names []).lookup x\c:=by let q:=W.cellsFrom_some _ n [] (.inl h);show Ys.mp q
def yF{K} (S:d_ N o a) (hd:A.handled=cK) (j:uZ P w K J l A d s H) (hl:-t=-o) (r:Vals t Q) (x:InCallC s ↥s (bindL (ĵ g a ↥s f G).kindOf (o.zip Q) λ_=>cK) (VQ (↥s+1) a.names []) (bindC (ĵ g a ↥s f G).kindOf (o.zip Q) λ_=>cK) s1) :Inv (su CX P w K J l N g a f G A d s H E) [] (start N t) H s1:=by
 let MY:-o<=-N:=by let:=congrArg R' S.pre;grind
 let(C,tk,rfl,hk):=x.done;let I:∀b ,b∉(su CX P w K J l N g a f G A d s H E).ex:=λb z=>absurd (show b∈[] from z) (by simp);show#[#[j.mod,S.kind,9,9,i9 _,λy z c C m=>?_,λy hy=>?_,λy c _ h=>?_,λ_=>hd,Around.frames_deeper j.frames,.inr #[9,9],λb z=>absurd z (I b),j.bs,j.Q1,λb _ _=>I b,λb z=>absurd z (I b),j.lV,j.Sa],
  9,j.bare,Un.kept hk,#[_,x.toInCall.ns,λi y v C m h3=>?_],λy c h=>#[_,x.cell y c h],j.Ms.fresh (i9 _),λy c h=>?_,λp B=>absurd (show p∈[] from B) (by simp),j.Ms.kept hk,?_]
 .show name_of_addr x.apart (PySem.mem_of_lookup C) (PySem.mem_of_lookup m)
 .rcases hy with hy|hy
  .show sv hy
  show absurd 9 (S.Si _ (PySem.mem_of_lookup hy))
 .show VH (x.above y c (PySem.mem_of_lookup h))
 .let D:i< -t:=by
   unfold start at m;by_cases D:i< -t
   .show D
   rw[y6 (by exists D)]at m;rw[W6]at m;left
  let ha:t[i]?\v:=by unfold start at m;rw[y9 (by exists D),mx]at m;left
  let(u,T,rv):=r.get ha;let B:o[i]?\y:=by rw[<-S.pre,ž ⋯];show C
  let Y:o.Nodup:=by rw[<-S.pre];show S.nd.sublist (Ϻ _ _)
  show#[u,rv,?_];obtain k|k:=S.par y (rD B)
  .show .inl #[k,pA Y B T k]
  let(c,e):=sv (n:=↥s+1) k;show .inr #[.inl k,c,e,?_];let q:=x.cell y c e;rw[pB Y B T (by change a.names.lookup y≠_;rw[k];decide)]at q;show q
 .show j.Ms.fresh (VH (x.above y c (PySem.mem_of_lookup h)))
 unfold start;change _=-N;left
def An{K:W.Frag}{dV kV p pm m ct oc} (lk:K.lookup f\#[oc,od,.func (W.fnOf z d h j a dV kV p pm an m ct),Sj]) (MN:W.codeIn K m d=4) (S:d_ N T a) (B:∀i H Q E,sp i H Q E->-i=-T) (OQ:∀A c s H i Q E,dF k (A.deeper (ĵ d a ↥s f m))->sp i H Q E ->
      ∃t,ND (su Y P w K mg g N d a f m A c s H E) j t/\t {nx:=λ_ l=>Q .Mx l,rt:=Q} (start N i) H) :
    gL P w K mg g Y (k+1) f (W.fnOf z d h j a dV kV p pm an m ct) T sp:=by
  show#[B,λA c s H args us i Q E hr C hb r N7=>?_];let hl:=B _ _ _ _ N7;let KX:=C.mod.Uh.keeps λb o e=>(C.bs b o e).1;let ab:=C.mod.nolimit.keeps λb o e=>(C.bs b o e).1;let Ut:∀y∈T.zip us,a.names.lookup y.1\.local\/(a.names.lookup y.1\.cell/\((VQ (↥s+1) a.names []).lookup y.1).isSome=4):=λ⟨n,v⟩ hy=>by
    obtain q|q:=S.par n (Þ hy).1
    . show .inl q
    . show .inr #[q,W.cellsFrom_some _ _ _ (.inl q)]
  show codeAny_call_function hr.depth (KX _ _ lk) 9 S.co S.gen 9 (W.codeRec_of KX MN) (hb _ _ _ _ ?_);show wpAny_newFunctionEnv_cells S.kind Ut λac he s1 x=>?_;subst he;show#[ab.keeps x.toInCall.keep,codeAny_func ?_];let(t,ht,hq):=OQ A c s H i Q E (hr.deeper _) N7;let I:Inv (su Y P w K mg g N d a f m A c s H E) [] (start N i) H s1:=yF S hr.hd C hl r x;show Ox (ht [] s1 (start N i) H _ I hq) (λfl s' hs=>?_) λe s' hs=>hs;let D:∀{G} {l} {v} {u},Inv (su Y P w K mg g N d a f m A c s H E) [] G l s'->RelV v u->Q v l->CE c P w H s Q u s' :=λ{G l v u} J rv q=>#[v,l,J.os,J.bare,J.base,J.Ms,rv,q]
  cases fl with| ret u=>let(v,G,l,J,rv,q):=hs;show D J rv q| next=>let(G,l,J,q):=hs;show D (v:=V.Mx)  J 9 q| brk=>let(_,_,_,q):=hs;show Vf q| cont=>let(_,_,_,q):=hs;left
section
variable{X:Cx}{x:5}{p pos:Pos}{e:sL}{es:List sL}{t:TA}{id T:String}{r:List V->Hp->VK->6}
def tCB(r:↑V->Hp->VK->6)(t:TA):TE:=λσ H Q=>t σ H λa b=>r a b Q
def Ao(b:gN X (.builtin id) r)(c:Gl X x)(d:X.mg x=cK)(f:Pd x\.builtin id)(g:PA X (e::es) t)(i:x≠"__name__":=by decide)(j:(x==("__debug__":5))=dt:=by decide) (k:mu (e::es) X.env=(dt,Oj e X.env)::mu es X.env:=by rfl) (l:(QM pos (mu es X.env)).any (·.1)=dt:=by rfl):PE X (.Call (.Name x p) (e::es) [] pos) (tCB r t):=by intro a s σ H Q I h;show Oh (cY I c d f ?_ i j);show Y8 (My (g pos a s σ H _ I h) λm n ⟨o,q,u,v,w⟩=>b a n σ q o m Q u v w) k l
end
end L2
namespace HT
open PySem PyProof.Rows
section
open PySem.SeqAt
open PySem.AutoSeq1 (wpAny_loadPart')
open PySem.MeetsSeq PySem.MeetsSeq2 PySem.MeetsSeq3
end
def DI(u:IsTup s.heap t c.toArray)(v:IsTup s.heap b a.toArray)(i:c≠[]) (x:a=[]->Q (.ref t) s) (y:a≠[]->Q (.ref ↥s) {s with heap:=s.heap.push {cls:=.type "tuple",data:=.seq (c++a).toArray}}) (h:-c+ -a<=et):g8 (il prog w) A (Yz .Add (.ref t) (.ref b)) Q E s:=by
 let((z,dd,j,k),ho,l,n,m):=id u;let((B,o,data2,p),f,q,r,d):=id v;simp only at l m q d;subst l m q d;let e:c.toArray++a.toArray=(c++a).toArray:=by simp
 by_cases g:a=[]
 .show ş #[_,ho,9] #[_,f,9] ŭ ό F.slot_tuple_add F.entry_tuple_add (F.args_tuple_add_2 _ _)
   (tuple_addW1 t b c.toArray a.toArray n r dd o k p (by exists i) (by simp[g])) #[ho,f,x g]
 show ş #[_,ho,9] #[_,f,9] ŭ ό F.slot_tuple_add F.entry_tuple_add (F.args_tuple_add_2 _ _)
  (tuple_addW2 t b c.toArray a.toArray n r dd o k p (by exists i) (by exists g) (by rw[qv,qv];show h)) #[ho,f,?_]
 rw[e];show y g
def ML(n d:8):Option Int->8|none=>d|some v=>if v<0 then(v+(n:Int)).toNat else min v.toNat n
def Ap(n d):ML n d cK=d:=9
def DJ(n d k:8):ML n d (bD (k:Int))=min k n:=by rfl
def G4(n d)(b:d<=n)(o):ML n d o<=n:=by
 cases o with
 |none=>show b|some v =>
  change(if v<0 then(v+(n:Int)).toNat else min v.toNat n)<=n;by_cases a:v<0
  .rw[if_pos a];lia
  rw[if_neg a];show Nat.min_le_right _ _
def wK(v)(n d:8):(if v<0 then max (v+(n:Int)) 0 else min v (n:Int))=((ML n d (bD v):8):Int):=by
 change(if v<0 then max (v+(n:Int)) 0 else min v (n:Int))=(((if v<0 then(v+(n:Int)).toNat else min v.toNat n):8):Int)
 by_cases a:v<0
 .simp only[if_pos a];lia
 simp only[if_neg a];lia
def u3(lo a)(n:8):Ú lo a 1 (n:Int)=(((ML n 0 lo:8):Int),((ML n n a:8):Int)):=by
 let b:¬((1:Int)<0):=7
 unfold Ú;erw[b,if_false];show Û ?_ ?_
 .cases lo with|none=>rfl|some v=>show wK v n 0
 cases a with|none=>rfl|some v=>show wK v n n
def u4(i j:8):Xv (i:Int) (j:Int) 1=j - i:=by
 unfold Xv;let a:(1:Int)>0:=7
 erw[a,if_true,Int.ediv_one];split<;>lia
def mU(p:Ĵ v o)(h:Q o s):g8 (il prog w) A (abk v) Q E s:=by cases p with|none=>show slicePart_none h|int i t=>show slicePart_int h
def fG{lo a}{n:8}(hs:s.heap.IsSliceOf f d e .none)(g:Ĵ d lo)(i:Ĵ e a) (h:Q (((ML n 0 lo:8):Int),1,ML n n a - ML n 0 lo) s):g8 (il prog w) A (ĭ (.ref f) (pure (n:Int))) Q E s:=by let(os,b,j,c):=id hs;unfold ĭ abl;show b6 (b6 (Rc b c (x:=d) 9 (b6 (Rc b c (x:=e) 9 (b6 (Rc b c (x:=.none) 9 (cL ?_)))))));show b6 (slicePart_none ?_);change g8 _ _ (if ((1:Int)==0)=4 then _ else _) _ _ s;rw[if_neg (by decide)];show b6 (mU g (b6 (mU i (b6 (cL ?_)))));change g8 _ _ (match Ú lo a 1 (n:Int) with|(lo,a)=>pure (lo,(1:Int),Xv lo a 1)) _ _ s;rw[u3 lo a n];change g8 _ _ (pure (((ML n 0 lo:8):Int),(1:Int),Xv ((ML n 0 lo:8):Int) ((ML n n a:8):Int) 1)) _ _ s;rw[u4];show cL h
def Aq(a:Array ki)(i k:8):((hW k).filterMap λ(m:Nat)=>a[((i:Int)+(m:Int) * 1).toNat]?).toArray=((a.toList.drop i).take k).toArray:=by
 let e:(λ(m:Nat)=>a[((i:Int)+(m:Int) * 1).toNat]?)=λm=>a[i+m]?:=by
  funext m
  let:((i:Int)+(m:Int) * 1).toNat=i+m:=7
  rw[this]
 rw[e];let:=pick_run a i k;rw[Ϥ]at this;let b:((λx=>a[x]?) ∘ λx=>i+x)=λm=>a[i+m]?:=9;rw[b]at this;rw[this]
def jE{lo b}(c:IsTup s.heap t a)(hs:s.heap.IsSliceOf e f g .none)(i:Ĵ f lo)(j:Ĵ g b) (k:¬(ML a.size 0 lo=0/\ML a.size a.size b=a.size)) (h:Q (.ref ↥s) {s with heap:=s.heap.push {cls:=.type "tuple",data:=.seq ((a.toList.drop (ML a.size 0 lo)).take (ML a.size a.size b - ML a.size 0 lo)).toArray}}) (l:a.size<=et):g8 (il prog w) A (ò (.ref t) (.ref e)) Q E s:=by
 let d:sizeOk (.seq ((a.toList.drop (ML a.size 0 lo)).take (ML a.size a.size b - ML a.size 0 lo)).toArray):=by
  change((a.toList.drop (ML a.size 0 lo)).take (ML a.size a.size b - ML a.size 0 lo)).toArray.size<=et;rw[qv,X4,X8,hZ]
  omega
 let u:ML a.size a.size b<=a.size:=G4 _ _ (i9 _) b;let(os,n,o,v):=id hs;let p:s.TypeIs (.ref e) "slice":=#[os,n,o]
 unfold ò
 try with_reducible show ve ?_
 first|show b6 (cL ?_)|skip
 show b6 (aa0 c.typeIs (by decide) ?_);show b6 (Qi (name:=è "__getitem__") c.typeIs OI
  (NB OI c.typeIs aaG ?_ (aaT _ _)))
 change g8 _ _ (Ì (.ref t) >>= _) _ _ s;show b6 (tupleItemsOf_ c ?_);show b6 (YQ p ?_);rw[if_pos (by decide)];show b6 (fG hs i j ?_);let r:¬((((ML a.size 0 lo:8):Int)==0&&(1:Int)==1&&(ML a.size a.size b - ML a.size 0 lo)==a.size)=4):=by intro q;rw[df,df]at q;let x:((ML a.size 0 lo:8):Int)=0:=Ϧ q.1.1;let y:ML a.size a.size b - ML a.size 0 lo=a.size:=Ϧ q.2;show k #[7,by omega]
 change g8 _ _ (if (((ML a.size 0 lo:8):Int)==0&&(1:Int)==1&&(ML a.size a.size b - ML a.size 0 lo)==a.size)=4 then _ else _) _ _ s;rw[if_neg r,Aq]
 first
  |show b6 (m:=Xy _) (Pu (cL #[_,9,cL h]) d)|show b6 (m:=Xy _) (Pu (b6 (cL (cL #[_,9,cL h]))) d)|show b6 (b6 (m:=Xy _) (Pu (cL (cL #[_,9,cL h])) d))|show b6 (b6 (m:=Xy _) (Pu (cL #[_,9,cL h]) d))
end HT
namespace L2
open PySem PySem.Spec PyProof.Rows
abbrev TO:=St->Hp->(Option Int->Hp->6)->6
def PO(X:Cx)(e:Option sL)(t:TO):6 :=
 ∀(a:↑(mn×Obj)) (s:nc) (σ:St) (H:Hp) (Q:Option Int->Hp->6),Inv X a σ H s->t σ H Q ->
  ‹X› (evalPart e X.env) (λu c=>∃o b,Inv X a σ b c/\Ĵ u o/\Q o b) X.xe s
def DK:TO:=λ_ H Q=>Q cK H
def JP(t:TE):TO:=λσ H Q=>t σ H λx a=>∃i,x=.int i/\Q (bD i) a
section
variable{X:Cx}{e:sL}{te:TE}{lo hi:Option sL}{tl th:TO}{pos p2:Pos}
def DL:PO X cK DK:=by intro a s σ H Q I h;show cL #[cK,H,I,.none,h]
def DM(h:PE X e te):PO X (bD e) (JP te):=by intro a s σ H Q I b;show My (h a s σ H _ I b) λu k c=>?_;let(x,d,f,g,j):=c;let(i,rfl,q):=j;let(t,rfl):=g;show#[_,d,f,.int i t,q]
def QH(X:Cx)(r:V->Option Int->Option Int->Hp->VK->6):6 :=
 ∀(a:↑(mn×Obj)) (s:nc) (σ:St) (H:Hp) (x:V) (v b c:ki) (lo hi:Option Int) (d:mn) (Q:VK),Inv X a σ H s->RelV x v->s.heap.IsSliceOf d b c .none->Ĵ b lo->Ĵ c hi->r x lo hi H Q ->
  ∃T id,aaP (.type T) "__getitem__"=pure (bD (.builtin id))/\s.TypeIs v T/\‹X› (ò v (.ref d)) (EP X a σ Q) X.xe s
def QH.or(h:QH X r)(j:QH X k):QH X (λx lo hi H Q=>r x lo hi H Q\/k x lo hi H Q):=by
 intro a s σ H x v b c lo hi d Q I f hs g i q;obtain q|q:=q
 .show h a s σ H x v b c lo hi d Q I f hs g i q
 show j a s σ H x v b c lo hi d Q I f hs g i q
def tSl(r:V->Option Int->Option Int->Hp->VK->6)(te:TE)(tl th:TO):TE:=λσ H Q=>te σ H λx a=>tl σ a λl b=>th σ b λu c=>r x l u c Q
def Ar(i:QH X r)(j:PE X e te)(hl:PO X lo tl)(k:PO X hi th):PE X (.Subscript e (.Slice lo hi cK p2) pos) (tSl r te tl th):=by intro a s σ H Q I h;show aaU (My (j a s σ H _ I h) λv m n=>?_);let(x,o,p,t,w):=n;show wpAny_Slice (My (hl a m σ o _ p w) λc y ⟨l,z,A,B,C⟩=>My (k a y σ z _ A C) λd f D=>?_);let(u,g,G,J,N):=D;show cL ?_;let Y:Inv X a σ g {f with heap:=f.heap.push {cls:=.type "slice",data:=.fields #v[c,d,.none]}}:=G.kept  λb ob q=>cn _ q;let(T,id,hT,ht,hg):=i a _ σ g x v c d l u _ Q Y t (aba ..) B J N;show tail_any  ht hT hg (by rfl)
def u5(a:↑V)(lo hi:Option Int):↑V:=(a.drop (HT.ML ⇑a 0 lo)).take (HT.ML ⇑a ⇑a hi - HT.ML ⇑a 0 lo)
def lq(a)(lo hi):-u5 a lo hi<=-a:=by unfold u5;rw[X4,X8];lia
noncomputable def JQ(K:W.Frag):V->Option Int->Option Int->Hp->VK->6:=λx lo hi H Q=>∃a b,x=.ref a/\MV K H a b /\
 ¬(HT.ML ⇑b 0 lo=0/\HT.ML ⇑b ⇑b hi=-b)/\∀p,H p=cK->Q (.ref p) (upd H p (.tup (u5 b lo hi)))
def G5:QH X (JQ X.K):=by
 intro f s σ H x v t u lo hi w Q I j hs k l h;let(a,d,rfl,m,n,q):=h;ext j;let(p,r,g,i):=I.tuple m;let c:p.toArray.size=-d:=by rw[qv];show r.length.symm
 show#["tuple",_,OI.lookup,g.typeIs,?_];show HT.jE g hs k l (by rw[c];show n) ?_ (by rw[c];show i);rw[c];show#[.ref ↥s,_,I.laid (t':=s.toks) (o:=.tup (u5 d lo hi)) (λb y q=>cn _ q) (i9 _) ?_,9,q _ (I.Ms.fresh (i9 _))];show#[va (lq d lo hi) i,_,(r.drop (HT.ML ⇑d 0 lo)).take (HT.ML ⇑d ⇑d hi - HT.ML ⇑d 0 lo),Ž _ _]
def JR(K:W.Frag):R2:=λx y H Q=>∃a b d c,x=.ref a/\y=.ref b/\MV K H a d/\MV K H b c/\d≠[]/\-d+ -c<=et /\
 (c=[]->Q (.ref a) H)/\(c≠[]->∀p,H p=cK->Q (.ref p) (upd H p (.tup (d++c))))
def Vals.qx(r:Vals a b):b=[]↔a=[]:=by cases r with|_=>simp
def DN:Oq X (Yz .Add) (JR X.K):=by intro f s σ H x y v u Q I i j h;let(a,b,k,l,rfl,rfl,m,n,p,g,r,t):=h;ext i j;let(B,d,A,_):=I.tuple m;let(C,c,p2,_):=I.tuple n;show HT.DI A p2 (λz=>p (d.qx.mp z)) (λz=>#[.ref a,H,I,9,r (c.qx.mp z)]) (λz=>?_) (by rw[<-⇑d,<-⇑c];show g);show#[.ref ↥s,_,I.laid (t':=s.toks) (o:=.tup (k++l)) (λb D q=>cn _ q) (i9 _) ?_,9,t (λw=>z (c.qx.mpr w)) _ (I.Ms.fresh (i9 _))];show#[by rw[ro];show g,_,d.append c,Ž _ _]
end
def Qn(n:8)(i:Int):Option 8:=if 0<=i then(if i<n then bD i.toNat else cK) else if -((n:Int):Int)<=i then bD (i+n).toNat else cK
def MX{α:Type}(a:↑α)(i:Int):Option α:=(Qn ⇑a i).bind λj=>a[j]?
def wL{n}(h:Qn n i\j):seqIndex? i n\j/\j<n/\-((n:Int):Int)<=i/\i<n:=by
 unfold Qn at h;by_cases b:0<=i
 .rw[if_pos b]at h;by_cases a:i<n
  .rw[if_pos a]at h;let e:=D' h;show#[by rw[aap b a,e],7,7,a]
  left
 rw[if_neg b]at h;by_cases a:-(n:Int)<=i
 .rw[if_pos a]at h;let e:=D' h;show#[by rw[seqIndex_neg ⋯ a,e],7,a,7]
 left
def qy(h:MX a i\v):∃j,seqIndex? i ⇑a\j/\a[j]?\v/\j< -a/\-((-a:Int):Int)<=i/\i< -a:=by unfold MX at h;cases e:Qn ⇑a i with|none=>left|some j=>rw[e]at h;let(b,c,d,f):=wL e;show#[j,b,h,c,d,f]
def cq{j:8}(h:a[j]?\v):MX a (j:Int)\v:=by
 let b:=(gj.mp h).1;let e:Qn ⇑a j\j:=by unfold Qn;left
 unfold MX;rw[e];show h
def qz(b:sL):6:=∀o i,ź b dt o i=operate [o,i] (ò o i)
def Xz(X:Cx)(r:R2):6 :=
 ∀(c a:sL) (b:↑(mn×Obj)) (s:nc) (σ:St) (H:Hp) (x y:V) (v u:ki) (Q:VK),Inv X b σ H s->RelV x v->RelV y u->r x y H Q ->
  ź a dt v u=operate [v,u] (ò v u)->‹X› (subscriptTail c a v u) (EP X b σ Q) X.xe s
def Tv(X:Cx)(id:String)(r:V->↑V->Hp->VK->6):6 :=
 ∀(a:↑(mn×Obj)) (s:nc) (σ:St) (H:Hp) (x:V) (b:↑V) (v:ki) (c:↑ki) (Q:VK),Inv X a σ H s->RelV x v->Vals b c->r x b H Q ->
  ‹X› (Zl (.builtin id) (v::c)) (EP X a σ Q) X.xe s
section
def LQ(K:W.Frag):R2:=λx y H Q=>∃p a i v,x=.ref p/\y=.int i/\M3 K H p a/\MX a i\v/\Q v H
def LR(K:W.Frag):R2:=λx y H Q=>∃p a i v,x=.ref p/\y=.int i/\MV K H p a/\MX a i\v/\Q v H
def LS:R2:=λx y H Q=>∃z i c,x=.str z/\y=.int i/\-z<=et/\MX (~~~z) i\c/\Q (.str #[#v[c]]) H
def DO:Xz X (LQ X.K):=by
 intro c d a s σ H x y v u Q I n A h hs;let(p,xs,i,z,rfl,rfl,B,C,q):=h;ext n;let(t,rfl):=A;let(D,r,f,hz):=I.list B;let(j,k,G,h3,J,N):=qy C;let(w,l,Y):=r.get G;let hl:=-r;let hn:=gO;let b:EP X a σ Q w s:=#[z,H,I,Y,q]
 by_cases m:0<=i
 .let g:i.toNat=j:=by rw[aap m N]at k;left
  show item_listR f.isList m 7 (by rw[g];exists l) b hs
 let g:(i+(D.toArray.size:Int)).toNat=j:=by rw[seqIndex_neg (by omega) J]at k;left
 show ϳ  f.isList.typeIs aa3.lookup
  (wpAny_getItem_list_neg  f.isList (by omega) (by left) 7 (by rw[g];exists l) #[9,b]) hs
def fC:Xz X (LR X.K):=by
 intro b c a s σ H x y v u Q I g k h hs;let(p,C,i,z,rfl,rfl,l,m,q):=h;ext g;let(t,rfl):=k;let(D,r,f,G):=I.tuple l;let(j,J,n,N,Y,h5):=qy m;let(w,A,B):=r.get n;let hl:=-r;let hn:=gO;let d:EP X a σ Q w s:=#[z,H,I,B,q]
 show ϳ  f.typeIs OI.lookup
  (getItem_tuple (j:=j)  f 7 7 (by left) (by exists A) #[9,d]) hs
def mV:Xz X LS:=by
 intro a b d s σ H x y v u Q I g k h hs;let(z,i,c,rfl,rfl,w,l,q):=h;let(t,rfl):=g;let(A,rfl):=k;let(j,f,m,B,n,p):=qy l;let hl:-z.cps.toList=-z:=by rfl
 rw[hl]at f n p;let C:=gO;show tail_any (Â s z t) abn.lookup (getItem_str  (by grind) (by rw[f];exists m) #[.str _,H,I.tok _,#[_,9],q]) hs
def u6(a:↑ki)(n j)(u):Oy (·.setIfInBounds j u) {cls:=.type "list",data:=.seq a.toArray n}={cls:=.type "list",data:=.seq (a.set j u).toArray n}:=by simp[Oy]
def Inv.lst(I:Inv X b σ H s)(h:H p\.lst c):∃a n,Vals c a/\s.heap.get? p\{cls:=.type "list",data:=.seq a.toArray n}/\-c<=et:=by let(z,a,n,r,e):=I.Ms p _ h;show#[a,n,r,e,z]
def Inv.G6{d a:↑ki}(I:Inv X c σ H s)(h:H p\.lst m) (ho:s.heap.get? p\{cls:=.type "list",data:=.seq d.toArray n}) (g:f {cls:=.type "list",data:=.seq d.toArray n}={cls:=.type "list",data:=.seq a.toArray i }) (r:Vals j a) (k:-j<=et) (t) :Inv X c σ (upd H p (.lst j)) {s with heap:=s.heap.update p f,toks:=t}:=by
 let e:(s.heap.update p f).get? p\{cls:=.type "list",data:=.seq a.toArray i }:=by rw[N1 f ho (by rw[g]<;>rfl),g]
 show I.write   (by rw[h];trivial) (.inl 9) (λb u l q=>(ZR _ _ (uk l)).trans q) ⟨_,e⟩ ?_;show#[k,a,i,r,e]
noncomputable def JS:V->V->V->Hp->(Hp->6)->6:=λo i v H Q=>∃p a k j,o=.ref p/\i=.int k/\H p\.lst a/\Qn ⇑a k\j/\Q (upd H p (.lst (a.set j v)))
def set_list:qo X JS:=by
 intro a s σ H o i v C D u Q I w x y h;let(p,z,k,j,rfl,rfl,c,A,q):=h;ext w;let(t,rfl):=x;let(d,n,r,ho,B):=I.lst c;let(b,G,f,g):=wL A;let hl:=-r;let J:=gO;let l:Inv X a σ (upd H p (.lst (z.set j v))) {s with heap:=s.heap.update p (Oy (·.setIfInBounds j u))} :=I.G6 c ho (u6 d n j u) (r.set y j) (by rw[aaE];show B) s.toks
 by_cases m:0<=k
 .let hk:k.toNat=j:=by rw[aap m g]at b;show D' b
  show W.ki_setAt ho m 7 (by rw[qv,<-hl];show g) (by rw[hk];show#[_,l,q])
 let hk:(k+(d.toArray.size:Int)).toNat=j:=by rw[seqIndex_neg (by omega) f]at b;rw[qv,<-hl];show D' b
 show W.ki_setBack ho (by omega) (by rw[qv,<-hl];show f) 7 (by rw[hk];show#[_,l,q])
def qA(lo a)(n):(ć lo a cK n).1=((HT.ML n 0 lo:8):Int)/\(ć lo a cK n).2.1=((HT.ML n n a:8):Int)/\(ć lo a cK n).2.2=1:=by
 show#[?_,?_,9]
 .cases lo with
  |none=>simp[ć,HT.ML]|some i =>
   erw[ć,HT.ML,ϡ,show(1:Int)>0 by decide,if_true];by_cases h:i<0
   .simp only[h,if_true]<;>omega
   simp only[h,if_false]<;>omega
 cases a with
 |none=>rfl|some i =>
  erw[ć,HT.ML,ϡ,show(1:Int)>0 by decide,if_true];by_cases h:i<0
  .simp only[h,if_true]<;>omega
  simp only[h,if_false]<;>omega
def oV(a:↑ki)(lo b):slicePick a.toArray lo b cK=((a.drop (HT.ML ⇑a 0 lo)).take (HT.ML ⇑a ⇑a b - HT.ML ⇑a 0 lo)).toArray:=by let(c,d,f):=qA lo b _;unfold slicePick;rw[c,d,f];erw[sliceRange_one,pick_run]<;>rfl
noncomputable def JT(K:W.Frag):V->Option Int->Option Int->Hp->VK->6:=λx lo c H Q=>∃a b,x=.ref a/\M3 K H a b/\∀p,H p=cK->Q (.ref p) (upd H p (.lst (u5 b lo c)))
def DP:QH X (JT X.K):=by intro d s σ H x v p u lo g w Q I i hs j k h;let(a,l,rfl,m,q):=h;ext i;let(y,r,f,n):=I.list m;let c:=-r;show#[_,_,aa3.lookup,f.isList.typeIs,?_];show wpAny_getItem_list_slice f.isList hs j k .none (by simp) ?_ (by left);rw[oV,<-c];show#[.ref _,_,I.laid   (λb z q=>cn _ q) (i9 _) ?_,9,q _ (I.Ms.fresh (i9 _))];show#[va (lq l lo g) n,_,0,(r.drop _).take _,hU _ 9]
def qB:Oq X (XM .NotIn) (λx y H Q=>∃i j,x=.str i/\y=.str j/\Q (.bl (!(!(Qe j i 0 ⇑j 1).isEmpty))) H):=by intro a s σ H x y v u Q I b c h;let(i,j,rfl,rfl,q):=h;let(t,rfl):=b;let(d,rfl):=c;show notIn_str #[.bl _,H,I,9,q]
def fW:gN X (.builtin "len") (λf H Q=>∃p b,f=[.ref p]/\(M3 X.K H p b\/MV X.K H p b)/\Q (.int ⇑b) H):=by
 intro g s σ H f l Q I r h;let(p,b,rfl,hq,q):=h;let(u,rfl,i):=vals1 r;ext i;let m:=gO;obtain hq|hq:=hq
 .let(j,c,d,k):=I.list hq;let a:=-c;show Calls.call_len_list d.isList (by erw[qv]<;>omega) #[.int _,H,I.tok _,#[_,by rw[qv,a]],q]
 let(j,c,d,k):=I.tuple hq;let a:=-c;show len_tuple d (by erw[qv]<;>omega) #[.int _,H,I.tok _,#[_,by rw[qv,a]],q]
def qC:gN X (.builtin "len") (λa H Q=>∃z,a=[.str z]/\-z<=et/\Q (.int ⇑z) H):=by intro b s σ H a c Q I r h;let(z,rfl,d,q):=h;let(u,rfl,t,rfl):=vals1 r;let f:=gO;show len_str 7 #[.int _,H,I.tok _,#[_,9],q]
def qD:gN X (.type "list") (λA H Q=>∃p d,A=[.ref p]/\(M3 X.K H p d\/MV X.K H p d)/\∀l,H l=cK->Q (.ref l) (upd H l (.lst d))):=by
 intro i s σ H A D Q I r h;let(p,d,rfl,hq,q):=h;let(u,rfl,C):=vals1 r;ext C;let j:∀(c:↑ki),Vals d c->-d<=et->∀(a:UD) (f:8),(∀b B,s.heap.get? b\B->a.get? b\B) ->
   a.get? ↥s\{cls:=.type "list",dict:=cK,data:=.seq c.toArray f,slots:=#v[]}->EP X i σ Q (.ref ↥s) {s with heap:=a }:=λc g k a f m e =>
  #[.ref ↥s,_,I.laid (t':=s.toks) m (i9 _) (show bX X.prog X.w _ a _ (.lst d) from#[k,c,f,g,e]),9,q _ (I.Ms.fresh (i9 _))]
 obtain hq|hq:=hq
 .let(c,g,x,k):=I.list hq;let v:=-g;let(o,ho,y,n,z):=x.isList;show call_list_seq p (.inl 9) ho y z (λa f m e=>j c g k a f m e) (by erw[qv]<;>omega)
 let(c,g,x,k):=I.tuple hq;let v:=-g;let(o,ho,y,n,z):=x;show call_list_seq p (.inr 9) ho y z (λa f m e=>j c g k a f m e) (by erw[qv]<;>omega)
def iT:gN X (.type "tuple") (λg H Q=>∃p a,g=[.ref p]/\((M3 X.K H p a/\∀l,H l=cK->Q (.ref l) (upd H l (.tup a)))\/(MV X.K H p a/\Q (.ref p) H))):=by
 intro i s σ H g z Q I r h;let(p,a,rfl,h):=h;let(u,rfl,v):=vals1 r;ext v;obtain⟨c,q⟩|⟨c,q⟩:=h
 .let(j,d,f,k):=I.list c;let m:=-d;show call_tuple_list f.isList (λA x=>?_) (by left);let n:=I.kept (t':=s.toks) x;let y :=n.laid (t':=s.toks) (λb o e=>cn _ e) (i9 _) (show bX _ X.w _ _ _ (.tup a) from#[k,j,d,Ž _ _])
  show#[.ref _,_,y,9,q _ (n.Ms.fresh (i9 _))]
 let(j,d,f,k):=I.tuple c;show call_tuple_same f #[.ref p,H,I,9,q]
def VR(K:W.Frag)(T:String)(x:V)(H:Hp):6:=match x with
 |.str _=>T="str"|.int _=>T="int"|.ref p=>(T="list"/\∃b,M3 K H p b)\/(T="tuple"/\∃o,K.lookup p\o/\o.cls=.type "tuple"/\o.dict=cK) \/
   (T="dict"/\((∃a,H p\.dK a)\/∃a,H p\.dT a))\/(T="set"/\∃S n,H p\.set S n)
 |_=>False
def qE(I:Inv X j σ H s)(r:RelV x v)(d:VR X.K T x H):s.TypeIs v T/\∀a,v=.ref a->∃k,s.heap.get? a\k/\k.dict=cK:=by
 cases x with
 |str z=>let(t,rfl):=r;cases(d);show#[Â s z t,λ_ e=>nomatch e]|int i=>let(t,rfl):=r;cases(d);show#[typeIs_int s i t,λ_ e=>nomatch e]|ref p =>
  ext r;obtain⟨rfl,u,m⟩|⟨rfl,o,hk,q,f⟩|⟨rfl,hk⟩|⟨rfl,S,n,hk⟩:=d
  .let(w,_,l,_):=I.list m;show#[l.isList.typeIs,λa e=>?_];ext e;let(o,n,e,c,f,_):=l;show#[o,e,f]
  .show#[#[o,I.O9 p o hk,q],λa e=>?_];ext e;show#[o,I.O9 _ o hk,f]
  .let z:∃o,s.heap.get? p\o/\o.ExactDict:=by
    obtain⟨g,hk⟩|⟨g,hk⟩:=hk
    .let(_,_,_,_,o,_,_,e,b,_):=I.Ms p _ hk;show#[o,e,b]
    let(_,_,_,_,o,_,_,e,b,_):=I.Ms p _ hk;show#[o,e,b]
   let(o,e,b):=z;show#[#[o,e,b.1],λa h=>?_];ext h;show#[o,e,b.2.1]
  let(o,_,_,_,e,b,_):=I.Ms p _ hk;show#[#[o,e,b.1],λa h=>?_];ext h;show#[o,e,b.2.1]
 |_=>show Vf d
def LU(K:W.Frag)(T:String)(r:V->↑V->Hp->VK->6)(to:TE):TE:=λσ H Q=>to σ H λx a=>VR K T x a/\r x [] a Q
def ZS(K:W.Frag)(T:String)(r:V->↑V->Hp->VK->6)(to:TE)(t:TA):TE:=λσ H Q=>to σ H λx a=>VR K T x a/\t σ a λb c=>r x b c Q
variable{o e:sL}{es:List sL}{to:TE}{t:TA}{name:5}{apos J':Pos}{T id:String}{r:V->List V->Hp->VK->6}
def As(d:PlainAttrs T)(slot:Slot T name id)(f:ϩ (.builtin id)=pure (.type "method_descriptor"))(g:Tv X id r)(ho:PE X o to) (i:W8 o name X.env (Oj o X.env)=Oj o X.env:=by rfl) (j:(apos.endLine==J'.line)=4:=by rfl):PE X (.Call (.Attribute o name apos) [] [] J') (LU X.K T r to):=by intro a s σ H Q I h;show ē i j (My (ho a s σ H _ I h) λv k l=>?_);let(x,m,b,c,n,p):=l;let(q,u):=qE b c n;show#[T,id,d,slot,f,q,u,SA 9 (PySem.evalArgs_none (g a k σ m x [] v [] Q b c .nil p))]
def wM(f:PlainAttrs T)(slot:Slot T name id)(g:ϩ (.builtin id)=pure (.type "method_descriptor"))(i:Tv X id r)(ho:PE X o to)(j:PA X (e::es) t) (k:W8 o name X.env (Oj o X.env)=Oj o X.env:=by rfl) (l:((QM J' (mu (e::es) X.env)).all (λx=>!x.1)&&(Xl J' (Sz [] X.env)).all (λx=>x.1.isSome)
   && gi (⇑(e::es)+⇑([]:↑V_)+(if ([]:↑V_).isEmpty then 0 else 1)<30))=4:=by rfl)
  (m:(apos.endLine==J'.line)=4:=by rfl) (hs:mu (e::es) X.env=(dt,Oj e X.env)::mu es X.env:=by rfl) (Y:(QM J' (mu es X.env)).any (·.1)=dt:=by rfl) :
  PE X (.Call (.Attribute o name apos) (e::es) [] J') (ZS X.K T r to t):=by
 intro a s σ H Q I h;show Ϩ k l m 9 (My (ho a s σ H _ I h) λv n p=>?_);let(x,q,b,c,u,w):=p;let(y,z):=qE b c u;show#[T,id,f,slot,g,y,z,?_];let d:=j J' a n σ q _ b w;rw[hs]at d ⊢;show SA (by assumption) (XJ ?_);show My d λA B ⟨C,D,G,J,N⟩=>i a B σ D x C v A Q G c J N
end
def XC(X:Cx)(id:String)(r:V->↑V->Hp->VK->6):6 :=
 ∀(a:↑(mn×Obj)) (s:nc) (σ:St) (H:Hp) (x:V) (b:↑V) (v:ki) (c:↑ki) (Q:VK),Inv X a σ H s->RelV x v->Vals b c->r x b H Q ->
  ‹X› (Zl (.builtin id) (v::c)) (EP X a σ Q) X.xe s
theorem Vals.one:∀{x}{a},Vals [x] a->∃u,a=[u]/\RelV x u|_,_,.cons r .nil=>#[_,9,r]
theorem Vals.zero:∀{a},Vals [] a->a=[]|_,.nil=>9
def Vals.dropLast(h:Vals a b):Vals a.dropLast b.dropLast:=by
 induction h with
 |nil=>show .nil|cons r t c =>
  cases t with
  |nil=>show .nil
  |cons q d=>show .cons r c
def Inv.jc{b its':↑ki}(I:Inv X a σ H s)(d:H l\.lst m) (e:s.heap.get? l\{cls:=.type "list",data:=.seq b.toArray n}) (g:f b.toArray=its'.toArray) (h:Vals c its') (i:-c<=et) :Inv X a σ (upd H l (.lst c)) {s with heap:=s.heap.update l (Oy f),toks:=o }:=by let q:=PySem.IsL.update e f;rw[g]at q;show I.write   (by rw[d];show ttt) (.inl 9) (λp u j k=>(ZR _ _ (uk j)).trans k) ⟨_,q⟩ ?_;show#[i,its',_,h,q]
def Inv.LV(I:Inv X a σ H s)(d:Vals b c)(e:-b<=et):Inv X a σ (upd H ↥s (.lst b)) {s with heap:=s.heap.push {cls:=.type "list",data:=.seq c.toArray},toks:=f } :=I.laid (λ_ _ q=>cn _ q) (i9 _) ⟨e,c,0,d,hU _ 9⟩
def Inv.fresh(I:Inv X a σ H s):H ↥s=cK:=I.Ms.fresh (i9 _)
inductive ZT(s:nc)(l:mn)(xs:↑V):6|mk (hz:⇑xs<=et) (F':↑ki) (n:Nat):Vals xs F'->⇑xs=⇑F'->s.heap.get? l\{cls:=.type "list",data:=.seq F'.toArray n}->ZT s l xs
def Inv.G7(I:Inv X a σ H s)(b:H l\.lst c):ZT s l c:=by let(z,d,n,r,e):=I.Ms l _ b;show#[z,d,n,r,-r,e]
def Au(h:n<=et):Vo n=dt:=by unfold Vo;left
noncomputable def DQ:V->↑V->Hp->VK->6:=λx b H Q=>∃l a y,x=.ref l/\b=[y]/\H l\.lst a/\-a<et/\Q .Mx (upd H l (.lst (a++[y])))
def kA:XC X "list.append" DQ:=by
 intro a s σ H x i v j Q I d f h;let(l,k,y,rfl,rfl,b,m,q):=h;ext d;let(u,rfl,g):=f.one;let(z,c,n,r,hl,e):=I.G7 b;show Ä F.slot_list_append #[_,e,9] F.entry_list_append (F.args_list_append_2 _ _) (PySem.list_append l c.toArray n u (by left)) #[e,?_];show#[.Mx,_,I.jc (its':=c++[u]) b e (by simp) (r.append (.cons g .nil)) ?_,9,q]
 grind
noncomputable def LW:V->↑V->Hp->VK->6:=λx b H Q=>∃l a y,x=.ref l/\b=[]/\H l\.lst a/\a[-a - 1]?\y/\Q y (upd H l (.lst a.dropLast))
def Av:XC X "list.pop" LW:=by
 intro c s σ H x m v o Q I f g h;let(l,p,y,rfl,rfl,d,i,q):=h;ext f;let a:=g.zero;subst a;let(z,b,n,r,hl,e):=I.G7 d;let(u,t,j):=r.get i;let k:b.toArray[b.toArray.size - 1]?\u:=by left
 show Ä F.slot_list_pop #[_,e,9] F.entry_list_pop (F.args_list_pop_1 _) (MeetsSeq.list_pop_last l b.toArray n u k (by left)) #[e,?_];show#[y,_,I.jc  d e ?_ r.dropLast ?_,j,q]
 .simp
 rw[List.length_dropLast];lia
section
set_option maxRecDepth 100000 in
end
end L2
namespace ZU
open PySem PySem.W PySem.Calls PyProof.Rows
def lW:∀c d,WellAll P h d (c.map WData.int)->ϵ d c:=by
 intro c;induction c with
 |nil=>intro d w;ext w;show .nil|cons n c e =>
  intro d w;cases w with
  |cons a b=>ext a;show .cons _ _ (e _ b)
def yG{l:VB}(j:l.most\n) (g:l.row.toRowW.claim.pre args=4) (k:WellAll P h vals args) :∃a i b,vals=[oa a]/\args=[WData.list (b.map WData.int)]/\h.get? a\{cls:=.type "list",data:=.seq i.toArray}/\ϵ i b/\-b<=n:=by
 let f:WShape.hasAll [] args _=4:=(pre_splitW g).1;let m:=(pre_splitW g).2;let(d,r,rfl,o,p):=hasAllW_cons f;obtain rfl:=hasAllW_nil p;let(t,rfl,q):=hasW_list o;let(b,rfl):=items_int q;let c:-b<=n:=by
  let e:=by let e:=(holds_andW m).1;rw[j]at e;show e
  let u:=condW_of e (w_not (w_lt w_lit (w_len_list (w_arg 9))));left
 cases k with
 |cons w1 w2 =>
  ext w2;cases w1 with
  |list ho s=>show#[_,_,b,9,9,ho,lW b _ s,c]
def yH(l:VB)(args):l.row.toRowW.claim.post args (.bool 4) args=4 :=
 postW_of
  (show WShape.has [] _ _=4 by rfl)
  (w_eq_bool (w_res 9) w_lit) 9
def sy{l:VB} (z:l.most\n) (A:d.params.defaults=[]) (Zl:∀w t b k u i o v m c a h p,
   Ground q e [] B w t k u b.heap->C w b.heap ->
   b.heap.get? i\o->o.data=.func (docDef d.name d.params d.body d.scope v m c)->b.heap.CodeRec m d.name->k d.name\.ref i ->
   b.heap.get? a\{cls:=.type "list",data:=.seq h.toArray}->ϵ h p->-p<=n->b.gens=#v[] ->
   æ (il l.prog w) ģ (.call (.ref i) #[[.ref a],[]]) (λr s=>r=.ok (.ret (.bool 4))/\OldK b.heap s.heap/\s.os=b.os/\Ĉ s.gens) b) :
  WalkO q e B C l.row.toRowW d [] (λf h=>PySem.call f h):=by
 intro w t b k u G Y i o v m c D kV ho H I x J N args vals as Q y VS T ab;obtain rfl:D=.none:=Dflts.none x A;obtain rfl:kV=.none:=Dflts.noKw x;let(a,h,p,rfl,rfl,Sn,g,j):=yG z Q T;show enter_call (ó (Zl w t b k u i o v m c a h p G Y ho (fd_plain H) I J Sn g j N) λr s hq=>?_);let(rfl,h2,h3,h4):=hq;show#[.inl #[_,_,[],9,λ_=>9,.bool 4,yH l _,λ_=>#[abq,λ_ hm=>(nomatch hm)]],h2,h3,h4]
end ZU
namespace L2
open PySem PySem.Spec PyProof.Rows
theorem pC:∀{a}{b},ϵ a b->Vals (b.map V.int) a|_,_,.nil=>.nil|_,_,.cons n t h=>.cons #[t,9] (pC h)
def G8(H:Hp):6:=∀b,H b=cK\/∃o a,H b\.N0 o (.lst a)
def Aw{K} (I:K.In c.heap) (J:c.heap.Ns tv y) (i:c.heap.Ns aaQ N) (ZV:∀x:5,x≠"__name__"->N x=Pd x) (XD:c.heap.NoLimit) (hg:c.gens=#v[]) (G:c.heap.get? a\{cls:=.type "list",data:=.seq l.toArray}) (Q:ϵ l A) (hl:-A<=et) (hr:dF k ģ) (F:∀f:UD,K.In f->f.Ns tv y->gL P w K y f CX k T fd [x] sp) (Ux:∀s u,ϲ s fd #[[u],[]] [(x,u)]) (N7:∀H:Hp,G8 H->M3 K H a (A.map V.int)->sp [.ref a] H (λv _=>v=.bl 4) λ_ _ _=>False) (XE:∀H e g,CX [] H c (λ_ _ _=>False) e g->False) :
  æ (il P w) ģ (.call (.ref T) #[[.ref a],[]]) (λr g=>r=.ok (.ret (.bool 4))/\OldK c.heap g.heap/\g.os=c.os/\Ĉ g.gens) c:=by
 let Y:=pC Q;let XF:=-Q;let j:∀H:Hp,G8 H->M3 K H a (A.map V.int)->Nw P w H c.heap->(∀b,H b≠cK->b=a)->(H a≠cK->K.lookup a=cK) ->
   æ (il P w) ģ (.call (.ref T) #[[.ref a],[]]) (λr g=>r=.ok (.ret (.bool 4))/\OldK c.heap g.heap/\g.os=c.os/\Ĉ g.gens) c:=by
  intro H hO hS Ms hA hK;let mE:∀{b:mn} {o:Obj},c.heap.get? b\o->H b=cK->(qm c.heap H).get? b\o:=λe n=>zY e n;let Us:∀{b:mn} {o:Obj} {B:Array DictEntry} {C:8},c.heap.get? b\o->o.data=.dict B C->H b=cK:=λ{b o B C} e d=>by grind
  let D:∀{b:mn} {m:5->Option ki},c.heap.Ns b m->(qm c.heap H).Ns b m:=λ{b m} ⟨o,B,C,e,d,r⟩=>#[o,B,C,mE e (Us e d),d,r]
  let ZW:K.In (qm c.heap H):=λb o e=>mE (I b o e) (by grind)
  let hM:Mod K y (qm c.heap H):=#[ZW,D J,#[N,D i,ZV],let ⟨mc,h1,h2⟩:=XD;⟨mc,D h1,h2⟩]
  let e0:uZ P w K y (qm c.heap H) ģ [] c H:=#[9,hM,λb o e=>Dw e,Ď (yu _ _),ttt,λb i=>absurd (show b∈([]:↑mn) from i) (by simp),Ms,.of_eq hg]
  show ó ((F _ ZW (D J)).run ģ [] c H #[[.ref a],[]] [.ref a] [.ref a] _ _ hr e0 (Ux c (.ref a)) (.cons 9 .nil) (N7 H hO hS)) λr g h=>?_;cases r with
  |error e=>show(XE H e g h).elim|ok fl =>
   cases fl with
   |ret u =>
    let(v,H',os,p,un,XG,r',q):=h;let q':v=.bl 4:=q;subst q';obtain rfl:u=Ā 4:=r';show#[9,OldK.of_keep λb o e=>?_,os,p];cases q:H b with
    |none=>show un.keep b o e q (by intro z;show absurd (show b∈([]:↑mn) from z) (by simp)) (by simp)
    |some u =>
     obtain z|⟨ob,xs,z⟩:=hO b
     .rw[q]at z;ext z
     let z2:=un.Oo b ob _ z;let(e1,_):=Ms b _ z;let(e2,_):=XG b _ z2;rw[e]at e1;ext e1;show e2
   |_=>show Vf h
 cases hk:K.lookup a with
 |some o=>let e:=I a o hk;rw[G]at e;ext e;show j (λ_=>cK) (λ_=>.inl 9) (.inr #[_,l.toArray,_,hk,9,9,9,by rw[qv,XF];show hl,by exists Y]) (λb u z=>by let t:(cK:Option HO)\u:=z;ext t) (λb z=>absurd 9 z) λz=>absurd 9 z|none =>
  show j (λb=>if b=a then bD (.N0 {cls:=.type "list",data:=.seq l.toArray} (.lst (A.map V.int))) else cK) (λb=>?_) (.inl (.inr #[{cls:=.type "list",data:=.seq l.toArray},if_pos 9])) (λb u z=>?_) (λb z=>?_) λ_=>hk
  .by_cases i:b=a
   .show .inr #[_,_,if_pos i]
   show .inl (if_neg i)
  .by_cases i:b=a
   .let t:=(if_pos i).symm.trans z;ext t;subst i;show#[G,by rw[eu];show hl,l,_,Y,G]
   let t:=(if_neg i).symm.trans z;ext t
  left
def DR{l:W.OpenLaw}{K:ŏ->W.Frag}{CX:Q2->Sh}{A:Q2->Sp} (D:l.most\n) (I:n<=et) (J:d.params.defaults=[]) (N:dF k ģ) (Q:∀w h,YP w h->(K w.params).In h) (F:∀w m p h,(K w.params).In h->h.Ns tv m->m d.name\.ref p ->
   ∃t,(∀s u,ϲ s t #[[u],[]] [(x,u)]) /\
    ∀c,(K w.params).In c->c.Ns tv m->gL l.prog w (K w.params) m c (CX w) k p t [x] (A w))
  (N7:∀w H a (r:↑Int),-r<=n->G8 H->M3 (K w.params) H a (r.map V.int)->A w [.ref a] H (λv _=>v=.bl 4) λ_ _ _=>False)
  (XE:∀w H s e y,CX w [] H s (λ_ _ _=>False) e y->False) :
  W.WalkO q z XP YP l.row.toRowW d [] (λf B=>PySem.call f B):=by
 show ZU.sy D J λw s₀ s₁ m mb p o pm cd ab a B r G Y ho hd MN Uw Sn j i hg=>?_;let C:=Q w _ Y;let(t,hb,hF):=F w m p _ C G.T.g Uw;show Aw C G.T.g G.T.b G.T.builtins G.T.nolimit hg Sn j (va i I) N hF hb (λH hO hS=>N7 w H a r i hO hS) λH e y=>XE w H s₁ e y
abbrev Tz:Sh:=λ_ _ _ _ _ _=>False
abbrev E0:XK:=λ_ _ _=>False
def JU:Passes Tz X E0:=λ_ _ _ _ _ _ _ h=>h.elim
inductive JV(K:W.Frag)(x qual:5)(st:VU)(f:mn)(fd:ę):6|mk (oc:ki) (od:Option mn) (kV doc pm:ki) (an:Option mn) (NF ct:ki) (Sj:Array (Option ki)):fd=W.fnOf x qual (fU st) (cC st) (aO st) .none kV doc pm an NF ct->K.lookup f\⟨oc,od,.func fd,Sj⟩->W.codeIn K NF qual=cb->JV K x qual st f fd
structure Q9(K:W.Frag)(x qual:5)(st:VU)(f:mn)(fd:ę):6 where
 ex:JV K x qual st f fd
 kp:W.keepIn K (.ref f)=4
section
variable{P:B'}{w:Q2}{K:PySem.W.Frag}{mg:5->Option ki}{base:UD}
def Q9.ok{st}(F:Q9 K x b st f j)(S:d_ N g (aO st))(e:∀c H Q E,i c H Q E->-c=-g) (l:∀d A a s H c Q E,dF k (A.deeper (ĵ b (aO st) ↥s f d))->i c H Q E ->
   ∃t,ND (su Tz P w K mg base N b (aO st) f d A a s H E).VJ (cC st) t/\t {nx:=λ_ m=>Q .Mx m,rt:=Q} (start N c) H):gL P w K mg base Tz (k+1) f j g i:=by
 let(u,v,kV,n,y,z,d,B,C,rfl,lk,o):=F.ex;show An lk o S e λA a s H c Q E p r=>?_;let(t,h,q):=l d A _ s H c Q E p r;show#[t,h.VJ,q]
def G9{st}{kV b e d g}(l:K.lookup f\#[i,j,.func (W.fnOf x a (fU st) (cC st) (aO st) .none kV b e h d g),m]) (c:W.codeIn K d a=4) (k:W.keepIn K (.ref f)=4):Q9 K x a st f (W.fnOf x a (fU st) (cC st) (aO st) .none kV b e h d g):=#[#[i,j,kV,b,e,h,d,g,m,9,l,c],k]
end
def yI(H a:Hp):6:=∀b o,H b\o->a b\o
section
variable{κ:Type}[DecidableEq κ]
def eU(a:↑(κ×V))(k:κ):Option V:=(a.find? λkv=>gi (kv.1=k)).map (·.2)
def putK(a:↑(κ×V))(k:κ)(v:V):↑(κ×V) :=if (a.any λkv=>gi (kv.1=k))=4 then a.map (λkv=>if kv.1=k then(kv.1,v) else kv) else a++[(k,v)]
def fH{p}{k:κ}(e:p.1=k):eU (p::r) k\p.2:=by simp[eU,e]
def fI{p}{k:κ}(e:¬p.1=k):eU (p::r) k=eU r k:=by simp[eU,e]
theorem jF(k:κ):∀a,(a.any λkv=>gi (kv.1=k))=(eU a k).isSome
 |[]=>9|p::r=>by
  rw[aaX];by_cases e:p.1=k
  .simp only[fH e,decide_eq_true e,Bool.true_or,Option.isSome_some]
  rw[fI e,decide_eq_false e];show jF k r
def lr(a)(k:κ)(v:V):-putK a k v<=-a+1:=by
 unfold putK
 grind
def Ax{k:κ}(v)(h:eU a k=cK):putK a k v=a++[(k,v)]:=by unfold putK;rw[jF,h];rfl
def gK.fJ(r:gK o u):o.isSome=u.isSome:=by
 cases o with
 |none=>cases u with
  |none=>rfl
  |some _=>show(r).elim
 |some _=>cases u with
  |none=>show(r).elim
  |some _=>rfl
def gK.getD(r:gK o u)(a:RelV d b):RelV (o.getD d) (u.getD b):=by
 cases o with
 |none=>cases u with
  |none=>show a
  |some _=>show(r).elim
 |some _=>cases u with
  |none=>show(r).elim
  |some _=>show r
def KV.val(r:KV a g)(k:κ):gK (eU a k) (Ξ g k):=by
 induction r with
 |nil=>show ą|@cons p q l c h t i =>
  let(f,j):=h;by_cases e:p.1=k
  .let d:=f.symm.trans e;let b:Ξ (q::c) k\q.2:=by simp[Ξ,d]
   rw[fH e,b];show j
  let d:¬q.1=k:=λz=>e (f.trans z);let b:Ξ (q::c) k=Ξ c k:=by simp[Ξ,d]
  rw[fI e,b];show i
def KV.any(r:KV a b)(k:κ):(a.any λkv=>gi (kv.1=k))=b.any λkv=>gi (kv.1=k):=by induction r with|nil=>rfl|cons h t c=>left
def KV.G_(r:KV b c)(k:κ)(d:RelV y u):KV (b.map λkv=>if kv.1=k then(kv.1,y) else kv) (c.map λkv=>if kv.1=k then(kv.1,u) else kv):=by
 unfold KV at r ⊢;induction r with
 |nil=>show .nil|@cons p q i j h t f =>
  rw[k9,k9];show .cons ?_ f;let(a,g):=h;by_cases e:p.1=k
  .rw[if_pos e,if_pos (a.symm.trans e)];show#[a,d]
  rw[if_neg e,if_neg (λz=>e (a.trans z))];show#[a,g]
def KV.put(r:KV a b)(k:κ)(c:RelV y u):KV (putK a k y) (stored b k u):=by
 unfold putK stored;rw[r.any k];by_cases e:(b.any λkv=>gi (kv.1=k))=4
 .rw[if_pos e,if_pos e];show r.G_ k c
 rw[if_neg e,if_neg e];show Paired.snoc r #[9,c]
def KV.length(r:KV a b):-a=-b:=Paired.length r
end
def pD(r:RelV (kV k) u):(a_ P w).is k u=4:=by cases k with|inl i=>let(t,e):=(r);subst e;show sj P w i t|inr x=>let(t,e):=(r);subst e;show sm P w x t
theorem pE:∀{a}{b},Vals (a.map kV) b->ItemsAre (a_ P w) a b
 |[],_,r=>by ext r;show .nil|k::a,_,r=>by
  cases r with
  |cons h t=>show .cons (pD h) (pE t)
abbrev KT(H:Hp):↑(↑Key×V)->↑(↑Key×mn×ki)->6:=Paired λp q=>p.1=q.1/\H q.2.1\.tup (p.1.map kV)/\RelV p.2 q.2.2
def KT.val(r:KT H a g)(k):gK (eU a k) ((Ϟ g k).map (·.2)):=by
 induction r with
 |nil=>show ą|@cons p q l c h t i =>
  let(f,_,j):=h;by_cases e:p.1=k
  .let d:=f.symm.trans e;let b:Ϟ (q::c) k\q.2:=by simp[Ϟ,d]
   rw[fH e,b];show j
  let d:¬q.1=k:=λz=>e (f.trans z);let b:Ϟ (q::c) k=Ϟ c k:=by simp[Ϟ,d]
  rw[fI e,b];show i
def KT.G_(r:KT H b d)(k)(f:RelV y u):KT H (b.map λkv=>if kv.1=k then(kv.1,y) else kv) (d.map (putAt k u)):=by
 induction r with
 |nil=>show .nil|@cons p q j l h t g =>
  rw[k9,k9];show .cons ?_ g;let(a,c,i):=h;unfold putAt;by_cases e:p.1=k
  .rw[if_pos e,if_pos (a.symm.trans e)];show#[a,c,f]
  rw[if_neg e,if_neg (λz=>e (a.trans z))];show#[a,c,i]
def KT.put(r:KT H a c)(k)(f:H b\.tup (k.map kV))(d:RelV y u):KT H (putK a k y) (storedH c k b u):=by
 let e:(a.any λkv=>gi (kv.1=k))=(Ϟ c k).isSome:=by rw[jF,(r.val k).fJ,Ĳ]
 unfold putK storedH;rw[e];by_cases q:(Ϟ c k).isSome=4
 .rw[if_pos q,if_pos q];show r.G_ k d
 rw[if_neg q,if_neg q];show Paired.snoc r #[9,f,d]
def KT.keeps(r:KT H a d)(e:∀b c,H b\.tup c->f b\.tup c):KT f a d :=Paired.GG r λ_ _ z=>#[z.1,e _ _ z.2.1,z.2.2]
def F2(ok:Nw P w H h)(e:Rd H a u):bX P w H h a u:=e.ok ok
def mW(ok:Nw P w H h)(e:Rd H a (.dK b)):-b<=et/\(a==Xx)=dt/\∃c,KV b c/\h.DictOf (a_ P w) a c :=F2 ok e
def F3(ok:Nw P w H h)(e:H a\.dK b):-b<=et/\(a==Xx)=dt/\∃c,KV b c/\h.DictOf (a_ P w) a c:=mW ok (.inl e)
def kB(ok:Nw P w H h)(e:H a\.tup (b.map kV)):(ū (a_ P w)).is h b a:=by
 let(_,g,r,o,c,d,n,f):=(ok a _ e)
 show#[o,_,n,c,d,f,by exists pE r]
def mX(ok:Nw P w H h)(e:Rd H a (.dT b)):-b<=et/\(a==Xx)=dt /\ ∃c,KT H b c/\h.DictOfH (ū (a_ P w)) a c:=by
 let(z,y,c,r,o,d,f,g,i,j,k,n):=(F2 ok e)
 show#[z,y,c,r,o,d,f,g,i,j,k,λx hx=>?_,n];let all:∀{l:↑_} {m:↑_},KT H l m->∀x∈m,(ū (a_ P w)).is h x.1 x.2.1:=by
  intro l m q;induction q with
  |nil=>simp|@cons p q u v A t s =>
   intro x hx;obtain e|hx:=gs.mp hx
   .show kB ok (by left)
   show s x hx
 show all r x hx
def JW(ok:Nw P w H h)(e:H a\.dT b):-b<=et/\(a==Xx)=dt /\ ∃c,KT H b c/\h.DictOfH (ū (a_ P w)) a c:=mX ok (.inl e)
def gQ(H:Hp)(a:mn)(y:V)(r:Option V):6 :=(∃c k,Rd H a (.dK c)/\y=kV k/\r=eU c k)\/∃c k b,Rd H a (.dT c)/\y=.ref b/\H b\.tup (k.map kV)/\r=eU c k
def yJ(H:Hp)(a:mn)(y v:V)(d:Hp):6 :=
 (∃c k,H a\.dK c/\y=kV k/\-c<et/\d=upd H a (.dK (putK c k v))) \/
 ∃c k b,H a\.dT c/\y=.ref b/\H b\.tup (k.map kV)/\-c<et/\d=upd H a (.dT (putK c k v))
def gQ.k{H}{a}{b}{k}(e:H a\.dK b):gQ H a (kV k) (eU b k):=.inl #[b,k,.inl e,9,9]
def yJ.k{H}{a}{b}{k}{v}(e:H a\.dK b)(hl:-b<et):yJ H a (kV k) v (upd H a (.dK (putK b k v))):=.inl #[b,k,e,9,hl,9]
def Inv.big(I:Inv X a σ H s):Xx<↥s:=by let h:=(I.mod.glob.keeps I.bk).lt;show Ń (by decide) h
def yK(r:A.units+1<R0)(I:Inv X f σ H s)(g:gQ H a y (bD v))(o:RelV y u)(h:∀d q,Inv X f σ H q->RelV v d->Q d q):g8 (il X.prog X.w) A (ò (.ref a) u) Q E s:=by
 obtain⟨i,k,e,j,l⟩|⟨i,k,b,e,j,t,l⟩:=g
 .subst j;let(z,x,D,c,dd):=mW I.Ms e;let(d,m,n):=gK.some_of   (by rw[l];show c.val k);show wpAny_getItem_of (pD o) dd.mapOf m (h d _ (I.tok _) n)
 subst j;cases(o);let(z,x,G,c,dd):=mX I.Ms e;let(d,m,n):=gK.some_of   (by rw[l];show c.val k);let(p,B,C):=i7.mp m;show wpAny_getItem_heap (Ã r) (kB I.Ms t) dd B ?_;rw[C];show h d _ (I.tok _) n
def JX(p:A.units+1<R0)(I:Inv X d σ H s)(g:gQ H a y o)(m:RelV y u)(h:∀n,Inv X d σ H n->Q (.bool o.isSome) n):g8 (il X.prog X.w) A (XM .In u (.ref a)) Q E s:=by
 obtain⟨f,k,e,i,l⟩|⟨f,k,b,e,i,r,l⟩:=g
 .subst i;let(z,j,t,c,dd):=mW I.Ms e;show wpAny_in_of (pD m) j dd.mapOf ?_;rw[<-(c.val k).fJ,<-l];show h _ (I.tok _)
 subst i;cases(m);let(z,j,v,c,dd):=mX I.Ms e;show wpAny_in_heap (Ã p) (kB I.Ms r) j dd ?_;let q:=(c.val k).fJ;rw[Ĳ]at q;rw[<-q,<-l];show h _ (I.tok _)
def wN(p:A.units+1<R0)(I:Inv X d σ H s)(g:gQ H a y o)(m:RelV y u)(h:∀n,Inv X d σ H n->Q (.bool (!o.isSome)) n):g8 (il X.prog X.w) A (XM .NotIn u (.ref a)) Q E s:=by
 obtain⟨f,k,e,i,l⟩|⟨f,k,b,e,i,r,l⟩:=g
 .subst i;let(z,j,t,c,dd):=mW I.Ms e;show wpAny_notIn_of (pD m) j dd.mapOf ?_;rw[<-(c.val k).fJ,<-l];show h _ (I.tok _)
 subst i;cases(m);let(z,j,v,c,dd):=mX I.Ms e;show wpAny_notIn_heap (Ã p) (kB I.Ms r) j dd ?_;let q:=(c.val k).fJ;rw[Ĳ]at q;rw[<-q,<-l];show h _ (I.tok _)
def wO(I:Inv X c σ H s)(g:Ue (H a))(hs:tr a s.heap d)(h:∃q,d.get? a\q)(e:bX X.prog X.w (upd H a f) d a f):Inv X c σ (upd H a f) {s with heap:=d,toks:=j } :=I.write   g (.inl 9) (λb q i z=>(hs.2 b i).trans z) h e
def Ha(z:-b<=et)(e:(a==Xx)=dt)(c:KV b d)(dd:f.DictOf (a_ P w) a d):bX P w g f a (.dK b):=#[z,e,d,c,dd]
def yL(N:A.units+1<R0)(I:Inv X i σ H s)(g:yJ H a y v T)(t:RelV y u)(x:RelV v r)(h:∀B,Inv X i σ T B->Q () B):g8 (il X.prog X.w) A (Ġ (.ref a) u r) Q E s:=by
 obtain⟨d,k,e,n,l,o⟩|⟨d,k,b,e,n,C,l,o⟩:=g
 .subst n o;let(z,p,Y,f,dd):=F3 I.Ms e;let D:-Y<=et:=by rw[<-⇑f];show z
  let hl:-putK d k v<=et:=by let:=lr d k v;lia
  show wpAny_setItem_pairs (hsz:=D) (pD t) dd λG j hs=>h _ ?_;let he:∃q,G.get? a\q:=let ⟨q,_,_,m,_⟩:=j;⟨q,m⟩;show wO I (by rw[e];show ą) hs he (Ha hl p (f.put k x) j)
 subst n o;cases(t);let(z,p,xs,f,dd):=JW I.Ms e;let D:-xs<=et:=by rw[<-Paired.length f];show z
 let hl:-putK d k v<=et:=by let:=lr d k v;lia
 show wpAny_setItem_heap  (Ã N) (kB I.Ms C) dd λG j hs=>h _ ?_;let(q,es,ep,m,h2,h3,h4,_,h5):=j;show wO I (by rw[e];show ą) hs #[q,m] #[hl,p,_,(f.put k C x).keeps λc ys J=>?_,q,es,ep,m,h2,h3,h4,h5];rw[aj (Js J e (λz=>nomatch z))];show J
def Hb(i:sL):6:=∀a b,ź i dt a b=operate [a,b] (ò a b)
def DS{T id} (hl:aaP (.type T) "__getitem__"=pure (bD (.builtin id))) (hs:Hb a) (h:g8 (il prog w) A (Oj b c) (λo g=>g8 (il prog w) A (Oj a c) (λi e=>e.TypeIs o T/\g8 (il prog w) A (ò o i) Q E e) E g) E s) :g8 (il prog w) A (Oj (.Subscript b a k) c) Q E s:=by
 show aaU (Ox h (λo g l=>Ox l (λi e f=>?_) λ_ _ x=>x) λ_ _ x=>x);let(m,f):=f;show b6 ?_;show b6 (XB m hl ?_);let d:g8 (il prog w) A (ź a dt o i) (λr j=>g8 (il prog w) A (letTemporaryGo b o r >>= λ_=>pure r) Q E j) E e:=by rw[hs o i];show wpAny_operating (Ox f (λr j n=>b6 (wpAny_letTemporaryGo (cL n))) λ_ _ x=>x)
 first
  |show cL (b6 d)|show b6 _|show b6 d
def sA(I:Inv X d σ H s)(g:gQ H a y o):s.TypeIs (.ref a) "dict":=by
 obtain⟨c,k,e,_,_⟩|⟨c,k,b,e,_,_,_⟩:=g
 .let(_,_,f,_,dd):=mW I.Ms e;show dd.typeIs
 let(_,_,h,_,dd):=mX I.Ms e;show dd.typeIs
def JY(c d:TE):TE:=λσ H Q=>c σ H λx e=>d σ e λy b=>∃a v,x=.ref a/\gQ b a y (bD v)/\Q v b
def LX(c d:TE):TE:=λσ H Q=>c σ H λy e=>d σ e λx b=>∃a o,x=.ref a/\gQ b a y o/\Q (.bl o.isSome) b
def DT(c d:TE):TE:=λσ H Q=>c σ H λy e=>d σ e λx b=>∃a o,x=.ref a/\gQ b a y o/\Q (.bl (!o.isSome)) b
def DU(d:X.A.units+1<R0)(ho:PE X o e)(f:PE X i j)(hs:Hb i):PE X (.Subscript o i k) (JY e j):=by intro b s σ H Q I h;show DS F.slot_dict_getitem.lookup hs (My (ho b s σ H _ I h) λu l ⟨x,m,n,p,q⟩=>My (f b l σ m _ n q) λG J r=>?_);let(y,t,c,w,a,v,z,g,B):=r;subst z;obtain rfl:u=oa a:=p;show#[sA c g,yK d c g w λN T C D=>#[v,t,C,D,B]]
def Hc(c:X.A.units+1<R0)(d:PE X i e)(ho:PE X o f):PC X .In i o (LX e f):=by intro b s σ H Q I h;show My (d b s σ H _ I h) λB j ⟨y,k,l,m,n⟩=>My (ho b j σ k _ l n) λu C p=>?_;let(x,q,r,t,a,D,v,g,w):=p;subst v;obtain rfl:u=oa a:=t;show JX c r g m λG z=>#[.bl _,q,z,9,w]
def yM(c:X.A.units+1<R0)(d:PE X i e)(ho:PE X o f):PC X .NotIn i o (DT e f):=by intro b s σ H Q I h;show My (d b s σ H _ I h) λB j ⟨y,k,l,m,n⟩=>My (ho b j σ k _ l n) λu C p=>?_;let(x,q,r,t,a,D,v,g,w):=p;subst v;obtain rfl:u=oa a:=t;show wN c r g m λG z=>#[.bl _,q,z,9,w]
def Ay(h:UD)(a:Xx<h.objs.size):bX P w H (h.push {cls:=.type "dict",data:=.dict #v[]}) h.objs.size (.dK []) :=#[ri _,beq_eq_false_iff_ne.mpr (uk (lx a)),[],.nil,Heap.DictOf.new h]
def Hd:TE:=λ_ H Q=>∀p,H p=cK->Q (.ref p) (upd H p (.dK []))
def sC:PE X (.Dict [] [] b) Hd:=λa s σ H Q I h=>wpAny_Dict_empty #[.ref _,_,I.laid    (λ_ _ q=>cn _ q) (i9 _) (Ay _ I.big),9,h _ (I.Ms.fresh (i9 _))]
structure M1(X:Cx)(o:sL)(m:5)(apos:Pos)(e:sL)(J':Pos):6 where
 base:W8 o m X.env (Oj o X.env)=Oj o X.env
 NG:((QM J' (mu [e] X.env)).all (λx=>!x.1)&&(Xl J' (Sz [] X.env)).all (λx=>x.1.isSome)
  && gi (⇑([e]:↑sL)+⇑([]:↑V_)+(if ([]:↑V_).isEmpty then 0 else 1)<30))=4
 line:(apos.endLine==J'.line)=4
 trees:QM J' (mu [e] X.env)=[(dt,Oj e X.env)]
structure M2(X:Cx)(o:sL)(m:5)(apos:Pos)(e f:sL)(J':Pos):6 where
 base:W8 o m X.env (Oj o X.env)=Oj o X.env
 NG:((QM J' (mu [e,f] X.env)).all (λx=>!x.1)&&(Xl J' (Sz [] X.env)).all (λx=>x.1.isSome)
  && gi (⇑([e,f]:↑sL)+⇑([]:↑V_)+(if ([]:↑V_).isEmpty then 0 else 1)<30))=4
 line:(apos.endLine==J'.line)=4
 trees:QM J' (mu [e,f] X.env)=[(dt,Oj e X.env),(dt,Oj f X.env)]
def ZX(H:Hp)(a:mn):6:=(∃b,Rd H a (.dK b))\/∃b,Rd H a (.dT b)
def He(I:Inv X j σ H s)(d:ZX H a):s.TypeIs (.ref a) "dict"/\(∀b,oa a=.ref b->∃c,s.heap.get? b\c/\c.dict=cK)/\(a==Xx)=dt:=by
 obtain⟨f,e⟩|⟨f,e⟩:=d
 .let(_,g,k,_,dd):=mW I.Ms e;show#[dd.typeIs,λb q=>?_,g];ext q;let(c,_,_,h,i,_):=dd;show#[c,h,i.2.1]
 let(_,g,l,_,dd):=mX I.Ms e;show#[dd.typeIs,λb q=>?_,g];ext q;let(c,_,_,h,i,_):=dd;show#[c,h,i.2.1]
def Hg(v:A.units+1<R0)(I:Inv X f σ H s)(g:gQ H a y o)(n:RelV y u)(p:RelV d r)(h:∀q t,Inv X f σ H t->RelV (o.getD d) q->Q q t):g8 (il X.prog X.w) A (Zl (.builtin "dict.get") [.ref a,u,r]) Q E s:=by
 obtain⟨i,k,e,j,l⟩|⟨i,k,b,e,j,x,l⟩:=g
 .subst j;let(z,m,C,c,dd):=mW I.Ms e;show Š F.slot_dict_get dd.typeIs F.entry_dict_get (F.args_dict_get_3 _ _ _) (meets_dict_get_default _ a (pD n) m r) #[_,dd.mapOf,h _ _ (I.tok _) ?_];rw[l];show(c.val k).getD p
 subst j;cases(n);let(z,m,B,c,dd):=mX I.Ms e;show Š F.slot_dict_get dd.typeIs F.entry_dict_get (F.args_dict_get_3 _ _ _) (meetsH_dict_get_default _ a b m r) #[Ã v,k,B,kB I.Ms x,dd,h _ _ (I.tok _) ?_];rw[l];show(c.val k).getD p
def Hh(d e f:TE):TE:=λσ H Q=>d σ H λx b=>∃a,x=.ref a/\ZX b a/\e σ b λy g=>f σ g λz c=>∃o,gQ c a y o/\Q (o.getD z) c
def Az(j:X.A.units+1<R0)(ho:PE X o k)(l:PE X e n)(p:PE X f q)(m:M2 X o "get" c e f r):PE X (.Call (.Attribute o "get" c) [e,f] [] r) (Hh k n q):=by
 intro b s σ H Q I h;show wpAny_Call_method m.base m.NG m.line F.plainAttrs_dict F.slot_dict_get F.type_dict_get (My (ho b s σ H _ I h) λu t v=>?_);let(x,w,i,B,a,C,d,D):=v;subst C;obtain rfl:u=oa a:=B;let(G,J,_):=He i d;show#[G,J,?_];rw[m.trees];show SA 9 (XJ (YT (My (l b t σ w _ i D) λiv N ⟨y,T,Y,ry,q2⟩=>YT (My (p b N σ T _ Y q2) λfv s3 ⟨z,H3,I3,rz,ov,g,q3⟩=>ñ ?_))))
 show Hg j I3 g ry rz λw' s4 I4 PR=>#[_,H3,I4,PR,q3]
end L2
namespace MZ
open PySem PySem.Builtin.Str PySem.StrLaws
def low(c:8):Bool:=gi (97<=c)&&gi (c<=122)
def fj(l:↑8):Bool:=gi (1<=-l)&&gi (-l<=0x8)&&l.all low
def cz(l):fj l=4 ↔1<=-l/\-l<=0x8/\∀c∈l,97<=c/\c<=122:=by simp[fj,low,and_assoc]
def jG(h:fj l=4):47∉l:=λm=>by let:=((cz l).mp h).2.2 47 m;lia
def fk{x y:5}(h:(~~~x)=(~~~y)):x=y:=by ext x;left
def u7(x)(b:(~~~x)=(hW 26).map (97+·))(c):(!(Qe x #[#v[c]] 0 ⇑x 1).isEmpty)=low c:=by
 rw[found_one];erw[low];by_cases h:97<=c/\c<=122
 .let:∃a,a<26/\97+a=c:=#[c - 97,by omega,by omega]
  left
 grind
def qG(x)(c i):At x #[#v[c]] ⇑x i↔(~~~x)[i]?\c:=subAt_one x c i
def AA(h:(~~~x)=a++c::b)(j:c∉a)(d)(hl:1<=d):∃r,Qe x #[#v[c]] 0 ⇑x d=-a::r:=by
 let f:(~~~x)[-a]?\c:=by left
 obtain⟨_,k⟩|⟨i,r,e,l,m⟩:=occ_head x ⟨#v[c]⟩ d hl
 .show absurd ((qG x c ⇑a).mpr f) (k _)
 let g:=(qG x c i).mp l;let:i=-a:=by
  obtain z|z|z:=aaf i ⇑a
  .exfalso
   rw[h,y9 z]at g;show j (rD g)
  .show z
  show absurd ((qG x c ⇑a).mpr f) (m _ z)
 left
def DV(h:(~~~x)=a++c::b)(d:c∉a):y8 x #[#v[c]]=(⟨a.toArray⟩,⟨#v[c]⟩,⟨b.toArray⟩):=by
 let(r,e):=AA h d 1 (i9 _);unfold y8;rw[e];let f:⇑(⟨#v[c]⟩:5)=1:=9;let g:-x=-a+1+ -b:=by let:=congrArg R' h;simp[Ű]at this ⊢;lia
 show Û ?_ (Û 9 ?_)
 .apply fk;rw[ύ,h];simp
 apply fk;rw[ύ,h,f,g];simp
def u9(h:c∉(~~~x)):Vc x #[#v[c]]=[x]:=by
 unfold Vc;split
 .rfl
 rw[if_pos];obtain⟨e,_⟩|⟨i,r,e,a,_⟩:=occ_head x _ (-x+1) 7
 .rw[e];rfl
 show absurd (rD ((qG x c i).mp a)) h
def sD(c)(h:c<256)(x):¬(PySem.Builtin.Str.strKind x<PySem.Builtin.Str.strKind #[#v[c]]):=by
 let e:PySem.Builtin.Str.strKind ⟨#v[c]⟩=1:=by simp[PySem.Builtin.Str.strKind,h]
 rw[e];unfold PySem.Builtin.Str.strKind;split
 .lia
 split<;>lia
def AB(h:(~~~x)=a++c::b)(d:c∉a)(f:c<256):∃r,Vc x #[#v[c]]=⟨a.toArray⟩::r:=by
 let(r,e):=AA h d (-x+1) 7;let j:⇑(⟨#v[c]⟩:5)=1:=9;let k:-x=-a+1+ -b:=by let:=congrArg R' h;simp[Ű]at this ⊢;lia
 unfold Vc;rw[if_neg (by
  have g:¬(⇑x<⇑(⟨#v[c]⟩:Str)):=by left
  have i:=sD c f x;simp[g,i]),e]
 show#[_,congrArg (·::_) ?_];apply fk;rw[ύ,h];simp
def jd(i:Int):5:=è (toString i)
def F4:5:=#[#v[47]]
def qH(h:a++c::b=p++c::q)(d:c∉a)(e:c∉p):a=p/\b=q:=by
 induction a generalizing p with
 |nil =>
  cases p with
  |nil=>simp at h;show#[9,h]
  |cons z p=>simp at h;show absurd (by rw[h.1];show my) e
 |cons y a f =>
  cases p with
  |nil=>simp at h;show absurd (by rw[h.1];show my) d
  |cons z p=>simp at h;let(g,i):=f h.2 (λm=>d (kj _ m)) (λm=>e (kj _ m));show#[by rw[h.1,g],i]
end MZ
namespace L2
open PySem PySem.Spec PyProof.Rows
def cS(b:Env):↑(5 ×ε)->↑(5 ×mn)->↑(5 ×mn)|[],c=>c|(n,k)::r,c=>cS b r (if k==.free then(match b.cells.lookup n with|some a=>(n,a)::c|none=>c) else c)
def fK(h:∀y∈b.names,y.2=.free->∃a,c.cells.lookup y.1\a):closureFor b c=pure (cS c b.names []):=by
 unfold closureFor;generalize b.names=d at h
 suffices H:∀e,forIn _ e (λ(x:Str×ε) r=>if (x.2==UI)=4 then do let a <-cellOf c x.1;pure (X' ((x.1,a)::r)) else pure (X' r))=pure _ by let:=H [];show congrArg (λm=>m >>= pure) this
 induction d with
 |nil=>intro e;rfl|cons y r i =>
  intro e;let(n,k):=y;rw[ß];let g:=i λy j=>h y (kj _ j);by_cases hk:(k==UI)=4
  .let(a,l):=h _ my (by exists hk);let f:=l;erw[hk,cellOf,f,cS];show g _
  simp only[hk,cS];show g _
theorem fX:∀b d,(∀n c,d.lookup n\c->env.cells.lookup n\c)->∀n c,(cS env b d).lookup n\c->env.cells.lookup n\c
 |[],_,h=>h|(m,k)::r,d,h=>by
  show fX r _ λn c e=>?_;by_cases hk:(k==UI)=4
  .rw[if_pos hk]at e;cases q:env.cells.lookup m with
   |none=>rw[q]at e;show h n c e
   |some a =>
    rw[q]at e;erw[Hf]at e;cases f:n==m with
    |true=>left
    |false=>rw[f]at e;show h n c e
  rw[if_neg hk]at e;show h n c e
theorem lu(f:d.cells.lookup n\a):∀c (e:↑(5 ×mn)),e.lookup n\a->(cS d c e).lookup n\a
 |[],_,h=>h|(m,k)::r,e,h=>by
  show lu f r _ ?_;by_cases hk:(k==UI)=4
  .rw[if_pos hk];cases q:d.cells.lookup m with
   |none=>show h
   |some b=>grind
  rw[if_neg hk];show h
theorem je(d:c.cells.lookup n\a):∀b f,(n,UI)∈b->(cS c b f).lookup n\a
 |[],_,h=>by ext h|(m,k)::r,f,h=>by
  obtain e|e:=gs.mp h
  .show lu d r _ ?_;left
  show je d r _ e
theorem cu{b:Env}:∀{a:↑(5 ×ε)}{x}{k}, (a.map λ(n,k)=>if (k==UI&&b.scope.kind==.function&&b.kindOf n==bD .cell) then(n,VA) else(n,k)).lookup x\k -> a.lookup x\k\/(k=.cell/\a.lookup x\.free)
 |[],_,_,h=>by simp at h|(n,f)::r,x,k,h=>by
  let d:=@cu b r x k;rw[k9]at h;by_cases e:(f==UI&&b.scope.kind==.function&&b.kindOf n==bD .cell)=4
  .simp only[if_pos e,Hf]at h;cases c:x==n with
   |true=>left
   |false =>
    rw[c]at h;obtain z|⟨z1,z2⟩:=d h
    .show .inl (by simp[Hf,c,z])
    show .inr #[z1,by simp[Hf,c,z2]]
  simp only[if_neg e,Hf]at h;cases c:x==n with
  |true=>left
  |false =>
   rw[c]at h;obtain z|⟨z1,z2⟩:=d h
   .show .inl (by simp[Hf,c,z])
   show .inr #[z1,by simp[Hf,c,z2]]
theorem ly:∀b d,(cS e b d).lookup x\c->(x,UI)∈b\/d.lookup x\c
 |[],_,h=>.inr h|(m,k)::r,d,h=>by
  obtain z|z:=ly r _ h
  .show .inl (kj _ z)
  by_cases hk:(k==UI)=4
  .rw[if_pos hk]at z;cases q:e.cells.lookup m with
   |none=>rw[q]at z;show .inr z
   |some a =>
    rw[q]at z;erw[Hf]at z;cases f:x==m with
    |true=>left
    |false=>rw[f]at z;show .inr z
  rw[if_neg hk]at z;show .inr z
theorem jH:∀a n b,(VQ n a b).lookup x\c->((x,VA)∈a/\@LE.le 8 _ n c)\/b.lookup x\c
 |[],_,_,h=>.inr h|(y,k)::r,n,b,h=>by
  unfold VQ at h;by_cases hk:(k==VA)=4
  .rw[if_pos hk]at h;obtain⟨z1,z2⟩|z:=jH r _ _ h
   .show .inl #[kj _ z1,Nat.le_of_succ_le z2]
   simp only[Hf]at z;cases d:x==y with
   |true=>left
   |false=>rw[d]at z;show .inr z
  rw[if_neg hk]at h;obtain⟨z1,z2⟩|z:=jH r n b h
  .show .inl #[kj _ z1,z2]
  show .inr z
theorem qI:∀a n b,(x,VA)∉a->(VQ n a b).lookup x=b.lookup x
 |[],_,_,_=>9|(y,k)::r,n,b,h=>by
  unfold VQ;let c:(x,VA)∉r:=λz=>h (kj _ z);by_cases hk:(k==VA)=4
  .rw[if_pos hk,qI r _ _ c];let d:=by exists hk
   subst d;erw[Hf];cases e:x==y with
   |true =>
    let f:=by exists e
    subst f;show absurd my h
   |false=>rfl
  rw[if_neg hk,qI r _ _ c]
theorem u_:∀b n a,(∀z d,a.lookup z\d->@ě 8 _ d n)->(∀u v d,a.lookup u\d->a.lookup v\d->u=v) -> (VQ n b a).lookup x\c->(VQ n b a).lookup y\c->x=y
 |[],_,_,_,h,f,g=>h x y c f g|(i,k)::r,n,a,hl,h,f,g=>by
  unfold VQ at f g;by_cases hk:(k==VA)=4
  .rw[if_pos hk]at f g;let lk:∀z d,W' z ((i,n)::a)\d->(z=i/\d=n)\/a.lookup z\d:=λz d e=>by
    erw[Hf]at e;cases j:z==i with
    |true=>left
    |false=>rw[j]at e;show .inr e
   show u_ r _ _ (λz d e=>?_) (λu v d l m=>?_) f g
   .rcases lk z d e with⟨_,q⟩|q
    .simp_all
    show XA (hl z d q)
   obtain⟨o,s⟩|q:=lk u d l<;>obtain⟨t,w⟩|p:=lk v d m
   .rw[o,t]
   .rw[s]at p;show absurd (hl v n p) (OH _)
   .rw[w]at q;show absurd (hl u n q) (OH _)
   show h u v d q p
  rw[if_neg hk]at f g;show u_ r n a hl h f g
theorem qJ:∀a h b,(VQ h.objs.size a b).lookup x\c->(ĺ h a).IsCell c cK\/b.lookup x\c
 |[],_,_,e=>.inr e|(y,k)::r,h,b,e=>by
  unfold VQ at e;unfold ĺ;by_cases hk:(k==VA)=4
  .rw[if_pos hk]at e ⊢;let hs:h.objs.size+1=(h.push {cls:=.type "cell",data:=.cell cK}).objs.size:=by simp
   rw[hs]at e;obtain z|z:=qJ r _ _ e
   .show .inl z
   simp only[Hf]at z;cases d:x==y with
   |true=>rw[d]at z;ext z;show .inl #[_,Ζ r _ _ _ (hU _ 9),9]
   |false=>rw[d]at z;show .inr z
  rw[if_neg hk]at e ⊢;show qJ r h b e
def Pp(X:Cx)(a:V9)(C:mn):↑(5 ×mn):=VQ (C+1) a.names (cS X.env a.names [])
def NC(X:Cx)(N:↑5)(a:V9)(C:mn)(s:nc)(H:Hp)(b:↑mn):Cx where
 prog:=X.prog
 w:=X.w
 K:=X.K
 mg:=X.mg
 base:=X.base
 A:=X.A
 N:=N
 s₀:=s
 H₀:=H
 env:=ĕ a (Pp X a C) C X.env
 outer:=X.stack
 stack:=X.stack
 ex:=b
 fn:=λx=>gi (a.names.lookup x\.cell)
 calm:=X.calm
 pn:=[]
 xe:=λ_ _=>False
def fD(D N:↑5):6:=-D=-N/\∀(i:8) (y:5),D[i]?\y->N[i]?\y\/y="."\/y=".."
def fD.refl(N):fD N N:=#[9,λ_ _ h=>.inl h]
def fD.set{D N}(h:fD D N)(j){m:5}(b:m="."\/m=".."):fD (D.set j m) N:=by
 show#[by rw[aaE];show h.1,λi y e=>?_];by_cases a:j=i
 .subst a;rw[List.getElem?_set]at e;left
 rw[ko a]at e;show h.2 i y e
structure cZ(X:Cx)(N own:↑5)(scope:V9):6 where
 kind:scope.kind=.function
 uq:∀y∈scope.names,scope.names.lookup y.1\y.2
 cl:∀y∈scope.names,y.2=.cell->y.1∈own
 nd:N.Nodup
 pre:N.take ⇑own=own
 loc:∀y∈scope.names,y.2=.local->y.1∈own\/y.1=".0"
 no0:(".0":5)∉N
 tail:fD (N.drop ⇑own) X.N
 free:∀y∈scope.names,y.2=.free->X.env.scope.names.lookup y.1\.cell\/X.env.scope.names.lookup y.1\.free
 dot:∀y∈scope.names,y.1≠"."/\y.1≠".."
def mem_lookup{a:↑(5 ×ε)}(h:a.lookup x\k):(x,k)∈a:=PySem.mem_of_lookup h
def cZ.names(S:cZ X N b a):∀y∈a.names,y.2=.local->a.names.lookup y.1\.local:=λy c e=>e▸S.uq y c
def cZ.no(S:cZ X N b a)(h:a.names.lookup x\.free):(x,VA)∉a.names:=λz=>by let:=S.uq _ z;left
def cZ.cells(S:cZ X N c b)(ok:X.Ok):∀y∈b.names,y.2=.free->∃a,X.env.cells.lookup y.1\a:=λy d e=>by
 obtain z|z:=S.free y d e
 .show ok.has y.1 (.inl z)
 show ok.has y.1 (.inr z)
def AD(S:cZ X N g f)(I:Inv X J σ H s) (G:↥s<=C) (QI:∀x c,(Pp X f C).lookup x\c->Q.heap.IsCell c cK\/(cS X.env f.names []).lookup x\c) (Qm:Q.os=s.os) (hg:Q.gens=s.gens) (t:∀b o,s.heap.get? b\o->Q.heap.get? b\o) (ns:∃m,Q.heap.Ns C m) (w:∀b∈ex,jb X J H b/\b<↥s):Inv (NC X N f C s H ex) [] (rr ⇑g cK++σ) H Q:=by
 let(m0,So):=ns;let sub:=fX (env:=X.env) f.names [] (λn c e=>by simp at e);let ab:∀x c,(cS X.env f.names []).lookup x\c->c<↥s:=λx c e=>by let(v,o,ho,_):=I.cell x c (sub x c e);show i8 ho
 let XQ:∀x c,(Pp X f C).lookup x\c->C<c\/(cS X.env f.names []).lookup x\c:=λx c e=>(jH _ _ _ e).imp (λz=>z.2) id;let Uy:∀b∈ex,b<C:=λb A=>pb (w b A).2 G;let tl:-g<=-N:=by let:=congrArg R' S.pre;grind
 show#[#[I.ok.mod,?_,I.ok.glob,I.ok.blt,G,λx y c B D=>u_ _ _ _ (λz d e=>XA (pb (ab z d e) G)) (λu v d T e2=>I.ok.inj u v d (sub u d T) (sub v d e2)) B D,λx hx=>?_,λx c h e=>?_,I.ok.hd,I.ok.frames,.inl 9,λb A=>#[lx (Uy b A),λx c e=>?_],λb o e=>I.bs b o e,?_,λb o e A=>?_,λb A=>?_,I.stack,I.wF],
  Qm,(by rw[hg];show I.bare),Un.kept t,#[m0,So,λi y v B D h3=>?_],λx c e=>?_,I.Ms.fresh G,λx c e=>?_,λp hp=>absurd (show p∈[] from hp) (by simp),I.Ms.kept t,?_]
 .change(ġ f X.env).kind=.function;show S.kind
 .
  let RC:(ġ f X.env).names.lookup x\.cell\/(ġ f X.env).names.lookup x\.free:=hx;let M5:f.names.lookup x\.cell\/f.names.lookup x\.free:=by
   obtain z|z:=RC
   .rcases cu z with q|⟨_,q⟩
    .show .inl q
    show .inr q
   obtain q|⟨q,_⟩:=cu z
   .show .inr q
   ext q
  obtain M5|M5:=M5
  .show Ys.mp (W.cellsFrom_some f.names (C+1) _ (.inl M5))
  let(a,ha):=S.cells I.ok (x,.free) (mem_lookup M5) 9;show#[a,(qI _ _ _ (S.no M5)).trans (je ha f.names [] (mem_lookup M5))]
 .let h':f.names.lookup x\.cell:=of_decide_eq_true h;obtain z|z:=XQ x c e
  .show va G (VH z)
  obtain z|z:=ly _ _ z
  .let:=S.uq _ z;rw[h']at this;ext this
  simp at z
 .rcases XQ x c e with z|z
  .show λq=>absurd (Ń (Uy b A) z) (by rw[q];show OH _)
  show(w b A).1.2.2.2.2.1 x c (sub x c z)
 .show va I.ok.Q1 I.sz
 .let(f0,f1,f2,f3,f4,f5):=(w b A).1;obtain z|z:=f3
  .show I.ok.Qk b o e z
  show absurd (pb (i8 e) (va I.ok.Q1 z)) (OH _)
 .intro N8;let(f0,f1,f2,f3,f4,f5):=(w b A).1;obtain z|z:=gs.mp (I.mL b N8)
  .show f1 z
  show f2 z
 .
  let hi:-g<=i:=by
   by_cases hi:i< -g
   .rw[y9 (by exists hi),W6]at D;split at D<;>ext D
   lia
  rw[y6 (by exists hi),Ē]at D;let ac:(N.drop ⇑g)[i - -g]?\y:=by
   rw[Rz];let e:-g+(i - -g)=i:=7
   rw[e];show B
  let TB:(ġ f X.env).names.lookup y\.local\/(ġ f X.env).names.lookup y\.cell\/(ġ f X.env).names.lookup y\.free:=h3;let RE:∀y ,y∈g->N[i]?\y->False:=λy OS B=>by
   let(j,hj,ej):=ä OS;let QJ:N[j]?\y:=by
    let T:(N.take ⇑g)[j]?\y:=by rw[S.pre,vu hj,ej]
    rw[ž hj]at T;show T
   let:=mM S.nd QJ B;lia
  let M5:f.names.lookup y\.free:=by
   obtain z|z|z:=TB
   .rcases cu z with q|⟨q,_⟩
    .exfalso
     let OS:y∈g:=by
      obtain z|z:=S.loc (y,.local) (mem_lookup q) 9
      .show z
      let z':y=".0":=z;show absurd (rD B) (by rw[z'];show S.no0)
     show RE y OS B
    ext q
   .rcases cu z with q|⟨_,q⟩
    .show(RE y (S.cl _ (mem_lookup q) 9) B).elim
    show q
   obtain q|⟨q,_⟩:=cu z
   .show q
   ext q
  let hX:X.N[i - -g]?\y:=by
   obtain e|e|e:=S.tail.2 _ _ ac
   .show e
   .show absurd e (S.dot _ (mem_lookup M5)).1
   show absurd e (S.dot _ (mem_lookup M5)).2
  let(m,hn,hl):=I.loc;let hv:X.env.scope.names.lookup y\.cell\/X.env.scope.names.lookup y\.free:=S.free (y,.free) (mem_lookup M5) 9;let(u,r,l):=hl _ y v hX D (.inr hv);show#[u,r,?_];obtain⟨k,_⟩|⟨k,c,e,z⟩:=l
  .let k':X.env.scope.names.lookup y\.local:=k;left
  let hk:(ġ f X.env).names.lookup y\.cell\/(ġ f X.env).names.lookup y\.free:=by
   obtain q|q|q:=TB
   .rcases cu q with Y|⟨Y,_⟩
    .rw[M5]at Y;ext Y
    ext Y
   .show .inl q
   show .inr q
  let(o,ho,hd):=z;show .inr #[hk,c,(qI _ _ _ (S.no M5)).trans (je e f.names [] (mem_lookup M5)),o,t c o ho,hd]
 .rcases QI x c e with z|z
  .show#[_,z]
  let(v,o,ho,hd):=I.cell x c (sub x c z);show#[v,o,t c o ho,hd]
 .rcases XQ x c e with z|z
  .show I.Ms.fresh (va G (VH z))
  show I.Nl x c (sub x c z)
 rw[ro,Ē,I.len];let e:-N=-g+ -(N.drop ⇑g):=by rw[X8];lia
 change _=-N;rw[e,S.tail.1]
def sE(I:Inv X f σ H s) (d:Inv (NC X N m C s H x) Rx σ' p r) (G:↥s<=D) (J:↥s<=C) (t:D≠C) (h:p D=cK) (Q:Vals y z) (T:r.heap.PlainList D z.toArray) (hl:-y<=et) (i:tr C r.heap Y) (w:∀b∈x,jb X f H b):Inv X f σ (upd p D (.lst y)) {r with heap:=Y }:=by
 let nC:p C=cK:=d.free;let l:∀{b} {o},s.heap.get? b\o->b≠C/\b≠D:=λe=>#[lx (pb (i8 e) J),lx (pb (i8 e) G)]
 show I.Jt  (ch:=x) d.os #[λb o e n j g=>?_,λb o e n j g=>?_,λb o e n g=>?_,λb o e g=>?_,λb A e=>?_,λb o u e=>?_,λb ps e=>?_] (λa o e=>?_) d.bare λb j=>?_
 .show(i.2 b (l e).1).trans (d.base.keep b o e n j g)
 .let(sl,q):=d.base.slot b o e n j g;show#[sl,(i.2 b (l e).1).trans q]
 .rw[aj (l e).2];show d.base.free b o e n g
 .let(o',q):=d.base.there b o e g;show#[o',(i.2 b (l e).1).trans q]
 .let q:=d.base.lY b A e;rw[aj (bT q h)];show q
 .let q:=d.base.Oo b o u e;rw[aj (bT q h)];show q
 .let(k,q):=d.base.OA b ps e;show#[k,by rw[aj (bT q h)];show q]
 .by_cases B:a=D
  .subst B;rw[ak]at e;ext e;let(n,q):=T;show#[hl,z,n,Q,(i.2 _ t).trans q]
  rw[aj B]at e;show(d.Ms a o e).ja (λc v hc q=>(i.2 c ?_).trans q) (λc q=>?_) λc A q=>?_
  .grind
  .rw[aj (bT q h)];show q
  rw[aj (bT q h)];show q
 let(f0,f1,f2,f3,f4,f5):=w b j;show#[f3,f1,f4,f5]
def qK(I:8->nc->6) (g:∀n s,I n s->g8 (il prog w) A (Ô it) (λr i=>match r with
   |none=>R (.ok .next) i|some v=>g8 (il prog w) A (Η b it v) (λ_ i=>g8 (il prog w) A (ō b a v) (λ_ t =>
     g8 (il prog w) A (forIn j 4 λc r=>if r=4 then do let ok <-isTrue c a (Oj c a);pure (X' ok) else pure (X' r)) (λok k =>
      if ok=4 then g8 (il prog w) A (Oj l a) (λx u=>g8 (il prog w) A (Zl (.builtin "list.append") [o,x]) (λ_ y=>∃m,m<n/\I m y) (Ģ (il prog w) A a λe d=>R (.error e) d) u) (Ģ (il prog w) A a λe d=>R (.error e) d) k
      else ∃m,m<n/\I m k) (Ģ (il prog w) A a λe d=>R (.error e) d) t) (Ģ (il prog w) A a λe d=>R (.error e) d) i) (Ģ (il prog w) A a λe d=>R (.error e) d) i) (Ģ (il prog w) A a λe d=>R (.error e) d) s)
  (n) (h:I n s) :
  æ (il prog w) A (.compLoop (.ListComp l [⟨b,z,j,0⟩] p D) 0 it o a) R s:=by
 show codeAny_loop 9 I (λn s G=>?_) n h;change g8 _ A _ _ _ s;show wpAny_noted ?_;rw[compTurn_list];show b6 (ψ (b6 (Ox (g n s G) (λr i B=>?_) λ_ _ f=>f)));cases r with
 |none=>show cL B|some v =>
  show b6 (Ox B (λ_ H q=>?_) λ_ _ f=>f);show b6 (Ox q (λ_ t J=>b6 (Ox J (λok k C=>?_) λ_ _ f=>f)) λ_ _ f=>f);cases ok with
  |false=>show cL #[9,C]
  |true=>show b6 (b6 (Ox C (λx u N=>b6 (Ox N (λ_ y Q=>cL (cL #[9,Q])) λ_ _ f=>f)) λ_ _ f=>f))
def QK(X:Cx)(b:↑sL)(t:TT):6 :=
 ∀(a:↑(mn×Obj)) (s:nc) (σ:St) (H:Hp) (Q:Bool->Hp->6),Inv X a σ H s->t σ H Q ->
  ‹X› (forIn b 4 λc r=>if r=4 then do let ok <-isTrue c X.env (Oj c X.env);pure (X' ok) else pure (X' r)) (TP X a σ Q) X.xe s
def LY:TT:=λ_ H Q=>Q 4 H
def qL:QK X [] LY:=λ_ _ _ H _ I h=>wpAny_tests_nil #[H,I,h]
def wQ(h:PT X c t):QK X [c] t:=λa s σ H Q I q=>wpAny_tests_one (h a s σ H Q I q)
def wR(k:8)(J:It)(g:TG)(n:TT)(o:TE)(Q:VK)(σ:St)(q:Hp):6 :=
  ∃W:8->8->↑V->Hp->6,(∃m,W 0 m [] q)/\∀i m a H,W i m a H->-a<=et /\
    ((J.stop i H/\∀p,H p=cK->Q (.ref p) (upd H p (.lst a))) \/
     (J.go i H/\∃e:↑V->Hp->6,(∀h c,e h c->∃j,j<m/\W (i+1) j h c)/\∀x c,J.VM i H x c->g x (rr k cK++σ) c λf r=>∃d:St,-d=k/\f=d++σ /\
        n f r λb l=>if b=4 then o f l λy s=>e (a++[y]) s else e a l))
def AE(k:8)(a:TI)(g:TG)(b:TT)(c:TE):TE:=λσ H Q=>a σ H λJ d=>wR k J g b c Q σ d
def AF (S:cZ X N ac f) (hc:X.calm=4) (hg:∀C s H ex,PG (NC X N f C s H ex) tg g) (hf:∀C s H ex,QK (NC X N f C s H ex) ap tt) (he:∀Y s7 σ7 H7 Q7,Inv (NC X N f C s H G) Y σ7 H7 s7->te σ7 H7 Q7->‹X› (Oj ar (ĕ f (Pp X f C) C X.env)) (EP (NC X N f C s H G) Y σ7 Q7) (Ģ (il X.prog X.w) X.A (ĕ f (Pp X f C) C X.env) λe l=>R (.error e) l) s7) (I:Inv X Y σ H s) (T:Turn X.prog X.w X.K tg J G it tn) (st:tn 0 s.heap) (f2:∀b∈G,jb X Y H b) (W:wR ⇑ac J g tt te Q σ H) (hD:@Eq 8 D ↥s) (hC:@Eq 8 C (↥s+1)) (QI:∀x c,(Pp X f C).lookup x\c->s4.heap.IsCell c cK\/(cS X.env f.names []).lookup x\c) (Qm:s4.os=s.os) (a1:s4.gens=s.gens) (ag:∀b o,s.heap.get? b\o->s4.heap.get? b\o) (ns:∃m,s4.heap.Ns C m) (pl:s4.heap.PlainList D #v[]) (as:∀s5 H5 ys t,Inv (NC X N f C s H G) [] (rr ⇑ac cK++σ) H5 s5->H5 D=cK->Vals ys t->s5.heap.PlainList D t.toArray->-ys<=et->(∀p,H5 p=cK->Q (.ref p) (upd H5 p (.lst ys)))->R (.ok .next) s5) :
  æ (il X.prog X.w) X.A (.compStart (.ListComp ar [⟨tg,aw,ap,0⟩] f a2) 0 (.ref it) (.ref D) (ĕ f (Pp X f C) C X.env)) R s4:=by
 let Sr:∀b∈G,@ě 8 _ b ↥s:=λb k=>by let(o,e,_):=T.obj 0 s.heap st b k;show i8 e
 let I4:Inv (NC X N f C s H G) [] (rr ⇑ac cK++σ) H s4:=AD S I 7 QI Qm a1 ag ns λb k=>#[f2 b k,Sr b k]
 let TC:tn 0 s4.heap:=T.keep 0 s.heap s4.heap st λb _ o e=>ag b o e;let nD:H D=cK:=I.Ms.fresh 7;let(W,(m0,w0),Ε):=W;generalize Pq:NC X N f C s H G=h at I4 as he;let eP:h.prog=X.prog:=by rw[<-Pq];rfl
 let ew:h.w=X.w:=by rw[<-Pq];rfl
 let eK:h.K=X.K:=by rw[<-Pq];rfl
 let ec:h.calm=4:=by rw[<-Pq];show hc
 let eA:h.A=X.A:=by rw[<-Pq];rfl
 let ee:h.env=ĕ f (Pp X f C) C X.env:=by rw[<-Pq];rfl
 let ZZ:h.xe=λ_ _=>False:=by rw[<-Pq];rfl
 let el:h.env.locals=C:=by rw[ee];rfl
 let TF:PG h tg g:=by rw[<-Pq];show hg _ _ _ _
 let XR:QK h ap tt:=by rw[<-Pq];show hf _ _ _ _
 let s0:h.s₀=s:=by rw[<-Pq];rfl
 let VV:h.pn=[]:=by rw[<-Pq];rfl
 let XS:∀{B:Hp} {o},(∀b∈G,B b=cK)->∀b∈G,jb h [(D,o)] B b:=λ{B o} hn b k=>by
  let ex:h.ex=G:=by rw[<-Pq];rfl
  show#[hn b k,?_,?_,.inl (by rw[ex];show k),λx c e=>?_,λp hp=>?_]
  .rw[el];let:=Sr b k;show lx (by change @ě 8 _ b C;lia)
  .let e1:h.fs=OP X.stack:=by rw[<-Pq];rfl
   rw[e1];intro z;let(f0,f1,a3,f3,f4,f5):=f2 b k;obtain q|q:=gs.mp (I.mL b z)
   .show f1 q
   show a3 q
  .let e1:h.env.cells=Pp X f C:=by rw[ee];rfl
   rw[e1]at e;obtain z|z:=jH _ _ _ e
   .grind
   show(f2 b k).2.2.2.2.1 x c (fX f.names [] (λn c e=>by simp at e) x c z)
  grind
 let XT:∀{σ':St} {B:Hp} {l} {o},Inv h [] σ' B l->B D=cK->l.heap.get? D\o->(∀v,o.data≠.cell v)->Inv h [(D,o)] σ' B l:=λ{σ' B l o} I' n e d =>
  I'.fg λp hp=>by
   let:p=(D,o):=by exists hp
   subst this;show#[e,n,?_,?_,d]
   .rw[el];show lx (by change @ě 8 _ D C;lia)
   let e1:h.fs=OP X.stack:=by rw[<-Pq];rfl
   rw[e1];intro z;let zz:D∈OP X.stack:=z;obtain q|q:=gs.mp (I.mL D zz)
   .let:=I.lt;rw[<-q]at this;show absurd this (by change ¬@ě 8 _ D ↥s;lia)
   show I.GH (a:=D) 7 q
 let start:∀l ,l=s4->æ (il X.prog X.w) X.A (.compLoop (.ListComp ar [⟨tg,aw,ap,0⟩] f a2) 0 (.ref it) (.ref D) (ĕ f (Pp X f C) C X.env)) R l:=by
  rintro l rfl;show qK (λn l=>∃i ys t B,Inv h [] (rr ⇑ac cK++σ) B l/\tn i l.heap/\(∀b∈G,B b=cK)/\B D=cK/\Vals ys t/\l.heap.PlainList D t.toArray/\W i n ys B) ?_ m0
   ⟨0,[],[],H,I4,TC,λb k=>(f2 b k).1,nD,.nil,pl,w0⟩
  rintro n s3 ⟨i,ys,t,H3,I3,M8,Uq,Z0,VW,⟨nn,a4⟩,w3⟩;let(al,Pt):=Ε i n ys H3 w3;let IP:=XT I3 Z0 a4 (λv z=>by let z':Data.seq _ _=Data.cell v:=z;ext z');obtain⟨ax,qn⟩|⟨go,NN,Z1,az⟩:=Pt
  .let d:=T.done h eP ew eK ec i _ s3 _ H3 (Ģ (il X.prog X.w) X.A (ĕ f (Pp X f C) C X.env) λe l=>R (.error e) l) IP (XS Uq) M8 ax;rw[eA]at d;show My d λr s4 XU=>?_;let(hr,I5):=XU;subst hr;let e5:=(I5.pin (D,{cls:=.type "list",data:=.seq t.toArray nn}) (by rw[VV];simp)).1;show as s4 H3 ys t (I5.fg λp hp=>by ext hp) Z0 VW ⟨nn,e5⟩ al qn
  let d:=T.item h eP ew eK ec i _ s3 _ H3 (Ģ (il X.prog X.w) X.A (ĕ f (Pp X f C) C X.env) λe l=>R (.error e) l) IP (XS Uq) M8 go;rw[eA]at d;show My d λr s4 XW=>?_;let(u,hr,h4):=XW;subst hr;show My h4 λ_ s5 XX=>?_;let(x,H5,I5,r5,y5,P9,Xp):=XX;let bk:H5 D=cK:=(I5.pin (D,{cls:=.type "list",data:=.seq t.toArray nn}) (by rw[VV];simp)).2.1;let Xq:=I5.pinned (XS Xp) (T.obj _ _ P9);let a6:=TF _ s5 _ H5 x u _ Xq r5 (az x H5 y5);rw[eP,ew,eA,ee,ZZ]at a6;show Ox a6 (λ_ s6 ⟨σ6,H6,I6,q6⟩=>?_) λ_ _ z=>Vf z;let(ow,a0,rfl,q6):=q6;let a7:=XR _ s6 _ H6 _ I6 q6;rw[eP,ew,eA,ee,ZZ]at a7;show Ox a7 (λb s7 ⟨H7,I7,q7⟩=>?_) λ_ _ z=>Vf z;let am:∀{s8} {H8:Hp} {Ot} {ab} {nn':8},Inv h [] (ow++σ) H8 s8->tn (i+1) s8.heap->(∀b∈G,H8 b=cK)->H8 D=cK->Vals Ot ab->s8.heap.PlainList D ab.toArray->(∃m',m'<n/\W (i+1) m' Ot H8) ->
    ∃m,m<n/\∃i ys t B,Inv h [] (rr ⇑ac cK++σ) B s8/\tn i s8.heap/\(∀b∈G,B b=cK)/\B D=cK/\Vals ys t/\s8.heap.PlainList D t.toArray/\W i m ys B:=λ{s8 H8 Ot ab nn'} I8 a5 a8 n8 a' bd w8=>by
   let(m',hm,w8):=w8;show#[m',hm,i+1,Ot,ab,H8,I8.weak (by simp[a0]) (λj v e=>?_),a5,a8,n8,a',bd,w8];by_cases hj:j< -ac
   .rw[y9 (by exists hj),W6]at e;split at e<;>ext e
   rw[y6 (by simpa using(Nat.not_lt.mp hj)),Ē]at e;rw[y6 ⋯,a0];show e
  let an:∀{σ':St} {H8:Hp} {s8},Inv h ([(D,{cls:=.type "list",data:=.seq t.toArray nn})]++qp G s5.heap) σ' H8 s8->s8.heap.get? D\{cls:=.type "list",data:=.seq t.toArray nn}/\H8 D=cK/\tn (i+1) s8.heap/\∀b∈G,H8 b=cK:=λ{σ' H8 s8} I8=>by let p1:=I8.pin (D,{cls:=.type "list",data:=.seq t.toArray nn}) (by rw[VV];simp);show#[p1.1,p1.2.1,T.keep _ _ _ P9 λb k o e=>(I8.pin (b,o) (tj _ (tj _ (fV k e)))).1,λb k=>?_];let(o,e,d):=T.obj _ _ P9 b k;show(I8.pin (b,o) (tj _ (tj _ (fV k e)))).2.1
  cases b with
  |false=>rw[if_neg RR]at q7 ⊢;let(p1,p2,p3,p4):=an I7;show am (nn':=0) (I7.fg λp hp=>by ext hp) p3 p4 p2 VW ⟨nn,p1⟩ (Z1 _ _ q7)|true =>
   rw[if_pos rfl]at q7 ⊢;show Ox (he _ s7 _ H7 _ I7 q7) (λy s8 ⟨yv,H8,I8,r8,q8⟩=>?_) λ_ _ z=>z;let(p1,p2,p3,p4):=an I8;let hsz:t.toArray.size<=et:=by rw[qv,<-⇑VW];show al
   show wpAny_list_append_plain (hsz:=hsz) #[nn,p1] λh9 be Z2=>?_;let bg:Inv h [] (ow++σ) H8 s8:=I8.fg λp hp=>by ext hp
   let VX:∀x c,h.env.cells.lookup x\c->c≠D:=λx c e=>by
    let e1:h.env.cells=Pp X f C:=by rw[ee];rfl
    rw[e1]at e;obtain z|z:=jH _ _ _ e
    .let:=z.2;show O6 (by change @ě 8 _ D c;lia)
    let(v,z):=I.cell x c (fX f.names [] (λn c e=>by simp at e) x c z);let:@ě 8 _ c ↥s:=z.lt;show lx (by change @ě 8 _ c D;omega)
   let I9:Inv h [] (ow++σ) H8 {s8 with heap:=h9,toks:=s8.toks}:=bg.turned (it:=D) (λb o k e=>(Z2.2 b k).trans e) p2 (by rw[el];show lx (by change @ě 8 _ D C;lia)) (.inr (by rw[s0];change @LE.le 8 _ ↥s D;lia)) VX (λp hp=>by rw[VV]at hp;ext hp);let bi:(t++[y]).toArray=t.toArray.push y:=by simp
   show am (nn':=0) (s8:={s8 with heap:=h9,toks:=s8.toks}) I9 (T.keep _ _ _ p3 λb k o e=>(Z2.2 b ?_).trans e) p4 p2 (VW.append (.cons r8 .nil)) (by rw[bi];show be) (Z1 _ _ q8);let:=Sr b k;show lx (by change @ě 8 _ b D;omega)
 show codeAny_compStart_list (start _ 9) (T.self _ _ _ _ _ TC (start _ 9))
def vb (i:Q (newEnv a ↥s c (VQ (↥s+1) a.names j) e cK .none (bD d) b) {s with heap:=ĺ (s.heap.push {cls:=.type "dict",data:=.dict #v[]}) a.names}) :g8 M A (newFunctionEnv a c j [] e cK .none (bD d) b) Q E s:=by show b6 (aan ?_);show b6 (wpAny_layCells _ (λg h f=>by rfl) _ _ _ _ ?_);rw[WJ ..];show b6 ?_;show cL (cL i)
def mY{B:ki->mn->Result->nc->6} (S:cZ X N i a) (hc:X.calm=4) (hg:∀C s H j,PG (NC X N a C s H j) G g) (hf:∀C s H j,QK (NC X N a C s H j) r tt) (he:∀C s H j,PE (NC X N a C s H j) t te) (I:Inv X d σ H s) (T:Turn X.prog X.w X.K G J Y it tn) (st:tn 0 s.heap) (f2:∀b∈Y,jb X d H b) (W:wR ⇑i J g tt te Q σ H) (u:∀D C k f l n,@Eq 8 D ↥s->@Eq 8 C (↥s+1)->Inv (NC X N a C s H Y) [] (rr ⇑i cK++σ) f k->f D=cK->Vals l n->k.heap.PlainList D n.toArray->-l<=et->(∀p,f p=cK->Q (.ref p) (upd f p (.lst l)))->B (.ref D) C (.ok .next) k) :
    ‹X› (newList []) (λm s₃=>‹X› (newFunctionEnv a X.env.globals (cS X.env a.names []) [] X.env.qual cK .none (bD X.env)) (λUz s₄=>æ (il X.prog X.w) X.A (.compStart (.ListComp t [⟨G,ab,r,0⟩] a ac) 0 (.ref it) m {Uz with scope:=ġ a X.env}) (B m Uz.locals) s₄) E s₃) E s:=by
  show Pu (vb ?_);generalize v:s.heap.push _=h;let hC:h.objs.size=↥s+1:=by rw[<-v,WJ]
  let kp:∀b o,h.get? b\o->(ĺ (h.push {cls:=.type "dict",data:=.dict #v[]}) a.names).get? b\o:=λb o e=>Ζ _ _ b o (cn _ e);let y:=λb o e=>kp b o (v▸cn _ e);let Q_:(ĺ _ _).PlainList _ #v[]:=#[_,kp _ _ (v▸hU _ 9)]
  let QI:∀x c,(Pp X a _).lookup x\c->(ĺ (h.push {cls:=.type "dict",data:=.dict #v[]}) _).IsCell c cK\/(cS _ _ []).lookup x\c:=λx c e=>by show qJ _ _ _ ?_;rw[WJ];show e
  show AF   (C:=h.objs.size)  S hc hg hf (λd s7 σ7 H7 Q7 I7 q=>Ox (he _ _ _ _ d s7 σ7 H7 Q7 I7 q) (λ_ _ z=>z) λ_ _ z=>z.elim) I T st f2 W 9 hC QI 9 9 y ⟨_,(Heap.Ns.new h _).keeps (Ζ _ _)⟩ Q_
    λk f l n I5 n5 UA UB R9 q5=>u _ _ k f l n 9 hC I5 n5 UA UB R9 q5
def wU(S:cZ X N f a)(q:X.calm=4)(r:PI X l b t)(u:∀C s H c,PG (NC X N a C s H c) l g)(w:∀C s H c,QK (NC X N a C s H c) i y)(z:∀C s H c,PE (NC X N a C s H c) j A) (hs:∀x,VT b X.env x=pure x:=by intro _;rfl):PE X (.ListComp j [⟨l,b,i,0⟩] a B) (AE ⇑f t g y A):=by intro d s σ H Q I h;show ϋ   9 hs (fK (S.cells I.ok)) S.kind S.names ?_;show My (r d s σ H _ I h) λv s1 G=>My G λUo s2 Y=>?_;let(it,fp,tn,J,H2,e,m,T,k,n,W):=Y;subst e;show mY  S q u w z m T k n W ?_;intro D C s5 H5 ys F' hD hC o p UA UB R9 q5;let(m5,XZ,_):=o.loc;show#[m5,XZ,λh' sb=>#[.ref D,_,sE m o (Ď hD.symm) 7 (lx 7) p UA UB R9 sb n,9,q5 D p]]
def DW(S:cZ X N r d)(hc:X.calm=4)(hN:X.N.Nodup)(VY:X.N[i]?\y)(hy:X.env.scope.names.lookup y\.local) (hi:PI X t f wi) (hg:∀C s H m,PG (NC X N d C s H m) t g) (hf:∀C s H m,QK (NC X N d C s H m) n tt) (he:∀C s H m,PE (NC X N d C s H m) q te) (RF:YR (.ListComp q [⟨t,f,n,0⟩] d u) (bD (.Name y py)) PU.line X.env=pure 4:=by rfl) (hs:∀x,VT f X.env x=pure x:=by intro _;rfl):PS X (.Assign [.Name y py] (.ListComp q [⟨t,f,n,0⟩] d u) PU) (GS (AE ⇑r wi g tt te) (wH i)):=by
 intro j s σ H D I h;rw[exec_Assign_Name_used _ _ _ _ RF];show b6 (ψ (b6 ?_));show b6 (Ox (ϋ  (cl:=cS X.env d.names [])  9 hs (fK (S.cells I.ok)) S.kind S.names ?_) (λ_ s' hq=>cL (cL hq)) λ_ _ e=>e);show My (hi j s σ H _ I h) λv s1 h1=>My h1 λUo w h2=>?_;let(it,fp,tn,J,H2,e,k,T,A,f2,W):=h2;subst e;show mY  S hc hg hf he k T A f2 W ?_;intro l C G Q ys F' hD hC Y n5 UA UB R9 q5;let(m5,XZ,_):=Y.loc;let ac:Q C=cK:=Y.free;let B:Inv X j σ (upd Q l (.lst ys)) {G with heap:=G.heap}:=sE k Y (Ď hD.symm) 7 (lx 7) n5 UA UB R9 (Tx ..) f2;show aa2 (pv (s:=G) B hN VY (.inl hy) (show RelV (.ref l) (.ref l) from 9) (λs6 I6 ⟨a,sb,ha⟩=>?_) (.inr hy));let VX:@ě 8 _ X.env.locals C:=by let:@ě 8 _ X.env.locals ↥w:=k.lt;lia
 let Qp:∀x c,X.env.cells.lookup x\c->c≠C:=λx c e=>by
  let(v,z):=k.cell x c e;let:@ě 8 _ c ↥w:=z.lt
  grind
 let ab:C≠a:=by
  obtain z|z:=ha
  .rw[z];show O6 VX
  show(Qp _ _ z).symm
 show#[m5,XZ.sameBut sb ab,λh' UC=>?_];show#[σ.set i (bD (.ref l)),upd Q l (.lst ys),I6.turned (it:=C) (t':=s6.toks) (λb o hb e=>(UC.2 b hb).trans e) ?_ (O6 VX) (.inr (by let:=k.sz;lia)) Qp (λp hp=>?_),q5 l n5]
 .rw[aj (O6 ⋯)];omega
 let:@ě 8 _ p.1 ↥w:=i8 (k.pin p hp).1
 grind
def X0(x:5):It:=#[λi _=>i< -x.cps.toList,λi H v a=>a=H/\∃c,(~~~x)[i]?\c/\v=.str #[#v[c]],λi _=>-x.cps.toList<=i]
def sF{K}(it)(J:["enumerate","zip","dict_itemiterator","dict_reverseitemiterator","odict_iterator","itertools.zip_longest","itertools.pairwise"].contains j=dt) (N:∀A (s:nc) i c Q E,s.heap.IsStrIter it j x t i->x.cps[i]?\c->(∀a,a.IsStrIter it j x t (i+1)->tr it s.heap a->Q (bD (.str #[#v[c]] s.toks)) {s with heap:=a,toks:=s.toks+1})->g8 (il P w) A (Ô (.ref it)) Q E s) (T:∀A s i Q E,A.handled=cK->s.heap.IsStrIter it j x t i->x.cps[i]?=cK->(∀a,ő it s.heap a->Q cK {s with heap:=a })->g8 (il P w) A (Ô (.ref it)) Q E s) (Y:∀A i s Q E,s.heap.IsStrIter it j x t i->Q (.ref it) s->g8 (il P w) A (Ŭ (.ref it)) Q E s) :Turn P w K tg (X0 x) [it] it (λi h=>h.IsStrIter it j x t i) where
 mem:=by simp
 obj:=λi h st b g=>by let(o,e,c,d):=st;left
 keep:=λi h a st k=>let ⟨o,ho,r⟩:=st;⟨o,k it (by simp) o ho,r⟩
 item:=by intro X n p q D i f s σ H E I m st u;subst n p q;let(v,y,f2,z,B,C):=m it (by simp);let G:i< -x.cps.toList:=u;show N X.A s i (~~~x)[i] _ _ st (by simp) λa l sb=>?_;let I1:Inv X f σ H {s with heap:=a,toks:=s.toks+1}:=I.turned (λb o g e=>(sb.2 b g).trans e) v y z B C;let(o,e,cc,d):=id l;show#[_,9,wJ  e cc d J #[.str _,H,I1,#[_,9],#[9,_,by simp,9],l,λb g=>(m b g).1]]
 done:=by intro X n p q D i f s σ H E I m st u;subst n p q;let(v,y,f2,z,B,C):=m it (by simp);let G:-x.cps.toList<=i:=u;show T X.A s i _ _ (I.ok.hd D) st (by exists G) λa eb=>#[9,I.turned  (λb o g e=>eb b o g e) v y z B C]
 self:=λA i s Q E st h=>Y A i s Q E st h
def LZ(tl:TE):TI:=λσ H R=>tl σ H λv a=>∃x,v=.str x/\R (X0 x) a
def Hi(hl:PE X l tl):PI X B l (LZ tl):=by
 intro d s σ H R I h;show My (hl d s σ H _ I h) λv m r=>?_;let(x,j,g,u,w):=r;let(z,rfl,q):=w;let(t,rfl):=u;let n:∀b∈[↥m],jb X d j b:=λb y=>by
  let e:=by exists y
  subst e;show g.uN (i9 _) (g.Ms.fresh (i9 _))
 cases p:z.cps.all (·<128) with
 |true =>
  show wpAny_pyIter_ascii p ?_;show#[_,_,_,_,j,9,g.kept (t':=m.toks) λb o e=>cn _ e,
   sF (x:=z) (t:=t) _ (by decide) (λA s i c Q E st f a=>wpAny_pyNext_ascii_item st f a) (λA s i Q E k st f a=>wpAny_pyNext_ascii_end k st f a) (λA i s Q E st a=>wpAny_pyIter_striter_ascii st a),
   #[_,hU _ 9,9,9],n,q]
 |false =>
  show wpAny_pyIter_wide p ?_;show#[_,_,_,_,j,9,g.kept  λb o e=>cn _ e,
   sF (x:=z) (t:=t) _ (by decide) (λA s i c Q E st f a=>wpAny_pyNext_wide_item st f a) (λA s i Q E k st f a=>wpAny_pyNext_wide_end k st f a) (λA i s Q E st a=>wpAny_pyIter_striter_wide st a),
   #[_,hU _ 9,9,9],n,q]
noncomputable def JZ:V->Option Int->Option Int->Hp->VK->6:=λx lo a H Q=>∃z,x=.str z/\-z<=et/\Q (.str (PySem.StrLaws.sliceText z lo a)) H
def oW(x)(lo a)(b:-x<=et):-PySem.StrLaws.sliceText x lo a<=et:=va (Txt.slice_le x lo a) b
def Hj:QH X JZ:=by
 intro b s σ H x v p r lo d w Q I m hs n e h;let(z,rfl,o,q):=h;let(t,rfl):=m;show#["str",_,abn.lookup,Â _ _ _,?_];let a:-PySem.StrLaws.sliceText z lo d<=et/\∀f k,EP X b σ Q (.str _ f) _:=#[oW z lo d o,λf k=>#[.str _,H,I.tok k,#[_,9],q]]
 cases n with
 |none =>
  cases e with
  |none=>show Ë (l:=cK) (u:=cK) (st:=cK) hs 9 (ĩ a)
  |int j c=>show Ë (l:=cK) (u:=bD (j,c)) (st:=cK) hs 9 (ĩ a)
 |int i g =>
  cases e with
  |none=>show Ë (l:=bD (i,g)) (u:=cK) (st:=cK) hs 9 (ĩ a)
  |int j c=>show Ë (l:=bD (i,g)) (u:=bD (j,c)) (st:=cK) hs 9 (ĩ a)
def qM:Tv X "str.partition" (λx f H Q=>∃a b,x=.str a/\f=[.str b]/\(-b==0)=dt/\-a<=et /\
  ∀p,H p=cK->Q (.ref p) (upd H p (.tup [.str (y8 a b).1,.str (y8 a b).2.1,.str (y8 a b).2.2]))):=by
 intro d s σ H x f v A Q I l m h;let(a,b,rfl,rfl,n,r,q):=h;let(t,rfl):=l;let(u,rfl,w,rfl):=vals1 m;show Ä F.slot_str_partition (Â _ _ _) F.entry_str_partition (F.args_str_partition_2 _ _) (meets_str_partition a b t w n r) ?_;let y:H ↥s=cK:=I.Ms.fresh (i9 _);let z:=q _ y;let c:∀g i j k,EP X d σ Q (.ref ↥s) {s with toks:=k,heap:=s.heap.push {cls:=.type "tuple",data:=.seq _}}:=λg i j k =>
  #[.ref ↥s,_,I.laid (t':=k) (o:=.tup [.str (y8 a b).1,.str (y8 a b).2.1,.str (y8 a b).2.2]) (λb u e=>cn _ e) (i9 _)
   ⟨by change 3<=et;decide,_,.cons ⟨g,9⟩ (.cons #[i,9] (.cons #[j,9] .nil)),⟨_,hU _ 9,9,_,9⟩⟩,9,z]
 revert c;unfold y8;cases Qe a b 0 ⇑a 1 with|_=>intro c;show c _ _ _ _
theorem pF:∀l,Vals (l.map λp=>V.str p.1) (ϛ l)|[]=>.nil|(x,t)::r=>.cons #[t,9] (pF r)
theorem fY:∀{a}{b},Vals (a.map V.str) b->∃l,b=ϛ l/\l.map (·.1)=a|[],_,.nil=>#[[],9,9]|y::a,_,.cons r t=>by let(c,rfl):=r;let(l,rfl,e):=fY t;show#[(y,c)::l,9,by left]
def AG:Tv X "str.split" (λx i H Q=>∃a b,x=.str a/\i=[.str b]/\(-b==0)=dt/\-a+2<=et /\
  ∀p,H p=cK->Q (.ref p) (upd H p (.lst ((Vc a b).map V.str)))):=by
 intro g s σ H x i v z Q I m n h;let(x,y,rfl,rfl,j,A,q):=h;let(t,rfl):=m;let(B,rfl,u,rfl):=vals1 n;let d:=I.Ms.fresh (i9 _);let r:=q _ d;let c:∀l k,-l<=et->l.map (·.1)=Vc x y->EP X g σ Q (.ref ↥s) {s with toks:=k,heap:=s.heap.push {cls:=.type "list",data:=.seq (ϛ l).toArray}}:=λl k hl e =>
  #[.ref ↥s,_,I.laid (t':=k) (o:=.lst ((Vc x y).map V.str)) (λb u e=>cn _ e) (i9 _)
   ⟨by rw[<-e,eu,eu];show hl,ϛ l,_,by rw[<-e,lg];show pF l,hU _ 9⟩,9,r]
 let one:1<=et:=by decide
 cases f:(gi (-x< -y)||decide (ŧ x<ŧ y))
 .cases d:(Qe x y 0 ⇑x (-x+1)).isEmpty
  .let w:-(â x (Qe x y 0 ⇑x (-x+1)) ⇑y)<=et:=by let:=PySem.StrLaws.occ_length_le x y 0 ⇑x (-x+1);erw[â,eu,ď,oD,ro];lia
   show Ä š (Â _ _ _) Œ (Ł _ _) (meets_str_split_sep x y t u f j d 7 w) ?_;rw[strsFrom_eq];show c (numbered s.toks _) _ ?_ ((numbered_texts _ _).trans ((if_neg (ne_true_of_eq_false f)).trans (if_neg (ne_true_of_eq_false d))).symm);let e:=congrArg R' (numbered_texts s.toks (â x (Qe x y 0 ⇑x (-x+1)) ⇑y));left
  show Ä š (Â _ _ _) Œ (Ł _ _) (meets_str_split_not_found x y t u f j d)
   (c [(x,t)] _ one ((if_neg (ne_true_of_eq_false f)).trans (if_pos d)).symm)
 show Ä š (Â _ _ _) Œ (Ł _ _) (meets_str_split_cannot_occur x y t u f)
  (c [(x,t)] _ one (if_pos f).symm)
def DX:Tv X "str.join" (λx c H Q=>∃a p b,x=.str a/\c=[.ref p]/\M3 X.K H p (b.map V.str)/\Ĥ a b=4/\Q (.str (Se a b)) H):=by intro d s σ H x c v o Q I f g h;let(a,p,b,rfl,rfl,i,j,q):=h;let(t,rfl):=f;let(u,rfl,r):=vals1 g;ext r;let(w,m,n,y):=I.list i;let(l,rfl,e):=fY m;show SC.join n.isList e j λz k=>#[.str _,H,I.tok k,#[_,9],q]
theorem lz:∀{a:↑Bool}{c},Vals (a.map V.bl) c->c=a.map Ā|[],_,.nil=>9|b::a,_,.cons r t=>by ext r;rw[lz t];rfl
def AH:X.calm=4->gN X (.builtin "all") (λf H Q=>∃(p:mn) (a:↑Bool),f=[.ref p]/\M3 X.K H p (a.map V.bl)/\Q (.bl (a.all id)) H):=by
 intro k g s σ H f w Q I l h;let(p,a,rfl,m,q):=h;let(u,rfl,r):=vals1 l;ext r;let(x,n,c,y):=I.list m;let e:=lz n;subst e;let o:p<↥s:=by let(_,_,e,_):=c;show i8 e
 show call_all_walk (Ć c.isList ?_);show#[_,_,_,_,_,_,λi=>(a[i]?).getD 4,9,abj (A:=X.A.in1) (I.ok.hd k) _ p (lx o) _,
  #[#[_,hU _ 9,9,9],c.isList.push _],λi v z B C D j=>?_,λG t hk=>?_]
 .let d:(a.map Ā)[i]?\v:=by left
  rw[mx]at d;cases e:a[i]? with|none=>left|some b=>rw[e]at d;ext d;erw[e]at j;show Tw j
 let e:((hW (a.map Ā).toArray.size).all λi=>(a[i]?).getD 4)=a.all id:=by rw[qv,eu];show aaH a
 rw[e];show#[.bl _,H,I.kept (t':=t) (aaI hk),9,q]
def DY(N b:↑5)(a:V9)(c:↑(5 ×ε)):Bool :=
 gi (a.kind=.function)&&a.names.all (λy=>gi (a.names.lookup y.1\y.2))&&a.names.all (λy=>gi (y.2≠.cell)||decide (y.1∈b))&&decide N.Nodup&&gi (N.take ⇑b=b) &&
 a.names.all (λy=>gi (y.2≠.local)||decide (y.1∈b)||decide (y.1=".0"))&&gi ((".0":5)∉N)&&a.names.all (λy=>gi (y.2≠.free)||decide (c.lookup y.1\.cell)||decide (c.lookup y.1\.free))&&a.names.all (λy=>gi (y.1≠".")&&gi (y.1≠".."))
def vc(f:X.env.scope.names=d)(g:fD (N.drop ⇑b) X.N)(h:DY N b a d=4):cZ X N b a:=by
 unfold DY at h;erw[df,y7,YU,decide_eq_true_eq]at h;obtain⟨⟨⟨⟨⟨⟨⟨⟨i,j⟩,k⟩,l⟩,m⟩,n⟩,o⟩,p⟩,q⟩:=h;show#[i,j,λy c e=>?_,l,m,λy c e=>?_,o,g,λy c e=>?_,q]
 .rcases k y c with z|z
  .show absurd e z
  show z
 .rcases n y c with(z|z)|z
  .show absurd e z
  .show .inl z
  show .inr z
 rw[f];obtain(z|z)|z:=p y c
 .show absurd e z
 .show .inl z
 show .inr z
inductive aH(prog:B')(w:Q2)(h:UD)(k:5 ×↑5)(a:mn):6|mk:∀o n t b,h.get? a\o->o.cls=.type "tuple"->o.data=.seq #v[.str k.1 t,.ref b] n->Ő (PySem.strKind prog w) h k.2 b->aH prog w h k a
def aH.typeIs{s:nc}(x:aH prog w s.heap k a):s.TypeIs (.ref a) "tuple":=let ⟨o,_,_,_,ho,b,_,_⟩:=x;⟨o,ho,b⟩
def aH.inj(e:aH prog w h x a)(f:aH prog w h y a):x=y:=by
 let(o,n,t,b,ho,_,g,i):=e;let(j,q,r,s,k,_,c,l):=f;obtain rfl:o=j:=D' (ho.symm.trans k);rw[g]at c;injection c with d _
 erw[Array.mk.injEq,Ï,Value.str.injEq,Value.ref.injEq,and_true]at d;let((m,_),p):=d;subst p;show Û m (i.inj l)
def mr(prog:B')(w:Q2)(k:5 ×↑5):Int:=reduceHash (Ss [(PySem.strKind prog w).hash k.1,Ó (PySem.strKind prog w) k.2])
def AI(prog:B')(w:Q2)(a:UD)(v:ki)(n:Int)(d:8):6 :=∀{A:Ç} {E:ki->nc->6} {s:nc} {Q:Int->nc->6},s.heap=a->A.units<R0->Q n {s with toks:=s.toks+d}->g8 (il prog w) A (pyHash v) Q E s
def vd(x)(t):AI prog w hh (.str x t) ((PySem.strKind prog w).hash x) 1:=λ_ _ h=>(PySem.strKind prog w).pyHash (by simp[PySem.strKind,Xt]) h
def qN(hk:Ő (PySem.strKind prog w) c a b):AI prog w c (.ref b) (Ó (PySem.strKind prog w) a) (-a+1):=λe d h=>by subst e;show wpAny_pyHash_tuple d hk h
def kC(q:A.units+1<R0)(hk:aH prog w s.heap k a)(h:Q (mr prog w k) {s with toks:=s.toks+(-k.2+3)}):g8 (il prog w) A (pyHash (.ref a)) Q E s:=by
 let g:=hk.typeIs;let(o,n,t,b,ho,_,m,p):=hk;unfold pyHash
 first|unfold pyHashByItsType|skip
 first|show b6 (wpAny_cRoomFor_or (.inr 7) ?_)|skip
 show b6 (XB g F.slot_tuple_hash.lookup ?_);change g8 _ _ (if (bD (Value.builtin "tuple.__hash__")==bD M6)=4 then _ else _) Q E s;rw[if_neg (by simp)];show b6 (XB g F.slot_tuple_hash.lookup ?_);change g8 _ _ (callSpecialIfBoundUnlessNone? (.ref a) "__hash__" _ >>= _) Q E s;show b6 (wpAny_callSpecialIfBoundUnlessNone?_slot g F.slot_tuple_hash (NB F.slot_tuple_hash g F.entry_tuple_hash ?_ (F.args_tuple_hash_1 _)));change g8 _ _ (Ì (.ref a) >>= _) _ _ s;show b6 (Ō ho m ?_);show b6 ?_;rw[<-Ry];show Vz _
  (λc (d:Array Int) f=>(c=[DD k.1 t,oa b]/\d=#v[]/\f=s)\/(c=[oa b]/\d.toList=[(PySem.strKind prog w).hash k.1]/\f={s with toks:=s.toks+1}) \/
   (c=[]/\d.toList=[(PySem.strKind prog w).hash k.1,Ó (PySem.strKind prog w) k.2]/\f={s with toks:=s.toks+1+(-k.2+1)}))
  _ ?_ ?_ _ _ (.inl #[9,9,9])
 .rintro x c d f (⟨e,rfl,rfl⟩|⟨e,i,rfl⟩|⟨e,_,_⟩)
  .cases e;show b6 (vd k.1 t (hh:=f.heap) 9 (by omega) ?_)
   first
    |show cL (.inr (.inl #[9,9,9]))|show b6 (cL (cL (.inr (.inl #[9,9,9]))))
  .cases e;show b6 (qN p 9 (by omega) ?_)
   first
    |show cL (.inr (.inr #[9,by simp[i],9]))|show b6 (cL (cL (.inr (.inr #[9,by simp[i],9]))))
  ext e
 rintro d f (⟨e,_,_⟩|⟨e,_,_⟩|⟨_,i,rfl⟩)
 .cases e
 .cases e
 change g8 _ _ (retInt (Ss d.toList)) _ _ _;rw[i];show wpAny_ret_mkInt ?_;let l:s.toks+1+(-k.2+1)+1=s.toks+(-k.2+3):=7
 change g8 _ _ (if (gi (-((2:Int) ^ 63:Int)<=Ss [(PySem.strKind prog w).hash k.1,Ó (PySem.strKind prog w) k.2])&&gi (Ss [(PySem.strKind prog w).hash k.1,Ó (PySem.strKind prog w) k.2]<2 ^ 63))=4 then _ else _) Q E _;unfold mr reduceHash at h;by_cases j:(gi (-((2:Int) ^ 63:Int)<=Ss [(PySem.strKind prog w).hash k.1,Ó (PySem.strKind prog w) k.2])&&gi (Ss [(PySem.strKind prog w).hash k.1,Ó (PySem.strKind prog w) k.2]<2 ^ 63))=4
 .rw[if_pos j];rw[if_pos j]at h;show cL (by rw[l];show h)
 rw[if_neg j];rw[if_neg j]at h;show b6 (Ul (cL (by rw[l];show h)))
def sG(n:A.units<R0)(o:aH prog w s.heap x a)(j:aH prog w s.heap y b)(h:P (.done (.ret (.bool (gi (x=y))))) s):g8 (il prog w) A (ZY.«tuple.__eq__» ⟨[.ref a,.ref b],[]⟩) P E s:=by
 let d:=j.typeIs;let(G,H,p,k,q,_,f,t):=o;let(I,J,tb,l,B,_,C,g):=j;change g8 _ _ (isInstance (.ref b) _ >>= _) _ _ s;show b6 (Uv d Ĭ ?_);show b6 (Ō q f ?_);show b6 (Ō B C ?_);show b6 ?_;show Vz _
  (λc r i=>r.1=cK/\i=s/\((c=[(DD x.1 p,DD y.1 tb),(oa k,oa l)])\/(c=[(oa k,oa l)]/\x.1=y.1)\/(c=[]/\x=y)))
  _ ?_ ?_ _ _ #[9,9,.inl 9]
 .rintro⟨u,v⟩ c r i ⟨m,rfl,(e|⟨e,D⟩|⟨e,_⟩)⟩
  .cases e;show b6 ((PySem.strKind prog w).eqBool (a:=x.1) (b:=y.1) (by simp[PySem.strKind,Xt]) (by simp[PySem.strKind,Xt]) ?_);by_cases hk:x.1=y.1
   .rw[decide_eq_true hk];show cL #[9,9,.inr (.inl #[by simp,hk])]
   rw[decide_eq_false hk];rw[decide_eq_false (λz=>hk (by rw[z]))]at h;show b6 (cL (cL (cL h)))
  .cases e;show b6 (wpAny_eqBool_tuple n t g ?_);by_cases hk:x.2=y.2
   .rw[decide_eq_true hk];show cL #[9,9,.inr (.inr #[by simp,Û D hk])]
   rw[decide_eq_false hk];rw[decide_eq_false (λz=>hk (by rw[z]))]at h;show b6 (cL (cL (cL h)))
  ext e
 rintro⟨N,Q⟩ i ⟨m,rfl,(e|⟨e,_⟩|⟨_,rfl⟩)⟩
 .cases e
 .cases e
 subst m;show cL ?_;rw[decide_eq_true rfl]at h;show h
def kD(g:A.units+2<R0)(c:aH prog w s.heap x a)(d:aH prog w s.heap y b)(h:Q (gi (x=y)) s):g8 (il prog w) A (eqBool (.ref a) (.ref b)) Q E s:=by
 unfold eqBool
 try with_reducible show ve ?_
 by_cases f:(oa a==oa b)=4
 .rw[if_pos f];let e:a=b:=by left
  subst e;obtain rfl:=c.inj d;show b6 (Ul (cL (by left)))
 rw[if_neg f];show b6 (wpAny_richCompare_same_room  c.typeIs d.typeIs F.slot_tuple_eq
  (NB F.slot_tuple_eq c.typeIs F.entry_tuple_eq (sG (by grind) c d #[_,9,(λe=>nomatch e),Tw h]) (F.args_tuple_eq_2 _ _)) 7)
def jI(hk:Ő (PySem.strKind prog w) s.heap l a)(h:Q 4 s):g8 (il prog w) A (ϝ (n+1) (.ref a)) Q E s:=by
 let e:=hk.typeIs;let(o,c,m,ho,_,i,j):=hk;unfold ϝ;show b6 (XB e F.slot_tuple_eq.lookup ?_);show b6 (Uv e Ĭ ?_);show b6 (Qw ho i ?_);show b6 ?_;rw[<-Ry];show Vz _ (λb r d=>r.1=cK/\d=s/\∀v∈b,carriedByValue v=4) _ ?_ ?_ _ _ ⟨9,9,j.byValue⟩
 .rintro v b r d ⟨f,rfl,g⟩;rw[eqIsQuiet_byValue _ (g v my)];show cL #[9,9,λu k=>g u (kj _ k)]
 rintro⟨p,q⟩ d ⟨f,rfl,_⟩;subst f;show cL h
def gG(hk:aH prog w s.heap k a)(h:Q 4 s):g8 (il prog w) A (ϝ 0x8 (.ref a)) Q E s:=by
 let f:=hk.typeIs;let(o,n,t,b,ho,_,i,j):=hk;unfold ϝ;show b6 (XB f F.slot_tuple_eq.lookup ?_);show b6 (Uv f Ĭ ?_);show b6 (Qw ho i ?_);show b6 ?_;rw[<-Ry];show Vz _ (λc r d=>r.1=cK/\d=s/\(c=[DD k.1 t,oa b]\/c=[oa b]\/c=[])) _ ?_ ?_ _ _ ⟨9,9,.inl 9⟩
 .rintro v c r d ⟨g,rfl,(e|e|e)⟩
  .cases e;show cL #[9,9,.inr (.inl (by simp))]
  .cases e;show b6 (jI j ?_);show cL #[9,9,.inr (.inr (by simp))]
  ext e
 rintro⟨l,m⟩ d ⟨g,rfl,_⟩;subst g;show cL h
abbrev qO:=5 ×↑5
def wV(K:W.Frag)(H:Hp)(v:V)(k:qO):6:=∃a b,v=.ref a/\MV K H a [.str k.1,.ref b]/\MV K H b (k.2.map V.str)
theorem mZ:∀{a}{b},Vals (a.map V.str) b->ItemsAre (PySem.strKind P w) a b|[],_,.nil=>.nil|k::a,_,.cons r t=>by let(c,rfl):=r;show .cons (by simp[PySem.strKind,Xt]) (mZ t)
def DZ(I:Inv X a σ H s)(e:MV X.K H b (c.map V.str)):Ő (PySem.strKind X.prog X.w) s.heap c b:=by let(h,r,(o,d,f,n,g),_):=I.tuple e;show#[o,_,n,d,f,g,by exists mZ r]
def D0(I:Inv X d σ H s)(e:wV X.K H (.ref a) k):aH X.prog X.w s.heap k a:=by
 let(p,b,q,f,g):=e;ext q;let(u,r,(o,h,i,n,j),_):=I.tuple f;cases r with
 |cons l c =>
  cases c with
  |cons c m=>ext m;let(t,rfl):=l;ext c;show#[o,n,t,b,h,i,j,DZ I g]
def OK(a b:5):Bool:=!gi ((~~~b)<(~~~a))
def mw(a b):OK a b=4 ↔(~~~a)<=(~~~b):=by erw[OK,S7,decide_eq_false_iff_not];rfl
def pG(a b c)(d:OK a b=4)(e:OK b c=4):OK a c=4:=by rw[mw]at d e ⊢;show List.le_trans d e
def yN(a b):(OK a b||OK b a)=4:=by rw[YU,mw,mw];show List.le_total _ _
def AJ{x y:5}(h:(~~~x)=(~~~y)):x=y:=by ext x;left
def qP(c:OK a b=4)(d:OK b a=4):a=b:=by rw[mw]at c d;show AJ (List.le_antisymm c d)
def bA(l:↑5):↑5:=l.mergeSort OK
def bN(l):(bA l).Perm l:=List.mergeSort_perm l OK
def eV(l):(bA l).Pairwise (λa b=>OK a b=4):=List.pairwise_mergeSort pG yN l
theorem jJ:∀l p,risingS p l=4->(p::l).Pairwise (λa b=>OK a b=4)
 |[],p,_=>by simp|x::r,p,h=>by
  let g:=h;let(d,i):=Qh.mp g;let f:=jJ r x i;let c:OK p x=4:=by rw[ltCps_eq]at d;show d
  show Y9.mpr #[λy j=>?_,f];obtain e|e:=gs.mp j
  .rw[e];omega
  show pG _ _ _ c ((Y9.mp f).1 y e)
def qQ(h:sortedS l=4):l.Pairwise (λa b=>OK a b=4):=by cases l with|nil=>simp|cons x r=>show jJ r x h
theorem iq:∀{l m:↑5},l.Perm m->l.Pairwise (λa b=>OK a b=4)->m.Pairwise (λa b=>OK a b=4)->l=m
 |[],m,c,_,_=>(List.Perm.nil_eq c)|x::l,m,c,f,g=>by
  cases m with
  |nil=>left
  |cons y m =>
   let(h,i):=Y9.mp f;let(j,k):=Y9.mp g;let d:x=y:=by
    let m1:=c.mem_iff.mp my;let m2:=c.mem_iff.mpr my;obtain e|e:=gs.mp m1
    .show e
    obtain e'|e':=gs.mp m2
    .show e'.symm
    show qP (h y e') (j x e)
   subst d;rw[iq (List.Perm.cons_inv c) i k]
def AK(a:l.Perm m)(hs:sortedS l=4):l=bA m:=iq (a.trans (bN m).symm) (qQ hs) (eV m)
def lC(a:l.Perm m):bA l=bA m:=iq ((bN l).trans (a.trans (bN m).symm)) (eV l) (eV m)
def eh(l):-bA l=-l:=(bN l).length_eq
theorem c6:∀{a}{b},Vals (a.map V.str) b->õ b a|[],_,.nil=>.nil|y::a,_,.cons r t=>by let(c,rfl):=r;show .cons y c (c6 t)
theorem f9:∀{a}{b},õ a b->Vals (b.map V.str) a|_,_,.nil=>.nil|_,_,.cons x t h=>.cons #[t,9] (f9 h)
theorem jf(hc:g8 (il prog w) A.in1 (ϫ x) (λvs s1=>∃ss,õ vs ss/\vs.length<64 /\
      ∀h' M0 e,(∀b o,s1.heap.get? b=bD o->h'.get? b=bD o)->h'.get? s1.heap.objs.size=bD (Tr "list" M0.toArray e)->õ M0 (bA ss)->Q (.ref s1.heap.objs.size) {s1 with heap:=h' }) E s) :
    g8 (il prog w) A (Zl (.builtin "sorted") [x]) Q E s:=by
  refine Ŧ kind_sorted plain_sorted entry_sorted (args_sorted1 _) ?_;unfold ZY.«sorted»;refine b6 (m:=checkCount "sorted" 1 1 _) (cL ?_);refine b6 (Ox hc (λvs s1 h1=>?_) λ_ _ e=>e);obtain⟨ss,hS,Pa,h⟩:=h1
  refine wpAny_bind (wpAny_newList ?_ (by let : (64 : 8) ≤ sizeLine := by decide
                                          lia))
  let Q5:(s1.heap.push (Tr "list" vs.toArray 0)).get? s1.heap.objs.size=bD (Tr "list" vs.toArray 0):=hU _ 9;show g8 _ _ _ _ _ {s1 with heap:=s1.heap.push (Tr "list" vs.toArray 0)};refine b6 (ve (NB slot_list_sort ⟨_,Q5,9⟩ entry_list_sort (list_sort_treeK strKind_oneLt Q5 hS.keysOf (λv₁ v₂ rest e=>keyKind_strs (by rw[<-e];exact hS)) Pa λst' a1 a2=>⟨_,9,?_⟩) (args_list_sort _)));obtain⟨Pb,b1,b2,b3⟩:=sorted_out_str hS a1 a2;obtain⟨e,he⟩:=sortedHeap_at (out:=(arrOf st').map (·.2)) Q5;rw[AK b2 b3]at b1;refine cL ⟨_,9,h _ ((arrOf st').map (·.2)).toList e (λb o q=>?_) (by rw[Array.toArray_toList];exact he) b1⟩;let Nb:b<s1.heap.objs.size:=i8 q;show(aaS (s1.heap.push (Tr "list" vs.toArray 0)) s1.heap.objs.size vs ((arrOf st').map (·.2))).get? b=bD o;rw[sortedHeap_old (lx Nb) (by rw[YI];exact XA Nb)];exact cn _ q
def oX(hl:IsTup s.heap l a.toArray) (h:Q a {s with heap:=(s.heap.push (Tr "list" #v[] 0)).update ↥s (Oy (·++a.toArray))}) (c:-a<=et) :g8 (il prog w) A (ϫ (.ref l)) Q E s:=by let(o,ho,d,n,e):=id hl;unfold ϫ;show b6 (Τ (VO entry_proto_collect' ?_));show b6 (ϊ (cL #[Ϡ _ (by decide +kernel),VO entry_list_iadd' ?_]));change g8 _ _ (W_ (.ref ↥s) (.ref l) (.ref ↥s)) _ _ {s with heap:=s.heap.push (Tr "list" #v[] 0)};unfold W_;let b:(s.heap.push (Tr "list" #v[] 0)).get? l\o:=cn _ ho;show b6 (YQ (T:="tuple") #[o,b,d] ?_);rw[if_pos (by simp)];show b6 (ϴ b e ?_);show b6 (ϴ (xs:=#v[]) (n:=0) (hU _ 9) 9 ?_);rw[if_neg (by simp)];show b6 (ň (xs:=#v[]) (n:=0) (hU _ 9) 9 ?_ (ri _) (by grind));show cL ?_;show b6 (aaL (get?_update_seq (hU _ 9) _) ?_);change g8 _ _ (pure ((#v[]:Array ki)++a.toArray).toList) Q E _;rw[show((#v[]:Array ki)++a.toArray).toList=a by simp];show cL h
def oY{h:UD}{a:↑ki}(e:h.get? b\o):((h.push (Tr "list" #v[] 0)).update h.objs.size (Oy (·++a.toArray))).get? b\o:=by rw[Yr _ _ _ _ (lx (i8 e))];show cn _ e
def sH(I:Inv X a σ H s)(j:∀b o,s.heap.get? b\o->s1.heap.get? b\o)(k:∃d c,s1={s with heap:=d,toks:=c}) (hk:∀b o,s1.heap.get? b\o->f.get? b\o) (l:f.get? ↥s1\Tr "list" g.toArray e) (m:õ g (bA h)) (n:↥s<=↥s1) (hl:-h<=et) (q:∀p,H p=cK->Q (.ref p) (upd H p (.lst ((bA h).map V.str)))):EP X a σ Q (.ref ↥s1) {s1 with heap:=f }:=by let(d,c,rfl):=k;let i:=I.kept (t':=c) j;show#[.ref _,_,i.laid  (o:=.lst _) hk (i9 _) #[by rw[eu,eh];show hl,g,e,f9 m,l],9,q _ (i.Ms.fresh (i9 _))]
def lD:gN X (.builtin "sorted") (λn H Q=>∃p a,n=[.ref p]/\(M3 X.K H p (a.map V.str)\/MV X.K H p (a.map V.str))/\-a<64/\∀q,H q=cK->Q (.ref q) (upd H q (.lst ((bA a).map V.str)))):=by
 intro i s σ H n y Q I t h;let(p,a,rfl,hq,v,q):=h;let(u,rfl,r):=vals1 t;ext r;let hl:-a<=et:=VH (pb v (by decide));let j:∀(c:↑ki),Vals (a.map V.str) c->∀(d:UD) (g:↑ki) (e:8),(∀b o,((s.heap.push (Tr "list" #v[] 0)).update ↥s (Oy (·++c.toArray))).get? b\o->d.get? b\o) ->
   d.get? ((s.heap.push (Tr "list" #v[] 0)).update ↥s (Oy (·++c.toArray))).objs.size\Tr "list" g.toArray e->õ g (bA a) ->
   EP X i σ Q (.ref ((s.heap.push (Tr "list" #v[] 0)).update ↥s (Oy (·++c.toArray))).objs.size) {s with heap:=d }:=λc f d g e hk k l =>
  sH (s1:={s with heap:=(s.heap.push (Tr "list" #v[] 0)).update ↥s (Oy (·++c.toArray))}) I (λb o z=>oY z) ⟨_,s.toks,9⟩ hk k l (by simp) hl q
 obtain hq|hq:=hq
 .let(c,f,m,w):=I.list hq;let x:-c=-a:=by rw[<-⇑f,eu]
  show jf (collect_list m.isList #[a,c6 f,by omega,λd g e hk k l=>j c f d g e hk k l] (by omega))
 let(c,f,m,w):=I.tuple hq;let x:-c=-a:=by rw[<-⇑f,eu]
 show jf (oX m #[a,c6 f,by omega,λd g e hk k l=>j c f d g e hk k l] (by omega))
abbrev sK(P:B')(w:Q2):=PySem.strKind P w
inductive aX(P:B')(w:Q2)(h:UD)(a:mn)(led:Bool)(D:↑5):6|mk:∀(L:↑(Str×Tok)) (es:Array (Int×ki)) (ep:Nat) (t:Zr),h.get? a\{cls:=.type "set",dict:=cK,data:=.set es ep t}->es.toList=L.map (λp=>((sK P w).hash p.1,DD p.1 p.2))->(L.map (·.1)).Perm D->D.Nodup->t.fits es.size=cb->es.size<UO->t.led=led->(es.size=0\/t.plain=dt)->aX P w h a led D
def aX.at(b:aX prog w h a led D)(k:∀o,h.get? a\o->h'.get? a\o):aX prog w h' a led D :=let ⟨L,c,d,t,e,f,g,i,j,l,m,n⟩:=b;⟨L,c,d,t,k _ e,f,g,i,j,l,m,n⟩
def m8{L:↑(5 ×Tok)}:ElemsOf (sK prog w) (L.map λp=>((sK prog w).hash p.1,DD p.1 p.2)):=by intro e a;let(p,_,rfl):=mh.mp a;show#[#[p.1,by simp[PySem.strKind,Xt],9],9]
def iU(x y)(t):(sK prog w).is x (.str y t)=gi (x=y):=by rw[UE];simp[PySem.strKind,Xt];show#[λh=>h.symm,λh=>h.symm]
def vf(t)(a)(h)(x):(layNew t a h x).2.1.led=t.led:=by
 unfold layNew;split
 .change(Ο _ _).led=t.led;unfold Ο;split<;>rfl
 rfl
def qR(t)(d)(n):(Ĕ t d n).2.1.led=t.led:=by
 unfold Ĕ;split
 .rename_i e b a;let:e.led=t.led:=by unfold û Ė at a;cases c:é _ _ with|none=>rw[c]at a;ext a|some o=>rw[c]at a;ext a;rfl
  dsimp only
  split
  .omega
  rfl
 rfl
def m9(t)(d)(n)(h:t.plain=dt):(Ĕ t d n).2.1.plain=dt:=by
 unfold Ĕ;split
 .rename_i e b a;let:e.plain=t.plain:=by unfold û Ė at a;cases c:é _ _ with|none=>rw[c]at a;ext a|some o=>rw[c]at a;ext a;rfl
  dsimp only
  split
  .rw[this];show h
  rfl
 rfl
def dG(h:l.Perm (L.map λp=>((sK prog w).hash p.1,DD p.1 p.2))):∃a:↑(5 ×Tok),l=a.map (λp=>((sK prog w).hash p.1,DD p.1 p.2))/\a.Perm L:=by
 let all:∀e∈l,∃p:5 ×Tok,e=((sK prog w).hash p.1,DD p.1 p.2):=λe b=>by let(p,_,rfl):=mh.mp (h.mem_iff.mp b);show#[p,9]
 let d:∀l:↑(Int×ki),(∀e∈l,∃p:5 ×Tok,e=((sK prog w).hash p.1,DD p.1 p.2))->∃a:↑(5 ×Tok),l=a.map (λp=>((sK prog w).hash p.1,DD p.1 p.2)):=by intro l;induction l with|nil=>intro _;show#[[],9]|cons e l f=>intro c;let(p,rfl):=c e my;let(a,rfl):=f λe b=>c e (kj _ b);show#[p::a,9]
 let(a,rfl):=d l all;show#[a,9,?_];let g:(a.map λp=>((sK prog w).hash p.1,DD p.1 p.2)).map (λe=>match e.2 with|.str x t=>(x,t)|_=>(O',0))=a:=by rw[lg];show abo _
 let i:(L.map λp=>((sK prog w).hash p.1,DD p.1 p.2)).map (λe=>match e.2 with|.str x t=>(x,t)|_=>(O',0))=L:=by rw[lg];show abo _
 let:=h.map (λe=>match e.2 with|.str x t=>(x,t)|_=>(O',0));rw[g,i]at this
 omega
def m_(hS:aX prog w s.heap a led D)(Qq:-D+1<UO) (h:∀i,tr a s.heap i->aX prog w i a led (if x∈D then D else D++[x])->Q (gi (x∉D)) {s with heap:=i }) :g8 (il prog w) A (Ŝ a (.str x o) ((sK prog w).hash x)) Q E s:=by
 let(L,n,C,t,ho,B,J,ME,Y,hb,Ng,MY):=hS;let Ql:(sK prog w).is x (.str x o)=4:=by rw[iU];simp
 let UH:ElemsOf (sK prog w) n.toList:=by rw[B];show m8
 let G:n.size=-D:=by rw[<-hZ,B,eu,<-eu (f:=Ũ) (as:=L),J.length_eq]
 unfold Ŝ setAddHashedIn;show ve (b6 (rl ho 9 Y ?_))
 dsimp only
 rw[byScan_of (knd:=sK prog w) rfl hb UH];simp only[↓reduceIte];unfold setAddByScan;show b6 ?_;show b6 (Ul ?_);show b6 (abd (knd:=sK prog w) Ql ho 9 Y UH ?_);let k:(∃e∈n.toList,(sK prog w).is x e.2=4)↔x∈D:=by
  rw[B,<-J.mem_iff,mh];constructor
  .rintro⟨e,he,hi⟩;let(p,l,rfl):=mh.mp he;rw[iU,decide_eq_true_eq]at hi;show#[p,l,hi.symm]
  rintro⟨p,l,e⟩;show#[_,mh.mpr #[p,l,9],by rw[iU];simp[e]]
 cases hr:ſ (λe=>(sK prog w).is x e.2) n.toList with
 |some j =>
  dsimp only
  let(hj,V0,_):=ķ.mp hr;let y:x∈D:=k.mp #[n.toList[j],U2 hj,V0];show cL (cL ?_);let e:s={s with heap:=s.heap}:=by ext s;rfl
  let:=h s.heap (Tx a s.heap) (by rw[if_pos y];show#[L,n,C,t,ho,B,J,ME,Y,hb,Ng,MY]);rw[decide_eq_false (λz=>z y)]at this;rw[e];show this
 |none =>
  dsimp only
  let y:x∉D:=λy=>by let(e,he,l):=k.mpr y;let:=ŷ.mp hr e he;rw[l]at this;show Bool.noConfusion this
  let ab:∀(b:Bool) {q:nc} {r:Unit->nc->6},r () q->g8 (il prog w) A (match b with|true=>rule "set.scan.the-table-gave-way"|false=>pure ()) r E q :=λb q r u=>by cases b<;>first|show cL u|show Ul u
  let H:=layNew_perm t n ((sK prog w).hash x) (.str x o);let N:=layNew_fits t n ((sK prog w).hash x) (.str x o);let O8:=vf t n ((sK prog w).hash x) (.str x o);generalize hL:layNew t n ((sK prog w).hash x) (.str x o)=NL at H N O8 ⊢;let(c,I,Qr,J2):=NL
  dsimp only at H N O8 ⊢
  rw[ϧ,B,show [((sK prog w).hash x,DD x o)]=[(x,o)].map (λp=>((sK prog w).hash p.1,DD p.1 p.2)) from rfl,<-nH]at H;let(L1,e1,ac):=dG H;let Su:c.size=-D+1:=by rw[<-hZ,H.length_eq,eu,ro,<-G,<-hZ,B,eu];rfl
  let V1:c.size<UO:=7
  let RG:(L1.map (·.1)).Perm (D++[x]):=(ac.map _).trans (by rw[nH];show J.append_right _);let Z3:(D++[x]).Nodup:=by
   rw[ti]
   grind
  show b6 (ab _ ?_);let OT:∀i,tr a s.heap i->aX prog w i a led (D++[x])->Q 4 {s with heap:=i }:=λi sb hs=>by let:=h i sb (by rw[if_neg y];show hs);rw[decide_eq_true y]at this;show this
  let v:∀(g:Bool->Sem Unit),(∀(b:Bool) (q:nc) (r:Unit->nc->6),r () q->g8 (il prog w) A (g b) r E q)->∀(R:Option Bool->nc->6),(∀i,tr a s.heap i->aX prog w i a led (D++[x])->R (bD 4) {s with heap:=i })->∀d:Zr,d.fits c.size=4->d.led=led->d.plain=dt->g8 (il prog w) A (do
    aao a c d
    if (!Qr&&d.tooFull)=4 then do
      g (Ĕ d c (Sq c.size)).2.2
      aao a (Ĕ d c (Sq c.size)).1 (Ĕ d c (Sq c.size)).2.1
      pure (bD 4)
     else pure (bD 4)) R E s:=by
   intro g hg R hR d ag Pn Rb;show b6 (Ò ho 9 ?_ (Õ V1));let Pw:(s.heap.update a (Ua c d)).get? a\{cls:=.type "set",dict:=cK,data:=.set c (C+1) d}:=by let:=N1 (Ua c d) ho 9;show this
   let Qs:=Po s.heap a (Ua c d);split
   .let l:=relayAll_perm d c (Sq c.size);let Qt:=relayAll_fits d c (Sq c.size);let Sv:=qR d c (Sq c.size);let TJ:=m9 d c (Sq c.size) Rb;generalize X3:Ĕ d c (Sq c.size)=Rl at l Qt Sv TJ ⊢;let(m,T,Z4):=Rl
    dsimp only at l Qt Sv TJ ⊢
    rw[e1]at l;let(L2,e2,al):=dG l;let am:m.size=c.size:=by rw[<-hZ,l.length_eq,<-e1,hZ]
    show b6 (hg _ _ _ ?_);show b6 (Ò Pw 9 ?_ (Õ (by omega)));let QL:((s.heap.update a (Ua c d)).update a (Ua m T)).get? a\{cls:=.type "set",dict:=cK,data:=.set m (C+1+1) T}:=N1 (Ua m T) Pw 9;show cL (hR _ (Qs.trans (Po _ a _)) #[L2,m,_,T,QL,e2,(al.map _).trans RG,Z3,Qt,by omega,Sv.trans Pn,.inr TJ])
   show cL (hR _ Qs #[L1,c,_,d,Pw,e1,RG,Z3,ag,V1,Pn,.inr Rb])
  split
  .rename_i l;show b6 ?_;rw[hashByValue_scannable 0x8 rfl];show cL ?_;let C:(if plainKind (DD x o)=4 then I else {I with plain:=dt})={I with plain:=dt}:=9;rw[C];show v _ ?_ _ ?_ {I with plain:=dt} (SetTable.fits_plain_off N) (O8.trans Ng) 9
   .intro b q r u;cases b<;>first|show cL u|show Ul u
   intro i Px Py;dsimp only;show cL (OT i Px Py)
  rename_i l;show b6 (cL ?_);simp only[↓reduceIte];show v _ ?_ _ ?_ I N (O8.trans Ng) (aab.mpr l)
  .intro b q r u;cases b<;>first|show cL u|show Ul u
  intro i Px Py;dsimp only;show cL (OT i Px Py)
def ng(D:↑5)(x:5):↑5:=if x∈D then D else D++[x]
def aY(l:↑5):↑5:=l.foldl ng []
theorem vg(h:D.Nodup):(ng D x).Nodup:=by
  unfold ng;split
  · exact h
  · rename_i hx
    rw[ti]
    exact ⟨h, by simp, fun y hy z hz => by let : z = x := by simpa using hz
                                           subst this;rintro rfl;exact hx hy⟩
theorem f_:∀(l D:↑5),D.Nodup->(l.foldl ng D).Nodup/\(∀x,x∈l.foldl ng D↔x∈D\/x∈l)/\-l.foldl ng D<=-D+ -l
 |[],D,h=>#[h,by simp,by simp]|y::l,D,h=>by
  let(a,b,d):=f_ l _ (vg h);let c:∀x,x∈ng D y↔x∈D\/x=y:=λx=>by
   unfold ng;split
   .simp_all
   simp
  let hl:-ng D y<=-D+1:=by
   unfold ng;split
   .lia
   simp
  show#[a,λx=>?_,by grind];rw[ŕ,b,c,gs,or_assoc]
def eB(l):((aY l).Nodup):=(f_ l [] Z5).1
def c7(l)(x):x∈aY l↔x∈l:=by rw[aY,(f_ l [] Z5).2.1];simp
def dH(l):-aY l<=-l:=by let:=(f_ l [] Z5).2.2;simpa[aY] using this
def sI(l)(x):aY (l++[x])=ng (aY l) x:=by unfold aY;simp
def oZ(a) (h:Q₁ (.ref ↥s) {s with heap:=s.heap.push {cls:=.type "set",dict:=cK,data:=.set #v[] 0 (.fresh 0 0 (!w.params.followText "set-order"))}}) :
  æ (il prog w) A (.call (.builtin "set.__new__") #[[.type "set",a],[]]) (wants Q₁ E) s:=by
 show codeAny_of_tree ?_;show b6 (Ÿ (F.newCall_set_1 a) (cL #[ņ F.plain_set_new _,VO F.entry_set_new ?_]));let b:=Ś
 wp_walk
 show à (cL ?_);show b6 (aan (cL ?_));show cL h
def jg(b:h.get? a\{cls:=.type "set",dict:=cK,data:=.set #v[] 0 (.fresh 0 0 led)}):aX prog w h a led [] :=#[[],#v[],0,_,b,9,.nil,Z5,9,by decide,9,.inl 9]
def sub_tuple_set:Ů (.type "tuple") (.type "set")=pure dt:=by rw[isSubtype_type];rfl
def sub_tuple_frozenset:Ů (.type "tuple") (.type "frozenset")=pure dt:=by rw[isSubtype_type];rfl
section
variable{prog:B'}{w:Q2}{A:Ç}{R:Result->nc->6}{I:mn}{fp wr:List mn}{G:Array GenState->Array GenState->6}{n:8}{P:8->ki->6}{St:8->nc->6}
def AL(W:WalksS prog w A.in1 I fp wr G n P St)(r:S∉fp){SP:8->UD->6}{h0:UD}(Qt:∀b∈S::wr,h0.get? b=cK) (t:∀i h c,SP i h->(∀o,h.get? S\o->c.get? S\o)->SP i c) (D:∀i v s Q E,i<n->P i v->SP i s.heap->(∀b o,h0.get? b\o->s.heap.get? b\o)->(∀b c g,s.toks<=g->tr S s.heap c->SP (i+1) c->Q b {s with heap:=c,toks:=g})->g8 (il prog w) A.in1 (setAdd S v) Q E s) :∀k i s,n - i=k->i<=n->St i s->SP i s.heap->(∀b o,h0.get? b\o->s.heap.get? b\o) -> (∀a,Moved (S::wr) G s a->SP n a.heap->R (.ok (.ret .none)) a) ->
   æ (il prog w) A (.builtin "set.update.loop" ⟨[.ref S,.ref I],[]⟩) R s:=by
 let u:S∉wr:=λh=>r (W.sub _ h);let x:∀b∈wr,b∈S::wr:=λb f=>kj _ f;intro k;induction k with
 |zero =>
  intro i s hk H j l y m;let J:i=n:=7
  subst J;show VO ø ?_;change g8 _ A.in1 (Ô (.ref I) >>= _) _ _ s;show b6 (W.done s _ _ j λa d=>?_);change g8 _ A.in1 (ret M6) _ _ a;show cL (m a (d.mono x) (t _ _ _ l λ_ ho=>d.heap S _ u ho))
 |succ k N =>
  intro i s hk H j l y m;let p:i<n:=by omega
  show VO ø ?_;rw[đ ö _];change g8 _ A.in1 (Ô (.ref I) >>= _) _ _ s;show b6 (W.item i s _ _ p j λv a T Y d=>?_);let B:∀b o,h0.get? b\o->a.heap.get? b\o:=λb o e=>d.heap b o (λz=>by left) (y b o e);change g8 _ A.in1 (Vx [v] (setAdd S v) >>= _) _ _ a;show b6 (ve (D i v a _ _ p T (t _ _ _ l λ_ ho=>d.heap S _ u ho) B λ_ c g C q QN=>?_));show cL #[ņ ö _,N (i+1) _ (by omega) p (W.frame _ a _ _ Y C λb f o e=>?_) QN (λb o e=>?_) λUr X5 X6=>?_]
  .rw[q.2 b (λh:b=S=>r (by left))];show e
  .change c.get? b\o;rw[q.2 b (λh:b=S=>by left)];show B b o e
  show m Ur (Moved.trans W.gtrans ((d.mono x).then_heap C λb o f e=>?_) X5) X6;rw[q.2 b (λh:b=S=>f (by rw[h];show my))];show e
end
abbrev aF(w:Q2):Bool:=!w.params.followText "set-order"
abbrev qT(led:Bool):Obj:={cls:=.type "set",dict:=cK,data:=.set #v[] 0 (.fresh 0 0 led)}
def jK{j:↑ki}{SP:8->UD->6} (u:s.TypeIs (.ref l) T) (ac:Ů (.type T) (.type "set")=pure dt) (ag:Ů (.type T) (.type "frozenset")=pure dt) (M_:(YS T==YS "dict")=dt) (OC:∀h,h.get? ↥s\qT (aF w)->SP 0 h) (Nm:∀i h a,SP i h->(∀o,h.get? ↥s\o->a.get? ↥s\o)->SP i a) (PX:∀B i v d Q E,B.units<=A.units+3->j[i]?\v->SP i d.heap->(∀b o,s.heap.get? b\o->d.heap.get? b\o)->(∀b a f,d.toks<=f->tr ↥s d.heap a->SP (i+1) a->Q b {d with heap:=a,toks:=f})->g8 (il prog w) B (setAdd ↥s v) Q E d) (x:∀d B n,B.handled=A.handled->(∀b o,s.heap.get? b\o->d.heap.get? b\o)->↥s<↥d ->
   (∀I y C G P St k,WalksS prog w B.in1 I y C G ⇑j P St->(∀g p,G g p->p=g)->↥s∉y->(∀b∈C,↥s<b)->(∀i v,P i v->j[i]?\v)->St 0 {d with heap:=k}->(∀b o,d.heap.get? b\o->k.get? b\o)->n (.ref I) {d with heap:=k})->g8 (il prog w) B (Ŭ (.ref l)) n E d)
  (h:∀a f,SP ⇑j a->(∀b o,b<↥s->s.heap.get? b\o->a.get? b\o)->Q (.ref ↥s) {s with heap:=a,toks:=f}) :
  g8 (il prog w) A (Zl (.type "set") [.ref l]) Q E s:=by
 let(c,tl,al):=F.called_set.mro;let Z6:=F.called_set.made;let PV:=F.called_set.sub;show aaM (codeAny_of_tree ?_);change g8 _ _ (callAny (.type "set") _) _ _ _;show cL #[Ϡ _ (by decide +kernel),VO F.entry_type_call ?_];rw[Around.under_plain (weight_type_call_type "set" [.ref l] []) rfl];let k:=F.called_set.notType;let h2:=F.called_set.canCreate;let an:=F.typeCall_set_1 (.ref l)
 repeat (any_goals (first|assumption|wp_step))
 show ó (oZ (.ref l) (E:=E) (Q₁:=λm s₁=>m=.ref ↥s/\s₁={s with heap:=s.heap.push (qT (aF w))}) ⟨9,9⟩) λr s₁ D=>?_;cases r with
 |error e=>show D|ok fl =>
  cases fl with
  |ret m =>
   let(rfl,rfl):=D;let hS:(s.heap.push (qT (aF w))).get? ↥s\qT (aF w):=hU _ 9;let hT:ð {s with heap:=s.heap.push (qT (aF w))} (.ref ↥s) "set":=#[_,hS,9]
   let ap:=F.called_set.init.lookup;let X7:=F.called_set.init.bind (.ref ↥s)
   repeat (any_goals (first|assumption|wp_step))
   show ó (codeAny_call_builtin (R:=wants (λr s₂=>r=.none/\∃a f,s₂={s with heap:=a,toks:=f} /\
     SP ⇑j a /\
     (∀b o,b<↥s->s.heap.get? b\o->a.get? b\o)) E) F.called_set.init.plain F.entry_set_init (check_set_init_1 hT ?_)) λr₂ s₂ H=>?_
   .let(ol,UK,QI):=u;let(am,UL,UM,Sw):=ol;simp only at QI;subst QI;let X9:(s.heap.push (qT (aF w))).get? l\{cls:=.type T,dict:=UL,data:=UM,slots:=Sw}:=cn _ UK;let Z7:ð {s with heap:=s.heap.push (qT (aF w))} (.ref l) T:=#[_,X9,9]
    unfold ZY.«set.__init__» noKeywords aau;generalize J:Ŭ=PI
    wp_walk
    subst J;show x {s with heap:=s.heap.push (qT (aF w))} _ _ 9 (λb o e=>cn _ e) (by simp) λI y C G P St k W hG hf Z8 X_ Mt hk=>?_;show b6 (Τ ?_);show AL W hf (SP:=SP) (h0:=s.heap) (λb hb=>?_) Nm (λi v s2 n E' _ hv=>PX _ i v s2 n E' ?_ (X_ i v hv)) (-j - 0) 0 _ 7 (ri _) Mt (OC _ (hk _ _ hS)) (λb o e=>hk _ _ (cn _ e)) ?_
    .let V2:↥s<=b:=by
      obtain z|z:=gs.mp hb
      .show Ď z.symm
      show VH (Z8 b z)
     cases q:s.heap.get? b with
     |none=>rfl
     |some o=>show absurd (i8 q) (Nat.not_lt_of_le V2)
    .show i9 _
    intro s' t N;let(a,p,d',Y,Xu):=s';let eg:p=s.gens:=hG _ _ t.gens;let ed:d'=s.drawn:=t.drawn;let eo:Xu=s.os:=t.os;subst eg;subst ed;subst eo;change g8 _ _ _ _ _ _;show cL ?_;change g8 _ _ (ret M6) _ _ _;show cL #[9,a,Y,9,N,λb o N8 e=>?_];show t.heap b o (λz=>by
     obtain z|z:=gs.mp z
     .rw[z]at N8;show OH _ N8
     show absurd (Z8 b z) (Nat.not_lt_of_lt N8)) (hk _ _ (cn _ e))
   cases r₂ with
   |error e=>show H
   |ok ab =>
    cases ab with
    |ret r =>
     let(rfl,a,f,rfl,N,Ny):=H
     repeat (any_goals (first|assumption|wp_step))
     show h _ _ N Ny
    |_=>show H.elim
  |_=>show D.elim
theorem wW:∀{a}{b},õ a b->∀(i:8) v,a[i]?\v->∃x t,b[i]?\x/\v=.str x t|_,_,.nil,i,v,h=>by simp at h|_,_,.cons x t h,0,v,e=>by simp at e;show#[x,t,9,e.symm]|_,_,.cons x t h,i+1,v,e=>by show wW h i v e
theorem nh:∀{a}{b},õ a b->-a=-b|_,_,.nil=>9|_,_,.cons x t h=>by simp[nh h]
def wX(a:n≠S)(b:n≠l):n∉[S,l]:=by simp[a,b]
def jL{c:↑ki}{SP:8->UD->6}(q:A.handled=cK)(hl:s.heap.IsList l c.toArray\/s.heap.IsTuple l c.toArray) (t:∀h,h.get? ↥s\qT (aF w)->SP 0 h) (u:∀i h d,SP i h->(∀o,h.get? ↥s\o->d.get? ↥s\o)->SP i d) (x:∀B i v a Q E,B.units<=A.units+3->c[i]?\v->SP i a.heap->(∀b o,s.heap.get? b\o->a.heap.get? b\o)->(∀b d j,a.toks<=j->tr ↥s a.heap d->SP (i+1) d->Q b {a with heap:=d,toks:=j})->g8 (il prog w) B (setAdd ↥s v) Q E a) (h:∀d j,SP ⇑c d->(∀b o,b<↥s->s.heap.get? b\o->d.get? b\o)->Q (.ref ↥s) {s with heap:=d,toks:=j}) :g8 (il prog w) A (Zl (.type "set") [.ref l]) Q E s:=by
 let y:c.toArray.size=-c:=9;obtain hl|hl:=hl
 .let g:=let ⟨o,ho,_⟩:=hl;i8 ho;show jK hl.typeIs F.sub_list_set F.sub_list_frozenset (by decide) t u x (λa B z k hk f m=>?_) h;let O8:a.heap.IsList l c.toArray:=let ⟨o,ho,r⟩:=hl;⟨o,hk _ _ ho,r⟩;let W:=(abj (prog:=prog) (w:=w) (A:=B.in1) (by simp[k,q]) ↥a l (lx (Ń g f)) c.toArray).toS;rw[y]at W;show Ć O8 (m _ _ _ _ _ _ _ W (λ_ _ e=>e) (wX (lx f) (O6 g)) (λb n=>by rw[js.mp n];omega) (λi v p=>by exists p) ⟨⟨_,hU _ 9,9,9⟩,O8.push _⟩ λb o e=>cn _ e)
 let g:=let ⟨o,ho,_⟩:=hl;i8 ho;show jK hl.typeIs sub_tuple_set sub_tuple_frozenset (by decide) t u x (λa B z k hk f m=>?_) h;let O8:a.heap.IsTuple l c.toArray:=let ⟨o,ho,r⟩:=hl;⟨o,hk _ _ ho,r⟩;let W:=(Walks.tuple (prog:=prog) (w:=w) (A:=B.in1) (by simp[k,q]) ↥a l (lx (Ń g f)) c.toArray).toS;show Xw O8 (m _ _ _ _ _ _ _ W (λ_ _ e=>e) (wX (lx f) (O6 g)) (λb n=>by rw[js.mp n];show f) (λi v p=>by exists p) ⟨⟨_,hU _ 9,9,9⟩,let ⟨o,ho,r⟩:=O8;⟨o,cn _ ho,r⟩⟩ λb o e=>cn _ e)
def eC(j:A.handled=cK)(hl:s.heap.IsList l f.toArray\/s.heap.IsTuple l f.toArray)(g:õ f c)(z:-c+1<UO) (h:∀a d,aX prog w a ↥s (aF w) (aY c)->(∀b o,b<↥s->s.heap.get? b\o->a.get? b\o)->Q (.ref ↥s) {s with heap:=a,toks:=d}) :g8 (il prog w) A (Zl (.type "set") [.ref l]) Q E s:=by
 show jL (SP:=λi h=>aX prog w h _ _ (aY (c.take i))) j hl (λh e=>jg e) (λi h a x k=>x.at k) (λB i v C Q E _ m n _ q=>?_) λa d x k=>h a d (by rwa [nh g,aah]at x) k;let(x,t,p,rfl):=wW g i v m;show ve (b6 ((sK prog w).pyHash (k:=x) (by rw[iU];simp) ?_));let r:-aY (c.take i)+1<UO:=by let:=dH (c.take i);rw[X4]at this;lia
 show m_  n r λa u y=>q _ a _ (ù _) u ?_;rw[ϻ,p];change aX prog w a _ _ (aY (c.take i++[x]));rw[sI];show y
def qU(b:n≠0)(h:∀i<n,Q i {s with drawn:=s.drawn.bump a}):g8 M A (choose a n) Q E s:=λΓ p c=>by show#[b,h _ (î _ (Ϸ b))]
theorem jh:∀{a:↑α}{i:8}{x:α},a[i]?\x->(x::a.eraseIdx i).Perm a|[],i,x,h=>by simp at h|y::b,0,x,h=>by simp at h;subst h;rfl|y::b,i+1,x,h=>by rw[List.getElem?_cons_succ]at h;show(Ϙ y x _).trans ((jh h).cons y)
theorem iV:∀(n:8) (a:↑α) s Q,-a=n->(∀b d,b.Perm a->Q b {s with drawn:=d})->g8 M A (drawOrder n a) Q E s|0,a,s,Q,c,h=>by let:=Μ.mp c;subst this;show cL (h [] _ (.refl _))|n+1,[],s,Q,c,h=>by simp at c|n+1,y::b,s,Q,c,h=>by show b6 (qU (by simp) λi g=>?_);let e:=vu g;let f:=jh e;generalize (y::b)[i]'g=x at e f;erw[e];show b6 (iV n _ _ _ (by let:=f.length_eq;left) λzs d j=>?_);show cL (h _ d ((j.cons x).trans f))
theorem lE(next):∀(fuel k:8) (left:↑α) a,-left=fuel->(Ş next fuel k left a).toList.Perm (a.toList++left)|0,k,left,a,hl=>by let:=Μ.mp hl;subst this;simp[Ş]|fuel+1,k,left,a,hl=>by unfold Ş;let c:next k % -left< -left:=î _ 7;let e:=vu c;let b:=jh e;erw[e];show(lE next fuel _ _ _ (by let:=b.length_eq;left)).trans ?_;rw[ϧ,VC];show(b.append_left _)
def eW(next)(xs:Array α):(Ϝ next xs).toList.Perm xs.toList:=by
 let:=lE next xs.size 0 xs.toList #v[] (by simp)
 assumption
namespace SI
def sJ:Manifest.owners.lookup (String.ofList ['r','o','t','a','r','e','t','i','_','t','e','s'].reverse)\Manifest.sig_set_iterator:=by rfl
def slot_next:Slot "set_iterator" "__next__" "set_iterator.__next__" :=
 .of (owner:="set_iterator") (n:="__next__") (by rfl) (by rfl) (by rfl) (by rfl)
  (by first|show .inl (by decide +kernel)|show .inr (by decide +kernel)) (by rfl)
def entry_next:aaq table "set_iterator.__next__"\ZY.«set_iterator.__next__»:=entryFor_of_tree (by rfl)
def args_next(a):argsOk "set_iterator.__next__" ⟨[a],[]⟩:=by unfold argsOk;rw[signature?_of  (n:=['_','_','t','x','e','n','_','_'])  (by rfl) sJ];rfl
def pH:Slot "set_iterator" "__iter__" "set_iterator.__iter__" :=
 .of (owner:="set_iterator") (n:="__iter__") (by rfl) (by rfl) (by decide +kernel) (by rfl)
  (by first|show .inl (by decide +kernel)|show .inr (by decide +kernel)) (by rfl)
def yO(a):argsOk "set_iterator.__iter__" ⟨[a],[]⟩:=by unfold argsOk;rw[signature?_of  (n:=['_','_','r','e','t','i','_','_'])  (by rfl) sJ];rfl
def vh:aaq table "set_iterator.__iter__"\ZY.«dict_keyiterator.__iter__» :=Φ (id':="dict_keyiterator.__iter__") (by rfl) (by rfl) (by decide +kernel) (by rfl)
def ni:aaq table "set.__iter__"\ZY.«frozenset.__iter__» :=Φ (id':="frozenset.__iter__") (by rfl) 9 (by decide +kernel) (by rfl)
end SI
section
variable{prog:B'}{w:Q2}{A:Ç}{E:ki->nc->6}{s:nc}
def ji(h:UD)(I:mn)(first:ki)(i:8)(S:mn)(n a:8):6:=∃o,h.get? I\o/\o.cls=.type "set_iterator"/\o.data=.fields #v[first,Qg i,.ref S,Qg n,Qg a]
def ji.typeIs(x:ji s.heap I f i S n b):s.TypeIs (.ref I) "set_iterator":=let ⟨o,ho,a,_⟩:=x;⟨o,ho,a⟩
def D3(a:ji s.heap I f i S n b)(h:Q (.ref I) s):g8 (il prog w) A (Ŭ (.ref I)) Q E s:=by show aa1 a.typeIs SI.pH (NB SI.pH a.typeIs SI.vh ?_ (SI.yO _));show cL #[_,9,_,_,a.typeIs,SI.slot_next.lookup,h]
def gb(h:Q (M.w.params.followText "set-order") s):g8 M A setsByText Q E s:=by show b6 (à (cL h))
end
end L2
namespace L2
open PySem PySem.Spec PyProof.Rows
section
variable{prog:B'}{w:Q2}{A:Ç}{E:ki->nc->6}{s:nc}
abbrev iO(a:Array (Int×ki))(b:8)(t:Zr):Obj:={cls:=.type "set",dict:=cK,data:=.set a b t}
def sM{I:mn}{B}{Q:Option ki->nc->6}{d}{k:ki->Sem (Option ki)}(f:B.handled=cK) (g:∀c,(∀b o,d.get? b\o->c.get? b\o)->∀e,ð {s with heap:=c } e "StopIteration"->E e {s with heap:=c }) {h} :g8 (il prog w) B (newExc (.type "StopIteration") [] >>= λe=>(raiseNew e:Sem Fin)) h E {s with heap:=d}:=by show b6 ?_;show b6 (m:=firstArgMember _ _) (Ÿ (a:=M6) (by rfl) ?_);show Pu ?_ (by size_fits);show b6 (wpAny_handled ?_);rw[f];show b6 (cL (wpAny_throw ?_));show g _ (λb o e=>cn _ (cn _ e)) _ ⟨_,hU _ 9,9⟩
def wY{I S}{first}{i f}{g}{t}(c:ji s.heap I first i S g.size f)(ho:s.heap.get? S\iO g f t)(k:t.fits g.size=4) (l:∀h j ,(∀v a,Q (bD v) a->h (.done (.ret v)) a)->(∀e a,a.TypeIs e "StopIteration"->Q cK a->j e a) ->
   g8 (il prog w) A.in1 (if let .int slot _:=first then(do
     match <-setNext S slot.toNat i f with
     |some (x,next) =>
      ś (.ref I) 0 (Qg next)
      ś (.ref I) 1 (Qg ((i:Int)+1))
      ret x
     |none=>ś (.ref I) 2 .none;raiseNew (<-newExc (.type "StopIteration") []))
    else(do
     let bD b <-seqItems? first|unsupported "internal:set_iterator"
     match b[i]? with
     |some (.int place _) =>
      let x <-Ϫ S place.toNat f
      ś (.ref I) 1 (Qg ((i:Int)+1))
      ret x
     |some _=>Ź "internal:set_iterator"|none=>ś (.ref I) 0 (Qg 0);ś (.ref I) 2 .none;raiseNew (<-newExc (.type "StopIteration") []))) h j s):g8 (il prog w) A (Ô (.ref I)) Q E s:=by
 let(o,m,p,n):=id c;show b6 (ń (Qi  c.typeIs SI.slot_next
  (NB SI.slot_next c.typeIs SI.entry_next ?_ (SI.args_next _))))
 show b6 (Ÿ  9 ?_);show b6 (wpAny_fieldsOf m n ?_);show b6 (ï ho 9 k ?_);rw[if_neg (by simp)];show Ox (l (λd a=>∃r,d=.done (.ret r)/\Q (bD r) a) (λe a=>a.TypeIs e _/\Q cK a) (λv a q=>#[v,9,q]) λe a z q=>#[z,q]) ?_ ?_
 .rintro d a ⟨r,rfl,q⟩;show#[r,9,cL q]
 rintro e a ⟨z,q⟩;show b6 (Uv   z Υ ?_);show cL q
end
def wZ{I S}{f f':ki}{i n a:8}{h:UD}{o}(c:h.get? I\o)(d:o.cls=.type "set_iterator")(b:o.data=.fields #v[f,Qg i,.ref S,Qg n,Qg a]):ji (h.update I (aa8 (·.setIfInBounds 1 (Qg ((i:Int)+1))))) I f (i+1) S n a :=#[_,N1 _ c (Ę (Xs b _)),(ŀ ..).trans d,by rw[Xs b];simp]
def sN{h:UD}(c:h.get? I\o)(d:o.cls=.type "set_iterator")(b:o.data=.fields #v[f,Qg i,.ref S,Qg n,Qg e]):∃a,(h.update I (aa8 (·.setIfInBounds 0 f'))).get? I\a/\a.cls=.type "set_iterator"/\a.data=.fields #v[f',Qg i,.ref S,Qg n,Qg e] :=#[_,N1 _ c (Ę (Xs b _)),(ŀ ..).trans d,by rw[Xs b];simp]
def AM{I S}{slot i f:8}{g}{t}{Q}(c:ji s.heap I (Qg slot) i S g.size f)(ho:s.heap.get? S\iO g f t)(u:t.fits g.size=4)(hh:A.handled=cK)
  {r} (v:∀B m (h:Option (ki× 8)->nc->6),h r s->g8 (il prog w) B (setNext S slot i f) h m s)
  (y:∀x d,r\(x,d)->∀a,ji a I (Qg d) (i+1) S g.size f->tr I s.heap a->Q (bD x) {s with heap:=a })
  (z:r=cK->∀a,(∀b o,b≠I->s.heap.get? b\o->a.get? b\o)->Q cK {s with heap:=a }):g8 (il prog w) A (Ô (.ref I)) Q E s:=by
 show wY c ho u λh m C D=>?_;let(o,j,G,l):=id c;show b6 (v _ _ _ ?_);cases r with|some p=>let(x,d):=p;show b6 (Xk j l (by simp) ?_);let(o',n,H,q):=sN  j G l;show b6 (Xk  n q (by simp) ?_);show cL (C _ _ (y x d 9 _ (wZ (f':=Qg d) n H q) ((Po ..).trans (Po ..))))|none=>show b6 (Xk j l (by simp) ?_);show sM (I:=I) (k:=λ_=>pure cK) (Q:=λ_ _=>True)  (by omega) λa hk e J=>D e _ J (z 9 a λb N T Y=>hk b N ?_);rw[Yr _ _ _ _ T];show Y
def Hk{I S T}{i g}{a}{t}{d:↑8}{Q:Option ki->nc->6}(f:ji s.heap I (.ref T) i S a.size g)(ho:s.heap.get? S\iO a g t)(u:t.fits a.size=4)(hh:A.handled=cK) (z:s.heap.IsTuple T ((d.map λ(j:Nat)=>Qg j).toArray)) (B:∀j e,d[i]?\j->a[j]?\e->∀c,ji c I (.ref T) (i+1) S a.size g->tr I s.heap c->Q (bD e.2) {s with heap:=c }) (C:∀j∈d,j<a.size) (D:d[i]?=cK->∀c,(∀b o,b≠I->s.heap.get? b\o->c.get? b\o)->Q cK {s with heap:=c }):g8 (il prog w) A (Ô (.ref I)) Q E s:=by
 show wY f ho u λQ' E' G H=>?_;let(o,h,v,l):=id f;let(oT,m,J,nT,n):=z;change g8 _ _ (seqItems? (.ref T) >>= _) _ _ s;show b6 (Qw m n ?_);cases e:d[i]? with
 |some j =>
  let q:(d.map λ(j:Nat)=>Qg j).toArray[i]?\Qg j:=by simp[e]
  erw[q];let x:j<a.size:=C j (rD e);let r:a[j]?\a[j]'x:=by simp
  change g8 _ _ (Ϫ S (j:Int).toNat g >>= _) _ _ s;unfold Ϫ;rw[Ê];show b6 (b6 (rl ho 9 u ?_))
  dsimp only
  rw[if_neg (by simp)];generalize a[j]'x=p at r;erw[r];show cL ?_;show b6 (Xk h l (by simp) ?_);show cL (G _ _ (B j p e r _ (wZ (f':=.ref T) h v l) (Po ..)))
 |none =>
  let q:(d.map λ(j:Nat)=>Qg j).toArray[i]?=cK:=by simp at e ⊢;show e
  erw[q];show b6 (Xk h l (by simp) ?_);let(o',N,e2,Y):=sN (f':=Qg 0) h v l;show b6 (Xk  N Y (by simp) ?_);show sM (I:=I) (k:=λ_=>pure cK) (Q:=λ_ _=>True) (s:=s) (by omega) λc hk ex he=>H ex _ he (D e c λb ob y eb=>hk b ob ?_);rw[Yr _ _ _ _ y,Yr _ _ _ _ y];show eb
def ji.at(x:ji h I f i S n a)(e:∀o,h.get? I\o->h'.get? I\o):ji h' I f i S n a:=let ⟨o,ho,r⟩:=x;⟨o,e _ ho,r⟩
def nj(u:A.handled=cK)(p:S≠I)(y:t.fits es.size=4)(T)(q:T≠I)(d:↑ki)(l:-d=es.size) (first:8->ki) (c:UD->6) (m:∀h a,c h->(∀o,h.get? T\o->a.get? T\o)->c a) (n:∀s i E Q,i<=es.size->c s.heap->ji s.heap I (first i) i S es.size ep->s.heap.get? S\iO es ep t ->
   (∀x,d[i]?\x->∀a,ji a I (first (i+1)) (i+1) S es.size ep->tr I s.heap a->Q (bD x) {s with heap:=a }) ->
   (d[i]?=cK->∀a,(∀b o,b≠I->s.heap.get? b\o->a.get? b\o)->Q cK {s with heap:=a })->g8 (il prog w) A (Ô (.ref I)) Q E s) :
  Walks prog w A I [I,S,T] [I] es.size (λi v=>d[i]?\v) (λi h=>i<=es.size/\ji h I (first i) i S es.size ep/\h.get? S\iO es ep t/\c h) where
 sub:=λb g=>by left
 frame:=λi h a x hk=>#[x.1,x.2.1.at λo e=>hk I (by simp) o e,hk S (by simp) _ x.2.2.1,m h a x.2.2.2 λo e=>hk T (by simp) o e]
 item:=λi s Q E r x f=>by
  show n s i E Q x.1 x.2.2.2 x.2.1 x.2.2.1 (λv j a k hs=>?_) λz=>absurd z (by simp;omega);show f v a s.toks j #[r,k,?_,m _ a x.2.2.2 λo e=>?_] λb o g e=>?_
  .rw[hs.2 S p];show x.2.2.1
  .rw[hs.2 T q];show e
  rw[hs.2 b λz=>g (by simp[z])];show e
 done:=λs Q E x f=>by show n s _ E Q x.1 x.2.2.2 x.2.1 x.2.2.1 (λv j=>absurd j (by left)) λ_ a hk=>f a _ λb o g e=>hk b o (λz=>g (by simp[z])) e
 self:=λi s Q E x f=>D3 x.2.1 f
def qV(ho:s.heap.get? S\iO a c t)(b:t.fits a.size=4)(h:Q (!w.params.followText "set-order"&&(!t.plain&&gi (a.size>1))) s):g8 (il prog w) A (setDrawn S) Q E s:=by show b6 (rl ho 9 b ?_);show b6 (gb (cL h))
def qW(a:w.params.followText "set-order"=4)(ho:s.heap.get? S\iO b c t)(d:t.fits b.size=4) (h:Q ((Ϝ (w.params.setOrder S c) b)[i]?.map λe=>(e.2,0)) s):g8 (il prog w) A (setNext S 0 i c) Q E s:=by show b6 (rl ho 9 d ?_);change g8 _ _ (if (w.params.followText _)=4 then _ else _) _ _ s;rw[if_pos a];rw[if_neg (by simp)];show b6 (b6 (rl ho 9 d ?_));change g8 _ _ (if (w.params.followText _)=4 then _ else _) _ _ s;rw[if_pos a];show b6 (à (cL ?_));show cL h
theorem sO(hw:w.params.followText "set-order"=dt)(ho:s.heap.get? S=bD (iO es ep t))(hf:t.fits es.size=4)(hl:t.led=4)(h1:es.size<=1)
    (h:Q (match es[tA t.place slot]?,t.place[tA t.place slot]? with|some (_,x),bD j=>bD (x,j+1)|_,_=>cK) s):g8 (il prog w) A (setNext S slot i ep) Q E s:=by
  refine b6 (rl ho 9 hf ?_);show g8 _ _ (if (w.params.followText _)=4 then _ else _) _ _ s;rw[if_neg (by rw[hw];simp)];show g8 _ _ (if (!t.plain&&decide _)=4 then _ else _) _ _ s
  rw [if_neg (by have : decide (es.size > 1) = false := decide_eq_false (by omega)
                 rw[this];simp)]
  show g8 _ _ ((if (!t.led&&!es.isEmpty)=4 then _ else _) >>= _) _ _ s;rw[if_neg (by rw[hl];simp)];exact b6 (cL (cL h))
def sQ(b:Array (Int×ki))(a)(i)(d:b.size<=1)(f:a.size=b.size)(c:i<=b.size):(match b[tA a (if i=0 then 0 else(a[0]?).getD 0+1)]?,a[tA a (if i=0 then 0 else(a[0]?).getD 0+1)]? with|some (_,x),bD j=>bD (x,j+1)|_,_=>cK)=b[i]?.map λe=>(e.2,(a[0]?).getD 0+1):=by
 let⟨b⟩:=b;let⟨a⟩:=a
 match b,a,d,f,c with
 |[],[],_,_,c=>simp|[e],[p],_,_,c =>
  match i,c with
  |0,_=>rfl
  |1,_ =>
   let:tA #v[p] (p+1)=1:=by simp[tA,Ī]
   simp[this]
  |n+2,h=>simp at h
 |[],_::_,_,h,_=>simp at h|[_],[],_,h,_=>simp at h|[_],_::_::_,_,h,_=>simp at h|_::_::_,_,h,_,_=>simp at h
def AN(J:B.handled=cK)(hS:aX prog w s.heap S (aF w) D) (h:∀I fp n P St (d:↑5) m d',Walks prog w B I fp [I] n P St->d.Perm D->n=-d->(∀i v,P i v->∃x tk,d[i]?\x/\v=.str x tk)->↥s<=I->(∀b∈fp,b=S\/↥s<=b)->St 0 m ->
   (∀b o,s.heap.get? b\o->m.get? b\o)->Q (.ref I) {s with heap:=m,drawn:=d' }):g8 (il prog w) A (Ŭ (.ref S)) Q E s:=by
 let(L,a,N,t,ho,M9,Mq,ME,c,y,Ng,MY):=hS;let Z9:s.TypeIs (.ref S) "set":=#[_,ho,9]
 let Qu:S<↥s:=i8 ho;show aa1 Z9 F.slot_set_iter (NB F.slot_set_iter Z9 SI.ni ?_ (F.args_set_iter_1 _));unfold ZY.«frozenset.__iter__» aaw slotArgs;simp only[List.isEmpty_nil,aaY,PD,↓reduceIte,bind_assoc,List.length_nil,bne_self_eq_false];unfold aaA ĥ;show b6 (cL ?_)
 try dsimp only
 show b6 (cL ?_);show b6 (b6 (ï ho 9 c (cL ?_)));let ac:-D=a.size:=by rw[<-Mq.length_eq,eu,<-hZ,M9,eu]
 let f:∀(l:↑(Int×ki)),l.Perm a.toList->∃d:↑5,d.Perm D/\-d=a.size/\∀(i:8) v,(l.map (·.2))[i]?\v->∃x tk,d[i]?\x/\v=DD x tk:=by intro l hl;rw[M9]at hl;let(L',e',p'):=dG hl;show#[L'.map (·.1),(p'.map _).trans Mq,by rw[((p'.map _).trans Mq).length_eq,ac],λi v T=>?_];subst e';rw[lg,mx]at T;rw[mx];cases q:L'[i]? with|none=>rw[q]at T;simp at T|some p=>rw[q]at T;simp at T;show#[p.1,p.2,9,T.symm]
 show b6 (qV ho c ?_);cases hw:w.params.followText "set-order" with
 |true =>
  simp only[aaY,Bool.false_and,PD,↓reduceIte];show b6 (cL ?_);show b6 (b6 (rl ho 9 c (cL ?_)));show b6 (Pu ?_);let C:S≠↥s:=lx Qu;let(d,Y,y2,y3):=f (Ϝ (w.params.setOrder S N) a).toList (eW _ _);let W:=nj (prog:=prog) (w:=w) (A:=B) (I:=↥s) (S:=S) (es:=a) (ep:=N) (t:=t) J C c S C ((Ϝ (w.params.setOrder S N) a).toList.map (·.2)) (by rw[eu,(eW _ _).length_eq,hZ]) (λ_=>Qg 0) (λ_=>True) (λ_ _ _ _=>ttt)
   (λs i E Q _ _ g G k1 k2=>AM (slot:=0) g G c J (λB E' Q' q=>qW hw G c q) (λx nx e m Pc hs=>by rw[i7]at e;let(p,H,e2):=e;ext e2;show k1 _ (by rw[mx,Vs,H];rfl) m Pc hs) (λe=>k2 (by rw[mx,Vs,ý];rwa [ý]at e)))
  show cL #[_,9,"set_iterator",_,#[_,hU _ 9,9],SI.slot_next.lookup,?_];show h _ _ _ _ _ d _ s.drawn W Y y2.symm y3 (i9 _) (λb y=>by grind) ⟨ri _,⟨_,hU _ 9,9,9⟩,cn _ ho,ttt⟩ λb o e=>cn _ e
 |false =>
  by_cases ab:a.size>1
  .let N':t.plain=dt:=by
    obtain z|z:=MY
    .lia
    show z
   let H:(!dt&&(!t.plain&&gi (a.size>1)))=4:=by rw[N',decide_eq_true ab];rfl
   rw[H];simp only[↓reduceIte];show b6 (iV _ _ _ _ Q0 λu d' hp=>?_);erw[newTuple];let Rb:∀j∈u,j<a.size:=λj hj=>by let:=hp.mem_iff.mp hj;exists this
   let UP:-u=a.size:=by rw[hp.length_eq];simp
   show b6 (Pu ?_ (by
    change(u.map λ(j:Nat)=>Qg j).toArray.size<=_;let:a.size<4096:=y;erw[qv,eu,UP];let:4096<=et:=by decide
    lia))
   let PB:(s.heap.push {cls:=.type "tuple",data:=.seq (u.map λ(j:Nat)=>Qg j).toArray}).get? S\iO a N t:=cn _ ho;show b6 (b6 (rl (s:={s with heap:=_,drawn:=d' }) PB 9 c (cL ?_)));show b6 (Pu ?_);let ag:↥s≠(s.heap.push {cls:=.type "tuple",data:=.seq (u.map λ(j:Nat)=>Qg j).toArray}).objs.size:=by rw[YI];show lx (ă _)
   let C:S≠(s.heap.push {cls:=.type "tuple",data:=.seq (u.map λ(j:Nat)=>Qg j).toArray}).objs.size:=by rw[YI];show lx (XA Qu)
   let Sx:(u.map λj=>(a[j]?).getD (0,M6)).Perm a.toList:=by
    show(hp.map _).trans ?_;let:(hW a.size).map (λj=>(a[j]?).getD (0,M6))=a.toList:=by
     apply Sd
     .simp
     intro i h1 h2;simp at h1 ⊢;simp[h1]
    rw[this]
   let(d,Y,y2,y3):=f _ Sx;let W:=nj (prog:=prog) (w:=w) (A:=B) (I:=(s.heap.push {cls:=.type "tuple",data:=.seq (u.map λ(j:Nat)=>Qg j).toArray}).objs.size) (S:=S) (es:=a) (ep:=N) (t:=t) J C c ↥s ag ((u.map λj=>(a[j]?).getD (0,M6)).map (·.2)) (by simp[UP]) (λ_=>.ref ↥s) (λh=>h.IsTuple ↥s (u.map λ(j:Nat)=>Qg j).toArray) (λh m ⟨o,ho,r⟩ k=>#[o,k _ ho,r])
    (λs' i E Q _ Pz g G k1 k2=>Hk g G c J Pz (λj e ej ee m Pc hs=>k1 _ (by rw[mx,mx,ej];simp[ee]) m Pc hs) Rb (λe=>k2 (by rw[mx,mx,e];rfl)))
   show cL #[_,9,"set_iterator",_,#[_,hU _ 9,9],SI.slot_next.lookup,?_];show h _ _ _ _ _ d _ d' W Y y2.symm y3 (by rw[YI];show ù _) (λb y=>?_) ⟨ri _,⟨_,hU _ 9,9,9⟩,cn _ PB,⟨_,cn _ (hU _ 9),9,_,9⟩⟩ λb o e=>cn _ (cn _ e);rw[YI]at y;erw[gs,X1,or_false]at y;obtain rfl|rfl|rfl:=y
   .show .inr (ù _)
   .show .inl 9
   show .inr (i9 _)
  let H:(!dt&&(!t.plain&&gi (a.size>1)))=dt:=by rw[decide_eq_false ab];simp
  rw[H];simp only[PD,↓reduceIte];show b6 (cL ?_);show b6 (b6 (rl ho 9 c (cL ?_)));show b6 (Pu ?_);let C:S≠↥s:=lx Qu;let Ya:t.led=4:=by rw[Ng];change(!w.params.followText "set-order")=4;rw[hw];rfl
  let(d,Y,y2,y3):=f a.toList (.refl _);let O0:t.place.size=a.size:=by unfold Æ at c;left
  let W:=nj (prog:=prog) (w:=w) (A:=B) (I:=↥s) (S:=S) (es:=a) (ep:=N) (t:=t) J C c S C (a.toList.map (·.2)) (by simp) (λi=>Qg (if i=0 then 0 else(t.place[0]?).getD 0+1:8)) (λ_=>True) (λ_ _ _ _=>ttt)
   (λs' i E Q hi _ g G k1 k2=>AM (slot:=if i=0 then 0 else(t.place[0]?).getD 0+1) g G c J (λB E' Q' q=>sO hw G c Ya (by omega) q) (λx nx e m Pc hs=>by
    rw[sQ a t.place i (by omega) O0 hi,i7]at e;let(p,H,e2):=e;ext e2;show k1 _ (by rw[mx,Vs,H];rfl) m ?_ hs;rw[if_neg (Nat.succ_ne_zero i)];show Pc) (λe=>by
    rw[sQ a t.place i (by omega) O0 hi,ý]at e;show k2 (by rw[mx,Vs,e];rfl)))
  show cL #[_,9,"set_iterator",_,#[_,hU _ 9,9],SI.slot_next.lookup,?_];show h _ _ _ _ _ d _ s.drawn W Y y2.symm y3 (i9 _) (λb y=>by grind) ⟨ri _,⟨_,hU _ 9,9,9⟩,cn _ ho,ttt⟩ λb o e=>cn _ e
def sR:aaP (.type "set") "__len__"=pure (bD (.builtin "set.__len__")):=by rw[typeLookup_type,builtinLookup_eq_fast];rfl
theorem nq:∀{a}{b},-a=-b->(∀(i:8) v,a[i]?\v->∃x t,b[i]?\x/\v=.str x t)->õ a b|[],[],_,_=>.nil|[],_::_,h,_=>by simp at h|_::_,[],h,_=>by simp at h|v::a,y::b,h,k=>by let(x,t,c,d):=k 0 v 9;ext c;subst d;show .cons y t (nq (by exists h) λi w e=>k (i+1) w e)
def sT(hh:A.handled=cK)(p:aX prog w s.heap S (aF w) D)(hn:-D<=et) (hQ:∀q d a f r,d.Perm D->õ q d->↥s<=a.objs.size->s.toks<=r->(∀b o,s.heap.get? b\o->a.get? b\o)->Q q {s with heap:=a,drawn:=f,toks:=r}) :g8 (il prog w) A (ϫ (.ref S)) Q E s:=by
 let(L,es,ep,t,ho):=id p;let Qu:S<↥s:=i8 ho;unfold ϫ;show b6 (Τ (VO F.entry_proto_collect ?_));rw[đ F.plain_proto_collect _];change g8 _ A.in1 (newList [] >>= λl=>again (.builtin "list.__iadd__" ⟨[l,.ref S],[]⟩)) _ _ s;show b6 (Pu ?_);show cL #[ņ F.plain_list_iadd _,VO F.entry_list_iadd ?_];rw[đ F.plain_list_iadd _];let u:(s.heap.push {cls:=.type "list",data:=.seq ([]:↑ki).toArray}).get? S\{cls:=.type "set",dict:=cK,data:=.set es ep t}:=cn _ ho;let hT:ð {s with heap:=s.heap.push {cls:=.type "list",data:=.seq ([]:↑ki).toArray}} (.ref S) "set":=#[_,u,9]
 change g8 _ A.in1 (W_ (.ref ↥s) (.ref S) (.ref ↥s)) _ _ _;unfold W_;show b6 (YQ hT ?_);let x:↥s≠S:=O6 Qu;let h1:Ļ (.ref ↥s) (.ref S)=dt:=by simp[Ļ,x]
 let h2:(YS "set"==YS "list")=dt:=by decide
 let h3:(YS "set"==YS "tuple")=dt:=by decide
 erw[h1,h2,h3,Bool.or_false,PD,if_false];show b6 (AN (B:=A.in1) (by exists hh) (p.at λ_ z=>cn _ z) ?_);intro I fp n P St d a f W y C hP G h Mt hk;let j:ð {s with heap:=a,drawn:=f } (.ref S) "set":=#[_,hk _ _ u,9]
 show b6 (ve ?_);unfold abu;show b6 (XB j sR ?_);let N7:splitId "set.__len__"\("set","__len__"):=by decide +kernel
 dsimp only
 rw[N7]
 dsimp only
 show b6 (Uv j Ś ?_);rw[if_neg (by decide)];rw[if_pos (by decide +kernel)];show b6 (YQ j ?_);show cL ?_;rw[if_pos (by decide +kernel)];let H:↥s∉fp:=λc=>by
  obtain z|z:=h _ c
  .show x z
  rw[YI]at z;show absurd z (Nat.not_succ_le_self _)
 let J:a.get? ↥s\{cls:=.type "list",data:=.seq ([]:↑ki).toArray}:=hk _ _ (hU _ 9);show b6 (Ul ?_);show b6 ?_;change g8 _ A.in1 (updateSeq ↥s (·.push .none) >>= λ_=>updateSeq ↥s (·.pop)) _ _ _;show b6 (ħ J 9 ?_);let N:=N1 (Oy (·.push M6)) J 9;show ħ N 9 ?_;let k:=N1 (Oy (·.pop)) N 9;let T:∀b o,b≠↥s->a.get? b\o->((a.update ↥s (Oy (·.push M6))).update ↥s (Oy (·.pop))).get? b\o :=λb o g e=>(ZR _ _ (uk g)).trans ((ZR _ _ (uk g)).trans e)
 show cL #[ņ F.plain_extend_loop _,codeAny_extend_loopS W.toS (by rw[C,y.length_eq];show hn) _ H _ n 0 _ _ _ 9 (ri _) (W.frame 0 a _ Mt λb g o e=>T b o (λz=>H (z▸g)) e) k (ItemsOf.nil P) λY UQ c' c Py Q_=>?_];change g8 _ A (load ↥s >>= _) _ _ Y;show b6 (aaL Py ?_);let(V4,g2,d2,Z_,m):=Y;let eg:g2=s.gens:=c.gens;let ed:d2=f:=c.drawn;let eo:m=s.os:=c.os;subst eg;subst ed;subst eo;show cL (hQ _ d V4 d2 Z_ y (nq (by rw[hZ,Q_.1,C]) λi v hv=>hP i v (Q_.2 i v (by left))) (VH (i8 Py)) c.toks λb o e=>?_);let Z':b≠↥s:=λz=>by rw[z]at e;show absurd (i8 e) (OH _)
 show c.heap b o (λz=>?_) (T b o Z' (hk _ _ (cn _ e)));obtain z|z:=gs.mp z
 .show Z' z
 rw[js.mp z]at e;let:=i8 e;rw[YI]at G;show absurd (pb this (va (ù _) G)) (OH _)
def Inv.drawn(I:Inv X a σ H s)(d:Drawn):Inv X a σ H {s with drawn:=d}:=#[I.ok,I.os,I.bare,I.base,I.loc,I.cell,I.free,I.Nl,I.pin,I.Ms,I.len]
def jM(n:X.calm=4)(I:Inv X d σ H s)(hq:M3 X.K H p (f.map V.str)\/MV X.K H p (f.map V.str))(l:-f+1<UO) (h:∀S a c,aX X.prog X.w a S (aF X.w) (aY f)->Inv X d σ H {s with heap:=a,toks:=c}->Q (.ref S) {s with heap:=a,toks:=c}) :
  ‹X› (Zl (.type "set") [.ref p]) Q X.xe s:=by
 let m:X.A.handled=cK:=I.ok.hd n;obtain hq|hq:=hq
 .let(q,g,i,r):=I.list hq;show eC m (.inl i.isList) (c6 g) l λa c j k=>h _ a c j (I.kept λb o e=>k b o (i8 e) e)
 let(q,g,i,r):=I.tuple hq;show eC m (.inr i) (c6 g) l λa c j k=>h _ a c j (I.kept λb o e=>k b o (i8 e) e)
def iW(l:X.calm=4)(I:Inv X a σ H s)(m:aX X.prog X.w s.heap S (aF X.w) D)(f:-D<64) (q:∀p,H p=cK->Q (.ref p) (upd H p (.lst ((bA D).map V.str)))):‹X› (Zl (.builtin "sorted") [.ref S]) (EP X a σ Q) X.xe s:=by let n:X.A.handled=cK:=I.ok.hd l;let hl:-D<=et:=VH (pb f (by decide));show jf (sT (A:=X.A.in1) (by exists n) m hl λy r c g b h i t z hk=>#[r,i,by rw[nh i,h.length_eq];show f,λB u e v d j=>?_]);rw[lC h]at j;let x:Inv X a σ H {s with heap:=c,toks:=b}:=I.kept (t':=b) hk;let k:Inv X a σ H {s with heap:=c,drawn:=g,toks:=b}:=x.drawn g;show#[.ref c.objs.size,_,k.laid (t':=b) (o:=.lst ((bA D).map V.str)) v (i9 _) #[by rw[eu,eh];show hl,u,e,f9 j,d],9,q _ (k.Ms.fresh (i9 _))]
def nu(I:Inv X a σ H s)(d:aX X.prog X.w s.heap S (aF X.w) D) (q:Q (.int ⇑D) H):‹X› (Zl (.builtin "len") [.ref S]) (EP X a σ Q) X.xe s:=by
 let(L,c,j,t,ho,f,g,k,h,i,l,m):=d;let b:c.size=-D:=by rw[<-hZ,f,eu,<-eu  ,g.length_eq]
 let n:c.size<4096:=i;show call_len_set ho #[9,9,9] 9 h 7 ?_;show#[.int _,_,I.kept  (λ_ _ e=>e),#[_,9],by rw[b];show q]
end L2
namespace Tb
open PySem PySem.SetTable
def run(mask i:8):↑8:=(hW (Ϯ mask i+1 - i)).map (i+·)
def d6(mask:8):8->8->8->↑8|0,_,_=>[]|f+1,i,p=>run mask i++d6 mask f (leap mask i p).1 (leap mask i p).2
def path(mask:8)(h:Int):↑8:=d6 mask (Zp mask) (á h % (mask+1)) (á h)
theorem free_eq(mask)(a):∀f i p,Ø mask a f i p=(d6 mask f i p).find? λj=>(a.getD j (bD 0)).isNone|0,_,_=>9|f+1,i,p=>by rw[Ø,d6,List.find?_append,run,List.find?_map,<-free_eq mask _ f _ _];rw[show((λj=>(a.getD j _).isNone) ∘ λx=>i+x)=λk=>(a.getD _ _).isNone from rfl];cases(hW _).find? _<;>rfl
def D4(mask i):-run mask i<=10:=by
 unfold run Ϯ
 grind
def Hl{mask i j}(a:i<=mask)(h:j∈run mask i):j<=mask:=by
 unfold run Ϯ at h
 grind
def AO(mask i):i∈run mask i:=by
 unfold run Ϯ
 grind
def w_(mask i p):(leap mask i p).1<=mask:=É (î _ (ł _))
theorem pI(mask):∀f i p,-d6 mask f i p<=10 * f|0,_,_=>i9 _|f+1,i,p=>by let:=pI mask f (leap mask i p).1 (leap mask i p).2;let:=D4 mask i;rw[d6,ro];lia
theorem sU{mask j}:∀{f i p},i<=mask->j∈d6 mask f i p->j<=mask
 |0,_,_,_,h=>by ext h|f+1,i,p,a,h=>by
  obtain h|h:=ke.mp h
  .show Hl a h
  show sU (w_ mask i p) h
def AQ(mask)(h):-path mask h<=10 * Zp mask:=pI ..
def D5{mask j}(a:j∈path mask h):j<=mask:=sU (É (î _ (ł _))) a
def st(mask i:8):8:=(i * 0x5+1) % (mask+1)
def it(mask:8):8->8->8|0,i=>i|k+1,i=>it mask k (st mask i)
theorem qX(mask):∀a b i,it mask (a+b) i=it mask b (it mask a i)|0,b,i=>by rw[È];rfl|a+1,b,i=>by rw[Ϲ];show qX mask a b _
theorem AR{mask}:∀{k f i},k<f->it mask k i∈d6 mask f i 0|0,f+1,i,_=>Uk _ (AO mask i)|k+1,f+1,i,h=>by show tj _ ?_;show AR   7
structure Good(mask:8):6 where
 all:∀j,j<=mask->∃k,k<=mask/\it mask k 0=j
 round:it mask (mask+1) 0=0
def Good.cover{mask}(g:Good mask)(c:i<=mask)(d:j<=mask):∃k,k<=mask/\it mask k i=j:=by
 let(a,e,rfl):=g.all i c;let(b,f,rfl):=g.all j d;by_cases h:a<=b
 .show#[b - a,7,?_];rw[<-qX,show a+(b - a)=b by lia]
 show#[mask+1+b - a,by omega,?_];rw[<-qX,show a+(mask+1+b - a)=mask+1+b by lia,qX,g.round]
def Yc(mask:8):8->8->↑8|0,_=>[]|k+1,i=>i::Yc mask k (st mask i)
theorem xb{mask j}:∀{k i},j∈Yc mask k i->∃m,m<k/\it mask m i=j
 |0,_,h=>by ext h|k+1,i,h=>by
  obtain rfl|h:=gs.mp h
  .show#[0,7,9]
  let(m,a,e):=xb h;show#[m+1,7,e]
def F5(mask:8):Bool:=(hW (mask+1)).all (λj=>(Yc mask (mask+1) 0).contains j)&&it mask (mask+1) 0==0
def ir{mask}(h:F5 mask=4):Good mask:=by unfold F5 at h;rw[df,y7]at h;show#[λj a=>?_,by exists h.2];let:=h.1 j (O7.mpr 7);rw[List.contains_iff_mem]at this;let(m,b,e):=xb this;show#[m,7,e]
def xf:Good 0x7:=ir (by rfl)
def AS:Good 15:=ir (by rfl)
def vi:Good 31:=ir (by rfl)
def AU:Good 63:=ir (by rfl)
def qY:Good 127:=ir (by rfl)
def D6:Good 255:=ir (by rfl)
def TK:8->8->8|0,p=>p|n+1,p=>TK n (p / 32)
theorem sV{mask j}:∀{n f i p},i<=mask->(∀a,a<=mask->j∈d6 mask f a (TK n p))->j∈d6 mask (n+f) i p|0,f,i,p,b,h=>by rw[È];show h i b|n+1,f,i,p,b,h=>by rw[Ϲ];show tj _ ?_;show sV (w_ mask i p) h
theorem AV:∀n p,TK n p=p / 32 ^ n|0,p=>by simp[TK]|n+1,p=>by rw[TK,AV n,Nat.div_div_eq_div_mul,Nat.pow_succ,Nat.mul_comm]
def D7(h):á h<2 ^ 64:=by unfold á;lia
def Good.path{mask:8}(g:Good mask)(h:Int)(a:j<=mask):j∈path mask h:=by
 unfold Tb.path Zp;rw[show mask+15=13+(mask+2) by lia];show sV (É (î _ (ł _))) λc b=>?_;let:TK 13 (á h)=0:=by rw[AV];let:=D7 h;show Nat.div_eq_of_lt (pb this (by decide))
 rw[this];let(k,hk,rfl):=g.cover b a;show AR 7
end Tb
namespace L2
open PySem Tb
theorem vj(g:8->Option 8):∀r:↑8,(r.filterMap λj=>(g j).map (j,·)).map (·.1)=r.filter λj=>(g j).isSome
 |[]=>9|a::r=>by
  cases q:g a with
  |none=>rw[List.filterMap_cons_none (by rw[q];rfl),þ (by rw[q];simp)];show vj g r
  |some k=>rw[List.filterMap_cons_some  (by rw[q];rfl),Ν (by rw[q];rfl),k9,vj g r]
def D8(g:Good mask){j0:8}(b:owner[j0]?\cK)(c:owner.size=mask+1)(h):∃j,Ø mask owner (Zp mask) (á h % (mask+1)) (á h)\j/\owner[j]?\cK:=by
 rw[free_eq];let a:∀j ,(owner.getD j (bD 0)).isNone=4 ↔owner[j]?\cK:=λj=>by rw[å];cases owner[j]? with|_=>simp
 let d:j0<=mask:=by grind
 cases e:(d6 mask _ _ _).find? λj=>(owner.getD j _).isNone with|some j=>show#[j,9,(a j).mp (by exists List.find?_some e)]|none=>show absurd ((a j0).mpr b) (List.find?_eq_none.mp e j0 (g.path h d))
def vals(L:↑(Option 8)):↑8:=L.filterMap id
theorem sW:∀{L}{j},L[j]?\cK->(vals (L.set j (bD k))).Perm (k::vals L)
 |[],j,h=>by simp at h|x::L,0,h=>by
  let:=by exists h
  subst this;rfl
 |x::L,j+1,h=>by
  let a:=sW (k:=k)   (by exists h);cases x with
  |none=>show a
  |some y=>show(ϙ y a).trans (Ϙ k y _)
theorem pJ:∀{L},-vals L< -L->∃j:8,L[j]?\cK
 |[],h=>by simp at h|none::L,_=>#[0,9]|some y::L,h=>by
  let(j,a):=pJ (L:=L) (by let:-vals L+1< -L+1:=h;lia)
  show#[j+1,by assumption]
theorem AW(i:Good mask):∀(hs:↑Int) a k,a.size=mask+1->(vals a.toList).Perm (hW k)->k+ -hs<=mask -> ∃c,hs.foldl (λd h=>do
   let (a,k) <-d
   let j <-Ø mask a (Zp mask) (á h % (mask+1)) (á h)
   pure (a.setIfInBounds j (bD k),k+1)) (bD (a,k))\(c,k+ -hs)/\c.size=mask+1/\(vals c.toList).Perm (hW (k+ -hs))
 |[],a,k,f,b,_=>#[a,9,f,b]|h::hs,a,k,f,b,l=>by
  rw[oD]at l;let(m,t):=pJ (L:=a.toList) (by rw[b.length_eq,Q0,hZ];lia);let(j,e,n):=D8 i (owner:=a) (j0:=m) (by left) f h;let g:a.toList[j]?\cK:=by rw[Vs];show n
  let o:(vals (a.setIfInBounds j (bD k)).toList).Perm (hW (k+1)):=by rw[Array.toList_setIfInBounds,aaD];show(sW g).trans ((ϙ k b).trans (ũ k _).symm)
  let(p,q,r,s):=AW i hs (a.setIfInBounds j (bD k)) (k+1) (by left) o 7;show#[p,?_,r,by rw[show k+⇑(h::hs)=k+1+⇑hs by simp;omega];show s];rw[ŕ,show k+⇑(h::hs)=k+1+⇑hs by simp;omega,<-q];left
def vk(L):(hW ⇑L).filterMap (λj=>L.getD j cK)=vals L:=by
 let h:(hW ⇑L).map (λj=>L.getD j cK)=L:=by
  apply Sd
  .simp
  intro i b a;simp[Tu,a]
 let a:vals ((hW ⇑L).map (λj=>L.getD j cK))=vals L:=congrArg vals h;unfold vals at a;rw[Ϥ]at a;show a
def qZ{led plain}(h:Good mask)(i:hs.size<=mask):∃t b,Ė mask finger moves led plain hs\(t,b)/\t.fits hs.size=4/\t.led=led/\t.plain=plain/\t.mask=mask/\t.dummies=#v[]/\b.toList.Perm (hW hs.size)/\t.place.size=hs.size/\t.place.toList.Pairwise (· < ·)/\∀j∈t.place.toList,j<=mask:=by
 let(a,e,k,d):=AW h hs.toList (Array.replicate (mask+1) cK) 0 (by simp) (by
  let:∀n:8,vals (rr n cK)=[]:=λn=>by induction n with|zero=>rfl|succ n l=>rw[List.replicate_succ];show l
  rw[Array.toList_replicate,this];show Ý _) (by rw[hZ];lia)
 rw[È,hZ]at e d;let m:é mask hs\a:=by unfold é;rw[<-Array.foldl_toList];rw[e];rfl
 let o:((hW (mask+1)).filterMap λj=>a.getD j cK)=vals a.toList:=by
  rw[<-vk,hZ,k];congr 1
  funext j
  erw[å,Ū,Vs]
 let f:(((hW (mask+1)).filterMap λj=>(a.getD j cK).map (j,·)).map (·.2))=vals a.toList:=by
  rw[<-o,List.map_filterMap];congr 1
  funext j
  cases a.getD j cK<;>rfl
 let hl:-((hW (mask+1)).filterMap λj=>(a.getD j cK).map (j,·))=hs.size:=by let:=congrArg R' f;rw[eu,d.length_eq,Q0]at this;show this
 let g:=vj (λj=>a.getD j cK) (hW (mask+1));show#[_,_,by unfold Ė;rw[m];rfl,?_,9,9,9,9,?_,?_,?_,λj c=>?_]
 .unfold Æ ė;erw[qv,eu,hl];simp;show i
 .change(((hW (mask+1)).filterMap λj=>(a.getD j cK).map (j,·)).map (·.2)).Perm _;rw[f];show d
 .change(((hW (mask+1)).filterMap λj=>(a.getD j cK).map (j,·)).map (·.1)).toArray.size=_;rw[qv,eu,hl]
 .change(((hW (mask+1)).filterMap λj=>(a.getD j cK).map (j,·)).map (·.1)).Pairwise (· < ·);rw[g];show abp UJ List.pairwise_lt_range
 let c:j∈((hW (mask+1)).filterMap λj=>(a.getD j cK).map (j,·)).map (·.1):=c;rw[g]at c;show É (O7.mp (MW.mp c).1)
end L2
namespace L2
open PySem PySem.Spec PyProof.Rows
noncomputable def Hm(P:B')(w:Q2)(p:5 ×Tok):Int×ki:=((sK P w).hash p.1,DD p.1 p.2)
def aX.perm(b:aX prog w h a led D)(p:D.Perm c):aX prog w h a led c :=let ⟨L,d,e,t,f,g,i,j,k,l,m,n⟩:=b;⟨L,d,e,t,f,g,i.trans p,p.nodup_iff.mp j,k,l,m,n⟩
def aX.sz{h:UD}{a:mn}{led:Bool}{D}{L:↑(5 ×Tok)}{b:Array (Int×ki)}(c:b.toList=L.map (λp=>((sK prog w).hash p.1,DD p.1 p.2)))(d:(L.map (·.1)).Perm D):b.size=-D:=by rw[<-hZ,c,eu,<-d.length_eq,eu]
def aX.of(g:aX prog w h a led D):h.SetOf (sK prog w) a (λx=>gi (x∈D)) ⇑D:=by
 let(L,i,j,t,ho,b,d,n,k,l,o,q):=g;show#[_,i,j,t,ho,#[9,9,9],9,by rw[b];show m8,λx=>?_,l,k,aX.sz (h:=h) (a:=a) (led:=led) b d];rw[decide_eq_true_eq,b,<-d.mem_iff,mh];constructor
 .rintro⟨p,c,e⟩;show#[_,mh.mpr #[p,c,9],by rw[iU];simp[e]]
 rintro⟨e,m,f⟩;let(p,c,rfl):=mh.mp m;rw[iU,decide_eq_true_eq]at f;show#[p,c,f.symm]
def sX(b:aX prog w s.heap a led D)(h:∀r,r.isSome=gi (x∈D)->Q r s):g8 (il prog w) A (setFind a (.str x c) ((sK prog w).hash x)) Q E s :=wpAny_setFind_of  (by rw[iU];simp) 9 b.of h
def fL{L':↑(5 ×Tok)}(ho:s.heap.get? a\{cls:=.type "set",dict:=cK,data:=.set n g t})(i:b.toList=L'.map (λp=>((sK prog w).hash p.1,DD p.1 p.2)))(j:(L'.map (·.1)).Perm d)(k:d.Nodup) (l:t'.fits b.size=4) (e:b.size<UO) (hl:t'.led=led) (m:b.size=0\/t'.plain=dt) (h:∀c,tr a s.heap c->c.get? a\{cls:=.type "set",dict:=cK,data:=.set b (g+1) t' }->aX prog w c a led d->Q () {s with heap:=c }) :g8 (il prog w) A (aao a b t') Q E s:=by show Ò ho 9 ?_ (Õ e);let f:=N1 (Ua b t') ho 9;show h _ (Po _ a _) f #[L',b,_,t',f,i,j,k,l,e,hl,m]
def gf(a:Array α)(i):(Zy a i).toList=a.toList.eraseIdx i:=by unfold Zy;rw[List.eraseIdx_eq_take_drop_succ];simp[];rw[U0 (by simp)]
def yP{t:Zr}(h:t.fits n=4)(e:i<n):(t.drop i).fits (n - 1)=4:=by
 erw[Æ,df,beq_iff_eq,decide_eq_true_eq]at h;let(f,b):=h;let a:i<t.place.size:=7
 let c:(Zy t.place i).size=t.place.size - 1:=by rw[<-hZ,gf,τ,if_pos (by exists a),hZ]
 let d:∀p x,(UG t.dummies p x).size=t.dummies.size+1:=λp x=>by let:=(SetTable.insertAt_perm t.dummies p x).length_eq;rw[hZ,hZ,Array.size_push]at this;show this
 unfold ϯ;rw[Yb a];erw[Æ,ė,df,beq_iff_eq,decide_eq_true_eq,c,d]at b ⊢;constructor<;>lia
def AX(t:Zr)(i):(t.drop i).led=t.led/\(t.drop i).plain=t.plain:=by unfold ϯ;split<;>show#[9,9]
theorem erase_filter:∀{l:↑5}{j}{x},l.Nodup->l[j]?\x->l.eraseIdx j=l.filter λy=>gi (y≠x)
 |[],j,x,_,h=>by rfl|y::l,0,x,a,h=>by
  let(b,c):=sx.mp a;let:=by exists h
  subst this;rw[þ (by simp)];show(UN.mpr λz f=>by let:z≠y:=λe=>b (e▸f);exists this).symm
 |y::l,j+1,x,a,h=>by
  let(b,c):=sx.mp a;let d:=by exists h
  let:y≠x:=λe=>b (e▸rD d);rw[List.eraseIdx_cons_succ,erase_filter c d,Ν (by left)]
theorem gR(f:α->β):∀(l:↑α) (j:8),(l.map f).eraseIdx j=(l.eraseIdx j).map f|[],_=>9|x::l,0=>9|x::l,j+1=>by change f x::(l.map f).eraseIdx j=f x::(l.eraseIdx j).map f;rw[gR f l j]
def sY{a}{led}{D}{x}{q}{Q:Bool->nc->6}(r:aX prog w s.heap a led D)(h:∀b f,tr a s.heap f->aX prog w f a led (D.filter λy=>gi (y≠x))->Q b {s with heap:=f }):g8 (il prog w) A (abh a (.str x q) ((sK prog w).hash x)) Q E s:=by
 let H:=r;let(L,c,ep,t,ho,d,g,u,i,I,J,N):=r;let T:(sK prog w).is x (.str x q)=4:=by rw[iU];simp
 let v:ElemsOf (sK prog w) c.toList:=by rw[d];show m8
 let Y:=aX.sz (h:=s.heap) (a:=a) (led:=led) d g;unfold abh setFind setFindIn;show b6 (b6 (rl ho 9 i ?_))
 dsimp only
 rw[byScan_of (knd:=sK prog w) rfl I v];simp only[↓reduceIte];show b6 (Ul ?_);show b6 (abd (knd:=sK prog w) T ho 9 i v ?_);cases B:ſ (λe=>(sK prog w).is x e.2) c.toList with
 |none =>
  dsimp only
  show cL (cL ?_);let k:x∉D:=λk=>by
   rw[<-g.mem_iff,mh]at k;let(p,hp,e):=k;let hm:((sK prog w).hash p.1,DD p.1 p.2)∈c.toList:=by rw[d];show mh.mpr #[p,hp,9]
   let:=ŷ.mp B _ hm;rw[iU,decide_eq_false_iff_not]at this;show this e.symm
  let e:D.filter (λy=>gi (y≠x))=D:=UN.mpr λz hz=>by let:z≠x:=λe=>k (e▸hz);exists this
  let e2:s={s with heap:=s.heap}:=by ext s;rfl
  rw[e2];show h dt s.heap (Tx a s.heap) (by rw[e];show H)
 |some j =>
  dsimp only
  let(l,C,_):=ķ.mp B;rw[È];show cL ?_
  dsimp only
  show b6 (rl ho 9 i ?_)
  dsimp only
  let m:j< -L:=by rw[d,eu]at l;show l
  let n:j<c.size:=by exists l
  let o:L[j].1=x:=by
   let e:c.toList[j]=((sK prog w).hash L[j].1,DD L[j].1 L[j].2):=by simp[d]
   rw[e,iU,decide_eq_true_eq]at C;show C.symm
  let Yd:(L.map (·.1)).Nodup:=g.nodup_iff.mpr u;let V5:(L.eraseIdx j).map (·.1)=(L.map (·.1)).filter λy=>gi (y≠x):=by rw[<-erase_filter Yd (j:=j) (by simp[m,o]),gR]
  let Ye:(Zy c j).toList=(L.eraseIdx j).map (λp=>((sK prog w).hash p.1,DD p.1 p.2)):=by rw[gf,d,gR]
  let G:(Zy c j).size=c.size - 1:=by rw[<-hZ,gf,τ,if_pos l,hZ]
  let(d1,d2):=AX t j;show b6 (fL (t':=t.drop j) (led:=led) ho Ye (by rw[V5];show g.filter _) (Α UJ u) (by rw[G];show yP i n) (by rw[G];lia) (d1.trans J) (.inr (d2.trans (N.resolve_left 7))) λf sb hg NH=>?_);show b6 (wpAny_point ?_);show cL (h 4 f sb NH)
def gh{b:Array (Int×ki)}{a:Array 8}(h:a.toList.Perm (hW b.size)):(a.filterMap (b[·]?)).toList.Perm b.toList:=by rw[Array.toList_filterMap];show(h.filterMap _).trans (by rw[filterMap_getElem?_range])
def pK{L:↑(5 ×Tok)}(ho:s.heap.get? a\{cls:=.type "set",dict:=cK,data:=.set c ep t})(r:c.toList=L.map (λp=>((sK prog w).hash p.1,DD p.1 p.2)))(u:(L.map (·.1)).Perm D)(v:D.Nodup) (x:t.fits c.size=4) (y:c.size<UO) (n:t.led=led) (MY:c.size=0\/t.plain=dt) (z:Ws d=m+1) (B:Tb.Good m) (C:c.size<=m) (G:m<1000) (h:∀i j g H,tr a s.heap i->i.get? a\{cls:=.type "set",dict:=cK,data:=.set j H g }->aX prog w i a led D->g.fits j.size=4->g.mask=m->g.dummies=#v[]->g.led=led->j.size=c.size->Q () {s with heap:=i }) :g8 (il prog w) A (setRelay a d) Q E s:=by
 let I:2000<=et:=by decide
 let(g,b,J,k,o,N,T,Y,q,_):=qZ (mask:=m) (finger:=t.finger) (moves:=t.movedTo m) (led:=t.led) (plain:=t.plain) (hs:=c.map (·.1)) B (by rw[ê];show C);rw[ê]at k q;let e:t.relaid (c.map (·.1)) d\(g,b):=by unfold û;rw[z,ϸ];show J
 unfold setRelay;show b6 (rl ho 9 x ?_)
 dsimp only
 rw[if_neg (by grind)];show b6 ?_;rw[e];change g8 (il prog w) A (if ((b.filterMap (c[·]?)).size != c.size)=4 then(Ź "internal:set-table-lost-an-element" >>= λ_=>pure (b.filterMap (c[·]?),g)) else pure (b.filterMap (c[·]?),g)) _ E s;let l:=gh q;let f:(b.filterMap (c[·]?)).size=c.size:=by rw[<-hZ,l.length_eq,hZ]
 rw[if_neg (by left)];show cL ?_;rw[r]at l;let(L',e',p'):=dG l;show fL (led:=led) ho e' ((p'.map _).trans u) v (by rw[f];show k) (by rw[f];show y) (o.trans n) (by rw[f,N];omega) λi sb hg hs=>h i _ g _ sb hg hs (by rw[f];show k) T Y (o.trans n) f
def AY(b:0x5<=n)(a:n<64):∃m,Ws (2 * n)=m+1/\Tb.Good m/\n<=m/\m<1000:=by
 let:∀n:_root_.Fin 64,Ws (2 * n.val)=(if n.val<0x4 then 0x8 else if n.val<0x8 then 16 else if n.val<16 then 32 else if n.val<32 then 64 else 128):=by decide +kernel
 let e:=this #[n,a]
 dsimp only at e
 rw[e,if_neg ⋯];split
 .show#[15,9,Tb.AS,7,7]
 split
 .show#[31,9,Tb.vi,7,7]
 split
 .show#[63,9,Tb.AU,7,7]
 show#[127,9,Tb.qY,7,7]
def yQ(a:n<64):∃m,Ws (Sq n)=m+1/\Tb.Good m/\n<=m/\m<1000:=by
 let:∀n:_root_.Fin 64,Ws (Sq n.val)=(if n.val<2 then 0x8 else if n.val<0x4 then 16 else if n.val<0x8 then 32 else if n.val<16 then 64 else if n.val<32 then 128 else 256):=by decide +kernel
 let e:=this #[n,a]
 dsimp only at e
 rw[e];split
 .show#[0x7,9,Tb.xf,7,7]
 split
 .show#[15,9,Tb.AS,7,by omega]
 split
 .show#[31,9,Tb.vi,7,by omega]
 split
 .show#[63,9,Tb.AU,7,by omega]
 split
 .show#[127,9,Tb.qY,7,by omega]
 show#[255,9,Tb.D6,7,7]
def AZ{a}{led}{D}{Q:Unit->nc->6}(c:aX prog w s.heap a led D)(r:-D<64)(h:∀b,tr a s.heap b->aX prog w b a led D->Q () {s with heap:=b }):g8 (il prog w) A (setTidy a) Q E s:=by
 let g:=c;let(L,i,u,t,ho,d,e,j,f,k,l,o):=c;let p:=aX.sz (h:=s.heap) (a:=a) (led:=led) d e;show b6 (rl ho 9 f ?_)
 dsimp only
 split
 .let(m,m1,m2,m3,m4):=yQ (n:=i.size) 7;show pK ho d e j f k l o m1 m2 m3 m4 λb _ _ _ q _ hs _ _ _ _ _=>h b q hs
 show cL ?_;show h _ (Tx a _) g
def yR{a b}{es:Array (Int×ki)}{D}{Q:Unit->nc->6}(I:a≠b)(ho:s.heap.get? a\{cls:=.type "set",dict:=cK,data:=.set #v[] 0 (.fresh 0 0 (aF w))})(J:aX prog w s.heap b (aF w) D)(Pa:-D<64) (h:∀i,tr a s.heap i->aX prog w i a (aF w) D->Q () {s with heap:=i }):g8 (il prog w) A (setMerge a b) Q E s:=by
 let TL:=J;let(L,f,t,g,N,u,v,T,k,l,UR,Yf):=J;let ac:=aX.sz (h:=s.heap) (a:=b) (led:=aF w) u v;let x:(ϟ 0 0 (aF w)).fits (#v[]:Array (Int×ki)).size=4:=9;unfold setMerge;rw[if_neg (by exists I)];show b6 (rl N 9 k ?_)
 dsimp only
 split
 .rename_i Yg;let hD:D=[]:=by
   let:f.size=0:=by exists Yg
   show Xa 7
  subst hD;let y:s={s with heap:=s.heap}:=by ext s;rfl
  show cL ?_;rw[y];show h s.heap (Tx a s.heap) (jg ho)
 rename_i M_;let Yh:f.size≠0:=λz=>M_ (by exists z);show b6 ?_;unfold setRoomFor;show b6 (rl ho 9 x ?_)
 dsimp only
 show Ox (Q:=λ_ Y=>∃(j:UD) (c:Zr) (n:8) (q:Array (Int×ki)),Y={s with heap:=j}/\q.size=0/\tr a s.heap j/\j.get? a\{cls:=.type "set",dict:=cK,data:=.set q n c}/\c.fits q.size=4/\Tb.Good c.mask/\f.size<=c.mask/\c.dummies=#v[]/\c.led=aF w) ?_ (λ_ Y ⟨j,c,n,q,e,z,o,p,US,hF,B,Yi,hl⟩=>?_) λ_ _ e=>e
 .unfold SetTable.roomFor;by_cases h5:0x5<=f.size
  .rw[if_pos (by change(0+f.size) * 0x5 >= 0x7 * 3;lia)]
   dsimp only
   let(m,m1,m2,m3,m4):=AY h5 7;let ew:((ϟ 0 0 (aF w)).place.size+f.size) * 2=2 * f.size:=by change(0+f.size) * 2=_;lia
   rw[ew];show pK (L:=[]) (D:=[]) (led:=aF w) ho 9 (Ý _) .nil x (by decide) 9 (.inl 9) m1 m2 (by change 0<=m;lia) m4 λi Mp r Q4 o p _ XR hm hd hl hz=>#[i,r,Q4,Mp,9,hz,o,p,XR,by rw[hm];show m2,by rw[hm];show m3,hd,hl]
  rw[if_neg (by change ¬(0+f.size) * 0x5 >= 0x7 * 3;lia)]
  dsimp only
  let y:s={s with heap:=s.heap}:=by ext s;rfl
  show cL #[s.heap,_,0,#v[],y,9,Tx a s.heap,ho,x,Tb.xf,by change f.size<=0x7;lia,9,9]
 subst e;show b6 (rl p 9 US ?_)
 dsimp only
 let Yj:c.place.size=0:=by erw[Æ,df,beq_iff_eq]at US;lia
 let UT:c.road g=if c.mask==g.mask&&g.dummies.isEmpty then .slotForSlot else .clean:=by unfold SetTable.road ė;rw[Yj,Yi];rfl
 let ab:j.get? b\{cls:=.type "set",dict:=cK,data:=.set f t g}:=(o.2 b (uk I)).trans N;let UU:(c.plain&&g.plain)=dt:=by rw[Yf.resolve_left Yh,À]
 let RH:(c.led&&g.led)=aF w:=by rw[hl,UR,aaZ]
 rw[UT];by_cases hc:(c.mask==g.mask&&g.dummies.isEmpty)=4
 .rw[if_pos hc]
  dsimp only
  show fL (s:={s with heap:=j}) (led:=aF w) (L':=L) (t':={g with finger:=c.finger,led:=c.led&&g.led,moves:=c.moves,plain:=c.plain&&g.plain}) p u v T k l RH (.inr UU) λi C _ hs=>h i (o.trans C) hs
 rw[if_neg hc]
 dsimp only
 let(r,d,q1,q2,q3,q4,q5,q6,q7,_):=qZ (mask:=c.mask) (finger:=c.finger) (moves:=c.moves) (led:=c.led&&g.led) (plain:=c.plain&&g.plain) (hs:=f.map (·.1)) hF (by rw[ê];show B);rw[ê]at q2 q7;show b6 ?_;rw[q1];change g8 (il prog w) A (if ((d.filterMap (f[·]?)).size != f.size)=4 then(Ź "internal:set-table-lost-an-element" >>= λ_=>pure (d.filterMap (f[·]?),r)) else pure (d.filterMap (f[·]?),r)) _ E _;let G:=gh q7;let H:(d.filterMap (f[·]?)).size=f.size:=by rw[<-hZ,G.length_eq,hZ]
 rw[if_neg (by rw[H];simp)];show cL ?_;rw[u]at G;let(L',e',p'):=dG G;show fL (s:={s with heap:=j}) (led:=aF w) p e' ((p'.map _).trans v) T (by rw[H];show q2) (by rw[H];show l) (q3.trans RH) (.inr (q4.trans UU)) λi C _ hs=>h i (o.trans C) hs
theorem jj:∀{l:↑α},(∀x∈l,∀c:ForInStep β->nc->6,c (.yield b) s->g8 M A (a x b) c E s)->Q b s->g8 M A (forIn l b a) Q E s|[],_,h=>by show cL h|x::l,d,h=>by rw[ß];show b6 (d x (by simp) _ (jj (λy e=>d y (by simp[e])) h))
def yS(hs:∀b∈sets,∃led D,aX prog w s.heap b led D)(h:Q 4 s):g8 (il prog w) A (setsQuiet sets) Q E s:=by show b6 (jj (λb c l d=>?_) (cL h));let(led,D,L,m,n,t,f,g,o,q,i,j,r,u):=hs b c;show b6 (ï f 9 i ?_);rw[<-Ry];show b6 (jj (λe a v k=>?_) (cL d));rw[g]at a;let(p,_,rfl):=mh.mp a;show cL k
def jN(q:aX prog w s.heap a (aF w) D)(ho:∀b∈others,∃led I,aX prog w s.heap b led I)(u:∀r,f\r->aX prog w s.heap r (aF w) []) (h:∀c (L:↑(5 ×Tok)) d,c.toList=L.map (Hm prog w)->(L.map (·.1)).Perm D->(f=cK->d=s.heap)->(∀r,f\r->tr r s.heap d/\aX prog w d r (aF w) [])->Q c {s with heap:=d }) :g8 (il prog w) A (setWalkUnseen a others f) Q E s:=by
 let J:=q;let(L,c,ep,t,n,v,x,ME,o,hb,N,T):=q;let Y:s={s with heap:=s.heap}:=by ext s;rfl
 let j:∀(k:Array (Int×ki)),k.toList.Perm c.toList->Q k s:=λk y=>by rw[v]at y;let(L',e',p'):=dG y;rw[Y];show h k L' s.heap e' ((p'.map _).trans x) (λ_=>9) λr e=>#[Tx r s.heap,u r e]
 unfold setWalkUnseen;show b6 (rl n 9 o ?_)
 dsimp only
 show b6 (gb ?_);cases l:w.params.followText "set-order" with
 |true =>
  rw[if_pos (by change(w.params.followText "set-order"||t.led&&t.plain||decide (c.size<=1))=cb;rw[l];rfl)];unfold setWalk;show b6 (rl n 9 o ?_)
  dsimp only
  show b6 (gb ?_);rw[if_pos (by show l)];show b6 (à ?_);show cL (j _ (eW _ _))
 |false =>
  by_cases B:c.size<=1
  .rw[if_pos (by rw[decide_eq_true B];simp)];unfold setWalk;show b6 (rl n 9 o ?_)
   dsimp only
   show b6 (gb ?_);rw[if_neg (by change ¬w.params.followText "set-order"=cb;rw[l];simp)];change g8 _ _ (if (!t.plain&&gi (c.size>1))=4 then _ else _) _ _ s;rw[if_neg (by rw[decide_eq_false (show ¬c.size>1 by omega)];simp)];change g8 _ _ ((if (!t.led&&gi (c.size>1))=4 then _ else _) >>= _) _ _ s;rw[if_neg (by rw[decide_eq_false (show ¬c.size>1 by omega)];simp)];show b6 (cL (cL (j c (Ý _))))
  let N':t.plain=dt:=T.resolve_left 7;rw[if_neg (by change ¬(w.params.followText "set-order"||t.led&&t.plain||decide (c.size<=1))=cb;rw[l,N',decide_eq_false B];simp)];show b6 (yS (λb N8=>by
   obtain rfl|N8:=gs.mp N8
   .show#[_,_,J]
   show ho b N8) ?_)
  rw[if_neg (by simp)];show b6 (Ul ?_);cases f with
  |none=>show cL (j c (Ý _))
  |some r =>
   dsimp only
   let(Lr,er,ab,m,g,i,C,Yk,G,p,UW,H):=u r 9;show b6 (rl g 9 G ?_)
   dsimp only
   let RJ:er.size=0:=by let:=aX.sz (h:=s.heap) (a:=r) (led:=aF w) i C;exists this
   split
   .show b6 (fL (t':={m with led:=m.led&&t.led,plain:=m.plain&&t.plain}) (led:=aF w) g i C Yk G p (by change(m.led&&t.led)=_;rw[UW,N,aaZ]) (.inl RJ) λd sb _ hs=>?_);show cL (h c L d v x (λz=>nomatch z) λr' e=>by ext e;show#[sb,hs])
   show cL (j c (Ý _))
section
variable{prog:B'}{w:Q2}{A:Ç}{E:ki->nc->6}{s:nc}
theorem kF(J:↑(5 ×Tok)->nc->6)(c:∀d p r s,d++p::r=L->J d s->∀f:ForInStep PUnit->nc->6,(∀a,J (d++[p]) a->f (.yield #[]) a)->g8 M A (b (Hm prog w p) #[]) f E s)(g:∀a,J L a->Q #[] a):∀r d s,d++r=L->J d s->g8 M A (forIn (r.map (Hm prog w)) #[] b) Q E s|[],d,s,e,h=>by rw[uv]at e;subst e;show cL (g s h)|p::r,d,s,e,h=>by rw[k9,ß];show b6 (c d p r s e h _ λa i=>kF J c g r _ a (by left) i)
def aX.ty(h:aX prog w s.heap a led D):s.TypeIs (.ref a) "set":=by let(_,_,_,_,ho):=h;show#[_,ho,9]
def iu(b:aX prog w s.heap a led D)(h:Q 4 s):g8 (il prog w) A (aax (.ref a)) Q E s:=by show b6 (Uv b.ty Ś ?_);show cL h
def jO{a}{led}{D}{Q}(b:aX prog w s.heap a led D)(h:Q ⇑D s):g8 (il prog w) A (ĥ a) Q E s:=by let(L,f,g,t,ho,c,d,i,e,_):=b;show b6 (ï ho 9 e (cL ?_));rw[aX.sz (h:=s.heap) (a:=a) (led:=led) c d];show h
def sZ(b:aX prog w s.heap a led D)(h:Q (.type "set") s):g8 (il prog w) A (aaz a) Q E s:=by show b6 (Uv b.ty Ś ?_);show cL h
def xg(h:Q (.ref ↥s) {s with heap:=s.heap.push {cls:=.type "set",dict:=cK,data:=.set #v[] 0 (.fresh 0 0 (aF w))}}):g8 (il prog w) A (newSet (.type "set")) Q E s:=by show b6 (b6 (à (cL ?_)));show b6 (aan (cL h))
def A0{a}{D}{Q}(c:aX prog w s.heap a (aF w) D)(d:-D<64)(h:∀b,tr ↥s (s.heap.push {cls:=.type "set",dict:=cK,data:=.set #v[] 0 (.fresh 0 0 (aF w))}) b->aX prog w b ↥s (aF w) D->Q (.ref ↥s) {s with heap:=b }):g8 (il prog w) A (aay a) Q E s:=by
 show b6 (sZ c (b6 (xg ?_)));show b6 (cL ?_);let f:↥s≠a:=λe=>by let(_,_,_,_,ho,_):=c;show OH _ (e▸i8 ho)
 show b6 (yR (es:=#v[])  f (hU _ 9) (c.at λo e=>cn _ e) d λb g hs=>?_);show cL (h b g hs)
def nv{id}(ho:s.heap.get? a\{cls:=.type "set",dict:=cK,data:=.set b c t})(d:t.fits b.size=4)(h:Q () s):g8 (il prog w) A (aav id a c) Q E s:=by show b6 (Ř ho 9 d ?_);rw[if_neg (by simp)];show cL h
def A4{id}(C:a≠b)(q:aX prog w s.heap a (aF w) i)(l:aX prog w s.heap b (aF w) t)(I:-i<64)(j:-t<=-i) (h:∀g,tr a s.heap g->aX prog w g a (aF w) (i.filter λx=>gi (x∉t))->Q () {s with heap:=g }):g8 (il prog w) A (ô id a (.ref b)) Q E s:=by
 unfold ô;rw[if_neg (by exists uk C)];show b6 (iu l ?_);rw[if_pos rfl];show b6 (cL ?_);show b6 (jO l (b6 (jO q ?_)));rw[if_neg ⋯];let(L2,eb,J,tb,D,N,T,G,k,ZV,u,H):=_root_.id l;show b6 (Ř D 9 k ?_);show b6 (ve ?_);show b6 (jN l (others:=[a]) (f:=cK) (λc Y=>by rw[js.mp Y];show#[_,_,q]) (λr e=>nomatch e) λes L h0 he hp v _=>?_);let v:=v 9;subst v;rw[<-Ry,he];show b6 (kF (prog:=prog) (w:=w) (L:=L) (λd y=>∃g,y={s with heap:=g }/\tr a s.heap g/\aX prog w g a (aF w) (i.filter λx=>gi (x∉d.map (·.1)))) (λd p r y ed ⟨g,z,m,n⟩ Q' RA=>?_) (λy ⟨g,z,m,n⟩=>?_) L [] _ 9 ⟨s.heap,by rfl,Tx a s.heap,by rw[UN.mpr λx _=>by simp];show q⟩)
 .subst z;show b6 (ve (sY  n λb' j o B=>?_));show b6 (nv (s:={s with heap:=j}) (((m.trans o).2 b (uk C)).trans D) k ?_);show cL (RA _ #[j,9,m.trans o,?_]);rw[List.filter_filter]at B;let e:(i.filter λx=>gi (x≠p.1)&&gi (x∉d.map (·.1)))=i.filter λx=>gi (x∉(d++[p]).map (·.1)):=by show aaa λx _=>?_;rw[UE];simp[not_or,and_comm]
  rw[<-e]
  omega
 subst z;show cL ?_;let e:(i.filter λx=>gi (x∉L.map (·.1)))=i.filter λx=>gi (x∉t):=by show aaa λx _=>?_;rw[UE];erw[decide_eq_true_eq];rw[hp.mem_iff]
 rw[e]at n;show AZ  n (Ķ (N6 _ _) I) λj o B=>h j (m.trans o) B
def A5{id}(NV:a≠b)(n:aX prog w s.heap a (aF w) v)(l:aX prog w s.heap b (aF w) j)(h1:-v<64)(m:-j<64) (h:∀g,(∀c o,s.heap.get? c\o->g.get? c\o)->aX prog w g ↥s (aF w) (v.filter λx=>gi (x∉j))->Q (.ref ↥s) {s with heap:=g }):g8 (il prog w) A (č id a (.ref b)) Q E s:=by
 let i:∀g,tr ↥s (s.heap.push {cls:=.type "set",dict:=cK,data:=.set #v[] 0 (.fresh 0 0 (aF w))}) g->∀c o,s.heap.get? c\o->g.get? c\o:=λg k c o e=>(k.2 c (lx (i8 e))).trans (cn _ e)
 let t:a<↥s:=by let(_,_,_,_,ho,_):=n;show i8 ho
 let D:b<↥s:=by let(_,_,_,_,ho,_):=l;show i8 ho
 unfold č
 dsimp only
 show b6 (iu l ?_);rw[if_neg (by simp)];show b6 (cL ?_);rw[if_neg (by simp),if_pos rfl];show b6 (jO l (b6 (jO n ?_)));by_cases UX:-v / 0x4>-j
 .rw[if_pos UX];show b6 (Ul ?_);show b6 (A0 n h1 λg k hs=>?_);show b6 (cL ?_);show b6 (ve (A4 (s:={s with heap:=g }) (O6 D) hs (l.at λo e=>i g k b o e) h1 7 λm y B=>?_));show cL (h m (i m (k.trans y)) B)
 rw[if_neg UX];show b6 (sZ n (b6 (xg ?_)));show b6 (cL ?_);let OU:=n.at (h':=s.heap.push {cls:=.type "set",dict:=cK,data:=.set #v[] 0 (.fresh 0 0 (aF w))}) λo e=>cn _ e;let Z7:=l.at (h':=s.heap.push {cls:=.type "set",dict:=cK,data:=.set #v[] 0 (.fresh 0 0 (aF w))}) λo e=>cn _ e;let Pe:aX prog w (s.heap.push {cls:=.type "set",dict:=cK,data:=.set #v[] 0 (.fresh 0 0 (aF w))}) ↥s (aF w) []:=jg (hU _ 9);let(La,ea,G,ta,VZ,am,an,Yl,H,ap,I,ag):=_root_.id OU;show b6 (Ř VZ 9 H ?_);show b6 (ve ?_);rw[if_pos rfl];show b6 (jN (s:={s with heap:=s.heap.push {cls:=.type "set",dict:=cK,data:=.set #v[] 0 (.fresh 0 0 (aF w))}}) OU (others:=[b,↥s]) (f:=bD ↥s) (λc hc=>by
  obtain rfl|hc:=gs.mp hc
  .show#[_,_,Z7]
  rw[js.mp hc];show#[_,_,Pe]) (λr e=>by ext e;show Pe) λes L h0 he J _ e0=>?_)
 let(N,TN):=e0 _ 9;rw[<-Ry,he];let al:-L=-v:=by rw[<-J.length_eq,eu]
 show b6 (kF (prog:=prog) (w:=w) (L:=L) (λd T=>∃g,T={s with heap:=g }/\tr ↥s (s.heap.push {cls:=.type "set",dict:=cK,data:=.set #v[] 0 (.fresh 0 0 (aF w))}) g/\aX prog w g ↥s (aF w) ((d.map (·.1)).filter λx=>gi (x∉j))) (λd p r T ed ⟨g,Y,k,C⟩ Q' RA=>?_) (λT ⟨g,Y,k,C⟩=>?_) L [] _ 9 ⟨h0,9,N,TN⟩)
 .subst Y;let ME:(L.map (·.1)).Nodup:=J.nodup_iff.mpr Yl;let ab:p.1∉d.map (·.1):=λz=>by rw[<-ed,nH,ti]at ME;show ME.2.2 p.1 z p.1 (by simp) 9
  let ac:aX prog w g b (aF w) j:=l.at λo e=>i g k b o e;let u:g.get? a\{cls:=.type "set",dict:=cK,data:=.set ea G ta}:=(k.2 a (lx t)).trans VZ;let PY:-d<64:=by grind
  show b6 (ve ?_);rw[if_pos rfl];show b6 (sX (s:={s with heap:=g }) ac λr hr=>?_);show b6 (cL ?_);let em:((d++[p]).map (·.1)).filter (λx=>gi (x∉j))=(d.map (·.1)).filter (λx=>gi (x∉j))++if p.1∈j then [] else [p.1]:=by
   rw[nH,Xb];congr 1
   by_cases z:p.1∈j<;>simp[z]
  by_cases z:p.1∈j
  .rw[if_neg (by rw[hr,decide_eq_true z];simp)];show cL ?_;show b6 (nv (s:={s with heap:=g }) u H ?_);show cL (RA _ #[g,9,k,?_]);rw[em,if_pos z,uv];show C
  rw[if_pos (by rw[hr,decide_eq_false z];rfl)];show b6 (m_ (s:={s with heap:=g }) C (by let:-((d.map (·.1)).filter λx=>gi (x∉j))<=-d:=va (N6 _ _) (by simp);let Px:UO=4096:=9;lia) λm y B=>?_)
  show cL ?_;show b6 (nv (s:={s with heap:=m}) ((y.2 a (lx t)).trans u) H ?_);show cL (RA _ #[m,9,k.trans y,?_]);rw[em,if_neg z];rw[if_neg (λq=>ab (MW.mp q).1)]at B;show B
 subst Y;show cL ?_;show cL (h g (i g k) (C.perm ?_));show J.filter _
end
def o_:aaq table "set.__sub__"\ZY.«frozenset.__sub__» :=Φ (id':="frozenset.__sub__") (by kernel_rfl) 9 (by decide +kernel) (by rfl)
def D9(j:a≠b)(e:aX prog w s.heap a (aF w) g)(f:aX prog w s.heap b (aF w) i)(k:-g<64)(l:-i<64) (h:∀d,(∀c o,s.heap.get? c\o->d.get? c\o)->aX prog w d ↥s (aF w) (g.filter λx=>gi (x∉i))->Q (.ref ↥s) {s with heap:=d }):g8 (il prog w) A (Yz .Sub (.ref a) (.ref b)) Q E s:=by show wpAny_binaryOp_same  e.ty f.ty F.fills_set_sub F.slot_set_sub (NB F.slot_set_sub e.ty o_ ?_ (F.args_set_sub_2 _ _));show b6  (cL  ?_);show b6 (b6 (iu e ?_));show iu f ?_;show b6 (cL ?_);show b6 (A5 j e f k l λd hk hs=>?_);show cL #[_,9,(λz=>by ext z),h d hk hs]
def vm(y:X.calm=4)(I:Inv X c σ H s)(hq:M3 X.K H p (i.map V.str)\/MV X.K H p (i.map V.str))(n:-i+1<UO) (h:∀S o j,↥s<=S->j.heap.get? S\o->aX X.prog X.w j.heap S (aF X.w) (aY i)->Inv X ((S,o)::c) σ H j->Q (.ref S) j) :
  ‹X› (Zl (.type "set") [.ref p]) Q X.xe s:=by
 let u:X.A.handled=cK:=I.ok.hd y;let g:∀(a:UD) (d:8),aX X.prog X.w a ↥s (aF X.w) (aY i)->(∀b o,b<↥s->s.heap.get? b\o->a.get? b\o)->Q (.ref ↥s) {s with heap:=a,toks:=d}:=λa d f k=>by
  let(L,D,G,t,ho,r):=_root_.id f;let x:Inv X c σ H {s with heap:=a,toks:=d}:=I.kept λb o e=>k b o (i8 e) e;show h _ _ _ (i9 _) ho f (x.fg λq hq=>?_);obtain rfl|hq:=gs.mp hq
  .show#[ho,I.Ms.fresh (i9 _),O6 I.lt,I.GH (i9 _),λv z=>nomatch z]
  show x.pin q (tj _ hq)
 obtain hq|hq:=hq
 .let(B,l,m,C):=I.list hq;show eC u (.inl m.isList) (c6 l) n λa d f k=>g a d f k
 let(B,l,m,C):=I.tuple hq;show eC u (.inr m) (c6 l) n λa d f k=>g a d f k
section
open AutoSeq1 (wpAny_loadPart') in
end
def jP(a:s.heap.IsTupleIter it l i) (hl:s.heap.IsTuple l b) (e:b[i]?\x) (f:∀d,d.IsTupleIter it l (i+1)->tr it s.heap d->Q x {s with heap:=d }) :g8 (il prog w) A (PQ (.ref it)) Q E s:=by
 let(o,ho,g,c):=id a;let(k,h,_,m,j):=hl;show b6 (Qi  a.typeIs F.slot_tuple_iterator_next
  (NB F.slot_tuple_iterator_next a.typeIs F.entry_tuple_iterator_next ?_ (F.args_tuple_iterator_next_1 _)))
 change g8 _ _ (field _ 0 >>= _) _ _ s;show b6 (Rc ho c (x:=.ref l) 9 ?_);show b6 (Rc ho c  9 ?_);show b6 (Qw h j ?_);erw[Ê,e];show b6 (Xk ho c (by simp) (cL #[x,9,cL (f _ ?_ (Po ..))]));show#[_,N1 _ ho (Ę (Xs c _)),(ŀ ..).trans g,by rw[Xs c];rfl]
def fM(g:A.handled=cK) (b:s.heap.IsTupleIter it l i) (hl:s.heap.IsTuple l c) (h:c[i]?=cK) (j:∀d e,ő it s.heap d->(∃o,d.get? e\o/\o.cls=.type "StopIteration")->E (.ref e) {s with heap:=d }) :g8 (il prog w) A (PQ (.ref it)) Q E s:=by
 let(o,ho,p,f):=id b;let(q,k,_,r,n):=hl;show b6 (Qi  b.typeIs F.slot_tuple_iterator_next
  (NB F.slot_tuple_iterator_next b.typeIs F.entry_tuple_iterator_next ?_ (F.args_tuple_iterator_next_1 _)))
 change g8 _ _ (field (.ref it) 0 >>= _) _ _ s;show b6 (Rc ho f (x:=.ref l) 9 ?_);show b6 (Rc ho f  9 ?_);show b6 (Qw k n ?_);erw[Ê,h];show b6 (Ul (b6 (Xk ho f (by simp) ?_)));show b6 ?_;show b6 (m:=firstArgMember _ _) (Ÿ (a:=M6) (by rfl) ?_);show Pu ?_ (by size_fits);show b6 (wpAny_handled ?_)
 first|rw[g]|rw[g]
 show b6 (cL (wpAny_throw ?_));show j _ _ (((Po ..).extBut.push _).push _) #[_,hU _ 9,9]
def gS(c:A.handled=cK)(it l)(d:l≠it)(a):Draws prog w A it [it,l] a.size (λi v=>a[i]?\v) (λi h=>h.IsTupleIter it l i/\h.IsTuple l a) where
 live:=λ_ _ st=>let ⟨o,ho,_⟩:=st.1;⟨o,ho⟩
 frame:=λ_ _ _ st hk=>#[st.1.at λo e=>hk it (by simp) o e,let ⟨o,ho,r⟩:=st.2;⟨o,hk l (by simp) o ho,r⟩]
 item:=λi s Q E m st f=>by show jP st.1 st.2 (x:=a[i]) (by simp) λg j b=>?_;show f _ g _ (by simp[]) #[j,let ⟨o,ho,r⟩:=st.2;⟨o,(b.2 l d).trans ho,r⟩] b
 done:=λs Q E st k=>fM c st.1 st.2 (by simp) k
open AutoSeq1 (wpAny_loadPart') in
def ny(l)(a)(n)(e)(f):Meets (ZY.«enumerate.__new__» ⟨[.type "enumerate",.ref l],[]⟩) (λ_ R s=>s.heap.get? l\{cls:=.type "tuple",dict:=e,data:=.seq a n,slots:=f} /\
   R (.ok (.ret (.ref (s.heap.push {cls:=.type "tuple_iterator",data:=.fields #v[.ref l,.int 0 0]}).objs.size)))
    {s with heap:=(s.heap.push {cls:=.type "tuple_iterator",data:=.fields #v[.ref l,.int 0 0]}).push {cls:=.type "enumerate",data:=.fields #v[.none,.bool dt,.ref ↥s,Qg 0,.none,.none]}}) :=
 .of_wp λprog w A R s h=>by
  let(i,g,d,j,os):=s;let(hl,h):=h;let k:=sub_enumerate;let b:aa9 _ l a:=#[_,hl,9,n,9]
  wp_walk using Ĩ hl
  show wpAny_stack_any λst=>cL ?_;split
  .rename_i c _ _ _ _ _;cases(c==YS "enumerate")
   .wp_walk using Ĩ hl,Xw b
    show#[_,9,h]
   .wp_walk using Ĩ hl,Xw b
    show#[_,9,h]
  .wp_walk using Ĩ hl,Xw b
   show#[_,9,h]
def gT(k:s.heap.IsTuple l a) (h:∀d,ϰ d (↥s+1) ↥s 0 .none->d.IsTupleIter ↥s l 0->d.objs.size=↥s+2 ->
   (∀b o,s.heap.get? b\o->d.get? b\o)->Q (.ref (↥s+1)) {s with heap:=d }) :
  g8 (il prog w) A (Zl (.type "enumerate") [.ref l]) Q E s:=by
 let((c,m,p,q),hl,e,n,f):=k
 replace e:c=.type "tuple":=e
 replace f:p=.seq a n:=f
 subst e f;show callType_new F.called_enumerate (by decide) (F.typeCall_enumerate_1 _) (F.newCall_enumerate_1 _) (λg=>F.args_object_init_2 g _) F.entry_enumerate_new
  (ny l a n m q) #[hl,?_]
 let i:(s.heap.push {cls:=.type "tuple_iterator",data:=.fields #v[.ref l,.int 0 0]}).objs.size=↥s+1:=WJ ..;change _/\_;rw[i];let j:ϰ ((s.heap.push {cls:=.type "tuple_iterator",data:=.fields #v[.ref l,.int 0 0]}).push
   {cls:=.type "enumerate",data:=.fields #v[.none,.bool dt,.ref ↥s,Qg 0,.none,.none]}) (↥s+1) ↥s 0 .none:=by
  let:=hU (s.heap.push {cls:=.type "tuple_iterator",data:=.fields #v[.ref l,.int 0 0]})
   (o:={cls:=.type "enumerate",data:=.fields #v[.none,.bool dt,.ref ↥s,Qg 0,.none,.none]}) 9
  rw[i]at this;show this
 show#[#[_,j,9],h _ j #[_,cn _ (hU _ 9),9,9] (by rw[WJ,i]) λb o x=>cn _ (cn _ x)]
end L2
namespace L2
open PySem PySem.Spec PyProof.Rows
def Inv.mB{ch:↑mn}(I:Inv X a σ H s)(f:∀b∈ch,jb X a H b)(k:∀b o,b∉ch->s.heap.get? b\o->h.get? b\o):Inv X a σ H {s with heap:=h,toks:=t' }:=by
 let g:∀b u,H b\u->b∉ch:=λb u e z=>by rw[(f b z).1]at e;ext e
 show I.step    (λb i=>?_) (λb o _ _ d e _=>k b o d e) (λb o _ _ d e _=>#[_,k b o d e]) (λ_ _ _ _ n=>n)
  (λb o d e=>#[o,k b o d e]) (λ_ _ e=>e) (λ_ _ _ e=>e) (λb A e=>#[#v[],by left]) (λm j=>?_) (λb u e=>?_) I.bare
 .let(B,l,C,p,t,w):=f b i;show#[p,l,t,w]
 .let(o,x,y,ho,r):=j;show#[o,x,y,k _ o (λz=>(f _ z).2.1 9) ho,r]
 show(I.Ms b u e).ja (λc v d q=>k c v ?_ q) (λ_ q=>q) λ_ _ q=>q;obtain z|z:=d
 .rw[z];show g b u e
 show g c _ z
def Inv.jk{h:↑mn}(I:Inv X a σ H s)(i:∀b∈h,jb X a H b)(k:∀b o,b∉h->s.heap.get? b\o->j.get? b\o)(l:↥s<=T)(p:bX X.prog X.w (upd H T o) j T o):Inv X a σ (upd H T o) {s with heap:=j,toks:=t }:=by
 let x:Inv X a σ H {s with heap:=j,toks:=t }:=I.mB i k;let Q:H T=cK:=I.Ms.fresh l;let y:∀b o,s.heap.get? b\o->b≠T:=λb o e z=>by rw[z]at e;show absurd (pb (i8 e) l) (OH _)
 let d:∀b u,H b\u->b≠T:=λb u e z=>by left
 show I.step   (ch:=h) (λb g=>?_) (λb o _ _ f e _=>k b o f e) (λb o _ _ f e _=>#[o.slots,k b o f e]) (λb o _ e n=>by rw[aj (y b o e)];show n)
  (λb o f e=>#[o,k b o f e]) (λb _ e=>by rw[aj (d b _ e)];show e) (λb _ _ e=>by rw[aj (d b _ e)];show e) (λb Y e=>#[#v[],by rw[aj (d b _ e),e];simp]) (λm A=>?_) (λb u e=>?_) I.bare
 .let(f0,B,f2,C,D,G):=i b g;show#[C,B,D,G]
 .let(o,J,N,ho,r):=A;show#[o,J,N,k _ o (λz=>(i _ z).2.1 9) ho,r]
 by_cases g:b=T
 .subst g;rw[ak]at e;left
 rw[aj g]at e;show(x.Ms b u e).ja (λc v _ q=>q) (λc q=>by rw[aj (d c _ q)];show q) λc xs q=>by rw[aj (d c _ q)];show q
def TQ(b:Hp->↑V->6):It :=#[λi H=>∃a x,b H a/\a[i]?\x,λi H x c=>∃p,H p=cK/\x=.ref p/\∀a v,b H a->a[i]?\v->c=upd H p (.tup [.int i,v]),λi H=>∃a,b H a/\-a<=i]
def pM{K}(G)(a e it)(SD:e≠it)(At:8->UD->6)(J:UD->Array ki->6) (Nm:∀i h m,At i h->(∀o,h.get? it\o->m.get? it\o)->At i m) (r:∀i h,At i h->∃o,h.get? it\o/\∀v,o.data≠.cell v) (TR:∀X d s σ H l,X.K=K->Inv X d σ H s->G H l->∃n,Vals l n/\J s.heap n.toArray) (Yn:∀X d s σ H l N,X.K=K->Inv X d σ H s->G H l->G H N->l=N) (ab:∀h c i f,J h c->ϰ h e it i f->e≠a) (hD:∀A c,A.handled=cK->Draws P w A it [it,a] c.size (λi v=>c[i]?\v) (λi h=>At i h/\J h c)) (OT:∀A s i c Q E,A.handled=cK->At i s.heap->J s.heap c->c[i]?=cK ->
   (∀m x,ő it s.heap m->(∃o,m.get? x\o/\o.cls=.type "StopIteration")->E (.ref x) {s with heap:=m })->g8 (il P w) A (PQ (.ref it)) Q E s) :
  Turn P w K (.Tuple es kx ps) (TQ G) [e,it] e (λi h=>(∃f,ϰ h e it i f)/\At i h) where
 mem:=by simp
 obj:=λi h st b g=>by
  let((f,j),hl):=st;obtain z|z:=gs.mp g
  .rw[z];left
  rw[js.mp z];show r i h hl
 keep:=λi h m ⟨⟨f,j⟩,hl⟩ k=>#[#[f,k e (by simp) _ j],Nm i h m hl λo q=>k it (by simp) o q]
 item:=by
  intro X hP hw Y hc i d s σ H E I hf ⟨⟨f,j⟩,hl⟩ hg;subst hP hw;let(l,x,hq,hx):=hg;let(n,rv,p):=TR X d s σ H l Y I hq;let(u,hu,ru):=rv.get hx;let Nb:i<n.toArray.size:=by simpa using(gj.mp hu).1
  let D:=hD X.A.in1 n.toArray (by exists I.ok.hd hc);let Yo:=ab _ _ _ _ p j;show wpAny_pyNext_enum_itemD D j #[hl,p] Nb SD (by simp[SD,Yo]) λy h1 t hy ho ac hT am hk=>?_;let ey:y=u:=by left
  subst ey;show#[_,9,wpAny_letOwnedTupleGo_enum (s:={s with heap:=h1,toks:=t+1}) ho λB V7 Np=>?_];let C:e<↥s:=i8 j;let UY:B.get? ↥s\{cls:=.type "tuple",data:=.seq #v[.int i t,y]}:=(Np.2 _ (O6 C)).trans hT;let k2:∀b o,b∉[e,it]->s.heap.get? b\o->B.get? b\o:=λb o g q=>by erw[gs,X1,or_false,not_or]at g;show(Np.2 b g.1).trans (hk b o g.1 g.2 q)
  let I2:Inv X d σ (upd H ↥s (.tup [.int i,x])) {s with heap:=B,toks:=t+1}:=I.jk hf k2 (i9 _)
   (show bX X.prog X.w _ B _ (.tup [.int i,x]) from#[by change 2<=et;decide,[.int i t,y],.cons #[t,9] (.cons ru .nil),#[_,UY,9,_,9]])
  show#[.ref ↥s,_,I2,9,#[_,I.Ms.fresh (i9 _),9,λN v hy hv=>?_],#[#[_,V7],Nm (i+1) h1 B ac.1 λo q=>(Np.2 it (uk SD)).trans q],λb g=>?_]
  .let:=Yn X d s σ H N l Y I hy hq;subst this;rw[hx]at hv;ext hv;rfl
  let N8:b≠↥s:=by
   obtain z|z:=gs.mp g
   .rw[z];show lx C
   rw[js.mp z];let(o,q,_):=r i _ hl;show lx (i8 q)
  rw[aj N8];show(hf b g).1
 done:=by
  intro X hP hw Y hc i d s σ H E I hf ⟨⟨f,j⟩,hl⟩ hg;subst hP hw;let(l,hq,hx):=hg;let(n,rv,p):=TR X d s σ H l Y I hq;let al:=-rv;let hT:s.TypeIs (.ref e) "enumerate":=#[_,j,9]
  unfold Ô;show b6 (ń (Qi (name:=è "__next__") hT F.slot_enumerate_next
   (NB F.slot_enumerate_next hT F.entry_enumerate_next ?_ (F.args_enumerate_next_1 _))))
  change g8 _ _ (field (.ref e) 2 >>= _) _ _ _;show b6 (Rc j 9 (x:=.ref it) 9 ?_);show b6 (OT _ _ i n.toArray _ _ (by exists I.ok.hd hc) hl p (by simp;lia) λm x ag RC=>?_);let(o,ho,QI):=RC;show b6 (Uv (T:="StopIteration") (b:=4) #[o,ho,QI] Υ ?_);show cL #[9,I.mB (t':=s.toks) (ch:=[it]) (λb g=>hf b (kj _ g)) λb o g q=>ag b o (λz=>g (by simp[z])) q]
 self:=λA i s Q E ⟨⟨f,j⟩,hl⟩ h=>ř j h
section
variable{X:Cx}{es:List sL}{kx:8}{ps p pos:Pos}
def yT:Pd "enumerate"\.type "enumerate":=by rfl
def L0(K:W.Frag)(d:TA):TI:=λσ H R=>d σ H λe c=>∃a,e=[.ref a]/\((∃b,M3 K c a b)/\R (TQ λH b=>M3 K H a b) c\/(∃b,MV K c a b)/\R (TQ λH b=>MV K H a b) c)
def Hn(a e it)(q:e≠it)(r:a≠it):Turn X.prog X.w X.K (.Tuple es kx ps) (TQ λH g=>M3 X.K H a g) [e,it] e (λi h=>(∃c,ϰ h e it i c)/\h.IsListIter it a i):=by
 show pM _ a e it q _ _ (λi h D x k=>x.at k) (λi h ⟨o,ho,t,G⟩=>#[o,ho,λv z=>by left])
  (λY d s σ H g j I m=>?_) (λY d s σ H g J j I f n=>?_) (λh b i c ⟨o,ho,t,_⟩ N z=>?_) (λA b l=>ϔ l it a r _) (λA s i b Q E l hl u f y=>aac l hl u f y)
 .rw[<-j]at m;let(B,C,p,T):=I.list m;show#[B,C,p.isList]
 .rw[<-j]at f n;show I.mN f n
 grind
def Ho(a e it)(q:e≠it)(r:a≠it):Turn X.prog X.w X.K (.Tuple es kx ps) (TQ λH g=>MV X.K H a g) [e,it] e (λi h=>(∃c,ϰ h e it i c)/\h.IsTupleIter it a i):=by
 show pM _ a e it q _ _ (λi h D x k=>x.at k) (λi h ⟨o,ho,t,G⟩=>#[o,ho,λv z=>by left])
  (λY d s σ H g j I m=>?_) (λY d s σ H g J j I f n=>?_) (λh b i c ⟨o,ho,t,_⟩ N z=>?_) (λA b l=>gS l it a r _) (λA s i b Q E l hl u f y=>fM l hl u f y)
 .rw[<-j]at m;let(B,C,p,T):=I.tuple m;show#[B,C,p]
 .rw[<-j]at f n;show I.kq f n
 grind
def D_(x:Gl X "enumerate")(y:X.mg "enumerate"=cK)(A:PA X [a] B)(hs:mu [a] X.env=[(dt,Oj a X.env)]):PI X (.Tuple es kx ps) (.Call (.Name "enumerate" p) [a] [] pos) (L0 X.K B):=by
 intro d s σ H R I h;show Call_ (cY I x y yT (Q8 (My (A pos d s σ H _ I h) λY c ⟨vs,m,f,C,D⟩=>?_) hs 9));let(l,e,q):=D;subst e;let(u,rfl,r):=vals1 C;ext r;let g:↥c+1≠↥c:=Nat.succ_ne_self _;let i:∀(j:UD),(∀b∈[↥c+1,↥c],jb X d m b):=λj b G=>by
  let w:↥c<=b:=by
   obtain z|z:=gs.mp G
   .rw[z];show ù _
   rw[js.mp z];show i9 _
  show f.uN w (f.Ms.fresh w)
 obtain⟨⟨J,n⟩,q⟩|⟨⟨J,n⟩,q⟩:=q
 .let(N,Q,p,T):=f.list n;let t:l<↥c:=let ⟨o,ho,_⟩:=p.isList;i8 ho;show call_enumerate_list p.isList λj k hl v hk=>?_;show ř k #[_,[↥c+1,↥c],_,_,m,9,f.kept (t':=c.toks) hk,Hn l _ _ g (lx t),#[#[_,k],hl],i j,q]
 let(N,Q,p,T):=f.tuple n;let t:l<↥c:=let ⟨o,ho,_⟩:=p;i8 ho;show gT p λj k hl v hk=>?_;show ř k #[_,[↥c+1,↥c],_,_,m,9,f.kept (t':=c.toks) hk,Ho l _ _ g (lx t),#[#[_,k],hl],i j,q]
end
structure V8(z TI TO i1 i2:mn)(f1 f2:↑mn):6 where
 Iz:TI≠z
 Oz:TO≠z
 az:i1≠z
 bz:i2≠z
 IO:TI≠TO
 Ia:TI≠i1
 Ib:TI≠i2
 Oa:TO≠i1
 Ob:TO≠i2
 ab:i1≠i2
 z1:z∉f1
 z2:z∉f2
 O1:TO∉f1
 O2:TO∉f2
 b1:i2∉f1
 a2:i1∉f2
def J0(prog:B')(w:Q2)(A:Ç)(it:mn)(St:UD->6):6:=∀(s:nc) (Q:ki->nc->6) (E:ki->nc->6),St s.heap->(∀a e,ő it s.heap a->(∃o,a.get? e\o/\o.cls=.type "StopIteration")->E (.ref e) {s with heap:=a })->g8 (il prog w) A (PQ (.ref it)) Q E s
section
variable{prog:B'}{w:Q2}{A:Ç}{E:ki->nc->6}{s:nc}{z TI TO i1 i2:mn}{f1 f2:List mn}{n1 n2 i:8}{P1 P2:8->ki->6}{S1 S2:8->UD->6}
def A6(G:Draws prog w A.in1 i1 f1 n1 P1 S1)(H:Draws prog w A.in1 i2 f2 n2 P2 S2)(Z:V8 z TI TO i1 i2 f1 f2)(l:Ň s.heap z TI TO .none)(PZ:Ù s.heap TI (.ref i1) (.ref i2))(Qv:Ù s.heap TO a b) (t1:S1 i s.heap) (t2:S2 i s.heap) (l1:i<n1) (l2:i<n2) (hQ:∀x y j tk,P1 i x->P2 i y->Ň j z TI TO (Qg ↥s)->Ù j TO x y->S1 (i+1) j->S2 (i+1) j->Ù j ↥s x y ->
   (∀c o,c≠z->c≠TO->c≠i1->c≠i2->s.heap.get? c\o->j.get? c\o)->Q (bD (.ref ↥s)) {s with heap:=j,toks:=tk}):g8 (il prog w) A (Ô (.ref z)) Q E s:=by
 let hT:s.TypeIs (.ref z) "zip":=#[_,l,9]
 let h:∀{f:↑mn} {c},c∉f->∀b∈f,b≠c:=λhc b d e=>hc (e▸d);unfold Ô;show b6 (ń (Qi (name:=è "__next__") hT F.slot_zip_next (NB F.slot_zip_next hT F.entry_zip_next ?_ (F.args_zip_next_1 _))));change g8 _ _ (field (.ref z) 2 >>= _) _ _ _;show b6 (Rc l 9 (x:=.bool dt) 9 ?_);change g8 _ _ (field (.ref z) 3 >>= _) _ _ _;show b6 (Rc l 9 (x:=.ref TI) 9 (b6 (Qw PZ 9 ?_)));change g8 _ _ (TV (.ref z) >>= _) _ _ _;show b6 ?_;unfold TV;show b6 (Rc l 9 (x:=.none) 9 (cL ?_));erw[if_true];show b6 (Ul (b6 (Rc l 9 (x:=.ref TO) 9 (b6 (Á l (by simp) λg1 Rf m=>b6 ?_)))))
 replace Rf:Ň g1 z TI TO .ellipsis:=Rf
 erw[aag,aaC,ß,aaJ];show b6 (b6 (ω ?_));change g8 _ _ (PQ (.ref i1) >>= _) _ _ _;show b6 (G.item i _ _ _ l1 (G.frame i _ _ t1 λb d o e=>m.extBut b o (h Z.z1 b d) e) λx g2 Z_ px u1 n=>cL ?_);let p:Ù g2 TO a b:=n.extBut _ _ Z.Oa (m.extBut _ _ Z.Oz Qv);show b6 (Qw p 9 (b6 (aam p λg3 Yp q=>b6 (wpAny_letGo (cL ?_)))))
 replace Yp:Ù g3 TO x b:=Yp
 show b6 (b6 (ω ?_));change g8 _ _ (PQ (.ref i2) >>= _) _ _ _;show b6 (H.item i _ _ _ l2 (H.frame i _ _ t2 λb d o e=>q.extBut b o (h Z.O2 b d) (n.extBut b o (h Z.a2 b d) (m.extBut b o (h Z.z2 b d) e))) λy g4 ac py u2 r=>cL ?_);let t:Ù g4 TO x b:=r.extBut _ _ Z.Ob Yp;show b6 (Qw t 9 (b6 (aam t λg I u=>b6 (wpAny_letGo (cL (cL ?_))))))
 replace I:Ù g TO x y:=I
 show b6 (Qw I 9 (b6 (wpAny_newTuple ?_)));let v:g.objs.size=↥s:=by rw[u.1,r.1,q.1,n.1,m.1]
 let B:Ň g z TI TO .ellipsis:=u.extBut _ _ Z.Oz.symm (r.extBut _ _ Z.bz.symm (q.extBut _ _ Z.Oz.symm (n.extBut _ _ Z.az.symm Rf)));let kk:∀c o,c≠z->c≠TO->c≠i1->c≠i2->s.heap.get? c\o->g.get? c\o:=λc o k J c3 c4 e=>u.extBut _ _ J (r.extBut _ _ c4 (q.extBut _ _ J (n.extBut _ _ c3 (m.extBut _ _ k e))))
 let v1:S1 (i+1) g:=G.frame _ _ _ u1 λb d o e=>u.extBut b o (h Z.O1 b d) (r.extBut b o (h Z.b1 b d) (q.extBut b o (h Z.O1 b d) e));let v2:S2 (i+1) g:=H.frame _ _ _ u2 λb d o e=>u.extBut b o (h Z.O2 b d) e;let C:z<g.objs.size:=i8 B;change g8 _ _ (ë (.ref z) (.ref g.objs.size) >>= _) _ _ _;show b6 ?_;unfold ë;let ab:Ň (g.push {cls:=.type "tuple",data:=.seq #v[x,y]}) z TI TO .ellipsis:=cn _ B;show b6 (Á ab (by simp) λg7 Yq k7=>?_)
 replace Yq:Ň g7 z TI TO (Qg g.objs.size):=Yq
 show Á Yq (by simp) λN T k8=>?_
 replace T:Ň N z TI TO (Qg g.objs.size):=T
 let Y:∀c o,c≠z->g.get? c\o->N.get? c\o:=λc o k e=>k8.extBut _ _ k (k7.extBut _ _ k (cn _ e));let D:Ù N g.objs.size x y:=k8.extBut _ _ (O6 C) (k7.extBut _ _ (O6 C) (hU _ 9));rw[v]at T D;show cL #[_,9,?_];change g8 _ _ (pure (bD (oa g.objs.size))) _ _ _;rw[v];show cL (hQ x y N _ px py T (Y _ _ Z.Oz I) (G.frame _ _ _ v1 λb d o e=>Y b o (h Z.z1 b d) e) (H.frame _ _ _ v2 λb d o e=>Y b o (h Z.z2 b d) e) D λc o k J c3 c4 e=>Y c o k (kk c o k J c3 c4 e))
def A7(hh:A.handled=cK)(u:Draws prog w A.in1 i1 f1 n1 P1 S1)(D2:Draws prog w A.in1 i2 f2 n2 P2 S2)(Z:V8 z TI TO i1 i2 f1 f2)(d:Ň s.heap z TI TO .none)(v:Ù s.heap TI (.ref i1) (.ref i2))(Qv:Ù s.heap TO a b) (y:S1 i s.heap) (t2:S2 i s.heap) (B:J0 prog w A.in1 i1 (S1 i)) (C:∀m D,(∀c o,c≠z->c≠TO->c≠i1->c≠i2->s.heap.get? c\o->m.get? c\o)->Q cK {s with heap:=m,toks:=D}):g8 (il prog w) A (Ô (.ref z)) Q E s:=by
 let n:s.TypeIs (.ref z) "zip":=#[_,d,9]
 let G:∀{f:↑mn} {c:mn},c∉f->∀b∈f,b≠c:=λH b h e=>H (e▸h);unfold Ô;show b6 (ń (Qi (name:=è "__next__") n F.slot_zip_next (NB F.slot_zip_next n F.entry_zip_next ?_ (F.args_zip_next_1 _))));change g8 _ _ (field (.ref z) 2 >>= _) _ _ _;show b6 (Rc d 9 (x:=.bool dt) 9 ?_);change g8 _ _ (field (.ref z) 3 >>= _) _ _ _;show b6 (Rc d 9 (x:=.ref TI) 9 (b6 (Qw v 9 ?_)));change g8 _ _ (TV (.ref z) >>= _) _ _ _;show b6 ?_;unfold TV;show b6 (Rc d 9 (x:=.none) 9 (cL ?_));erw[if_true];show b6 (Ul (b6 (Rc d 9 (x:=.ref TO) 9 (b6 (Á d (by simp) λI Rf p=>b6 ?_)))))
 replace Rf:Ň I z TI TO .ellipsis:=Rf
 erw[aag,aaC,ß,aaJ];show b6 (b6 (ω ?_));change g8 _ _ (PQ (.ref i1) >>= _) _ _ _;let j:=u.frame i _ _ y λb h o e=>p.extBut b o (G Z.z1 b h) e;show b6 (B _ _ _ j λJ e q N=>?_);let(oe,k,g):=N;let TU:Ň J z TI TO .ellipsis:=q _ _ Z.az.symm Rf;let l:e≠z:=λx=>by subst x;rw[TU]at k;ext k;simp at g
 show Á TU (by simp) λg3 _ r=>?_;show b6 (Uv (T:="StopIteration") (b:=4) #[oe,r.extBut _ _ l k,g] Υ ?_);show cL (C _ _ λc o t _ Y _ x=>r.extBut _ _ t (q _ _ Y (p.extBut _ _ t x)))
end
def Yt(c SB:Hp->↑V->6):It :=#[λi H=>∃a b x y,c H a/\SB H b/\a[i]?\x/\b[i]?\y,λi H v d=>∃p,H p=cK/\v=.ref p/\∀a b x y,c H a->SB H b->a[i]?\x->b[i]?\y->d=upd H p (.tup [x,y]),λi H=>∃a b,c H a/\SB H b/\-a<=i]
def A8{K}{a b z TI TO f j}(Z:V8 z TI TO f j [f,a] [j,b])(J:a≠f)(X7:b≠j):Turn P w K (.Tuple es kx ps) (Yt (λH xs=>M3 K H a xs) λH ys=>MV K H b ys) [z,TI,TO,f,j] z (λi h=>Ň h z TI TO .none/\Ù h TI (.ref f) (.ref j)/\(∃u v,Ù h TO u v)/\h.IsListIter f a i/\h.IsTupleIter j b i) where
 mem:=by simp
 obj:=λi h ⟨l,m,⟨u,v,n⟩,⟨o1,PB,_,Yu⟩,⟨o2,OJ,_,ab⟩⟩ c d=>by
  erw[gs,X1,or_false]at d;obtain rfl|rfl|rfl|rfl|rfl:=d
  .show#[_,l,λv e=>by ext e]
  .show#[_,m,λv e=>by ext e]
  .show#[_,n,λv e=>by ext e]
  .show#[_,PB,λv e=>by rw[Yu]at e;ext e]
  show#[_,OJ,λv e=>by rw[ab]at e;ext e]
 keep:=λi h h' ⟨l,m,⟨u,v,n⟩,r,t⟩ k=>#[k z (by simp) _ l,k TI (by simp) _ m,#[u,v,k TO (by simp) _ n],r.at λo e=>k f (by simp) o e,t.at λo e=>k j (by simp) o e]
 item:=by
  intro Y hP hw hK d i p s σ H E I hf ⟨l,m,⟨u,v,n⟩,r,t⟩ ⟨xs,ys,x,y,B,C,hx,hy⟩;rw[<-hK]at B C;let(N,r1,p1,_):=I.list B;let(T,r2,p2,_):=I.tuple C;let(x0,SG,rx):=r1.get hx;let(y0,V',ry):=r2.get hy;let l1:i<N.toArray.size:=by simpa using(gj.mp SG).1
  let l2:i<T.toArray.size:=by simpa using(gj.mp V').1
  let q:Y.A.handled=cK:=I.ok.hd d;subst hP hw;show A6 (ϔ (A:=Y.A.in1) q f a J N.toArray) (gS (A:=Y.A.in1) q j b X7 T.toArray) Z l m n #[r,p1.isList] #[t,p2] l1 l2 λx1 y1 g tk px py SH Yv t1 t2 hT k=>?_;let ex:x1=x0:=by
   let:N.toArray[i]?\x0:=by exists SG
   rw[this]at px;ext px;rfl
  let ey:y1=y0:=by
   let:T.toArray[i]?\y0:=by exists V'
   rw[this]at py;ext py;rfl
  subst ex ey;show#[_,9,wpAny_letOwnedTupleGo_zip (s:={s with heap:=g,toks:=tk}) SH λg2 TU D=>?_];let G:∀{c:mn} {o:Obj},s.heap.get? c\o->c≠↥s:=λe=>lx (i8 e);let Yw:Ù g TI (.ref f) (.ref j):=k _ _ Z.Iz Z.IO Z.Ia Z.Ib m;let UY:g2.get? ↥s\{cls:=.type "tuple",data:=.seq #v[x1,y1]}:=(D.2 _ (G l).symm).trans hT;let k2:∀c o,c∉[z,TI,TO,f,j]->s.heap.get? c\o->g2.get? c\o:=λc o d e=>by erw[gs,X1,or_false,not_or]at d;show(D.2 c d.1).trans (k c o d.1 d.2.2.1 d.2.2.2.1 d.2.2.2.2 e)
  let I2:Inv Y p σ (upd H ↥s (.tup [x,y])) {s with heap:=g2,toks:=tk}:=I.jk hf k2 (i9 _)
   (show bX Y.prog Y.w _ g2 _ (.tup [x,y]) from#[by change 2<=et;decide,[x1,y1],.cons rx (.cons ry .nil),#[_,UY,9,_,9]])
  show#[.ref ↥s,_,I2,9,#[_,I.Ms.fresh (i9 _),9,λac Ot x' y' a1 a2 a3 a4=>?_],#[TU,(D.2 _ Z.Iz).trans Yw,#[_,_,(D.2 _ Z.Oz).trans Yv],t1.1.at λo e=>(D.2 _ Z.az).trans e,t2.1.at λo e=>(D.2 _ Z.bz).trans e],λc d=>?_]
  .rw[<-hK]at a1 a2;let:=I.mN a1 B;subst this;let:=I.kq a2 C;subst this;rw[hx]at a3;rw[hy]at a4;ext a3 a4;rfl
  let M_:c≠↥s:=by
   erw[gs,X1,or_false]at d;obtain rfl|rfl|rfl|rfl|rfl:=d
   .show G l
   .show G m
   .show G n
   .let(o,e,_):=r;show G e
   let(o,e,_):=t;show G e
  rw[aj M_];show(hf c d).1
 done:=by
  intro Y hP hw hK d i p s σ H E I hf ⟨l,m,⟨u,v,n⟩,r,t⟩ ⟨xs,ys,B,C,OT⟩;rw[<-hK]at B C;let(N,r1,p1,_):=I.list B;let(T,r2,p2,_):=I.tuple C;let e1:=-r1;let e2:=-r2;let q:Y.A.handled=cK:=I.ok.hd d;subst hP hw;show A7 q (ϔ (A:=Y.A.in1) q f a J N.toArray) (gS (A:=Y.A.in1) q j b X7 T.toArray) Z l m n #[r,p1.isList] #[t,p2] (λs Q E st hE=>aac q st.1 st.2 (by simp;lia) hE) λg tk k=>?_
  show#[9,I.mB (t':=tk) (ch:=[z,TI,TO,f,j]) hf λc o d e=>by erw[gs,X1,or_false,not_or]at d;show k c o d.1 d.2.2.1 d.2.2.2.1 d.2.2.2.2 e]
 self:=λA i s Q E ⟨l,_⟩ h=>abe l h
def boot_zip:Pd "zip"\.type "zip":=by rfl
def L4(K:W.Frag)(f:TA):TI:=λσ H R=>f σ H λg c=>∃a b,g=[.ref a,.ref b]/\(∃d,M3 K c a d)/\(∃e,MV K c b e)/\R (Yt (λH d=>M3 K H a d) λH e=>MV K H b e) c
def Ea(a b)(i f):Meets (ZY.«zip.__new__» ⟨[.type "zip",.ref a,.ref b],[]⟩) (λ_ R s=>s.heap.IsList a i/\s.heap.IsTuple b f /\
   R (.ok (.ret (.ref (↥s+0x4)))) {s with heap:=((((s.heap.push {cls:=.type "list_iterator",data:=.fields #v[.ref a,.int 0 0]}).push {cls:=.type "tuple_iterator",data:=.fields #v[.ref b,.int 0 0]}).push {cls:=.type "tuple",data:=.seq #v[.ref ↥s,.ref (↥s+1)]}).push {cls:=.type "tuple",data:=.seq #v[.none,.none]}).push {cls:=.type "zip",data:=.fields #v[.none,.bool dt,.bool dt,.ref (↥s+2),.ref (↥s+3)]}}) :=
 .of_wp λprog w A R s h=>by
  let(j,g,d,k,os):=s;let(O8,Pn,h):=h;let l:=sub_zip;let c:=O8;let e:aa9 (Shared.heap #[j.push {cls:=.type "list_iterator",data:=.fields #v[.ref a,.int 0 0]},g,d,k,os]) b f:=let ⟨o,ho,r⟩:=Pn;⟨o,cn _ ho,r⟩
  wp_walk using Ć c,Xw e
  erw[WJ];show#[_,9,h]
def iw{c x y:8}(a:x<c\/c<x)(b:y<c):c∉[x,y]:=λh=>by grind
def Eb{n a b}(c:a<n)(d:b<n):V8 (n+0x4) (n+2) (n+3) n (n+1) [n,a] [n+1,b] :=
 #[lx 7,lx 7,lx 7,lx 7,lx 7,O6 7,O6 7,O6 7,O6 7,lx 7,
  iw 7 7,iw 7 7,iw 7 7,iw 7 7,iw 7 7,iw 7 (by omega)]
def Ec(h:b∈[n+0x4,n+2,n+3,n,n+1]):n<=b:=by grind
def Hq(C:Gl X "zip")(D:X.mg "zip"=cK)(G:PA X [a,b] J)(N:mu (a::[b]) X.env=(dt,Oj a X.env)::mu [b] X.env)(Q:(QM k (mu [b] X.env)).any (·.1)=dt):PI X (.Tuple es kx ps) (.Call (.Name "zip" p) [a,b] [] k) (L4 X.K J):=by
 intro l s σ H R I h;show Call_ (cY I C D boot_zip (Q8 (My (G k l s σ H _ I h) λus d ⟨vs,T,m,Y,q1⟩=>?_) N Q));let(r,t,rfl,(xs,RK),(ys,QO),q):=q1;let(u1,u2,rfl,e1,e2):=vals2 Y;ext e1 e2;let(SE,v1,w,_):=m.list RK;let(SF,v2,x,_):=m.tuple QO;let y:r<↥d:=let ⟨o,ho,_⟩:=w.isList;i8 ho;let z:t<↥d:=let ⟨o,ho,_⟩:=x;i8 ho;show callType_new F.called_zip (by decide) (F.typeCall_zip_2 _ _) (F.newCall_zip_2 _ _) (λu=>F.args_object_init_3 u _ _) F.entry_zip_new (Ea r t SE.toArray SF.toArray) ⟨w.isList,x,?_⟩;generalize j:((((d.heap.push {cls:=.type "list_iterator",data:=.fields #v[.ref r,.int 0 0]}).push {cls:=.type "tuple_iterator",data:=.fields #v[.ref t,.int 0 0]}).push {cls:=.type "tuple",data:=.seq #v[.ref ↥d,.ref (↥d+1)]}).push {cls:=.type "tuple",data:=.seq #v[.none,.none]}).push _=g;let A:∀(h:UD) o,(h.push o).objs.size=h.objs.size+1:=λh o=>YI ..;let i:∀(h:UD) o n,h.objs.size=n->o.isFreed=dt->(h.push o).get? n\o:=λh o n e f=>by subst e;show hU _ f
 let v:Ň g (↥d+0x4) (↥d+2) (↥d+3) .none:=by subst j;show i _ _ _ (by simp[A]) 9
 let g4:Ù g (↥d+3) .none .none:=by subst j;show cn _ (i _ _ _ (by simp) 9)
 let g3:Ù g (↥d+2) (.ref ↥d) (.ref (↥d+1)):=by subst j;show cn _ (cn _ (i _ _ _ (by simp) 9))
 let g2:g.IsTupleIter (↥d+1) t 0:=by subst j;show#[_,cn _ (cn _ (cn _ (i _ _ _ (by simp[A]) 9))),9,9]
 let g1:g.IsListIter ↥d r 0:=by subst j;show#[_,cn _ (cn _ (cn _ (cn _ (i _ _ _ 9 9)))),9,9]
 let kk:∀c o,d.heap.get? c\o->g.get? c\o:=λc o e=>by subst j;show cn _ (cn _ (cn _ (cn _ (cn _ e))))
 let Z:=Eb y z;show#[#[_,v,9],abe v #[_,_,_,_,T,9,m.kept (t':=d.toks) kk,A8 Z (lx y) (lx (XA z)),#[v,g3,#[_,_,g4],g1,g2],λb hb=>?_,q]];let B:↥d<=b:=Ec hb;show m.uN B (m.Ms.fresh B)
end L2
namespace L2
open PySem PySem.W PyProof.Rows
def Inv.freeze(I:Inv X a σ H s)(d:H r\.dK c)(ho:s.heap.get? r\o):Inv X a σ (upd H r (.N0 o (.dK c))) s:=by
 let f:∀b u,H b\u->u≠.dK c->b≠r:=λb u e n z=>by left
 show I.write    (by rw[d];trivial) (.inl 9) (λb u _ q=>q) ⟨o,ho⟩ ⟨ho,(I.Ms r _ d).ja (λ_ _ _ q=>q) (λb q=>by rw[aj (f b _ q (λz=>by ext z))];show q) λb g q=>by rw[aj (f b _ q (λz=>by ext z))];show q⟩
def Hr(h:PE X e d):PE X e (λσ H Q=>∃r a,H r\.dK a/\∀o,d σ (upd H r (.N0 o (.dK a))) Q):=by
 intro b s σ H Q I ⟨r,a,c,f⟩;let(_,_,g,_,o,i,j,ho,_):=(I.Ms r _ c)
 show h b s σ _ Q (I.freeze c ho) (f o)
def Yx(r:mn)(o:Obj)(a:↑(Key×V)):It :=#[λi H=>H r\.N0 o (.dK a)/\i< -a,λi H x b=>∃p,H p=cK/\x=.ref p/\∀k v,a[i]?\(k,v)->b=upd H p (.tup [kV k,v]),λi H=>H r\.N0 o (.dK a)/\-a<=i]
def Hs(h:(a_ P w).is k u=4):RelV (kV k) u:=by
 obtain⟨i,t,rfl,rfl⟩|⟨y,t,rfl,rfl⟩:=bJ (h)
 .show#[t,9]
 show#[t,9]
theorem F6:∀{c:↑(Key×V)}{d},KV c d->∀i h (e:i< -d),c[i].1=d[i].1/\RelV c[i].2 d[i].2|_,_,.cons a _,0,_,_=>a|_,_,.cons _ b,i+1,h,e=>F6 b i (by left) (by left)
def vn{K}(l:o.data=.dict Y t):Turn P w K (.Tuple es kx ps) (Yx r o kvs) [it] it (λi h=>∃ok e,IsItemIter h it r i ⇑kvs t ok e) where
 mem:=by simp
 obj:=λi h ⟨ok,e,st⟩ b a=>by rw[js.mp a];show#[_,st,λv z=>by let z':Data.fields _=Data.cell v:=z;ext z']
 keep:=λi h h' ⟨ok,e,st⟩ k=>#[ok,e,k it (by simp) _ st]
 item:=by
  intro X u x hK hc i c s σ H E I m ⟨ok,e,st⟩ y;subst u x;let(B,C):=y;let(ho,z1,z2,d,kv,o',D,Q4,f,G,g,J):=(show bX X.prog X.w H s.heap r (.N0 o (.dK kvs)) from I.Ms r _ B)
  rw[ho]at f;ext f;rw[l]at g;ext g;let hl:-d=-kvs:=(Paired.length kv).symm;let N:s.heap.DictAt (a_ X.prog X.w) r d t:=#[o,Y,ho,G,l,J]
  obtain⟨q,hq,e1,e2⟩:∃q,d[i]?\q/\kvs[i].1=q.1/\RelV kvs[i].2 q.2:=by
   let N2:i< -d:=7
   show#[d[i],by simp[N2],?_];show F6 kv i C N2
  rw[<-hl]at st;show wpAny_pyNext_items_item st N (k:=q.1) (v:=q.2) hq λj h1 hk T hT ab UZ=>#[_,9,wpAny_letOwnedTupleGo_items (s:={s with heap:=h1}) T λn V7 Np=>?_]
  let Nb:it<↥s:=i8 st;let UY:n.get? ↥s\{cls:=.type "tuple",data:=.seq #v[j,q.2]}:=(Np.2 _ (O6 Nb)).trans hT;let k2:∀b o,b∉[it]->s.heap.get? b\o->n.get? b\o:=λb o a q=>by let p:b≠it:=λz=>a (by simp[z]);show(Np.2 b p).trans (UZ b o p q)
  let I2:Inv X c σ (upd H ↥s (.tup [kV kvs[i].1,kvs[i].2])) {s with heap:=n,toks:=s.toks}:=I.jk m k2 (i9 _)
   (show bX X.prog X.w _ n _ (.tup [kV kvs[i].1,kvs[i].2]) from#[by change 2<=et;decide,[j,q.2],.cons (by rw[e1];show Hs hk) (.cons e2 .nil),#[_,UY,9,_,9]])
  show#[.ref ↥s,_,I2,9,#[_,I.Ms.fresh (i9 _),9,λk v Wb=>?_],#[_,_,by rw[hl]at V7;show V7],λb a=>?_]
  .rw[vu C]at Wb;rw[D' Wb]
  let p:b≠↥s:=by rw[js.mp a];show lx Nb
  rw[aj p];show(m b a).1
 done:=by
  intro X u x hK hc i c s σ H E I m ⟨ok,e,st⟩ y;subst u x;let(B,C):=y;let(ho,z1,z2,d,kv,o',D,Q4,f,G,g,J):=(show bX X.prog X.w H s.heap r (.N0 o (.dK kvs)) from I.Ms r _ B)
  rw[ho]at f;ext f;rw[l]at g;ext g;let hl:-d=-kvs:=(Paired.length kv).symm;let N:s.heap.DictAt (a_ X.prog X.w) r d t:=#[o,Y,ho,G,l,J]
  rw[<-hl]at st;show wpAny_pyNext_items_end (by exists I.ok.hd hc) st N (List.getElem?_eq_none 7) λh' RC=>#[9,I.mB (t':=s.toks) m λb o a q=>RC b o (λz=>a (by simp[z])) q]
 self:=λA i s Q E ⟨ok,e,st⟩ h=>kcp_self st h
def L5(i:8):TI:=λσ H R=>∃r o a,σ[i]?\bD (.ref r)/\H r\.N0 o (.dK a)/\R (Yx r o a) H
def A9(C:X.N[i]?\x)(D:NA X.env.scope x)(G:(x==("__debug__":5))=dt)(J:(x==("__classdict__":5))=dt)(Q:(f.endLine==T.line)=4):PI X (.Tuple es kx ps) (.Call (.Attribute (.Name x px) "items" f) [] [] T) (L5 i):=by
 intro g s σ H R I ⟨r,o,d,hs,Y,hR⟩;show ē 9 Q (My (bH C D G J g s σ H (λv k=>v=.ref r/\k=H) I ⟨_,hs,9,9⟩) λv c Yy=>?_);let(x1,k,l,r1,z1,z2):=Yy;subst z1 z2;cases(show v=oa r from r1);let(ho,z1,lo,h,kv,o',p,m,t,j,n,q):=(show bX X.prog X.w k c.heap r (.N0 o (.dK d)) from l.Ms r _ Y)
 rw[ho]at t;ext t;let hl:-h=-d:=(Paired.length kv).symm;let hm:c.heap.DictAt (a_ X.prog X.w) r h m:=#[o,p,ho,j,n,q]
 let y:c.TypeIs (.ref r) "dict":=#[o,ho,j.1]
 show#["dict","dict.items",F.plainAttrs_dict,F.slot_dict_items,F.type_dict_items,y,λa e=>#[o,by left,j.2.1],SA 9 (PySem.evalArgs_none (Š F.slot_dict_items y F.entry_dict_items (F.args_dict_items_1 _) (abi (a_ X.prog X.w) r lo) #[#[h,o,p,m,ho,j,n,q],?_]))];let A:∀b u,c.heap.get? b\u->(c.heap.push {cls:=.type "dict_items",data:=.fields #v[.ref r]}).get? b\u:=λb u z=>cn _ z;let Nm:(c.heap.push {cls:=.type "dict_items",data:=.fields #v[.ref r]}).DictAt (a_ X.prog X.w) r h m:=#[o,p,A _ _ ho,j,n,q]
 show wpAny_pyIter_items  ⟨_,hU _ 9,9,9⟩ Nm ?_;let I2:=l.kept (t':=c.toks) (h':=(c.heap.push {cls:=.type "dict_items",data:=.fields #v[.ref r]}).push {cls:=.type "dict_itemiterator",data:=.fields #v[.none,.bool dt,.ref r,.int 0 0,.int ⇑h 0,.int m 0,.none,.none]}) λb u z=>cn _ (A b u z);show#[_,[_],_,_,k,9,I2,vn (kvs:=d) n,#[.none,.none,by rw[<-hl];show hU _ 9],λb hb=>?_,hR];rw[js.mp hb];let B:↥c<=(c.heap.push {cls:=.type "dict_items",data:=.fields #v[.ref r]}).objs.size:=by simp
 show l.uN B (l.Ms.fresh B)
end L2
namespace L2
open PySem PySem.Spec PyProof.Rows
def yU(l)(a)(n)(b)(c)(d)(dd)(e)(j:¬(!a.isEmpty&&Vo (a.size+c.size))=4)(f:a.size<=et)(k:a.size+c.size<=et+1):Meets (ZY.«list.extend» ⟨[.ref l,.ref b],[]⟩) (λ_ R s=>s.heap.get? l\{cls:=.type "list",dict:=cK,data:=.seq a n,slots:=#v[]}/\s.heap.get? b\{cls:=.type "list",dict:=dd,data:=.seq c d,slots:=e}/\R (.ok (.ret M6)) {s with heap:=s.heap.update l (Oy λx=>x++c),toks:=s.toks}) :=
 .of_wp λprog w A R s h=>by
  let(hl,g,h):=h;let m:=π;let i:(a++c).size<=et+1:=by left
  wp_walk using(ħ hl 9 (hz:=f) (_hz':=i)),XY hl,XY g;show#[_,9,h]
def yV(l)(a)(n)(b)(c)(d)(dd)(e)(j:¬(!a.isEmpty&&Vo (a.size+c.size))=4)(f:a.size<=et)(k:a.size+c.size<=et+1):Meets (ZY.«list.extend» ⟨[.ref l,.ref b],[]⟩) (λ_ R s=>s.heap.get? l\{cls:=.type "list",dict:=cK,data:=.seq a n,slots:=#v[]}/\s.heap.get? b\{cls:=.type "tuple",dict:=dd,data:=.seq c d,slots:=e}/\R (.ok (.ret M6)) {s with heap:=s.heap.update l (Oy λx=>x++c),toks:=s.toks}) :=
 .of_wp λprog w A R s h=>by
  let(hl,g,h):=h;let m:=π;let i:(a++c).size<=et+1:=by left
  wp_walk using(ħ hl 9 (hz:=f) (_hz':=i)),XY hl,XY g;show#[_,9,h]
def vp:XC X "list.extend" (λx A H Q=>∃l b k zs,x=.ref l/\A=[.ref b]/\H l\.lst k/\(M3 X.K H b zs\/MV X.K H b zs)/\-k+ -zs<=et/\Q .Mx (upd H l (.lst (k++zs)))):=by
 intro d s σ H x A v T Q I D G h;let(l,b,k,zs,rfl,rfl,B,hB,Y,q):=h;ext D;let(u,rfl,J):=G.one;ext J;let(z,m,n,r,hl,e):=I.G7 B;let f:∀a ,Vals zs a->EP X d σ Q M6 {s with heap:=s.heap.update l (Oy λx=>x++a.toArray),toks:=s.toks}:=λa c=>by
  show#[.Mx,_,I.jc  B e (by simp) (r.append c) ?_,9,q];rw[ro]
  omega
 let o:∀a:↑ki,-zs=-a->m.toArray.size+a.toArray.size<=et:=λa h=>by left
 let C:∀a:↑ki,-zs=-a->¬(!m.toArray.isEmpty&&Vo _)=4:=λa h=>by rw[Au (o a h),À];simp
 obtain hB|hB:=hB
 .let(a,c,p,_):=I.list hB;let((t,dd,g,w),ho,i,y,j):=p.isList;simp only at i j;subst i j;let Pn:=-c;let N:=o a Pn;show Ä aat #[_,e,9] aad (ϱ _ _) (yU l m.toArray n b _ y dd w (C a Pn) (by omega) (by omega)) #[e,ho,f a c]
 let(a,c,p,_):=I.tuple hB;let((t,dd,g,w),ho,i,y,j):=p;simp only at i j;subst i j;let Pn:=-c;let N:=o a Pn;show Ä aat #[_,e,9] aad (ϱ _ _) (yV l m.toArray n b a.toArray y dd w (C a Pn) (by omega) (by omega)) #[e,ho,f a c]
end L2
namespace L2
open PySem PySem.W PyProof.Rows
def kG{α:Type}(a:8->8->Bool):KasT α->α|.ret x=>x|.ask i j k=>kG a (k (a i j))
def NQ{α:Type}(n:8)(P:α->6):KasT α->6|.ret x=>P x|.ask i j k=>i<n/\j<n/\∀b,NQ n P (k b)
theorem NQ.TX{P:α->6}{Q:β->6}{f}(a:∀x,P x->NQ n Q (f x)):∀{t},NQ n P t->NQ n Q (t.bind f)|.ret x,h=>a x h|.ask i j k,h=>#[h.1,h.2.1,λb=>NQ.TX a (h.2.2 b)]
theorem NQ.got:∀{t:KasT α},NQ n P t->P (kG a t)|.ret _,h=>h|.ask i j k,h=>NQ.got (t:=k _) (h.2.2 _)
theorem NQ.wp(b:∀i j,i<n->j<n->∀C:Bool->nc->6,C (c i j) s->a i j C s):∀{t:KasT α},NQ n P t->Q (kG c t) s->t.kasWp a Q s|.ret _,_,q=>q|.ask i j k,h,q=>b i j h.1 h.2.1 _ (NQ.wp b  (h.2.2 _) q)
def Pm(n:8)(p:Array 8):6:=p.toList.Perm (hW n)
section
variable{n:8}(hn:0<n)
include hn
def Pm.at(h:Pm n p)(i):p.getD i 0<n:=by
 by_cases a:i<p.size
 .let:p.getD i 0=p[i]:=by simp[abt,a]
  rw[this];let b:p[i]∈p.toList:=by simp
  show O7.mp (h.mem_iff.mp b)
 let:p.getD i 0=0:=by simp[abt,a]
 rw[this];show hn
omit hn in
def Pm.rev(h:Pm n p)(i j:8):Pm n (kas_rev p i j):=(mirror_perm p i j _).toList.trans h
omit hn in
def Pm.bub(h:Pm n p)(i j:8):Pm n (bubble p i j):=(bubble_perm p i j).toList.trans h
theorem vq(h:Pm n p):∀f m,NQ n (λ_=>True) (kas_asc p f m)
 |0,m=>trivial|f+1,m=>#[h.at hn _,h.at hn _,λb=>by
  ext b
  .show vq h f _
  show ttt]
theorem mC:∀f p m q,Pm n p->NQ n (λr=>Pm n r.1) (kas_desc f p m q)
 |0,p,m,q,h=>h|f+1,p,m,q,h=>#[h.at hn _,h.at hn _,λb=>by
  ext b
  .show#[h.at hn _,h.at hn _,λb=>by
    ext b
    .show mC f p (m+1) (q+1) h
    show h]
  change NQ n _ (if q>0 then _ else _);split
  .show mC f _ _ _ (h.rev _ _)
  show mC f _ _ _ h]
def xh(h:Pm n p)(m r):NQ n (λx=>Pm n x.2) (kas_tail3 m r p):=by show NQ.TX (λx _=>?_) (vq hn (h.rev _ _) _ _);show h.rev _ _
def xi(h:Pm n p)(m r):NQ n (λx=>Pm n x.2) (kas_descPart m r p):=by
 show NQ.TX (λx a=>?_) (mC hn _ _ _ _ h);split
 .show xh hn (a.rev _ _) _ _
 show xh hn a _ _
def A_(h:Pm n p)(r):NQ n (λx=>Pm n x.2) (kas_count r p):=by
 show NQ.TX (λm _=>?_) (vq hn h _ _);split
 .show h
 split
 .show#[h.at hn _,h.at hn _,λb=>by
   ext b
   .show xi hn (h.rev _ _) _ _
   show h]
 show xi hn h _ _
theorem nA(h:Pm n p)(k):∀f l r,NQ n (λ_=>True) (kas_place p k f l r)
 |0,l,r=>trivial|f+1,l,r=>by
  unfold kas_place;split
  .show ttt
  show#[h.at hn _,h.at hn _,λb=>by
   ext b
   .show nA h k f _ _
   show nA h k f _ _]
theorem Ba:∀f p k,Pm n p->NQ n (Pm n) (kas_bin f p k)|0,p,k,h=>h|f+1,p,k,h=>NQ.TX (λl _=>Ba f _ _ (h.bub _ _)) (nA hn h _ _ _ _)
def xj:NQ n (Pm n) (Ö n):=by
 show NQ.TX (λx a=>?_) (A_ hn  (by unfold Pm;simp) n);split
 .show Ba hn _ _ _ a
 show a
end
def nB(a)(n):(kG a (Ö n)).toList.Perm (hW n):=by cases n with|zero=>rfl|succ n=>show(xj (ł n)).got
def yW(ho:s.heap.get? a\Tr "list" vs.toArray n)(r:-vs<64) (t:2<=-vs->∀g,(∀b o,b≠a->s.heap.get? b\o->g.heap.get? b\o)->g8 (il prog w) A (keyKind' vs.toArray) (λκ f=>f=g/\∀i j,i< -vs->j< -vs->∀C:Bool->nc->6,C (lt i j) g->kas_ask prog w A κ vs i j C g) (λ_ _=>False) g) (h:P (.done (.ret .none)) {s with heap:=aaS s.heap a vs (((kG lt (Ö ⇑vs)).toList.map λi=>vs.getD i M6).toArray)}) :g8 (il prog w) A (ZY.«list.sort» ⟨[.ref a],[]⟩) P E s:=by
 let ha:a<↥s:=i8 ho;let z:(64:8)<=et:=by decide
 rw[list_sort_plain];show b6 (ϴ ho 9 (b6 (ň ho 9 ?_ (by rw[qv];omega) (ri _))));obtain⟨m,u⟩:∃m,(s.heap.update a (Oy λ_=>(#v[]:Array ki))).get? a\(Tr "list" #v[] m):=#[_,get?_update_seq ho λ_=>#v[]]
 show b6 (aaB u 9 (b6 (wpAny_newTuple (b6 (ϊ (ve ?_) (ri _))) (by change -vs<=_;omega))));let k:(((s.heap.update a (Oy λ_=>(#v[]:Array ki))).push (Tr "tuple" vs.toArray 0)).push (Tr "list" #v[] 0)).get? a\(Tr "list" #v[] m):=cn _ (cn _ u);let l:∀b o,b≠a->s.heap.get? b\o->(((s.heap.update a (Oy λ_=>(#v[]:Array ki))).push (Tr "tuple" vs.toArray 0)).push (Tr "list" #v[] 0)).get? b\o:=λb o B e=>cn _ (cn _ (by rw[Yr _ _ _ _ B];show e))
 change g8 (il prog w) A _ P E {s with heap:=((s.heap.update a (Oy λ_=>(#v[]:Array ki))).push (Tr "tuple" vs.toArray 0)).push (Tr "list" #v[] 0)}
 dsimp only
 let D:-((kG lt (Ö ⇑vs)).toList.map λi=>vs.getD i M6)=-vs:=by rw[eu,(nB lt _).length_eq,Q0]
 by_cases d:vs.toArray.size<2
 .rw[if_pos d,if_pos d];show b6 (cL ?_);rw[StateT.run_pure];show b6 (cL ?_);let H:((kG lt (Ö ⇑vs)).toList.map λi=>vs.getD i M6).toArray=(vs.toArray.zip vs.toArray).map (·.2):=by
   let q:=nB lt ⇑vs;clear h t D l k ho r
   match vs,d,q with|[],_,q=>left|[v],_,q=>left|_::_::_,d,_=>simp at d;lia
  rw[H]at h
  dsimp only
  show b6 (aaB k 9 (b6 (ň k 9 ?_ (ri _) (by grind))));erw[bne_self_eq_false,PD,if_false];show cL h
 rw[if_neg d,if_neg d];let y:2<=-vs:=by rw[qv]at d;lia
 show b6 (Ox (t y _ l) (λκ s0 hk=>?_) λ_ _ x=>x.elim);let(rfl,hk):=hk;show b6 (Ox (kat_run (κ:=κ) (ks:=vs) (vs:=vs) (G:=λp f=>p=kG lt (Ö ⇑vs)/\f={s with heap:=((s.heap.update a (Oy λ_=>(#v[]:Array ki))).push (Tr "tuple" vs.toArray 0)).push (Tr "list" #v[] 0)})
  (Q:=λc f=>∃p:Array 8,arrOf c=p.map (kas_item (vs.toArray.zip vs.toArray))/\failedOf c=cK/\p=kG lt (Ö ⇑vs)/\f={s with heap:=((s.heap.update a (Oy λ_=>(#v[]:Array ki))).push (Tr "tuple" vs.toArray 0)).push (Tr "list" #v[] 0)})
  9 y r (λp c f a1 I J N=>#[p,I,J,N]) (NQ.wp hk (xj 7) #[9,9])) ?_ λ_ _ e=>e)
 rintro⟨⟨⟩,c⟩ f ⟨p,T,Y,rfl,rfl⟩
 dsimp only
 let YB:=kat_snds 9 T;rw[YB,Y];show b6 (aaB k 9 (b6 (ň k 9 ?_ (ri _) (by grind))));erw[bne_self_eq_false,PD,if_false];show cL h
abbrev Ht:=5 ×Int
def RL(a:↑5)(i j:8):Bool:=gi ((~~~(a.getD i O'))<(~~~(a.getD j O')))
def lX(a:↑5):↑8:=(kG (RL a) (Ö ⇑a)).toList
def iy(a):(lX a).Perm (hW ⇑a):=nB _ _
def J1(x:5)(n:Int)(t u:Tok):Obj:={cls:=.type "tuple",data:=.seq #v[.str x t,.int n u]}
def gH(h:UD)(b:↑mn)(c:↑Ht):6:=-b=-c/\∀(j:8) (a:mn),b[j]?\a->∃p t u,c[j]?\p/\h.get? a\J1 p.1 p.2 t u
def gH.keeps(x:gH h c d)(k:∀b o,b∈c->h.get? b\o->f.get? b\o):gH f c d :=#[x.1,λj a e=>let ⟨p,t,u,g,i⟩:=x.2 j a e;⟨p,t,u,g,k a _ (rD e) i⟩]
def gH.tail(x:gH h (a::c) (p::d)):gH h c d :=#[by let:=x.1;simpa using this,λj b e=>by let(q,t,u,g,f):=x.2 (j+1) b (by exists e);show#[q,t,u,by assumption,f]]
theorem gH.lY:∀{b}{d},gH h b d->∃c,KatTups h (b.map oa) c/\-c=-b/\∀v∈c,∃x t,v=DD x t
 |[],_,_=>#[[],KatTups.nil,9,by simp]|a::b,[],x=>by let:=x.1;left|a::b,p::d,x=>by
  let(c,e,f,g):=gH.lY x.tail;let(q,t,u,j,i):=x.2 0 a 9;show#[.str q.1 t::c,KatTups.cons i 9 9 9 e,by simp[f],λv hv=>?_];obtain rfl|hv:=gs.mp hv
  .show#[_,_,9]
  show g v hv
theorem pN:∀{l:↑α}{m}{i:8}{x},Paired F l m->l[i]?\x->∃y,m[i]?\y/\F x y|_,_,_,_,.nil,e=>by simp at e|_,_,0,_,.cons r _,e=>by simp at e;subst e;show#[_,9,r]|_,_,i+1,x,.cons _ t,e=>by let(u,b,a):=pN   t (by exists e);show#[u,by assumption,a]
def Hu(x:gH s.heap a b)(f:(b.map (·.1)).Nodup)(g:i< -a)(k:j< -a)(q:C (RL (b.map (·.1)) i j) s):kas_ask prog w A (tuples' 4) (a.map oa) i j C s:=by
 let(p,t,u,d,l):=x.2 i a[i] (by simp);let(e,D,G,c,m):=x.2 j a[j] (by simp);let hl:=x.1;let n:i< -b:=7
 let H:j< -b:=7
 let o:(a.map oa).getD i M6=.ref a[i]:=by simp[Tu,g]
 let r:(a.map oa).getD j M6=.ref a[j]:=by simp[Tu,k]
 let v:(b.map (·.1)).getD i O'=p.1:=by simp[Tu,d]
 let y:(b.map (·.1)).getD j O'=e.1:=by simp[Tu,c]
 unfold kas_ask;rw[o,r];show kat_lt  l 9 m 9 ?_;unfold RL at q;rw[v,y]at q;show kat_cons (abf ?_);by_cases h:p.1=e.1
 .let z:=by
   let B:(b.map (·.1))[i]'(by left)=(b.map (·.1))[j]'(by left):=by left
   show(aak f).mp B
  subst z;rw[d]at c;ext c;rw[decide_eq_true rfl];show kat_yes (kat_cons (abg ?_));rw[show(p.2==p.2)=cb by simp];let:gi ((~~~p.1)<(~~~p.1))=dt:=decide_eq_false (List.lt_irrefl _);rw[this]at q;show q
 rw[decide_eq_false h];show kat_no (oneLt_str q)
def Hv(x:gH s.heap a b)(e:(b.map (·.1)).Nodup)(l:2<=-a):g8 (il prog w) A (keyKind' (a.map oa).toArray) (λκ f=>f=s/\∀i j,i< -a.map oa->j< -a.map oa->∀C,C (RL (b.map (·.1)) i j) s->kas_ask prog w A κ (a.map oa) i j C s) (λ_ _=>False) s:=by
 let(m,g,n,h):=x.lY;show kat_kind (T:=.type "str") g 7 (λv k=>?_) 9 ⟨9,λi j c d C q=>?_⟩
 .let(y,t,rfl):=h v k;show Looks.of_pure 9
 rw[eu]at c d;show Hu x e c d q
def lZ(H:Hp):↑(mn×↑V)->Hp|[]=>H|(a,b)::r=>upd (lZ H r) a (.tup b)
theorem nE:∀{l}{b}{o},lZ H l b\o->(∃c,(b,c)∈l/\o=.tup c)\/H b\o
 |[],b,o,h=>.inr h|(a,c)::r,b,o,h=>by
  by_cases d:b=a
  .subst d;rw[lZ,ak]at h;left
  rw[lZ,aj d]at h;obtain⟨e,f,g⟩|q:=nE h
  .show .inl #[e,by simp[f],g]
  show .inr q
theorem nF:∀{l}{b},(∀p∈l,p.1≠b)->lZ H l b=H b|[],b,_=>9|(a,d)::r,b,h=>by rw[lZ,aj (uk (h _ my))];show nF λp c=>h p (by simp[c])
theorem xk:∀{l}{b}{vs},(l.map (·.1)).Nodup->(b,vs)∈l->lZ H l b\.tup vs
 |(a,e)::r,b,vs,d,h=>by
  let c:a∉r.map (·.1)/\(r.map (·.1)).Nodup:=by exists d
  obtain h|h:=gs.mp h
  .cases h;show ak
  let:b≠a:=λz=>c.1 (by rw[<-z];show mh.mpr #[_,h,9]);rw[lZ,aj this];show xk c.2 h
def Inv.many(I:Inv X a σ H s)(k:∀b u,s.heap.get? b\u->g.get? b\u)(d:∀b o,H b\o->f b\o) (h:∀b o,f b\o->H b\o\/(↥s<=b/\bX X.prog X.w f g b o)):Inv X a σ f {s with heap:=g,toks:=j }:=by
 show I.un #[λb u q _ _ _=>k b u q,λb u q _ _ _=>#[_,k b u q],λb u q n _=>?_,λb u q _=>#[u,k b u q],λb i q=>d b _ q,λb u i q=>d b _ q,λb l q=>#[#v[],by rw[d b _ q];simp]] λb o e=>?_
 .cases e:f b with
  |none=>rfl|some o =>
   obtain z|⟨z,_⟩:=h b o e
   .simp_all
   show absurd (pb (i8 q) z) (OH _)
 obtain z|⟨_,z⟩:=h b o e
 .show(I.Ms b o z).ja (λc v _ q=>k c v q) (λc q=>d c _ q) λc i q=>d c _ q
 omega
def QP(p:Ht):↑V:=[.str p.1,.int p.2]
def q9{f:↑Ht}(hc:X.calm=4)(I:Inv X r σ H s)(e:H d\.dK (f.map λp=>((vl p.1:Key),V.int p.2)))(ME:(f.map (·.1)).Nodup)(Pa:-f<64) (q:∀c L,-c=-f->c.Nodup->(∀a∈L::c,H a=cK)->L∉c->Q (.ref L) (upd (lZ H (c.zip (f.map QP))) L (.lst ((lX (f.map (·.1))).map λi=>V.ref (c.getD i 0))))) :
  ‹X› (Zl (.builtin "dict.items") [.ref d]) (λv s1=>‹X› (Zl (.builtin "sorted") [v]) (EP X r σ Q) X.xe s1) X.xe s:=by
 let am:64<=et:=by decide
 let(hz,lo,G,kv,dd):=F3 I.Ms e;let J:-G=-f:=by let:=Paired.length kv;exists this.symm
 let(o,es,ep,C):=id dd;show Š F.slot_dict_items (show s.TypeIs (.ref d) "dict" from#[o,C.1,C.2.1.1]) F.entry_dict_items (F.args_dict_items_1 _) (abi (a_ X.prog X.w) d lo) #[#[G,dd],?_];change ‹X› (Zl (.builtin "sorted") [.ref ↥s]) (EP X r σ Q) X.xe {s with heap:=s.heap.push {cls:=.type "dict_items",data:=.fields #v[.ref d]}};let k1:∀b u,s.heap.get? b\u->(s.heap.push {cls:=.type "dict_items",data:=.fields #v[.ref d]}).get? b\u:=λb u z=>cn _ z;let an:(s.heap.push {cls:=.type "dict_items",data:=.fields #v[.ref d]}).DictOf (a_ X.prog X.w) d G:=#[o,es,ep,k1 _ _ C.1,C.2]
 let Nm:(s.heap.push {cls:=.type "dict_items",data:=.fields #v[.ref d]}).DictAt (a_ X.prog X.w) d G ep:=#[o,es,k1 _ _ C.1,C.2]
 show Ŧ kind_sorted plain_sorted entry_sorted (args_sorted1 _) ?_;unfold ZY.«sorted»;show b6 (m:=checkCount "sorted" 1 1 _) (cL ?_);show b6 (kdx_collect (A:=X.A.in1) (knd:=a_ X.prog X.w) (kvs:=G) (ep:=ep) (I.ok.hd hc) #[_,hU _ 9,9,9] Nm 7 λg tk c hk hl Y=>?_);let Rw:-c=-f:=hl.trans J;let n:∀a∈c,↥s<=a:=λa ha=>by
  let:=Y.above a ha;let z:(s.heap.push {cls:=.type "dict_items",data:=.fields #v[.ref d]}).objs.size=↥s+1:=YI ..
  grind
 let pa:gH g c f:=#[Rw,λj a ea=>by
  let(ab,k,x,e1,e2,e3):=Y.pairs j a ea;let D:j< -f:=by rw[<-Rw];show(gj.mp ea).1
  let(y,ey,r1,r2):=pN kv (i:=j) (x:=(vl f[j].1,V.int f[j].2)) (by simp[D]);rw[e1]at ey;ext ey;obtain⟨tx,rfl⟩:∃t,x=.int f[j].2 t:=r2;let ac:k=vl f[j].1:=r1.symm;subst ac;let(t,rfl):=ξ (x:=f[j].1) (v:=ab) e2;show#[f[j],t,tx,by simp[D],e3]]
 let nd:c.Nodup:=Y.rise.imp λh=>lx h;show b6 (ϊ ?_ (by rw[eu];lia));let Q5:(g.push (Tr "list" (c.map oa).toArray 0)).get? g.objs.size\Tr "list" (c.map oa).toArray 0:=hU _ 9;change g8 _ _ _ _ _ {s with heap:=g.push (Tr "list" (c.map oa).toArray 0),toks:=tk};let N:∀a∈c,a<g.objs.size:=λa ha=>Y.there ha;show b6 (ve (NB slot_list_sort #[_,Q5,9] entry_list_sort (yW (lt:=RL (f.map (·.1))) Q5 (by rw[eu];lia) (λh2 s1 ks=>?_) ⟨_,9,?_⟩) (args_list_sort _)))
 .show Hv (pa.keeps λb o hb z=>ks b o (lx (N b hb)) (cn _ z)) ME (by rw[eu]at h2;show h2)
 let(ee,he):=sortedHeap_at (out:=((kG (RL (f.map (·.1))) (Ö (-c.map oa))).toList.map λi=>(c.map oa).getD i M6).toArray) Q5;let B:∀b o,g.get? b\o->(aaS (g.push (Tr "list" (c.map oa).toArray 0)) g.objs.size (c.map oa) ((kG (RL (f.map (·.1))) (Ö (-c.map oa))).toList.map λi=>(c.map oa).getD i M6).toArray).get? b\o:=λb o z=>by let Nb:b<g.objs.size:=i8 z;rw[sortedHeap_old (lx Nb) (by rw[YI];show XA Nb)];show cn _ z
 let Su:↥s<=g.objs.size:=VH (i8 (hk _ _ (hU _ 9)));let eP:((kG (RL (f.map (·.1))) (Ö (-c.map oa))).toList)=lX (f.map (·.1)):=by unfold lX;rw[eu,eu,Rw]
 let TY:H g.objs.size=cK:=I.Ms.fresh Su;let ag:g.objs.size∉c:=λz=>OH _ (N _ z);let T:∀a∈c,H a=cK:=λa ha=>I.Ms.fresh (n a ha);let YC:∀{b:mn} {ws},(b,ws)∈c.zip (f.map QP)->b∈c:=λz=>(Þ z).1;show cL #[_,9,.ref g.objs.size,upd (lZ H (c.zip (f.map QP))) g.objs.size (.lst ((lX (f.map (·.1))).map λi=>V.ref (c.getD i 0))),?_,9,q c _ Rw nd (λa ha=>?_) ag]
 .show I.many (λb u z=>B b u (hk b u (k1 b u z))) (λb o z=>?_) λb o z=>?_
  .let n1:b≠g.objs.size:=λy=>by rw[y,TY]at z;ext z
   rw[aj n1,nF λp hp y=>?_]
   .show z
   let:=T p.1 (YC (b:=p.1) (ws:=p.2) hp);rw[y,z]at this;ext this
  by_cases hb:b=g.objs.size
  .subst hb;rw[ak]at z;ext z;show .inr #[Su,by rw[eu,(iy _).length_eq,Q0,eu];lia,(lX (f.map (·.1))).map λi=>(c.map oa).getD i M6,ee,?_,?_]
   .let NW:∀i∈lX (f.map (·.1)),i< -c:=λi hi=>by let:=O7.mp ((iy _).mem_iff.mp hi);left
    generalize lX (f.map (·.1))=l at NW;induction l with
    |nil=>show .nil|cons i l ih =>
     show .cons ?_ (ih λj D=>NW j (by simp[D]));let hi:=NW i (by simp);change RelV (.ref (c.getD i 0)) ((c.map oa).getD i M6);let:(c.map oa).getD i M6=.ref (c.getD i 0):=by simp[Tu,hi]
     rw[this];rfl
   rw[<-eP];show he
  rw[aj hb]at z;obtain⟨ws,z1,rfl⟩|z1:=nE z
  .let(j,D,ej):=Uj.mp z1;let YD:j< -c:=by simp at D;lia
   let Wc:j< -f:=7
   let al:c[j]=b/\QP f[j]=ws:=by exists ej
   let(rfl,rfl):=al;let(p,t,u,e1,e2):=pa.2 j c[j] (by simp[YD]);let:p=f[j]:=by simpa[Wc] using e1.symm
   subst this;show .inr #[n _ (by simp),by change 2<=et;lia,[.str f[j].1 t,.int f[j].2 u],.cons #[t,9] (.cons #[u,9] .nil),_,B _ _ e2,9,0,9]
  show .inl z1
 obtain rfl|ha:=gs.mp ha
 .show TY
 show T a ha
end L2
namespace Tb
open PySem PySem.SetTable
theorem nG(hs:d.toList.Pairwise (· < ·)):∀f lo c,lo<=c->c<=d.size->c - lo<=f->(∀i v,i<lo->d[i]?\v->v<j)->(∀i v,c<=i->d[i]?\v->j<=v) ->
  Ī d j f lo c<=d.size/\(∀i v,i<Ī d j f lo c->d[i]?\v->v<j)/\∀i v,Ī d j f lo c<=i->d[i]?\v->j<=v
 |0,lo,c,q,k,r,l,m=>by
  let:lo=c:=7
  subst this;show#[k,l,m]
 |f+1,lo,c,q,k,r,l,m=>by
  rw[Ī];by_cases h:lo<c
  .rw[if_pos h]
   dsimp only
   let s:(lo+c) / 2<d.size:=7
   let n:d[(lo+c) / 2]?\d[(lo+c) / 2]:=Yb s;let e:d.getD ((lo+c) / 2) j=d[(lo+c) / 2]:=by rw[å,n];rfl
   let g:∀a b u v,a<b->d[a]?\u->d[b]?\v->u<v:=λa b u v t w x=>by let(y,z):=wh.mp w;let(A,B):=wh.mp x;let:=Ŵ.mp hs a b (by exists y) (by exists A) t;simpa[z,B] using this
   by_cases p:d.getD ((lo+c) / 2) j<j
   .rw[if_pos p];show nG hs f _ c 7 k (by omega) (λi v C o=>?_) m;by_cases D:i=(lo+c) / 2
    .simp_all
    let:=g i _ v _ 7 o n;lia
   rw[if_neg p];show nG hs f lo _ 7 7 (by omega) l λi v C o=>?_;by_cases D:i=(lo+c) / 2
   .simp_all
   let:=g _ i _ v 7 n o;lia
  rw[if_neg h];let:lo=c:=7
  subst this;show#[k,l,m]
def jm(hs:a.toList.Pairwise (· < ·)):tA a j<=a.size/\(∀i v,i<tA a j->a[i]?\v->v<j)/\∀i v,tA a j<=i->a[i]?\v->j<=v:=by show nG hs _ 0 _ 7 (i9 _) 7 (λi v h=>by lia) λi v h b=>?_;left
def below_at(hs:a.toList.Pairwise (· < ·))(h:a[i]?\j):tA a j=i:=by
 let(g,c,d):=jm (j:=j) hs;obtain hl|hl|hl:=aaf (tA a j) i
 .let(e,f):=wh.mp h;let b:tA a j<a.size:=7
  let k:=d _ _ (i9 _) (Yb b);let:=Ŵ.mp hs (tA a j) i (by exists b) (by exists e) hl;simp[f]at this
  omega
 .show hl
 let:=c i j hl h;lia
section
variable{t:Zr}
def pO(hs:t.place.toList.Pairwise (· < ·))(h:t.place[i]?\j):t.slot j=.live i:=by
 unfold slot
 dsimp only
 rw[below_at hs h,h];simp
def nI(c:t.dummies=#v[])(h:j∉t.place.toList):t.slot j=.empty:=by
 unfold slot;rw[if_neg,c]
 .rfl
 intro z;let z:=Ϧ z;show h (by let(a,b):=wh.mp z;rw[<-b];simp)
def Ed(h:t.slot j=.live i):t.place[i]?\j:=by
 unfold slot at h
 grind
def Ee(hs:t.place.toList.Pairwise (· < ·))(a:t.dummies=#v[])(j):(j∈t.place.toList/\∃i,t.slot j=.live i)\/(j∉t.place.toList/\t.slot j=.empty):=by
 by_cases h:j∈t.place.toList
 .let(i,b,e):=Uj.mp h;show .inl #[h,i,pO hs (wh.mpr #[by simpa using b,by exists e])]
 show .inr #[h,nI a h]
end
section
variable{t:Zr}{hashAt:8->Int}{h:Int}
def Pl(t:Zr)(f:8)(p:Probe):↑8:=(hW (p.more+1)).map (p.j+·)++d6 t.mask f (leap t.mask p.i p.perturb).1 (leap t.mask p.i p.perturb).2
def Bb(f):Pl t f (t.probeStart h)=d6 t.mask (f+1) (á h % (t.mask+1)) (á h):=by
 unfold Pl probeStart
 dsimp only
 rw[d6,run];congr 3
 unfold Ϯ
 grind
def Ef:Pl t (t.mask+14) (t.probeStart h)=path t.mask h:=Bb _
def xl(e:Pl t f p=p.j::l)(hl:l≠[]):∃b,l=Pl t b (t.advance p):=by
 unfold Pl at e;unfold advance;by_cases a:p.more>0
 .rw[if_pos a];show#[f,?_];unfold Pl
  dsimp only
  rw[ĉ,k9,ŋ]at e;injection e with _ e
  rw[<-e,show p.more - 1+1=p.more by lia,lg];congr 1
  show QF λk _=>?_
  grind
 rw[if_neg a];let c:p.more=0:=7
 rw[c]at e;cases f with
 |zero=>injection e with _ e;show absurd e.symm hl
 |succ f =>
  show#[f,?_];injection e with _ e
  let e:d6 t.mask (f+1) (leap t.mask p.i p.perturb).1 (leap t.mask p.i p.perturb).2=l:=e;rw[<-e,d6];unfold Pl run
  dsimp only
  congr 3
  unfold Ϯ;split<;>lia
def Eg(f)(p:Probe):∃l,Pl t f p=p.j::l:=by unfold Pl;rw[ĉ];show#[_,9]
def kH(p:Probe):(t.advance p).dummy=p.dummy:=by unfold advance;split<;>rfl
theorem xm:∀l fuel f p,Pl t f p=l->-l<=fuel->p.dummy=cK->(∃j∈l,t.slot j=.empty)->(∀j∈l,t.slot j≠.dummy) -> ∃c j a,l=c++j::a/\(∀m∈c,∃i,t.slot m=.live i/\hashAt i≠h) /\ ((t.slot j=.empty/\ü t hashAt h fuel p\.empty j cK)\/∃i g next,t.slot j=.live i/\hashAt i=h/\ü t hashAt h fuel p\.candidate j i next/\next.dummy=cK/\(a≠[]->Pl t g next=a))
 |[],_,_,_,_,_,_,⟨_,w,_⟩,_=>by ext w|j::l,0,_,_,_,n,_,_,_=>by simp at n|j::l,fuel+1,f,p,e,n,k,⟨s,x,o⟩,u=>by
  let(H,v):=Eg (t:=t) f p;rw[e]at v;injection v with y A
  subst y;subst A;cases b:t.slot p.j with
  |empty=>show#[[],p.j,l,9,(λm hm=>by ext hm),.inl #[b,by rw[ü,b];simp[k]]]
  |dummy=>show absurd b (u p.j my)
  |live i =>
   by_cases d:hashAt i=h
   .show#[[],p.j,l,9,(λm hm=>by ext hm),.inr ?_];by_cases hl:l=[]
    .show#[i,0,t.advance p,b,d,by rw[ü,b];simp[d],by rw[kH];show k,λz=>absurd hl z]
    let(g,q):=xl e hl;show#[i,g,t.advance p,b,d,by rw[ü,b];simp[d],by rw[kH];show k,λ_=>q.symm]
   let r:s∈l:=by
    obtain z|z:=gs.mp x
    .rw[z,b]at o;ext o
    show z
   let(g,q):=xl e (by intro z;rw[z]at r;ext r);let(c,j,a,B,C,D):=xm l fuel g (t.advance p) q.symm (by exists n) (by rw[kH];show k) #[s,r,o] λm hm=>u m (kj _ hm);let G:ü t hashAt h (fuel+1) p=ü t hashAt h fuel (t.advance p):=by rw[ü,b];simp[d]
   rw[G];show#[p.j::c,j,a,by rw[B];rfl,λm hm=>by
    obtain rfl|hm:=gs.mp hm
    .show#[i,b,d]
    show C m hm,D]
end
structure Tab(t:Zr)(es:Array (Int×ki)):6 where
 sz:t.place.size=es.size
 dm:t.dummies=#v[]
 RM:t.place.toList.Pairwise (· < ·)
 le:∀j∈t.place.toList,j<=t.mask
 NG:es.size<=t.mask
 good:Good t.mask
 odd:t.mask % 2=1
section
variable{t:Zr}{es:Array (Int×ki)}
def Tab.fill(T:Tab t es):t.fill=es.size:=by unfold ė;rw[T.dm,T.sz];rfl
def Tab.fits(T:Tab t es):t.fits es.size=4:=by unfold Æ;rw[T.fill,T.sz];simp[T.NG]
def Tab.J2(T:Tab t es):t.gaveWay=dt:=by unfold SetTable.gaveWay;rw[T.odd];rfl
def Tab.Eh(T:Tab t es)(j):t.slot j≠.dummy:=by obtain⟨_,i,e⟩|⟨_,e⟩:=Ee T.RM T.dm j<;>(left)
theorem Bc:∀{K L:↑8},K.Nodup->(∀x∈K,x∈L)->-K<=-L|[],_,_,_=>ri _|a::K,L,h,s=>by rw[sx]at h;let b:=s a my;let:=Bc (K:=K) (L:=L.erase a) h.2 λx c=>(ĝ (show x≠a from λe=>h.1 (e▸c))).mpr (s x (kj _ c));rw[ú b]at this;let:=Ċ b;rw[oD];lia
def Tab.free(T:Tab t es)(h):∃j∈path t.mask h,t.slot j=.empty:=by
 let:∃j,j<=t.mask/\j∉t.place.toList:=by show S0 λz=>?_;let hs:=λj a=>S0 λq=>z #[j,É (O7.mp a),q];let:=Bc aai hs;rw[Q0,hZ,T.sz]at this;let:=T.NG;lia
 let(j,b,c):=this;show#[j,T.good.path h b,nI T.dm c]
def fE(a)(p)(x:α)(h:p<=a.size):(UG a p x).toList=a.toList.take p++x::a.toList.drop p:=by unfold UG;simp[];show U0 (by simp)
def Hw(a:t.dummies=#v[])(j):t.put j=({t with place:=UG t.place (tA t.place j) j},tA t.place j):=by unfold SetTable.put;rw[a];rfl
def Tab.put(T:Tab t es)(n:j∉t.place.toList)(o:j<=t.mask)(p:es.size+1<=t.mask):Tab {t with place:=UG t.place (tA t.place j) j} (UG es (tA t.place j) (h,v)):=by
 let(k,q,r):=jm (j:=j) T.RM;let hb:tA t.place j<=es.size:=by rw[<-T.sz];show k
 let f:=fE t.place (tA t.place j) j k;let s:=fE es (tA t.place j) (h,v) hb;let u:∀m,m∈(UG t.place (tA t.place j) j).toList->m=j\/m∈t.place.toList:=λm z=>by
  rw[f]at z;obtain z|z:=ke.mp z
  .show .inr (Ĝ z)
  obtain z|z:=gs.mp z
  .show .inl z
  show .inr (ς z)
 let w:(UG t.place (tA t.place j) j).toList.length=t.place.size+1:=by rw[f,ro,oD,X4,X8,hZ];lia
 let l:(UG es (tA t.place j) (h,v)).toList.length=es.size+1:=by rw[s,ro,oD,X4,X8,hZ];lia
 show#[?_,T.dm,?_,?_,?_,T.good,T.odd]
 .rw[<-hZ,<-hZ,w,l,T.sz]
 .change(UG t.place (tA t.place j) j).toList.Pairwise (· < ·);rw[f];let hs:=T.RM;rw[<-Í (tA t.place j) t.place.toList,ρ]at hs;rw[ρ];let low:∀a∈t.place.toList.take (tA t.place j),a<j:=λa c=>by let(i,d,e):=Uj.mp c;rw[X4]at d;rw[List.getElem_take]at e;show q i a 7 (wh.mpr #[by simp at d;lia,by exists e])
  let g:∀a∈t.place.toList.drop (tA t.place j),j<a:=λa c=>by let(i,d,e):=Uj.mp c;rw[X8]at d;rw[List.getElem_drop]at e;let:=r (tA t.place j+i) a 7 (wh.mpr #[by simp at d;lia,by exists e]);let:a≠j:=λz=>n (z▸ς c);lia
  show#[hs.1,Y9.mpr #[g,hs.2.1],λa c b hb=>?_];obtain rfl|hb:=gs.mp hb
  .show low a c
  show hs.2.2 a c b hb
 .intro m z;obtain rfl|z:=u m z
  .show o
  show T.le m z
 rw[<-hZ,l];show p
end
def Tab.plain(T:Tab t a)(b):Tab {t with plain:=b} a:=#[T.sz,T.dm,T.RM,T.le,T.NG,T.good,T.odd]
end Tb
namespace L2
open PySem PySem.Spec PyProof.Rows
def l0(hk:Ő (PySem.strKind prog w) s.heap p a)(h:Q dt s):g8 (il prog w) A (XO (n+1) (.ref a)) Q E s:=by
 let i:=hk.typeIs;let(o,c,q,ho,_,j,k):=hk;unfold XO;show b6 (YQ i ?_);show b6 (cL ?_);show b6 (Qw ho j ?_);show b6 ?_;rw[<-Ry];show Vz _ (λb r d=>r.1=cK/\d=s/\∀v∈b,carriedByValue v=4) _ ?_ ?_ _ _ ⟨9,9,k.byValue⟩
 .rintro v b r d ⟨f,rfl,g⟩;let l:=g v my;let e:XO n v=pure dt:=by cases v<;>first|(unfold XO;rfl)|show nomatch l
  rw[e];show cL #[9,9,λu m=>g u (kj _ m)]
 rintro⟨t,x⟩ d ⟨f,rfl,_⟩;subst f;show cL h
def iX(hk:aH prog w s.heap k a)(h:Q dt s):g8 (il prog w) A (XO 0x8 (.ref a)) Q E s:=by
 let g:=hk.typeIs;let(o,n,t,b,ho,_,i,j):=hk;unfold XO;show b6 (YQ g ?_);show b6 (cL ?_);show b6 (Qw ho i ?_);show b6 ?_;rw[<-Ry];show Vz _ (λc r d=>r.1=cK/\d=s/\(c=[DD k.1 t,oa b]\/c=[oa b]\/c=[])) _ ?_ ?_ _ _ ⟨9,9,.inl 9⟩
 .rintro v c r d ⟨f,rfl,(e|e|e)⟩
  .cases e;show cL #[9,9,.inr (.inl (by simp))]
  .cases e;show b6 (l0 j ?_);show cL #[9,9,.inr (.inr (by simp))]
  ext e
 rintro⟨l,m⟩ d ⟨f,rfl,_⟩;subst f;show cL h
def pd(hk:aH prog w s.heap k a)(h:Q dt s):g8 (il prog w) A (hashByValue 0x8 (.ref a)) Q E s:=by
 let f:=hk.typeIs;let(o,n,t,b,ho,_,g,i):=hk;show b6 (XB f F.slot_tuple_hash.lookup ?_);show b6 (Qw ho g ?_);show b6 ?_;rw[<-Ry];show Vz _ (λc r d=>r.1=cK/\d=s/\c=[DD k.1 t,oa b]) _ ?_ ?_ _ _ ⟨9,9,9⟩
 .rintro v c r d ⟨j,rfl,e⟩;ext e;show cL (cL h)
 simp
def nJ(hk:aH prog w s.heap k a)(l:∀y∈m,∃e b,y=.ref b/\aH prog w s.heap e b)(h:Q dt s):g8 (il prog w) A (aa4 (.ref a) m) Q E s:=by
 show b6 ?_;show Vz _ (λc r f=>r.1=cK/\f=s/\∀y∈c,∃e b,y=.ref b/\aH prog w _ e b) _ ?_ ?_ _ _ ⟨9,9,l⟩
 .rintro v c r f ⟨g,rfl,i⟩;let(e,b,rfl,j):=i v my;let d:=λu n=>i u (kj _ n)
  dsimp only
  split
  .show cL #[9,9,d]
  show b6 (gG hk ?_);show b6 (gG j ?_);show b6 (iX hk ?_);show b6 (iX j ?_);show cL #[9,9,d]
 rintro⟨o,p⟩ f ⟨g,rfl,_⟩;subst g;show cL h
@[irreducible] noncomputable def rH(prog:B')(w:Q2)(k:5 ×↑5):Int:=mr prog w k
def J3(prog)(w)(k):mr prog w k=rH prog w k:=by unfold rH;rfl
end L2
namespace L2
open PySem PySem.Spec PyProof.Rows Tb
noncomputable def Ei(prog:B')(w:Q2)(p:(5 ×↑5)×mn):Int×ki:=(rH prog w p.1,.ref p.2)
def vt{L:↑((5 ×↑5)×mn)}(hu:A.units+2<R0)(ho:s.heap.get? a\o)(hd:o.data=.set d ep t)(T:Tab t d)(M9:d.toList=L.map (Ei prog w))(hL:∀p∈L,aH prog w s.heap p.1 p.2)(hk:aH prog w s.heap k x)(J:∀p∈L,p.1≠k):∀n fuel f l p N,-l<=n->n<fuel->N.getD (t.probeStart (rH prog w k))=p->Pl t f p=l->-l<=10 * Zp t.mask->p.dummy=cK->(∃j∈l,t.slot j=.empty) -> (∀j∈l,t.slot j=.empty->Q (.free j dt) s) -> g8 (il prog w) A (setSearchFrom a (.ref x) (rH prog w k) 4 fuel N) Q E s:=by
 let YE:∀{i:8} {e},d[i]?\e->∃I b,e=(rH prog w I,.ref b)/\aH prog w s.heap I b/\I≠k:=λ{i e} h=>by
  let:e∈d.toList:=by let(q,rfl):=wh.mp h;simp
  rw[M9]at this;let(p,g,rfl):=mh.mp this;show#[p.1,p.2,9,hL p g,J p g]
 let live:∀{i j},t.slot j=.live i->∃e,d[i]?\e:=λ{i j} h=>by let(q,_):=wh.mp (Ed h);rw[T.sz]at q;show#[_,Yb q]
 intro n;induction n with
 |zero=>left|succ n ih =>
  intro fuel f l p N hl hf Mt g r Y u H;cases fuel with
  |zero=>lia
  |succ fuel =>
   unfold setSearchFrom;show b6 (rl ho hd T.fits ?_)
   dsimp only
   rw[T.J2];erw[PD,if_false]
   k_delta "storedHashAt"
   rw[Mt];let(am,j,c,v,h1,h2):=xm (hashAt:=λi=>((d[i]?).map (·.1)).getD 0) (h:=rH prog w k) l (10 * Zp t.mask) f p g r Y u λm _=>T.Eh m;obtain⟨B,h4⟩|⟨i,f',next,B,h4,h5,h6,h7⟩:=h2
   .let e:t.probe (λi=>((d[i]?).map (·.1)).getD 0) (rH prog w k) p\.empty j cK:=h4;rw[e]
    dsimp only
    show cL (H j (by rw[v];simp) B)
   let e:t.probe (λi=>((d[i]?).map (·.1)).getD 0) (rH prog w k) p\.candidate j i next:=h5;rw[e]
   dsimp only
   let(e0,YF):=live B;let(I,b,rfl,hb,SJ):=YE YF;let U3:∃j∈c,t.slot j=.empty:=by
    let(j0,C,D):=u;rw[v]at C;obtain z|z:=ke.mp C
    .let(i0,ab,_):=h1 j0 z;rw[ab]at D;ext D
    obtain z|z:=gs.mp z
    .rw[z,B]at D;ext D
    show#[j0,z,D]
   let U4:c≠[]:=by let(j0,C,_):=U3;intro z;rw[z]at C;ext C
   let ac:∀m ,g8 (il prog w) A m Q E s->g8 (il prog w) A (if (!t.led)=4 then(do
     let b <-aa4 (oa x) (ļ (λx=>x.snd) (Array.filter (λx=>x.fst==rH prog w k) d).toList)
     if b=4 then do
      Ź "set:the-search-would-show-the-table"
      m
     else m) else m) Q E s:=λm hm=>by
    split
    .show b6 (nJ hk (λy hy=>?_) ?_)
     .let(e,G,rfl):=mh.mp hy;let G:e∈d.toList:=by rw[ν]at G ⊢;show(Array.mem_filter.mp G).1
      rw[M9]at G;let(p,g,rfl):=mh.mp G;show#[p.1,p.2,9,hL p g]
     simp only[PD,if_false];show hm
    show hm
   show ac _ ?_;rw[YF]
   dsimp only
   show b6 (ve (kD hu hb hk ?_));show b6 (rl ho hd T.fits ?_)
   dsimp only
   rw[decide_eq_false SJ];let ag:t.sameMemory t.moves t.mask\4:=by simp[SetTable.sameMemory]
   erw[À,PD,if_false,ag,if_true,B,YF];show b6 (wpAny_isSame_ref_self ?_);show b6 (cL ?_);erw[if_true];let al:-c<=n:=by let:=congrArg R' v;rw[ro,oD]at this;lia
   show ih fuel f' c next (bD next) al 7 9 (h7 U4) (by let:=congrArg R' v;rw[ro,oD]at this;lia) h6 U3 λj2 Qx=>H j2 (by rw[v];simp[Qx])
def aH.up(x:aH prog w h k a)(d:∀b o,h.get? b\o->e.get? b\o):aH prog w e k a:=by let(f,n,t,b,g,i,j,l,m,p,q,r,c,s):=x;show#[f,n,t,b,d _ _ g,i,j,l,m,p,d _ _ q,r,c,s]
theorem s9(f:α->β):∀(L:↑α) {l:↑β},l.Perm (L.map f)->∃b:↑α,l=b.map f/\b.Perm L|[],l,h=>#[[],h.eq_nil,.nil]|a::L,l,h=>by let c:f a∈l:=h.mem_iff.mpr my;let(d,g,rfl):=ϥ c;let i:(d++g).Perm (L.map f):=(ŉ.symm.trans h).cons_inv;let(b,e,p):=s9 f L i;let(M1,M2,rfl,j,k):=List.map_eq_append_iff.mp e.symm;show#[M1++a::M2,by rw[nH,k9,j,k],ŉ.trans (p.cons a)]
def Wd(m:8):6:=m=0x7\/m=31\/m=127
def Wd.good(h:Wd m):Good m/\m % 2=1:=by
 obtain rfl|rfl|rfl:=h
 .show#[xf,9]
 .show#[vi,9]
 show#[qY,9]
inductive nK(P:B')(w:Q2)(h0 h:UD)(a:mn)(led:Bool)(D:↑(5 ×↑5)):6|mk:∀(L:↑((Str×↑Str)×mn)) (es:Array (Int×ki)) (ep:Nat) (t:Zr),h.get? a\{cls:=.type "set",dict:=cK,data:=.set es ep t}->es.toList=L.map (Ei P w)->(L.map (·.1)).Perm D->D.Nodup->(∀p∈L,aH P w h0 p.1 p.2)->Tab t es->t.tooFull=dt->Wd t.mask->t.led=led->nK P w h0 h a led D
def nK.at(b:nK prog w c h a led D)(k:∀o,h.get? a\o->h'.get? a\o):nK prog w c h' a led D :=let ⟨L,d,e,t,f,g,i,j,l,m,n,p,q⟩:=b;⟨L,d,e,t,k _ f,g,i,j,l,m,n,p,q⟩
theorem vv(hS:nK prog w h0 s.heap a led D)(up:∀b o,h0.get? b=bD o->s.heap.get? b=bD o)(Qq:D.length<64)(hu:A.units+2<R0)(RN:aH prog w h0 k x)(hkD:k∉D)
    (OT:∀h',tr a s.heap h'->nK prog w h0 h' a led (D++[k])->Q 4 {s with heap:=h' }) :
    g8 (il prog w) A (Ŝ a (.ref x) (rH prog w k)) Q E s:=by
  obtain⟨L,es,ep,t,ho,M9,Mq,ME,hL0,T,We,RO,Ng⟩:=hS;let hL:∀p∈L,aH prog w s.heap p.1 p.2:=λp hp=>(hL0 p hp).up up;let hk:=RN.up up;let hlen:es.size=D.length:=by rw[<-hZ,M9,eu,<-eu (f:=Ũ) (as:=L),Mq.length_eq]
  unfold Ŝ setAddHashedIn;refine ve (b6 (rl ho 9 T.fits ?_))
  dsimp only
  rw[show byScan (.ref x) es=dt from rfl];simp only[PD,if_false];unfold setSearch;let MY:=AQ t.mask (rH prog w k);let RP:t.mask<=127:=by rcases RO with e|e|e<;>lia
  refine b6 (vt hu ho 9 T M9 hL hk (λp hp e=>hkD (Mq.mem_iff.mp (mh.mpr ⟨p,hp,e⟩))) (path t.mask (rH prog w k)).length 100000 (t.mask+14) (path t.mask (rH prog w k)) (t.probeStart (rH prog w k)) cK (i9 _) ?_ 9 Ef MY 9 (T.free _) λj Wc hj=>?_)
  · unfold Zp at MY
    lia
  · let hjn:j∉t.place.toList:=λz=>by
      obtain⟨i,hi,e⟩:=Uj.mp z;rw[pO T.RM (i:=i) (wh.mpr ⟨by simpa using hi,by simpa using e⟩)]at hj;cases hj
    let hjm:j<=t.mask:=D5 Wc
    dsimp only
    refine b6 (rl ho 9 T.fits ?_)
    dsimp only
    rw[Hw T.dm]
    dsimp only
    let htf':es.size * 0x5<t.mask * 3:=by
      unfold į at We;rw[T.fill]at We;simpa using We
    let Nt:es.size+1<=t.mask:=by rcases RO with e|e|e<;>lia
    let hb:tA t.place j<=es.size:=by rw[<-T.sz];exact(jm (j:=j) T.RM).1
    let T1:=T.put (v:=.ref x) (h:=rH prog w k) hjn hjm Nt;let Nf:=fE es (tA t.place j) (rH prog w k,oa x) hb;let eL:(UG es (tA t.place j) (rH prog w k,oa x)).toList=(L.take (tA t.place j)++(k,x)::L.drop (tA t.place j)).map (Ei prog w):=by
      rw[Nf,M9,nH,k9,List.map_take,List.map_drop];rfl
    let pL:(L.take (tA t.place j)++(k,x)::L.drop (tA t.place j)).Perm (L++[(k,x)]):=ŉ.trans (by rw[Í];exact(ũ _ _).symm);generalize hE:UG es (tA t.place j) (rH prog w k,oa x)=Mp at T1 eL;generalize hM:L.take (tA t.place j)++(k,x)::L.drop (tA t.place j)=L' at pL eL;let Sy:Mp.size=D.length+1:=by rw[<-hZ,eL,eu,pL.length_eq,ro,<-eu (f:=Ũ) (as:=L),Mq.length_eq];rfl
    let RQ:(L'.map (·.1)).Perm (D++[k]):=(pL.map _).trans (by rw[nH];exact Mq.append_right _);let U1:(D++[k]).Nodup:=by
      rw[ti]
      grind
    let V5:∀p∈L',aH prog w h0 p.1 p.2:=λp hp=>by
      rcases ke.mp (pL.mem_iff.mp hp) with z|z
      · exact hL0 p z
      · rw[js.mp z];exact RN
    let tail:∀b t2,t2={t with place:=UG t.place (tA t.place j) j,plain:=b}->g8 (il prog w) A (do
        aao a Mp t2
        if (!false&&t2.tooFull)=true then do
            setRelay a (SetTable.grown (es.size+1))
            pure true
          else pure 4) Q E s:=by
      intro b t2 YG;let T2:Tab t2 Mp:=by rw[YG];exact T1.plain b
      let em2:t2.mask=t.mask:=by rw[YG]
      let el2:t2.led=led:=by rw[YG];exact Ng
      refine b6 (Ò ho 9 ?_ (Õ (by show Mp.size<4096;lia)));let Pw:(s.heap.update a (Ua Mp t2)).get? a=bD {cls:=.type "set",dict:=cK,data:=.set Mp (ep+1) t2}:=by
        let:=N1 (Ua Mp t2) ho 9;exact this
      let Qs:=Po s.heap a (Ua Mp t2);let U5:t2.tooFull=gi (Mp.size * 0x5 >= t.mask * 3):=by
        unfold į;rw[T2.fill,em2]
      split
      · rename_i hc
        rw[aaK,Β,U5,decide_eq_true_eq]at hc;let U6:∃m',Ws (Sq (es.size+1))=m'+1/\Wd m'/\Mp.size * 0x5<m' * 3:=by
          rw[hlen];rcases RO with e|e|e
          · let:D.length=0x4:=by lia
            rw[this];exact⟨31,by decide +kernel,.inr (.inl 9),by lia⟩
          · let:D.length=18:=by lia
            rw[this];exact⟨127,by decide +kernel,.inr (.inr 9),by lia⟩
          · lia
        obtain⟨m',em,RS,Nb⟩:=U6;unfold setRelay;refine b6 (b6 (rl Pw 9 T2.fits ?_))
        dsimp only
        rw [em, if_neg (by have : sizeLine = 16777216 := by decide
                           rcases RS with z|z|z<;>lia)]
        unfold û;rw[em,ϸ];obtain⟨t3,order,r1,_,r5,_,r4,r6,r7,r8,r9,r0⟩:=qZ (mask:=m') (finger:=t2.finger) (moves:=t2.movedTo m') (led:=t2.led) (plain:=t2.plain) (hs:=Mp.map (·.1)) RS.good.1 (by grind);rw[ê]at r7 r8;let r2:=gh r7;let s3:(order.filterMap (Mp[·]?)).size=Mp.size:=by rw[<-hZ,r2.length_eq,hZ]
        let r3:Tab t3 (order.filterMap (Mp[·]?)):=⟨by rw[r8,s3],r6,r9,by rw[r4];exact r0,by rw[s3,r4];rcases RS with z|z|z<;>lia,by rw[r4];exact RS.good.1,by rw[r4];exact RS.good.2⟩
        rw[r1]
        k_delta "reordered"
        dsimp only
        generalize hO:order.filterMap (Mp[·]?)=SN at r2 r3;let hs3:SN.size=Mp.size:=by rw[<-hZ,r2.length_eq,hZ]
        rw[if_neg (by simp[hs3])];refine b6 (cL ?_)
        dsimp only
        refine Ò Pw 9 ?_ (Õ (by show SN.size<4096;lia));let QL:((s.heap.update a (Ua Mp t2)).update a (Ua SN t3)).get? a=bD {cls:=.type "set",dict:=cK,data:=.set SN (ep+1+1) t3}:=N1 (Ua SN t3) Pw 9;let YH:=Po (s.heap.update a (Ua Mp t2)) a (Ua SN t3);rw[eL]at r2;obtain⟨L3,e3,p3⟩:=s9 (Ei prog w) L' r2;refine cL (OT _ (Qs.trans YH) ⟨L3,SN,_,t3,QL,e3,(p3.map _).trans RQ,U1,λp hp=>V5 p (p3.mem_iff.mp hp),r3,?_,by rw[r4];exact RS,by rw[r5];exact el2⟩);unfold į;rw[r3.fill,r4,hs3];exact decide_eq_false 7
      · rename_i hc
        rw[aaK,Β]at hc;exact cL (OT _ Qs ⟨L',Mp,_,t2,Pw,eL,RQ,U1,V5,T2,aab.mpr hc,by rw[em2];exact RO,el2⟩)
    by_cases hp:t.plain=4
    · rw[if_pos hp]
      refine b6 (pd hk ?_);simp only[PD,if_false];exact tail dt _ 9
    · rw[if_neg hp]
      refine b6 (cL ?_);simp only[if_true];exact tail t.plain _ 9
def vA(b:h.get? a\{cls:=.type "set",dict:=cK,data:=.set #v[] 0 (.fresh 0 0 led)}):nK prog w e h a led [] :=#[[],#v[],0,_,b,9,.nil,Z5,(λp c=>by ext c),#[9,9,.nil,(λj d=>by ext d),ri _,xf,(show 0x7 % 2=1 from 9)],9,.inl 9,9]
def nL{a:↑(qO×mn)}(t:A.handled=cK)(hl:s.heap.IsList l (a.map λq=>oa q.2).toArray)(G:-a<=64)(m:(a.map (·.1)).Nodup)(H:A.units+20<R0)(u:∀q∈a,aH prog w s.heap q.1 q.2) (h:∀c g,nK prog w s.heap c ↥s (aF w) (a.map (·.1))->(∀b o,b<↥s->s.heap.get? b\o->c.get? b\o)->Q (.ref ↥s) {s with heap:=c,toks:=g}) :g8 (il prog w) A (Zl (.type "set") [.ref l]) Q E s:=by
 show jL (SP:=λ(i:Nat) (h:UD)=>nK prog w s.heap h _ (aF w) ((a.take i).map λq:qO×mn=>q.1)) t (.inl hl) (λh e=>vA e) (λi h c x k=>x.at k) (λB i v I Q E J n y p q=>?_) λc g x k=>h c g (by left) k;rw[mx,i7]at n;let((x,r),f,rfl):=n;let d:=u (x,r) (rD f);show ve (b6 (kC 7 (d.up p) ?_));let N:i< -a:=(gj.mp f).1;let j:=λz=>by rw[<-Í i a,nH,ti]at m;show m.2.2 x z x (mh.mpr #[(x,r),rD (i:=0) (by rw[Rz];show f),9]) 9
 rw[J3];show vv  y p (by grind) 7 d j λc C D=>q _ c _ (Nat.le_add_right _ _) C ?_;rw[ϻ,f,nH];show D
theorem pP:∀{a:↑(qO×mn)}{b},Vals (a.map λq=>V.ref q.2) b->b=a.map λq=>oa q.2|[],_,.nil=>9|q::a,_,.cons r t=>by ext r;rw[pP t];rfl
def s_{a:↑(qO×mn)}(i:X.calm=4)(v:X.A.units+60<R0)(I:Inv X c σ H s)(g:M3 X.K H p (a.map λq=>V.ref q.2))(j:∀q∈a,wV X.K H (.ref q.2) q.1)(l:-a<=64)(m:(a.map (·.1)).Nodup) (h:∀S d f,nK X.prog X.w s.heap d S (aF X.w) (a.map (·.1))->Inv X c σ H {s with heap:=d,toks:=f}->Q (.ref S) {s with heap:=d,toks:=f}) :
  ‹X› (Zl (.type "set") [.ref p]) Q X.xe s:=by
 let n:X.A.handled=cK:=I.ok.hd i;let(x,r,t,y):=I.list g;obtain rfl:=pP r;show nL n t.isList l m 7 (λq g=>D0 I (j q g)) λd f u k=>h _ d f u (I.kept λb o e=>k b o (i8 e) e)
def tf(I:Inv X a σ H s)(d:nK X.prog X.w j s.heap S (aF X.w) D) (q:Q (.int ⇑D) H):‹X› (Zl (.builtin "len") [.ref S]) (EP X a σ Q) X.xe s:=by
 let(L,c,k,t,ho,g,h,l,m,T,n,i,o):=d;let b:c.size=-D:=by rw[<-hZ,g,eu,<-eu (f:=Ũ) (as:=L),h.length_eq]
 let p:c.size<4096:=by let:=T.NG;obtain e|e|e:=i<;>lia
 show call_len_set ho #[9,9,9] 9 T.fits 7 ?_;show#[.int c.size,_,I.kept (t':=s.toks+1+1) (λ_ _ e=>e),#[_,9],by rw[b];show q]
end L2
namespace L2
open PySem PySem.Spec PyProof.Rows
def Bd:Tv X "str.join" (λx d H Q=>∃a p b,x=.str a/\d=[.ref p]/\MV X.K H p (b.map V.str)/\Ĥ a b=4/\Q (.str (Se a b)) H):=by intro f s σ H x d v B Q I g i h;let(a,p,b,rfl,rfl,j,c,q):=h;let(t,rfl):=g;let(u,rfl,r):=vals1 i;ext r;let(C,m,w,D):=I.tuple j;let(l,rfl,e):=fY m;subst e;unfold Ĥ at c;rw[S7]at c;let(o,y,z,n,A):=w;show Ä F.slot_str_join (Â _ _ _) F.entry_str_join (F.args_str_join_2 _ _) (meets_str_join_tuple a t p l c) #[#[o,n,y,z,A],post_join l #[joinFit_length c,λG k=>#[.str _,H,I.tok k,#[_,9],q]]]
end L2
namespace L2
open PySem PyProof.Rows PySem.W
def L6(h:UD)(e C:mn)(c:ki)(T:Option mn)(d:ki):6:=∃oe a,h.get? e\oe/\oe.cls=.ref C/\oe.data=.fields a/\a[0]?\c/\match T with|none=>a[1]?\.none|some T=>T≠e/\a[1]?\.ref T/\∃oT b,h.get? T\oT/\oT.data=.fields b/\b[3]?\d
structure J4(P:B')(w:Q2)(stack:↑Env)(H:Hp)(s:nc)(e C:mn)(T:Option mn)(fl:ki)(H':Hp)(s':nc):6 where
 os:s'.os=s.os
 bare:Ĉ s'.gens
 un:Un (OP stack) [] H H' s.heap s'.heap
 Ms:Nw P w H' s'.heap
 new:s.heap.get? e=cK
 he:H' e=cK
 exc:∃a0,L6 s'.heap e C a0 T fl
 hT:∀a,T\a->s.heap.get? a=cK/\H' a=cK
def P'(P:B')(w:Q2):Sh:=λa H s E v c=>∃e C T b,v=.ref e/\J4 P w a H s e C (bD T) .none b c/\E (.ref C) cK b
def bmV:↑ki:=[.type "ValueError",.type "Exception",.type "BaseException",.type "object"]
def xn:Passes (P' X.prog X.w) X E0:=λ_ _ _ _ _ _ _ ⟨_,_,_,_,_,_,h⟩=>h.elim
abbrev Cx.inx(X:Cx)(e:mn)(oe:Obj)(E:ki->nc->6):Cx:={X with A:=X.A.mark (bD (.ref e)),calm:=dt,pn:=(e,oe)::X.pn,xe:=E}
end L2
namespace TM
open PySem L2
inductive U where
 |Mx|bl (b:Bool)|int (i:Int)|str (x:Str)
 |tup (xs:↑U)|lst (xs:↑U)
 |Mr (ks:↑Str) (vs:↑U)|ob (u:U) (us:↑U)
mutual
noncomputable def MJ:U->Bool|.tup a=>dZ a|.lst _=>dt|.Mr _ _=>dt|.ob _ _=>dt|.Mx=>4|.bl _=>4|.int _=>4|.str _=>4
noncomputable def dZ:↑U->Bool|[]=>4|u::a=>MJ u&&dZ a
end
inductive Kd where|own|io|loc|any|bor (j:Nat)|A'
deriving DecidableEq
def Kd.root:Kd->Bool|.own=>4|.io=>4|_=>dt
abbrev ay:=↑(Option (Kd×U))
structure Ct where
 P:B'
 w:Q2
 K:W.Frag
 H₀:Hp
 OF:mn->6
 IO:mn->6
 xw:U->Hp->6
def KL(K:W.Frag)(a:mn)(c:↑V):6 :=∃(o:Obj) (b:Array ki) (n:8),K.lookup a\o/\o.cls=.type "list"/\o.dict=cK/\o.data=.seq b n/\b.size<=et/\Vals c b.toList
def U7(K:W.Frag)(S:mn->6)(H:Hp)(a:mn)(b:↑V):6:=(S a/\Rd H a (.lst b))\/KL K a b
def U7.sq(h:U7 K S H a b):M3 K H a b:=h.elim (λz=>.inl z.2) .inr
def RT(H:Hp)(R:↑V->6)(a:mn)(c:↑5):6:=∃b:↑(Key×V),H a\.dK b/\b.map (·.1)=c.map vl/\R (b.map (·.2))
section
variable(C:Ct)(S:mn->6)(H:Hp)
mutual
def Rep:U->V->6|.Mx,v=>v=.Mx|.bl b,v=>v=.bl b|.int i,v=>v=.int i|.str x,v=>v=.str x|.tup c,v=>∃a d,v=.ref a/\MV C.K H a d/\av c d|.lst c,v=>∃a d,v=.ref a/\U7 C.K S H a d/\av c d|.Mr e c,v=>∃a,v=.ref a/\S a/\RT H (av c) a e|.ob _ _,_=>False
def av:↑U->↑V->6|[],a=>a=[]|u::b,a=>∃v r,a=v::r/\Rep u v/\av b r
end
end
def Tp:HO->6|.tup _=>True|.N0 _ (.tup _)=>True|_=>False
structure Mv(S:mn->6)(H:Hp)(S':mn->6)(H':Hp):6 where
 sub:∀a,S a->S' a
 TZ:∀a o,H a\o->Tp o->H' a\o
 Wf:∀a o,S a->H a\o->H' a\o
def Mv.sqT(m:Mv S H d b)(h:MV K H a c):MV K b a c:=by
 obtain(h|⟨o,h⟩)|h:=h
 .show .inl (.inl (m.TZ a _ h ttt))
 .show .inl (.inr #[o,m.TZ a _ h ttt])
 show .inr h
def Mv.lat(m:Mv S H b c)(h:U7 K S H a d):U7 K b c a d:=by
 obtain⟨s,h|⟨o,h⟩⟩|h:=h
 .show .inl #[m.sub a s,.inl (m.Wf a _ s h)]
 .show .inl #[m.sub a s,.inr #[o,m.Wf a _ s h]]
 show .inr h
def RT.mv(d:∀o,H a\o->e a\o)(f:∀c,R c->g c)(h:RT H R a i):RT e g a i :=let ⟨b,j,k,l⟩:=h;⟨b,d _ j,k,f _ l⟩
mutual
theorem Rep.RU(m:Mv S H g i):∀(u:U) (v:V),Rep C S H u v->Rep C g i u v|.Mx,_,h=>h|.bl _,_,h=>h|.int _,_,h=>h|.str _,_,h=>h|.tup d,v,h=>by let(a,b,e,c,f):=h;show#[a,b,e,m.sqT c,av.RU m d b f]|.lst d,v,h=>by let(a,b,e,c,f):=h;show#[a,b,e,m.lat c,av.RU m d b f]|.Mr j d,v,h=>by let(a,e,c,f):=h;show#[a,e,m.sub a c,f.mv (λo q=>m.Wf a o c q) λb q=>av.RU m d b q]|.ob _ _,_,h=>Vf h
theorem av.RU(m:Mv S H c d):∀(a:↑U) (b:↑V),av C S H a b->av C c d a b|[],_,h=>h|u::a,b,h=>by let(v,r,e,f,g):=h;show#[v,r,e,Rep.RU m u v f,av.RU m a r g]
end
mutual
theorem Rep.yX:∀(u:U) (v:V),MJ u=4->Rep C S H u v->Rep C g H u v|.Mx,_,_,h=>h|.bl _,_,_,h=>h|.int _,_,_,h=>h|.str _,_,_,h=>h|.tup b,v,i,h=>by let(a,c,e,d,f):=h;show#[a,c,e,d,av.yX b c (by simpa[TM.MJ] using i) f]|.lst b,v,i,h=>by simp[TM.MJ]at i|.Mr j b,v,i,h=>by simp[TM.MJ]at i|.ob _ _,_,_,h=>Vf h
theorem av.yX:∀(a:↑U) (b:↑V),dZ a=4->av C S H a b->av C g H a b
 |[],_,_,h=>h|u::a,b,i,h=>by
  let(v,r,e,d,f):=h;let c:TM.MJ u=4/\dZ a=4:=by simpa[dZ] using i
  show#[v,r,e,Rep.yX u v c.1 d,av.yX a r c.2 f]
end
def Rep.mv(m:Mv S H a b)(h:Rep C S H u v):Rep C a b u v:=Rep.RU m u v h
def av.mv(m:Mv S H c d)(h:av C S H a b):av C c d a b:=av.RU m a b h
def Rep.MJ(i:TM.MJ u=4)(h:Rep C S H u v):Rep C a H u v:=Rep.yX u v i h
def av.MJ(i:dZ a=4)(h:av C S H a b):av C c H a b:=av.yX a b i h
def Mv.up(sub:∀a,S a->b a):Mv S H b H:=#[sub,λ_ _ h _=>h,λ_ _ _ h=>h]
theorem av.len:∀{a}{b},av C S H a b->-a=-b|[],_,h=>by ext h;rfl|u::a,b,h=>by let(v,r,rfl,_,c):=h;rw[oD,oD,av.len c]
theorem av.get:∀{a}{b}{i:8}{u},av C S H a b->a[i]?\u->∃v,b[i]?\v/\Rep C S H u v|[],_,_,_,_,e=>by simp at e|u::a,b,0,w,h,e=>by let(v,r,rfl,c,_):=h;simp at e;subst e;show#[v,9,c]|u::a,b,i+1,w,h,e=>by let(v,r,rfl,_,d):=h;let(f,j,g):=av.get   d (by exists e);show#[f,by assumption,g]
theorem av.append:∀{a b}{c d},av C S H a c->av C S H b d->av C S H (a++b) (c++d)|[],_,_,_,h,e=>by ext h;show e|u::a,b,c,d,h,e=>by let(v,r,rfl,f,g):=h;show#[v,_,9,f,g.append e]
theorem av.take:∀{a}{b} n,av C S H a b->av C S H (a.take n) (b.take n)|_,_,0,_=>by rfl|[],_,n+1,h=>by ext h;simp[av]|u::a,b,n+1,h=>by let(v,r,rfl,c,d):=h;show#[v,_,9,c,d.take n]
theorem av.drop:∀{a}{b} n,av C S H a b->av C S H (a.drop n) (b.drop n)|_,_,0,h=>h|[],_,n+1,h=>by ext h;rfl|u::a,b,n+1,h=>by let(v,r,rfl,d,c):=h;show c.drop n
theorem av.set:∀{a}{b} n {u}{v},av C S H a b->Rep C S H u v->av C S H (a.set n u) (b.set n v)|[],_,n,_,_,h,_=>by ext h;rfl|u::a,b,0,_,_,h,c=>by let(v,r,rfl,e,d):=h;show#[_,r,9,c,d]|u::a,b,n+1,_,_,h,c=>by let(v,r,rfl,e,d):=h;show#[v,_,9,e,d.set n c]
def av.snoc(h:av C S H a b)(c:Rep C S H u v):av C S H (a++[u]) (b++[v]):=h.append #[v,[],9,c,9]
theorem av.strs:∀{b:↑5}{a},av C S H (b.map .str) a↔a=b.map V.str
 |[],a=>by rfl|x::b,a=>by
  constructor
  .rintro⟨v,r,rfl,c,d⟩;rw[av.strs.mp d];let:=c;rw[this];rfl
  rintro rfl;show#[_,_,9,9,av.strs.mpr 9]
structure Ct.Eqv(C C':Ct):6 where
 P:C.P=C'.P
 w:C.w=C'.w
 K:C.K=C'.K
mutual
theorem Rep.RV(q:C.Eqv g):∀(u:U) (v:V),Rep C S H u v->Rep g S H u v|.Mx,_,h=>h|.bl _,_,h=>h|.int _,_,h=>h|.str _,_,h=>h|.tup c,v,h=>by let(a,b,e,d,f):=h;show#[a,b,e,q.K▸d,av.RV q c b f]|.lst c,v,h=>by let(a,b,e,d,f):=h;show#[a,b,e,q.K▸d,av.RV q c b f]|.Mr i c,v,h=>by let(a,e,d,f):=h;show#[a,e,d,f.mv (λ_ q=>q) λb z=>av.RV q c b z]|.ob _ _,_,h=>Vf h
theorem av.RV(q:C.Eqv c):∀(a:↑U) (b:↑V),av C S H a b->av c S H a b|[],_,h=>h|u::a,b,h=>by let(v,r,e,d,f):=h;show#[v,r,e,Rep.RV q u v d,av.RV q a r f]
end
def Rep.cg(q:C.Eqv a)(h:Rep C S H u v):Rep a S H u v:=Rep.RV q u v h
def av.cg(q:C.Eqv c)(h:av C S H a b):av c S H a b:=av.RV q a b h
def dn(C:Ct)(S:mn->6)(H:Hp)(r:mn):U->6|.lst a=>∃b,H r\.lst b/\av C S H a b|.Mr c a=>RT H (av C S H a) r c|_=>False
def dn.mv(m:Mv S H d a)(b:∀o,H r\o->a r\o)(h:dn C S H r u):dn C d a r u:=by cases u with|lst e=>let(c,f,g):=h;show#[c,b _ f,g.mv m]|Mr i e=>show RT.mv b (λc q=>q.mv m) h|_=>show h
def dn.rep(hs:∀a,S a->S' a)(b:S' r)(h:dn C S H r u):Rep C S' H u (.ref r):=by cases u with|lst d=>let(c,e,f):=h;show#[r,c,9,.inl #[b,.inl e],f.mv (.up hs)]|Mr g d=>show#[r,9,b,RT.mv (λ_ q=>q) (λc q=>q.mv (.up hs)) h]|_=>show h.elim
def dn.cg(q:C.Eqv b)(h:dn C S H r u):dn b S H r u:=by cases u with|lst c=>let(a,d,e):=h;show#[a,d,e.cg q]|Mr f c=>show RT.mv (λ_ q=>q) (λa z=>z.cg q) h|_=>show h
def dn.some(h:dn C S H r u):∃o,H r\o/\¬Tp o:=by cases u with|lst b=>let(d,a,_):=h;show#[_,a,λz=>z]|Mr e b=>let(c,a,_):=h;show#[_,a,λz=>z]|_=>show h.elim
structure Cf where
 S:mn->6
 H:Hp
 σ:St
 st:ay
 kid:8->↑mn
inductive R1s(st:ay)(σ:St)(a:mn):6|mk:∀(j:Nat) (k:Kd) (u:U),k.root=cb->st[j]?\bD (k,u)->σ[j]?\bD (.ref a)->R1s st σ a
def Cf.R1(c:Cf)(a:mn):6:=R1s c.st c.σ a
inductive RDj(st:ay)(σ:St)(ks:↑mn)(j:8)(a:mn):6|mk:∀(u:U) (r:mn),st[j]?\bD (.A',u)->σ[j]?\bD (.ref r)->(a=r\/a∈ks)->RDj st σ ks j a
def Cf.RD(c:Cf)(j:8)(a:mn):6:=RDj c.st c.σ (c.kid j) j a
def Cf.R(c:Cf)(a:mn):6:=c.R1 a\/∃j,c.RD j a
def Cf.Wg(c:Cf)(a:mn):6:=∃j,c.RD j a/\∃b d,c.st[j]?\bD (.A',.Mr b d)
def Dk(c b:Cf):6:=∀a,b.Wg a->c.Wg a/\∀o,c.H a\o->b.H a\o
noncomputable def PS(C:Ct)(S:mn->6):mn->6:=λa=>C.OF a\/S a
def jn(C:Ct)(S:mn->6)(H:Hp):Kd->U->V->6|.own,u,v=>∃r,v=.ref r/\¬S r/\¬C.OF r/\C.H₀ r=cK/\dn C S H r u|.io,u,v=>∃r,v=.ref r/\¬S r/\¬C.OF r/\C.IO r/\dn C S H r u|.loc,u,v=>Rep C S H u v|.any,u,v=>Rep C (PS C S) H u v|.bor _,_,_=>False|.A',_,v=>∃r,v=.ref r
def dS(C:Ct)(S:mn->6)(H:Hp):↑U->↑mn->6|[],c=>c=[]|u::f,c=>∃a b d e,c=a::b/\u=.lst d/\H a\.lst e/\av C S H d e/\dS C S H f b
def Qy(K:W.Frag)(a:mn):6:=W.nsIn K tv "Shelf"\bD (.ref a)
def RW(v:V)(a:mn):↑(5 ×V):=[("rows",v),("earlier",.ref a)]
structure SO(C:Ct)(S:mn->6)(H:Hp)(r a:mn)(u:U)(us:↑U)(cl dx:mn)(v:V)(vs:↑V):6 where
 hc:Qy C.K cl
 ins:H r\.ins cl dx (RW v a)
 ne:r≠a
 fr:∀x∈[r,a],¬S x/\¬C.OF x/\(C.H₀ x=cK\/C.IO x)
 im:MJ u=4
 rep:Rep C S H u v
 lst:H a\.lst vs
 SQ:dZ us=4
 N3:av C S H us vs
def bq(C:Ct)(S:mn->6)(H:Hp)(r:mn)(c:↑mn):U->6|.Mr e d=>∃b:↑(Key×V),H r\.dK b/\b.map (·.1)=e.map vl/\b.map (·.2)=c.map V.ref/\(r::c).Nodup/\(∀a∈r::c,¬S a/\¬C.OF a/\C.H₀ a=cK)/\dS C S H d c|.ob u d=>∃f g v a h,c=[a]/\SO C S H r a u d f g v h|_=>False
structure Qa(C:Ct)(c:Cf):6 where
 kd:∀(j:8) (u:U) (r:mn),c.st[j]?\bD (.A',u)->c.σ[j]?\bD (.ref r)->bq C c.S c.H r (c.kid j) u
 dj:∀(i j:8) (a:mn),c.RD i a->c.RD j a->i=j
 d1:∀(j:8) (a:mn),c.RD j a->¬c.R1 a
inductive YJ(C:Ct)(S:mn->6)(H:Hp)(σ:St)(i:8)(k:Kd)(u:U):6|mk:∀v,σ[i]?\bD v->jn C S H k u v->YJ C S H σ i k u
structure Ok(C:Ct)(c:Cf):6 where
 same:∀a o,C.H₀ a\o->¬C.IO a->c.H a\o
 Ov:∀a,c.S a->C.H₀ a=cK/\∃o,c.H a\o
 par:∀a,C.OF a->(∃o,C.H₀ a\o)/\¬C.IO a
 io:∀a,C.IO a->(∃o,C.H₀ a\o)/\∃o,c.H a\o
 len:-c.st=-c.σ
 sl:∀(i:8) (k:Kd) (u:U),c.st[i]?\bD (k,u)->YJ C c.S c.H c.σ i k u
 inj:∀(i j:8) (k k':Kd) (u u':U) (r:mn),k.root=4->k'.root=4->c.st[i]?\bD (k,u)->c.st[j]?\bD (k',u')->c.σ[i]?\bD (.ref r)->c.σ[j]?\bD (.ref r)->i=j
 dd:Qa C c
structure Ns(c c':Cf):6 where
 keep:∀a o,c.H a\o->¬c.R a->c'.H a\o
 there:∀a o,c.H a\o->∃o',c'.H a\o'
 roots:∀a,c'.R a->c.R a\/c.H a=cK
 sub:∀a,c.S a->c'.S a
 new:∀a,c'.S a->c.S a\/c.R a\/c.H a=cK
def Ns.refl(c:Cf):Ns c c:=#[λ_ _ h _=>h,λ_ o h=>#[o,h],λ_ h=>.inl h,λ_ h=>h,λ_ h=>.inl h]
def Ns.none(n:Ns c b)(h:b.H a=.none):c.H a=.none:=by cases e:c.H a with|none=>rfl|some o=>let(d,q):=n.there a o e;left
def Ns.trans(m:Ns c d)(n:Ns d e):Ns c e where
 keep:=λa o h b=>by
  show n.keep a o (m.keep a o h b) λz=>?_;obtain z|z:=m.roots a z
  .show b z
  left
 there:=λa o h=>let ⟨f,g⟩:=m.there a o h;n.there a f g
 roots:=λa h=>by
  obtain z|z:=n.roots a h
  .show m.roots a z
  show .inr (m.none z)
 sub:=λa h=>n.sub a (m.sub a h)
 new:=λa h=>by
  obtain z|z|z:=n.new a h
  .show m.new a z
  .rcases m.roots a z with z|z
   .show .inr (.inl z)
   show .inr (.inr z)
  show .inr (.inr (m.none z))
inductive YK(C:Ct)(S:mn->6)(H:Hp)(u:U)(v:V):6|mk:∀r,v=.ref r->¬S r->¬C.OF r->(C.H₀ r=cK\/C.IO r)->dn C S H r u->YK C S H u v
def jn.rt(hk:k.root=4)(h:jn C S H k u v):YK C S H u v:=by cases k with|own=>let(r,a,b,c,d,e):=h;show#[r,a,b,c,.inl d,e]|io=>let(r,a,b,c,d,e):=h;show#[r,a,b,c,.inr d,e]|_=>ext hk
theorem dS.mem:∀{d}{b}{a},dS C S H d b->a∈b->∃c,H a\.lst c
 |[],b,a,h,ha=>by ext h ha|u::d,b,a,h,ha=>by
  let(i,e,j,c,rfl,_,f,_,g):=h;obtain rfl|ha:=gs.mp ha
  .show#[c,f]
  show dS.mem g ha
theorem dS.mv(m:Mv S H i f):∀{c}{b},(∀a∈b,∀o,H a\o->f a\o)->dS C S H c b->dS C i f c b|[],b,_,h=>h|u::c,b,g,h=>by let(a,d,j,k,rfl,e,l,n,p):=h;show#[a,d,j,k,9,e,g a (by simp) _ l,n.mv m,dS.mv m (λa q=>g a (by simp[q])) p]
def bq.fr(h:bq C S H r b u):∀a∈r::b,¬S a/\¬C.OF a/\(C.H₀ a=cK\/C.IO a):=by cases u<;>first|show h.elim|(let(c,_,_,_,_,d,_):=h;show λa e=>let ⟨p,q,r⟩:=d a e;⟨p,q,.inl r⟩)|(let(_,_,_,_,_,rfl,h):=h;show h.fr)
def bq.YL(h:bq C S H r b (.Mr e f)):∀a∈r::b,¬S a/\¬C.OF a/\C.H₀ a=cK:=by let(c,_,_,_,_,d,_):=h;show d
def bq.there(h:bq C S H r b u):∀a∈r::b,∃o,H a\o/\¬Tp o:=by
 cases u<;>first|show h.elim|(let(_,_,_,a,_,rfl,h):=h;intro x hx;obtain rfl|hx:=gs.mp hx;show#[_,h.ins,λz=>z];rw[js.mp hx];show#[_,h.lst,λz=>z])|skip
 let(c,d,_,_,_,_,f):=h;intro a ha;obtain rfl|ha:=gs.mp ha
 .show#[_,d,λz=>z]
 let(g,e):=f.mem ha;show#[_,e,λz=>z]
def bq.mv(m:Mv S H e f)(b:∀a∈r::g,¬e a/\∀o,H a\o->f a\o)(h:bq C S H r g u):bq C e f r g u:=by
 cases u<;>first|show h.elim|(let(j,k,v,a,l,rfl,h):=h;show#[j,k,v,a,l,9,h.hc,(b r (by simp)).2 _ h.ins,h.ne,λx i=>#[(b x i).1,(h.fr x i).2],h.im,h.rep.mv m,(b a (by simp)).2 _ h.lst,h.SQ,h.N3.mv m])|skip
 let(d,n,p,q,s,t,w):=h;show#[d,(b r (by simp)).2 _ n,p,q,s,λa c=>#[(b a c).1,(t a c).2],w.mv m λa c=>(b a (by simp[c])).2]
def Qa.of(d:Qa C c)(hk:e.kid=c.kid)(l:∀(j:8) u,e.st[j]?\bD (.A',u)->c.st[j]?\bD (.A',u)/\e.σ[j]?=c.σ[j]?)(p:∀a,e.R1 a->c.R1 a\/∀j,¬c.RD j a) (m:Mv c.S c.H e.S e.H) (q:∀j a,c.RD j a->¬e.S a/\∀o,c.H a\o->e.H a\o):Qa C e:=by
 let b:∀j a,e.RD j a->c.RD j a:=λj a s=>by let(u,r,h,f,n):=s;let(g,k):=l j u h;rw[k]at f;rw[hk]at n;show#[u,r,g,f,n]
 show#[λj u r h f=>?_,λi j a z1 z2=>d.dj i j a (b i a z1) (b j a z2),λj a z1 z2=>?_]
 .let(g,k):=l j u h;rw[k]at f;rw[hk];show bq.mv m (λa t=>q j a #[u,r,g,f,gs.mp t]) (d.kd j u r g f)
 obtain z|z:=p a z2
 .show d.d1 j a (b j a z1) z
 show z j (b j a z1)
def Qa.hs(d:Qa C c)(m:Mv c.S c.H b f)(g:∀j a,c.RD j a->¬b a/\∀o,c.H a\o->f a\o):Qa C {c with H:=f,S:=b } :=d.of 9 (λ_ _ e=>#[e,9]) (λ_ z=>.inl z) m g
def Ok.root(ok:Ok C c)(h:c.R r):¬c.S r/\¬C.OF r/\(C.H₀ r=cK\/C.IO r)/\∃o,c.H r\o/\¬Tp o:=by
 obtain⟨j,k,u,hk,b,d⟩|⟨j,u,f,b,d,a⟩:=h
 .let(v,e,hs):=ok.sl j _ _ b;let(f,ev,a,i,l,m):=hs.rt hk;rw[d]at e;ext e ev;show#[a,i,l,m.some]
 let g:=ok.dd.kd j u f b d;let(n,p,q):=bq.fr g r (gs.mpr a);show#[n,p,q,bq.there g r (gs.mpr a)]
def Ok.mv(ok:Ok C c)(n:Ns c b):Mv c.S c.H b.S b.H:=#[n.sub,λa o h t=>n.keep a o h λz=>by let(_,_,_,d,e,f):=ok.root z;left,λa o s h=>n.keep a o h λz=>(ok.root z).1 s]
def Ok.QQ(ok:Ok C c)(n:Ns c b):Mv (PS C c.S) c.H (PS C b.S) b.H:=#[λa h=>h.imp id (n.sub a),(ok.mv n).TZ,λa o s h=>n.keep a o h λz=>by
  obtain s|s:=s
  .show(ok.root z).2.1 s
  show(ok.root z).1 s]
def Ok.iP(ok:Ok C c)(h:c.H p=cK):C.H₀ p=cK/\¬c.S p/\¬C.OF p/\¬C.IO p/\¬c.R p:=by
 let a:¬C.IO p:=λz=>by let(_,o,q):=ok.io p z;left
 let b:C.H₀ p=cK:=by cases e:C.H₀ p with|none=>rfl|some o=>let:=ok.same p o e a;left
 show#[b,λz=>?_,λz=>?_,a,λz=>?_]
 .let(_,o,q):=ok.Ov p z;left
 .let((o,q),_):=ok.par p z;left
 let(_,_,_,o,q,_):=ok.root z;left
def jn.mv(m:Mv S H a b)(n:Mv (PS C S) H (PS C a) b)(l:k.root=4->∀r,v=.ref r->¬a r/\∀o,H r\o->b r\o)(h:jn C S H k u v):jn C a b k u v:=by cases k with|own=>let(r,e,p,c,d,f):=h;let(g,i):=l 9 r e;show#[r,e,g,c,d,f.mv m i]|io=>let(r,e,p,c,d,f):=h;let(g,i):=l 9 r e;show#[r,e,g,c,d,f.mv m i]|loc=>show Rep.mv m h|any=>show Rep.mv n h|bor j=>show h.elim|A'=>show h
structure Nx(c c':Cf):6 extends Ns c c' where
 dk:Dk c c'
instance {c a:Cf}:Coe (Nx c a) (Ns c a):=#[Nx.toNs]
def Nx.refl(c:Cf):Nx c c:=#[.refl c,λ_ h=>#[h,λ_ e=>e]]
def Dk.trans(m:Dk c b)(n:Dk b d):Dk c d:=λa h=>#[(m a (n a h).1).1,λo e=>(n a h).2 o ((m a (n a h).1).2 o e)]
def Dk.of(l:g.σ=c.σ)(hs:∀j e f,g.st[j]?\bD (.A',.Mr e f)->(∃b,c.st[j]?\bD (.A',.Mr e b))/\g.kid j=c.kid j)(m:∀j e f a o,c.st[j]?\bD (.A',.Mr e f)->c.RD j a->c.H a\o->g.H a\o):Dk c g:=λa n=>by
 let(j,(u,r,q,i,k),e,f,d):=n;let((b,h),p):=hs j e f d;rw[l]at i;rw[p]at k;let z:c.RD j a:=#[_,r,h,i,k]
 show#[#[j,z,e,b,h],λo=>m j e b a o h z]
def Nx.trans(m:Nx c a)(n:Nx a b):Nx c b:=#[m.toNs.trans n.toNs,Dk.trans m.dk n.dk]
def Nx.none(n:Nx c b)(h:b.H a=.none):c.H a=.none:=n.toNs.none h
def Ok.lay(ok:Ok C c)(h:c.H p=cK):Ok C {c with H:=upd c.H p o}/\Nx c {c with H:=upd c.H p o}:=by
 let m:∀{a:mn} {b:HO},c.H a\b->a≠p:=λe z=>by subst z;rw[h]at e;ext e
 let d:∀a b,c.H a\b->(upd c.H p o) a\b:=λa b e=>by rw[aj (m e)];show e
 let f:Nx c {c with H:=upd c.H p o}:=#[#[λa b e _=>d a b e,λa b e=>#[b,d a b e],λa z=>.inl z,λ_ z=>z,λ_ z=>.inl z],λa h=>#[h,d a]]
 show#[#[λa b e z=>d a b (ok.same a b e z),λa z=>#[(ok.Ov a z).1,let ⟨b,q⟩:=(ok.Ov a z).2;⟨b,d a b q⟩],ok.par,λa z=>#[(ok.io a z).1,let ⟨b,q⟩:=(ok.io a z).2;⟨b,d a b q⟩],ok.len,λi k u e=>?_,ok.inj,ok.dd.hs (ok.mv f.toNs) λj a z=>#[(ok.root (.inr #[j,z])).1,λb e=>d a b e]],f];let(v,n,g):=ok.sl i k u e;show#[v,n,g.mv (ok.mv f.toNs) (ok.QQ f.toNs) λhk r s=>?_];let(w,l,t,_):=g.rt hk;rw[s]at l;ext l;show#[t,λb e=>d r b e]
def Ok.grow(ok:Ok C c)(hs:yI c.H H')(g:∀a,S' a->c.S a\/(c.H a=cK/\∃o,H' a\o))(t:∀a,c.S a->S' a):Ok C {c with H:=H',S:=S' }/\Nx c {c with H:=H',S:=S' }:=by
 let l:Nx c {c with H:=H',S:=S' }:=#[#[λa b e _=>hs a b e,λa b e=>#[b,hs a b e],λa z=>.inl z,t,λa z=>(g a z).imp id λq=>.inr q.1],λa h=>#[h,hs a]]
 show#[#[λa b e z=>hs a b (ok.same a b e z),λa z=>?_,ok.par,λa z=>#[(ok.io a z).1,let ⟨b,q⟩:=(ok.io a z).2;⟨b,hs a b q⟩],ok.len,λi k u e=>?_,ok.inj,ok.dd.hs (ok.mv l.toNs) λj a z=>#[λd=>?_,λb e=>hs a b e]],l]
 rotate_left 2
 .let(f,_,_,o,m,_):=ok.root (.inr #[j,z]);obtain d|⟨d,_⟩:=g a d
  .show f d
  rw[m]at d;ext d
 .rcases g a z with q|⟨f,n⟩
  .show#[(ok.Ov a q).1,let ⟨b,q⟩:=(ok.Ov a q).2;⟨b,hs a b q⟩]
  show#[(ok.iP f).1,n]
 let(v,w,p):=ok.sl i k u e;show#[v,w,p.mv (ok.mv l.toNs) (ok.QQ l.toNs) λhk r x=>?_];let(y,s,f,n,A,m):=p.rt hk;rw[x]at s;ext s;let(o,ho,_):=m.some;show#[λz=>?_,λb e=>hs r b e];obtain z|⟨z,_⟩:=g r z
 .show f z
 rw[z]at ho;ext ho
def aK(C:Ct)(a c:Cf):Kd->U->V->6|.own,u,v=>∃r,v=.ref r/\a.H r=cK/\¬c.S r/\¬c.R r/\dn C c.S c.H r u|.loc,u,v=>Rep C c.S c.H u v|.any,u,v=>Rep C (PS C c.S) c.H u v|.bor j,u,v=>(∃k:Kd,k.root=4/\c.st[j]?\bD (k,u))/\c.σ[j]?\bD v|.io,_,_=>False|.A',_,_=>False
def gU(C:Ct)(a c:Cf):Kd->U->V->6|.own,u,v=>∃r,v=.ref r/\a.H r=cK/\¬c.S r/\¬c.R r/\dn C c.S c.H r u|.loc,u,v=>Rep C c.S c.H u v|.any,u,v=>Rep C (PS C c.S) c.H u v|.bor j,u,v=>c.σ[j]?\bD v|.io,_,_=>False|.A',_,_=>False
def aK.w(h:aK C a c k u v):gU C a c k u v:=by cases k with|bor j=>show h.2|_=>show h
def gU.on'(ok:Ok C c)(n:Ns c a)(f:∀j,k=.bor j->a.σ[j]?=c.σ[j]?)(h:gU C g c k u v):gU C g a k u v:=by
 cases k with
 |own =>
  let(r,e,i,l,b,d):=h;let(o,ho,_):=d.some;show#[r,e,i,λz=>?_,λz=>?_,d.mv (ok.mv n) λo q=>n.keep r o q b]
  .rcases n.new r z with z|z|z
   .show l z
   .show b z
   left
  obtain z|z:=n.roots r z
  .show b z
  left
 |loc=>show Rep.mv (ok.mv n) h|any=>show Rep.mv (ok.QQ n) h|bor j=>change a.σ[j]?=_;rw[f j rfl];show h|_=>show h
def gU.on(ok:Ok C c)(n:Ns c a)(b:a.σ=c.σ)(h:gU C d c k u v):gU C d a k u v:=h.on' ok n λj _=>by rw[b]
def gU.from(n:Ns a b)(h:gU C b c k u v):gU C a c k u v:=by cases k with|own=>let(r,e,d,f):=h;show#[r,e,n.none d,f]|_=>show h
def aK.from(n:Ns a b)(h:aK C b c k u v):aK C a c k u v:=by cases k with|own=>let(r,e,d,f):=h;show#[r,e,n.none d,f]|_=>show h
def SK(C:Ct)(c:Cf):Kd->mn->6|.any=>PS C c.S|_=>c.S
def kE:Kd->Kd|.any=>.any|_=>.loc
def Ok.rootOf(ok:Ok C c){j:8}(h:∃k,k.root=4/\c.st[j]?\bD (k,u))(e:c.σ[j]?\bD v):YK C c.S c.H u v:=by let(k,hk,h):=h;let(d,a,b):=ok.sl j _ _ h;rw[e]at a;ext a;show b.rt hk
inductive RtL(C:Ct)(c:Cf)(k:Kd)(us:↑U)(v:V):6|mk:∀a vs,v=.ref a->M3 C.K c.H a vs->av C (SK C c k) c.H us vs->RtL C c k us v
def aK.list(ok:Ok C c)(h:aK C i c k (.lst g) v):RtL C c k g v:=by cases k with|own=>let(r,e,_,_,_,b,d,f):=h;show#[r,b,e,M3.of d,f]|bor j=>let(r,e,_,_,_,b,d,f):=ok.rootOf h.1 h.2;show#[r,b,e,M3.of d,f]|io=>show h.elim|A'=>show h.elim|_=>let(a,b,e,d,f):=h;show#[a,b,e,d.sq,f]
inductive RtT(C:Ct)(c:Cf)(k:Kd)(us:↑U)(v:V):6|mk:∀a vs,v=.ref a->MV C.K c.H a vs->av C (SK C c k) c.H us vs->RtT C c k us v
def aK.tuple(ok:Ok C c)(h:aK C i c k (.tup b) v):RtT C c k b v:=by cases k with|own=>let(r,e,_,_,_,h):=h;show h.elim|bor j=>let(r,e,_,_,_,h):=ok.rootOf h.1 h.2;show h.elim|io=>show h.elim|A'=>show h.elim|_=>let(a,d,e,f,g):=h;show#[a,d,e,f,g]
def aK.flat(ok:Ok C c)(a:MJ u=4)(h:aK C b c k u v):Rep C c.S c.H u v:=by cases k with|own=>let(r,e,_,_,_,h):=h;cases u<;>simp[MJ]at a<;>show h.elim|loc=>show h|any=>show Rep.MJ a h|bor j=>let(r,e,_,_,_,h):=ok.rootOf h.1 h.2;cases u<;>simp[MJ]at a<;>show h.elim|_=>show h.elim
def aK.int(ok:Ok C c)(h:aK C a c k (.int i) v):v=.int i:=h.flat ok 9
def aK.str(ok:Ok C c)(h:aK C a c k (.str x) v):v=.str x:=h.flat ok 9
def aK.bl(ok:Ok C c)(h:aK C a c k (.bl b) v):v=.bl b:=h.flat ok 9
def aK.Mx(ok:Ok C c)(h:aK C a c k .Mx v):v=.Mx:=h.flat ok 9
def aK.item(h:Rep C (SK C c k) c.H u v):aK C a c (kE k) u v:=by cases k<;>show h
noncomputable def OL(H:Hp):mn->6:=λa=>∃o,H a\o
def Ok.Be(ok:Ok C c):∀a,c.S a->OL c.H a:=λa h=>(ok.Ov a h).2
def Ok.J5(ok:Ok C c):∀a,PS C c.S a->OL c.H a:=λa h=>by
 obtain h|h:=h
 .let((o,e),n):=ok.par a h;show#[o,ok.same a o e n]
 show ok.Be a h
def aK.read(ok:Ok C c)(h:aK C b c k u v):Rep C (OL c.H) c.H u v:=by cases k with|own=>let(r,e,_,_,_,a):=h;rw[e];let(o,ho,_):=a.some;show a.rep ok.Be #[o,ho]|loc=>show Rep.mv (.up ok.Be) h|any=>show Rep.mv (.up ok.J5) h|bor j=>let(r,e,_,_,_,a):=ok.rootOf h.1 h.2;rw[e];let(o,ho,_):=a.some;show a.rep ok.Be #[o,ho]|_=>show h.elim
def Ok.newList(ok:Ok C c)(n:Nx b c)(h:c.H p=cK)(e:av C c.S c.H f a):Ok C {c with H:=upd c.H p (.lst a)}/\Nx b {c with H:=upd c.H p (.lst a)}/\aK C b {c with H:=upd c.H p (.lst a)} .own (.lst f) (.ref p):=by let(g,d):=ok.lay  h;let(k,i,l,m,j):=ok.iP h;show#[g,n.trans d,p,9,n.none h,i,j,a,ak,e.mv (ok.mv d.toNs)]
def Ok.Hx(ok:Ok C c)(n:Nx b c)(h:c.H p=cK)(e:av C c.S c.H f a):Ok C {c with H:=upd c.H p (.tup a)}/\Nx b {c with H:=upd c.H p (.tup a)}/\aK C b {c with H:=upd c.H p (.tup a)} .loc (.tup f) (.ref p):=by let(g,d):=ok.lay  h;show#[g,n.trans d,p,a,9,MV.of ak,e.mv (ok.mv d.toNs)]
inductive Ex(α:Type) where|ok (a:α)|exc (c:Str)
def M(α:Type):=ay->Option (Ex α×ay)
namespace M
def pure(a:α):M α:=λst=>bD (.ok a,st)
def fail:M α:=λ_=>cK
def bind(m:M α)(f:α->M β):M β:=λst=>match m st with|none=>cK|some (.ok a,b)=>f a b|some (.exc c,b)=>bD (.exc c,b)
def MU(o:Option α):M α:=λst=>match o with|none=>cK|some a=>bD (.ok a,st)
end M
noncomputable instance:Monad M:={pure:=M.pure,bind:=M.bind}
inductive W{α:Type}(m:M α)(st:ay)(Q:α->ay->6):6|mk:∀a st',m st\(.ok a,st')->Q a st'->W m st Q
def au:W (pure a) st Q↔Q a st:=by
 constructor
 .rintro⟨b,c,e,h⟩;ext e;show h
 intro h;show#[a,st,9,h]
def ai:W (m >>= f) st Q↔W m st λa d=>W (f a) d Q:=by
 constructor
 .rintro⟨b,d,e,h⟩;let g:M.bind m f st\_:=e;unfold M.bind at g;cases q:m st with
  |none=>left|some r =>
   let(r,i):=r;rw[q]at g;cases r with
   |ok a=>show#[a,i,q,b,d,g,h]
   |exc c=>ext g
 rintro⟨a,i,q,b,d,e,h⟩;show#[b,d,?_,h];change M.bind m f st=_;unfold M.bind;rw[q];show e
def cw:W (M.MU o) st Q↔∃a,o\a/\Q a st:=by cases o with|none=>show#[λ⟨_,_,e,_⟩=>(by ext e),λ⟨_,e,_⟩=>(by ext e)]|some a=>show#[λ⟨_,_,e,h⟩=>(by ext e;show#[a,9,h]),λ⟨_,e,h⟩=>(by ext e;show#[a,st,9,h])]
def bE:W (M.fail:M α) st Q↔False:=#[λ⟨_,_,e,_⟩=>(by ext e),Vf]
def W.mono(h:W m st Q)(i:∀a s,Q a s->b a s):W m st b:=let ⟨a,s,e,q⟩:=h;⟨a,s,e,i a s q⟩
inductive Wh where|add|sub|mul|Pf|mod|pow
deriving DecidableEq
inductive Wi where|eq|ne|lt|gt|ge|isin|Mw|SR
deriving DecidableEq
inductive Bf where|len|sorted|list|tuple|str|max|min|all
deriving DecidableEq
inductive B2 where|sset|jc
deriving DecidableEq
inductive Mf where|split|join|partition
deriving DecidableEq
inductive Rg where|str
deriving DecidableEq
inductive Ik where|seq|Nc|Rh|Ri|zip
deriving DecidableEq
inductive E where
 |var (i:Nat)|cst (u:U)|Ow (x:Str) (u:U)|bin (op:Wh) (a b:E)|cmp (op:Wi) (a b:E)|and (es:↑E)|or (es:↑E)|not (a:E)
 |tup (es:↑E)|lst (es:↑E)|Ph (r:Bool)
 |idx (a b:E)|P0 (a:E) (lo hi:↑E)|bi (f:Bf) (es:↑E)|Qz (f:B2) (es:↑E)|OM (m:Mf) (a:E) (es:↑E)|call (f:Str) (es:↑E)|comp (k:Nat) (t:Bool) (ik:Ik) (src:↑E) (cond:↑E) (e:E)|bad|RX (a:E) (T:Rg)|inD (neg:Bool) (a:E) (i:Nat)|T3 (i:Nat)|Pj (i:Nat) (k d:E)|T4 (i:Nat)|SS (ln:Bool) (a b:E)
 |NT (f:Str) (i:Nat) (es:↑E) (is:↑Nat)|pop (i:Nat)|Nr (i:Nat)|P4 (i:Nat)|OV (i:Nat)|l8 (i:Nat)|NU (f m:Str) (i:Nat) (es:↑E)
inductive S where
 |set (i:Nat) (e:E)|la (is:↑Nat) (e:E)|put (i:Nat) (k v:E)|app (i:Nat) (e:E)|ext (i:Nat) (e:E)|bad|newD (i:Nat)|putD (i:Nat) (k v:E)|OG (i:Nat) (k v:E)|aug (sub:Bool) (i:Nat) (k v:E)
 |exp (e:E)|ret (e:E)|P5 (i:Nat) (e:E)|ite (c:E) (a b:↑S)|MR (t:Bool) (is:↑Nat) (ik:Ik) (src:↑E) (body:↑S)|RY (c:E) (body:↑S)|O4 (is:↑Nat)|mf (i:Nat)|iO (i:Nat) (e:E)|P6 (i:Nat)
def isAny:Kd->Bool|.any=>4|_=>dt
def kI(k:Kd)(a:↑U):Bool:=!isAny k||dZ a
def kT(k a:Kd):Kd:=if isAny k||isAny a then .any else .loc
def cut{α:Type}(a:↑α)(lo b:Option Int):↑α:=(a.drop (HT.ML ⇑a 0 lo)).take (HT.ML ⇑a ⇑a b - HT.ML ⇑a 0 lo)
def Bg:Kd×U->Kd×U->Option (Kd×U)
 |(_,.int i),(_,.int j)=>bD (.loc,.int (i+j))|(_,.str x),(_,.str y)=>if -x+ -y<=et then bD (.loc,.str (x++y)) else cK
 |(k,.lst a),(c,.lst b)=>if -a+ -b<=et/\kI k a=4/\kI c b=4 then bD (.own,.lst (a++b)) else cK
 |(k,.tup a),(c,.tup b)=>if -a+ -b<=et then bD (kT k c,.tup (a++b)) else cK
 |_,_=>cK
def vB(f:Int->Int->Option Int):U->U->Option (Kd×U)|.int i,.int j=>(f i j).map λn=>(.loc,.int n)|_,_=>cK
def Ej(i j:Int):Option Int:=if ((-((2 ^ 64):Int)<i/\i<2 ^ 64)\/(-((2 ^ 64):Int)<j/\j<2 ^ 64)) then bD (i * j) else cK
def Ek(i j:Int):Option Int:=if 0<j/\j<1073741824 then bD (i / j) else cK
def El(i j:Int):Option Int:=if 0<j then bD (i % j) else cK
def Em(i j:Int):Option Int:=if 0<=j/\j<=1000000/\i.natAbs<2 ^ 64 then bD (i ^ j.toNat) else cK
def O5(a:Wh)(x y:Kd×U):Option (Kd×U):=match a with|.add=>Bg x y|.sub=>vB (λi j=>bD (i - j)) x.2 y.2|.mul=>vB Ej x.2 y.2|.Pf=>vB Ek x.2 y.2|.mod=>vB El x.2 y.2|.pow=>vB Em x.2 y.2
mutual
noncomputable def Na:8->U->Bool|_,.Mr _ _=>dt|_,.ob _ _=>dt|0,.tup _=>dt|0,.lst _=>dt|n+1,.tup a=>dB n a|n+1,.lst a=>dB n a|_,.Mx=>4|_,.bl _=>4|_,.int _=>4|_,.str _=>4
noncomputable def dB:8->↑U->Bool|_,[]=>4|n,u::a=>Na n u&&dB n a
end
mutual
noncomputable def cj:U->U->Bool|.Mx,.Mx=>4|.bl a,.bl b=>a==b|.bl a,.int b=>(if a then 1 else 0)==b|.int a,.bl b=>a==(if b then 1 else 0)|.int a,.int b=>a==b|.str a,.str b=>a==b|.tup c,.tup d=>cU c d|.lst c,.lst d=>cU c d|_,_=>dt
noncomputable def cU:↑U->↑U->Bool|[],[]=>4|u::a,w::b=>cj u w&&cU a b|_,_=>dt
end
def SU(x:U)(a:↑U):Option Bool:=if Na 50 x=4/\dB 50 a=4 then bD (a.any λy=>cj y x) else cK
def U8(x y:5):Bool:=!(Qe y x 0 ⇑y 1).isEmpty
def strsOf:↑U->Option ↑5|[]=>bD []|.str x::a=>(strsOf a).map (x::·)|_::_=>cK
def rowOf:U->Option qO|.tup [.str x,.tup a]=>(strsOf a).map λb=>(x,b)|_=>cK
def En:U->U->Option Bool|x,.lst a=>SU x a|x,.tup a=>SU x a|.str x,.str y=>bD (U8 x y)|.str x,.Mr b _=>bD (gi (x∈b))|_,_=>cK
def eD:↑5->↑U->5->Option U
 |y::a,u::b,x=>if y=x then bD u else eD a b x
 |_,_,_=>cK
noncomputable def dput(a:↑5)(b:↑U)(x:5)(u:U):↑5 ×↑U :=if x∈a then(a,(a.zip b).map λp=>if p.1=x then u else p.2) else(a++[x],b++[u])
def xp:U->Bool|.Mx=>4|_=>dt
def cm:Wi->U->U->Option Bool
 |.eq,a,b=>if Na 50 a=4/\Na 50 b=4 then bD (cj a b) else cK
 |.ne,a,b=>if Na 50 a=4/\Na 50 b=4 then bD (!cj a b) else cK
 |.lt,.int i,.int j=>bD (gi (i<j))|.gt,.int i,.int j=>bD (gi (j<i))|.ge,.int i,.int j=>bD (gi (j<=i))|.isin,x,y=>En x y|.Mw,x,y=>(En x y).map (!·)|.SR,x,.Mx=>bD (!xp x)|_,_,_=>cK
def nM:↑U->Option ↑Bool|[]=>bD []|.bl x::a=>(nM a).map (x::·)|_::_=>cK
def l7:Kd×U->U->Option (Kd×U)
 |(k,.lst a),.int i=>(MX a i).map λu=>(kE k,u)|(k,.tup a),.int i=>(MX a i).map λu=>(kE k,u)|(_,.str x),.int i=>if -x<=et then(MX (~~~x) i).map λc=>(.loc,.str #[#v[c]]) else cK
 |_,_=>cK
def pe:Kd×U->Option Int->Option Int->Option (Kd×U)
 |(k,.lst b),lo,a=>if kI k b=4 then bD (.own,.lst (cut b lo a)) else cK
 |(k,.tup b),lo,a=>bD (kE k,.tup (cut b lo a))|(_,.str x),lo,a=>if -x<=et then bD (.loc,.str (PySem.StrLaws.sliceText x lo a)) else cK
 |_,_,_=>cK
def J6:U->Option 8
 |.lst a=>bD ⇑a|.tup a=>bD ⇑a|.str x=>if -x<=et then bD ⇑x else cK
 |_=>cK
def iQ{β:Type}(f:Kd×U->Option β):↑(Kd×U)->Option β|[x]=>f x|_=>cK
def intsOf:↑U->Option ↑Int|[]=>bD []|.int x::a=>(intsOf a).map (x::·)|_::_=>cK
def Hy:Kd×U->Option (Kd×U)
 |(_,.lst b)=>(strsOf b).bind λa=>if -a<64 then bD (.own,.lst ((bA a).map .str)) else cK
 |(_,.tup b)=>(strsOf b).bind λa=>if -a<64 then bD (.own,.lst ((bA a).map .str)) else cK
 |_=>cK
def Hz:Kd×U->Option (Kd×U)
 |(k,.tup a)=>if kI k a=4 then bD (.own,.lst a) else cK
 |_=>cK
def HA:Kd×U->Option (Kd×U)|(k,.lst a)=>bD (kE k,.tup a)|(k,.tup a)=>bD (kE k,.tup a)|_=>cK
def Bh:Kd×U->Option (Kd×U)
 |(_,.int i)=>if i.natAbs.log2<1920 then bD (.loc,.str (toString i)) else cK
 |_=>cK
def yY(a:Bool):↑(Kd×U)->Option (Kd×U)|[(_,.int i),(_,.int j)]=>bD (.loc,.int (if a=4 then(if j<i then j else i) else(if j>i then j else i)))|_=>cK
def HB:Kd×U->Option (Kd×U)|(_,.lst a)=>(nM a).map λb=>(.loc,.bl (b.all id))|_=>cK
def ON(f:Bf)(a:↑(Kd×U)):Option (Kd×U):=match f with|.len=>iQ (λx=>(J6 x.2).map λ(n:Nat)=>(Kd.loc,U.int (n:Int))) a|.sorted=>iQ Hy a|.list=>iQ Hz a|.tuple=>iQ HA a|.str=>iQ Bh a|.max=>yY dt a|.min=>yY 4 a|.all=>iQ HB a
def jo:U->Option ↑5
 |.lst b=>(strsOf b).bind λa=>if -a+1<UO then bD (aY a) else cK
 |.tup b=>(strsOf b).bind λa=>if -a+1<UO then bD (aY a) else cK
 |_=>cK
def nN:↑U->Option ↑qO|[]=>bD []|u::a=>(rowOf u).bind λr=>(nN a).map (r::·)
def HC:U->Option (Kd×U)
 |.lst b=>(nN b).bind λa=>if -a<=64/\a.Nodup then bD (.loc,.int ⇑a) else cK
 |_=>cK
def tm(x:Kd×U):Option (Kd×U):=match jo x.2 with|some a=>bD (.loc,.int ⇑a)|none=>HC x.2
def tq(f:B2)(a:↑(Kd×U)):Option (Kd×U):=match f with|.sset=>iQ (λx=>(jo x.2).bind λb=>if -b<64 then bD (.own,.lst ((bA b).map .str)) else cK) a|.jc=>iQ tm a
def Wj(f:5->Option (Kd×U)):U->Option (Kd×U)|.str b=>f b|_=>cK
def jQ(h:Wj f u\r):∃b,u=.str b/\f b\r:=by cases u with|str b=>show#[b,9,h]|_=>ext h
def J7(a:5)(c:↑U):Option (Kd×U):=(strsOf c).bind λb=>if Ĥ a b=4 then bD (.loc,.str (Se a b)) else cK
def L7(a:5):U->Option (Kd×U)|.lst b=>J7 a b|.tup b=>J7 a b|_=>cK
def L8:Mf->5->U->Option (Kd×U)
 |.split,a=>Wj λb=>if (-b==0)=dt/\-a+2<=et then bD (.own,.lst ((Vc a b).map .str)) else cK
 |.join,a=>L7 a|.partition,a=>Wj λb=>if (-b==0)=dt/\-a<=et then bD (.loc,.tup [.str (y8 a b).1,.str (y8 a b).2.1,.str (y8 a b).2.2]) else cK
def jq(m:Mf)(u:U)(b:↑(Kd×U)):Option (Kd×U):=Wj (λa=>iQ (λx=>L8 m a x.2) b) u
def L9:Kd×U->Option (↑(Kd×U))|(k,.lst a)=>bD (a.map λu=>(kE k,u))|(k,.tup a)=>bD (a.map λu=>(kE k,u))|(_,.str x)=>bD (x.cps.toList.map λc=>(.loc,.str #[#v[c]]))|_=>cK
def Bi:Kd×U->Option (↑(Kd×U))
 |(_,.int n)=>if n<2 ^ 62/\-((2 ^ 62):Int)<n then bD ((hW n.toNat).map λi:8=>(Kd.loc,U.int (0+(i:Int)))) else cK
 |_=>cK
def HD:↑(Kd×U)->Option (↑(Kd×U))
 |[(_,.int lo),(_,.int a)]=>if a<2 ^ 62/\-((2 ^ 62):Int)<lo/\lo<2 ^ 62/\-((2 ^ 62):Int)<a then bD ((hW (a - lo).toNat).map λi:8=>(Kd.loc,U.int (lo+(i:Int)))) else cK
 |_=>cK
def J8:Kd×U->Option (↑(Kd×U))|(k,.lst a)=>bD (a.zipIdx.map λp=>(kE k,.tup [.int p.2,p.1]))|(k,.tup a)=>bD (a.zipIdx.map λp=>(kE k,.tup [.int p.2,p.1]))|_=>cK
def HE:↑(Kd×U)->Option (↑(Kd×U))
 |[(k,.lst a),(c,.tup b)]=>if -a=-b then bD ((a.zip b).map λp=>(kT k c,.tup [p.1,p.2])) else cK
 |_=>cK
def q_(d:↑5 ×↑U):↑(Kd×U):=(d.1.zip d.2).map λp=>(Kd.loc,U.tup [.str p.1,p.2])
def Ol(b:Ik)(a:↑(Kd×U)):Option (↑(Kd×U)):=match b with|.seq=>iQ L9 a|.Nc=>iQ Bi a|.Rh=>HD a|.Ri=>iQ J8 a|.zip=>HE a
def Eo(a:↑(5 ×Int)):↑(5 ×Int):=(lX (a.map (·.1))).map λi=>a.getD i (O',0)
def yZ(p:5 ×Int):U:=.tup [.str p.1,.int p.2]
def Bj:U->Option (Kd×U)
 |.Mr a c=>(intsOf c).bind λb=>if -a<64/\a.Nodup/\-a=-b then bD (.own,.lst ((Eo (a.zip b)).map yZ)) else cK
 |_=>cK
def vC(c:Bool)(a b:↑5):Option (Kd×U):=if -a<64/\-b<64 then bD (if c=4 then(.loc,.int (-(a.filter λx=>gi (x∉b)):8)) else(.own,.lst ((bA (a.filter λx=>gi (x∉b))).map .str))) else cK
def vD:U->Option Bool
 |.bl b=>bD b|.lst a=>bD !a.isEmpty|.tup a=>bD !a.isEmpty|.str x=>if -x<=et then bD ((-x:Int) != 0) else cK
 |_=>cK
def lift:Kd×U->M U
 |(.own,u)=>pure u|(.loc,u)=>pure u|(.any,u)=>if MJ u=4 then pure u else M.fail
 |(.bor j,_)=>λst=>match st[j]? with
  |some (bD (.own,u))=>bD (.ok u,st.set j (bD (.loc,u)))
  |_=>cK
 |(.io,_)=>M.fail|(.A',_)=>M.fail
def dU:↑(Kd×U)->M ↑U|[]=>pure []|r::a=>do let u <-lift r;let b <-dU a;pure (u::b)
def gk(i:8):Kd×U->M Unit
 |(.bor j,_)=>λst=>match st[j]? with
  |some (bD (.own,u))=>bD (.ok (),(st.set j (bD (.loc,u))).set i (bD (.loc,u)))
  |_=>cK
 |(.io,_)=>M.fail|(.A',_)=>M.fail|(k,u)=>λst=>bD (.ok (),st.set i (bD (k,u)))
def ba:↑(Kd×U)->ay->6|[],_=>True|(.bor j,u)::a,st=>(∃k:Kd,k.root=4/\st[j]?\bD (k,u))/\ba a st|_::a,st=>ba a st
open Classical in
def aG(a:↑(Kd×U)):M Unit:=λst=>if ba a st then bD (.ok (),st) else cK
abbrev Tab:=5->↑U->Option (Ex (Kd×U))
def pQ(Γ:Tab)(f:5)(a:↑U):M (Kd×U):=λst=>match Γ f a with|some (.ok (.any,_))=>cK|none=>cK|some r=>bD (r,st)
def jr(a:↑(Kd×U))(p:8):Option 8:=match a[p]? with|some (.bor j,.lst _)=>bD j|_=>cK
def Bl(a:↑(Option 8)):Kd×U->Bool|(.bor j,_)=>gi (bD j∉a)|_=>4
def lF(a:↑(Kd×U))(b:↑8):Bool:=b.all (λp=>(jr a p).isSome)&&gi ((b.map (jr a)).Nodup)&&(hW ⇑a).all λq=>gi (q∈b)||Bl (b.map (jr a)) (a.getD q (.loc,.Mx))
def lG(a:↑(Kd×U)):↑8->↑U->ay->Option ay
 |[],[],st=>bD st|p::b,w::c,st=>match jr a p with
  |some j=>match w,st[j]? with
   |.lst d,bD (bD (k,_))=>lG a b c (st.set j (bD (k,.lst d)))
   |_,_=>cK
  |none=>cK
 |_,_,_=>cK
def jR(st:ay):Kd×U->Kd×U|(.bor j,u)=>(.bor j,match st[j]? with|some (bD (k,a))=>if k.root=4 then a else u|_=>u)|r=>r
def Bm(a:↑(Kd×U)):M (↑(Kd×U)):=λst=>bD (.ok (a.map (jR st)),st)
def Bn(i:8):M (Kd×U):=λst=>match st[i]? with
 |some (bD (k,.lst a))=>if k.root=4 then(match a[-a - 1]? with|some u=>bD (.ok (.loc,u),st.set i (bD (k,.lst a.dropLast)))|none=>cK) else cK
 |_=>cK
def eE(i:8):M (Kd×U):=λst=>match st[i]? with|some (bD (.A',_))=>cK|some (bD (k,u))=>bD (.ok (if k.root=4 then .bor i else k,u),st)|_=>cK
def OW(i:8):M (U×↑U):=λst=>match st[i]? with|some (bD (.A',.ob u a))=>bD (.ok (u,a),st)|_=>cK
def Rj(i:8)(f:U->↑U->Option (U×↑U)):M Unit:=λst=>match st[i]? with
 |some (bD (.A',.ob u b))=>match f u b with
  |some (w,a)=>if MJ w=4/\dZ a=4 then bD (.ok (),st.set i (bD (.A',.ob w a))) else cK
  |none=>cK
 |_=>cK
def Ep(u:U)(a:↑U):Option (U×↑U):=if -a<et then bD (u,a++[u]) else cK
def l8(i:8):M (Kd×U):=λst=>match st[i]? with
 |some (bD (.A',.ob u a))=>match a[-a - 1]? with
  |some w=>bD (.ok (.loc,w),st.set i (bD (.A',.ob u a.dropLast)))
  |none=>cK
 |_=>cK
def gV(Γ:Tab)(f:5)(i:8)(a:↑(Kd×U))(d:↑8):M (Kd×U):=λst=>match st[i]? with
 |some (bD (.A',.ob u e))=>match Γ f (.ob u e::a.map (·.2)) with
  |some (.ok (k,.tup (w::.ob g b::h)))=>if (k=.own\/k=.loc)/\lF ((.loc,.Mx)::a) d=4 then(match lG ((.loc,.Mx)::a) d h (st.set i (bD (.A',.ob g b))) with|some c=>bD (.ok (k,w),c)|none=>cK) else cK
  |_=>cK
 |_=>cK
def jS(i:8):M (↑5 ×↑U):=λst=>match st[i]? with|some (bD (.A',.Mr a b))=>bD (.ok (a,b),st)|_=>cK
def l9(x:Kd×U):M 5:=match x.2 with|.str y=>pure y|_=>M.fail
def YM(a:Bool)(y:5)(b:↑5):Bool:=if a=4 then !gi (y∈b) else gi (y∈b)
def Bo(i:8):M (Kd×U):=λst=>match st[i]? with|some (bD (.A',.Mr a b))=>bD (.ok (.bor i,.Mr a b),st.set i (bD (.own,.Mr a b)))|_=>eE i st
def tu(i:8):M (↑5 ×↑U):=λst=>match st[i]? with|some (bD (.A',.Mr a b))=>bD (.ok (a,b),st.set i cK)|_=>cK
def F7(i:8):M Unit:=λst=>bD (.ok (),st.set i (bD (.A',.Mr [] [])))
def nO(i:8)(y:5):Kd×U->M Unit
 |(.own,.lst b)=>λst=>match st[i]? with
  |some (bD (.A',.Mr a c))=>if y∉a/\-a<et then bD (.ok (),st.set i (bD (.A',.Mr (a++[y]) (c++[.lst b])))) else cK
  |_=>cK
 |_=>M.fail
def kJ:↑5->↑U->5->U->↑U
 |k::b,v::a,y,u=>if k=y then u::a else v::kJ b a y u
 |_,a,_,_=>a
def nP(i:8)(y:5)(u:U):M Unit:=λst=>match st[i]? with
 |some (bD (.A',.Mr a b))=>match eD a b y with
  |some (.lst c)=>if -c<et then bD (.ok (),st.set i (bD (.A',.Mr a (kJ a b y (.lst (c++[u])))))) else cK
  |_=>cK
 |_=>cK
def YN:U->M Unit|.Mr _ _=>pure ()|_=>M.fail
def Er(x:Kd×U)(y:5)(u:U):Option (Kd×U):=match x with|(k,.Mr a b)=>bD (match eD a b y with|some v=>(kE k,v)|none=>(.loc,u))|_=>cK
noncomputable def tw(i:8):M ↑U:=λst=>match st[i]? with
 |some (bD (k,.lst a))=>if k.root=4 then bD (.ok a,st) else cK
 |_=>cK
def y_(x:Kd×U):M Int:=match x.2 with|.int j=>pure j|_=>M.fail
def tD(a:↑U)(j:Int):Option Int:=if 0<=j then(match a[j.toNat]? with|some (.int o)=>bD o|_=>cK) else cK
def Bp(sub:Bool)(o w:Int):Int:=if sub=4 then o - w else o+w
def sets:↑8->↑(Kd×U)->M Unit
 |[],[]=>pure ()|i::a,r::b=>do gk i r;sets a b
 |_,_=>M.fail
def dC(t:Bool)(a:↑8)(r:Kd×U):M Unit:=match t,a,r with|false,[i],r=>gk i r|true,a,(k,.tup b)=>sets a (b.map λu=>(kE k,u))|_,_,_=>M.fail
def inScope{α:Type}(k:8)(m:M α):M α:=λst=>match m (rr k cK++st) with|none=>cK|some (r,a)=>bD (r,a.drop k)
def bQ(k:8)(t:Bool)(cond:M Bool)(d:M (Kd×U))(c:↑(Kd×U)):↑(Kd×U)->↑U->M ↑U
 |[],a=>do aG c;pure a
 |x::e,a=>do
  aG c
  let r <-inScope k (dC t (hW k) x >>= λ_=>cond >>= λb=>if b=4 then(d >>= λr=>lift r >>= λu=>pure (bD u)) else pure cK)
  match r with
  |some u=>if -a<et then bQ k t cond d c e (a++[u]) else M.fail
  |none=>bQ k t cond d c e a
def tE:U->Rg->Option Bool|.str _,_=>bD 4|.int _,_=>bD dt|.bl _,_=>bD dt|.Mx,_=>bD dt|.lst _,_=>bD dt|.tup _,_=>bD dt|_,_=>cK
def HF(x:Kd×U):M (Option Int):=match x.2 with|.int i=>pure (bD i)|_=>M.fail
def U9:U->M Unit|.lst _=>pure ()|_=>M.fail
section
variable(Γ:Tab)
mutual
noncomputable def ev:E->M (Kd×U)
 |.var i=>eE i|.cst u=>pure (.loc,u)|.Ow _ u=>pure (.loc,u)|.bin o a b=>do
  let x <-ev a
  let y <-ev b
  aG [x,y]
  M.MU (O5 o x y)
 |.cmp o a b=>do
  let x <-ev a
  let y <-ev b
  aG [x,y]
  let c <-M.MU (cm o x.2 y.2)
  pure (.loc,.bl c)
 |.and j=>jT j|.or _=>M.fail|.not a=>do
  let x <-ev a
  match x.2 with
  |.bl c=>pure (.loc,.bl !c)
  |_=>M.fail
 |.tup j=>do
  let g <-bR j
  aG g
  let n <-dU g
  if -n<=et then pure (.loc,.tup n) else M.fail
 |.lst j=>do
  let g <-bR j
  aG g
  let n <-dU g
  if -n<=et then pure (.own,.lst n) else M.fail
 |.Ph r=>pure (.own,.Mr [] [])|.idx a b=>do
  let x <-ev a
  let y <-ev b
  aG [x,y]
  M.MU (l7 x y.2)
 |.P0 a lo s=>do
  let x <-ev a
  let l <-SV lo
  let h <-SV s
  aG [x]
  M.MU (pe x l h)
 |.bi f j=>do
  let g <-bR j
  aG g
  M.MU (ON f g)
 |.Qz f j=>do
  let g <-bR j
  aG g
  M.MU (tq f g)
 |.OM m a j=>do
  let x <-ev a
  let g <-bR j
  aG (x::g)
  M.MU (jq m x.2 g)
 |.call f j=>do
  let g <-bR j
  aG g
  pQ Γ f (g.map (·.2))
 |.comp k t v q cond e=>do
  let g <-bR q
  aG g
  let w <-M.MU (Ol v g)
  let n <-bQ k t (aM cond) (ev e) g w []
  pure (.own,.lst n)
 |.bad=>M.fail|.inD _ _ _=>M.fail|.T3 i=>Bo i|.Pj i k d=>do
  let x <-eE i
  YN x.2
  let y <-ev k
  let y <-l9 y
  let z <-ev d
  let u <-lift z
  let x <-eE i
  M.MU (Er x y u)
 |.T4 i=>do
  let x <-eE i
  M.MU (Bj x.2)
 |.NT f i j A=>OW i >>= λ_=>(bR j >>= Bm) >>= λg=>aG g >>= λ_=>gV Γ f i g A|.Nr i=>OW i >>= λp=>pure (.loc,p.1)|.P4 i=>OW i >>= λp=>pure (.loc,.int (-p.2:8))|.OV _=>M.fail|.l8 i=>TM.l8 i|.NU f _ i j=>OW i >>= λ_=>bR j >>= λg=>aG g >>= λ_=>gV Γ f i g []|.pop i=>Bn i|.SS B a b=>do
  let x <-ev a
  let C <-M.MU (jo x.2)
  let y <-ev b
  let D <-M.MU (jo y.2)
  M.MU (vC B C D)
 |.RX a T=>do
  let x <-ev a
  let b <-M.MU (tE x.2 T)
  pure (.loc,.bl b)
noncomputable def bR:↑E->M (↑(Kd×U))|[]=>pure []|e::a=>do let r <-ev e;let b <-bR a;pure (r::b)
noncomputable def SV:↑E->M (Option Int)
 |[]=>pure cK|[e]=>do let x <-ev e;HF x
 |_=>M.fail
noncomputable def jT:↑E->M (Kd×U)
 |[]=>M.fail|[e]=>ev e|e::a=>do
  let x <-ev e
  match x.2 with
  |.bl cb=>jT a
  |.bl dt=>pure (.loc,.bl dt)
  |_=>M.fail
noncomputable def MM:E->M Bool
 |.and c=>aM c|.or c=>gW c|.not a=>do let b <-MM a;pure !b
 |.cmp h a b=>do
  let x <-ev a
  let y <-ev b
  aG [x,y]
  M.MU (cm h x.2 y.2)
 |.var i=>do let x <-eE i;M.MU (vD x.2)
 |.bi f c=>do
  let e <-bR c
  aG e
  let r <-M.MU (ON f e)
  M.MU (vD r.2)
 |.call f c=>do
  let e <-bR c
  aG e
  let r <-pQ Γ f (e.map (·.2))
  M.MU (vD r.2)
 |.inD g a i=>do
  let x <-ev a
  let y <-l9 x
  let d <-jS i
  pure (YM g y d.1)
 |.RX a T=>do
  let x <-ev a
  M.MU (tE x.2 T)
 |.OV i=>OW i >>= λp=>if Na 50 (.lst p.2)=4 then pure p.2.isEmpty else M.fail
 |.NT f i c j=>(OW i >>= λ_=>(bR c >>= Bm) >>= λe=>aG e >>= λ_=>gV Γ f i e j) >>= λr=>M.MU (vD r.2)|_=>M.fail
noncomputable def aM:↑E->M Bool|[]=>pure 4|[e]=>MM e|e::a=>do let b <-MM e;if b=4 then aM a else pure dt
noncomputable def gW:↑E->M Bool|[]=>pure dt|[e]=>MM e|e::a=>do let b <-MM e;if b=4 then pure 4 else gW a
end
inductive Fl where|nx|rt (k:Kd) (u:U)
def retS:Kd×U->M Fl
 |(.own,u)=>pure (.rt .own u)|(.loc,u)=>pure (.rt .loc u)|(.any,u)=>if MJ u=4 then pure (.rt .loc u) else pure (.rt .any u)
 |(.bor j,_)=>λst=>match st[j]? with
  |some (bD (.own,u))=>bD (.ok (.rt .own u),st.set j cK)
  |_=>cK
 |(.io,_)=>M.fail|(.A',_)=>M.fail
def forM(t:Bool)(c:↑8)(a:M Fl)(b:↑(Kd×U)):↑(Kd×U)->M Fl
 |[]=>do aG b;pure .nx
 |x::d=>do
  aG b
  dC t c x
  let f <-a
  match f with
  |.nx=>forM t c a b d
  |.rt k u=>pure (.rt k u)
def kK(c:M Bool)(a:M Fl):8->M Fl
 |0=>M.fail|n+1=>do
  let b <-c
  if b=4 then do
   let f <-a
   match f with
   |.nx=>kK c a n
   |.rt k u=>pure (.rt k u)
  else pure .nx
def modS(i:8)(f:U->Option U):M Unit:=λst=>match st[i]? with
 |some (bD (k,u))=>if k.root=4 then match f u with
   |some a=>bD (.ok (),st.set i (bD (k,a)))
   |none=>cK
  else cK
 |_=>cK
def Es(u:U):U->Option U
 |.lst a=>if -a<et then bD (.lst (a++[u])) else cK
 |_=>cK
def pf:Kd×U->U->Option U
 |(k,.lst a),.lst b=>if -b+ -a<=et/\kI k a=4 then bD (.lst (b++a)) else cK
 |(k,.tup a),.lst b=>if -b+ -a<=et/\kI k a=4 then bD (.lst (b++a)) else cK
 |_,_=>cK
def gY(x u:U):U->Option U
 |.Mr a b=>match x with
  |.str y=>if -a<et then bD (.Mr (dput a b y u).1 (dput a b y u).2) else cK
  |_=>cK
 |.lst c=>match x with
  |.int i=>(Qn ⇑c i).map λj=>.lst (c.set j u)
  |_=>cK
 |_=>cK
def Bq:↑U->U->Option U|[u,x]=>gY x u|_=>λ_=>cK
def fuel:8:=1000000000000
mutual
noncomputable def Wk:S->8->Bool|.set i _,j=>gi (j≠i)|.la d _,j=>gi (j∉d)|.ite _ a b,j=>Om a j&&Om b j|.MR _ d _ _ c,j=>gi (j∉d)&&Om c j|.RY _ c,j=>Om c j|.put _ _ _,_=>4|.app _ _,_=>4|.ext _ _,_=>4|.bad,_=>4|.newD i,j=>gi (j≠i)|.putD _ _ _,_=>4|.OG _ _ _,_=>4|.aug _ _ _ _,_=>4|.exp _,_=>4|.ret _,_=>4|.P5 _ _,_=>4|.O4 _,_=>4|.mf i,j=>gi (j≠i)|.iO _ _,_=>4|.P6 _,_=>4
noncomputable def Om:↑S->8->Bool|[],_=>4|s::a,j=>Wk s j&&Om a j
end
def tF(b:↑(Kd×U))(c:↑8)(a:↑S):Bool:=b.all λr=>match r.1 with|.bor j=>gi (j∉c)&&Om a j|_=>4
mutual
noncomputable def exec:S->M Fl
 |.set i e=>do let r <-ev Γ e;gk i r;pure .nx
 |.la h e=>do let r <-ev Γ e;dC 4 h r;pure .nx
 |.put i k v=>do
  let r <-ev Γ v
  let _ <-eE i
  let x <-ev Γ k
  let g <-dU [r,x]
  modS i (Bq g)
  pure .nx
 |.app i e=>do
  let x <-eE i
  U9 x.2
  let r <-ev Γ e
  let u <-lift r
  modS i (Es u)
  pure .nx
 |.ext i e=>do
  let x <-eE i
  U9 x.2
  let r <-ev Γ e
  modS i (pf r)
  pure .nx
 |.bad=>M.fail|.newD i=>do F7 i;pure .nx
 |.putD i k v=>do
  let r <-ev Γ v
  let d <-jS i
  let x <-ev Γ k
  let y <-l9 x
  nO i y r
  pure .nx
 |.OG i k v=>do
  let _ <-jS i
  let x <-ev Γ k
  let y <-l9 x
  let d <-jS i
  if y∈d.1 then do
   let r <-ev Γ v
   let u <-lift r
   nP i y u
   pure .nx
  else M.fail
 |.aug sub i k v=>do
  let _ <-tw i
  let y <-ev Γ k
  let j <-y_ y
  let g <-tw i
  let o <-M.MU (tD g j)
  let z <-ev Γ v
  let w <-y_ z
  modS i (gY (.int j) (.int (Bp sub o w)))
  pure .nx
 |.exp e=>do let _ <-ev Γ e;pure .nx
 |.ret e=>do let r <-ev Γ e;retS r
 |.P5 i e=>do
  let d <-tu i
  let g <-bQ 2 4 (pure 4) (ev Γ e) [] (q_ d) []
  retS (.own,.lst g)
 |.ite c a b=>do let p <-MM Γ c;if p=4 then execs a else execs b
 |.MR t h n m f=>do
  let l <-bR Γ m
  aG l
  let q <-M.MU (Ol n l)
  if tF l h f=4 then forM t h (execs f) l q else M.fail
 |.RY c f=>kK (MM Γ c) (execs f) fuel|.O4 _=>M.fail|.mf i=>λst=>bD (.ok .nx,st.set i (bD (.A',.ob (.tup []) [])))|.iO i e=>ev Γ e >>= λr=>lift r >>= λu=>Rj i (λ_ g=>bD (u,g)) >>= λ_=>pure .nx|.P6 i=>Rj i Ep >>= λ_=>pure .nx
noncomputable def execs:↑S->M Fl
 |[]=>pure .nx|s::a=>do
  let f <-exec s
  match f with
  |.nx=>execs a
  |f=>pure f
end
end
structure Fn where
 name:5
 np:8
 ns:8
 body:↑S
def start(a:↑U)(n:8):ay:=a.map (λu=>bD (if MJ u=4 then Kd.loc else Kd.any,u))++rr (n - -a) cK
def bx(Γ:Tab)(a:Fn)(b:↑U):Option (Ex (Kd×U)):=if -b=a.np then match execs Γ a.body (start b a.ns) with|some (.ok (.rt .own u),_)=>bD (.ok (.own,u))|some (.ok (.rt .loc u),_)=>bD (.ok (.loc,u))|some (.ok (.rt .any u),_)=>bD (.ok (.any,u))|some (.ok .nx,_)=>bD (.ok (.loc,.Mx))|some (.ok (.rt .io (.str c)),_)=>bD (.exc c)|_=>cK
 else cK
def Rk:↑8->ay->Option ↑U
 |[],_=>bD []|i::a,st=>match st[i]? with
  |some (bD (.io,u))=>(Rk a st).map (u::·)
  |_=>cK
def T5:Fl->Option (Kd×U)|.rt .own u=>bD (.own,u)|.rt .loc u=>bD (.loc,u)|.nx=>bD (.loc,.Mx)|_=>cK
def Fn.io(b:Fn):Option (↑8 ×↑S):=match b.body with|.O4 c::a=>bD (c,a)|_=>cK
def U_(p:8)(st:ay):Option U:=match st[p]? with|some (bD (.A',.ob u a))=>bD (.ob u a)|_=>cK
def bo(b:↑8)(a:↑U)(n:8):ay:=(a.zipIdx.map λq=>bD (if q.2=0 then Kd.A' else if q.2∈b then Kd.io else if MJ q.1=4 then Kd.loc else Kd.any,q.1))++rr (n - -a) cK
def eF(Γ:Tab)(b:Fn)(c:↑8)(a:↑S)(d:↑U):Option (Ex (Kd×U)):=if -d=b.np/\0<b.np then match execs Γ a (bo c d b.ns) with|some (.ok f,st)=>(T5 f).bind λr=>(U_ 0 st).bind λo=>(Rk c st).map λe=>.ok (r.1,.tup (r.2::o::e))|_=>cK
 else cK
def nQ(Γ:Tab)(b:Fn)(c:↑U):Option (Ex (Kd×U)):=match b.io with|some (d,a)=>eF Γ b d a c|none=>bx Γ b c
def MP(P:↑Fn):8->Tab
 |0=>λ_ _=>cK|d+1=>λf b=>match P.find? λa=>gi (a.name=f) with
  |some a=>nQ (MP P d) a b
  |none=>cK
end TM
namespace TM
open PySem L2
section
variable{X:Cx}{pins:List (mn×Obj)}{σ:St}{H:Hp}{s:nc}{C:Ct}{S:mn->6}
def xq(I:Inv X pins σ H s)(h:M3 X.K H a c):∃b,Vals c b/\s.heap.IsList a b.toArray/\-c<=et:=by let(b,r,p,z):=I.list h;show#[b,r,p.isList,z]
inductive Ni(s:nc):8->U->ki->6 where|Mx {n:Nat}:Ni s n .Mx .none|bl {n:Nat} {b:Bool}:Ni s n (.bl b) (.bool b)|int {n:Nat} {i:Int} {t:Tok}:Ni s n (.int i) (.int i t)|str {n:Nat} {y:Str} {t:Tok}:Ni s n (.str y) (.str y t)|tup {n:Nat} {us:↑U} {F':↑ki} {a:mn}:⇑us=⇑F'->(∀j (hj:j<⇑F'),Ni s n (us.getD j .Mx) F'[j])->cU us us=cb->s.heap.IsTuple a F'.toArray->Ni s (n+1) (.tup us) (.ref a)|lst {n:Nat} {us:↑U} {F':↑ki} {a:mn}:⇑us=⇑F'->(∀j (hj:j<⇑F'),Ni s n (us.getD j .Mx) F'[j])->cU us us=cb->s.heap.IsList a F'.toArray->Ni s (n+1) (.lst us) (.ref a)
def Ni.self(h:Ni s n u x):cj u u=4:=by cases h<;>first|assumption|simp[cj]
theorem Ni.Et(f:∀u v x,Na n u=4->Rep C S H u v->RelV v x->Ni s n u x):∀{a}{b}{c},dB n a=4->av C S H a b->Vals b c->-a=-c/\(∀j d,Ni s n (a.getD j .Mx) c[j])/\cU a a=4
 |[],_,_,_,h,r=>by ext h r;show#[9,λj d=>(nomatch d),9]|u::a,_,_,e,h,r=>by
  let(v,b,rfl,g,m):=h;erw[dB,df]at e;cases r with
  |cons i o =>
   let(l,k,y):=Ni.Et f e.2 m o;show#[by simp[l],λj d=>?_,by rw[cU,(f _ _ _ e.1 g i).self,y];rfl];cases j with
   |zero=>show f _ _ _ e.1 g i
   |succ j=>show k j (by left)
def Ni.of(I:Inv X pins σ H s)(f:C.K=X.K):∀n u v x,Na n u=4->Rep C S H u v->RelV v x->Ni s n u x:=by
 intro n;induction n with
 |zero=>intro u v x e h r;cases u<;>first|(simp[Na]at e;done)|(subst h;first|(constructor)|(let(t,rfl):=r;constructor))
 |succ n g =>
  intro u v x e h r;cases u with
  |tup i=>let(a,j,rfl,b,c):=h;ext r;let(m,d,p,_):=I.tuple (f▸b);let(l,k,y):=Ni.Et g (by assumption) c d;show .tup l k y p
  |lst i=>let(a,j,rfl,b,c):=h;ext r;let(m,d,p,_):=xq I (f▸b.sq);let(l,k,y):=Ni.Et g (by assumption) c d;show .lst l k y p
  |_=>first|(simp[Na]at e;done)|(subst h;first|(constructor)|(let(t,rfl):=r;constructor))
def Ni.inj:∀{n}{u w}{x},Ni s n u x->Ni s n w x->u=w:=by
 intro n;induction n with
 |zero=>intro u w x h i;cases h<;>cases i<;>rfl|succ n G =>
  let go:∀{t v:↑U} {q b:↑_} {a} {o r} {m z},-t=-q->(∀j I,Ni s n (t.getD j .Mx) q[j])->-v=-b->(∀j I,Ni s n (v.getD j .Mx) b[j])->s.heap.get? a\o->o.data=.seq q.toArray m->s.heap.get? a\r->r.data=.seq b.toArray z->t=v:=by
   intro t v q b a o r m z l k g c e d A B;let:q=b:=by left
   subst this;show Sd 7 λj J N=>?_;let:=G (k j (by omega)) (c j (by omega));simpa[J,N] using this
  intro u w x h i;cases h with
  |tup l k y p =>
   cases i with
   |tup g c D f=>let(o,e,_,m,d):=p;let(r,A,_,z,B):=f;rw[go l k g c e d A B]
   |lst g c D f=>show absurd 9 (Κ f p)
  |lst l k y p =>
   cases i with
   |lst g c D f=>let(o,e,_,m,d):=p;let(r,A,_,z,B):=f;rw[go l k g c e d A B]
   |tup g c D f=>show absurd 9 (Κ p f)
  |_=>ext i;rfl
theorem kL:∀{a b},-a≠-b->cU a b=dt|[],[],h=>absurd 9 h|[],_::_,_=>9|_::_,[],_=>9|u::a,w::b,h=>by rw[cU,kL   (λe=>h (by simp[e])),À]
theorem gZ:∀{a b},-a=-b->cU a b=(hW ⇑a).all λj=>cj (a.getD j .Mx) (b.getD j .Mx)
 |[],[],_=>9|[],_::_,h=>by simp at h|_::_,[],h=>by simp at h|u::a,w::b,h=>by
  let c:=by exists h
  rw[cU,gZ c,oD,ĉ,List.all_cons,List.all_map];rfl
def J9{b a:↑ki}(f:-c=-b)(g:-d=-a):cU c d=((hW (min b.toArray.size a.toArray.size)).all (λj=>cj (c.getD j .Mx) (d.getD j .Mx))&&b.toArray.size==a.toArray.size):=by
 erw[qv];by_cases e:-c=-d
 .rw[gZ e,show min _ _=⇑c by lia,show(⇑b==⇑a)=cb by grind,Bool.and_true]
 rw[kL e,show(⇑b==⇑a)=dt by grind,À]
def xr(b:Ni s n u y)(h:ϐ A s y x k)(hs:y=x->k=4):ā A s y x k:=λprog w E Q a=>by
 show ve ?_;show wpAny_ite_split (λc=>?_) (λ_=>?_)
 .rw[hs (Ϧ c)]at a;show b6 (Ul (cL a))
 cases b<;>show b6 (h prog w E _ (Tw a))
def YO(D:∀m,m+1=n->∀{u w}{x r}{A},Ni s m u x->Ni s m w r->A.units+m<R0->ā A s x r (cj u w))(h:Ni s n u x)(q:Ni s n w r)(I:A.units+n<R0):ϐ A s x r (cj u w)/\aaR A s x r (!cj u w):=by
 let a:A.units<R0:=7
 let go:∀{m:8} {i o:↑U} {t d:↑ki},m+1=n->(∀j G,Ni s m (i.getD j .Mx) t[j])->(∀j G,Ni s m (o.getD j .Mx) d[j])->∀j v (z:j<d.toArray.size),ā A.in1 s t.toArray[j] d.toArray[j] (cj (i.getD j .Mx) (o.getD j .Mx)):=λ{m i o t d} e k c j v z=>D m e (k j v) (c j z) (by grind);cases h with
 |Mx =>
  cases q with
  |Mx=>show#[.none_none,.none_none]
  |bl=>show#[.none_bool _,.none_bool _]
  |int=>show#[.none_int _ _,.none_int _ _]
  |str=>show#[.none_str _ _,.none_str _ _]
  |tup f c g b=>show#[.none_tuple b a,.none_tuple b a]
  |lst f c g b=>show#[.none_list b a,.none_list b a]
 |bl =>
  cases q with
  |Mx=>show#[.bool_none _,.bool_none _]
  |bl=>show#[.bool_bool _ _,.bool_bool _ _]
  |int=>show#[.bool_int _ _ _,.bool_int _ _ _]
  |str=>show#[.bool_str _ _ _,.bool_str _ _ _]
  |tup f c g b=>show#[.bool_tuple _ b a,.bool_tuple _ b a]
  |lst f c g b=>show#[.bool_list _ b a,.bool_list _ b a]
 |int =>
  cases q with
  |Mx=>show#[.int_none _ _,.int_none _ _]
  |bl=>show#[.int_bool _ _ _,.int_bool _ _ _]
  |int=>show#[.int_int _ _ _ _,.int_int _ _ _ _]
  |str=>show#[.int_str _ _ _ _,.int_str _ _ _ _]
  |tup f c g b=>show#[.int_tuple _ _ b a,.int_tuple _ _ b a]
  |lst f c g b=>show#[.int_list _ _ b a,.int_list _ _ b a]
 |str =>
  cases q with
  |Mx=>show#[.str_none _ _,.str_none _ _]
  |bl=>show#[.str_bool _ _ _,.str_bool _ _ _]
  |int=>show#[.str_int _ _ _ _,.str_int _ _ _ _]
  |str=>show#[.str_str _ _ _ _,.str_str _ _ _ _]
  |tup f c g b=>show#[.str_tuple _ _ b a,.str_tuple _ _ b a]
  |lst f c g b=>show#[.str_list _ _ b a,.str_list _ _ b a]
 |tup l k y p =>
  cases q with
  |Mx=>show#[.tuple_none p a,.tuple_none p a]
  |bl=>show#[.tuple_bool _ p a,.tuple_bool _ p a]
  |int=>show#[.tuple_int _ _ p a,.tuple_int _ _ p a]
  |str=>show#[.tuple_str _ _ p a,.tuple_str _ _ p a]
  |tup f c g b=>rw[show cj (.tup _) (.tup _)=_ from J9 l f];show#[.tuples p b a (go 9 k c),.tuples p b a (go 9 k c)]
  |lst f c g b=>show#[.tuple_list p b a,.tuple_list p b a]
 |lst l k y p =>
  cases q with
  |Mx=>show#[.list_none p a,.list_none p a]
  |bl=>show#[.list_bool _ p a,.list_bool _ p a]
  |int=>show#[.list_int _ _ p a,.list_int _ _ p a]
  |str=>show#[.list_str _ _ p a,.list_str _ _ p a]
  |tup f c g b=>show#[.list_tuple p b a,.list_tuple p b a]
  |lst f c g b =>
   rename_i i _ _ o _ _;by_cases B:-i=-o
   .rw[show cj (.lst i) (.lst o)=_ from gZ B,l,<-qv];show#[.lists p b (by simp;omega) a (go 9 k c),.lists p b (by simp;omega) a (go 9 k c)]
   rw[show cj (.lst i) (.lst o)=dt from kL B];show#[.lists_lengths p b (by simp;omega) a,.lists_lengths p b (by simp;omega) a]
def J_:∀{n}{u w}{x b}{A},Ni s n u x->Ni s n w b->A.units+n<R0->ā A s x b (cj u w):=by intro n;induction n with|zero=>intro u w x b A h a c;show xr h (YO (λm e=>by ext e) h a c).1 λe=>by subst e;rw[h.inj a];show a.self|succ n d=>intro u w x b A h a c;show xr h (YO (λm e=>by ext e;show d) h a c).1 λe=>by subst e;rw[h.inj a];show a.self
def HG(h:Ni s n u x)(b:Ni s n w a)(c:A.units+n<R0):ϐ A s x a (cj u w)/\aaR A s x a (!cj u w):=YO (λm e=>by show J_) h b c
end
end TM
namespace TM
open PySem L2 PyProof.Rows
inductive MD(C:Ct)(m:M (Kd×U))(σ:L2.St)(H:Hp)(Q:VK):6|mk:∀c0:Cf,c0.σ=σ->c0.H=H->Ok C c0->(W m c0.st λr st'=>∀c v,c.σ=σ->c.st=st'->Ok C c->Nx c0 c->aK C c0 c r.1 r.2 v->Q v c.H)->MD C m σ H Q
inductive NI(C:Ct)(m:M Bool)(σ:L2.St)(H:Hp)(Q:Bool->Hp->6):6|mk:∀c0:Cf,c0.σ=σ->c0.H=H->Ok C c0->(W m c0.st λb st'=>∀c,c.σ=σ->c.st=st'->Ok C c->Nx c0 c->Q b c.H)->NI C m σ H Q
def c_(C:Ct)(b c:Cf):↑(Kd×U)->↑V->6|[],a=>a=[]|r::d,a=>∃v t,a=v::t/\gU C b c r.1 r.2 v/\c_ C b c d t/\(r.1=.own->∀(i:8) e f,d[i]?\e->t[i]?\f->e.1=.own->f≠v)
inductive NJ(C:Ct)(m:M (↑(Kd×U)))(σ:L2.St)(H:Hp)(Q:↑V->Hp->6):6|mk:∀c0:Cf,c0.σ=σ->c0.H=H->Ok C c0->(W m c0.st λrs st'=>∀c vs,c.σ=σ->c.st=st'->Ok C c->Nx c0 c->c_ C c0 c rs vs->Q vs c.H)->NJ C m σ H Q
def PE.weak(h:PE X e t)(i:∀σ H Q,b σ H Q->t σ H Q):PE X e b:=λa s σ H Q I q=>h a s σ H Q I (i σ H Q q)
def PT.weak(h:PT X e t)(i:∀σ H Q,b σ H Q->t σ H Q):PT X e b:=λa s σ H Q I q=>h a s σ H Q I (i σ H Q q)
def cD{st}:W (aG b) st Q↔ba b st/\Q () st:=by
 constructor
 .rintro⟨a,c,e,h⟩;unfold aG at e
  grind
 rintro⟨f,d⟩;show#[(),st,by unfold aG;left,d]
def fN{st}:ba (r::a) st↔ba [r] st/\ba a st:=by let(k,u):=r;cases k<;>simp[ba]
def gU.t(h:gU C a c k u v)(s:ba [(k,u)] c.st):aK C a c k u v:=by cases k with|bor j=>show#[s.1,h]|_=>show h
structure U'(C:Ct)(c0 c:Cf)(x y:Kd×U)(vx vy:V):6 where
 hσ:c.σ=c0.σ
 ok:Ok C c
 nx:Nx c0 c
 rx:aK C c0 c x.1 x.2 vx
 ry:aK C c0 c y.1 y.2 vy
 ne:x.1=.own->y.1=.own->vy≠vx
def ra(h:gU C m b k u v)(d:gU C b c f n g):k=.own->f=.own->g≠v:=by rintro rfl rfl e;let(r,i,_,_,_,j):=h;let(p,l,a,_):=d;let(o,ho,_):=j.some;subst i;rw[l]at e;ext e;rw[ho]at a;ext a
def two{k:Kd×U->Kd×U->M β}{o}{f:ki->ki->Sem α}{G:ki->ki->α->nc->6}(ha:PE X a (MD C ma))(hb:PE X b (MD C J))(I:Inv X d g.σ g.H s)(ok:Ok C g) (h:W (ma >>= λx=>J >>= λy=>aG [x,y] >>= λ_=>k x y) g.st o) (hf:∀x y c i j v u p,U' C g c x y i j->Inv X d c.σ c.H p->RelV i v->RelV j u->W (k x y) c.st o->‹X› (f v u) (G v u) X.xe p) :
  ‹X› (Oj a X.env) (λv s₁=>‹X› (Oj b X.env) (λu s₂=>‹X› (f v u) (G v u) X.xe s₂) X.xe s₁) X.xe s:=by
 rw[ai]at h;show My (ha d s _ g.H (λi N=>∃x e,e.H=N/\e.σ=g.σ/\Ok C e/\Nx g e/\aK C g e x.1 x.2 i/\W (J >>= λy=>aG [x,y] >>= λ_=>k x y) e.st o) I ⟨g,9,9,ok,h.mono λx ab D e i q e2 r z B=>#[x,e,9,q,r,z,B,by left]⟩) ?_;rintro v s1 ⟨i,N,I1,rv,x,e,rfl,q,r,z,B,D⟩;rw[ai]at D;show My (hb d s1 _ e.H (λj Q=>∃y l,l.H=Q/\U' C g l x y i j/\W (k x y) l.st o) I1 ⟨e,q,9,r,D.mono λy ac m l j T e4 MS Y r2=>?_⟩) ?_
 .rw[ai,cD]at m;subst e4;rw[fN]at m;show#[y,l,9,#[T,MS,z.trans Y,(B.w.on r Y (T.trans q.symm)).t m.1.1,(r2.from z),ra B.w r2.w],m.2]
 rintro u p ⟨j,Q,I2,ru,y,l,rfl,n,m⟩;let hs:=n.hσ;show hf x y l i j v u p n (by left) rv ru m
structure Rm(C:Ct)(c0 c:Cf)(x:Kd×U)(vx:V):6 where
 hσ:c.σ=c0.σ
 ok:Ok C c
 nx:Nx c0 c
 rx:aK C c0 c x.1 x.2 vx
def one{k:Kd×U->M β}{j}{f:ki->Sem α}{l}(p:PE X a (MD C q))(I:Inv X b d.σ d.H s)(ok:Ok C d) (h:W (q >>= λx=>k x) d.st j) (r:∀x c e v m,Rm C d c x e->Inv X b c.σ c.H m->RelV e v->W (k x) c.st j->‹X› (f v) l X.xe m) :
  ‹X› (Oj a X.env) (λv t=>‹X› (f v) l X.xe t) X.xe s:=by
 rw[ai]at h;show My (p b s _ d.H (λe n=>∃x g,g.H=n/\Rm C d g x e/\W (k x) g.st j) I ⟨d,9,9,ok,h.mono λx u o g e y Q z B D=>#[x,g,9,#[y,z,B,D],by left]⟩) ?_;rintro v G ⟨e,n,J,N,x,g,rfl,i,o⟩;show r x g e v G i (by rw[i.hσ];show J) N o
def cM(C:Ct)(a:Cf)(Q:VK)(r:Kd×U)(b:ay):6:=∀c v,c.σ=a.σ->c.st=b->Ok C c->Nx a c->aK C a c r.1 r.2 v->Q v c.H
def cM.flat(h:cM C a Q (.loc,u) c.st)(b:c.σ=a.σ)(ok:Ok C c)(n:Nx a c)(r:Rep C c.S c.H u v):Q v c.H:=h c v b 9 ok n r
def cM.list(h:cM C a Q (.own,.lst b) c.st)(d:c.σ=a.σ)(ok:Ok C c)(n:Nx a c)(r:av C c.S c.H b e)(p)(f:c.H p=cK):Q (.ref p) (upd c.H p (.lst e)):=by let(g,i,j):=ok.newList n f r;show h {c with H:=upd c.H p _} _ d 9 g i j
def cM.tup(h:cM C a Q (.loc,.tup b) c.st)(d:c.σ=a.σ)(ok:Ok C c)(n:Nx a c)(r:av C c.S c.H b e)(p)(f:c.H p=cK):Q (.ref p) (upd c.H p (.tup e)):=by let(g,i,j):=ok.Hx n f r;show h {c with H:=upd c.H p _} _ d 9 g i j
def cM.tupK(h:cM C b Q (kE k,.tup e) c.st)(f:c.σ=b.σ)(ok:Ok C c)(n:Nx b c)(r:av C (SK C c k) c.H e d)(p)(g:c.H p=cK):Q (.ref p) (upd c.H p (.tup d)):=by let(i,a):=ok.lay  g;show h {c with H:=upd c.H p _} _ f 9 i (n.trans a) (aK.item ?_);cases k<;>show#[p,d,9,MV.of ak,by first|show r.mv (ok.QQ a)|show r.mv (ok.mv a)]
def fO(h:kI k a=4)(r:av C (SK C c k) c.H a b):av C c.S c.H a b:=by cases k with|any=>show r.MJ (by assumption)|_=>show r
def Br(k b):∀a,SK C c k a->SK C c (kT k b) a:=by intro a h;cases k<;>cases b<;>first|show h|show .inr h
def xu(k b):∀a,SK C c b a->SK C c (kT k b) a:=by intro a h;cases k<;>cases b<;>first|show h|show .inr h
def F8(k a):kE (kT k a)=kT k a:=by cases k<;>cases a<;>rfl
def Eu:Oq X (Yz .Add) (λx y H Q=>∃l b c zs,x=.ref l/\y=.ref b/\M3 X.K H l c/\M3 X.K H b zs/\-c+ -zs<=et/\∀p,H p=cK->Q (.ref p) (upd H p (.lst (c++zs)))):=by
 intro e s σ H x y v u Q I w A h;let(l,b,c,zs,rfl,rfl,B,C,hz,q):=h;ext w A;let(f,r,D,z):=I.list B;let(g,i,d,z2):=I.list C;let hl:=-r;let Pn:=-i;let((G,dd,j,J),ho,k,n,m):=D.isList;let((Uu,N,data2,T),o,t,Y,a):=d.isList;simp only at k m t a;subst k m t a;show ş #[_,ho,9] #[_,o,9] noFill_list_add seq_list_add F.slot_list_add F.entry_list_add (F.args_list_add_2 _ _)
   (list_addW l b _ _ n Y dd N J T (by left)) #[ho,o,?_]
 let ea:f.toArray++g.toArray=(f++g).toArray:=by simp
 rw[ea];show#[.ref _,_,I.LV  (r.append i) (by rw[ro];omega),9,q _ I.fresh]
section
variable{X:Cx}{C:Ct}{pins:List (mn×Obj)}{s:nc}{c0 c:Cf}{Q:VK}
def Bs:Oq X (Yz .Add) (λx y H Q=>∃a b e,x=.ref a/\y=.ref b/\MV X.K H a []/\MV X.K H b e/\Q (.ref b) H):=by
 intro pins s σ H x y v u Q I l m h;let(a,b,e,rfl,rfl,o,p,q):=h;ext l m;let(J,r,t,_):=I.tuple o;let(N,T,w,_):=I.tuple p;ext r;let((z,dd,f,A),ho,g,n,i):=id t;let((Y,B,data2,D),j,k,G,d):=id w;simp only at g i k d;subst g i k d;show ş #[_,ho,9] #[_,j,9] ŭ ό F.slot_tuple_add F.entry_tuple_add (F.args_tuple_add_2 _ _)
   (tuple_addW0 a b _ _ n G dd B A D (by rfl)) #[ho,j,.ref b,H,I,9,q]
def Wh.op:Wh->aas|.add=>.Add|.sub=>.Sub|.mul=>.Mult|.Pf=>.FloorDiv|.mod=>.Mod|.pow=>.Pow
def fP(h:vB f a b\r):∃i j o,a=.int i/\b=.int j/\f i j\o/\r=(.loc,.int o):=by
 unfold vB at h;split at h
 .rw[i7]at h;let(o,e,rfl):=h;show#[_,_,o,9,9,e,9]
 ext h
def HH(hK:C.K=X.K)(t:U' C c0 c x y g l)(I:Inv X pins c.σ c.H s)(z:RelV g v)(B:RelV l u)(h:O5 op x y\r)(q:cM C c0 Q r c.st):
  ‹X› (Yz op.op v u) (EP X pins c.σ Q) X.xe s:=by
 let(m,ok,n,D,G,_):=t;cases op with
 |add =>
  let h:Bg x y\r:=h;unfold Bg at h;split at h
  .let d:=D.int ok;let e:=G.int ok;ext h;show dY pins s c.σ c.H g l v u Q I z B #[_,_,d,e,q.flat m ok n 9]
  .let d:=D.str ok;let e:=G.str ok;split at h
   .cases h;show uR pins s c.σ c.H g l v u Q I z B #[_,_,d,e,by assumption,q.flat m ok n 9]
   ext h
  .let(a,J,d,h1,N):=D.list ok;let(b,T,e,h3,Y):=G.list ok;split at h
   .rename_i hh;ext h;show Eu pins s c.σ c.H g l v u Q I z B #[a,b,J,T,d,e,hK▸h1,hK▸h3,by rw[<-N.len,<-Y.len];show hh.1,λp hp=>q.list m ok n ((fO hh.2.1 N).append (fO hh.2.2 Y)) p hp]
   ext h
  .rename_i k xs k' ys _ _;let(a,J,d,h1,N):=D.tuple ok;let(b,T,e,h3,Y):=G.tuple ok;let P7:=h1;let TB:=h3;rw[hK]at P7 TB;split at h
   .rename_i hh;ext h;let m1:=N.mv (.up (Br k k'));let m2:=Y.mv (.up (xu k k'));let q':cM C c0 Q (kE (kT k k'),.tup (xs++ys)) c.st:=by rw[F8];show q
    by_cases e1:J=[]
    .subst e1;show Bs pins s c.σ c.H g l v u Q I z B #[a,b,T,d,e,P7,TB,?_];show q' c (.ref b) m 9 ok n (aK.item #[b,T,9,h3,?_]);let:xs=[]:=by let:=m1.len;exists this
     rw[this];show m2
    show DN pins s c.σ c.H g l v u Q I z B #[a,b,J,T,d,e,P7,TB,e1,by rw[<-N.len,<-Y.len];show hh,λe2=>?_,λ_ p hp=>q'.tupK m ok n (m1.append m2) p hp];subst e2;show q' c (.ref a) m 9 ok n (aK.item #[a,J,9,h1,?_]);let:ys=[]:=by let:=m2.len;exists this
    left
   ext h
  ext h
 |sub=>let(i,j,o,d,e,f,rfl):=fP h;let d:=(d▸D).int ok;let e:=(e▸G).int ok;ext f;show mQ pins s c.σ c.H g l v u Q I z B #[_,_,d,e,q.flat m ok n 9]|mul =>
  let(i,j,o,d,e,f,rfl):=fP h;let d:=(d▸D).int ok;let e:=(e▸G).int ok;unfold Ej at f;split at f
  .cases f;show qq pins s c.σ c.H g l v u Q I z B #[_,_,d,e,by assumption,q.flat m ok n 9]
  ext f
 |Pf =>
  let(i,j,o,d,e,f,rfl):=fP h;let d:=(d▸D).int ok;let e:=(e▸G).int ok;unfold Ek at f;split at f
  .cases f;show DE pins s c.σ c.H g l v u Q I z B #[_,_,d,e,by assumption,q.flat m ok n 9]
  ext f
 |mod =>
  let(i,j,o,d,e,f,rfl):=fP h;let d:=(d▸D).int ok;let e:=(e▸G).int ok;unfold El at f;split at f
  .cases f;show bY pins s c.σ c.H g l v u Q I z B #[_,_,d,e,by assumption,q.flat m ok n 9]
  ext f
 |pow =>
  let(i,j,o,d,e,f,rfl):=fP h;let d:=(d▸D).int ok;let e:=(e▸G).int ok;unfold Em at f;split at f
  .cases f;show qr pins s c.σ c.H g l v u Q I z B #[_,_,d,e,by assumption,q.flat m ok n 9]
  ext f
def Ew(d:C.K=X.K)(f:PE X a (MD C g))(i:PE X b (MD C j)):PE X (.BinOp a k.op b l) (MD C (g >>= λx=>j >>= λy=>aG [x,y] >>= λ_=>M.MU (O5 k x y))):=by rintro pins s σ H Q I ⟨c0,rfl,rfl,ok,h⟩;show wpAny_BinOp (two f i I ok h λx y c p A v u B t m n o w=>?_);let(r,e,q):=cw.mp w;show My (HH d t m n o e q) λ_ _ z=>by rw[t.hσ]at z;show z
def Wi.op:Wi->CmpOp|.eq=>.Eq|.ne=>.NotEq|.lt=>.Lt|.gt=>.Gt|.ge=>.GtE|.isin=>.In|.Mw=>.NotIn|.SR=>.IsNot
def Ka{f:Bool}(I:Inv X pins c.σ c.H s)(n:C.K=X.K)(hu:X.A.units+60<R0){S}(u:Rep C S c.H x t)(z:RelV t v)(B:av C S c.H o r) (ha:M3 C.K c.H a r\/MV C.K c.H a r) (D:Na 50 x=4) (G:dB 50 o=4) {Q} (q:Q (.bool (if f then !(o.any λy=>cj y x) else o.any λy=>cj y x)) s) :
  ‹X› (XM (if f then .NotIn else .In) v (.ref a)) Q X.xe s:=by
 let J:=Ni.of I n 50 x t v D u z;let go:∀d ,Vals r d->∃e,(∀y,y∈d.toArray->ā X.A.in1 s y v (e y))/\d.toArray.any e=o.any λy=>cj y x:=by
  intro d m;let(l,k,_):=Ni.Et (Ni.of I n 50) G B m
  classical
  let q:∀j (b:j< -d),gi (∃w,Ni s 50 w d[j]/\cj w x=4)=cj _ x:=λj b=>by rw[UE,decide_eq_true_iff];show#[λ⟨w,g,i⟩=>by rw[<-g.inj (k j b)];show i,λh=>#[_,k j b,h]]
  show#[λy=>gi (∃w,Ni s 50 w y/\cj w x=4),λy OS=>?_,?_]
  .let(j,b,e):=ä (show y∈d by left);subst e;change ā _ _ _ _ (decide _);rw[q j b];show J_ (k j b) J (by grind)
  rw[UE];erw[List.any_toArray,ÿ];constructor
  .rintro⟨y,N,h⟩;let(j,b,rfl):=ä N;rw[q j b]at h;show#[_,U2 (l▸b),by simpa[l▸b] using h]
  rintro⟨w,T,Y⟩;let(j,b,rfl):=ä T;show#[_,U2 (l▸b),by rw[q j (l▸b)];simpa[b] using Y]
 obtain ha|ha:=ha
 .let(d,m,p,_):=xq I (n▸ha);let(e,g,i):=go d m;cases f with|false=>show SeqAt.in_listAt e p g (by rw[i];show q)|true=>show SeqAt.notIn_listAt e p g (by rw[i];show q)
 rw[n]at ha;let(d,m,p,_):=I.tuple ha;let(e,g,i):=go d m;cases f with|false=>show SeqAt.in_tupleAt e p g (by rw[i];show q)|true=>show SeqAt.notIn_tupleAt e p g (by rw[i];show q)
end
theorem cp:∀{b}{a},strsOf b\a->b=a.map .str|[],a,h=>by ext h;rfl|.str x::b,a,h=>by erw[strsOf,i7]at h;let(t,c,rfl):=h;rw[cp c];rfl|.Mx::_,_,h=>by ext h|.bl _::_,_,h=>by ext h|.int _::_,_,h=>by ext h|.tup _::_,_,h=>by ext h|.lst _::_,_,h=>by ext h|.Mr _ _::_,_,h=>by ext h
@[simp] theorem vE:∀a:↑5,strsOf (a.map .str)\a|[]=>9|x::a=>by simp[strsOf,vE a]
theorem lH:∀{b}{a},intsOf b\a->b=a.map .int
 |[],a,h=>by ext h;rfl|u::b,a,h=>by
  cases u<;>first|(cases h)|skip
  let c:(intsOf b).map _\a:=h;rw[i7]at c;let(ms,e,rfl):=c;rw[lH e];rfl
theorem av.ints{S}:∀{b:↑Int}{a},av C S H (b.map .int) a->a=b.map V.int|[],a,h=>h|n::b,a,h=>by let(v,r,rfl,c,d):=h;rw[av.ints d];let:=c;rw[this];rfl
theorem nU:∀{b}{a},nM b\a->b=a.map .bl|[],a,h=>by ext h;rfl|.bl x::b,a,h=>by erw[nM,i7]at h;let(t,c,rfl):=h;rw[nU c];rfl|.Mx::_,_,h=>by ext h|.str _::_,_,h=>by ext h|.int _::_,_,h=>by ext h|.tup _::_,_,h=>by ext h|.lst _::_,_,h=>by ext h|.Mr _ _::_,_,h=>by ext h
theorem av.bls{S}:∀{b:↑Bool}{a},av C S H (b.map .bl) a->a=b.map V.bl|[],a,h=>h|x::b,a,h=>by let(v,r,rfl,c,d):=h;rw[av.bls d];let:=c;rw[this];rfl
def Kb(r:qO):U:=.tup [.str r.1,.tup (r.2.map .str)]
def vF(h:rowOf u\r):u=Kb r:=by
 unfold rowOf at h;split at h
 .rw[i7]at h;let(b,a,rfl):=h;rw[cp a];rfl
 ext h
def HI(X:Cx)(a:↑(mn×Obj))(c:Cf)(b:Bool)(v:ki)(d:nc):6:=v=.bool b/\Inv X a c.σ c.H d
def iz(o:Oq X f r)(I:Inv X a c.σ c.H s)(i:RelV d v)(j:RelV e u)(h:r d e c.H λx g=>x=.bl b/\g=c.H):
  ‹X› (f v u) (HI X a c b) X.xe s :=
 My (o a s c.σ c.H d e v u _ I i j h) λw p k=>by let(z,g,l,r,m,n):=k;subst m n;show#[r,l]
inductive RtD(C:Ct)(c:Cf)(k:Kd)(ks:↑5)(us:↑U)(v:V):6|mk:∀a kvs,v=.ref a->c.H a\.dK kvs->kvs.map (·.1)=ks.map vl->av C (SK C c k) c.H us (kvs.map (·.2))->RtD C c k ks us v
def aK.dict(ok:Ok C c)(h:aK C m c k (.Mr i l) v):RtD C c k i l v:=by cases k with|own=>let(r,e,_,_,_,b,d,f,g):=h;show#[r,b,e,d,f,g]|bor j=>let(r,e,_,_,_,b,d,f,g):=ok.rootOf h.1 h.2;show#[r,b,e,d,f,g]|io=>show h.elim|A'=>show h.elim|_=>let(a,e,_,b,d,f,g):=h;show#[a,b,e,d,f,g]
theorem eQ{S}:∀{c}{d}{a:↑(Key×V)},a.map (·.1)=c.map vl->av C S H d (a.map (·.2)) -> (∀u,eD c d x\u->∃v,eU a (vl x)\v/\Rep C S H u v)/\(eU a (vl x)).isSome=gi (x∈c)
 |[],d,a,b,f=>by
  let:=by exists b
  subst this;show#[λu h=>by cases d<;>simp[eD]at h,by rfl]
 |k::c,d,[],b,f=>by simp at b|k::c,[],p::a,b,f=>by simp[av]at f|k::c,n::d,p::a,b,f=>by
  let(v,r,e,i,j):=f;ext e;rw[k9,k9,Ï]at b;let(l,m):=eQ  b.2 j;by_cases hk:k=x
  .subst hk;show#[λu h=>?_,?_]
   .simp[eD]at h;subst h;show#[p.2,fH b.1,i]
   rw[fH b.1];simp
  let g:¬p.1=vl x:=by left
  show#[λu h=>?_,?_]
  .simp[eD,hk]at h;let(v,e,q):=l u h;show#[v,by rw[fI g];show e,q]
  rw[fI g,m];simp[uk hk]
def Rep.row{S}(h:Rep C S H (Kb r) v):wV C.K H v r:=by let(a,o,e,d,p,q,f,g,s,t,i,j,k):=h;ext k;let l:=g;let(b,u,m,n,c):=j;rw[av.strs]at c;subst f i l m c;show#[a,b,e,d,n]
def Rep.xp{S:mn->6}(h:Rep C S H u v):gi (v=.Mx)=xp u:=by cases u with|Mx=>let:v=.Mx:=h;subst this;rfl|bl b=>let:v=.bl b:=h;subst this;rfl|int b=>let:v=.int b:=h;subst this;rfl|str b=>let:v=.str b:=h;subst this;rfl|Mr c d=>let(a,rfl,_):=h;rfl|ob _ _=>show Vf h|_=>let(a,e,rfl,_):=h;rfl
def Bt(hP:C.P=X.prog)(hw:C.w=X.w)(p:C.K=X.K)(Q:X.A.units+60<R0)(t:U' C c0 c x y G T)(I:Inv X l c.σ c.H s)(f:RelV G v)(g:RelV T u)(h:cm op x.2 y.2\b):
  ‹X› (XM op.op v u) (HI X l c b) X.xe s:=by
 let(hσ,ok,n,m,j,_):=t;let(kx,ux):=x;let(ky,uy):=y
 dsimp only at h m j
 let has:∀d:Bool,∀q,En ux uy\q->‹X› (XM (if d then .NotIn else .In) v u) (HI X l c (if d then !q else q)) X.xe s:=by
  intro d q h;let B:=m.read ok;let J:=j.read ok;unfold En at h;split at h
  .let(a,vs,rfl,o,r):=J;ext g;unfold SU at h;split at h
   .rename_i i;ext h;show Ka I p Q B f r (.inl o.sq) i.1 i.2 #[by cases d<;>rfl,I]
   ext h
  .let(a,vs,rfl,o,r):=J;ext g;unfold SU at h;split at h
   .rename_i i;ext h;show Ka I p Q B f r (.inr o) i.1 i.2 #[by cases d<;>rfl,I]
   ext h
  .cases h;let D:G=_:=B;let Y:T=_:=J;cases d with|false=>show iz yA I f g #[_,_,D,Y,9,9]|true=>show iz qB I f g #[_,_,D,Y,9,9]
  .cases h;let D:G=_:=B;let(a,ab,rfl,o,r,h3):=j.dict ok;ext g;subst D;let hs:=λz:5=>(eQ (x:=z) r h3).2;cases d with|false=>show JX (by omega) I (gQ.k (k:=vl _) o) f λs' N=>#[by rw[hs];rfl,N]|true=>show wN (by omega) I (gQ.k (k:=vl _) o) f λs' N=>#[by rw[hs];rfl,N]
  ext h
 unfold cm at h;split at h
 .split at h
  .rename_i i;ext h;show(HG (n:=50) (.of I p _ _ _ _ i.1 (m.read ok) f) (.of I p _ _ _ _ i.2 (j.read ok) g) (by omega)).1 _ _ _ _ #[9,I]
  ext h
 .split at h
  .rename_i i;ext h;show(HG (n:=50) (.of I p _ _ _ _ i.1 (m.read ok) f) (.of I p _ _ _ _ i.2 (j.read ok) g) (by omega)).2 _ _ _ _ #[9,I]
  ext h
 .cases h;show iz JG I f g #[_,_,m.int ok,j.int ok,9,9]
 .cases h;show iz JH I f g #[_,_,m.int ok,j.int ok,9,9]
 .cases h;show iz JI I f g #[_,_,m.int ok,j.int ok,9,9]
 .show has dt b h
 .rw[i7]at h;let(q,o,rfl):=h;show has 4 q o
 .cases h;let e:=j.Mx ok;show iz DF I f g #[e,by rw[(m.read ok).xp],9]
 ext h
def Ey(g:C.P=X.prog)(i:C.w=X.w)(j:C.K=X.K)(k:X.A.units+60<R0)(l:PE X a (MD C m))(n:PE X b (MD C o))(p:ç d.op b=dt):PE X (.Compare a [d.op] [b] B) (MD C (m >>= λx=>o >>= λy=>aG [x,y] >>= λ_=>M.MU (cm d x.2 y.2) >>= λc=>pure (.loc,.bl c))):=by rintro f s σ H Q I ⟨Y,rfl,rfl,ok,h⟩;show wpAny_Compare1 (two l n I ok h λx y c vx vy v u s2 t D G J w=>?_) p;rw[ai]at w;let(r,e,q):=cw.mp w;rw[au]at q;show My (Bt g i j k t D G J e) λz s' N=>?_;let(e,T):=N;subst e;show#[.bl r,c.H,by rw[<-t.hσ];show T,9,q c _ t.hσ 9 t.ok t.nx 9]
def Ez(g:C.P=X.prog)(i:C.w=X.w)(j:C.K=X.K)(k:X.A.units+60<R0)(l:PE X a (MD C m))(n:PE X b (MD C o))(p:ç d.op b=dt):PT X (.Compare a [d.op] [b] B) (NI C (m >>= λx=>o >>= λy=>aG [x,y] >>= λ_=>M.MU (cm d x.2 y.2))):=by rintro f s σ H Q I ⟨Y,rfl,rfl,ok,h⟩;show ī (two   l n I ok h λx y c vx vy v u s2 t D G J w=>?_) p;let(r,e,q):=cw.mp w;show My (Bt g i j k t D G J e) λz s' N=>?_;let(e,T):=N;subst e;show Tw #[c.H,by rw[<-t.hσ];show T,q c t.hσ 9 t.ok t.nx]
def Kc(C:Ct)(d:Cf)(Q:Bool->Hp->6)(b:Bool)(a:ay):6:=∀c,c.σ=d.σ->c.st=a->Ok C c->Nx d c->Q b c.H
def HJ(c:a.σ=b.σ)(ok:Ok C a)(n:Nx b a)(h:W m a.st (cM C b Q)):MD C m b.σ a.H Q :=#[a,c,9,ok,h.mono λr st d e v f g i j k=>d e v f g i (n.trans j) (k.from n)]
def Bu(c:a.σ=b.σ)(ok:Ok C a)(n:Nx b a)(h:W m a.st (Kc C b Q)):NI C m b.σ a.H Q :=#[a,c,9,ok,h.mono λr st d e f g i j=>d e f g i (n.trans j)]
def aW(ok:Ok C a)(h:W (b >>= k) a.st d) (e:∀x c v,Rm C a c x v->W (k x) c.st d->Z v c.H):MD C b a.σ a.H Z:=by rw[ai]at h;show#[a,9,9,ok,h.mono λx f o g i j p l m n=>e x g i #[j,l,m,n] (by left)]
def g9(ok:Ok C a)(h:W (d >>= k) a.st e) (f:∀b c,c.σ=a.σ->Ok C c->Nx a c->W (k b) c.st e->Z b c.H):NI C d a.σ a.H Z:=by rw[ai]at h;show#[a,9,9,ok,h.mono λx g n i j o l m=>f x i j l m (by left)]
def Ke(m:M (Kd×U))(x:Kd×U):M (Kd×U):=match x.2 with|.bl cb=>m|.bl dt=>pure (.loc,.bl dt)|_=>M.fail
def Kf(x:Kd×U):M (Kd×U):=match x.2 with|.bl c=>pure (.loc,.bl !c)|_=>M.fail
def snd_and(j:PE X a (MD C l))(m:PE X (.BoolOp .And (b::d) g) (MD C o)):PE X (.BoolOp .And (a::b::d) g) (MD C (l >>= Ke o)):=by
 show PE.weak (GO j m) ?_;rintro σ H Q ⟨p,rfl,rfl,ok,h⟩;show aW ok h λx c v t w=>?_;let(k,u):=x;let(i,f,n,r):=t;unfold Ke at w;split at w
 .rename_i e;subst e;show#[4,r.bl f,by show HJ i f n w]
 .rename_i e;subst e;rw[au]at w;show#[_,r.bl f,by show w c _ i 9 f n 9]
 show(bE.mp w).elim
def EA(d:PE X a (MD C f)):PE X (.UnaryOp .Not a g) (MD C (f >>= Kf)):=by
 show PE.weak (GP d) ?_;rintro σ H Q ⟨j,rfl,rfl,ok,h⟩;show aW ok h λx c v t w=>?_;let(k,u):=x;let(i,b,n,r):=t;unfold Kf at w;split at w
 .rename_i e;subst e;rw[au]at w;show#[_,r.bl b,w c _ i 9 b n 9]
 show(bE.mp w).elim
def EB(d:PT X a (NI C e)):PT X (.UnaryOp .Not a f) (NI C (e >>= λb=>pure !b)):=by show PT.weak (GL d) ?_;rintro σ H Q ⟨j,rfl,rfl,ok,h⟩;show g9 ok h λp c g i n w=>?_;rw[au]at w;show w c g 9 i n
def EC(j:PT X a (NI C k))(l:PW X (.BoolOp .And (b::d) f) (NI C tb)):PW X (.BoolOp .And (a::b::d) f) (NI C (k >>= λp=>if p=4 then tb else pure dt)):=by let m:=GK j l;rintro o e s σ H Q I ⟨q,rfl,rfl,ok,h⟩;show m o e s _ q.H Q I (g9 ok h λp c g i n w=>?_);cases p with|true=>show Bu g i n w|false=>rw[if_neg RR]at w ⊢;rw[au]at w;show w c g 9 i n
def HK(j:PT X a (NI C k))(l:PW X (.BoolOp .Or (b::d) f) (NI C tb)):PW X (.BoolOp .Or (a::b::d) f) (NI C (k >>= λp=>if p=4 then pure 4 else tb)):=by let m:=Ju j l;rintro o e s σ H Q I ⟨q,rfl,rfl,ok,h⟩;show m o e s _ q.H Q I (g9 ok h λp c g i n w=>?_);cases p with|true=>rw[if_pos rfl]at w ⊢;rw[au]at w;show w c g 9 i n|false=>show Bu g i n w
def xv{a:↑α}{b:↑β}(h:-a=-b):(!a.isEmpty)=!b.isEmpty:=by grind
def jU(l:PE X a (MD C m))(j:C.K=X.K)(o:∀b,isTrue a X.env b=(do let v <-b;ğ a.pos;Vx [v] (truthy v))):PT X a (NI C (m >>= λx=>M.MU (vD x.2))):=by
 show PT.weak (Ah l o) ?_;rintro σ H Q ⟨y,rfl,rfl,ok,h⟩;show aW ok h λx c v t w=>?_;let(k,u):=x;let(s,d,n,r):=t;let(p,e,q):=cw.mp w
 dsimp only at e r
 show#[p,?_,q c s 9 d n];unfold vD at e;split at e
 .cases e;rw[r.bl d];rfl
 .cases e;let(a,g,rfl,f,i):=r.list d;show .inl #[g,j▸f,xv i.len]
 .cases e;let(a,g,rfl,f,i):=r.tuple d;rw[j]at f;show .inr (.inl #[g,f,xv i.len])
 .split at e
  .cases e;rw[r.str d];show#[by omega,9]
  ext e
 ext e
def c_.from(n:Nx d f):c_ C f c a b->c_ C d c a b:=by intro h;induction a generalizing b with|nil=>show h|cons r a g=>let(v,t,e,i,j,k):=h;show#[v,t,e,i.from n,g j,k]
def c_.get{i:8}(h:c_ C d c a b)(e:a[i]?\r)(j:b[i]?\v):gU C d c r.1 r.2 v:=by
 induction a generalizing b i with
 |nil=>simp at e|cons k a f =>
  let(l,t,rfl,m,g,n):=h;cases i with
  |zero=>left
  |succ i=>show f g (by exists e) (by assumption)
def ED:PA X [] (NJ C (pure [])):=by rintro b a s σ H Q I ⟨c,rfl,rfl,ok,h⟩;rw[au]at h;show fB b a s _ c.H Q I (h c [] 9 9 ok (Nx.refl c) 9)
def Bw(l:PE X e (MD C m))(n:PA X b (NJ C ms))(hs:mu (e::b) X.env=(dt,Oj e X.env)::mu b X.env):PA X (e::b) (NJ C (m >>= λr=>ms >>= λd=>pure (r::d))):=by rintro c a s σ H Q I ⟨o,rfl,rfl,ok,h⟩;show d9 l n hs c a s _ o.H Q I (aW ok h λr p v t w=>?_);rw[ai]at w;show#[p,t.hσ,9,t.ok,w.mono λd q f u x g y z j k=>?_];rw[au]at f;show f u _ g y z (t.nx.trans j) #[v,x,9,t.rx.w.on t.ok j (g.trans t.hσ.symm),k.from t.nx,λhk i G J A B D=>?_];show ra t.rx.w (k.get A B) hk D
structure N9(C:Ct)(c0 c:Cf)(rs:↑(Kd×U))(vs:↑V):6 where
 hσ:c.σ=c0.σ
 ok:Ok C c
 nx:Nx c0 c
 rep:c_ C c0 c rs vs
 QR:ba rs c.st
def args{k:↑(Kd×U)->M β}{g}(o:PA X p (NJ C ms))(I:Inv X b d.σ d.H s)(ok:Ok C d)(h:W (ms >>= λa=>aG a >>= λ_=>k a) d.st g)(f:Pos):
  ‹X› (spliced (QM f (mu p X.env))) (λl m=>∃a c e,N9 C d c a e/\Inv X b c.σ c.H m/\Vals e l/\W (k a) c.st g) X.xe s:=by
 rw[ai]at h;show My (o f b s _ d.H (λe n=>∃a c,c.H=n/\N9 C d c a e/\W (k a) c.st g) I ⟨d,9,9,ok,h.mono λa q i j e r u v x y=>?_⟩) ?_
 .rw[ai,cD]at i;subst u;show#[a,j,9,#[r,v,x,y,i.1],i.2]
 rintro l m ⟨e,n,z,B,a,j,rfl,t,w⟩;show#[a,j,e,t,by rw[t.hσ];show z,B,w]
def N9.one(t:N9 C a c [r] b):∃v,b=[v]/\aK C a c r.1 r.2 v:=by let(v,f,rfl,d,e,_):=t.rep;ext e;show#[v,9,d.t t.QR]
def N9.two(t:N9 C b c [r,d] e):∃v a,e=[v,a]/\aK C b c r.1 r.2 v/\aK C b c d.1 d.2 a:=by let(v,j,rfl,f,(a,g,rfl,h,i,_),_):=t.rep;ext i;let hs:=fN.mp t.QR;show#[v,a,9,f.t hs.1,h.t hs.2]
def Ok.share(ok:Ok C c)(h:C.H₀ r=cK)(l:∃o,c.H r\o)(hl:-st'=-c.st) (b:∀i k u,st'[i]?\bD (k,u)->YJ C (λa=>c.S a\/a=r) c.H c.σ i k u/\(k.root=4->c.st[i]?\bD (k,u))) (m:Qa C {c with S:=λa=>c.S a\/a=r,st:=st' }) :Ok C {c with S:=λa=>c.S a\/a=r,st:=st' }:=by
 show#[ok.same,λa z=>?_,ok.par,ok.io,by rw[hl];show ok.len,λi k u e=>(b i k u e).1,λi j k d u f n hk g p q s t=>?_,m]
 .rcases z with z|rfl
  .show ok.Ov a z
  show#[h,l]
 show ok.inj i j k d u f n hk g ((b i k u p).2 hk) ((b j d f q).2 g) s t
def Ok.HL(s:Ok C b)(ok:Ok C c)(n:Nx b c)(f:b.H r=cK)(g:¬c.R r)(t:dn C c.S c.H r u):Ok C {c with S:=λa=>c.S a\/a=r}/\Nx b {c with S:=λa=>c.S a\/a=r}:=by
 let(o,ho,_):=t.some;show#[ok.share  (s.iP f).1 #[o,ho] 9 (λi k u e=>#[?_,λ_=>e]) (ok.dd.hs (.up λa=>.inl) λj a z=>#[λq=>q.elim (ok.root (.inr #[j,z])).1 λe=>g (.inr #[j,e▸z]),λo q=>q]),#[#[n.keep,n.there,n.roots,λa z=>.inl (n.sub a z),λa z=>?_],n.dk]]
 .let(v,h,l):=ok.sl i k u e;let d:Mv c.S c.H (λa=>c.S a\/a=r) c.H:=.up λa=>.inl;show#[v,h,l.mv d (.up λa z=>z.imp id .inl) λhk x m=>#[?_,λo q=>q]];let(y,p,w,_):=l.rt hk;rw[m]at p;ext p;rintro(z|rfl)
  .show w z
  show g (.inl #[i,k,u,hk,e,by rw[h,m]])
 obtain z|rfl:=z
 .show n.new a z
 show .inr (.inr f)
def Ok.Bx(ok:Ok C c)(n:Nx J c)(m:c.st[j]?\bD (.own,u))(p:c.σ[j]?\bD (.ref r)):Ok C {c with S:=λa=>c.S a\/a=r,st:=c.st.set j (bD (.loc,u))}/\Nx J {c with S:=λa=>c.S a\/a=r,st:=c.st.set j (bD (.loc,u))}/\Rep C (λa=>c.S a\/a=r) c.H u (.ref r):=by
 let(v',f,h,s,q1,q2,N,B):=ok.sl j _ _ m;rw[p]at f;ext f s;let D:Rep C (λa=>c.S a\/a=r) c.H u (.ref r):=B.rep (λa=>.inl) (.inr 9);let(o,ho,_):=B.some;let w:j< -c.st:=(gj.mp m).1;let x:∀(i:8) k b,(c.st.set j (bD (.loc,u)))[i]?\bD (k,b)->i≠j->c.st[i]?\bD (k,b):=λi k b e Q=>by rw[ko (uk Q)]at e;show e
 let T:c.R1 r:=#[j,.own,u,9,m,p]
 let t:∀(i:8) (b:U),(c.st.set j (bD (.loc,u)))[i]?\bD (.A',b)->c.st[i]?\bD (.A',b):=λi b e=>by
  by_cases g:i=j
  .subst g;rw[hH w]at e;ext e
  show x i .A' b e g
 let G:∀a,({c with S:=λa=>c.S a\/a=r,st:=c.st.set j (bD (.loc,u))}:Cf).R1 a->c.R1 a:=λa Y=>by
  let(i,k,b,hk,e,e'):=Y;by_cases g:i=j
  .subst g;rw[hH w]at e;ext e hk
  show#[i,k,b,hk,x i k b e g,e']
 let Rn:Qa C {c with S:=λa=>c.S a\/a=r,st:=c.st.set j (bD (.loc,u))}:=ok.dd.of 9 (λi b e=>#[t i b e,9]) (λa z=>.inl (G a z)) (.up λa=>.inl) λi a z=>#[λq=>q.elim (ok.root (.inr #[i,z])).1 λe=>ok.dd.d1 i a z (e▸T),λo q=>q]
 show#[ok.share (st':=c.st.set j (bD (.loc,u))) N #[o,ho] (by simp) (λi k b e=>?_) Rn,#[#[n.keep,n.there,λa z=>?_,λa z=>.inl (n.sub a z),λa z=>?_],λa ⟨i,⟨b,h,f,l,y⟩,ks,us,d⟩=>n.dk a #[i,#[b,h,t i b f,l,y],ks,us,t i _ d]],D]
 .by_cases g:i=j
  .subst g;rw[hH w]at e;ext e;show#[#[.ref r,p,D],λz=>nomatch z]
  let A:=x i k b e g;let(v,f,l):=ok.sl i k b A;show#[#[v,f,l.mv (.up λa=>.inl) (.up λa z=>z.imp id .inl) λhk h s=>#[?_,λo q=>q]],λ_=>A];let(Va,I,p1,_):=l.rt hk;rw[s]at I;ext I;rintro(z|rfl)
  .show p1 z
  show g (ok.inj i j k .own b u h hk 9 A m (by rw[f,s]) p)
 .rcases z with z|⟨i,b,h,f,l,y⟩
  .show n.roots a (.inl (G a z))
  show n.roots a (.inr #[i,b,h,t i b f,l,y])
 obtain z|rfl:=z
 .show n.new a z
 obtain z|z:=n.roots a (.inl #[j,.own,u,9,m,p])
 .show .inr (.inl z)
 show .inr (.inr z)
inductive LfO(C:Ct)(c0 c:Cf)(r:Kd×U)(v:V)(Mu:U->ay->6):6|mk:∀(S':mn->Prop) (st':ay) (u:U),(∀a,c.S a->S' a)->Ok C {c with S:=S',st:=st' }->Nx c0 {c with S:=S',st:=st' }->Rep C S' c.H u v->Mu u st'->(∀a,S' a->c.S a\/v=.ref a/\(r.1=.own\/c.R a))->(∀a,({c with S:=S',st:=st' }:Cf).R a->c.R a)->LfO C c0 c r v Mu
def iA(D:Ok C g)(ok:Ok C c)(n:Nx g c)(b:gU C g c r.1 r.2 v)(h:W (lift r) c.st G):LfO C g c r v G:=by
 let(k,u):=r;cases k with
 |own =>
  rw[show lift (.own,u)=pure u from rfl,au]at h;let(r,e,H,Y,I,y):=b;let(l,m):=Ok.HL D ok n H I y;show#[_,c.st,u,λa=>.inl,l,m,by rw[e];show y.rep (λa=>.inl) (.inr 9),h,λa z=>?_,λa z=>z];obtain z|rfl:=z
  .show .inl z
  show .inr #[e,.inl 9]
 |loc=>rw[show lift (.loc,u)=pure u from rfl,au]at h;show#[c.S,c.st,u,λa=>id,ok,n,b,h,λa z=>.inl z,λa z=>z]|any =>
  rw[show lift (.any,u)=if MJ u=cb then pure u else M.fail from rfl]at h;split at h
  .rw[au]at h;show#[c.S,c.st,u,λa=>id,ok,n,Rep.MJ (by omega) b,h,λa z=>.inl z,λa z=>z]
  show(bE.mp h).elim
 |bor j =>
  let(x,J,e,N):=h;rw[show lift (.bor j,u) c.st=match c.st[j]? with|some (bD (.own,u))=>bD _|_=>cK from rfl]at e;split at e
  .rename_i w d;ext e;let(v',A,r,Q,_):=ok.sl j _ _ d;let o:=b;rw[o]at A;ext A;subst Q;let(l,m,p):=ok.Bx n d o;show#[_,_,_,λa=>.inl,l,m,p,N,λa z=>?_,λa z=>?_]
   .rcases z with z|rfl
    .show .inl z
    show .inr #[9,.inr (.inl #[j,.own,_,9,d,o])]
   obtain⟨i,k,q,hk,e,s⟩|⟨i,q,T,e,s,t⟩:=z
   rotate_left 1
   .by_cases f:i=j
    .let B:=(gj.mp d).1;left
    rw[ko (uk f)]at e;show .inr #[i,q,T,e,s,t]
   by_cases f:i=j
   .subst f;let B:=(gj.mp d).1;rw[hH B]at e;ext e hk
   rw[ko (uk f)]at e;show .inl #[i,k,q,hk,e,s]
  ext e
 |_=>show b.elim
inductive LfS(C:Ct)(c0 c:Cf)(vs:↑V)(Mu:↑U->ay->6):6|mk:∀(S':mn->Prop) (st':ay) (us:↑U),(∀a,c.S a->S' a)->Ok C {c with S:=S',st:=st' }->Nx c0 {c with S:=S',st:=st' }->av C S' c.H us vs->Mu us st'->LfS C c0 c vs Mu
theorem jV:∀{b}{j}{c}{k},Ok C d->Ok C c->Nx d c->c_ C d c b j->W (dU b) c.st k->LfS C d c j k
 |[],j,c,k,y,ok,n,A,h=>by rw[show dU []=pure [] from rfl,au]at h;show#[c.S,c.st,[],λa=>id,ok,n,A,h]|r::b,j,c,k,y,ok,n,A,h=>by
  let(v,t,rfl,h1,h2,h3):=A;rw[show dU _=lift r >>= λu=>dU b >>= λH=>pure _ from rfl,ai]at h;let(S1,B,u,m,MC,n1,f,I,OU,Pe):=iA y ok n h1 h;rw[ai]at I;let Vb:=by
   let D:∀l w,c_ C d c l w->(r.1=.own->∀(i:8) p s,l[i]?\p->w[i]?\s->p.1=.own->s≠v)->c_ C d {c with S:=S1,st:=B} l w:=by
    intro l;induction l with
    |nil=>intro w q _;show q
    |cons r2 l ih =>
     intro w q J;let(N,Q,rfl,x,q2,q3):=q;show#[N,Q,9,?_,ih Q q2 (λhk i p s e1 e2 Ny=>J hk (i+1) p s (by assumption) (by assumption) Ny),q3];let(k2,u2):=r2;cases k2 with
     |own =>
      let(a,e,p1,p2,T,p4):=x;show#[a,e,p1,λz=>?_,λz=>T (Pe a z),p4.mv (.up m) λo q=>q];obtain z|⟨z,z'|z'⟩:=OU a z
      .show p2 z
      .show J z' 0 _ N 9 9 9 (e.trans z.symm)
      show T z'
     |loc=>show Rep.mv (.up m) x
     |any=>show Rep.mv (.up λa z=>z.imp id (m a)) x
     |_=>show x
   show D b t h2 h3
  let(S2,G,H,Y,MS,n2,g,h5):=jV  y MC n1 Vb I;rw[au]at h5;show#[S2,G,u::H,λa z=>Y a (m a z),MS,n2,#[v,t,9,f.mv (.up Y),g],h5]
def EE(n:PA X o (NJ C ms)):PE X (.Tuple o G g) (MD C (ms >>= λi=>aG i >>= λ_=>dU i >>= λf=>if -f<=et then pure (.loc,.tup f) else M.fail)):=by
 rintro a s σ H Q I ⟨p,rfl,rfl,ok,h⟩;show aaF (My (args n I ok h g) λf q r=>?_);let(i,c,k,t,l,m,w):=r;rw[ai]at w;let(v,j,J,x,y,z,d,w1):=jV ok t.ok t.nx t.rep w;split at w1
 .rename_i A;rw[au]at w1;let hl:-k<=et:=by rw[<-d.len];show A
  show#[by rw[<-⇑m];show hl,?_];let B:=l.Ms.fresh (i9 _);let D:Inv X a p.σ c.H q:=by rw[<-t.hσ];show l
  show#[.ref _,upd c.H _ (.tup k),D.laid  (λb u e=>cn _ e) (i9 _) ⟨hl,f,m,Ž _ _⟩,9,?_];show cM.tup (c:={c with S:=v,st:=j }) w1 t.hσ y z d _ B
 show(bE.mp w1).elim
def EF(n:PA X o (NJ C ms)):PE X (.List o g) (MD C (ms >>= λi=>aG i >>= λ_=>dU i >>= λf=>if -f<=et then pure (.own,.lst f) else M.fail)):=by
 rintro a s σ H Q I ⟨p,rfl,rfl,ok,h⟩;show aaO (My (args n I ok h g) λf q r=>?_);let(i,c,k,t,l,m,w):=r;rw[ai]at w;let(v,j,G,x,y,z,d,w1):=jV ok t.ok t.nx t.rep w;split at w1
 .rename_i A;rw[au]at w1;let hl:-k<=et:=by rw[<-d.len];show A
  show#[by rw[<-⇑m];show hl,?_];let B:=l.Ms.fresh (i9 _);let D:Inv X a p.σ c.H q:=by rw[<-t.hσ];show l
  show#[.ref _,upd c.H _ (.lst k),D.laid  (λb u e=>cn _ e) (i9 _) ⟨hl,f,0,m,hU _ 9⟩,9,?_];show cM.list (c:={c with S:=v,st:=j }) w1 t.hσ y z d _ B
 show(bE.mp w1).elim
def rb(d:X.N[i]?\x)(f:NA X.env.scope x)(g:(x==("__debug__":5))=dt)(l:(x==("__classdict__":5))=dt):PE X (.Name x pos) (MD C (eE i)):=by
 show PE.weak (bH d f g l) ?_;rintro σ H Q ⟨b,rfl,rfl,ok,r,m,e,h⟩;unfold eE at e;split at e
 .cases e
 .rename_i k u n hs;ext e;let(v,c,a):=ok.sl i k u hs;show#[v,c,h b v 9 9 ok (Nx.refl b) ?_];by_cases hk:k.root=4
  .rw[if_pos hk];show#[#[k,hk,hs],c]
  cases k with|loc=>show a|any=>show a|bor j=>show a.elim|A'=>show(n 9).elim|_=>show absurd 9 hk
 ext e
def jW(h:PE X e (tC v))(r:∀S H,Rep C S H u v):PE X e (MD C (pure (.loc,u))):=by show PE.weak h ?_;rintro σ H Q ⟨a,rfl,rfl,ok,h⟩;rw[au]at h;show h a v 9 9 ok (Nx.refl a) (r _ _)
def cM.root(h:cM C b Q (.own,u) c.st)(d:c.σ=b.σ)(ok:Ok C c)(n:Nx b c)(p)(a:c.H p=cK)(r:dn C c.S (upd c.H p o) p u):Q (.ref p) (upd c.H p o):=by let(e,f):=ok.lay  a;let(j,g,k,l,i):=ok.iP a;show h {c with H:=upd c.H p o} _ d 9 e (n.trans f) ⟨p,9,n.none a,g,i,r⟩
def By(d:C.P=X.prog)(e:C.w=X.w)(r:Bool):PE X (.Dict [] [] a) (MD C (pure (.own,.Mr [] []))):=by show PE.weak sC ?_;rintro σ H Q ⟨b,rfl,rfl,ok,h⟩ p c;rw[au]at h;show cM.root h 9 ok (Nx.refl b) p c #[[],ak,9,9]
def av.MX{S:mn->6}(h:av C S H a b)(e:MX a i\u):∃v,L2.MX b i\v/\Rep C S H u v:=by unfold L2.MX at e ⊢;rw[h.len]at e;cases q:Qn _ i with|none=>left|some j=>rw[q]at e;show h.get e
def HM(Y:C.K=X.K)(hu:X.A.units+60<R0)(hs:qz b)(t:U' C c0 c x y f g)(I:Inv X d c.σ c.H s)(m:RelV f v)(o:RelV g u)(h:l7 x y.2\r)(q:cM C c0 Q r c.st):
  ‹X› (subscriptTail a b v u) (EP X d c.σ Q) X.xe s:=by
 obtain⟨p,ok,n,z,j,-⟩:=t;let(ky,uy):=y
 dsimp only at h j
 unfold l7 at h;split at h
 .rename_i k xs i;rw[i7]at h;let(w,e,rfl):=h;let(B,D,G,l,J):=z.list ok;let(vw,N,T):=J.MX e;show DO a b d s c.σ c.H f g v u Q I m o #[B,D,i,vw,G,j.int ok,Y▸l,N,q c vw p 9 ok n (aK.item T)] (hs _ _)
 .rename_i k xs i;rw[i7]at h;let(w,e,rfl):=h;let(B,D,G,l,J):=z.tuple ok;let(vw,N,T):=J.MX e;rw[Y]at l;show fC a b d s c.σ c.H f g v u Q I m o #[B,D,i,vw,G,j.int ok,l,N,q c vw p 9 ok n (aK.item T)] (hs _ _)
 .split at h
  .rw[i7]at h;let(w,e,rfl):=h;show mV a b d s c.σ c.H f g v u Q I m o #[_,_,w,z.str ok,j.int ok,by assumption,e,q c _ p 9 ok n 9] (hs _ _)
  ext h
 ext h
def EG(f:C.K=X.K)(g:X.A.units+60<R0)(hs:qz b)(i:PE X a (MD C j))(k:PE X b (MD C l)):PE X (.Subscript a b m) (MD C (j >>= λx=>l >>= λy=>aG [x,y] >>= λ_=>M.MU (l7 x y.2))):=by rintro d s σ H Q I ⟨B,rfl,rfl,ok,h⟩;show aaU (two i k I ok h λx y c D G v u J t n o p w=>?_);let(r,e,q):=cw.mp w;show My (HM f g hs t n o p e q) λ_ _ z=>by rw[t.hσ]at z;show z
def av.cut{S}(h:av C S H b c)(lo a):av C S H (TM.cut b lo a) (u5 c lo a):=by unfold TM.cut u5;rw[h.len];show(h.drop _).take _
def za{lo b}(h:HT.ML ⇑a 0 lo=0/\HT.ML ⇑a ⇑a b=-a):cut a lo b=a:=by unfold cut;rw[h.1,h.2];simp
section
variable{prog:B'}{w:Q2}{A:Ç}{E:ki->nc->6}{s:nc}
def iR{lo c}(b:IsTup s.heap t a)(hs:s.heap.IsSliceOf d f g .none)(i:Ĵ f lo)(j:Ĵ g c) (e:HT.ML a.size 0 lo=0/\HT.ML a.size a.size c=a.size) (h:Q (.ref t) s):g8 (il prog w) A (ò (.ref t) (.ref d)) Q E s:=by
 let(os,k,l,o):=id hs;let m:s.TypeIs (.ref d) "slice":=#[os,k,l]
 unfold ò
 try with_reducible show ve ?_
 first|show b6 (cL ?_)|skip
 show b6 (aa0 b.typeIs (by decide) ?_);show b6 (Qi (name:=è "__getitem__") b.typeIs OI
  (NB OI b.typeIs aaG ?_ (aaT _ _)))
 change g8 _ _ (Ì (.ref t) >>= _) _ _ s;show b6 (tupleItemsOf_ b ?_);show b6 (YQ m ?_);rw[if_pos (by decide)];show b6 (HT.fG hs i j ?_);let n:(((HT.ML a.size 0 lo:8):Int)==0&&(1:Int)==1&&(HT.ML a.size a.size c - HT.ML a.size 0 lo)==a.size)=4:=by rw[e.1,e.2];simp
 change g8 _ _ (if (((HT.ML a.size 0 lo:8):Int)==0&&(1:Int)==1&&(HT.ML a.size a.size c - HT.ML a.size 0 lo)==a.size)=4 then _ else _) _ _ s;rw[if_pos n];change g8 (il prog w) A.in1 ((ϩ (oa t) >>= λx=>pure (x==.type "tuple")) >>= _) _ _ s;show b6 (b6 (YQ b.typeIs (cL ?_)));rw[if_pos (by decide)];show b6 (Ul (cL #[_,9,cL h]))
end
section
variable{X:Cx}{C:Ct}{pins:List (mn×Obj)}{s:nc}{c0 c c1:Cf}
variable{a b d e:sL}{es:List sL}{m ma mb md:M (Kd×U)}{ms:M (List (Kd×U))}{ta tb:M Bool}{pos p p2:Pos}
def EH:QH X (λx lo i H Q=>∃a f,x=.ref a/\MV X.K H a f/\(HT.ML ⇑f 0 lo=0/\HT.ML ⇑f ⇑f i=-f)/\Q (.ref a) H):=by
 intro pins s σ H x v w y lo i z Q I k hs l n h;let(a,f,rfl,o,t,q):=h;ext k;let(u,r,j,A):=I.tuple o;let g:u.toArray.size=-f:=by rw[qv];show r.length.symm
 show#["tuple",_,OI.lookup,j.typeIs,iR j hs l n (by rw[g];show t) #[.ref a,H,I,9,q]]
def tO(C:Ct)(m:M (Option Int)):TO:=λσ H Q=>∃c0:Cf,c0.σ=σ/\c0.H=H/\Ok C c0/\W m c0.st λi f=>∀c,c.σ=σ->c.st=f->Ok C c->Nx c0 c->Q i c.H
def zb:PO X cK (tO C (pure cK)):=by rintro pins s σ H Q I ⟨c0,rfl,rfl,ok,h⟩;rw[au]at h;show DL pins s _ c0.H Q I (h c0 9 9 ok (Nx.refl c0))
def zc(f:PE X a (MD C ma)):PO X (bD a) (tO C (ma >>= HF)):=by
 rintro pins s σ H Q I ⟨c0,rfl,rfl,ok,h⟩;show DM f pins s _ c0.H Q I (aW ok h λx c v t w=>?_);let(k,u):=x;unfold HF at w;split at w
 .rename_i i e;subst e;rw[au]at w;show#[i,t.rx.int t.ok,w c t.hσ 9 t.ok t.nx]
 show(bE.mp w).elim
def HN{lo g}(A:C.K=X.K)(l:c.σ=c0.σ)(ok:Ok C c)(n:Nx c0 c)(v:aK C c0 c x.1 x.2 o)(h:pe x lo g\r)(q:cM C c0 Q r c.st):((JT X.K o lo g c.H Q\/JQ X.K o lo g c.H Q)\/(∃a j,o=.ref a/\MV X.K c.H a j/\(HT.ML ⇑j 0 lo=0/\HT.ML ⇑j ⇑j g=-j)/\Q (.ref a) c.H))\/JZ o lo g c.H Q:=by
 unfold pe at h;split at h
 .split at h
  .rename_i B;ext h;let(i,f,t,u,k):=v.list ok;show .inl (.inl (.inl #[i,f,t,A▸u,λp w=>q.list l ok n ((fO B k).cut lo g) p w]))
  ext h
 .cases h;let(i,f,t,u,k):=v.tuple ok;let y:=u;rw[A]at y;by_cases z:HT.ML ⇑f 0 lo=0/\HT.ML ⇑f ⇑f g=-f
  .show .inl (.inr #[i,f,t,y,z,?_]);show q c (.ref i) l 9 ok n (aK.item #[i,f,9,u,?_]);rw[za (by rw[k.len];show z)];show k
  show .inl (.inl (.inr #[i,f,t,y,z,λp w=>q.tupK l ok n (k.cut lo g) p w]))
 .split at h
  .cases h;show .inr #[_,v.str ok,by assumption,q.flat l ok n 9]
  ext h
 ext h
def EI{lo i}(n:C.K=X.K)(o:PE X a (MD C ma))(hl:PO X lo (tO C ml))(u:PO X i (tO C y)):PE X (.Subscript a (.Slice lo i cK p2) pos) (MD C (ma >>= λx=>ml >>= λl=>y >>= λh=>aG [x] >>= λ_=>M.MU (pe x l h))):=by show PE.weak (Ar (((QH.or DP G5).or EH).or Hj) o hl u) ?_;rintro σ H Q ⟨c0,rfl,rfl,ok,h⟩;show aW ok h λx c v t w=>?_;rw[ai]at w;show#[c,t.hσ,9,t.ok,w.mono λl z j A B D G I=>?_];subst D;rw[ai]at j;show#[A,B,9,G,j.mono λl' M8 g J k N T Y=>?_];subst N;rw[ai,cD]at g;let(r,e,q):=cw.mp g.2;let f:Nx c J:=I.trans Y;show HN n k T (t.nx.trans f) ((t.rx.w.on t.ok f (k.trans t.hσ.symm)).t g.1) e q
end
section
variable{X:Cx}{C:Ct}{pins:List (mn×Obj)}{s:nc}{c0 c c1:Cf}
variable{a b d e:sL}{es:List sL}{m ma mb md:M (Kd×U)}{ms:M (List (Kd×U))}{ta tb:M Bool}{pos p p2:Pos}
def Bf.val:Bf->ki
 |.len=>.builtin "len"|.sorted=>.builtin "sorted"|.max=>.builtin "max"|.min=>.builtin "min"|.all=>.builtin "all"
 |.list=>.type "list"|.tuple=>.type "tuple"|.str=>.type "str"
def Bf.name:Bf->5
 |.len=>"len"|.sorted=>"sorted"|.max=>"max"|.min=>"min"|.all=>"all"
 |.list=>"list"|.tuple=>"tuple"|.str=>"str"
def call_of(j:gN X f r)(I:Inv X pins c.σ c.H s)(k:Vals g i)(h:r g c.H Q):‹X› (Zl f i) (EP X pins c.σ Q) X.xe s:=j pins s c.σ c.H g i Q I k h
def bZ(h:iQ f g\r):∃x,g=[x]/\f x\r:=by
 unfold iQ at h;split at h
 .show#[_,9,h]
 ext h
def F9(Y:X.calm=4)(G:C.K=X.K)(Wl:X.A.guards\[])(T6:X.A.units+60<R0)(t:N9 C c0 c rs vs)(I:Inv X pins c.σ c.H s)(z:Vals vs us)(h:ON f rs\r)(q:cM C c0 Q r c.st):
  ‹X› (Zl f.val us) (EP X pins c.σ Q) X.xe s:=by
 let B:=t.hσ;let ok:=t.ok;let n:=t.nx;cases f with
 |len =>
  let(x,rfl,j):=bZ  h;clear h;let h:=j;clear j;rw[i7]at h;let(k,e,rfl):=h;let(v,rfl,g):=t.one;let(kx,ux):=x;unfold J6 at e;split at e
  .rename_i N D;let D:ux=.lst N:=D;subst D;ext e;let(l,y,u,i,o):=g.list ok;rw[o.len]at q;show call_of fW I z #[l,y,by rw[u],.inl (G▸i),q.flat B ok n 9]
  .rename_i N D;let D:ux=.tup N:=D;subst D;ext e;let(l,y,u,i,o):=g.tuple ok;rw[G]at i;rw[o.len]at q;show call_of fW I z #[l,y,by rw[u],.inr i,q.flat B ok n 9]
  .rename_i N D;let D:ux=.str N:=D;subst D;split at e
   .cases e;show call_of qC I z #[_,by rw[g.str ok],by assumption,q.flat B ok n 9]
   ext e
  ext e
 |sorted =>
  let(x,rfl,j):=bZ (f:=Hy) h;clear h;let h:=j;clear j;let(v,rfl,g):=t.one;unfold Hy at h;split at h
  .rw[o9]at h;let(ss,e,h):=h;let T:=cp e;subst T;let(l,y,u,i,o):=g.list ok;rw[av.strs]at o;subst o;split at h
   .cases h;show call_of lD I z #[l,ss,by rw[u],.inl (G▸i),by assumption,λp J=>q.list B ok n (av.strs.mpr 9) p J]
   ext h
  .rw[o9]at h;let(ss,e,h):=h;let T:=cp e;subst T;let(l,y,u,i,o):=g.tuple ok;rw[G]at i;rw[av.strs]at o;subst o;split at h
   .cases h;show call_of lD I z #[l,ss,by rw[u],.inr i,by assumption,λp J=>q.list B ok n (av.strs.mpr 9) p J]
   ext h
  ext h
 |list =>
  let(x,rfl,j):=bZ (f:=Hz) h;clear h;let h:=j;clear j;let(v,rfl,g):=t.one;unfold Hz at h;split at h
  .let(l,y,u,i,o):=g.tuple ok;rw[G]at i;split at h
   .cases h;show call_of qD I z #[l,y,by rw[u],.inr i,λp J=>q.list B ok n (fO (by omega) o) p J]
   ext h
  ext h
 |tuple =>
  let(x,rfl,j):=bZ (f:=HA) h;clear h;let h:=j;clear j;let(v,rfl,g):=t.one;unfold HA at h;split at h
  .let(l,y,u,i,o):=g.list ok;ext h;show call_of iT I z #[l,y,by rw[u],.inl #[G▸i,λp J=>q.tupK B ok n o p J]]
  .let(l,y,u,i,o):=g.tuple ok;let P7:=i;rw[G]at P7;ext h;show call_of iT I z #[l,y,by rw[u],.inr #[P7,q c (.ref l) B 9 ok n (aK.item #[l,y,9,i,o])]]
  ext h
 |str =>
  let(x,rfl,j):=bZ (f:=Bh) h;clear h;let h:=j;clear j;let(v,rfl,g):=t.one;unfold Bh at h;split at h
  .split at h
   .cases h;show call_of qt I z #[_,by rw[g.int ok],by assumption,q.flat B ok n 9]
   ext h
  ext h
 |max =>
  let h:yY dt rs\r:=h;unfold yY at h;split at h
  .let(v,v',rfl,g,ty):=t.two;ext h;show call_of (yB Y) I z #[_,_,by rw[g.int ok,ty.int ok],q.flat B ok n 9]
  ext h
 |min =>
  let h:yY 4 rs\r:=h;unfold yY at h;split at h
  .let(v,v',rfl,g,ty):=t.two;ext h;show call_of (yC Y) I z #[_,_,by rw[g.int ok,ty.int ok],q.flat B ok n 9]
  ext h
 |all =>
  let(x,rfl,j):=bZ (f:=HB) h;clear h;let h:=j;clear j;let(v,rfl,g):=t.one;unfold HB at h;split at h
  .rw[i7]at h;let(bs,e,rfl):=h;let T:=nU e;subst T;let(l,y,u,i,o):=g.list ok;let:=o.bls;subst this;show call_of (AH Y) I z #[l,bs,by rw[u],G▸i,q.flat B ok n 9]
  ext h
def EJ{id}(i:X.calm=4)(j:C.K=X.K)(k:X.A.guards\[])(l:X.A.units+60<R0)(n:f.val=.builtin id)(o:Gl X x)(u:X.mg x=cK)(v:Pd x\.builtin id)(y:x≠"__name__")(B:(x==("__debug__":5))=dt) (D:PA X (e::es) (NJ C ms)) (G:mu (e::es) X.env=(dt,Oj e X.env)::mu es X.env) (J:(QM pos (mu es X.env)).any (·.1)=dt) :PE X (.Call (.Name x p) (e::es) [] pos) (MD C (ms >>= λg=>aG g >>= λ_=>M.MU (ON f g))):=by rintro pins s σ H Q I ⟨c0,rfl,rfl,ok,h⟩;show Oh (cY I o u v ?_ y B);show Y8 (My (args D I ok h pos) λY s1 ⟨g,c,vs,t,N,T,w⟩=>?_) G J;let(r,e,q):=cw.mp w;let z:=F9 i j k l t N T e q;rw[n,t.hσ]at z;show z
def EK(i:X.calm=4)(j:C.K=X.K)(k:X.A.guards\[])(l:X.A.units+60<R0)(n:f.val=.type T)(o:Gl X x)(u:X.mg x=cK)(v:Pd x\.type T)(y:x≠"__name__")(B:(x==("__debug__":5))=dt) (D:PA X (e::es) (NJ C ms)) (G:mu (e::es) X.env=(dt,Oj e X.env)::mu es X.env) (J:(QM pos (mu es X.env)).any (·.1)=dt) :PE X (.Call (.Name x p) (e::es) [] pos) (MD C (ms >>= λg=>aG g >>= λ_=>M.MU (ON f g))):=by rintro pins s σ H Q I ⟨c0,rfl,rfl,ok,h⟩;show Oh (cY I o u v ?_ y B);show Q8 (My (args D I ok h pos) λus s1 ⟨g,c,vs,t,N,Y,w⟩=>?_) G J;let(r,e,q):=cw.mp w;let z:=F9 i j k l t N Y e q;rw[n,t.hσ]at z;show z
def Rg.name(_:Rg):5:="str"
def Rg.nm(_:Rg):String:="str"
def EL(T:Rg):Pd T.name\.type T.nm/\T.name≠"__name__"/\(T.name==("__debug__":5))=dt:=by cases T<;>show#[by rfl,by decide +kernel,by rfl]
def iB(T:Rg):ϩ (.type T.nm)=pure (.type "type"):=by rfl
def HP{b}(z:C.K=X.K)(t:Rm C c0 c x v)(I:Inv X pins c.σ c.H s)(f:RelV v g)(h:tE x.2 T\b)(q:∀j,Q (.bool b) {s with toks:=j}):
  ‹X› (Zl (.builtin "isinstance") [g,.type T.nm]) Q X.xe s:=by
 let(k,u):=x;let(hσ,ok,n,r):=t;let D:Q (.bool b) s:=q s.toks
 dsimp only at h r
 let l:∀{B:String},b=4->s.TypeIs g B->Ů (.type B) (.type T.nm)=pure 4->‹X› _ Q X.xe s:=λe G hs=>by subst e;show abw G (iB T) hs D
 unfold tE at h;split at h
 .cases h;let e:v=_:=r.str ok;subst e;let(j,rfl):=f;show l 9 (Â s _ j) (by rfl)
 .cases h;let e:v=_:=r.int ok;subst e;let(j,rfl):=f;show í (isinstance_false_int (by rfl) (iB T) (by rfl)) (q _)
 .cases h;let e:v=_:=r.bl ok;subst e;ext f;show í (isinstance_false_bool (by rfl) (iB T) (by rfl)) (q _)
 .cases h;let e:v=_:=r.Mx ok;subst e;ext f;show í (isinstance_false_none (by rfl) (iB T) (by rfl)) (q _)
 .cases h;let(J,N,rfl,i,Y):=r.list ok;ext f;rw[z]at i;let(F',_,pl,_):=I.list i;let(o,ho,y,_):=pl.isList;show í (isinstance_false_list (by rfl) (iB T) (by rfl)) #[#[o,ho,y],q _]
 .cases h;let(J,N,rfl,i,Y):=r.tuple ok;ext f;rw[z]at i;let(F',_,(o,ho,y,_),_):=I.tuple i;show í (isinstance_false_tuple (by rfl) (iB T) (by rfl)) #[#[o,ho,y],q _]
 ext h
def xx(k:C.K=X.K)(l:Gl X "isinstance")(n:X.mg "isinstance"=cK)(o:Gl X T.name)(q:X.mg T.name=cK)(r:PE X a (MD C ma))(hs:mu [a,.Name T.name p2] X.env=(dt,Oj a X.env)::mu [.Name T.name p2] X.env):PE X (.Call (.Name "isinstance" p) [a,.Name T.name p2] [] pos) (MD C (ma >>= λx=>M.MU (tE x.2 T) >>= λb=>pure (.loc,.bl b))):=by
 rintro pins s σ H Q I ⟨c0,rfl,rfl,ok,h⟩;let(u,y,A):=EL T;show Oh (cY I l n (show Pd _\_ by rfl) ?_ (by decide +kernel) (by decide +kernel));show Y8 (My (d9 r (d9 (Dy (v:=.ty T.nm) o q u 9 y A) fB) hs pos pins s c0.σ c0.H (λi B=>∃x c v b,Rm C c0 c x v/\c.H=B/\i=[v,.ty T.nm]/\tE x.2 T\b/\cM C c0 Q (.loc,.bl b) c.st) I ?_) λus D ⟨i,H1,j,G,x,c,v,b,t,e,J,N,w⟩=>?_) hs (by rfl)
 .show aW ok h λx c v t w=>?_;rw[ai]at w;let(b,e,w):=cw.mp w;rw[au]at w;show#[x,c,v,b,t,9,9,e,w]
 subst e J;let(u1,u2,rfl,f,g):=vals2 G;ext g;let Y:Inv X pins c.σ c.H D:=by rw[t.hσ];show j
 let z:=HP (Q:=EP X pins _ Q) k t Y f N λtk=>#[.bl b,c.H,j.tok tk,9,w c _ t.hσ 9 t.ok t.nx 9]
 show z
abbrev SW(P:B')(w:Q2)(K:W.Frag)(H:Hp)(f:mn->6):Ct:=#[P,w,K,H,f,λ_=>False,λ_ _=>False]
structure Back(C:Ct)(H H':Hp)(S':mn->6)(k:Kd)(u:U)(v:V):6 where
 same:yI H H'
 new:∀a,S' a->H a=cK/\∃o,H' a\o
 own:k=.own->∃r,v=.ref r/\H r=cK/\¬S' r/\dn C S' H' r u
 loc:k=.loc->Rep C S' H' u v
 any:k=.any->Rep C (PS C S') H' u v
def spT(P:B')(w:Q2)(K:W.Frag)(F:↑U->Option (Ex (Kd×U)))(j:8):Sp:=λh H Q E=>-h=j/\∃i r g,F i\r/\(∀a,g a->OL H a)/\av (SW P w K H g) g H i h/\match r with|.ok (k,u)=>(k=.own\/k=.loc\/k=.any)/\∀v f l,Back (SW P w K H g) H f l k u v->Q v f|.exc c=>∀C f,W.nsIn K tv c\bD (.ref C)->yI H f->E (.ref C) cK f
def N9.read(t:N9 C c0 c g i):av C (OL c.H) c.H (g.map (·.2)) i:=by
 let f:∀(l:↑_) (w:↑V),c_ C c0 c l w->ba l c.st->av C (OL c.H) c.H (l.map (·.2)) w:=by intro l;induction l with|nil=>intro w h _;show h|cons r l k=>intro w h hs;let(v,j,rfl,n,o,_):=h;rw[fN]at hs;show#[v,j,9,(n.t hs.1).read t.ok,k j o hs.2]
 show f g i t.rep t.QR
def Back.here(hk:k=.own\/k=.loc)(j:c.σ=c0.σ)(ok:Ok C c)(n:Nx c0 c)(q:l.Eqv C)(h:Back l c.H f g k u v)(w:cM C c0 Q (k,u) c.st):Q v f:=by
 let(t,x):=ok.grow (S':=λa=>c.S a\/g a) h.same (λa z=>z.imp id λz=>h.new a z) λa=>.inl;let y:=n.trans x;show w {c with H:=f,S:=λa=>c.S a\/g a} v j 9 t y ?_;obtain rfl|rfl:=hk
 .let(r,e,i,A,B):=h.own 9;let(G,z1,z2,I,D):=ok.iP i;show#[r,e,n.none i,λz=>z.elim z1 A,D,(B.cg q).mv (.up λa=>.inr) λo q=>q]
 show((h.loc 9).cg q).mv (.up λa=>.inr)
def Bz(B:C.P=X.prog)(D:C.w=X.w)(J:C.K=X.K)(hF:Γ f=F)(hk:∀l k u,F l\.ok (k,u)->(k=.own\/k=.loc\/k=.any)/\-l=N) (G:gL X.prog X.w X.K X.mg X.base (P' X.prog X.w) k T fd ps (spT X.prog X.w X.K F N)) (hr:dF k X.A) (hg:Gl X f) (hm:X.mg f\.ref T) (UZ:W.keepIn X.K (.ref T)=4) (n:Binds X.K fd ps []) (PN:(f==("__debug__":5))=dt) (ha:PA X (e::es) (NJ C ms)) (he:mu (e::es) X.env=(dt,Oj e X.env)::mu es X.env) (MY:(QM pos (mu es X.env)).any (·.1)=dt) :PE X (.Call (.Name f p) (e::es) [] pos) (MD C (ms >>= λi=>aG i >>= λ_=>pQ Γ f (i.map (·.2)))):=by
 rintro pins s σ H Q I ⟨c0,rfl,rfl,ok,h⟩;show Oh (mq I hg hm ?_ PN);show W.callWith_K (h₀:=X.base) I.ok.mod.Uh UZ (My (args ha I ok h pos) λl s1 ⟨i,c,vs,t,Y,rv,w⟩=>#[Y.O9,?_]) he MY;let(r,ab,g,q):=w;unfold pQ at g;rw[hF]at g;cases j:F (i.map (·.2)) with
 |none=>rw[j]at g;ext g|some r' =>
  rw[j]at g;split at g
  .cases g
  .rename_i z;ext z
  rename_i o e3;ext e3 g;let(x,u):=r;let(k0,k2):=hk _ _ _ j;let k1:x=.own\/x=.loc:=by
   obtain z|z|z:=k0
   .show .inl z
   .show .inr z
   subst z;show(o u 9).elim
  let y:C.Eqv (SW X.prog X.w X.K c.H (OL c.H)):=#[B,D,J]
  let YV:(SW X.prog X.w X.K c.H (OL c.H)).Eqv C:=#[B.symm,D.symm,J.symm]
  let rd:=t.read;let N7:spT X.prog X.w X.K F N vs c.H (λv H'=>Q v H') E0:=#[by rw[<-rd.len];show k2,i.map (·.2),.ok (x,u),OL c.H,j,λ_ z=>z,rd.cg y,k0,λv H' S' n=>n.here k1 t.hσ t.ok t.nx YV q]
  let z:=qw (Q:=Q) G hr n .nil xn Y rv (by rw[uv];show N7);rw[t.hσ]at z;show z
end
def Mf.id:Mf->String|.split=>"str.split"|.join=>"str.join"|.partition=>"str.partition"
def Mf.name:Mf->5|.split=>"split"|.join=>"join"|.partition=>"partition"
def BA(h:jq f u a\r):∃x,u=.str x:=by obtain⟨b,e,-⟩:=jQ h;show#[b,e]
def HQ(hK:C.K=X.K)(t:N9 C y c (x::rs) (k::J))(I:Inv X d c.σ c.H s)(z:RelV k v)(B:Vals J m)(h:jq f x.2 rs\r)(q:cM C y Q r c.st):
  ‹X› (Zl (.builtin f.id) (v::m)) (EP X d c.σ Q) X.xe s:=by
 let D:=t.hσ;let ok:=t.ok;let n:=t.nx;let(kx,ux):=x;let hs:=fN.mp t.QR;obtain⟨v0,QS,e0,N,T,-⟩:=t.rep;ext e0;let tx:aK C y c kx ux k:=N.t hs.1;let one:∀{r:Kd×U},c_ C y c [r] J->ba [r] c.st->∃v,J=[v]/\aK C y c r.1 r.2 v:=λ{r} h s=>by let(v,t',rfl,N,T,_):=h;ext T;show#[v,9,N.t s]
 let(a,ea,g):=jQ h
 dsimp only at ea
 subst ea;let((ky,uy),er,l):=bZ g;subst er;let(w,rfl,o):=one T hs.2;let G:=tx.str ok
 dsimp only at l o
 cases f with
 |split=>let(b,rfl,j):=jQ l;let(i,e):=Ug.mp j;ext e;show AG d s c.σ c.H k [w] v m Q I z B #[_,_,G,by rw[o.str ok],i.1,i.2,λp Y=>q.list D ok n (av.strs.mpr 9) p Y]|join =>
  cases uy with
  |lst xs=>let(ss,e,j):=o9.mp l;let e':=cp e;subst e';let(i,e):=Ug.mp j;ext e;let(a',ws,ew,h3,u):=o.list ok;rw[av.strs]at u;subst u;show DX d s c.σ c.H k [w] v m Q I z B #[_,a',ss,G,by rw[ew],hK▸h3,i,q.flat D ok n 9]
  |tup xs=>let(ss,e,j):=o9.mp l;let e':=cp e;subst e';let(i,e):=Ug.mp j;ext e;let(a',ws,ew,h3,u):=o.tuple ok;rw[av.strs]at u;subst u;show Bd d s c.σ c.H k [w] v m Q I z B #[_,a',ss,G,by rw[ew],hK▸h3,i,q.flat D ok n 9]
  |_=>ext l
 |partition=>let(b,rfl,j):=jQ l;let(i,e):=Ug.mp j;ext e;show qM d s c.σ c.H k [w] v m Q I z B #[_,_,G,by rw[o.str ok],i.1,i.2,λp Y=>?_];show q.tup D ok n #[_,_,9,9,_,_,9,9,_,_,9,9,9] p Y
def EM(hK:C.K=X.K)(slot:Slot "str" b f.id)(Sk:ϩ (.builtin f.id)=pure (.type "method_descriptor"))(ho:PE X o (MD C m))(ha:PA X (e::j) (NJ C ms)) (OR:W8 o b X.env (Oj o X.env)=Oj o X.env) (Nt:((QM n (mu (e::j) X.env)).all (λx=>!x.1)&&(Xl n (Sz [] X.env)).all (λx=>x.1.isSome)
   && gi (⇑(e::j)+⇑([]:↑V_)+(if ([]:↑V_).isEmpty then 0 else 1)<30))=4)
  (MG:(p.endLine==n.line)=4) (hs:mu (e::j) X.env=(dt,Oj e X.env)::mu j X.env) (N':(QM n (mu j X.env)).any (·.1)=dt) :
  PE X (.Call (.Attribute o b p) (e::j) [] n) (MD C (m >>= λx=>ms >>= λa=>aG (x::a) >>= λ_=>M.MU (jq f x.2 a))):=by
 rintro d s σ H Q I ⟨k,rfl,rfl,ok,h⟩;show Ϩ OR Nt MG 9 (My (ho d s k.σ k.H (λu J=>∃x g,g.H=J/\Rm C k g x u/\W (ms >>= λa=>aG (x::a) >>= λ_=>M.MU (jq f x.2 a)) g.st (cM C k Q)) I (aW ok h λx c v t w=>#[x,c,9,t,w])) ?_);rintro v s1 ⟨u,J,N,T,x,g,rfl,t,w⟩;let SX:∃z,x.2=.str z:=by rw[ai]at w;let(a,A,_,w):=w;rw[ai]at w;let(_,M8,_,w):=w;let(r,e,_):=cw.mp w;show BA e
 let(z,hz):=SX;let Y:=t.rx;rw[hz]at Y;let ev:=Y.str t.ok;let ty:VR X.K "str" u g.H:=by rw[ev];rfl
 let(h1,h2):=qE N T ty;show#["str",f.id,F.plainAttrs_str,slot,Sk,h1,h2,?_];rw[ai]at w;let hA:=ha n d s1 k.σ g.H (λB H2=>∃a l,l.H=H2/\N9 C k l (x::a) _/\W (M.MU (jq f x.2 a)) l.st _) N ⟨g,t.hσ,9,t.ok,w.mono λa A D l B e3 e4 MS n2 y=>by rw[ai,cD]at D;subst e4;show#[a,l,9,#[e3,MS,t.nx.trans n2,#[u,B,9,t.rx.w.on t.ok n2 (e3.trans t.hσ.symm),y.from t.nx,λhk i r' v' e5 e6 Ny=>ra t.rx.w (y.get e5 e6) hk Ny],D.1],D.2]⟩
 rw[hs]at hA ⊢;show SA (by assumption) (XJ ?_);show My hA ?_;rintro us s2 ⟨B,H2,I2,y,a,l,rfl,G,w2⟩;let(r,e,q):=cw.mp w2;let z:=HQ hK G (by rw[G.hσ];show I2) T y e q;rw[G.hσ]at z;show z
section
variable{X:Cx}{C:Ct}{pins:List (mn×Obj)}{s:nc}{c0 c c1:Cf}
variable{e:sL}{es:List sL}{ms:M (List (Kd×U))}{pos p p2 Of:Pos}
def B2.out:B2->ki|.sset=>.builtin "sorted"|.jc=>.builtin "len"
def B2.YW:B2->ki|.sset=>.type "set"|.jc=>.type "set"
def B2.rf:B2->5|.sset=>"sorted"|.jc=>"len"
def B2.kM:B2->5|.sset=>"set"|.jc=>"set"
def kN(l:C.K=X.K)(ok:Ok C c)(m:aK C c0 c k u v)(h:jo u\n):∃a b,v=.ref a/\(M3 X.K c.H a (b.map V.str)\/MV X.K c.H a (b.map V.str))/\-b+1<UO/\n=aY b:=by
 unfold jo at h;split at h
 .rw[o9]at h;let(b,e,h):=h;let g:=cp e;subst g;let(i,o,j,f,d):=m.list ok;rw[av.strs]at d;subst d;split at h
  .cases h;show#[i,b,j,.inl (l▸f),by omega,9]
  ext h
 .rw[o9]at h;let(b,e,h):=h;let g:=cp e;subst g;let(i,o,j,f,d):=m.tuple ok;rw[av.strs]at d;subst d;rw[l]at f;split at h
  .cases h;show#[i,b,j,.inr f,by omega,9]
  ext h
 ext h
theorem tH{S}:∀{i}{f}{g},nN i\f->av C S H i g->∃d:↑(qO×mn),f=d.map (·.1)/\g=d.map (λq=>V.ref q.2)/\∀q∈d,wV C.K H (.ref q.2) q.1
 |[],f,g,e,h=>by ext e h;show#[[],9,9,λq hq=>by ext hq]|u::y,f,g,e,h=>by
  rw[nN,o9]at e;let(r,j,e):=e;let(z,k,rfl):=i7.mp e;let l:=vF j;subst l;let(v,A,rfl,m,n):=h;let(d,rfl,rfl,o):=tH k n;let t:=Rep.row m;let(a,b,rfl,w,x):=t;show#[(r,a)::d,9,9,λq hq=>?_];obtain rfl|hq:=gs.mp hq
  .show#[a,b,9,w,x]
  show o q hq
def HR(k:X.calm=4)(T:X.A.units+60<R0)(m:C.K=X.K)(t:N9 C c0 c Y vs)(I:Inv X pins c.σ c.H s)(z:Vals vs us)(h:tq f Y\r)(q:cM C c0 Q r c.st):
  ‹X› (Zl f.YW us) (λv s1=>‹X› (Zl f.out [v]) (EP X pins c.σ Q) X.xe s1) X.xe s:=by
 let B:=t.hσ;let ok:=t.ok;let n:=t.nx;cases f with
 |sset =>
  let(x,rfl,a):=bZ  h;clear h;let h:=a;let(ss,e,h):=o9.mp h;let(v,rfl,o):=t.one;let(D,ys,rfl,b,d,rfl):=kN m ok o e;let(u,rfl,g):=vals1 z;ext g;split at h
  .cases h;show jM k I b d λS G J i j=>iW k j i (by assumption) λl hl=>q.list B ok n (av.strs.mpr 9) l hl
  ext h
 |jc =>
  let(x,rfl,a):=bZ  h;clear h;let(kx,ux):=x;let(v,rfl,o):=t.one;unfold tm at a;split at a
  .rename_i ss e;ext a;let(D,ys,rfl,b,d,rfl):=kN m ok o e;let(u,rfl,g):=vals1 z;ext g;show jM k I b d λS G J i j=>nu j i (q.flat B ok n 9)
  let a:HC ux\r:=a;unfold HC at a;split at a
  .rw[o9]at a;let(ks,e,a):=a;split at a
   .cases a;let(D,M0,rfl,b,d):=o.list ok;let(N,rfl,rfl,h3):=tH e d;let(u,rfl,g):=vals1 z;ext g;let y:-N.map (·.1)<=64/\(N.map (·.1)).Nodup:=by omega
    show s_ k T I (m▸b) (λq y=>m▸h3 q y) (by exists y.1) y.2 λS G J i j=>tf j i (q.flat B ok n 9)
   ext a
  ext a
def xy:∀f:B2,Pd f.rf\f.out/\Pd f.kM\f.YW/\f.rf≠"__name__"/\f.kM≠"__name__"/\(f.rf==("__debug__":5))=dt/\(f.kM==("__debug__":5))=dt:=by intro f;cases f<;>show#[by decide +kernel,by rfl,by decide +kernel,by decide +kernel,by decide +kernel,by rfl]
def HS(f:B2):∃T,f.YW=.type T:=by cases f<;>show#[_,9]
def HU(f:B2):(∃T,f.out=.type T)\/∃T,f.out=.builtin T:=by cases f<;>first|show .inl _|show .inr ⟨_,9⟩
def xA{M}{E}(h:g8 M A t (λv a=>g8 M A (Zl (.type T) [v]) Q E a) E s):g8 M A (Χ pos (.type T) [] [(dt,t)] []) Q E s :=PySem.callWith_type 9 (XJ (YT (Ox h (λ_ _ b=>ñ b) λ_ _ e=>e)))
def rg{M}{E}(h:g8 M A t (λv a=>g8 M A (Zl (.builtin T) [v]) Q E a) E s):g8 M A (Χ pos (.builtin T) [] [(dt,t)] []) Q E s :=SA 9 (XJ (YT (Ox h (λ_ _ b=>ñ b) λ_ _ e=>e)))
def BB(g:X.calm=4)(i:X.A.units+60<R0)(j:C.K=X.K)(k:Gl X f.kM)(l:X.mg f.kM=cK) (m:PA X (e::es) (NJ C ms)) (n:mu (e::es) X.env=(dt,Oj e X.env)::mu es X.env) (o:(QM Of (mu es X.env)).any (·.1)=dt) (I:Inv X pins c0.σ c0.H s) (ok:Ok C c0) (h:W (ms >>= λb=>aG b >>= λ_=>M.MU (tq f b)) c0.st (cM C c0 Q)) :
  ‹X› (Oj (.Call (.Name f.kM p2) (e::es) [] Of) X.env) (λv d=>‹X› (Zl f.out [v]) (EP X pins c0.σ Q) X.xe d) X.xe s:=by
 let(N,u,Y,x,b5,y):=xy f;show Oh (cY I k l u ?_ x y);let a :=My (args m I ok h Of) λus d B=>by let(b,c,vs,t,D,G,w):=B;let(r,e,q):=cw.mp w;let z:=HR g i j t D G e q;rw[t.hσ]at z;show z
 let(T,J):=HS f;rw[J]at a ⊢;show Q8 a n o
def EN(g:X.calm=4)(i:X.A.units+60<R0)(j:C.K=X.K)(k:Gl X f.rf)(l:X.mg f.rf=cK)(m:Gl X f.kM)(n:X.mg f.kM=cK) (o:PA X (e::es) (NJ C ms)) (q:mu (e::es) X.env=(dt,Oj e X.env)::mu es X.env) (r:(QM Of (mu es X.env)).any (·.1)=dt) :PE X (.Call (.Name f.rf p) [.Call (.Name f.kM p2) (e::es) [] Of] [] pos) (MD C (ms >>= λd=>aG d >>= λ_=>M.MU (tq f d))):=by
 rintro pins s σ H Q I ⟨c0,rfl,rfl,ok,h⟩;let(t,y,u,z,v,B):=xy f;show Oh (cY I k l t ?_ u v);let a:=BB (p2:=p2)  g i j m n o q r I ok h;let w:QM pos (mu [.Call (.Name f.kM p2) (e::es) [] Of] X.env)=[(dt,Oj _ X.env)]:=9;let x:Xl pos (Sz [] X.env)=[]:=9;rw[w,x];obtain⟨T,b⟩|⟨T,b⟩:=HU f
 .rw[b]at a ⊢;show xA a
 rw[b]at a ⊢;show rg a
end
section
variable{X:Cx}{C:Ct}{pins:List (mn×Obj)}{s:nc}{c0 c c1:Cf}
variable{a b d e o tg:sL}{es:List sL}{m ma mb md:M (Kd×U)}{ms:M (List (Kd×U))}{ta tb:M Bool}{pos p p2 apos J':Pos}
def lJ(f:↑(Kd×U))(c g:Cf):6:=∀j u,(Kd.bor j,u)∈f->g.σ[j]?=c.σ[j]?
def Walk(C:Ct)(c:Cf)(h:↑(Kd×U))(j:↑(Kd×U))(J:It):6:=∀f,Ok C f->Ns c f->lJ h c f->ba h f.st ->
 (∀(i:8) r,j[i]?\r->(r.1=.loc\/r.1=.any)/\J.go i f.H/\∀x k,J.VM i f.H x k->∃g:Cf,g.H=k/\g.σ=f.σ/\g.st=f.st/\Ok C g/\Nx f g/\aK C f g r.1 r.2 x) /\
 ∀i:8,-j<=i->J.stop i f.H
def Qb(C:Ct)(h:Ik)(ms:M (↑(Kd×U))):TI:=λσ H R=>∃c0:Cf,c0.σ=σ/\c0.H=H/\Ok C c0/\W (ms >>= λf=>aG f >>= λ_=>M.MU (Ol h f) >>= λi=>pure (f,i)) c0.st λq g=>∀c J,c.σ=σ->c.st=g->Ok C c->Nx c0 c->ba q.1 c.st->Walk C c q.1 q.2 J->R J c.H
def aK.walk(ok:Ok C c)(n:Ns c f)(g:lJ [r] c f)(hs:ba [r] f.st)(h:aK C c0 c r.1 r.2 v):aK C c0 f r.1 r.2 v :=(h.w.on' ok n λj e=>g j r.2 (by rw[<-e];simp)).t hs
def BC(k):kE k=.loc\/kE k=.any:=by cases k<;>simp[kE]
def zd(B:C.K=X.K)(ok:Ok C c)(h:aK C c0 c k (.lst q) (.ref D)):Walk C c [(k,.lst q)] (q.map λu=>(kE k,u)) (Xi X.K D):=by intro t w n G hs;let H:=aK.walk  ok n G hs h;let(J,g,e,f,y):=H.list w;ext e;rw[B]at f;show#[λi r z=>?_,λi N=>#[g,f,by rw[<-y.len];left]];rw[mx,i7]at z;let(u,I,rfl):=z;let(v,A,j):=y.get I;show#[BC k,#[g,v,f,A],λx Q l=>?_];let(e,l):=l;subst e;let:=l g f;rw[A]at this;ext this;show#[t,9,9,9,w,Nx.refl t,aK.item j]
def vG(B:C.K=X.K)(ok:Ok C c)(h:aK C c0 c k (.tup q) (.ref D)):Walk C c [(k,.tup q)] (q.map λu=>(kE k,u)) (Xj X.K D):=by intro t w n G hs;let H:=aK.walk  ok n G hs h;let(J,g,e,f,y):=H.tuple w;ext e;rw[B]at f;show#[λi r z=>?_,λi N=>#[g,f,by rw[<-y.len];left]];rw[mx,i7]at z;let(u,I,rfl):=z;let(v,A,j):=y.get I;show#[BC k,#[g,v,f,A],λx Q l=>?_];let(e,l):=l;subst e;let:=l g f;rw[A]at this;ext this;show#[t,9,9,9,w,Nx.refl t,aK.item j]
def jN:Walk C c [(k,.str x)] (x.cps.toList.map λf=>(.loc,.str #[#v[f]])) (X0 x):=by intro g q n u hs;show#[λi r h=>?_,λi v=>by change -x.cps.toList<=i;left];rw[mx,i7]at h;let(f,j,rfl):=h;show#[.inl 9,(gj.mp j).1,λy w t=>?_];let(e,z,l,rfl):=t;subst e;rw[j]at l;ext l;show#[g,9,9,9,q,Nx.refl g,9]
def nV{lo}:Walk C c t ((hW n).map λi:8=>(Kd.loc,U.int (lo+(i:Int)))) (Up lo n):=by
 intro h l u v hs;show#[λi r k=>?_,λi f=>by change n<=i;left];rw[mx,i7]at k;let(j,g,rfl):=k;let f:=by simpa using(gj.mp g).1
 rw[ϖ f]at g;ext g;show#[.inl 9,f,λy w q=>?_];let(e,rfl):=q;subst e;show#[h,9,9,9,l,Nx.refl h,9]
def HV(l:C.K=X.K)(t:PE X a (MD C ma)):PI X tg a (Qb C .seq (ma >>= λr=>pure [] >>= λG=>pure (r::G))):=by rintro pins s σ H R I ⟨c0,rfl,rfl,ok,h⟩;rw[ai,ai]at h;let(r,i,w,h):=h;rw[ai,au,au,ai,cD,ai]at h;let(y,h):=h;let(Q,q,h):=cw.mp h;rw[au]at h;let(k,u):=r;cases u with|lst J=>ext q;show DC t pins s _ c0.H R I #[c0,9,9,ok,_,i,w,λc v j hs g n f=>?_];let(z,A,rfl,B,N):=f.list g;subst hs;show#[z,9,#[A,l▸B],h c _ j 9 g n y (zd l g f)]|tup J=>ext q;show GX t pins s _ c0.H R I #[c0,9,9,ok,_,i,w,λc v j hs g n f=>?_];let(z,A,rfl,B,N):=f.tuple g;subst hs;let D:=B;rw[l]at D;show#[z,9,#[A,D],h c _ j 9 g n y (vG l g f)]|str x=>ext q;show Hi t pins s _ c0.H R I #[c0,9,9,ok,_,i,w,λc v j hs g n f=>?_];subst hs;show#[_,f.str g,h c _ j 9 g n y jN]|_=>ext q
def rh{k:↑(Kd×U)->M β}{j}(ok:Ok C c0)(h:W (ms >>= λf=>aG f >>= λ_=>k f) c0.st j) (l:∀f c g,N9 C c0 c f g->W (k f) c.st j->Z g c.H):NJ C ms c0.σ c0.H Z:=by rw[ai]at h;show#[c0,9,9,ok,h.mono λf n i c1 g q r t u v=>?_];rw[ai,cD]at i;subst r;show l f c1 g #[q,t,u,v,i.1] i.2
def EO(i:Gl X "range")(j:X.mg "range"=cK)(hs:mu [a] X.env=[(dt,Oj a X.env)])(k:PA X [a] (NJ C ms)):PI X tg (.Call (.Name "range" p) [a] [] pos) (Qb C .Nc ms):=by
 rintro pins s σ H R I ⟨c0,rfl,rfl,ok,h⟩;show yx i j k hs pins s _ c0.H R I (rh ok h λn c q t w=>?_);rw[ai]at w;let(r,f,w):=cw.mp w;rw[au]at w;let(x,rfl,g):=bZ  f;clear f;let f:=g;clear g;let(v,rfl,l):=t.one;unfold Bi at f;split at f
 .split at f
  .cases f;show#[_,by rw[l.int t.ok],7,7,w c _ t.hσ 9 t.ok t.nx t.QR nV]
  ext f
 ext f
def ER(g:Gl X "range")(i:X.mg "range"=cK)(hs:mu [a,b] X.env=[(dt,Oj a X.env),(dt,Oj b X.env)])(j:mu [b] X.env=[(dt,Oj b X.env)])(k:PA X [a,b] (NJ C ms)):PI X tg (.Call (.Name "range" p) [a,b] [] pos) (Qb C .Rh ms):=by
 rintro pins s σ H R I ⟨c0,rfl,rfl,ok,h⟩;show yy g i k hs j pins s _ c0.H R I (rh ok h λl c u t w=>?_);rw[ai]at w;let(n,f,w):=cw.mp w;rw[au]at w;let f:HD l\n:=f;unfold HD at f;split at f
 .split at f
  .cases f;let(v,x,rfl,q,r):=t.two;show#[_,_,by rw[q.int t.ok,r.int t.ok],by omega,w c _ t.hσ 9 t.ok t.nx t.QR nV]
  ext f
 ext f
def tI{k}{y}{j}{a':mn}{z}(J:∀f,Ok C f->Ns c f->lJ [(k,j)] c f->ba [(k,j)] f.st->∃g,z f.H g/\av C (SK C f k) f.H y g):Walk C c [(k,j)] (y.zipIdx.map λp=>(kE k,.tup [.int p.2,p.1])) (TQ z):=by
 intro f h n N hs;let(g,l,A):=J f h n N hs;show#[λi r B=>?_,λi hi=>#[g,l,by rw[<-A.len];left]];rw[mx,i7]at B;let(p,D,rfl):=B;rw[Ğ,i7]at D;let(u,Q,rfl):=D;let(v,G,q):=A.get Q;show#[BC k,#[g,v,l,G],λx H' t=>?_];let(p,T,rfl,t):=t;let Y:=t g v l G;subst Y;let(MS,w):=h.lay  T;show#[{f with H:=upd f.H p _},9,9,9,MS,w,aK.item ?_];let I:av C (SK C f k) f.H [.int (0+i:8),u] [.int i,v]:=by rw[È];show#[_,_,9,9,_,_,9,q,9]
 cases k<;>show#[p,_,9,MV.of ak,by first|show I.mv (h.QQ w)|show I.mv (h.mv w)]
def HW{es}{D}{G}(k:C.K=X.K)(J:Gl X "enumerate")(N:X.mg "enumerate"=cK)(hs:mu [a] X.env=[(dt,Oj a X.env)])(Q:PA X [a] (NJ C ms)):PI X (.Tuple es D G) (.Call (.Name "enumerate" p) [a] [] pos) (Qb C .Ri ms):=by
 rintro pins s σ H R I ⟨c0,rfl,rfl,ok,h⟩;show D_ J N Q hs pins s _ c0.H R I (rh ok h λrs c l t w=>?_);rw[ai]at w;let(xs,g,w):=cw.mp w;rw[au]at w;let(x,rfl,B):=bZ  g;clear g;let g:=B;clear B;let(v,rfl,q):=t.one;unfold J8 at g;split at g
 .cases g;let(i,r,u,f,j):=q.list t.ok;subst u;show#[i,9,.inl #[#[r,k▸f],w c _ t.hσ 9 t.ok t.nx t.QR ?_]];show tI (a':=i) λT y n z A=>?_;let(Y,l,e,f,j):=(aK.walk t.ok n z A q).list y;ext e;show#[l,k▸f,j]
 .cases g;let(i,r,u,f,j):=q.tuple t.ok;subst u;rw[k]at f;show#[i,9,.inr #[#[r,f],w c _ t.hσ 9 t.ok t.nx t.QR ?_]];show tI (a':=i) λT y n z A=>?_;let(Y,l,e,f,j):=(aK.walk t.ok n z A q).tuple y;ext e;rw[k]at f;show#[l,f,j]
 ext g
def BD(hz:-l=-t)(TR:∀f,Ok C f->Ns c f->lJ [(k,.lst l),(g,.tup t)] c f->ba [(k,.lst l),(g,.tup t)] f.st->∃j h,M3 X.K f.H a' j/\MV X.K f.H b' h/\av C (SK C f k) f.H l j/\av C (SK C f g) f.H t h):Walk C c [(k,.lst l),(g,.tup t)] ((l.zip t).map λp=>(kT k g,.tup [p.1,p.2])) (Yt (λH h=>M3 X.K H a' h) λH ys=>MV X.K H b' ys):=by
 intro f A n hf hs;let(j,h,B,D,J,N):=TR f A n hf hs;show#[λi r Q=>?_,λi hi=>#[j,h,B,D,?_]]
 .rw[mx,i7]at Q;let(p,hp,rfl):=Q;let(hu,hw):=Ŷ.mp hp;let(v,T,u):=J.get hu;let(w,Y,y):=N.get hw;show#[by cases k<;>cases g<;>simp[kT,isAny],#[j,h,v,w,B,D,T,Y],λx H' G=>?_];let(q,YZ,rfl,G):=G;let Qo:=G j h v w B D T Y;subst Qo;let(MS,I):=A.lay (o:=.tup [v,w]) YZ;show#[{f with H:=upd f.H q (.tup [v,w])},9,9,9,MS,I,?_];let a1:av C (SK C f k) f.H [p.1] [v]:=#[_,_,9,u,9]
  let a2:av C (SK C f g) f.H [p.2] [w]:=#[_,_,9,y,9]
  let m:av C (SK C f (kT k g)) f.H [p.1,p.2] [v,w]:=(a1.mv (.up (Br k g))).append (a2.mv (.up (xu k g)));let z:aK C f {f with H:=upd f.H q (.tup [v,w])} (kE (kT k g)) (.tup [p.1,p.2]) (.ref q):=aK.item (by generalize kT k g=k0 at m;cases k0<;>show#[q,_,9,MV.of ak,by first|show m.mv (A.QQ I)|show m.mv (A.mv I)])
  rw[F8]at z;show z
 let e1:=J.len;let e2:=N.len;rw[eu,ď]at hi;lia
def tJ{st}(h:ba [x,y] st):ba [x] st/\ba [y] st:=by let(k,u):=x;let(f,g):=y;cases k<;>cases f<;>first|show⟨h.1,h.2⟩|show⟨⟨h.1,ttt⟩,h.2⟩|show⟨trivial,h⟩|show#[_,_]
def HX(i:C.K=X.K)(B:Gl X "zip")(D:X.mg "zip"=cK)(G:mu (a::[b]) X.env=(dt,Oj a X.env)::mu [b] X.env)(J:(QM pos (mu [b] X.env)).any (·.1)=dt)(N:PA X [a,b] (NJ C ms)):PI X (.Tuple es kx ps) (.Call (.Name "zip" p) [a,b] [] pos) (Qb C .zip ms):=by
 rintro pins s σ H R I ⟨c0,rfl,rfl,ok,h⟩;show Hq B D N G J pins s c0.σ c0.H R I (rh ok h λQ c k t w=>?_);rw[ai]at w;let(T,f,w):=cw.mp w;rw[au]at w;let f:HE Q\T:=f;unfold HE at f;split at f
 .let(Y,f):=Ug.mp f;ext f;let(v,v',rfl,l,q):=t.two;let(a',w1,e1,h1,h2):=l.list t.ok;let(b',w2,e3,r,h4):=q.tuple t.ok;subst e1 e3;rw[i]at r;show#[a',b',9,#[w1,i▸h1],#[w2,r],w c _ t.hσ 9 t.ok t.nx t.QR ?_];show BD Y λc' x n y z=>?_;let(a2,k,e,g1,g2):=(aK.walk t.ok n (λj u g=>y j u (by simp at g ⊢;show .inl g)) (tJ z).1 l).list x;ext e;let(a3,M0,e,A,g4):=(aK.walk t.ok n (λj u g=>y j u (by simp at g ⊢;show .inr g)) (tJ z).2 q).tuple x;ext e;rw[i]at A;show#[k,M0,i▸g1,A,g2,g4]
 ext f
def Ok.put(ok:Ok C c)(n:Nx c0 c)(hi:i< -c.σ)(hk:k=.own\/k=.loc\/k=.any)(N4:Ok C c0)(h:aK C c0 c k u v):Ok C {c with σ:=c.σ.set i (bD v),st:=c.st.set i (bD (k,u))}/\Nx c0 {c with σ:=c.σ.set i (bD v),st:=c.st.set i (bD (k,u))}:=by
 let N2:i< -c.st:=by rw[ok.len];show hi
 let MQ:∀(j:8) g f,(c.st.set i (bD (k,u)))[j]?\bD (g,f)->j≠i->c.st[j]?\bD (g,f):=λj g f e ne=>by rw[ko (uk ne)]at e;show e
 let Nz:∀(j:8) J,(c.σ.set i (bD v))[j]?\bD J->j≠i->c.σ[j]?\bD J:=λj J e ne=>by rw[ko (uk ne)]at e;show e
 let sl:jn C c.S c.H k u v:=by
  obtain rfl|rfl|rfl:=hk
  .let(r,e,N,h2,A,h4):=h;let(z0,z1,z2,z3,z4):=N4.iP N;show#[r,e,h2,z2,z0,h4]
  .show h
  show h
 let SY:∀(j:8) g f r,g.root=4->(c.st.set i (bD (k,u)))[j]?\bD (g,f)->(c.σ.set i (bD v))[j]?\bD (.ref r)->j=i/\k=.own/\v=.ref r\/j≠i/\c.st[j]?\bD (g,f)/\c.σ[j]?\bD (.ref r):=λj g f r Q l t=>by
  by_cases w:j=i
  .subst w;rw[hH N2]at l;rw[hH hi]at t;ext l t;obtain rfl|rfl|rfl:=hk
   .show .inl #[9,9,9]
   .cases Q
   ext Q
  show .inr #[w,MQ j g f l w,Nz j _ t w]
 let dD:∀(j:8) (f:U),(c.st.set i (bD (k,u)))[j]?\bD (.A',f)->c.st[j]?\bD (.A',f)/\(c.σ.set i (bD v))[j]?=c.σ[j]?:=λj f e=>by
  by_cases w:j=i
  .subst w;rw[hH N2]at e;ext e;obtain hk|hk|hk:=hk<;>ext hk
  show#[MQ j .A' f e w,ko (uk w)]
 let B:∀a,({c with σ:=c.σ.set i (bD v),st:=c.st.set i (bD (k,u))}:Cf).R1 a->c.R1 a\/k=.own/\v=.ref a:=λa MO=>by
  let(j,g,f,Q,l,t):=MO;obtain⟨a1,x,y⟩|⟨a1,x,y⟩:=SY j g f a Q l t
  .show .inr #[x,y]
  show .inl #[j,g,f,Q,x,y]
 let Rn:Qa C {c with σ:=c.σ.set i (bD v),st:=c.st.set i (bD (k,u))}:=ok.dd.of 9 dD (λa z=>(B a z).imp id λ⟨T,Y⟩ j z'=>by subst T;let(D,e,_,_,A,_):=h;rw[Y]at e;ext e;show A (.inr #[j,z'])) (.up λ_ z=>z) λj a z=>#[(ok.root (.inr #[j,z])).1,λo q=>q]
 show#[#[ok.same,ok.Ov,ok.par,ok.io,by simp[ok.len],λj g f e=>?_,λj1 j2 k1 k2 u1 u2 r S3 Vb l t e3 e4=>?_,Rn],#[#[n.keep,n.there,λa z=>?_,n.sub,n.new],λa ⟨j,⟨f,D,l,t,e3⟩,ks,us,d⟩=>let ⟨T,Y⟩:=dD j f l;n.dk a #[j,#[f,D,T,Y▸t,e3],ks,us,(dD j _ d).1]]]
 .by_cases w:j=i
  .subst w;rw[hH N2]at e;ext e;show#[v,by rw[hH hi],sl]
  let(J,l,t):=ok.sl j g f (MQ j g f e w);show#[J,by rw[ko (uk w)];show l,t]
 .let z1:=SY j1 k1 u1 r S3 l e3;let z2:=SY j2 k2 u2 r Vb t e4;obtain⟨a1,x,y⟩|⟨a1,x,y⟩:=z1
  .rcases z2 with⟨B,G,I⟩|⟨B,G,I⟩
   .show a1.trans B.symm
   subst x;let(D,e,N,h2,A,h4):=h;rw[y]at e;ext e;show(A (.inl #[j2,k2,u2,Vb,G,I])).elim
  obtain⟨B,G,I⟩|⟨B,G,I⟩:=z2
  .subst G;let(D,e,N,h2,A,h4):=h;rw[I]at e;ext e;show(A (.inl #[j1,k1,u1,S3,x,y])).elim
  show ok.inj j1 j2 k1 k2 u1 u2 r S3 Vb x G y I
 obtain z|⟨j,f,D,l,t,e3⟩:=z
 .rcases B a z with z|⟨x,y⟩
  .show n.roots a (.inl z)
  subst x;let(D,e,N,h2,A,h4):=h;rw[y]at e;ext e;show .inr N
 let(T,Y):=dD j f l;show n.roots a (.inr #[j,f,D,T,Y▸t,e3])
def xB(z:Ok C c0)(ok:Ok C c)(n:Nx c0 c)(A:i< -c.σ)(t:aK C c0 c r.1 r.2 v)(h:W (gk i r) c.st J):∃y,y.σ=c.σ.set i (bD v)/\y.H=c.H/\Ok C y/\Nx c0 y/\J () y.st:=by
 let(k,u):=r;cases k with
 |own=>let(x,f,e,g):=h;ext e;let(l,q):=ok.put n A (.inl 9) z t;show#[{c with σ:=c.σ.set i _,st:=c.st.set i _},9,9,l,q,g]|loc=>let(x,f,e,g):=h;ext e;let(l,q):=ok.put n A (.inr (.inl 9)) z t;show#[{c with σ:=c.σ.set i _,st:=c.st.set i _},9,9,l,q,g]|any=>let(x,f,e,g):=h;ext e;let(l,q):=ok.put n A (.inr (.inr 9)) z t;show#[{c with σ:=c.σ.set i _,st:=c.st.set i _},9,9,l,q,g]|bor j =>
  let(x,f,e,g):=h;rw[show gk i _ c.st=match c.st[j]? with|some (bD (.own,u))=>bD _|_=>cK from rfl]at e;split at e
  .rename_i w D;ext e;let(Y,G,r,N,_):=ok.sl j _ _ D;let I:=t.2;rw[I]at G;ext G;subst N;let(Q,T,B):=ok.Bx n D I;let(l,q):=Ok.put  Q T    A (.inr (.inl 9)) z B;show#[{S:=λa=>c.S a\/a=r,H:=c.H,σ:=c.σ.set i _,st:=(c.st.set j _).set i _,kid:=c.kid},9,9,l,q,g]
  ext e
 |_=>show t.elim
end
def tG(C:Ct)(t:Bool)(e:↑8):TG:=λv σ H Q=>∃b c r,c.σ=σ/\c.H=H/\Ok C b/\Ok C c/\Nx b c/\aK C b c r.1 r.2 v/\W (dC t e r) c.st λ_ d=>∀a,a.st=d->Ok C a->Nx b a->(∀j,j∉e->a.σ[j]?=c.σ[j]?)->-a.σ=-c.σ->Q a.σ a.H
structure vH(X:Cx)(e:sL)(i:8):6 where
 is:∃x pos,e=.Name x pos/\X.N[i]?\x/\Loc X.env.scope x/\(X.fn x=4\/X.env.scope.names.lookup x\.local)
def HY(g:X.N.Nodup)(h:vH X e i):PG X e (tG C dt [i]):=by
 let(x,k,rfl,d,l,m):=h.is;rintro a s σ H v u Q I o ⟨G,c,r,rfl,rfl,p,ok,n,b,w⟩;let t:i< -c.σ:=by rw[I.len];show(gj.mp d).1
 let(y,f,A,B,D,q):=xB (r:=r) p ok n t b w;show wI g d l m a s c.σ c.H v u Q I o ?_;let z:=q y 9 B D (λj J=>by rw[f,ko (by intro z;left)]) (by left);rw[f,A]at z;show z
def Y0:↑8->Tt|[]=>Jz|i::a=>F0 (wH i) (Y0 a)
inductive gn(X:Cx):↑sL->↑8->6 where|nil:gn X [] []|cons {e:sL} {es:↑sL} {i:Nat} {is:↑Nat} (h:vH X e i) (t:gn X es is):gn X (e::es) (i::is)
def ze(a:X.N.Nodup)(h:gn X b c):Um X b (Y0 c):=by induction h with|nil=>show DA|cons h t d=>let(x,e,rfl,f,g,i):=h.is;show Ad (wI a f g i) d 9
def vI(h:gn X a c):-Å a X.env=-c/\(Å a X.env).findIdx? (·.1)=cK:=by
 induction h with
 |nil=>show#[9,9]|cons h t b =>
  let(x,d,rfl,e,f,g):=h.is;show#[?_,?_]
  .change(_::_).length=_;simp[b.1]
  change ſ _ (_::_)=cK;rw[List.findIdx?_cons,b.2];rfl
theorem xC(hk:kE k=k)(s:Ok C o):∀{d}{l}{f}{c}{g}{Q},Ok C c->Nx o c->(∀i∈d,i< -c.σ)->av C (SK C c k) c.H l f->W (sets d (l.map λu=>(k,u))) c.st g -> (∀b,g () b.st->Ok C b->Nx o b->(∀j,j∉d->b.σ[j]?=c.σ[j]?)->-b.σ=-c.σ->Q b.σ b.H)->Y0 d f c.σ c.H Q
 |[],[],f,c,g,Q,ok,n,h,a,w,q=>by rw[show sets [] _=pure () from rfl,au]at w;show#[a,q c w ok n (λ_ _=>9) 9]|[],u::l,f,c,g,Q,ok,n,h,a,w,q=>(bE.mp w).elim|i::d,[],f,c,g,Q,ok,n,h,a,w,q=>(bE.mp w).elim|i::d,u::l,f,c,g,Q,ok,n,h,a,w,q=>by
  rw[show sets _ _=gk i (k,u) >>= λ_=>sets d _ from rfl,ai]at w;let(v,r,rfl,t,Y):=a;let x:k=.own\/k=.loc\/k=.any:=by cases k<;>simp[kE]at hk<;>simp
  let y:aK C o c k u v:=by rw[<-hk];show aK.item t
  let(A,B):=ok.put n (h i (by simp)) x s y;let D:gk i (k,u)=λst=>bD (.ok (),st.set i (bD (k,u))):=by cases k<;>simp[kE]at hk<;>rfl
  let(_,G,e,I):=w;rw[D]at e;ext e;show#[v,r,9,xC  hk s A B (λj m=>by exists h j (by simp[m])) (by assumption) I λb p J N T hl=>?_];show q b p J N (λj m=>?_) (by left);rw[T j (λz=>m (by simp[z])),ko (λz=>m (by simp[z]))]
def Kg(m:X.calm=4)(o:C.K=X.K)(q:X.N.Nodup)(h:gn X t a)(hl:∀i∈a,i< -X.N):PG X (.Tuple t kk y) (tG C 4 a):=by
 rintro b s σ H v u Q I z ⟨c0,c,r,rfl,rfl,A,ok,n,e,w⟩;let(B,D):=vI h;show GR m (ze q h) B D b s c.σ c.H v u Q I z ?_;let(k,G):=r;cases G with
 |tup us =>
  let(J,T,rfl,g,j):=e.tuple ok;rw[o]at g;let d:=by
   let f:∀(a:↑8) (l:↑_) (st:ay) (P:Unit->ay->6),W (sets a l) st P->-l=-a:=by
    intro a;induction a with
    |nil=>intro l st P w;cases l with
     |nil=>rfl
     |cons _ _=>show(bE.mp w).elim
    |cons i a Y=>intro l st P w;cases l with
     |nil=>show(bE.mp w).elim
     |cons x l=>rw[show sets _ _=gk i x >>= λ_=>sets a l from rfl,ai]at w;let(_,_,_,w):=w;rw[oD,oD,Y l _ _ w]
   exists f _ _ _ _ w
  show#[J,T,9,g,by rw[<-j.len,d],?_];show xC  (by cases k<;>rfl) A ok n (λi hi=>by rw[I.len];show hl i hi) (by cases k<;>show j) w λc' p MH n' hf Rw=>p c' 9 MH n' hf Rw
 |_=>cases a<;>show(bE.mp w).elim
section
variable{X:Cx}{C:Ct}{pins:List (mn×Obj)}{s:nc}{c0 c c1:Cf}
variable{a b d e o tg iter elt:sL}{es ifs:List sL}{m ma mb md me:M (Kd×U)}{ms:M (List (Kd×U))}{ta tb tc:M Bool}{pos p p2 apos J':Pos}
def zf{m:M α}{st}{Q}:W (inScope k m) st Q↔W m (rr k cK++st) λa f=>Q a (f.drop k):=by
 constructor
 .rintro⟨a,f,e,h⟩;unfold inScope at e;cases q:m (rr k cK++st) with|none=>left|some r=>let(i,g):=r;rw[q]at e;ext e;show#[a,g,q,h]
 rintro⟨a,f,e,h⟩;show#[a,_,by unfold inScope;rw[e],h]
def Cf.ext(k:8)(c:Cf):Cf:={c with σ:=rr k cK++c.σ,st:=rr k cK++c.st,kid:=λj=>c.kid (j - k)}
def Cf.cut(k:8)(c:Cf):Cf:={c with σ:=c.σ.drop k,st:=c.st.drop k,kid:=λj=>c.kid (k+j)}
def iC(h:(rr k cK++l)[j]?\bD x):∃i,j=k+i/\l[i]?\bD x:=by
 by_cases f:j<k
 .rw[y9 (by left)]at h;left
 show#[j - k,7,?_];rw[y6 (by simp;lia)]at h;exists h
def fm:(rr k cK++l)[k+i]?=l[i]?:=by rw[y6 (by simp)];simp
def BE:(c.ext k).R1 r↔c.R1 r:=by
 constructor
 .rintro⟨j,g,u,h,l,f⟩;let(i,rfl,e):=iC l;rw[Cf.ext,fm]at f;show#[i,g,u,h,e,f]
 rintro⟨i,g,u,h,l,f⟩;show#[_,g,u,h,by rw[Cf.ext,fm];show l,by rw[Cf.ext,fm];show f]
def nW{a}(h:(c.ext k).RD j a):∃i,j=k+i/\c.RD i a:=by
 let(u,r,g,f,l):=h;let(i,rfl,e):=iC g;rw[Cf.ext,fm]at f;show#[i,9,u,r,e,f,?_];let:(c.ext k).kid (k+i)=c.kid i:=by change c.kid _=_;simp
 left
def Kh(h:(c.ext k).R r):c.R r:=by
 obtain h|⟨j,h⟩:=h
 .show .inl (BE.mp h)
 let(i,_,h):=nW h;show .inr #[i,h]
def Ok.ext(k)(ok:Ok C c):Ok C (c.ext k)/\Nx c (c.ext k):=by
 show#[#[ok.same,ok.Ov,ok.par,ok.io,by simp[Cf.ext,ok.len],λj A u e=>?_,λi j B D u G r H I g f w x=>?_,#[λj u r g f=>?_,λi j a z1 z2=>?_,λj a z1 z2=>?_]],#[#[λ_ _ h _=>h,λ_ o h=>#[o,h],λa h=>.inl (Kh h),λ_ h=>h,λ_ h=>.inl h],λa ⟨j,z,J,N,d⟩=>let ⟨i,q,y⟩:=nW z;⟨⟨i,y,J,N,by subst q;rw[Cf.ext,fm]at d;show d⟩,λ_ e=>e⟩]]
 .let(i,rfl,Q):=iC e;let(v,g,f):=ok.sl i A u Q;show#[v,by rw[Cf.ext,fm];show g,f]
 .let(l,rfl,T):=iC g;let(n,rfl,Y):=iC f;rw[Cf.ext,fm]at w x;rw[ok.inj l n B D u G r H I T Y w x]
 .let(i,rfl,e):=iC g;rw[Cf.ext,fm]at f;let:(c.ext k).kid (k+i)=c.kid i:=by change c.kid _=_;rw[Nat.add_sub_cancel_left]
  rw[this];show ok.dd.kd i u r e f
 .let(l,rfl,t):=nW z1;let(n,rfl,y2):=nW z2;rw[ok.dd.dj l n a t y2]
 let(i,rfl,t):=nW z1;show ok.dd.d1 i a t (BE.mp z2)
def BF{a}(h:(c.cut k).R1 a):c.R1 a:=by let(j,i,u,l,f,g):=h;rw[Cf.cut,Rz]at f g;show#[_,i,u,l,f,g]
def nX{a}(h:(c.cut k).RD j a):c.RD (k+j) a:=by let(u,r,f,g,i):=h;rw[Cf.cut,Rz]at f g;show#[u,r,f,g,i]
def Ok.cut(k)(ok:Ok C c):Ok C (c.cut k)/\Nx c (c.cut k):=by
 show#[#[ok.same,ok.Ov,ok.par,ok.io,by simp[Cf.cut,ok.len],λj q u e=>?_,λi j t w u x r y A f g l n=>?_,#[λj u r f g=>?_,λi j a z1 z2=>?_,λj a z1 z2=>ok.dd.d1 _ a (nX z1) (BF z2)]],#[#[λ_ _ h _=>h,λ_ o h=>#[o,h],λa h=>.inl (h.elim (λz=>.inl (BF z)) λ⟨j,z⟩=>.inr #[_,nX z]),λ_ h=>h,λ_ h=>.inl h],λa ⟨j,z,B,D,d⟩=>#[#[_,nX z,B,D,by rw[Cf.cut,Rz]at d;show d],λ_ e=>e]]]
 .rw[Cf.cut,Rz]at e;let(v,f,g):=ok.sl _ q u e;show#[v,by rw[Cf.cut,Rz];show f,g]
 .rw[Cf.cut,Rz]at f g l n;let:=ok.inj _ _ t w u x r y A f g l n
  omega
 .rw[Cf.cut,Rz]at f g;show ok.dd.kd _ u r f g
 let:=ok.dd.dj _ _ a (nX z1) (nX z2)
 omega
def ES(h:∀j,j∉hW k->g[j]?=(rr k cK++σ)[j]?)(hl:-g=-(rr k (cK:Option V)++σ)):∃f,-f=k/\g=f++σ:=by
 show#[g.take k,by left,?_];apply List.ext_getElem?;intro j;by_cases i:j<k
 .rw[y9 (by left),List.getElem?_take,if_pos i]
 rw[h j (by left),y6 (by grind),y6 (by left)];left
def pR(e1:c1.σ=c0.σ)(MC:Ok C c1)(n1:Nx c0 c1)(hw:Walk C c1 rs xs J)(h3:W (bQ k t tc me rs xs []) c1.st λq g=>W (pure (Kd.own,U.lst q)) g (cM C c0 Q)):wR k J (tG C t (hW k)) (NI C tc) (MD C me) Q c0.σ c1.H:=by
 show#[λi m ys H=>∃c f,c.H=H/\c.σ=c0.σ/\Ok C c/\Nx c1 c/\m=-xs - i/\i<=-xs/\av C c.S c.H f ys/\-f<=et/\W (bQ k t tc me rs (xs.drop i) f) c.st λq g=>W (pure (Kd.own,U.lst q)) g (cM C c0 Q),#[-xs,c1,[],9,e1,MC,Nx.refl c1,by simp,ri _,9,ri _,by assumption],?_];rintro i m ys H ⟨c,f,rfl,T,y,A,rfl,hi,l,B,w⟩;show#[by rw[<-l.len];omega,?_];let h:lJ rs c1 c:=λj u _=>by rw[T,e1]
 by_cases Nb:i< -xs
 .right
  rw[Ym Nb]at w;rw[show bQ k t tc me rs (xs[i]::xs.drop (i+1)) f=aG rs >>= λ_=>inScope k (dC t (hW k) xs[i] >>= λ_=>tc >>= λb=>if b=cb then(me >>= λr=>lift r >>= λu=>pure (bD u)) else pure cK) >>= λr=>match r with|some u=>if ⇑f<et then bQ k t tc me rs (xs.drop (i+1)) (f++[u]) else M.fail|none=>bQ k t tc me rs (xs.drop (i+1)) f from rfl,ai,cD]at w;let(QA,w):=w;let(Y,_):=hw c y A h QA;let(Vd,T7,Wm):=Y i xs[i] (by simp);show#[T7,λOt G=>∃c f,c.H=G/\c.σ=c0.σ/\Ok C c/\Nx c1 c/\av C c.S c.H f Ot/\-f<=et/\W (bQ k t tc me rs (xs.drop (i+1)) f) c.st λq g=>W (pure (Kd.own,U.lst q)) g (cM C c0 Q),λOt G ⟨c',UQ,z1,z2,z3,z4,z5,z6,z7⟩=>#[-xs - (i+1),by omega,c',UQ,z1,z2,z3,z4,9,Nb,z5,z6,z7],λx G hy=>?_];let(n,rfl,e4,e5,MS,n2,I):=Wm x G hy;rw[ai,zf,ai]at w;let(Wn,nx):=MS.ext k;let ab:aK C (n.ext k) (n.ext k) xs[i].1 xs[i].2 x:=by
   obtain z|z:=Vd
   .rw[z]at I ⊢;show I
   rw[z]at I ⊢;show I
  let eσ:(n.ext k).σ=rr k cK++c0.σ:=by rw[Cf.ext];change rr k cK++n.σ=_;rw[e4,T]
  show#[n.ext k,n.ext k,xs[i],eσ,9,Wn,Wn,Nx.refl _,ab,?_];let Y1:(n.ext k).st=rr k cK++c.st:=by rw[Cf.ext];change rr k cK++n.st=_;rw[e5]
  rw[Y1];show w.mono λ_ M8 w3 c3 e6 PJ n3 Ve Tq=>?_;subst e6;rw[eσ]at Ve Tq;let(ac,PB,OJ):=ES Ve Tq;show#[ac,PB,OJ,?_];let D:Nx c c3:=(n2.trans nx).trans n3;rw[ai]at w3;show#[c3,9,9,PJ,w3.mono λb TC w4 N e7 e8 T8 n4=>?_];subst e8;cases b with
  |false=>rw[if_neg RR]at w4 ⊢;rw[au]at w4;let(Y2,nk):=T8.cut k;let nn:Nx c (N.cut k):=(D.trans n4).trans nk;show#[N.cut k,f,9,?_,Y2,A.trans nn,l.mv (y.mv nn),B,w4];change N.σ.drop k=_;rw[e7,OJ,Đ PB]|true =>
   rw[if_pos rfl]at w4 ⊢;rw[ai]at w4;show#[N,e7,9,T8,w4.mono λr P9 w5 c5 v e9 ag al n5 am=>?_];subst ag;rw[ai]at w5;let(S',g,u,sS,an,n6,Y3,w6,_,_):=iA T8 al n5 am.w w5;rw[au]at w6
   dsimp only at w6
   split at w6
   .rename_i hz;let(Y2,nk):=an.cut k;let nn:Nx c (Cf.cut k {c5 with S:=S',st:=g }):=((D.trans n4).trans n6).trans nk;show#[Cf.cut k {c5 with S:=S',st:=g },f++[u],9,?_,Y2,A.trans nn,(l.mv (y.mv nn)).snoc Y3,by rw[ro];show hz,w6];change c5.σ.drop k=_;rw[e9,OJ,Đ PB]
   show(bE.mp w6).elim
 apply Or.inl
 let N2:i=-xs:=7
 subst N2;rw[aal,show bQ k t tc me rs [] f=aG rs >>= λ_=>pure f from rfl,ai,cD,au,au]at w;let(_,Y):=hw c y A h w.1;show#[Y _ (i9 _),λp hp=>cM.list w.2 T y (n1.trans A) l p hp]
def pS(ok:Ok C c0) (h:W (ms >>= λf=>aG f >>= λ_=>M.MU (Ol n f) >>= λi=>bQ k t tc me f i [] >>= λq=>pure (Kd.own,U.lst q)) c0.st (cM C c0 Q)) :AE k (Qb C n ms) (tG C t (hW k)) (NI C tc) (MD C me) c0.σ c0.H Q:=by rw[ai]at h;show#[c0,9,9,ok,?_];rw[ai];show h.mono λf r g=>?_;rw[ai,cD]at g ⊢;show#[g.1,?_];let j:=g.2;rw[ai]at j ⊢;show j.mono λi u l=>?_;rw[au];intro c1 J v w x y A z;rw[ai]at l;subst w;show pR v x y z l
def BG(S:cZ X N own f)(j:X.calm=4)(k:PI X tg iter (Qb C l ms)) (n:∀D s H g,PG (NC X N f D s H g) tg (tG C t (hW ⇑own))) (q:∀D s H g,QK (NC X N f D s H g) ifs (NI C tc)) (r:∀D s H g,PE (NC X N f D s H g) elt (MD C me)) (hs:∀x,VT iter X.env x=pure x) :PE X (.ListComp elt [⟨tg,iter,ifs,0⟩] f pos) (MD C (ms >>= λi=>aG i >>= λ_=>M.MU (Ol l i) >>= λu=>bQ ⇑own t tc me i u [] >>= λv=>pure (.own,.lst v))):=by show PE.weak (wU S j k n q r hs) ?_;rintro σ H Q ⟨c0,rfl,rfl,ok,h⟩;show pS ok h
end
section
variable{a b d e o tg iter elt:sL}{es ifs:List sL}{m ma mb md me:M (Kd×U)}{ms:M (List (Kd×U))}{ta tb tc:M Bool}{pos p p2 apos J':Pos}{st:VU}{rest body:List VU}{f g mm:M Fl}{ns Wo:8->Bool}
def HZ(C:Ct)(c:Cf):Kd->U->V->6|.own,u,v=>∃r,v=.ref r/\C.H₀ r=cK/\¬c.S r/\¬c.R r/\dn C c.S c.H r u|.loc,u,v=>Rep C c.S c.H u v|.any,u,v=>Rep C (PS C c.S) c.H u v|_,_,_=>False
def L_(C:Ct)(Q:VK)(c:Cf):Kd->U->6|.io,u=>C.xw u c.H|k,u=>∀v,HZ C c k u v->Q v c.H
def Fin(C:Ct)(D:Ends)(f:Fl)(c:Cf):6:=match f with|.nx=>D.nx c.σ c.H|.rt k u=>L_ C D.rt c k u
def Kept(ns:8->Bool)(c h:Cf):6:=(∀j,ns j=4->h.σ[j]?=c.σ[j]?)/\-h.σ=-c.σ
def Kept.refl:Kept ns c c:=#[λ_ _=>9,9]
def Kept.trans(h:Kept ns c k)(i:Kept ns k l):Kept ns c l:=#[λj z=>(i.1 j z).trans (h.1 j z),i.2.trans h.2]
def Kept.le(i:∀j,Wo j=4->ns j=4)(h:Kept ns c k):Kept Wo c k:=#[λj z=>h.1 j (i j z),h.2]
def Kept.of(h:i.σ=c.σ):Kept ns c i:=#[λj z=>by rw[h],by rw[h]]
def lK(C:Ct)(i:Cf)(ns:8->Bool)(D:Ends)(f:Fl)(h:ay):6:=∀c,c.st=h->Ok C c->Ns i c->Kept ns i c->Fin C D f c
inductive Nv(C:Ct)(ns:8->Bool)(m:M Fl)(D:Ends)(σ:L2.St)(H:Hp):6|mk:∀c0:Cf,c0.σ=σ->c0.H=H->Ok C c0->W m c0.st (lK C c0 ns D)->Nv C ns m D σ H
def BH(ok:Ok C c)(n:Ns i c)(k:Kept ns i c)(h:W mm c.st (lK C i ns D)):Nv C ns mm D c.σ c.H :=#[c,9,9,ok,h.mono λf st j l e q r s=>j l e q (n.trans r) (k.trans s)]
def PS.weak(h:L2.PS X st t)(i:∀D σ H,j D σ H->t D σ H):L2.PS X st j:=λc s σ H D I q=>h c s σ H D I (i D σ H q)
def ND.weak(h:ND X rest t)(i:∀D σ H,j D σ H->t D σ H):ND X rest j:=λc s σ H D I q=>h c s σ H D I (i D σ H q)
def rj(i:∀j,Wo j=4->ns j=4)(h:Nv C Wo mm D σ H):Nv C ns mm D σ H :=let ⟨c,k,l,ok,w⟩:=h;⟨c,k,l,ok,w.mono λf st n q e r s t=>n q e r s (t.le i)⟩
def Ki:ND X [] (Nv C ns (pure .nx)):=by show ND.weak wG ?_;rintro D σ H ⟨c,rfl,rfl,ok,h⟩;rw[au]at h;show h c 9 ok (Ns.refl c) Kept.refl
def Kj(m:M Fl)(f:Fl):M Fl:=match f with|.nx=>m|f=>pure f
def H0(l:L2.PS X st (Nv C ns f))(n:ND X rest (Nv C ns g)):ND X (st::rest) (Nv C ns (f >>= Kj g)):=by show ND.weak (mO l n) ?_;rintro D σ H ⟨q,rfl,rfl,ok,h⟩;rw[ai]at h;show#[q,9,9,ok,h.mono λr s w t e c i j=>?_];subst e;cases r with|nx=>show BH c i j w|rt k u=>rw[show Kj g (.rt k u)=pure (.rt k u) from rfl,au]at w;show w t 9 c i j
def Kk(i:PE X a (MD C ma))(hs:YR a cK pos.line X.env=pure dt):L2.PS X (.Expr a pos) (Nv C ns (ma >>= λ_=>pure .nx)):=by show PS.weak (jD i hs) ?_;rintro D σ H ⟨j,rfl,rfl,ok,h⟩;show aW ok h λx c v t w=>?_;rw[au]at w;let:=w c 9 t.ok t.nx (Kept.of t.hσ);rw[<-t.hσ];show this
def BI(ok:Ok C Q)(t:Rm C Q c x v)(w:W (retS x) c.st (lK C Q ns D)):D.rt v c.H:=by
 let(k,u):=x;let(G,l,n,r):=t;cases k with
 |own=>rw[show retS (.own,u)=pure (.rt .own u) from rfl,au]at w;let(B,e,h1,h2,h3,h4):=r;show w c 9 l n (Kept.of G) v #[B,e,(ok.iP h1).1,h2,h3,h4]|loc=>rw[show retS (.loc,u)=pure (.rt .loc u) from rfl,au]at w;show w c 9 l n (Kept.of G) v r|any =>
  rw[show retS (.any,u)=if MJ u=cb then pure (.rt .loc u) else pure (.rt .any u) from rfl]at w;split at w
  .rw[au]at w;show w c 9 l n (Kept.of G) v (Rep.MJ (by omega) r)
  rw[au]at w;show w c 9 l n (Kept.of G) v r
 |bor j =>
  let(fl,ac,e,w):=w;rw[show retS (.bor j,u) c.st=match c.st[j]? with|some (bD (.own,u))=>bD _|_=>cK from rfl]at e;split at e
  .rename_i J N;ext e;let Ro:j< -c.st:=(gj.mp N).1;let A:∀(i:8) k J,(c.st.set j cK)[i]?\bD (k,J)->i≠j/\c.st[i]?\bD (k,J):=λi k J e=>by
    by_cases OE:i=j
    .simp_all
    rw[ko (uk OE)]at e;show#[OE,e]
   let(v',s,B,er,q1,q2,q3,q4):=l.sl j _ _ N;let T:c.σ[j]?\bD v:=r.2;rw[T]at s;ext s;subst er;let Pe:∀a,({c with st:=c.st.set j cK}:Cf).R1 a->c.R1 a:=λa ⟨i,k,h,hk,s,y⟩=>#[i,k,h,hk,(A i k h s).2,y]
   let hR:∀a,({c with st:=c.st.set j cK}:Cf).R a->c.R a:=λa z=>z.elim (λz=>.inl (Pe a z)) λ⟨i,h,Y,s,y,I⟩=>.inr #[i,h,Y,(A i .A' h s).2,y,I];let Rn:Qa C {c with st:=c.st.set j cK}:=l.dd.of 9 (λi h e=>#[(A i .A' h e).2,9]) (λa z=>.inl (Pe a z)) (.up λ_ z=>z) λi a z=>#[(l.root (.inr #[i,z])).1,λo q=>q]
   let ab:Ok C {c with st:=c.st.set j cK}:=#[l.same,l.Ov,l.par,l.io,by simp[l.len],λi k h e=>l.sl i k h (A i k h e).2,λi i' k k' u1 h r hk Ny s y I e4=>l.inj i i' k k' u1 h r hk Ny (A i k u1 s).2 (A i' k' h y).2 I e4,Rn]
   let nn:Ns Q {c with st:=c.st.set j cK}:=#[n.keep,n.there,λa z=>n.roots a (hR a z),n.sub,n.new]
   show w _ 9 ab nn (Kept.of G) (.ref B) #[B,9,q3,q1,λz=>?_,q4]
   obtain⟨i,k,h,hk,s,y⟩|⟨i,h,Y,s,y,I⟩:=z
   .let(ne,Nq):=A i k h s;show ne (l.inj i j k .own h _ B hk 9 Nq N y T)
   show l.dd.d1 i B #[h,Y,(A i .A' h s).2,y,I] #[j,.own,_,9,N,T]
  ext e
 |_=>show r.elim
def Kl(i:PE X a (MD C ma)):L2.PS X (.Return (bD a) pos) (Nv C ns (ma >>= retS)):=by show PS.weak (Ac i) ?_;rintro D σ H ⟨j,rfl,rfl,ok,h⟩;show aW ok h λx c v t w=>BI ok t w
end
def tK(f:∀j,g j=4->j≠i)(h:Ok C a)(t:Rm C a c r v)(k:i< -c.σ)(w:W (gk i r >>= λ_=>(pure .nx:M Fl)) c.st (lK C a g D)):D.nx (a.σ.set i (bD v)) c.H:=by rw[ai]at w;let(d,b,l,m,n,q):=xB  h t.ok t.nx k t.rx w;rw[au]at q;let z:=q d 9 m n #[λj o=>by rw[b,t.hσ,ko (uk (f j o))],by rw[b,t.hσ];simp];let e:D.nx _ d.H:=z;rw[b,l,t.hσ]at e;show e
def F_(k:∀j,l j=4->j≠i)(m:X.N.Nodup)(f:X.N[i]?\x)(n:Loc X.env.scope x)(o:X.fn x=4\/X.env.scope.names.lookup x\.local)(p:PE X a (MD C q)) (hs:YR a (bD (.Name x b)) e.line X.env=pure dt):L2.PS X (.Assign [.Name x b] a e) (Nv C l (q >>= λr=>gk i r >>= λ_=>pure .nx)):=by
 rintro d s σ H D I ⟨g,rfl,rfl,ok,h⟩;let u:i< -g.σ:=by rw[I.len];show(gj.mp f).1
 show uM m f n p hs o d s _ g.H D I (aW ok h λr c v t w=>tK k ok t (by rw[t.hσ];omega) w)
def H9(q:∀j,u j=4->j≠i)(S:cZ X N own a)(z:X.calm=4)(A:X.N.Nodup)(o:X.N[i]?\y)(B:X.env.scope.names.lookup y\.local) (G:PI X k b (Qb C J ms)) (Q:∀D s H d,PG (NC X N a D s H d) k (tG C t (hW ⇑own))) (T:∀D s H d,QK (NC X N a D s H d) e (NI C Y)) (he:∀D s H d,PE (NC X N a D s H d) f (MD C me)) (RF:YR (.ListComp f [⟨k,b,e,0⟩] a l) (bD (.Name y py)) PU.line X.env=pure 4) (hs:∀x,VT b X.env x=pure x) :L2.PS X (.Assign [.Name y py] (.ListComp f [⟨k,b,e,0⟩] a l) PU) (Nv C u ((ms >>= λm=>aG m >>= λ_=>M.MU (Ol J m) >>= λxs=>bQ ⇑own t Y me m xs [] >>= λus=>pure (.own,.lst us)) >>= λr=>gk i r >>= λ_=>pure .nx)):=by
 rintro g s σ H D I ⟨p,rfl,rfl,ok,h⟩;let Nn:i< -p.σ:=by rw[I.len];show(gj.mp o).1
 show DW S z A o B G Q T he RF hs g s _ p.H D I ?_;rw[ai]at h;show pS ok (h.mono λr ab w c v e1 e2 M4 n rt=>?_);subst e2;show tK q ok #[e1,M4,n,rt] (by left) w
def H_(g:∀j,i j=4->j∉f)(k:PE X a (MD C l))(m:PG X b (tG C 4 f))(hs:Č [b] a d.line X.env=pure dt)(n:Ņ [b] a X.env=pure cK)(o:(Å [b] X.env).map (·.2)=[ō b X.env]):L2.PS X (.Assign [b] a d) (Nv C i (l >>= λr=>dC 4 f r >>= λ_=>pure .nx)):=by show PS.weak (uL k m hs n o) ?_;rintro D σ H ⟨p,rfl,rfl,ok,h⟩;show aW ok h λr c v t w=>?_;rw[ai]at w;show#[p,c,r,t.hσ,9,ok,t.ok,t.nx,t.rx,w.mono λ_ q w1 s e u x y hl=>?_];subst e;rw[au]at w1;show w1 s 9 u x #[λj z=>by rw[y j (g j z),t.hσ],by rw[hl,t.hσ]]
def Km(i:PT X a (NI C j))(k:ND X l (Nv C b f))(m:ND X o (Nv C b g)):L2.PS X (.If a l o q) (Nv C b (j >>= λp=>if p=4 then f else g)):=by show PS.weak (Jy i k m) ?_;rintro D σ H ⟨s,rfl,rfl,ok,h⟩;show g9 ok h λp c d r n w=>?_;let e:=d.symm;rw[e];cases p with|_=>show BH r n (Kept.of d) w
def Ko(T:ű (il X.prog X.w) X.A X.env X.xe)(Y:PT X a (NI C g))(hb:ND X j (Nv C i f)):L2.PS X (.While a j [] ab) (Nv C i (kK g f n)):=by
 show PS.weak (Af T Y hb) ?_;rintro D σ H ⟨d,rfl,rfl,ok,h⟩;show#[λm t v=>∃c,c.H=v/\c.σ=t/\Ok C c/\Ns d c/\Kept i d c/\W (kK g f m) c.st (lK C d i D),#[n,d,9,9,ok,Ns.refl d,Kept.refl,h],?_];rintro m t v ⟨c,rfl,rfl,M4,x,y,w⟩;cases m with
 |zero=>show(bE.mp w).elim|succ m =>
  rw[show kK g f (m+1)=g >>= λb=>if b=cb then(f >>= λf'=>match f' with|.nx=>kK g f m|.rt k u=>pure (.rt k u)) else pure .nx from rfl]at w;show g9 M4 w λp s B G I w2=>?_;let J:Kept i c s:=Kept.of B;rw[<-B];cases p with
  |false=>rw[if_neg RR]at w2 ⊢;rw[au]at w2;show w2 s 9 G (x.trans I) (y.trans J)
  |true =>
   rw[if_pos rfl]at w2 ⊢;show#[λl o=>∃c,c.H=o/\c.σ=l/\Ok C c/\Ns d c/\Kept i d c/\W (kK g f m) c.st (lK C d i D),λl o z=>#[m,ă m,z],?_];rw[ai]at w2;show#[s,9,9,G,w2.mono λfl M8 w3 N e Q n3 k3=>?_];subst e;let q:=(x.trans I).trans n3;let r:=(y.trans J).trans k3;cases fl with
   |nx=>show#[N,9,9,Q,q,r,w3]
   |rt k u=>rw[au]at w3;show w3 N 9 Q q r
def Kp(hp:ű (il X.prog X.w) X.A X.env X.xe)(hc:X.calm=4)(hi:PI X tg g (Qb C ik ms))(hg:PG X tg (tG C t d))(hb:ND X q (Nv C (Om T) f))(hs:∀x,VT g X.env x=pure x) (NP:∀j,o j=4->j∉d/\Om T j=4) :L2.PS X (.For tg g q [] al) (Nv C o (ms >>= λb=>aG b >>= λ_=>M.MU (Ol ik b) >>= λa=>if tF b d T=4 then forM t d f b a else M.fail)):=by
 show PS.weak (GY hp hc hi hg hb hs) ?_;rintro D σ H ⟨p,rfl,rfl,ok,h⟩;rw[ai]at h;show#[p,9,9,ok,?_];rw[ai];show h.mono λb am Y=>?_;rw[ai,cD]at Y ⊢;show#[Y.1,?_];let h2:=Y.2;rw[ai]at h2 ⊢;show h2.mono λa an h3=>?_;rw[au];intro l J e1 e2 MC n1 Mt hw;subst e2
 dsimp only at Mt hw
 split at h3
 .rename_i S4;let Y4:∀j u,(Kd.bor j,u)∈b->j∉d/\Om T j=4:=λj u I=>by let:=y7.mp S4 _ I;exists this
  show#[λi m r n=>∃c,c.H=n/\c.σ=r/\Ok C c/\Ns l c/\Kept o p c/\lJ b l c/\m=-a - i/\i<=-a/\W (forM t d f b (a.drop i)) c.st (lK C p o D),
   #[-a,l,9,e1,MC,Ns.refl l,Kept.of e1,λ_ _ _=>9,by simp,ri _,by exists h3],?_]
  rintro i m r n ⟨c,rfl,rfl,M4,N,kc,fx,rfl,N2,w⟩;by_cases Nb:i< -a
  .right
   rw[Ym Nb,show forM t d f b (a[i]::a.drop (i+1))=aG b >>= λ_=>dC t d a[i] >>= λ_=>f >>= λf'=>match f' with|.nx=>forM t d f b (a.drop (i+1))|.rt k u=>pure (.rt k u) from rfl,ai,cD]at w;let(QA,w):=w;let(wk,_):=hw c M4 N fx QA;let(Vd,T7,Wm):=wk i a[i] (by simp[Nb]);show#[T7,λr n=>∃c,c.H=n/\c.σ=r/\Ok C c/\Ns l c/\Kept o p c/\lJ b l c/\W (forM t d f b (a.drop (i+1))) c.st (lK C p o D),λr n ⟨c',z1,z2,z3,z4,z5,z6,z7⟩=>#[-a - (i+1),by omega,c',z1,z2,z3,z4,z5,z6,9,Nb,z7],λx n hy=>?_];let(s,rfl,Q,e5,MS,n2,rt):=Wm x n hy;rw[ai]at w;let ab:aK C s s a[i].1 a[i].2 x:=by
    obtain z|z:=Vd
    .rw[z]at rt ⊢;show rt
    rw[z]at rt ⊢;show rt
   show#[s,s,a[i],Q,9,MS,MS,Nx.refl s,ab,?_];rw[e5];show w.mono λ_ M8 w3 c3 e6 PJ n3 v Tq=>?_;subst e6;rw[ai]at w3;show#[c3,9,9,PJ,w3.mono λfl TC w4 y e T8 n4 k4=>?_];subst e;let B:Ns l y:=((N.trans n2.toNs).trans n3.toNs).trans n4;let G:Kept o p y:=by show kc.trans #[λj hj=>?_,by rw[k4.2,Tq,Q]];let(j1,j2):=NP j hj;rw[k4.1 j j2,v j j1,Q]
   let ac:lJ b l y:=λj u I=>by let(j1,j2):=Y4 j u I;rw[k4.1 j j2,v j j1,Q];show fx j u I
   cases fl with|nx=>show#[y,9,9,T8,B,G,ac,w4]|rt k u=>rw[au]at w4;show w4 y 9 T8 (n1.toNs.trans B) G
  apply Or.inl
  let ag:i=-a:=7
  subst ag;rw[aal,show forM t d f b []=aG b >>= λ_=>pure .nx from rfl,ai,cD,au]at w;let(_,wk):=hw c M4 N fx w.1;show#[wk _ (i9 _),w.2 c 9 M4 (n1.toNs.trans N) kc]
 show(bE.mp h3).elim
def Ok.mod(ok:Ok C c)(n:Ns c0 c)(hk:k.root=4)(A:c.st[i]?\bD (k,u))(B:c.σ[i]?\bD (.ref r))(M_:∀a,a≠r->H' a=c.H a)(hr:∃o,H' r\o) (G:Mv c.S c.H c.S H'->dn C c.S H' r u'):Ok C {c with H:=H',st:=c.st.set i (bD (k,u'))}/\Ns c0 {c with H:=H',st:=c.st.set i (bD (k,u'))}:=by
 let Pe:c.R1 r:=#[i,k,u,hk,A,B]
 let hR:c.R r:=.inl Pe;let(I,q2,q3,o,ho,Rp):=ok.root hR;let Nn:i< -c.st:=(gj.mp A).1;let m:∀{a} {b},a≠r->c.H a\b->H' a\b:=λJ e=>by rw[M_ _ J];show e
 let D:Mv c.S c.H c.S H':=#[λ_ z=>z,λa b e t=>m (λz=>by left) e,λa b z e=>m (λp=>I (p▸z)) e]
 let QQ:Mv (PS C c.S) c.H (PS C c.S) H':=#[λ_ z=>z,D.TZ,λa b z e=>m (λp=>by subst p;show z.elim q2 I) e]
 let N:∀j d w,(c.st.set i (bD (k,u')))[j]?\bD (d,w)->j≠i->c.st[j]?\bD (d,w):=λj d w e J=>by rw[ko (uk J)]at e;show e
 let f:∀(j:8) d w,d.root=4->(c.st.set i (bD (k,u')))[j]?\bD (d,w)->∃Q,c.st[j]?\bD (d,Q):=λj d w _ e=>by
  by_cases q:j=i
  .simp_all
  show#[w,N j d w e q]
 let b1:∀a,{c with H:=H',st:=c.st.set i (bD (k,u'))}.R1 a->c.R1 a:=λa MO=>by let(j,d,w,g,h,l):=MO;let(Q,T):=f j d w g h;show#[j,d,Q,g,T,l]
 let dD:∀(j:8) w,(c.st.set i (bD (k,u')))[j]?\bD (.A',w)->c.st[j]?\bD (.A',w):=λj w e=>by
  by_cases q:j=i
  .subst q;rw[hH Nn]at e;ext e hk
  show N j .A' w e q
 let Rn:Qa C {c with H:=H',st:=c.st.set i (bD (k,u'))}:=ok.dd.of 9 (λj w e=>#[dD j w e,9]) (λa z=>.inl (b1 a z)) D λj a z=>#[(ok.root (.inr #[j,z])).1,λb e=>m (λp=>ok.dd.d1 j a z (p▸Pe)) e]
 show#[#[λa b e z=>?_,λa z=>?_,ok.par,λa z=>?_,by simp[ok.len],λj d w e=>?_,λj1 j2 k1 k2 w1 w2 s g x h l Y e4=>?_,Rn],n.trans #[λa b e z=>m (λp=>z (p▸hR)) e,λa b e=>?_,λa z=>?_,λ_ z=>z,λ_ z=>.inl z]]
 .let g:=ok.same a b e z;show m (λp=>?_) g;left
 .let(g,b,x):=ok.Ov a z;show#[g,b,m (λp=>I (p▸z)) x]
 .let(g,b,x):=ok.io a z;show#[g,?_];by_cases ha:a=r
  .simp_all
  show#[b,m ha x]
 .by_cases q:j=i
  .subst q;rw[hH Nn]at e;ext e;let(v,h,l):=ok.sl j _ _ A;rw[B]at h;ext h;show#[.ref r,B,?_];let nr:=G D;cases k with|own=>let(s,y,z1,z2,z3,_):=l;ext y;show#[r,9,z1,z2,z3,nr]|io=>let(s,y,z1,z2,z3,_):=l;ext y;show#[r,9,z1,z2,z3,nr]|_=>ext hk
  let e0:=N j d w e q;let(v,h,l):=ok.sl j d w e0;show#[v,h,l.mv D QQ λNy s y=>?_];let(Va,Oe,z1,_):=l.rt Ny;rw[y]at Oe;ext Oe;show#[z1,λb e=>m (λz=>?_) e];subst z;show q (ok.inj j i d k w u s Ny hk e0 A (by rw[h,y]) B)
 .let(Wq,T):=f j1 k1 w1 g h;let(ab,a2):=f j2 k2 w2 x l;show ok.inj j1 j2 k1 k2 Wq ab s g x T a2 Y e4
 .by_cases ha:a=r
  .simp_all
  show#[b,m ha e]
 obtain z|⟨j,w,s,h,l,Y⟩:=z
 .show .inl (.inl (b1 a z))
 show .inl (.inr #[j,w,s,dD j w h,l,Y])
inductive MdS(i:8)(f:U->Option U)(st:ay)(Q:Unit->ay->6):6|mk:∀k u u',k.root=cb->st[i]?\bD (k,u)->f u\u'->Q () (st.set i (bD (k,u')))->MdS i f st Q
def iD{f}{st}(h:W (modS i f) st Q):MdS i f st Q:=by
 let(_,b,e,q):=h;unfold modS at e;split at e
 .rename_i k u hs;split at e
  .rename_i hk;cases a:f u with|none=>left|some c=>rw[a]at e;ext e;show#[k,u,c,hk,hs,a,q]
  ext e
 ext e
inductive GtS(i:8)(st:ay)(Q:Kd×U->ay->6):6|mk:∀k u,k≠.A'->st[i]?\bD (k,u)->Q (if k.root=cb then .bor i else k,u) st->GtS i st Q
def eR{st}(h:W (eE i) st Q):GtS i st Q:=by
 let(r,a,e,q):=h;unfold eE at e;split at e
 .cases e
 .rename_i k u b hs;ext e;show#[k,u,λz=>b z,hs,q]
 ext e
def Kq(hK:C.K=X.K)(hN:X.N[i]?\x)(hv:NA X.env.scope x)(hd:(x==("__debug__":5))=dt)(MN:(x==("__classdict__":5))=dt)(ha:PE X a (MD C ma)) (Nt:((QM l (mu [a] X.env)).all (λx=>!x.1)&&(Xl l (Sz [] X.env)).all (λx=>x.1.isSome)
   && gi ([a].length+⇑([]:↑V_)+(if ([]:↑V_).isEmpty then 0 else 1)<30))=4)
  (MG:(d.endLine==l.line)=4) (s:mu [a] X.env=[(dt,Oj a X.env)]) :
  L2.PS X (.Expr (.Call (.Attribute (.Name x px) "append" d) [a] [] l) ab) (Nv C ns (eE i >>= λx=>U9 x.2 >>= λ_=>ma >>= λr=>lift r >>= λu=>modS i (Es u) >>= λ_=>pure .nx)):=by
 show PS.weak (jD (wM F.plainAttrs_list F.slot_list_append F.type_list_append kA (bH hN hv hd MN) (d9 ha fB s) 9 Nt MG s 9)) ?_;rintro D σ H ⟨y,rfl,rfl,ok,h⟩;rw[ai]at h;let(b,A,Rq,B,h):=eR h;let(G,m,n):=ok.sl i b A B;show#[G,m,?_];cases A with
 |lst Y5 =>
  rw[ai,show U9 _=pure () from rfl,au]at h;let Y6:aK C y y (if b.root=4 then .bor i else b) (.lst Y5) G:=by
   by_cases hk:b.root=4
   .rw[if_pos hk];show#[#[b,hk,B],m]
   rw[if_neg hk];cases b with
   |loc=>show n
   |any=>show n
   |bor j=>show n.elim
   |A'=>show(Rq 9).elim
   |_=>show absurd 9 hk
  let(g,QS,o,VS,_):=Y6.list ok;show#[by rw[o];show .inl #[9,QS,hK▸VS],?_];show aW ok h λr c v t w=>?_;rw[ai]at w;let(S',ac,u,sS,I,n1,e,w1,_,_):=iA ok t.ok t.nx t.rx.w w;rw[ai]at w1;let(k,u1,u2,hk,hs,f,q):=iD w1;let J:c.σ[i]?\bD (.ref g):=by rw[t.hσ,m,o]
  cases u1 with
  |lst Q =>
   erw[Es]at f;split at f
   .rename_i hz;ext f;let(v',e1,e2):=I.sl i k (.lst Q) hs;let T:c.σ[i]?\bD v':=e1;rw[J]at T;ext T;let(r',er,_,_,_,p,hw,Y):=e2.rt hk;ext er;let QT:c.H g\.lst p:=hw;show#[g,p,v,o,9,QT,by rw[<-Y.len];show hz,?_];rw[au]at q;let(MS,n2):=Ok.mod  (H':=upd c.H g _) (u':=.lst (Q++[u])) I n1.toNs hk hs J (λa ne=>aj ne) ⟨_,ak⟩ λmv=>#[p++[v],ak,(Y.mv mv).snoc (e.mv mv)]
    let z:=q _ 9 MS n2 (Kept.of t.hσ);rw[<-t.hσ];show z
   ext f
  |_=>ext f
 |_=>show(bE.mp h).elim
def Kr(G:C.K=X.K)(hN:X.N[i]?\x)(hv:NA X.env.scope x)(hd:(x==("__debug__":5))=dt)(MN:(x==("__classdict__":5))=dt)(ha:PE X a (MD C ma)) (Nt:((QM n (mu [a] X.env)).all (λx=>!x.1)&&(Xl n (Sz [] X.env)).all (λx=>x.1.isSome)
   && gi ([a].length+⇑([]:↑V_)+(if ([]:↑V_).isEmpty then 0 else 1)<30))=4)
  (MG:(m.endLine==n.line)=4) (I:mu [a] X.env=[(dt,Oj a X.env)]) :
  L2.PS X (.Expr (.Call (.Attribute (.Name x px) "extend" m) [a] [] n) ab) (Nv C ns (eE i >>= λx=>U9 x.2 >>= λ_=>ma >>= λr=>modS i (pf r) >>= λ_=>pure .nx)):=by
 show PS.weak (jD (wM F.plainAttrs_list F.slot_list_extend F.type_list_extend vp (bH hN hv hd MN) (d9 ha fB I) 9 Nt MG I 9)) ?_;rintro D σ H ⟨J,rfl,rfl,ok,h⟩;rw[ai]at h;let(g,Q,Rq,T,h):=eR h;let(Y,o,p):=ok.sl i g Q T;show#[Y,o,?_];cases Q with
 |lst Y5 =>
  let Y6:aK C J J (if g.root=4 then .bor i else g) (.lst Y5) Y:=by
   by_cases hk:g.root=4
   .rw[if_pos hk];show#[#[g,hk,T],o]
   cases g with
   |loc=>show p
   |any=>show p
   |bor j=>show p.elim
   |A'=>show(Rq 9).elim
   |_=>show absurd 9 hk
  let(a0,QS,s,VS,_):=Y6.list ok;show#[by rw[s];show .inl #[9,QS,G▸VS],?_];show aW ok h λr c v t w=>?_;rw[ai]at w;let(k,u,u2,hk,hs,d,q):=iD w;let hσ:c.σ[i]?\bD (.ref a0):=by rw[t.hσ,o,s]
  let(rk,ru):=r;let y:∃l zs b e,u=.lst l/\v=.ref b/\(M3 C.K c.H b e\/MV C.K c.H b e)/\av C c.S c.H zs e/\-l+ -zs<=et/\u2=.lst (l++zs):=by
   cases ru with
   |lst zs =>
    cases u with
    |lst l =>
     erw[pf]at d;split at d
     .rename_i f;ext d;let(b,e,ev,A,B):=t.rx.list t.ok;show#[_,_,b,e,9,ev,.inl A,fO f.2 B,f.1,9]
     ext d
    |_=>simp[pf]at d
   |tup zs =>
    cases u with
    |lst l =>
     erw[pf]at d;split at d
     .rename_i f;ext d;let(b,e,ev,A,B):=t.rx.tuple t.ok;show#[_,_,b,e,9,ev,.inr A,fO f.2 B,f.1,9]
     ext d
    |_=>simp[pf]at d
   |_=>simp[pf]at d
  let(l,zs,b,e,rfl,rfl,hB,f,hl,rfl):=y;let(v',e1,e2):=t.ok.sl i k _ hs;rw[hσ]at e1;ext e1;let(r',er,_,_,_,ws,hw,N5):=e2.rt hk;ext er;show#[a0,b,ws,e,s,9,hw,G▸hB,by rw[<-N5.len,<-f.len];show hl,?_];rw[au]at q;let(MS,n2):=Ok.mod (c:=c)  (u':=.lst _) t.ok t.nx.toNs hk hs hσ (λa ne=>aj ne) ⟨_,ak⟩ λmv=>#[ws++e,ak,(N5.mv mv).append (f.mv mv)]
  let z:=q _ 9 MS n2 (Kept.of t.hσ);rw[<-t.hσ];show z
 |_=>show(bE.mp h).elim
def qo.or(h:qo X t)(g:qo X j):qo X (λo i v H Q=>t o i v H Q\/j o i v H Q):=λa s σ H o i v b c u Q I d e f q=>q.elim (h a s σ H o i v b c u Q I d e f) (g a s σ H o i v b c u Q I d e f)
def set_dict(d:X.A.units+1<R0):qo X (λo i v H Q=>∃a b,o=.ref a/\yJ H a i v b/\Q b):=by rintro c s σ H o i v k l u Q I e f h ⟨a,b,rfl,g,q⟩;ext e;show yL d I g f h λm j=>#[b,j,q]
def BJ{S}{a:↑(Key×V)}(b:a.map (·.1)=c.map vl)(f:av C S H d (a.map (·.2)))(g:Rep C S H u v):(putK a (vl y) v).map (·.1)=(dput c d y u).1.map vl/\av C S H (dput c d y u).2 ((putK a (vl y) v).map (·.2)):=by
 let h:(a.any λkv=>gi (kv.1=(vl y:Key)))=gi (y∈c):=by rw[jF];show(eQ (x:=y) b f).2
 unfold putK dput;rw[h];by_cases e:y∈c
 .rw[if_pos (by exists e),if_pos e];constructor
  .rw[lg];rw[<-b];apply QF;intro p _;change(if p.1=vl y then(p.1,v) else p).1=p.1;split<;>rfl
  clear h e;induction a generalizing c d with
  |nil =>
   let:c=[]:=by exists b.symm
   subst this;rfl
  |cons p a j =>
   cases c with
   |nil=>simp at b
   |cons k c =>
    cases d with
    |nil=>simp[av]at f
    |cons n d =>
     rw[k9,k9,Ï]at b;let(o,q,i,l,m):=f;rw[k9]at i;ext i;rw[k9,ĳ,k9,k9];show#[_,_,9,?_,j b.2 m];by_cases hk:k=y
     .rw[if_pos (by show hk),if_pos (by rw[b.1,hk])];show g
     rw[if_neg (by show hk),if_neg (by rw[b.1];intro z;show hk (Sum.inr.inj z))];show l
 rw[if_neg (by exists e),if_neg e];show#[by rw[nH,b,nH];rfl,by rw[nH];show f.snoc g]
def Ks(hP:C.P=X.prog)(hw:C.w=X.w)(hK:C.K=X.K)(hu:X.A.units+60<R0)(hN:X.N[i]?\x)(hv:NA X.env.scope x)(hd:(x==("__debug__":5))=dt)(MN:(x==("__classdict__":5))=dt) (ha:PE X a (MD C ma)) (hb:PE X b (MD C mb)) (hs:Č [.Subscript (.Name x px) b p] a ab.line X.env=pure dt) (Rr:Ņ [.Subscript (.Name x px) b p] a X.env=pure cK) (has:∀v,ō (.Subscript (.Name x px) b p) X.env v=(do
   let ov <-Vx [v] (Oj (.Name x px) X.env)
   let iv <-Vx [v,ov] (Oj b X.env)
   ğ p
   Vx [v,ov,iv] (Ġ ov iv v)
   ŝ [v,ov,iv] [])) :
  L2.PS X (.Assign [.Subscript (.Name x px) b p] a ab) (Nv C ns (ma >>= λr=>eE i >>= λ_=>mb >>= λx=>dU [r,x] >>= λg=>modS i (Bq g) >>= λ_=>pure .nx)):=by
 show PS.weak (uL ha (Ae (bH hN hv hd MN) hb (qo.or set_list (set_dict (X:=X) 7)) has) hs Rr 9) ?_;rintro D σ H ⟨c0,rfl,rfl,ok,h⟩;show aW ok h λr c v t w=>?_;rw[ai]at w;let(k0,u0,Rq,NX,w):=eR w;let(v0,e0,PK):=t.ok.sl i k0 u0 NX;show#[v0,by rw[<-t.hσ];show e0,?_];rw[ai]at w;show#[c,t.hσ,9,t.ok,w.mono λy an w2 f G e3 e4 MS n2 r2=>?_];subst e4;rw[ai]at w2;let Y7:=t.nx.trans n2;let rws:c_ C c0 f [r,y] [v,G]:=#[v,[G],9,t.rx.w.on t.ok n2 (e3.trans t.hσ.symm),#[G,[],9,(r2.w).from t.nx,9,λ_ i r' v' e _=>by simp at e],λhk i r' v' e5 e6 Ny=>by cases i with|zero=>simp at e5 e6;subst e5 e6;show ra t.rx.w r2.w hk Ny|succ i=>simp at e5]
 let(n,J,g,sS,MC,n1,l,w1):=jV ok MS Y7 rws w2;rw[ai]at w1;let(k,u1,u2,hk,OB,d,q):=iD w1;rw[au]at q;let hσ:f.σ[i]?\bD v0:=by rw[e3,<-t.hσ];show e0
 let(v',e1,e2):=MC.sl i k u1 OB;let Nq:f.σ[i]?\bD v':=e1;rw[hσ]at Nq;ext Nq;let(I,er,z1,z2,z3,m):=e2.rt hk;subst er;let ac:({f with S:=n,st:=J }:Cf).σ[i]?\bD (.ref I):=hσ;obtain⟨Wq,s,ew,Q,ap,ar,as,T,am⟩:∃u s,g=[u,s]/\Rep C n f.H u v/\∃(_:Unit) (_:Unit),True/\Rep C n f.H s G/\True:=by
  cases g with
  |nil=>simp[av]at l|cons u g =>
   let(_,_,e,q1,q2):=l;ext e;cases g with
   |nil=>simp[av]at q2
   |cons u' g =>
    let(_,_,e,q3,q4):=q2;ext e;cases g with
    |nil=>show#[u,u',9,q1,(),(),ttt,q3,ttt]
    |cons _ _=>let(_,_,e,_):=q4;ext e
 subst ew;rw[show Bq [Wq,s] u1=gY s Wq u1 from rfl]at d;let Y:∀{B:Hp} ,(∀a,a≠I->B a=f.H a)->(∃o,B I\o)->(Mv n f.H n B->dn C n B I u2)->D.nx c0.σ B:=λ{B} M_ hr ag=>by let(PJ,n3):=Ok.mod (c:={f with S:=n,st:=J }) (H':=B) (u':=u2) MC n1.toNs hk OB ac M_ hr ag;let z:=q _ 9 PJ n3 (Kept.of e3);rw[<-e3];show z
 cases u1 with
 |lst xs =>
  cases s with
  |int j=>erw[gY,i7]at d;let(j',hj,rfl):=d;let(vs,h1,h2):=m;let ey:G=.int j:=T;show .inl #[I,vs,j,j',9,ey,h1,by rw[<-h2.len];show hj,?_];show Y (λa ne=>aj ne) ⟨_,ak⟩ λmv=>#[vs.set j' v,ak,(h2.mv mv).set j' (Q.mv mv)]
  |_=>simp[gY]at d
 |Mr ks vs =>
  cases s with
  |str y' =>
   erw[gY]at d;split at d
   .rename_i hz;ext d;let(al,h1,h2,h3):=m;let ey:G=.str y':=T;subst ey;let hl:-al=-ks:=by let:=congrArg R' h2;exists this
    show .inr #[I,_,9,yJ.k (k:=vl y') h1 (by rw[hl];show hz),?_];show Y (λa ne=>aj ne) ⟨_,ak⟩ λmv=>?_;let(g1,g2):=BJ (y:=y') h2 h3 Q;show#[_,ak,g1,g2.mv mv]
   ext d
  |_=>simp[gY]at d
 |_=>simp[gY]at d
def Ok.slot(ok:Ok C c)(d:k≠.A')(hs:c.st[i]?\bD (k,u)):∃v,c.σ[i]?\bD v/\aK C c c (if k.root=4 then .bor i else k) u v:=by
 let(e,b,a):=ok.sl i k u hs;show#[e,b,?_];by_cases hk:k.root=4
 .rw[if_pos hk];show#[#[k,hk,hs],b]
 cases k with|loc=>show a|any=>show a|bor j=>show a.elim|A'=>show(d 9).elim|_=>show absurd 9 hk
end TM
namespace TM
open PySem L2 PyProof.Rows PySem.W
end TM
namespace TM
open PySem L2 PyProof.Rows
def Ok.ET(ok:Ok C c)(n:Ns Q c)(T:c.st[i]?\bD (.A',u))(A:c.σ[i]?\bD (.ref r))(M_:∀a,¬c.RD i a->H' a=c.H a)(Y:∀a o,c.H a\o->∃I,H' a\I) (ab:Mv c.S c.H c.S H'->bq C c.S H' r as' u') (has:∀a∈as',a∈c.kid i\/(¬c.R a/\Q.H a=cK)) :Ok C {c with H:=H',st:=c.st.set i (bD (.A',u')),kid:=λj=>if j=i then as' else c.kid j}/\Ns Q {c with H:=H',st:=c.st.set i (bD (.A',u')),kid:=λj=>if j=i then as' else c.kid j}:=by
 let Nn:i< -c.st:=(gj.mp T).1;let J:∀{a},c.RD i a->¬c.S a/\¬C.OF a/\(C.H₀ a=cK\/C.IO a)/\∃o,c.H a\o/\¬Tp o:=λz=>ok.root (.inr #[i,z]);let h0:∀{a},c.RD i a->C.H₀ a=cK\/C.IO a:=λ⟨u1,r1,f,b,e3⟩=>(bq.fr (ok.dd.kd i u1 r1 f b) _ (gs.mpr e3)).2.2;let p:∀{a:mn} {o:HO},¬c.RD i a->c.H a\o->H' a\o:=λz e=>by rw[M_ _ z];show e
 let N:Mv c.S c.H c.S H':=#[λ_ z=>z,λa o e t=>p (λz=>by let(_,_,_,I,h,nt):=J z;rw[e]at h;ext h;show nt t) e,λa o z e=>p (λl=>(J l).1 z) e]
 let QQ:Mv (PS C c.S) c.H (PS C c.S) H':=#[λ_ z=>z,N.TZ,λa o z e=>p (λl=>z.elim (J l).2.1 (J l).1) e]
 let B:∀(j:8) k w,(c.st.set i (bD (.A',u')))[j]?\bD (k,w)->j≠i->c.st[j]?\bD (k,w):=λj k w e ne=>by rw[ko (uk ne)]at e;show e
 let QB:∀(j:8) k w,k.root=4->(c.st.set i (bD (.A',u')))[j]?\bD (k,w)->c.st[j]?\bD (k,w):=λj k w hk e=>by
  by_cases d:j=i
  .subst d;rw[hH Nn]at e;ext e hk
  show B j k w e d
 let b1:∀a,({c with H:=H',st:=c.st.set i (bD (.A',u')),kid:=λj=>if j=i then as' else c.kid j}:Cf).R1 a->c.R1 a:=λa ⟨j,k,w,hk,f,b⟩=>#[j,k,w,hk,QB j k w hk f,b]
 let D:∀j a,({c with H:=H',st:=c.st.set i (bD (.A',u')),kid:=λj=>if j=i then as' else c.kid j}:Cf).RD j a->c.RD j a\/(j=i/\¬c.R a/\Q.H a=cK):=λj a MO=>by
  let(w,g,f,b,e3):=MO;by_cases d:j=i
  .subst d;let G:c.σ[j]?\bD (.ref g):=b;rw[A]at G;ext G;obtain rfl|e3:=e3
   .show .inl #[u,_,T,A,.inl 9]
   let QU:a∈as':=by exists e3
   obtain z|z:=has a QU
   .show .inl #[u,_,T,A,.inr z]
   show .inr #[9,z]
  let QU:a=g\/a∈c.kid j:=by simpa[d] using e3
  show .inl #[w,g,B j _ w f d,b,QU]
 show#[#[λa o e z=>p (λl=>(h0 l).elim (λy=>by rw[y]at e;ext e) z) (ok.same a o e z),λa z=>?_,ok.par,λa z=>?_,by simp[ok.len],λj k w e=>?_,λs q k1 k2 w1 w2 g h1 h2 f b e3 e4=>ok.inj s q k1 k2 w1 w2 g h1 h2 (QB s k1 w1 h1 f) (QB q k2 w2 h2 b) e3 e4,#[λj w g f b=>?_,λs q a z1 z2=>?_,λj a z1 z2=>?_]],#[λa o e z=>?_,λa o e=>?_,λa z=>?_,n.sub,n.new]]
 .let(q1,o,q2):=ok.Ov a z;show#[q1,Y a o q2]
 .let(q1,o,q2):=ok.io a z;show#[q1,Y a o q2]
 .by_cases d:j=i
  .subst d;rw[hH Nn]at e;ext e;show#[.ref r,A,r,9]
  let(v,f,b):=ok.sl j k w (B j k w e d);show#[v,f,b.mv N QQ λhk g er=>?_];let(Va,Oe,z1,_):=b.rt hk;rw[er]at Oe;ext Oe;show#[z1,λo h=>p (λz=>ok.dd.d1 i g z #[j,k,w,hk,B j k w e d,by rw[f,er]]) h]
 .by_cases d:j=i
  .subst d;rw[hH Nn]at f;ext f;let G:c.σ[j]?\bD (.ref g):=b;rw[A]at G;ext G;let z:=ab N;exists z
  let Nq:=B j _ w f d;let Ny:(if j=i then as' else c.kid j)=c.kid j:=if_neg d;change bq C c.S H' g (if j=i then as' else c.kid j) w;rw[Ny];show bq.mv N (λa ha=>#[(ok.root (.inr #[j,w,g,Nq,b,gs.mp ha])).1,λo h=>p (λz=>d (ok.dd.dj j i a #[w,g,Nq,b,gs.mp ha] z)) h]) (ok.dd.kd j w g Nq b)
 .rcases D s a z1 with m|⟨rfl,m,_⟩
  .rcases D q a z2 with x|⟨rfl,x,_⟩
   .show ok.dd.dj s q a m x
   show(x (.inr #[s,m])).elim
  obtain x|⟨rfl,x,_⟩:=D q a z2
  .show(m (.inr #[q,x])).elim
  rfl
 .rcases D j a z1 with m|⟨rfl,m,_⟩
  .show ok.dd.d1 j a m (b1 a z2)
  show m (.inl (b1 a z2))
 .show p (λl=>by
   obtain y|y:=n.roots a (.inr #[i,l])
   .show z y
   rw[e]at y;ext y) (n.keep a o e z)
 .let(I,h):=n.there a o e;show Y a I h
 obtain z|⟨j,z⟩:=z
 .show n.roots a (.inl (b1 a z))
 obtain y|⟨_,_,y⟩:=D j a z
 .show n.roots a (.inr #[j,y])
 show .inr y
def Ok.newD(ok:Ok C c)(x:c.H p=cK)(s:i< -c.σ):Ok C {c with H:=upd c.H p (.dK []),σ:=c.σ.set i (bD (.ref p)),st:=c.st.set i (bD (.A',.Mr [] [])),kid:=λj=>if j=i then [] else c.kid j}/\Ns c {c with H:=upd c.H p (.dK []),σ:=c.σ.set i (bD (.ref p)),st:=c.st.set i (bD (.A',.Mr [] [])),kid:=λj=>if j=i then [] else c.kid j}:=by
 let(m,T):=ok.lay (o:=.dK []) x;let(q1,q2,q3,q4,A):=ok.iP x;let B:i< -c.st:=by rw[ok.len];show s
 let t:∀(j:8) k w,(c.st.set i (bD (.A',.Mr [] [])))[j]?\bD (k,w)->j≠i->c.st[j]?\bD (k,w):=λj k w e D=>by rw[ko (uk D)]at e;show e
 let n:∀(j:8),j≠i->(c.σ.set i (bD (.ref p)))[j]?=c.σ[j]?:=λj D=>ko (uk D);let G:∀(j:8) k w,k.root=4->(c.st.set i (bD (.A',.Mr [] [])))[j]?\bD (k,w)->j≠i/\c.st[j]?\bD (k,w):=λj k w hk e=>by
  by_cases b:j=i
  .subst b;rw[hH B]at e;ext e hk
  show#[b,t j k w e b]
 let I:∀a,({c with H:=upd c.H p (.dK []),σ:=c.σ.set i (bD (.ref p)),st:=c.st.set i (bD (.A',.Mr [] [])),kid:=λj=>if j=i then [] else c.kid j}:Cf).R1 a->c.R1 a:=λa J=>by let(j,k,w,hk,d,f):=J;let(b,N):=G j k w hk d;show#[j,k,w,hk,N,by rw[<-n j b];show f]
 let q:∀j a,({c with H:=upd c.H p (.dK []),σ:=c.σ.set i (bD (.ref p)),st:=c.st.set i (bD (.A',.Mr [] [])),kid:=λj=>if j=i then [] else c.kid j}:Cf).RD j a->(j≠i/\c.RD j a)\/(j=i/\a=p):=λj a J=>by
  let(w,g,d,f,e3):=J;by_cases b:j=i
  .subst b;let r:(c.σ.set j (bD (.ref p)))[j]?\bD (.ref g):=f;rw[hH s]at r;ext r;obtain rfl|e3:=e3
   .show .inr #[9,9]
   simp at e3
  let QU:a=g\/a∈c.kid j:=by simpa[b] using e3
  show .inl #[b,w,g,t j _ w d b,by rw[<-n j b];show f,QU]
 show#[#[m.same,m.Ov,m.par,m.io,by simp[ok.len],λj k w e=>?_,λl h Y k2 w1 w2 g h1 h2 d f e3 e4=>?_,#[λj w g d f=>?_,λl h a z1 z2=>?_,λj a z1 z2=>?_]],#[T.keep,T.there,λa z=>?_,λ_ z=>z,λ_ z=>.inl z]]
 .by_cases b:j=i
  .subst b;rw[hH B]at e;ext e;show#[.ref p,hH s,p,9]
  let(v,d,f):=m.sl j k w (t j k w e b);show#[v,(n j b).trans d,f]
 .let(PF,a1):=G l Y w1 h1 d;let(Qx,a2):=G h k2 w2 h2 f;show ok.inj l h Y k2 w1 w2 g h1 h2 a1 a2 ((n l PF).symm.trans e3) ((n h Qx).symm.trans e4)
 .by_cases b:j=i
  .subst b;rw[hH B]at d;ext d;let r:(c.σ.set j (bD (.ref p)))[j]?\bD (.ref g):=f;rw[hH s]at r;ext r;change bq C c.S (upd c.H p (.dK [])) p (if j=j then [] else c.kid j) (.Mr [] []);rw[if_pos rfl];show#[[],ak,9,9,by simp,λa ha=>by rw[js.mp ha];show#[q2,q3,q1],9]
  let N:=t j _ w d b;let z:=m.dd.kd j w g N ((n j b).symm.trans f);change bq C c.S (upd c.H p (.dK [])) g (if j=i then [] else c.kid j) w;rw[if_neg b];show z
 .rcases q l a z1 with⟨_,u⟩|⟨rfl,rfl⟩
  .rcases q h a z2 with⟨_,Q⟩|⟨rfl,rfl⟩
   .show ok.dd.dj l h a u Q
   show(A (.inr #[l,u])).elim
  obtain⟨_,Q⟩|⟨rfl,_⟩:=q h a z2
  .show(A (.inr #[h,Q])).elim
  rfl
 .rcases q j a z1 with⟨_,u⟩|⟨rfl,rfl⟩
  .show ok.dd.d1 j a u (I a z2)
  show A (.inl (I a z2))
 obtain z|⟨j,z⟩:=z
 .show .inl (.inl (I a z))
 obtain⟨_,y⟩|⟨_,rfl⟩:=q j a z
 .show .inl (.inr #[j,y])
 show .inr x
theorem dS.rep{S S'}(hs:∀a,S a->S' a):∀{d}{c},(∀a∈c,S' a)->dS C S H d c->av C S' H d (c.map V.ref)|[],c,_,h=>by ext h;rfl|u::d,c,e,h=>by let(a,f,m,g,rfl,rfl,i,j,k):=h;show#[_,_,9,#[a,g,9,.inl #[e a (by simp),.inl i],j.mv (.up hs)],dS.rep hs (λb l=>e b (by simp[l])) k]
def Ok.Kt(ok:Ok C c)(n:Nx c0 c)(G:∃I J,u=.Mr I J)(hi:c.st[i]?\bD (.A',u))(t:c.σ[i]?\bD (.ref r)):Ok C {c with S:=λa=>c.S a\/a∈c.kid i,st:=c.st.set i (bD (.own,u))}/\Nx c0 {c with S:=λa=>c.S a\/a∈c.kid i,st:=c.st.set i (bD (.own,u))}:=by
 let Nn:i< -c.st:=(gj.mp hi).1;let(I,J,G):=G;let rd:=ok.dd.kd i u r hi t;let fr:=bq.YL (G▸rd);let f:∀a,(a=r\/a∈c.kid i)->c.RD i a:=λa z=>#[u,r,hi,t,z]
 let up:Mv c.S c.H (λa=>c.S a\/a∈c.kid i) c.H:=.up λa=>.inl;let ab:Mv (PS C c.S) c.H (PS C λa=>c.S a\/a∈c.kid i) c.H:=.up λa z=>z.imp id .inl;let Wr:r∉c.kid i/\dn C (λa=>c.S a\/a∈c.kid i) c.H r u:=by subst G;let(ac,N,Q,h3,h4,h5,h6):=rd;show#[(sx.mp h4).1,ac,N,Q,?_];rw[h3];show h6.rep (λa=>.inl) λa T=>.inr T
 let p:∀(j:8) k w,(c.st.set i (bD (.own,u)))[j]?\bD (k,w)->j≠i->c.st[j]?\bD (k,w):=λj k w e ne=>by rw[ko (uk ne)]at e;show e
 let b1:∀a,({c with S:=λa=>c.S a\/a∈c.kid i,st:=c.st.set i (bD (.own,u))}:Cf).R1 a->c.R1 a\/a=r:=λa MO=>by
  let(j,k,w,hk,g,h):=MO;by_cases b:j=i
  .subst b;let Nu:c.σ[j]?\bD (.ref a):=h;rw[t]at Nu;ext Nu;show .inr 9
  show .inl #[j,k,w,hk,p j k w g b,h]
 let x:∀j a,({c with S:=λa=>c.S a\/a∈c.kid i,st:=c.st.set i (bD (.own,u))}:Cf).RD j a->j≠i/\c.RD j a:=λj a MO=>by
  let(w,l,g,h,A):=MO;by_cases b:j=i
  .subst b;rw[hH Nn]at g;ext g
  show#[b,w,l,p j _ w g b,h,A]
 show#[#[ok.same,λa z=>?_,ok.par,ok.io,by simp[ok.len],λj k w e=>?_,λs m Y k2 w1 w2 l N Q g h A e4=>?_,#[λj w l g h=>?_,λs m a z1 z2=>ok.dd.dj s m a (x s a z1).2 (x m a z2).2,λj a z1 z2=>?_]],#[#[n.keep,n.there,λa z=>?_,λa z=>.inl (n.sub a z),λa z=>?_],λa ⟨j,z,I,J,d⟩=>n.dk a #[j,(x j a z).2,I,J,p j _ _ d (x j a z).1]]]
 .rcases z with z|z
  .show ok.Ov a z
  let(o,ho,_):=bq.there rd a (kj _ z);show#[(fr a (kj _ z)).2.2,o,ho]
 .by_cases b:j=i
  .subst b;rw[hH Nn]at e;ext e;let(q1,q2,q3):=fr r (my ..);show#[.ref r,t,r,9,λz=>z.elim q1 Wr.1,q2,q3,Wr.2]
  let(v,g,h):=ok.sl j k w (p j k w e b);show#[v,g,h.mv up ab λhk l er=>?_];let(Va,Oe,z1,_):=h.rt hk;rw[er]at Oe;ext Oe;show#[λz=>z.elim z1 λz=>ok.dd.d1 i l (f l (.inr z)) #[j,k,w,hk,p j k w e b,by rw[g,er]],λo q=>q]
 .by_cases PF:s=i
  .by_cases B:m=i
   .rw[PF,B]
   subst PF;let QU:c.σ[s]?\bD (.ref l):=A;rw[t]at QU;ext QU;show(ok.dd.d1 s r (f r (.inl 9)) #[m,k2,w2,Q,p m k2 w2 h B,e4]).elim
  by_cases B:m=i
  .subst B;let D:c.σ[m]?\bD (.ref l):=e4;rw[t]at D;ext D;show(ok.dd.d1 m r (f r (.inl 9)) #[s,Y,w1,N,p s Y w1 g PF,A]).elim
  show ok.inj s m Y k2 w1 w2 l N Q (p s Y w1 g PF) (p m k2 w2 h B) A e4
 .by_cases b:j=i
  .subst b;rw[hH Nn]at g;ext g
  let Nq:=p j _ w g b;show bq.mv up (λa T=>#[λz=>z.elim (ok.root (.inr #[j,w,l,Nq,h,gs.mp T])).1 λz=>b (ok.dd.dj j i a #[w,l,Nq,h,gs.mp T] (f a (.inr z))),λo q=>q]) (ok.dd.kd j w l Nq h)
 .let(b,y):=x j a z1;obtain z|z:=b1 a z2
  .show ok.dd.d1 j a y z
  subst z;show b (ok.dd.dj j i a y (f a (.inl 9)))
 .rcases z with z|⟨j,z⟩
  .rcases b1 a z with z|rfl
   .show n.roots a (.inl z)
   show n.roots a (.inr #[i,f a (.inl 9)])
  show n.roots a (.inr #[j,(x j a z).2])
 obtain z|z:=z
 .show n.new a z
 obtain y|y:=n.roots a (.inr #[i,f a (.inr z)])
 .show .inr (.inl y)
 show .inr (.inr y)
def EU(j:X.N[i]?\x)(k:NA X.env.scope x)(l:(x==("__debug__":5))=dt)(m:(x==("__classdict__":5))=dt):PE X (.Name x d) (MD C (Bo i)):=by
 let n:=rb (C:=C) (pos:=d) j k l m;rintro b s σ H Q I ⟨c,rfl,rfl,ok,r,f,e,h⟩;unfold Bo at e;split at e
 .rename_i t u hs;ext e;let(v,g,w,rfl):=ok.sl i _ _ hs;let(o,p):=ok.Kt (Nx.refl c) #[_,_,9] hs g;let q:=(gj.mp hs).1;show bH j k l m b s _ c.H Q I #[_,g,h {c with S:=λa=>c.S a\/a∈c.kid i,st:=c.st.set i _} _ 9 9 o p ⟨⟨.own,9,hH q⟩,g⟩]
 show n b s _ c.H Q I #[c,9,9,ok,r,f,e,h]
def iE{st}(h:W (jS i) st Q):∃a b,st[i]?\bD (.A',.Mr a b)/\Q (a,b) st:=by
 let(r,c,e,q):=h;unfold jS at e;split at e
 .rename_i a b hs;ext e;show#[a,b,hs,q]
 ext e
def iF{st}(h:W (l9 x) st Q):∃y,x.2=.str y/\Q y st:=by
 unfold l9 at h;split at h
 .rename_i y e;rw[au]at h;show#[y,e,h]
 show(bE.mp h).elim
inductive DcO(C:Ct)(c:Cf)(i:8)(ks:↑5)(us:↑U):6|mk:∀(r:mn) (kvs:↑(Key×V)),c.σ[i]?\bD (.ref r)->c.H r\.dK kvs->kvs.map (·.1)=ks.map vl->kvs.map (·.2)=(c.kid i).map V.ref->(r::c.kid i).Nodup->dS C c.S c.H us (c.kid i)->(∀y:Str,(eU kvs (vl y)).isSome=gi (y∈ks))->(∀(y:Str) (u:U),eD ks us y\u->∃v,eU kvs (vl y)\v/\Rep C (λa=>c.S a\/a∈c.kid i) c.H u v)->DcO C c i ks us
def Ok.Mr(ok:Ok C c)(f:c.st[i]?\bD (.A',.Mr l g)):DcO C c i l g:=by
 let(v,e,r,rfl):=ok.sl i _ _ f;let(b,m,d,h,n,p,j):=ok.dd.kd i _ r f e;let k:av C (λa=>c.S a\/a∈c.kid i) c.H g (b.map (·.2)):=by rw[h];show j.rep (λa=>.inl) λa o=>.inr o
 show#[r,b,e,m,d,h,n,j,λy=>(eQ  d k).2,λy=>(eQ  d k).1]
def tL{k:5->↑5 ×↑U->M β}{l}{Z:V->V->Hp->6}(ok:Ok C b)(h:W (p >>= λx=>l9 x >>= λy=>jS i >>= λd=>k y d) b.st l) (q:∀c y f g r a,c.σ=b.σ->Ok C c->Nx b c->c.H r\.dK a->(eU a (vl y)).isSome=gi (y∈f)->W (k y (f,g)) c.st l->Z (.str y) (.ref r) c.H) :MD C p b.σ b.H λv s=>∃m,b.σ[i]?\bD m/\Z v m s:=by show#[b,9,9,ok,?_];rw[ai]at h;show W.mono h λx t w c v o hs j n r=>?_;subst hs;let(D,G):=x;rw[ai]at w;let(y,e,w1):=iF w;clear w;subst e;let ev:=r.str j;subst ev;rw[ai]at w1;let(f,g,hs,w):=iE w1;let(u,a,z,A,_,_,_,_,B,_):=j.Mr hs;show#[_,by rw[<-o];show z,q c y f g u a o j n A (B y) w]
def Ic(a:Bool):CmpOp:=if a=4 then .NotIn else .In
def Ie(g:∀j,k j=4->j≠i)(l:X.N.Nodup)(d:X.N[i]?\x)(m:Loc X.env.scope x)(n:X.fn x=4\/X.env.scope.names.lookup x\.local) (hs:YR (.Dict [] [] p) (bD (.Name x a)) c.line X.env=pure dt):L2.PS X (.Assign [.Name x a] (.Dict [] [] p) c) (Nv C k (F7 i >>= λ_=>pure .nx)):=by
 rintro b s σ H D I ⟨f,rfl,rfl,ok,h⟩;let o:i< -f.σ:=by rw[I.len];show(gj.mp d).1
 show uM l d m sC hs n b s _ f.H D I λq r=>?_;let(t,u):=ok.newD r o;rw[ai]at h;let(_,v,e,w):=h;ext e;rw[au]at w;show w _ 9 t u #[λj y=>ko (uk (g j y)),by simp]
def EV(Y:X.A.units+60<R0)(o:X.N[i]?\x)(p:NA X.env.scope x)(q:(x==("__debug__":5))=dt)(t:(x==("__classdict__":5))=dt)(u:PE X a (MD C B))(v:ç (Ic e) (.Name x D)=dt):PT X (.Compare a [Ic e] [.Name x D] G) (NI C (B >>= λx=>l9 x >>= λy=>jS i >>= λd=>pure (YM e y d.1))):=by rintro b s σ H Q I ⟨z,rfl,rfl,ok,h⟩;cases e with|false=>show Ab (Hc (by omega) u (bH o p q t)) v b s _ z.H Q I (tL  ok h λc y J T r f g j n l m w=>?_);rw[au]at w;show#[r,_,9,gQ.k (k:=vl y) l,?_];rw[m];show#[_,9,w c g 9 j n]|true=>show Ab (yM (by omega) u (bH o p q t)) v b s _ z.H Q I (tL  ok h λc y J T r f g j n l m w=>?_);rw[au]at w;show#[r,_,9,gQ.k (k:=vl y) l,?_];rw[m];show#[_,9,w c g 9 j n]
theorem dS.snoc{S}{a}(d:H a\.lst f)(g:av C S H i f):∀{c}{b},dS C S H c b->dS C S H (c++[.lst i]) (b++[a])|[],b,h=>by ext h;show#[a,[],i,f,9,9,d,g,9]|u::c,b,h=>by let(j,k,l,m,rfl,e,n,o,p):=h;show#[j,_,l,m,9,e,n,o,dS.snoc d g p]
def vJ{st}(h:W (nO i y r) st Q):∃b a c,r=(.own,.lst b)/\st[i]?\bD (.A',.Mr a c)/\y∉a/\-a<et/\Q () (st.set i (bD (.A',.Mr (a++[y]) (c++[.lst b])))):=by
 let(k,u):=r;cases k<;>cases u<;>first|show(bE.mp h).elim|skip
 rename_i b;let(_,f,e,q):=h;unfold nO at e
 dsimp only at e
 split at e
 .rename_i a c hs;split at e
  .rename_i d;ext e;show#[b,a,c,9,hs,d.1,d.2,q]
  ext e
 ext e
def Ig{i}{x}{l}(hu:X.A.units+60<R0)(hN:X.N[i]?\x)(hv:NA X.env.scope x)(hd:(x==("__debug__":5))=dt)(MN:(x==("__classdict__":5))=dt) (ha:PE X a (MD C ma)) (I:PE X b (MD C mb)) (hs:Č [.Subscript (.Name x l) b p] a J.line X.env=pure dt) (Rr:Ņ [.Subscript (.Name x l) b p] a X.env=pure cK) (has:∀v,ō (.Subscript (.Name x l) b p) X.env v=(do
   let u <-Vx [v] (Oj (.Name x l) X.env)
   let Q <-Vx [v,u] (Oj b X.env)
   ğ p
   Vx [v,u,Q] (Ġ u Q v)
   ŝ [v,u,Q] [])) :
  L2.PS X (.Assign [.Subscript (.Name x l) b p] a J) (Nv C ns (ma >>= λr=>jS i >>= λ_=>mb >>= λx=>l9 x >>= λy=>nO i y r >>= λ_=>pure .nx)):=by
 show PS.weak (uL ha (Ae (bH hN hv hd MN) I (set_dict (X:=X) (by omega)) has) hs Rr 9) ?_;rintro D σ H ⟨c0,rfl,rfl,ok,h⟩;show aW ok h λr c v t w=>?_;rw[ai]at w;let(ab,ac,NX,w):=iE w;let(r0,S5,e0,g0,_):=t.ok.Mr NX;show#[.ref r0,by rw[<-t.hσ];show e0,?_];rw[ai]at w;show#[c,t.hσ,9,t.ok,w.mono λy ag w2 T vy B e4 G n2 r2=>?_];subst e4;rw[ai]at w2;let(ky,uy):=y;let(y,ey,w3):=iF w2
 dsimp only at ey r2
 subst ey;let ev:vy=.str y:=r2.str G;subst ev;rw[ai]at w3;let(us,ks,vs,Y,g,V3,m,q):=vJ w3;subst Y;rw[au]at q;let(n,d,f,g1,g2,g3,g4,g5,g6,_):=G.Mr g;let Y:n=r0:=by rw[B,<-t.hσ,e0]at f;ext f;rfl
 subst Y;let(j,rfl,k1,k2,k3,M0,k4,k5):=t.rx.w.on t.ok n2.toNs (B.trans t.hσ.symm);let Y7:=t.nx.trans n2;let hl:-d=-ks:=by let:=congrArg R' g2;exists this
 let QC:eU d (vl y)=cK:=by let:=g6 y;rw[decide_eq_false V3]at this;cases hq:eU d (vl y) with|none=>rfl|some _=>left
 show#[n,_,9,yJ.k (k:=vl y) g1 (by rw[hl];show m),?_];rw[Ax _ QC];let Wr:j∉T.kid i:=λz=>k3 (.inr #[i,_,_,g,f,.inr z]);let s:j≠n:=λz=>k3 (.inr #[i,_,_,g,f,.inl z]);let rd:=G.dd.kd i _ _ g f;let fr:=bq.YL rd;let(PJ,n3):=Ok.ET (H':=upd T.H n (.dK (d++[(vl y,.ref j)]))) (u':=.Mr (ks++[y]) (vs++[.lst us])) (as':=T.kid i++[j]) G Y7.toNs g f
  (λa ne=>aj λz=>ne #[_,_,g,f,.inl z]) (λa o e=>by
   by_cases hz:a=n
   .subst hz;show#[_,ak]
   rw[aj hz];show#[o,e])
  (λmv=>by
   show#[_,ak,by rw[nH,g2,nH];rfl,by rw[nH,g3,nH];rfl,?_,λa ha=>?_,?_]
   .rw[<-ŋ,ti];show#[g4,by simp,λa ha b I=>by
     let:b=j:=by exists I
     subst this;rintro rfl;obtain z|z:=gs.mp ha
     .show s z
     show Wr z]
   .rw[<-ŋ]at ha;obtain ha|ha:=ke.mp ha
    .show fr a ha
    let:a=j:=by exists ha
    subst this;let(z1,_,z3,_):=ok.iP k1;show#[k2,z3,z1]
   show dS.snoc (by rw[aj s];show k4) (k5.mv mv) (dS.mv mv (λa ha o e=>by rw[aj (λz=>(sx.mp g4).1 (by rw[<-z];show ha))];show e) g5))
  (λa ha=>by
   obtain ha|ha:=ke.mp ha
   .show .inl ha
   left)
 let z:=q _ 9 PJ n3 (Kept.of B);rw[<-B];show z
theorem dS.at{S}:∀{l}{g}{d}{c:↑(Key×V)}{u},c.map (·.1)=l.map vl->c.map (·.2)=d.map V.ref->d.Nodup->dS C S H g d->eD l g y\u -> ∃a m n,eU c (vl y)\.ref a/\a∈d/\u=.lst n/\H a\.lst m/\av C S H n m/\∀f i j,Mv S H S f->f a\.lst j->av C S f i j->(∀b∈d,b≠a->f b=H b)->dS C S f (kJ l g y (.lst i)) d
 |[],g,d,c,u,_,_,_,_,h=>by cases g<;>ext h|k::l,[],d,c,u,_,_,_,_,h=>by ext h|k::l,u0::g,d,c,u,r,x,s,hk,h=>by
  let(a,q,n,m,rfl,rfl,J,N,Q):=hk;cases c with
  |nil=>simp at r
  |cons p c =>
   rw[k9,k9,Ï]at r x;rw[sx]at s;by_cases A:k=y
   .subst A;erw[eD]at h;ext h;show#[a,m,n,by rw[fH r.1,x.1],by simp,9,J,N,λf i j t B D v=>?_];erw[kJ];show#[a,q,i,j,9,9,B,D,dS.mv t (λb w o e=>by rw[v b (by simp[w]) (λz=>s.1 (z▸w))];show e) Q]
   simp only[eD,if_neg A]at h;let(T,G,I,f1,Y,f3,f4,f5,f6):=dS.at r.2 x.2 s.2 Q h;show#[T,G,I,?_,by simp[Y],f3,f4,f5,λf i j t B D v=>?_]
   .rw[fI (by left)];show f1
   simp only[kJ,if_neg A];let ha:a≠T:=λz=>s.1 (z▸Y);show#[a,q,n,m,9,9,by rw[v a (by simp) ha];show J,N.mv t,f6 f i j t B D λb w=>v b (by simp[w])]
def vK{st}(h:W (nP i y u) st Q):∃a b c,st[i]?\bD (.A',.Mr a b)/\eD a b y\.lst c/\-c<et/\Q () (st.set i (bD (.A',.Mr a (kJ a b y (.lst (c++[u])))))):=by
 let(_,d,e,q):=h;unfold nP at e;split at e
 .rename_i a b hs;split at e
  .rename_i c f;split at e
   .rename_i g;ext e;show#[a,b,c,hs,f,g,q]
   ext e
  ext e
 ext e
def BK(C:Ct)(m:M (Kd×U)):TE:=λσ H Q=>∃b:Cf,b.σ=σ/\b.H=H/\Ok C b/\W m b.st λr d=>∀c v,c.σ=σ->c.st=d->Ok C c->Nx b c->(∀a o,b.H a\o->c.H a\o)->aK C b c r.1 r.2 v->Q v c.H
def zg(ok:Ok C b)(h:W (d >>= k) b.st e) (f:∀x c v,Rm C b c x v->(∀a o,b.H a\o->c.H a\o)->W (k x) c.st e->Z v c.H):BK C d b.σ b.H Z:=by rw[ai]at h;show#[b,9,9,ok,h.mono λx g r i j l s m n p q=>f x i j #[l,m,n,q] p (by left)]
def BL(d:X.N[i]?\x)(f:NA X.env.scope x)(g:(x==("__debug__":5))=dt)(l:(x==("__classdict__":5))=dt):PE X (.Name x m) (BK C (eE i)):=by
 show PE.weak (bH d f g l) ?_;rintro σ H Q ⟨b,rfl,rfl,ok,r,n,e,h⟩;unfold eE at e;split at e
 .cases e
 .rename_i k u o hs;ext e;let(v,c,a):=ok.sl i k u hs;show#[v,c,h b v 9 9 ok (Nx.refl b) (λ_ _ z=>z) ?_];by_cases hk:k.root=4
  .rw[if_pos hk];show#[#[k,hk,hs],c]
  cases k with|loc=>show a|any=>show a|bor j=>show a.elim|A'=>show(o 9).elim|_=>show absurd 9 hk
 ext e
def jX(h:PE X e (tC v))(r:∀S H,Rep C S H u v):PE X e (BK C (pure (.loc,u))):=by show PE.weak h ?_;rintro σ H Q ⟨a,rfl,rfl,ok,h⟩;rw[au]at h;show h a v 9 9 ok (Nx.refl a) (λ_ _ z=>z) (r _ _)
def Ih(hK:C.K=X.K)(hu:X.A.units+60<R0)(hN:X.N[i]?\x)(hv:NA X.env.scope x)(hd:(x==("__debug__":5))=dt)(MN:(x==("__classdict__":5))=dt)(Q:PE X a (MD C ma))(hb:PE X b (MD C mb))(O3:Hb b) (Nt:((QM T (mu [a] X.env)).all (λx=>!x.1)&&(Xl T (Sz [] X.env)).all (λx=>x.1.isSome)
   && gi ([a].length+⇑([]:↑V_)+(if ([]:↑V_).isEmpty then 0 else 1)<30))=4)
  (MG:(m.endLine==T.line)=4) (Mt:mu [a] X.env=[(dt,Oj a X.env)]) :
  L2.PS X (.Expr (.Call (.Attribute (.Subscript (.Name x px) b p) "append" m) [a] [] T) al) (Nv C ns (jS i >>= λ_=>mb >>= λx=>l9 x >>= λy=>jS i >>= λd=>if y∈d.1 then(ma >>= λr=>lift r >>= λu=>nP i y u >>= λ_=>pure .nx) else M.fail)):=by
 show PS.weak (jD (wM F.plainAttrs_list F.slot_list_append F.type_list_append kA (DU (by omega) (bH hN hv hd MN) hb O3) (d9 Q fB Mt) 9 Nt MG Mt 9)) ?_;rintro D σ H ⟨c0,rfl,rfl,ok,h⟩;rw[ai]at h;let(am,an,NX,h):=iE h;let(r0,S5,Y,g0,_):=ok.Mr NX;show#[.ref r0,Y,?_];show aW ok h λry c vy t w=>?_;rw[ai]at w;let(ky,uy):=ry;let(y,ey,w1):=iF w
 dsimp only at ey
 subst ey;let ev:vy=.str y:=t.rx.str t.ok;subst ev;rw[ai]at w1;let(ks,us,hs,w2):=iE w1
 dsimp only at w2
 by_cases hy:y∈ks
 case neg=>rw[if_neg hy]at w2;show(bE.mp w2).elim
 rw[if_pos hy]at w2;let(r1,ab,f1,g1,g2,g3,g4,g5,g6,_):=t.ok.Mr hs;let er:r1=r0:=by rw[t.hσ,Y]at f1;ext f1;rfl
 subst er;let R3:=g6 y;rw[decide_eq_true hy]at R3;let(v0,G):=Ys.mp R3;let OS:v0∈(c.kid i).map V.ref:=by rw[<-g3];unfold eU at G;let(q,hq,rfl):=i7.mp G;show ã (List.mem_of_find?_eq_some hq)
 let(f,W4,rfl):=mh.mp OS;let(Y_,Y'):=g5.mem W4;show#[r1,.ref f,9,by rw[<-G];show gQ.k (k:=vl y) g1,Or.inl #[9,Y_,.inl (.inl Y')],?_];rw[<-t.hσ];show aW t.ok w2 λr g v j w3=>?_;rw[ai]at w3;let(S',ac,u,sS,MC,n1,n,w4,_,_):=iA t.ok j.ok j.nx j.rx.w w3;rw[ai]at w4;let(YX,M0,xs,l,hx,I,q):=vK w4;rw[au]at q;let(J,S6,s,k2,k3,k4,k5,k6,_,_):=MC.Mr l;let B:g.σ[i]?\bD (.ref J):=s;let er:J=r1:=by rw[j.hσ,t.hσ,Y]at B;ext B;rfl
 subst er;let ap:g.H J\.dK S6:=k2;let Za:S6=ab:=by let:=(n1.dk _ #[i,#[_,_,l,s,.inl 9],_,_,l]).2 _ g1;rw[show _=_ from k2]at this;ext this;rfl
 subst Za;let nd:=(sx.mp k5).2;let(a2,ws,ys,l1,l2,l3,l4,l5,l6):=dS.at k3 k4 nd k6 hx;ext l3;rw[G]at l1;ext l1;let ag:g.H f\.lst ws:=l4;show#[f,ws,v,9,9,ag,by rw[<-l5.len];show I,?_];let M_:f≠J:=λz=>(sx.mp k5).1 (z▸l2);let(MS,n2):=Ok.ET (c:={g with S:=S',st:=ac }) (H':=upd g.H f (.lst (ws++[v]))) (u':=.Mr YX (kJ YX M0 y (.lst (xs++[u])))) (as':=g.kid i) MC (t.nx.trans n1).toNs l s
  (λa ne=>aj λz=>ne #[_,_,l,s,.inr (z▸l2)]) (λa o e=>by
   by_cases I:a=f
   .subst I;show#[_,ak]
   rw[aj I];show#[o,e])
  (λmv=>#[S6,by rw[aj (uk M_)];show k2,k3,k4,k5,bq.YL (MC.dd.kd i _ _ l s),l6 _ _ _ mv ak ((l5.mv mv).snoc (n.mv mv)) λb _ ne=>aj ne])
  (λa Q=>.inl Q)
 let z:=q _ 9 MS n2 (Kept.of (j.hσ.trans t.hσ));rw[<-j.hσ];show z
def BM{st}(h:W (YN u) st Q):∃a b,u=.Mr a b/\Q () st:=by
 cases u<;>first|show(bE.mp h).elim|skip
 show#[_,_,9,au.mp h]
def pT{st}(h:W (y_ x) st Q):∃j,x.2=.int j/\Q j st:=by
 unfold y_ at h;split at h
 .rename_i y e;rw[au]at h;show#[y,e,h]
 show(bE.mp h).elim
def pU{st}(h:W (tw i) st Q):∃k a,k.root=4/\st[i]?\bD (k,.lst a)/\Q a st:=by
 let(r,b,e,q):=h;unfold tw at e;split at e
 .rename_i k a hs;split at e
  .rename_i hk;ext e;show#[k,_,hk,hs,q]
  ext e
 ext e
theorem tM:∀{a}{b},y∈a->-a=-b->eD a b y=cK->False
 |[],b,h,_,_=>by ext h|k::a,[],_,h,_=>by simp at h|k::a,u::b,h,hl,e=>by
  by_cases hk:k=y
  .simp[eD,hk]at e
  simp only[eD,if_neg hk]at e;obtain h|h:=gs.mp h
  .show hk h.symm
  show tM h (by exists hl) e
def BN{i}{x}{px}(hu:X.A.units+60<R0)(hN:X.N[i]?\x)(hv:NA X.env.scope x)(hd:(x==("__debug__":5))=dt)(MN:(x==("__classdict__":5))=dt) (ha:PE X a (MD C ma)) (hb:PE X b (MD C mb)) (hm:M2 X (.Name x px) "get" f a b J') :PE X (.Call (.Attribute (.Name x px) "get" f) [a,b] [] J') (MD C (eE i >>= λx=>YN x.2 >>= λ_=>ma >>= λy=>l9 y >>= λy=>mb >>= λz=>lift z >>= λu=>eE i >>= λx=>M.MU (Er x y u))):=by
 rintro g s σ H Q I ⟨G,rfl,rfl,ok,h⟩;show Az 7 (bH hN hv hd MN) ha hb hm g s G.σ G.H Q I ?_;rw[ai]at h;let(k0,u0,Zb,NX,h):=eR h;let(v0,e0,t0):=ok.slot Zb NX;rw[ai]at h;let(ab,ac,j,h'):=BM h
 dsimp only at j
 subst j;let(J,S5,rfl,g0,_):=t0.dict ok;show#[.ref J,e0,J,9,.inl #[S5,.inl g0],?_];show aW ok h' λry c vy t w=>?_;rw[ai]at w;let(ky,uy):=ry;let(y,ey,w1):=iF w
 dsimp only at ey
 subst ey;let ev:vy=.str y:=t.rx.str t.ok;subst ev;rw[<-t.hσ];show aW t.ok w1 λz l vz m w2=>?_;rw[ai]at w2;let(S',n,u,sS,T,n1,o,w4,_,_):=iA t.ok m.ok m.nx m.rx.w w2;rw[ai]at w4;let(k,u1,Y,OB,w5):=eR w4;let(r,e,q):=cw.mp w5;let(v1,e1,t1):=T.slot Y OB;let Nq:l.σ[i]?\bD v1:=e1;rw[m.hσ,t.hσ,e0]at Nq;ext Nq;cases u1<;>first|(erw[Er]at e;grind)|skip
 rename_i ks us;let(a1,d,ea,g1,g2,g3):=t1.dict T;ext ea;let Wt:l.H J\.dK d:=g1;show#[_,gQ.k (k:=vl y) Wt,?_];erw[Er]at e;let(l1,l2):=eQ (x:=y) g2 g3;let p:∀v:V,aK C G {l with S:=S',st:=n } r.1 r.2 v->Q v l.H:=λv z=>q {l with S:=S',st:=n } v (m.hσ.trans t.hσ) 9 T (t.nx.trans n1) z;cases D:eD ks us y with
 |some w=>rw[D]at e;ext e;let(v,ev,rv):=l1 w D;rw[ev];show p v ?_;show aK.item (k:=if k.root=4 then .bor i else k) rv|none =>
  rw[D]at e;ext e;let QC:eU d (vl y)=cK:=by
   cases hq:eU d (vl y) with
   |none=>rfl
   |some v =>
    exfalso
    rw[hq]at l2;let hy:y∈ks:=by left
    let B:-ks=-us:=by let h1:=congrArg R' g2;let h2:=g3.len;simp at h1 h2;lia
    show tM hy B D
  rw[QC];show p vz o
def BO:JB X (λo i H Q=>∃p a j v,o=.ref p/\i=.int j/\H p\.lst a/\0<=j/\a[j.toNat]?\v/\Q v H):=by rintro b s σ H o i m n Q I d e ⟨p,a,j,v,rfl,rfl,f,g,c,q⟩;ext d;let(t,rfl):=e;let(u,r,h,x):=I.list (.inl (.inl f));let(w,k,l):=r.get c;let y:=gO;let z:=(gj.mp c).1;show wpAny_getItem_list h.isList g 7 (by exists k) #[v,H,I,l,q]
def EW:VL X (if sub=4 then .Sub else .Add) (Xf (Bp sub)):=by cases sub with|true=>show GV|false=>show GU
def Ku(hN:X.N[i]?\x)(hv:NA X.env.scope x)(hd:(x==("__debug__":5))=dt)(MN:(x==("__classdict__":5))=dt) (ha:PE X a (BK C ma)) (hb:PE X b (MD C mb)) (has:∀l m d,augStore b l m d=(do Vx [d,l,m] (Ġ l m d);ŝ [d,l,m] [];pure .next)) :L2.PS X (.AugAssign (.Subscript (.Name x px) b p) (if sub=4 then .Sub else .Add) a ab) (Nv C ns (tw i >>= λ_=>mb >>= λy=>y_ y >>= λj=>tw i >>= λus=>M.MU (tD us j) >>= λo=>ma >>= λz=>y_ z >>= λw=>modS i (gY (.int j) (.int (Bp sub o w))) >>= λ_=>pure .nx)):=by
 show PS.weak (DB (bH hN hv hd MN) hb BO ha EW set_list has) ?_;rintro D σ H ⟨c0,rfl,rfl,ok,h⟩;rw[ai]at h;let(k0,ac,RN,NX,h):=pU h;let(v0,s,PK):=ok.sl i _ _ NX;let(f,rfl,_,_,_,_):=PK.rt RN;show#[.ref f,s,?_];show aW ok h λry c vy t w=>?_;rw[ai]at w;let(ky,uy):=ry;let(j,T,w1):=pT w
 dsimp only at T
 subst T;let ev:vy=.int j:=t.rx.int t.ok;subst ev;rw[ai]at w1;let(k1,ag,u,OB,w2):=pU w1;rw[ai]at w2;let(o,ho,w3):=cw.mp w2;let(v1,Y,v):=t.ok.sl i _ _ OB;let(a1,rfl,_,_,_,Vg):=v.rt u;rw[t.hσ,s]at Y;ext Y;let(g,g1,g2):=Vg;unfold tD at ho;split at ho
 case isFalse=>ext ho
 rename_i P_;split at ho
 case h_2=>ext ho
 rename_i o' Zc;ext ho;let(vo,A,B):=g2.get Zc;let G:vo=.int o:=B;subst G;show#[f,g,j,_,9,9,g1,P_,A,?_];rw[<-t.hσ];show zg t.ok w3 λz I vz e all2 w4=>?_;rw[ai]at w4;let(kz,uz):=z;let(w,ez,w5):=pT w4
 dsimp only at ez
 subst ez;let ev:vz=.int w:=e.rx.int e.ok;subst ev;show#[o,w,9,9,?_];rw[ai]at w5;let(k,u1,u2,hk,Np,n,q):=iD w5;rw[au]at q;let(v2,J,RB):=e.ok.sl i _ _ Np;let(a2,rfl,_,_,_,Vh):=RB.rt hk;let Q:=J;rw[e.hσ,t.hσ,s]at J;ext J;let Wt:I.H f\.lst g:=all2 _ _ g1;cases u1 with
 |lst xs =>
  erw[gY,i7]at n;let(r,QJ,rfl):=n;let(al,l1,l2):=Vh;rw[Wt]at l1;ext l1;show#[f,g,j,r,9,9,Wt,by rw[<-l2.len];omega,?_];let(PJ,n3):=Ok.mod (c:=I) (H':=upd I.H f (.lst (g.set r (.int (Bp sub o w))))) (u':=.lst (xs.set r (.int (Bp sub o w)))) e.ok (t.nx.trans e.nx).toNs hk Np Q (λa ne=>aj ne) ⟨_,ak⟩ λmv=>#[_,ak,(l2.mv mv).set r 9]
  let z:=q _ 9 PJ n3 (Kept.of (e.hσ.trans t.hσ));rw[<-e.hσ];show z
 |Mr ks g=>simp[gY]at n|_=>simp[gY]at n
def EX{d:↑5}(e:c.map (·.1)=d.map vl)(f:c.map (·.2)=g.map V.int):c=(d.zip g).map λp=>((vl p.1:Key),V.int p.2):=by
 induction c generalizing d g with
 |nil =>
  cases d with
  |nil=>rfl
  |cons _ _=>ext e
 |cons kv c h =>
  cases d with
  |nil=>ext e
  |cons k d =>
   cases g with
   |nil=>ext f
   |cons n g=>let(a,b):=kv;erw[k9,Ï]at e f;let(rfl,e):=e;let(rfl,f):=f;rw[h e f];rfl
theorem av.of_map{S:mn->6}{f:α->U}{g:α->V}:∀{l:↑α},(∀x∈l,Rep C S H (f x) (g x))->av C S H (l.map f) (l.map g)|[],_=>9|x::l,h=>#[g x,_,9,h x (by simp),av.of_map λy a=>h y (by simp[a])]
def EY(hc:X.calm=4)(hK:C.K=X.K)(hg:Gl X "sorted")(hm:X.mg "sorted"=cK)(hN:X.N[i]?\x)(hv:NA X.env.scope x)(hd:(x==("__debug__":5))=dt)(MN:(x==("__classdict__":5))=dt)(MG:(c.endLine==B.line)=4):PE X (.Call (.Name "sorted" p) [.Call (.Attribute (.Name x D) "items" c) [] [] B] [] q) (MD C (eE i >>= λx=>M.MU (Bj x.2))):=by
 rintro m s σ H Q I ⟨k,rfl,rfl,ok,h⟩;show Oh (cY I hg hm (show Pd "sorted"\.builtin "sorted" by decide +kernel) ?_ (by decide +kernel) (by decide +kernel));rw[ai]at h;let(k0,u0,Zb,NX,h):=eR h;let(v0,e0,t0):=ok.slot Zb NX;let(r,l,t):=cw.mp h
 dsimp only at l
 unfold Bj at l;split at l
 rotate_left
 .cases l
 rename_i b us;rw[o9]at l;let(f,en,l):=l;split at l
 rotate_left
 .cases l
 rename_i Zd;ext l;let(Pa,ME,ac):=Zd;let(d,ag,rfl,u,RN,RJ):=t0.dict ok;rw[lH en]at RJ;let Za:=EX RN (av.ints RJ);subst Za;let ek:((b.zip f).map (·.1))=b:=aaj 7;let n:‹X› (Oj (.Call (.Attribute (.Name x D) "items" c) [] [] B) X.env) (λv s1=>‹X› (Zl (.builtin "sorted") [v]) (EP X m k.σ Q) X.xe s1) X.xe s:=by
  show ē 9 MG (My (bH hN hv hd MN m s k.σ k.H (λv H1=>v=.ref d/\H1=k.H) I ⟨_,e0,9,9⟩) λv s1 Ze=>?_);let(x1,H1,I1,r1,z1,z2):=Ze;subst z1 z2;cases(show v=oa d from r1);let(h1,h2):=qE (T:="dict") I1 (x:=.ref d) 9 (.inr (.inr (.inl #[9,.inl #[_,u]])));show#["dict","dict.items",F.plainAttrs_dict,F.slot_dict_items,F.type_dict_items,h1,h2,SA 9 (PySem.evalArgs_none (q9 hc I1 u (by rw[ek];show ME) (by rw[ď];lia) λg L hl nd QG hL=>?_))];let G:k.H L=cK:=QG L (by simp);let J:(g.zip ((b.zip f).map QP)).map (·.1)=g:=aaj (by rw[eu];lia);let Y:∀p∈g.zip ((b.zip f).map QP),p.1∈g:=λp hp=>(Þ hp).1;let same:yI k.H (upd (lZ k.H (g.zip ((b.zip f).map QP))) L (.lst ((lX ((b.zip f).map (·.1))).map λi=>V.ref (g.getD i 0)))):=λa o e=>by
   let n1:a≠L:=λy=>by rw[y,G]at e;ext e
   rw[aj n1,nF λp hp y=>?_]
   .show e
   let:=QG p.1 (by simp[Y p hp]);rw[y,e]at this;ext this
  let(MH,n'):=ok.grow (S':=k.S) same (λa z=>.inl z) λa z=>z;let(q1,q2,q3,q4,q5):=ok.iP G;show t {k with H:=upd (lZ k.H (g.zip ((b.zip f).map QP))) L (.lst ((lX ((b.zip f).map (·.1))).map λi=>V.ref (g.getD i 0))),S:=k.S} _ 9 9 MH n' ⟨L,9,G,q2,q5,_,ak,?_⟩;change av C k.S _ ((Eo (b.zip f)).map yZ) _;unfold Eo;rw[lg];show av.of_map λj hj=>?_;let QJ:j< -b.zip f:=by let:=O7.mp ((iy _).mem_iff.mp hj);rw[eu]at this;show this
  let YD:j< -g:=7
  let e1:(b.zip f).getD j (O',0)=(b.zip f)[j]:=(List.getElem_eq_getD _).symm;let e2:g.getD j 0=g[j]:=by simp[Tu,YD]
  change Rep C k.S _ (yZ ((b.zip f).getD j (O',0))) (V.ref (g.getD j 0));rw[e1,e2];show#[g[j],QP (b.zip f)[j],9,MV.of ?_,#[_,_,9,9,_,_,9,9,9]];let M_:g[j]≠L:=λy=>hL (by rw[<-y];simp);show(aj M_).trans (xk (by rw[J];show nd) (vs:=QP (b.zip f)[j]) ?_);show Uj.mpr #[j,by rw[ď,eu];lia,?_];simp
 let eb:QM q (mu [.Call (.Attribute (.Name x D) "items" c) [] [] B] X.env)=[(dt,Oj (.Call (.Attribute (.Name x D) "items" c) [] [] B) X.env)]:=9;let ab:Xl q (Sz [] X.env)=[]:=9;rw[eb,ab];show rg n
def xD(m:X.calm=4)(n:C.K=X.K)(r:Gl X "set")(u:X.mg "set"=cK)(y:PE X a (MD C B))(hs:mu [a] X.env=[(dt,Oj a X.env)])(I:Inv X b f.σ f.H s)(ok:Ok C f) (h:W (B >>= λx=>M.MU (jo x.2) >>= k) f.st G) (J:∀S o d D c,c.σ=f.σ->Ok C c->Nx f c->d.heap.get? S\o->aX X.prog X.w d.heap S (aF X.w) D->Inv X ((S,o)::b) c.σ c.H d->W (k D) c.st G->(∀q∈b,q.1≠S)->Q (.ref S) d) :
  ‹X› (Oj (.Call (.Name "set" p) [a] [] g) X.env) Q X.xe s:=by
 show Oh (cY I r u (show Pd _\.type "set" by decide +kernel) ?_ (by decide +kernel) (by rfl));let N:QM g (mu [a] X.env)=[(dt,Oj a X.env)]:=by rw[hs];rfl
 rw[N];show xA (one y I ok h λx c vx v s2 t j T w=>?_);rw[ai]at w;let(D,e,w):=cw.mp w;let(l,ys,rfl,Y,h2,rfl):=kN n t.ok t.rx e;ext T;show vm m j Y h2 λS o d i TF hS I3=>J S o d _ c t.hσ t.ok t.nx TF hS I3 w λq hq z=>by let:=i8 (j.pin q (tj _ hq)).1;rw[z]at this;show absurd (pb this i) (OH _)
def EZ(u:X.calm=4)(hK:C.K=X.K)(T7:Gl X (if ln=4 then "len" else "sorted"))(Wu:X.mg (if ln=4 then "len" else "sorted")=cK)(hg:Gl X "set")(hm:X.mg "set"=cK)(ha:PE X a (MD C ma))(hb:PE X b (MD C mb))(z:mu [a] X.env=[(dt,Oj a X.env)])(Px:mu [b] X.env=[(dt,Oj b X.env)]):PE X (.Call (.Name (if ln=4 then "len" else "sorted") p) [.BinOp (.Call (.Name "set" p1) [a] [] Vi) .Sub (.Call (.Name "set" p2) [b] [] Of) g] [] m) (MD C (ma >>= λx=>M.MU (jo x.2) >>= λd1=>mb >>= λy=>M.MU (jo y.2) >>= λd2=>M.MU (vC ln d1 d2))):=by
 rintro i s σ H Q I ⟨B,rfl,rfl,ok,h⟩;let d:‹X› (Oj (.BinOp (.Call (.Name "set" p1) [a] [] Vi) .Sub (.Call (.Name "set" p2) [b] [] Of) g) X.env) (λv s1=>‹X› (Zl (.builtin (if ln=4 then "len" else "sorted")) [v]) (EP X i B.σ Q) X.xe s1) X.xe s:=by
  show wpAny_BinOp (xD u hK hg hm ha z I ok h λt o1 s1 D1 c1 D MC G Pw OU I1 w1 Ra=>?_);show xD u hK hg hm hb Px I1 MC w1 λS2 o2 J D2 k N MS T QL QN Y w2 XH=>?_;let(r,n,j):=cw.mp w2;let ab:=(Y.pin (t,o1) (tj _ (by simp))).1;let Zf:aX X.prog X.w J.heap t (aF X.w) D1:=OU.at λo e=>by left
  let M_:t≠S2:=XH (t,o1) (by simp);let nx:Nx B k:=G.trans T;let hσ:k.σ=B.σ:=N.trans D;let I3:Inv X i k.σ k.H J:=Y.fg λq hq=>Y.pin q (tj _ (by simp[hq]));unfold vC at n;split at n
  rotate_left
  .cases n
  rename_i f;show L2.D9 M_ Zf QN f.1 f.2 λh' hk hR=>?_;let I4:=I3.kept (t':=J.toks) hk;rw[<-hσ];cases ln with|true=>ext n;show nu I4 hR (cM.flat (c:=k) j hσ MS nx 9)|false=>ext n;show iW u I4 hR (Ķ (N6 _ _) f.1) λl hl=>cM.list (c:=k) j hσ MS nx (av.strs.mpr 9) l hl
 let eb:QM m (mu [.BinOp (.Call (.Name "set" p1) [a] [] Vi) .Sub (.Call (.Name "set" p2) [b] [] Of) g] X.env)=[(dt,Oj _ X.env)]:=9;let ek:Xl m (Sz [] X.env)=[]:=9;cases ln with|true=>show Oh (cY I T7 Wu (show Pd "len"\.builtin "len" by decide +kernel) ?_ (by decide +kernel) (by decide +kernel));rw[eb,ek];show rg d|false=>show Oh (cY I T7 Wu (show Pd "sorted"\.builtin "sorted" by decide +kernel) ?_ (by decide +kernel) (by decide +kernel));rw[eb,ek];show rg d
def Ok.Kv(ok:Ok C c)(l:c.st[i]?\bD (.own,u))(n:c.σ[i]?\bD (.ref r)):Ok C {c with H:=upd c.H r o',st:=c.st.set i cK}/\Ns c {c with H:=upd c.H r o',st:=c.st.set i cK}/\¬({c with H:=upd c.H r o',st:=c.st.set i cK}:Cf).R r:=by
 let Nn:i< -c.st:=(gj.mp l).1;let s:c.R1 r:=#[i,.own,u,9,l,n]
 let(z1,z2,z3,o,z4,z5):=ok.root (.inl s);let J:C.H₀ r=cK:=by let(v,d,g,p,_,_,q,_):=ok.sl i _ _ l;rw[n]at d;ext d p;show q
 let h:∀(j:8) k w,(c.st.set i cK)[j]?\bD (k,w)->j≠i/\c.st[j]?\bD (k,w):=λj k w e=>by
  by_cases t:j=i
  .subst t;rw[hH Nn]at e;ext e
  rw[ko (uk t)]at e;show#[t,e]
 let x:∀a,({c with H:=upd c.H r o',st:=c.st.set i cK}:Cf).R1 a->c.R1 a/\a≠r:=λa MO=>by let(j,k,w,hk,d,f):=MO;let(A,N):=h j k w d;show#[#[j,k,w,hk,N,f],λz=>?_];subst z;show A (ok.inj j i k .own w u a hk 9 N l f n)
 let Q:∀j a,({c with H:=upd c.H r o',st:=c.st.set i cK}:Cf).RD j a->c.RD j a:=λj a ⟨w,g,d,f,B⟩=>#[w,g,(h j _ w d).2,f,B]
 let T:∀j a,c.RD j a->a≠r:=λj a z e=>by subst e;show ok.dd.d1 j a z s
 let D:∀S:mn->6,¬S r->Mv S c.H S (upd c.H r o'):=λS hS=>#[λa z=>z,λa b e tp=>by
  let:a≠r:=λz=>by subst z;rw[z4]at e;ext e;show z5 tp
  rw[aj this];show e,λa b z e=>by
  let:a≠r:=λy=>by subst y;show hS z
  rw[aj this];show e]
 let hP:¬PS C c.S r:=λz=>z.elim z2 z1;show#[#[λa b e NR=>?_,λa z=>?_,ok.par,λa z=>?_,by simp[ok.len],λj k w e=>?_,λj1 j2 k1 k2 w1 w2 g h1 h2 d f B e4=>ok.inj j1 j2 k1 k2 w1 w2 g h1 h2 (h _ _ _ d).2 (h _ _ _ f).2 B e4,?_],#[λa b e hR=>?_,λa b e=>?_,λa z=>?_,λa z=>z,λa z=>.inl z],λz=>?_]
 .let:a≠r:=λy=>by subst y;rw[J]at e;ext e
  change upd c.H r o' a=_;rw[aj this];show ok.same a b e NR
 .let(m,b,G):=ok.Ov a z;let:a≠r:=λy=>by subst y;show z1 z
  show#[m,b,by change upd c.H r o' a=_;rw[aj this];show G]
 .let((b,m),I,G):=ok.io a z;let:a≠r:=λy=>by subst y;rw[J]at m;ext m
  show#[#[b,m],I,by change upd c.H r o' a=_;rw[aj this];show G]
 .let(A,Y):=h j k w e;let(v,d,f):=ok.sl j k w Y;show#[v,d,f.mv (D _ z1) (D _ hP) λhk g p=>?_];let(Va,Oe,y1,_):=f.rt hk;rw[p]at Oe;ext Oe;let:g≠r:=λy=>by subst y;show A (ok.inj j i k .own w u g hk 9 Y l (by rw[d,p]) n)
  show#[y1,λb q=>by change upd c.H r o' g=_;rw[aj this];show q]
 .show ok.dd.of 9 (λj w e=>#[(h j _ w e).2,9]) (λa z=>.inl (x a z).1) (D _ z1) λj a z=>#[(ok.root (.inr #[j,z])).1,λb q=>by change upd c.H r o' a=_;rw[aj (T j a z)];show q]
 .let:a≠r:=λy=>by subst y;show hR (.inl s)
  change upd c.H r o' a=_;rw[aj this];show e
 .by_cases ha:a=r
  .subst ha;show#[o',ak]
  show#[b,by change upd c.H r o' a=_;rw[aj ha];show e]
 .rcases z with z|⟨j,z⟩
  .show .inl (.inl (x a z).1)
  show .inl (.inr #[j,Q j a z])
 obtain z|⟨j,z⟩:=z
 .show(x r z).2 9
 show T j r (Q j r z) 9
def BP(z:c.H r\.N0 o (.dK a))(A:¬c.R r)(ok:Ok C c)(hk:a.map (·.1)=d.map vl)(B:av C c.S c.H g (a.map (·.2))):Walk C c [] (q_ (d,g)) (Yx r o a):=by
 intro e t n Y hs;let u:=n.keep r _ z A;let w:=B.mv (ok.mv n);let l1:-a=-d:=by rw[<-eu (f:=(·.1)),hk,eu]
 let l2:-g=-a:=by rw[w.len,eu]
 let l3:-q_ (d,g)=-a:=by unfold q_;left
 show#[λi q h=>?_,λi b=>#[u,7]];unfold q_ at h;rw[mx,i7]at h;let(p,D,rfl):=h;let(G,I):=Ŷ.mp D;let(v,j,k):=w.get I;let b:i< -a:=by grind
 let J:a[i]?\(vl p.1,v):=by
  rw[mx,vu b]at j;let l:(a.map (·.1))[i]?=(d.map vl)[i]?:=by rw[hk]
  rw[mx,mx,vu b,G]at l;rw[vu b];erw[Ă,Ě]at l j;rw[<-l,<-j]
 show#[.inl 9,#[u,b],λx H' m=>?_];let(q,s,rfl,m):=m;let N:=m _ _ J;subst N;let(Q,y):=t.lay  s;show#[{e with H:=upd e.H q _},9,9,9,Q,y,?_];let T:av C e.S e.H [.str p.1,p.2] [kV (vl p.1),v]:=#[_,_,9,9,_,_,9,k,9]
 show#[q,_,9,MV.of ak,T.mv (t.mv y)]
def Ii(hN:X.N[i]?\x)(hv:NA X.env.scope x)(hd:(x==("__debug__":5))=dt)(MN:(x==("__classdict__":5))=dt)(MG:(m.endLine==J'.line)=4) (S:cZ X N own f) (hc:X.calm=4) (hl:-own=2) (hg:∀D s H A,PG (NC X N f D s H A) (.Tuple es kx ps) (tG C 4 (hW ⇑own))) (he:∀D s H A,PE (NC X N f D s H A) G (MD C me)) :L2.PS X (.Return (bD (.ListComp G [⟨.Tuple es kx ps,.Call (.Attribute (.Name x px) "items" m) [] [] J',[],0⟩] f ag)) ac) (Nv C ns (tu i >>= λd=>bQ 2 4 (pure 4) me [] (q_ d) [] >>= λk=>retS (.own,.lst k))):=by
 show PS.weak (Ac (Hr (wU S hc (A9 hN hv hd MN MG) hg (λD s H A=>show QK _ [] (NI C (pure 4)) from λp s σ H Q I ⟨b,l,e2,ok,w⟩=>qL p s σ H Q I (by subst l e2;rw[au]at w;show w b 9 9 ok (Nx.refl b))) he))) ?_;rintro D σ H ⟨b,rfl,rfl,ok,h⟩;rw[ai]at h;let(d,al,e,h):=h;unfold tu at e;split at e
 rotate_left
 .cases e
 rename_i t k B;ext e;let(v,l,r,er):=ok.sl i _ _ B;subst er;let(g,g1,g2,g3,g4,g5,g6):=ok.dd.kd i _ r B l;show#[r,g,g1,λo=>?_];let(MC,n1):=Ok.Kt ok (Nx.refl b) #[_,_,9] B l;let Nn:i< -b.st:=(gj.mp B).1;let(MS,n2,nR):=Ok.Kv (o':=.N0 o (.dK g)) MC (i:=i) (u:=.Mr t k) (r:=r) (by change(b.st.set i _)[i]?=_;rw[hH Nn]) l;show let j:Cf:={S:=λa=>b.S a\/a∈b.kid i,H:=upd b.H r (.N0 o (.dK g)),σ:=b.σ,st:=b.st.set i cK,kid:=b.kid};?_
 let Y1:(b.st.set i (bD (Kd.own,U.Mr t k))).set i cK=b.st.set i cK:=by rw[List.set_set]
 let J:({ ({b with S:=λa=>b.S a\/a∈b.kid i,st:=b.st.set i (bD (.own,.Mr t k))}:Cf) with H:=upd b.H r (.N0 o (.dK g)),st:=(b.st.set i (bD (Kd.own,U.Mr t k))).set i cK}:Cf)=j:=by rw[Y1]
 let T:Ok C j:=J▸MS;let Y:Ns b j:=n1.toNs.trans (J▸n2);let ab:¬j.R r:=J▸nR;let N5:av C j.S j.H k (g.map (·.2)):=by
  rw[g3];let:=(dS.rep (S':=j.S) (λa=>.inl) (λa ha=>.inr ha) g6).mv (show Mv j.S b.H j.S j.H from#[λa z=>z,λa ob q tp=>?_,λa ob z q=>?_])
  .show this
  .let:a≠r:=λy=>by subst y;rw[g1]at q;ext q;show tp
   change upd b.H r _ a=_;rw[aj this];show q
  let:a≠r:=λy=>by
   subst y;obtain z|z:=z
   .show(g5 a (by simp)).1 z
   show(sx.mp g4).1 z
  change upd b.H r _ a=_;rw[aj this];show q
 show#[r,o,g,l,ak,?_];rw[hl];show pR (c0:=j) (c1:=j) (rs:=[]) (xs:=q_ (t,k)) 9 T (Nx.refl j) (BP ak ab T g2 N5) ?_;rw[ai]at h;show h.mono λvs am w=>?_;rw[show retS (.own,.lst vs)=pure (.rt .own (.lst vs)) from rfl,au]at w;rw[au];intro c v hσ Mt M4 n rt;let(r0,e,h1,h2,h3,h4):=rt;show w c Mt M4 (Y.trans n.toNs) (Kept.of hσ) v #[r0,e,(T.iP h1).1,h2,h3,h4]
section
variable{X:Cx}{C:Ct}{a:sL}{ma:M (Kd×U)}{apos J':Pos}{i:8}{x:5}{px:Pos}
def Ok.Kw(ok:Ok C c)(hk:k.root=4)(hs:c.st[i]?\bD (k,.lst d)):∃a b,c.σ[i]?\bD (.ref a)/\c.H a\.lst b/\av C c.S c.H d b:=by let(v,e,f):=ok.sl i k _ hs;let(r,rfl,_,_,_,b,g,h):=f.rt hk;show#[r,b,e,g,h]
def Ok.out(ok:Ok C c)(n:Nx h c)(G:c.σ=h.σ)(hk:k.root=4)(hs:c.st[i]?\bD (k,.lst us))(l:c.σ[i]?\bD (.ref r))(I:av C c.S c.H b f)(J:Rep C c.S c.H u v)(w:cM C h Q (.loc,u) (c.st.set i (bD (k,.lst b)))):Q v (upd c.H r (.lst f)):=by
 let m:Mv c.S c.H c.S (upd c.H r (.lst f)):=by let(v',g,p):=ok.sl i k _ hs;rw[l]at g;ext g;let(y,N,T,_,_,Y):=p.rt hk;ext N;let(o,ho,Rp):=Y.some;show#[λ_ z=>z,λa o' e t=>by rw[aj (λz=>by subst z;rw[ho]at e;ext e;show Rp t)];show e,λa o' z e=>by rw[aj (λz'=>by subst z';show T z)];show e]
 let(MS,n2):=ok.mod (H':=upd c.H r (.lst f)) (u':=.lst b) n.toNs hk hs l (λa ne=>aj ne) ⟨_,ak⟩ λmv=>#[f,ak,I.mv mv]
 let dk:∀a,({c with H:=upd c.H r (.lst f),st:=c.st.set i (bD (k,.lst b))}:Cf).Wg a->h.Wg a/\∀o,h.H a\o->upd c.H r (.lst f) a\o:=λa MO=>by
  let(j,(A,y,g,p,e3),ks,q,d):=MO;let B:j≠i:=λz=>by subst z;rw[hH (gj.mp hs).1]at g;ext g hk
  let Nq:c.st[j]?\bD (.A',A):=by rw[<-g];show(ko (uk B)).symm
  let s:c.RD j a:=#[A,y,Nq,p,e3]
  let YA:a≠r:=λz=>ok.dd.d1 j a s (z▸⟨i,k,_,hk,hs,l⟩);let D:c.st[j]?\bD (.A',.Mr ks q):=by rw[<-d];show(ko (uk B)).symm
  show#[(n.dk a #[j,s,_,_,D]).1,λo e=>by rw[aj YA];show(n.dk a #[j,s,_,_,D]).2 o e]
 show w {c with H:=upd c.H r (.lst f),st:=c.st.set i (bD (k,.lst b))} v G 9 MS ⟨n2,dk⟩ (J.mv m)
def E1(g:X.N[i]?\x)(j:NA X.env.scope x)(l:(x==("__debug__":5))=dt)(m:(x==("__classdict__":5))=dt)(n:(apos.endLine==J'.line)=4)(o:C.K=X.K):PE X (.Call (.Attribute (.Name x px) "pop" apos) [] [] J') (MD C (Bn i)):=by
 show PE.weak (As F.plainAttrs_list F.slot_list_pop F.type_list_pop Av (bH g j l m) 9 n) ?_;rintro σ H Q ⟨q,rfl,rfl,ok,h⟩;let(r,s,e,w):=h;unfold Bn at e;split at e
 .rename_i k A hs;split at e
  .rename_i hk;split at e
   .rename_i u t;ext e;let(p,c,d,f,b):=ok.Kw hk hs;let(v,y,z):=b.get t;let hl:=b.len;show#[_,d,.inl #[9,c,o▸M3.of f],p,c,v,9,9,f,by rw[<-hl];show y,?_];show ok.out (Nx.refl q) 9 hk hs d ?_ z w;rw[Î,Î,hl];show b.take _
   ext e
  ext e
 ext e
end
abbrev ctI(P:B')(w:Q2)(K:W.Frag)(H:Hp)(a IO:mn->6):Ct:=#[P,w,K,H,a,IO,λ_ _=>False]
theorem map_inj:∀{l:↑α},(l.map f).Nodup->∀x∈l,∀y∈l,f x=f y->x=y
 |[],_,_,h,_,_,_=>by ext h|a::l,h,x,g,y,c,e=>by
  rw[k9,sx]at h;obtain d|h1:=gs.mp g
  .rcases gs.mp c with b|h2
   .rw[d,b]
   show absurd (mh.mpr #[y,h2,by rw[<-e,d]]) h.1
  obtain b|h2:=gs.mp c
  .show absurd (mh.mpr #[x,h1,by rw[e,b]]) h.1
  show map_inj h.2 x h1 y h2 e
def zh(h:jr a p\j):∃b,a[p]?\(.bor j,.lst b):=by
 unfold jr at h;split at h
 .cases h;show#[_,by omega]
 ext h
def N9.nth(t:N9 C d c g j){i:8}(h:g[i]?\r):∃v,j[i]?\v/\aK C d c r.1 r.2 v:=by
 let f:∀(l:↑_) (w:↑V),c_ C d c l w->ba l c.st->∀(i:8) (r:Kd×U),l[i]?\r->∃v,w[i]?\v/\aK C d c r.1 r.2 v:=by
  intro l;induction l with
  |nil=>intro w _ _ i r e;simp at e|cons x l k =>
   intro w h hs i r e;let(v,m,rfl,n,o,_):=h;rw[fN]at hs;cases i with
   |zero=>simp at e;subst e;show#[v,9,n.t hs.1]
   |succ i=>let(p,a,b):=k m o hs.2 i r (by exists e);show#[p,by simpa using a,b]
 show f g j t.rep t.QR i r h
def N9.len(t:N9 C d c a b):-a=-b:=by
 let:=t.read.len;rw[eu]at this
 omega
theorem xE(q:C'.Eqv C){vs:↑V}(hs:∀a,S' a->S1 a){IO:mn->6}(Vj:∀a,S' a->¬IO a)(Q:∀a o,IO a->H' a\o->¬Tp o):∀l v c g,Ok C c->Ns c1 c->c.S=S1->lG rs l v c.st\g->(l.map (jr rs)).Nodup->(∀p∈l,∀a,vs[p]?\.ref a->IO a) -> (∀p∈l,∀j,jr rs p\j->∃k u r,k.root=4/\c.st[j]?\bD (k,u)/\c.σ[j]?\bD (.ref r)/\vs[p]?\.ref r) -> (∀(n p:8) r w,l[n]?\p->vs[p]?\.ref r->v[n]?\w->dn C' S' H' r w)->(∀a,(∀p∈l,vs[p]?≠bD (.ref a))->c.H a=H' a)->(∀a,¬IO a->c.H a=H' a) -> ∃s,Ok C s/\Ns c1 s/\s.σ=c.σ/\s.S=S1/\s.st=g/\s.H=H'/\s.kid=c.kid/\∀(j:8) k u,s.st[j]?\bD (k,u)->∃I,c.st[j]?\bD (k,I)/\(k=.A'->I=u)
 |[],v,c,g,ok,n,J,e,_,_,_,_,T,_=>by
  cases v with
  |nil=>ext e;show#[c,ok,n,9,J,9,funext λa=>T a λp hp=>(by ext hp),9,λj k u e=>#[u,e,λ_=>9]]
  |cons _ _=>ext e
 |p::l,v,c,g,ok,n,J,e,Y,NR,sl,rt,T,Zg=>by
  cases v with
  |nil=>ext e
  |cons w v =>
   erw[lG]at e;split at e
   .rename_i j hj;split at e
    .rename_i A N ab Mt;let(k,u,r,hk,x,e2,e3):=sl p (by simp) j hj;rw[Mt]at x;ext x;let x:=Mt;let hr:=rt 0 p r _ 9 e3 9;let(B,g1,g2):=hr;let Zh:IO r:=NR p (by simp) r e3;rw[k9,sx]at Y;let(MH,n'):=ok.mod (H':=upd c.H r (.lst B)) (u':=.lst A) n hk x e2 (λa D=>aj D) ⟨_,ak⟩ (λ_=>#[B,ak,by
      show(g2.cg q).mv #[λa z=>by rw[J];show hs a z,λa o h tp=>?_,λa o z h=>?_]
      .by_cases t:a=r
       .subst t;show absurd tp (Q a o Zh h)
       rw[aj t];by_cases G:IO a
       .show absurd tp (Q a o G h)
       rw[Zg a G];show h
      let G:=Vj a z;let t:a≠r:=λe=>G (e▸Zh);rw[aj t,Zg a G];show h])
     let Nn:j< -c.st:=(gj.mp x).1;let A1:∀f∈l,∀y,jr rs f\y->∃k u r,Kd.root k=4/\(c.st.set j (bD (N,.lst A)))[y]?\bD (k,u)/\c.σ[y]?\bD (.ref r)/\vs[f]?\.ref r:=λf hp y QJ=>by let(k',u',r',a1,a2,a3,a4):=sl f (by simp[hp]) y QJ;let D:j≠y:=λz=>Y.1 (mh.mpr #[f,hp,by rw[QJ,hj,z]]);show#[k',u',r',a1,by rw[ko D];show a2,a3,a4]
     let A2:∀a,(∀f∈l,vs[f]?≠bD (.ref a))->upd c.H r (.lst B) a=H' a:=λa t=>by
      by_cases h:a=r
      .subst h;rw[ak,g1]
      rw[aj h];show T a λf hp z=>?_;obtain rfl|hp:=gs.mp hp
      .rw[e3]at z;ext z;show h 9
      show t f hp z
     let A3:∀a,¬IO a->upd c.H r (.lst B) a=H' a:=λa t=>by let D:a≠r:=λz=>t (by rw[z];show Zh);rw[aj D];show Zg a t
     let(s,f1,f2,f3,f4,f5,f6,f7,f8):=xE q hs Vj Q l v {c with H:=upd c.H r (.lst B),st:=c.st.set j (bD (N,.lst A))} g MH n' J e Y.2 (λf hp=>NR f (by simp[hp])) A1 (λm f r' w' a b d=>rt (m+1) f r' w' (by exists a) b (by exists d)) A2 A3;show#[s,f1,f2,f3,f4,f5,f6,f7,λi k' u' z=>?_];let(I,z,hq):=f8 i k' u' z;by_cases hi:i=j
     .subst hi;let z:(c.st.set i (bD (N,.lst A)))[i]?=_:=z;rw[hH Nn]at z;ext z;show#[_,x,λq=>by rw[q]at hk;ext hk]
     let z:(c.st.set j (bD (N,.lst A)))[i]?=_:=z;rw[ko (uk hi)]at z;show#[I,z,hq]
    ext e
   ext e
def E2(st)(r):(jR st r).1=r.1:=by unfold jR;split<;>rfl
theorem c_.fre{st}:∀{b}{d},c_ C f c b d->c_ C f c (b.map (jR st)) d
 |[],_,h=>h|r::b,d,h=>by
  let(v,t,rfl,g,j,l):=h;show#[v,t,9,?_,c_.fre j,λhk i p m a n e=>?_]
  .let(k,u):=r;cases k<;>show g
  rw[mx,i7]at a;let(o,a,rfl):=a;rw[E2]at hk e;show l hk i o m a n e
structure P8(K:W.Frag)(cl:mn):6 where
 hc:Qy K cl
 cls:Q6 K cl
 nr:gP K cl "rows"
 ne:gP K cl "earlier"
theorem tN:∀{a},dZ a=4 ↔∀u∈a,MJ u=4|[]=>by simp[dZ]|u::a=>by rw[dZ,df,tN];simp
section
variable{X:Cx}{C:Ct}{pins:List (mn×Obj)}{s:nc}{c0 c c1:Cf}{i:8}{x:5}{px apos p1 p2 pos J':Pos}{u:U}{us:List U}
def Ok.ph(ok:Ok C c)(hs:c.st[i]?\bD (.A',.ob u us)):∃r b d v a e,c.σ[i]?\bD (.ref r)/\c.kid i=[a]/\SO C c.S c.H r a u us b d v e:=by let(j,f,r,rfl):=ok.sl i _ _ hs;let(b,d,v,a,e,g,h):=ok.dd.kd i _ r hs f;show#[r,b,d,v,a,e,f,g,h]
def Qy.one{K}(h:Qy K a)(b:Qy K d):a=d:=by rw[Qy,show W.nsIn K tv "Shelf"=_ from b]at h;ext h;rfl
def fQ{st}(h:W (OW i) st Q):∃u us,st[i]?\bD (.A',.ob u us)/\Q (u,us) st:=by
 let(p,a,e,h):=h;unfold OW at e;split at e
 .rename_i u us hs;ext e;show#[u,us,hs,h]
 ext e
def tP{st}(h:W (Rj i f) st Q):∃u us w a,st[i]?\bD (.A',.ob u us)/\f u us\(w,a)/\MJ w=4/\dZ a=4/\Q () (st.set i (bD (.A',.ob w a))):=by
 let(p,b,e,h):=h;unfold Rj at e;split at e
 .rename_i u us hs;split at e
  .rename_i w a d;split at e
   .rename_i z;ext e;show#[u,us,w,a,hs,d,z.1,z.2,h]
   ext e
  ext e
 ext e
def BQ(K:P8 X.K b)(d:C.K=X.K)(e:X.N[i]?\x)(f:NA X.env.scope x)(g:(x==("__debug__":5))=dt)(j:(x==("__classdict__":5))=dt):PE X (.Attribute (.Name x px) "rows" pos) (MD C (OW i >>= λp=>pure (.loc,p.1))):=by show PE.weak (uV (bH e f g j) 9) ?_;rintro σ H Q ⟨c0,rfl,rfl,ok,h⟩;rw[ai]at h;let(u,us,hs,h):=fQ h;let(r,m,k,v,a,n,l,_,o):=ok.ph hs;cases(K.hc).one (d▸o.hc);rw[au]at h;show#[_,l,r,b,k,_,v,9,o.ins,K.cls,K.nr,9,h c0 v 9 9 ok (Nx.refl c0) o.rep]
def rm(a:X.N[i]?\x)(b:NA X.env.scope x)(d:(x==("__debug__":5))=dt)(e:(x==("__classdict__":5))=dt):PE X (.Attribute (.Name x px) "earlier" pos) (G2 X.K (GI i) "earlier"):=uV (bH a b d e) 9
def SO.Wv{S}(K:P8 X.K b)(d:C.K=X.K)(o:SO C S H r a u us g f v h)(e:σ[i]?\bD (V.ref r))(q:Q (.ref a) H):G2 X.K (GI i) "earlier" σ H Q:=by cases(K.hc).one (d▸o.hc);show#[_,e,r,b,f,_,_,9,o.ins,K.cls,K.ne,9,q]
def BR(K:P8 X.K n)(b:C.K=X.K)(d:X.N[i]?\x)(e:NA X.env.scope x)(f:(x==("__debug__":5))=dt)(g:(x==("__classdict__":5))=dt)(j:Gl X "len")(k:X.mg "len"=cK):PE X (.Call (.Name "len" p1) [.Attribute (.Name x px) "earlier" pos] [] J') (MD C (OW i >>= λp=>pure (.loc,.int (-p.2:8)))):=by show PE.weak (Ao fW j k PySem.boot_len (d9 (rm d e f g) fB)) ?_;rintro σ H Q ⟨c0,rfl,rfl,ok,h⟩;rw[ai]at h;let(u,us,hs,h):=fQ h;let(r,q,t,v,a,l,m,_,o):=ok.ph hs;rw[au]at h;show o.Wv K b m #[a,l,9,.inl (M3.of o.lst),?_];rw[<-o.N3.len];show h c0 _ 9 9 ok (Nx.refl c0) 9
def BS(K:P8 X.K cl)(b:C.K=X.K)(hu:X.A.units+60<R0)(j:X.N[i]?\x)(k:NA X.env.scope x)(m:(x==("__debug__":5))=dt)(q:(x==("__classdict__":5))=dt):PT X (.Compare (.Attribute (.Name x px) "earlier" p1) [.Eq] [.List [] p2] pos) (NI C (OW i >>= λp=>if Na 50 (.lst p.2)=4 then pure p.2.isEmpty else M.fail)):=by
 rintro pins s σ H Q I ⟨c0,rfl,rfl,ok,h⟩;rw[ai]at h;let(u,us,hs,h):=fQ h;let(r,Qc,dx,v,a,t,w,_,o):=ok.ph hs
 dsimp only at h
 split at h
 rotate_left
 .show(bE.mp h).elim
 rename_i B;rw[au]at h;show ī (bin (R:=λx y g=>x=.ref a/\∃l,y=.ref l/\c0.H l=cK/\g=upd c0.H l (.lst [])) (rm j k m q) (Ak fB) I (o.Wv K b w #[ri _,λl hl=>#[9,l,9,hl,9]]) λv' u' s2 x y g d D G ⟨J,l,T,hl,Y⟩=>?_) 9;subst J T Y;let(MC,f):=ok.lay (o:=.lst []) hl;let Zi:a≠l:=λz=>by let:=o.lst;rw[z,hl]at this;ext this
 let r1:Rep C (λy=>c0.S y\/y=a\/y=l) (upd c0.H l (.lst [])) (.lst us) (.ref a):=#[a,t,9,.inl #[.inr (.inl 9),.inl (by rw[aj Zi];show o.lst)],o.N3.mv #[λy z=>.inl z,(ok.mv f.toNs).TZ,(ok.mv f.toNs).Wf]]
 let r2:Rep C (λy=>c0.S y\/y=a\/y=l) (upd c0.H l (.lst [])) (.lst []) (.ref l):=#[l,[],9,.inl #[.inr (.inr 9),.inl ak],9]
 let z:=(HG (A:=X.A) (n:=50) (.of d b _ _ _ _ B r1 D) (.of d b _ _ _ _ (by simp[Na,dB]) r2 G) 7).1;show z _ _ _ _ (Tw #[_,d,?_]);let e:cj (.lst us) (.lst [])=us.isEmpty:=by cases us<;>rfl
 rw[e];show h {c0 with H:=upd c0.H l (.lst [])} 9 9 MC f
def Ok.dkO(ok:Ok C c)(hs:c.st[i]?\bD (.A',.ob u us))(h:c.σ[i]?\bD (.ref r))(hk:c.kid i=[a])(l:f.σ=c.σ)(k:f.st=c.st.set i (bD (.A',.ob w t)))(g:f.kid=λj=>if j=i then v else c.kid j) (m:∀b o,c.H b\o->b≠r->b≠a->f.H b\o):Dk c f:=.of l (λj n p e=>by
   let d:j≠i:=λz=>by rw[k,z,hH (gj.mp hs).1]at e;ext e
   rw[k,ko (uk d)]at e;show#[#[_,e],by rw[g];show if_neg d]) λj n p b o e z q=>by
  let d:j≠i:=λz=>by rw[z,hs]at e;ext e
  show m b o q (λy=>d (ok.dd.dj j i b z #[_,r,hs,h,.inl y])) λy=>d (ok.dd.dj j i b z #[_,r,hs,h,.inr (by rw[hk,y];simp)])
def Ok.BU(ok:Ok C c)(n:Ns c0 c)(hs:c.st[i]?\bD (.A',.ob u us))(f:c.σ[i]?\bD (.ref r))(hk:c.kid i=[a])(o:SO C c.S c.H r a u us l m v vs) (h:∀b,b≠r->b≠a->H' b=c.H b) (p:H' r\.ins l m (RW t a)) (y:H' a\.lst A) (I:MJ w=4) (J:dZ g=4) (k:Rep C c.S c.H w t) (rws:av C c.S c.H g A) :∃d,d.H=H'/\d.σ=c.σ/\d.S=c.S/\d.st=c.st.set i (bD (.A',.ob w g))/\Ok C d/\Ns c0 d/\Dk c d:=by
  let(N,Q):=ok.ET (H':=H') (u':=.ob w g) (as':=[a]) n hs f (λb z=>h b (λq=>z #[_,_,hs,f,.inl q]) λq=>z #[_,_,hs,f,.inr (by rw[hk,q];simp)]) (λb T e=>by
      by_cases B:b=r
      . subst B;show#[_,p]
      . by_cases D:b=a
        . subst D;show#[_,y]
        . show#[T,by rw[h b B D];show e])
    (λG=>#[l,m,t,a,A,9,o.hc,p,o.ne,o.fr,I,k.mv G,y,J,rws.mv G]) (λb Y=>.inl (by rw[hk];show Y))
  show#[{c with H:=H',st:=c.st.set i (bD (.A',.ob w g)),kid:=λj=>if j=i then [a] else c.kid j},9,9,9,9,N,Q,ok.dkO hs f hk 9 9 9 λb o q z1 z2=>(h b z1 z2).trans q]
def BV(K:P8 X.K cl)(j:C.K=X.K)(k:X.N[i]?\x)(l:NA X.env.scope x)(m:(x==("__debug__":5))=dt)(n:(x==("__classdict__":5))=dt)(p:(apos.endLine==J'.line)=4):PE X (.Call (.Attribute (.Attribute (.Name x px) "earlier" p1) "pop" apos) [] [] J') (MD C (l8 i)):=by
 show PE.weak (As F.plainAttrs_list F.slot_list_pop F.type_list_pop Av (rm k l m n) 9 p) ?_;rintro σ H Q ⟨c0,rfl,rfl,ok,r',q,e,h⟩;unfold l8 at e;split at e
 .rename_i u us hs;split at e
  .rename_i w t;ext e;let(r,Qc,dx,v,a,d,f,hk,o):=ok.ph hs;let(y,z,A):=o.N3.get t;let hl:=o.N3.len;show o.Wv K j f #[.inl #[9,d,M3.of o.lst],a,d,y,9,9,o.lst,by rw[<-hl];show z,?_];let B:av C c0.S c0.H us.dropLast d.dropLast:=by rw[Î,Î,hl];show o.N3.take _
   let D:dZ us.dropLast=4:=by let:=o.SQ;rw[tN]at this ⊢;show λx G=>this x (List.dropLast_subset _ G)
   let(I,J,T,h3,Y,MH,g,d'):=ok.BU (Ns.refl c0) hs f hk o (H':=upd c0.H a (.lst d.dropLast)) (λb z1 z2=>aj z2) (by rw[aj o.ne];show o.ins) ak o.im D o.rep B;let mv:=ok.mv g;rw[<-J];show h I y T Y MH #[g,d'] (A.mv mv)
  ext e
 ext e
end
def Ok.Ma(ok:Ok C c)(n:Ns T c)(A:i< -c.σ)(rd:bq C c.S c.H r l u)(B:∀b∈r::l,¬c.R b/\T.H b=cK):Ok C {c with σ:=c.σ.set i (bD (.ref r)),st:=c.st.set i (bD (.A',u)),kid:=λj=>if j=i then l else c.kid j}/\Ns T {c with σ:=c.σ.set i (bD (.ref r)),st:=c.st.set i (bD (.A',u)),kid:=λj=>if j=i then l else c.kid j}:=by
 let G:i< -c.st:=by rw[ok.len];show A
 let D:∀(j:8) k w,(c.st.set i (bD (.A',u)))[j]?\bD (k,w)->j≠i->c.st[j]?\bD (k,w):=λj k w e I=>by rw[ko (uk I)]at e;show e
 let q:∀(j:8),j≠i->(c.σ.set i (bD (.ref r)))[j]?=c.σ[j]?:=λj I=>ko (uk I);let J:∀(j:8) k w,k.root=4->(c.st.set i (bD (.A',u)))[j]?\bD (k,w)->j≠i/\c.st[j]?\bD (k,w):=λj k w hk e=>by
  by_cases d:j=i
  .subst d;rw[hH G]at e;ext e hk
  show#[d,D j k w e d]
 let N:∀a,({c with σ:=c.σ.set i (bD (.ref r)),st:=c.st.set i (bD (.A',u)),kid:=λj=>if j=i then l else c.kid j}:Cf).R1 a->c.R1 a:=λa Q=>by let(j,k,w,hk,f,g):=Q;let(d,Nq):=J j k w hk f;show#[j,k,w,hk,Nq,by rw[<-q j d];show g]
 let s:∀j a,({c with σ:=c.σ.set i (bD (.ref r)),st:=c.st.set i (bD (.A',u)),kid:=λj=>if j=i then l else c.kid j}:Cf).RD j a->(j≠i/\c.RD j a)\/(j=i/\a∈r::l):=λj a Q=>by
  let(w,h,f,g,e3):=Q;by_cases d:j=i
  .subst d;let t:(c.σ.set j (bD (.ref r)))[j]?\bD (.ref h):=g;rw[hH A]at t;ext t;obtain rfl|e3:=e3
   .show .inr #[9,by simp]
   show .inr #[9,kj _ (by exists e3)]
  let QU:a=h\/a∈c.kid j:=by simpa[d] using e3
  show .inl #[d,w,h,D j _ w f d,by rw[<-q j d];show g,QU]
 show#[#[ok.same,ok.Ov,ok.par,ok.io,by simp[ok.len],λj k w e=>?_,λp m Y k2 w1 w2 h h1 h2 f g e3 e4=>?_,#[λj w h f g=>?_,λp m a z1 z2=>?_,λj a z1 z2=>?_]],#[n.keep,n.there,λa z=>?_,n.sub,n.new]]
 .by_cases d:j=i
  .subst d;rw[hH G]at e;ext e;show#[.ref r,hH A,r,9]
  let(v,f,g):=ok.sl j k w (D j k w e d);show#[v,(q j d).trans f,g]
 .let(PF,a1):=J p Y w1 h1 f;let(Qx,a2):=J m k2 w2 h2 g;show ok.inj p m Y k2 w1 w2 h h1 h2 a1 a2 ((q p PF).symm.trans e3) ((q m Qx).symm.trans e4)
 .by_cases d:j=i
  .subst d;rw[hH G]at f;ext f;let t:(c.σ.set j (bD (.ref r)))[j]?\bD (.ref h):=g;rw[hH A]at t;ext t;change bq C c.S c.H r (if j=j then l else c.kid j) u;rw[if_pos rfl];show rd
  let z:=ok.dd.kd j w h (D j _ w f d) ((q j d).symm.trans g);change bq C c.S c.H h (if j=i then l else c.kid j) w;rw[if_neg d];show z
 .rcases s p a z1 with⟨_,o⟩|⟨rfl,o⟩
  .rcases s m a z2 with⟨_,x⟩|⟨rfl,x⟩
   .show ok.dd.dj p m a o x
   show((B a x).1 (.inr #[p,o])).elim
  obtain⟨_,x⟩|⟨rfl,_⟩:=s m a z2
  .show((B a o).1 (.inr #[m,x])).elim
  rfl
 .rcases s j a z1 with⟨_,o⟩|⟨rfl,o⟩
  .show ok.dd.d1 j a o (N a z2)
  show(B a o).1 (.inl (N a z2))
 obtain z|⟨j,z⟩:=z
 .show n.roots a (.inl (N a z))
 obtain⟨_,y⟩|⟨_,y⟩:=s j a z
 .show n.roots a (.inr #[j,y])
 show .inr (B a y).2
def Ij(K:P8 X.K k)(A:C.K=X.K)(B:X.N[i]?\x)(G:NA X.env.scope x)(I:(x==("__debug__":5))=dt)(J:(x==("__classdict__":5))=dt)(Q:PE X e (MD C m))(hs:YR e (bD (.Attribute (.Name x T) "rows" Y)) f.line X.env=pure dt):L2.PS X (.Assign [.Attribute (.Name x T) "rows" Y] e f) (Nv C ns (m >>= λr=>lift r >>= λu=>Rj i (λ_ l=>bD (u,l)) >>= λ_=>pure .nx)):=by
 show PS.weak (uW (bH B G I J) Q hs) ?_;rintro D σ H ⟨c0,rfl,rfl,ok,h⟩;show aW ok h λr c v t w=>?_;rw[ai]at w;let(S',ab,u,sS,n,n1,d,w1,_,_):=iA ok t.ok t.nx t.rx.w w;rw[ai]at w1;let(u0,l,w',ws,hs,hf,i1,i2,q):=tP w1;ext hf;rw[au]at q;let(g,Qc,p,v0,a,vs,s,hk,o):=n.ph hs;cases(K.hc).one (A▸o.hc);let Nq:c0.σ[i]?\bD (.ref g):=by rw[<-t.hσ];show s
 show#[_,Nq,g,k,p,_,9,o.ins,K.cls,K.nr,by change 2<1000;lia,?_];let(j,h1,y,h3,h4,MH,n',_):=n.BU  n1.toNs hs s hk o (H':=upd c.H g (.ins k p (fA "rows" v (RW v0 a))))   (λb z1 z2=>aj z1) (by rw[ak];rfl) (by rw[aj (uk o.ne)];show o.lst) i1 o.SQ d o.N3;let z:=q j h4 MH n' (Kept.of (y.trans t.hσ));rw[show Fin C D .nx j=D.nx _ j.H from rfl,h1,y]at z;rw[<-t.hσ];show z
def Il(K:P8 X.K t)(g:C.K=X.K)(j:X.N[i]?\x)(k:NA X.env.scope x)(l:(x==("__debug__":5))=dt)(m:(x==("__classdict__":5))=dt)(y:(c.endLine==A.line)=4):L2.PS X (.Expr (.Call (.Attribute (.Attribute (.Name x px) "earlier" p1) "append" c) [.Attribute (.Name x p2) "rows" p3] [] A) B) (Nv C ns (Rj i Ep >>= λ_=>pure .nx)):=by
 show PS.weak (jD (wM F.plainAttrs_list F.slot_list_append F.type_list_append kA (rm j k l m) (d9 (uV  (bH j k l m) 9) fB) 9 9 y 9 9)) ?_;rintro D σ H ⟨n,rfl,rfl,ok,h⟩;rw[ai]at h;let(u,us,w,ws,hs,d,i1,G,q):=tP h;unfold Ep at d;split at d
 rotate_left
 .cases d
 ext d;rw[au]at q;let(r,Qc,I,v,a,p,e,hk,o):=ok.ph hs;let hl:=o.N3.len;unfold FZ ZS;show o.Wv K g e #[.inl #[9,p,M3.of o.lst],?_];cases(K.hc).one (g▸o.hc);show#[_,e,r,t,I,_,v,9,o.ins,K.cls,K.nr,9,a,p,v,9,9,o.lst,7,?_];let(f,J,s,h3,Q,T,Y,_):=ok.BU  (Ns.refl n) hs e hk o (H':=upd n.H a _) (λb z1 z2=>aj z2) (by rw[aj o.ne];show o.ins) ak o.im G o.rep (o.N3.snoc o.rep);let z:=q f Q T Y (Kept.of s);rw[show Fin C D .nx f=D.nx _ f.H from rfl,J,s]at z;show z
def Zj(a:mn):Sp:=λc H Q _=>∃x b,c=[.ref x]/\H x\.ins a b []/\∀t l,H t=cK->H l=cK->t≠l->Q .Mx (upd (upd (upd H t (.tup [])) l (.lst [])) x (.ins a b (RW (.ref t) l)))
def nmA:sL->Bool|.Name a _=>gi (a="self")|_=>dt
def atA(n:5):sL->Bool|.Attribute o b _=>nmA o&&gi (b=n)|_=>dt
def Vk(n:5)(k:sL->Bool):VU->Bool|.Assign a e _=>(gi (-a=1)&&a.all (atA n))&&k e|_=>dt
def Im:sL->Bool|.Tuple a _ _=>a.isEmpty|_=>dt
def Io:sL->Bool|.List a _=>a.isEmpty|_=>dt
def Zk:↑VU->Bool|[a,b]=>Vk "rows" Im a&&Vk "earlier" Io b|_=>dt
def BW(h:Zk b=4):∃a c,b=[a,c]/\Vk "rows" Im a=4/\Vk "earlier" Io c=4:=by
 cases b with
 |nil=>ext h|cons a b =>
  cases b with
  |nil=>ext h
  |cons c b =>
   cases b with
   |nil=>show#[a,c,9,Qh.mp (h)]
   |cons _ _=>ext h
def BX(h:atA n t=4):∃c d,t=.Attribute (.Name "self" c) n d:=by
 cases t with
 |Attribute o b d =>
  let(e,f):=Qh.mp (h);cases of_decide_eq_true f;cases o with
  |Name a c=>cases of_decide_eq_true (e);show#[c,d,9]
  |_=>ext e
 |_=>ext h
def tQ(h:Vk n k s=4):∃a b c e,s=.Assign [.Attribute (.Name "self" a) n b] e c/\k e=4:=by cases s with|Assign d e c=>let h:((decide _&&d.all _)&&k e)=4:=h;erw[df,decide_eq_true_eq]at h;let((f,g),i):=h;let(t,rfl):=ċ.mp f;let(a,b,rfl):=BX (y7.mp g t (by simp));show#[a,b,c,e,9,i]|_=>ext h
def zi(h:Im e=4):∃p q,e=.Tuple [] p q:=by cases e with|Tuple a p q=>cases PH.mp (h);show#[p,q,9]|_=>ext h
def zj(h:Io e=4):∃p,e=.List [] p:=by cases e with|List a p=>cases PH.mp (h);show#[p,9]|_=>ext h
def E3{K}{st}(F:Q9 K "__init__" r st f C)(S:d_ ["self"] ["self"] (aO st))(D:Zk (cC st)=4)(u:NA (aO st) "self")(E:P8 K a):gL P w K Y v Tz (k+1) f C ["self"] (Zj a):=by
 show F.ok S (λG H Q E h=>by let(x,b,rfl,_):=h;rfl) λNF A g s H G Q E' hr h=>?_;let(s1,s2,I,J,j):=BW D;let(_,_,_,e1,rfl,N):=tQ J;let(_,_,_,e2,rfl,T):=tQ j;let(_,_,rfl):=zi N;let(_,rfl):=zj T;rw[I];let(x,b,rfl,c,q):=h;show#[_,mO (uW (bH (i:=0) 9 u) (G3 fB) 9) (mO (uW (bH (i:=0) 9 u) (Ak fB) 9) wG),?_];show#[ri _,λt m=>#[_,9,x,a,b,[],9,?_,E.cls,E.nr,by decide,?_]]
 .rw[aj (λz=>by rw[z,m]at c;ext c)];show c
 let n:x≠t:=λz=>by rw[z,m]at c;ext c
 show#[ri _,λl hl=>#[_,9,x,a,b,fA "rows" (.ref t) [],9,?_,E.cls,E.ne,by change 1<1000;decide,?_]]
 .let o:x≠l:=λz=>by rw[<-z,ak]at hl;ext hl
  rw[aj o,ak]
 let o:x≠l:=λz=>by rw[<-z,ak]at hl;ext hl
 let B:t≠l:=λz=>by rw[<-z,aj (uk n),ak]at hl;ext hl
 let z:=q t l m (by rw[aj (uk o),aj (uk B)]at hl;show hl) B;let e:upd (upd (upd (upd H t (.tup [])) x (.ins a b (fA "rows" (.ref t) []))) l (.lst [])) x (.ins a b (fA "earlier" (.ref l) (fA "rows" (.ref t) [])))=upd (upd (upd H t (.tup [])) l (.lst [])) x (.ins a b (RW (.ref t) l)):=by
  funext y
  by_cases d:y=x
  .subst d;rw[ak,ak];rfl
  rw[aj d,aj d];by_cases p:y=l
  .subst p;rw[ak,ak]
  rw[aj p,aj p,aj d]
 change Q .Mx _;rw[e];show z
open Classical in
def l_(H:Hp)(a:mn->6):Hp:=λx=>if a x then cK else H x
def zk(h:l_ H a x\y):H x\y/\¬a x:=by unfold l_ at h;left
def xF(h:H x\y)(z:¬a x):l_ H a x\y:=by unfold l_;rw[if_neg z];show h
def pV(h:l_ H a x=cK):H x=cK\/a x:=by
 unfold l_ at h;split at h
 .show .inr (by omega)
 show .inl h
noncomputable abbrev Qd(P:B')(w:Q2)(K:W.Frag)(H:Hp)(a IO b:mn->6):Ct:=ctI P w K (l_ H b) a IO
structure Ip(C:Ct)(H:Hp)(Oc:mn->6)(p:8)(r a:mn)(is:↑8)(us:↑U)(vs:↑V):6 where
 len:-us=-vs
 par:∀x,C.OF x->OL H x/\¬C.IO x/\¬Oc x
 oc:∀x,Oc x->OL H x/\¬C.IO x
 Vl:∀x,C.IO x↔x=r\/x=a\/∃i∈is,vs[i]?\.ref x
 at_:vs[p]?\.ref r
 np:p∉is
 ob:∃u ws,us[p]?\.ob u ws/\bq C Oc H r [a] (.ob u ws)
 io:∀(i:8) (u:U),i∈is->us[i]?\u->∃q,vs[i]?\.ref q/\q≠r/\q≠a/\dn C Oc H q u
 any:∀(i:8) (u:U),i≠p->i∉is->us[i]?\u->∃v,vs[i]?\v/\Rep C (PS C Oc) H u v
 inj:∀(i j:8) (q:mn),i∈is->j∈is->vs[i]?\.ref q->vs[j]?\.ref q->i=j
structure xG(C:Ct)(H H':Hp)(Oc S':mn->6)(r a:mn)(is:↑8)(vs:↑V)(o:U)(ws:↑U)(k:Kd)(u:U)(v:V):6 where
 same:∀x y,H x\y->¬C.IO x->H' x\y
 there:∀x y,H x\y->∃y',H' x\y'
 new:∀x,S' x->(H x=cK\/Oc x)/\∃y,H' x\y
 ob:∃a',(a'=a\/H a'=cK)/\bq C S' H' r [a'] o/\(k=.own->v≠.ref a')
 own:k=.own->∃q,v=.ref q/\H q=cK/\¬S' q/\dn C S' H' q u
 loc:k=.loc->Rep C S' H' u v
 len:-ws=-is
 Og:∀(n i:8) (q:mn) (w:U),is[n]?\i->vs[i]?\.ref q->ws[n]?\w->dn C S' H' q w
def T9(P:B')(w:Q2)(K:W.Frag)(F:↑U->Option (Ex (Kd×U)))(m p:8)(f:↑8):Sp:=λe H Q E=>-e=m/\∃j k u o g h IO b r a,F j\.ok (k,.tup (u::o::g))/\Ip (Qd P w K H h IO b) H b p r a f j e /\
 ((k=.own\/k=.loc)/\(∀v d i,xG (Qd P w K H h IO b) H d b i r a f e o g k u v->Q v d) \/
  k=.io/\∃c,u=.str c/\∀l d i,W.nsIn K tv c\bD (.ref l)->xG (Qd P w K H h IO b) H d b i r a f e o g .io .Mx .Mx->E (.ref l) cK d)
section
variable{X:Cx}{C:Ct}{pins:List (mn×Obj)}{s:nc}{c0 c c1:Cf}{i p:8}{u:U}{us:List U}{Q:VK}
def Ok.Kx(ok:Ok C c)(n:Ns c0 c)(q:A.Eqv C)(hs:c.st[i]?\bD (.A',.ob u us))(e1:c.σ[i]?\bD (.ref r))(hk:c.kid i=[a])(o:SO C c.S c.H r a u us cl dx v0 QS) (NR:∀x,A.IO x↔x=r\/x=a\/∃m∈is,vs[m]?\.ref x) (slot:∀m∈is,∃j k w q,jr rs m\j/\Kd.root k=4/\c.st[j]?\bD (k,w)/\c.σ[j]?\bD (.ref q)/\vs[m]?\.ref q) (ME:(is.map (jr rs)).Nodup) (b:xG A c.H G c.S I r a is vs (.ob u' B) ws k w v) (S8:lG rs is ws (c.st.set i (bD (.A',.ob u' B)))\ab) :∃c',c'.H=G/\c'.σ=c.σ/\(∀x,c'.S x↔c.S x\/I x)/\c'.st=ab/\Ok C c'/\Ns c0 c'/\Dk c c'/\∀x,c'.R x->c.R x\/(c.H x=cK/\(k=.own->v≠.ref x)):=by
  classical
  show let l:mn->6:=λx=>∃m∈is,vs[m]?\.ref x;?_;let Ru:∀x,l x->c.R1 x:=λx MO=>by let(m,J,e):=MO;let(j,k,w,q,_,d,f,g3,g4):=slot m J;rw[e]at g4;ext g4;show#[j,k,w,d,f,g3]
  let N:∀x,(x=r\/x=a)->c.RD i x:=λx z=>#[_,r,hs,e1,z.imp id λz=>by rw[hk,z];simp]
  let T_:∀x,A.IO x->c.R x:=λx z=>by
    obtain z|z|z:=(NR x).mp z
    . show .inr #[i,N x (.inl z)]
    . show .inr #[i,N x (.inr z)]
    . show .inl (Ru x z)
  show let H1:Hp:=λx=>if A.IO x then c.H x else G x;?_
  let Ww:∀x,¬A.IO x->H1 x=G x:=λx z=>if_neg z;let ac:∀x,A.IO x->H1 x=c.H x:=λx z=>if_pos z;let Zm:∀x,A.IO x->∃y,c.H x\y:=λx z=>let ⟨_,_,_,y,e,_⟩:=ok.root (T_ x z);⟨y,e⟩;let Vj:∀x,I x->¬A.IO x:=λx z T=>by
    obtain y|y:=(b.new x z).1
    . let(y',e):=Zm x T
      rw[y]at e;ext e
    . show(ok.root (T_ x T)).1 y
  let Vm:yI c.H H1:=λx y e=>by
    by_cases z:A.IO x
    . rw[ac x z];show e
    . rw[Ww x z];show b.same x y e z
  let(MC,n1):=ok.grow (H':=H1) (S':=λx=>c.S x\/I x) Vm (λx z=>by
    obtain z|z:=z
    . show .inl z
    . obtain y|y:=(b.new x z).1
      . show .inr #[y,by rw[Ww x (Vj x z)];show(b.new x z).2]
      . show .inl y) λx=>.inl
  let(Y,Wx,rd,ar):=b.ob;let(Qc,as,v',a2,M0,ea,D):=rd;ext ea;let ag:∀x,(x=r\/x=a)->¬l x:=λx z T=>ok.dd.d1 i x (N x z) (Ru x T);let aw:¬l Y:=λz=>by
    obtain y|y:=Wx
    . show ag Y (.inr y) z
    . let(_,_,_,y',e,_):=ok.root (.inl (Ru Y z))
      rw[y]at e;ext e
  show let H2:Hp:=λx=>if l x then c.H x else G x;?_
  let S9:∀x,¬l x->H2 x=G x:=λx z=>if_neg z;let al:∀x,l x->H2 x=c.H x:=λx z=>if_pos z;let Vn:∀x,l x->∃w,dn A I G x w:=λx MO=>by
    let(m,J,e):=MO;let(t,ht):=υ J;let hl:t< -ws:=by rw[b.len];show(gj.mp ht).1
    show#[_,b.Og t m x _ ht e (vu hl)]
  let Rp:∀x y,l x->G x\y->¬Tp y:=λx y z e=>by let(w,g):=Vn x z;let(y',d,f):=g.some;left
  let am:Mv (λ_=>False) G (λx=>c.S x\/I x) H2:=#[λ_ z=>z.elim,λx y e t=>by
    by_cases z:l x
    . show absurd t (Rp x y z e)
    . rw[S9 x z];show e,λ_ _ z _=>z.elim]
  let OP:∀y∈[r,Y],¬(c.S y\/I y)/\¬C.OF y/\(C.H₀ y=cK\/C.IO y):=λy hy=>by
    let f1:=D.fr y hy;obtain rfl|hy:=gs.mp hy
    . let f2:=o.fr y (by simp)
      show#[λz=>z.elim f2.1 f1.1,f2.2]
    . rw[js.mp hy]at f1 ⊢
      obtain z|z:=Wx
      . let f2:=o.fr a (by simp)
        rw[z]at f1 ⊢;show#[λz=>z.elim f2.1 f1.1,f2.2]
      . let(z1,z2,z3,_,_):=ok.iP z
        show#[λz=>z.elim z2 f1.1,z3,.inl z1]
  let(MS,n2):=Ok.ET (c:={c with H:=H1,S:=λx=>c.S x\/I x}) (H':=H2) (u':=.ob u' B) (as':=[Y]) MC (n.trans n1.toNs) hs e1
    (λx z=>by
      by_cases y:l x
      . rw[al x y];show(ac x ((NR x).mpr (.inr (.inr y)))).symm
      . rw[S9 x y]
        show(Ww x λy'=>?_).symm;obtain y'|y'|y':=(NR x).mp y'
        . show z (N x (.inl y'))
        . show z (N x (.inr y'))
        . show y y') (λx y e=>by
      by_cases z:l x
      . let(y',e'):=Zm x ((NR x).mpr (.inr (.inr z)))
        show#[y',by rw[al x z];show e']
      . rw[S9 x z]
        by_cases T:A.IO x
        . let(y',e'):=Zm x T
          show b.there x y' e'
        . show#[y,by rw[<-Ww x T];show e])
    (λmv=>#[Qc,as,v',Y,M0,9,by rw[Qy,<-q.K];show D.hc,by rw[S9 r (ag r (.inl rfl))];show D.ins,D.ne,OP,D.im,((D.rep.MJ D.im).cg q).mv am,by rw[S9 Y aw];show D.lst,D.SQ,((D.N3.MJ D.SQ).cg q).mv am])
    (λy hy=>by
      rw[js.mp hy];obtain z|z:=Wx
      . show .inl (by change Y∈c.kid i;rw[hk,z];simp)
      . let(_,_,_,_,z4):=ok.iP z
        show .inr #[z4,n.none z])
  let Nn:i< -c.st:=(gj.mp hs).1;let(cf,f1,f2,f3,f4,f5,f6,f7,f8):=xE (C:=C) q (rs:=rs) (vs:=vs) (H':=G) (S':=I) (S1:=λx=>c.S x\/I x) (λx=>.inr) (IO:=l) (λx z T=>Vj x z ((NR x).mpr (.inr (.inr T)))) Rp is ws _ ab MS n2 9 S8 ME (λm J x z=>#[m,J,z]) (λm J j h=>by
      let(j',k,w,q,g0,d,f,g3,g4):=slot m J;rw[h]at g0;ext g0;show#[k,w,q,d,?_,g3,g4];let:i≠j:=λz=>by rw[<-z,hs]at f;ext f d
      change(c.st.set i _)[j]?=_;rw[ko this];show f) (λt m q w e3 e4 e5=>b.Og t m q w e3 e4 e5) (λx z=>S9 x λ⟨m,J,y⟩=>z m J y) S9
  let an:∀(j:8) (k:Kd) (w:U),cf.st[j]?\bD (k,w)->∃w0,c.st[j]?\bD (k,w0):=λj k w g=>by
    let(w0,g,_):=f8 j k w g;let g:(c.st.set i (bD (.A',.ob u' B)))[j]?\bD (k,w0):=g;by_cases h:i=j
    . subst h
      rw[hH Nn]at g;ext g;show#[_,hs]
    . rw[ko h]at g
      show#[w0,g]
  show#[cf,f6,f3,λx=>by rw[f4],f5,f1,f2,.of f3 (λj ks vs g=>?_) (λj ks vs x y g z e=>?_),λy hy=>?_]
  . let(w0,d,gq):=f8 j _ _ g
    cases gq 9;let h:i≠j:=λz=>by subst z;let d:(c.st.set i (bD (.A',.ob u' B)))[i]?=_:=d;rw[hH Nn]at d;ext d
    let d:(c.st.set i (bD (.A',.ob u' B)))[j]?=_:=d;rw[ko h]at d;show#[#[_,d],by rw[f7];show if_neg (uk h)]
  . let h:j≠i:=λq=>by rw[q,hs]at g;ext g
    rw[f6];show b.same x y e λq=>?_;obtain q|q|q:=(NR x).mp q
    . show h (ok.dd.dj j i x z (N x (.inl q)))
    . show h (ok.dd.dj j i x z (N x (.inr q)))
    . show ok.dd.d1 j x z (Ru x q)
  obtain⟨j,k',w',Ny,d,f⟩|⟨j,w',r',d,f,g3⟩:=hy
  . let(w0,d):=an j k' w' d
    rw[f3]at f;show .inl (.inl #[j,k',w0,Ny,d,f])
  . let(w0,d):=an j _ w' d
    rw[f3]at f;rw[f7]at g3;by_cases h:j=i
    . subst h
      let ap:c.σ[j]?\bD (.ref r'):=f;rw[e1]at ap;ext ap;obtain rfl|g3:=g3
      . show .inl (.inr #[j,N _ (.inl 9)])
      . let Zn:y=Y:=by exists g3
        subst Zn;obtain z|z:=Wx
        . show .inl (.inr #[j,N _ (.inr z)])
        . show .inr #[z,ar]
    . let Zn:y=r'\/y∈c.kid j:=by simpa[h] using g3
      show .inl (.inr #[j,w0,r',d,f,Zn])
def N9.Mb(t:N9 C c0 c d l)(hP:C.P=X.prog)(hw:C.w=X.w)(hK:C.K=X.K)(hs:c.st[i]?\bD (.A',.ob u us))(e1:c.σ[i]?\bD (.ref r))(hk:c.kid i=[a])(o:SO C c.S c.H r a u us cl dx v0 QS) (NR:lF ((.loc,.Mx)::d) A=4) :Ip (Qd X.prog X.w X.K c.H (λx=>OL c.H x/\¬(x=r\/x=a\/∃m∈A,(V.ref r::l)[m]?\.ref x)/\¬c.S x) (λx=>x=r\/x=a\/∃m∈A,(V.ref r::l)[m]?\.ref x) c.S) c.H c.S 0 r a A (.ob u us::d.map (·.2)) (.ref r::l) /\ (A.map (jr ((.loc,.Mx)::d))).Nodup/\∀m∈A,∃j k w q,jr ((.loc,.Mx)::d) m\j/\Kd.root k=4/\c.st[j]?\bD (k,w)/\c.σ[j]?\bD (.ref q)/\(V.ref r::l)[m]?\.ref q:=by
 show let IO:mn->6:=λx=>x=r\/x=a\/∃m∈A,(V.ref r::l)[m]?\.ref x;?_;let B:C.Eqv (Qd X.prog X.w X.K c.H (λx=>OL c.H x/\¬IO x/\¬c.S x) IO c.S):=#[hP,hw,hK]
 unfold lF at NR;erw[df,y7,decide_eq_true_eq,YU,O7]at NR;let((h1,h2),h3):=NR;let J:∀m∈A,∃h j n k q,m=h+1/\jr ((.loc,.Mx)::d) m\j/\d[h]?\(.bor j,.lst n)/\Kd.root k=4/\c.st[j]?\bD (k,.lst n)/\c.σ[j]?\bD (.ref q)/\l[h]?\.ref q/\¬c.S q/\¬C.OF q/\dn C c.S c.H q (.lst n):=λm f=>by let(j,hj):=Ys.mp (h1 m f);let(n,N):=zh hj;cases m with|zero=>ext N|succ h=>let N:d[h]?\(.bor j,.lst n):=N;let(v,b1,b):=t.nth N;let(q,rfl,d1,d2,_,T):=t.ok.rootOf b.1 b.2;let(k,D,G):=b.1;show#[h,j,n,k,q,9,hj,N,D,G,b.2,b1,d1,d2,T]
 let rd:∀x,(x=r\/x=a)->c.RD i x:=λx z=>#[_,r,hs,e1,z.imp id λz=>by left]
 let T_:∀x,IO x->c.R x:=λx z=>by
  obtain z|z|⟨m,f,e⟩:=z
  .show .inr #[i,rd x (.inl z)]
  .show .inr #[i,rd x (.inr z)]
  let(h,j,n,k,q,rfl,_,_,D,G,Y,I,_):=J m f;let e:l[h]?\.ref x:=e;rw[I]at e;ext e;show .inl #[j,k,_,D,G,Y]
 let nz:0∉A:=λz=>by let(_,_,_,_,_,e,_):=J 0 z;ext e
 let sP:∀x,c.S x->PS (Qd X.prog X.w X.K c.H (λx=>OL c.H x/\¬IO x/\¬c.S x) IO c.S) c.S x:=λx z=>.inr z;show#[#[by simp[t.len],λx z=>#[z.1,z.2.1,z.2.2],λx z=>#[t.ok.Be x z,λz'=>(t.ok.root (T_ x z')).1 z],λx=>Iff.rfl,9,nz,#[u,us,9,cl,dx,v0,a,QS,9,by rw[Qy,show(Qd X.prog X.w X.K c.H (λx=>OL c.H x/\¬IO x/\¬c.S x) IO c.S).K=C.K from hK.symm];show o.hc,o.ins,o.ne,λy hy=>#[(o.fr y hy).1,λz=>z.2.1 (by obtain z|z:=gs.mp hy;show .inl z;show .inr (.inl (js.mp z))),.inr (by obtain z|z:=gs.mp hy;show .inl z;show .inr (.inl (js.mp z)))],o.im,o.rep.cg B,o.lst,o.SQ,o.N3.cg B],λm w f e=>?_,λm w f Pk e=>?_,λm m2 q f Pk e3 e4=>?_],h2,λm f=>?_]
 .let(h,j,n,k,q,rfl,_,g0,D,G,Y,I,g5,g6,g7):=J m f;let e:(d.map (·.2))[h]?\w:=e;rw[mx,g0]at e;ext e;let Pe:c.R1 q:=#[j,k,_,D,G,Y]
  show#[q,I,λz=>t.ok.dd.d1 i q (rd q (.inl z)) Pe,λz=>t.ok.dd.d1 i q (rd q (.inr z)) Pe,g7.cg B]
 .cases m with
  |zero=>show absurd 9 f|succ m =>
   let e0:(d.map (·.2))[m]?\w:=e;rw[mx,i7]at e0;clear e;let((k',w'),e,rfl):=e0;let(v,b1,b):=t.nth e;let Nn:m+1<⇑((Kd.loc,U.Mx)::d):=by let:=(gj.mp e).1;simp;omega
   let ab:=(h3 (m+1) Nn).resolve_left Pk;rw[Ū,show((Kd.loc,U.Mx)::d)[m+1]?\(k',w') from e]at ab;show#[v,b1,Rep.cg B (u:=w') ?_];cases k' with
   |own=>let(q,rfl,_,d1,d2,T):=b;let(y,hy,_):=T.some;show T.rep sP (.inl #[#[y,hy],λz=>d2 (T_ q z),d1])
   |loc=>show Rep.mv (.up sP) b
   |any=>show Rep.mv (.up λy z=>by
     by_cases hS:c.S y
     .show .inr hS
     show .inl (z.elim (λz=>#[t.ok.J5 y (.inl z),λz'=>(t.ok.root (T_ y z')).2.1 z,hS]) λz=>absurd z hS)) b
   |bor j' =>
    let(q,rfl,d1,d2,_,T):=t.ok.rootOf b.1 b.2;let(y,hy,_):=T.some;let(k3,z1,z2):=b.1;show T.rep sP (.inl #[#[y,hy],λz=>?_,d1]);obtain z|z|⟨m2,ac,e'⟩:=z
    .show t.ok.dd.d1 i q (rd q (.inl z)) #[j',k3,_,z1,z2,b.2]
    .show t.ok.dd.d1 i q (rd q (.inr z)) #[j',k3,_,z1,z2,b.2]
    let(m4,j2,n,k2,q2,rfl,g,_,D,G,Y,I,_):=J m2 ac;let e':l[m4]?\.ref q:=e';rw[e']at I;ext I;let:=t.ok.inj j' j2 k3 k2 _ _ q z1 D z2 G b.2 Y;subst this;let:bD j'∉A.map (jr ((.loc,.Mx)::d)):=by simpa[Bl] using ab
    show this (mh.mpr #[_,ac,g])
   |_=>show b.elim
 .let(ag,j1,_,k1,q1,rfl,a0,_,N,a2,a3,a4,_):=J m f;let(al,j2,_,k2,q2,rfl,b0,_,b1,b,b3,b4,_):=J m2 Pk;let e3:l[ag]?\.ref q:=e3;let e4:l[al]?\.ref q:=e4;rw[e3]at a4;ext a4;rw[e4]at b4;ext b4;let:=t.ok.inj j1 j2 k1 k2 _ _ q N b1 a2 b a3 b3;subst this;show map_inj h2 _ f _ Pk (by rw[a0,b0])
 let(h,j,n,k,q,rfl,g,_,D,G,Y,I,_):=J m f;show#[j,k,_,q,g,D,G,Y,I]
def N9.BY(t:N9 C c0 c Y g)(G:C.P=X.prog)(I:C.w=X.w)(J:C.K=X.K){E}(hF:Γ f=F)(Rv:∀us r,F us\.ok r->-us=np)(w:W (gV Γ f i Y h) c.st (cM C c0 Q)):∃r,c.σ[i]?\bD (.ref r)/\T9 X.prog X.w X.K F np 0 h (.ref r::g) c.H Q E:=by
 let(r',ab,e,q):=w;unfold gV at e;split at e
 rotate_left
 .cases e
 rename_i u us hs;rw[hF]at e;split at e
 rotate_left
 .cases e
 rename_i k w u' ac ws N;split at e
 rotate_left
 .cases e
 rename_i j;split at e
 rotate_left
 .cases e
 rename_i ag S8;ext e;let(r,cl,dx,v0,a,QS,l,hk,o):=t.ok.ph hs;let(n,ME,slot):=t.Mb  G I J hs l hk o j.2;show#[r,l,?_,_,k,w,_,ws,_,_,c.S,r,a,N,n,.inl #[j.1,λv H' S' b=>?_]]
 .let z:=Rv _ _ N;rw[<-z];simp[t.len]
 let A:(Qd X.prog X.w X.K c.H (λx=>OL c.H x/\¬(x=r\/x=a\/∃m∈h,(V.ref r::g)[m]?\.ref x)/\¬c.S x) (λx=>x=r\/x=a\/∃m∈h,(V.ref r::g)[m]?\.ref x) c.S).Eqv C:=#[G.symm,I.symm,J.symm]
 let(d,B,f2,D,f4,MH,n',d',hR):=t.ok.Kx  t.nx.toNs A hs l hk o (λx=>Iff.rfl) slot ME b S8;rw[<-B];show q d v (f2.trans t.hσ) f4 MH #[n',t.nx.dk.trans d'] ?_;obtain rfl|rfl:=j.1
 .let(y,rfl,T,d2,d3):=b.own 9;let(_,z1,_,_,z4):=t.ok.iP T;show#[y,9,t.nx.none T,λz=>((D y).mp z).elim z1 d2,λz=>?_,?_]
  .rcases hR y z with z|⟨_,z⟩
   .show z4 z
   show z 9 9
  rw[B];show(d3.cg A).mv (.up λx z=>(D x).mpr (.inr z)) λ_ q=>q
 rw[show aK C c0 d .loc w v=Rep C d.S d.H w v from rfl,B];show((b.loc 9).cg A).mv (.up λx z=>(D x).mpr (.inr z))
end
end TM
namespace TM
open PySem L2 PyProof.Rows
def vL(C:Ct)(i:8)(m:M (↑(Kd×U))):TA:=λσ H Q=>∃v,∃a:Cf,σ[i]?\bD v/\a.σ=σ/\a.H=H/\Ok C a/\W m a.st λe b=>∀c d,c.σ=σ->c.st=b->Ok C c->Nx a c->c_ C a c e d->Q (v::d) c.H
def E4(d:X.N[i]?\x)(e:NA X.env.scope x)(f:(x==("__debug__":5))=dt)(g:(x==("__classdict__":5))=dt)(j:PA X k (NJ C ms)):PA X (.Name x l::k) (vL C i ms):=by rintro b a s σ H Q I ⟨v,c,ev,rfl,rfl,ok,h⟩;show d9 (bH d e f g) j 9 b a s c.σ c.H Q I #[v,ev,c,9,9,ok,h]
def Ky{k:↑(Kd×U)->M β}{g}(q:PA X r (vL C i ms))(ev:b.σ[i]?\bD v)(I:Inv X e b.σ b.H s)(ok:Ok C b)(h:W (ms >>= λa=>aG a >>= λ_=>k a) b.st g)(f:Pos):
  ‹X› (spliced (QM f (mu r X.env))) (λm n=>∃a c d,N9 C b c a d/\Inv X e c.σ c.H n/\Vals (v::d) m/\W (k a) c.st g) X.xe s:=by
 rw[ai]at h;show My (q f e s b.σ b.H (λo p=>∃a c d,o=v::d/\c.H=p/\N9 C b c a d/\W (k a) c.st g) I ⟨v,b,ev,9,9,ok,h.mono λa u j l d x y z B D=>?_⟩) ?_
 .rw[ai,cD]at j;subst y;show#[a,l,d,9,9,#[x,z,B,D,j.1],j.2]
 rintro m n ⟨o,p,G,J,a,l,d,rfl,rfl,t,w⟩;show#[a,l,d,t,by rw[t.hσ];show G,J,w]
def E5(b:((QM pos (mu as env)).all (λx=>!x.1)&&(Xl pos (Sz [] env)).all (λx=>x.1.isSome)&&gi (-as+⇑([]:↑V_)+(if ([]:↑V_).isEmpty then 0 else 1)<30))=4)(c:(apos.endLine==pos.line)=4):Oj (.Call (.Attribute (.Name x px) y apos) as [] pos) env=(do
   let a <-Oj (.Name x px) env
   ğ apos.atName
   let (f,first) <-Vx [a] (ů a y (do return (<-importBound (.Name x px) env).getD 4))
   Χ pos f first (QM pos (mu as env)) (Xl pos (Sz [] env))):=by
 let d:methodCallForm (-as+⇑([]:↑V_)) (QM pos (mu as env)) (Xl pos (Sz [] env))=4:=b;let e:methodCallPos 4 (.Name x px) env apos pos=pure pos:=by unfold methodCallPos;simp[c]
 rw[arm_eval_Call,show W8 (.Name x px) y env (Oj (.Name x px) env)=Oj (.Name x px) env from rfl];unfold methodCall calleeOf;rw[d,e];rfl
def E6(K:P8 X.K cl)(hP:C.P=X.prog)(hw:C.w=X.w)(p:C.K=X.K)(hN:X.N[i]?\x)(hv:NA X.env.scope x)(hd:(x==("__debug__":5))=dt)(MN:(x==("__classdict__":5))=dt)(hF:Γ f=F)(Rv:∀j r,F j\.ok r->-j=np) (G:gL X.prog X.w X.K X.mg X.base (P' X.prog X.w) k fa fd ps (T9 X.prog X.w X.K F np 0 [])) (hr:dF k X.A) (q:Meth X.K cl y fa) (hb:Binds X.K fd ps []) (B:y≠"rows"/\y≠"earlier") (ha:PA X (e::g) (NJ C ms)) (he:mu (e::g) X.env=(dt,Oj e X.env)::mu g X.env) (MY:(QM b (mu g X.env)).any (·.1)=dt) (ht:Oj (.Call (.Attribute (.Name x D) y d) (e::g) [] b) X.env=(do
   let J <-Oj (.Name x D) X.env
   ğ d.atName
   let (f,first) <-Vx [J] (ů J y pl)
   Χ b f first (QM b (mu (e::g) X.env)) (Xl b (Sz [] X.env)))) :
  PE X (.Call (.Attribute (.Name x D) y d) (e::g) [] b) (MD C (OW i >>= λ_=>ms >>= λm=>aG m >>= λ_=>gV Γ f i m [])):=by
 rintro l s σ H Q I ⟨n,rfl,rfl,ok,h⟩;rw[ai]at h;let(u,j,hs,h):=fQ h;let(r,Qc,dx,v0,a,QS,ev,_,o):=ok.ph hs;cases(K.hc).one (p▸o.hc);show W.methodCall_KW (pl:=pl) (My (bH hN hv hd MN l s n.σ n.H (λv T=>v=.ref r/\T=n.H) I ⟨_,ev,9,9⟩) λu' s1 ⟨x',T,Y,rx,ex,eH⟩=>?_) ht;subst ex eH;obtain rfl:u'=oa r:=rx;show mS Y o.ins K.cls q (by unfold RW;simp[W',beq_eq_false_iff_ne.mpr B.1,beq_eq_false_iff_ne.mpr B.2]) ?_;show W.callWith_K (first:=[.ref r]) (h₀:=X.base) I.ok.mod.Uh q.kp (My (args ha Y ok h b) λj s2 ⟨m,c,vs,t,I2,rv,w⟩=>#[I2.O9,?_]) he MY;let(r',R4,N7):=t.BY (E:=E0) hP hw p hF Rv w;rw[t.hσ,ev]at R4;ext R4;let z:=qw (us:=.ref r::j) (vs:=.ref r::vs) (Q:=Q) G hr hb .nil xn I2 (.cons 9 rv) (by rw[uv];show N7);rw[t.hσ]at z;show z
def BZ(K:P8 X.K J)(T:C.P=X.prog)(Y:C.w=X.w)(l:C.K=X.K)(hN:X.N[i]?\x)(hv:NA X.env.scope x)(hd:(x==("__debug__":5))=dt)(MN:(x==("__classdict__":5))=dt)(hF:Γ f=F)(Rv:∀g r,F g\.ok r->-g=np) (G:gL X.prog X.w X.K X.mg X.base (P' X.prog X.w) k fa fd ps (T9 X.prog X.w X.K F np 0 [])) (hr:dF k X.A) (m:Meth X.K J y fa) (hb:Binds X.K fd ps []) (n:y≠"rows"/\y≠"earlier") (ht:Oj (.Call (.Attribute (.Name x p) y c) [] [] b) X.env=(do
   let q <-Oj (.Name x p) X.env
   ğ c.atName
   let (f,first) <-Vx [q] (ů q y pl)
   Χ b f first (QM b (mu [] X.env)) (Xl b (Sz [] X.env)))) :
  PE X (.Call (.Attribute (.Name x p) y c) [] [] b) (MD C (OW i >>= λ_=>(pure []:M (↑(Kd×U))) >>= λz=>aG z >>= λ_=>gV Γ f i z [])):=by
 rintro e s σ H Q I ⟨d,rfl,rfl,ok,h⟩;rw[ai]at h;let(u,g,hs,h):=fQ h;let(r,Qc,dx,v0,a,QS,ev,_,o):=ok.ph hs;cases(K.hc).one (l▸o.hc);rw[ai,au,ai,cD]at h;let t:N9 C d d [] []:=#[9,ok,Nx.refl d,9,ttt]
 show W.methodCall_KW (pl:=pl) (My (bH hN hv hd MN e s d.σ d.H (λv B=>v=.ref r/\B=d.H) I ⟨_,ev,9,9⟩) λu' s1 ⟨x',B,j,rx,ex,eH⟩=>?_) ht;subst ex eH;obtain rfl:u'=oa r:=rx;show mS j o.ins K.cls m (by unfold RW;simp[W',beq_eq_false_iff_ne.mpr n.1,beq_eq_false_iff_ne.mpr n.2]) ?_;let(r',D,N7):=t.BY (E:=E0) T Y l hF Rv h.2;rw[ev]at D;ext D;show W.callWith_K0 (first:=[.ref r]) j.O9 m.kp (qw (us:=[.ref r]) (vs:=[.ref r]) (Q:=Q) G hr hb .nil xn j (.cons 9 .nil) (by rw[uv];show N7))
def Iq(K:P8 X.K g)(T:C.K=X.K)(Y:∀j,ns j=4->j≠i)(ME:X.N.Nodup)(B:X.N[i]?\x)(hx:Loc X.env.scope x)(hf:X.fn x=4\/X.env.scope.names.lookup x\.local)(M:Mk X.K g fa)(G:gL X.prog X.w X.K X.mg X.base Tz k fa fd ["self"] (Zj g))(hr:dF (k+1) X.A) (hg:Gl X "Shelf") (hm:X.mg "Shelf"\.ref g) (hb:Binds X.K fd ["self"] []) :L2.PS X (.Assign [.Name x px] (.Call (.Name "Shelf" p0) [] [] J') ab) (Nv C ns (λst=>bD (.ok .nx,st.set i (bD (.A',.ob (.tup []) []))))):=by
 rintro m s σ H D I ⟨a,rfl,rfl,ok,fl,ac,e,h⟩;ext e;let Nn:i< -a.σ:=by rw[I.len];show(gj.mp B).1
 show uM ME B hx (Am M G hr hg hm hb .nil JU) 9 hf m s a.σ a.H D I ?_;intro r d q u M_;show#[r,d,9,ak,λt l f hl Rt=>#[9,?_]];let J:t≠r:=λz=>by rw[z,ak]at f;ext f
 let v:l≠r:=λz=>by rw[z,ak]at hl;ext hl
 rw[aj J]at f;rw[aj v]at hl;let Zo:t≠d:=λz=>by rw[z,ak]at f;ext f
 let Ya:l≠d:=λz=>by rw[z,ak]at hl;ext hl
 rw[aj Zo]at f;rw[aj Ya]at hl;show let n:Hp:=upd (upd (upd (upd (upd a.H d (.own r)) r (.ins g d [])) t (.tup [])) l (.lst [])) r (.ins g d (RW (.ref t) l));?_;let Vp:yI a.H n:=λy o' b=>by
  let Q:y≠r:=λz=>by rw[z,q]at b;ext b
  let y2:y≠l:=λz=>by rw[z,hl]at b;ext b
  let y3:y≠t:=λz=>by rw[z,f]at b;ext b
  let y4:y≠d:=λz=>by rw[z,u]at b;ext b
  change upd _ r _ y=_;rw[aj Q,aj y2,aj y3,aj Q,aj y4];show b
 let(MC,n1):=ok.grow (H':=n) (S':=a.S) Vp (λy z=>.inl z) λy z=>z;let o:=ok.iP q;let p:=ok.iP hl;let rd:bq C a.S n r [l] (.ob (.tup []) []):=#[g,d,.ref t,l,[],9,T▸K.hc,ak,uk v,λy hy=>by
  obtain rfl|hy:=gs.mp hy
  .show#[o.2.1,o.2.2.1,.inl o.1]
  rw[js.mp hy];show#[p.2.1,p.2.2.1,.inl p.1],9,#[t,[],9,.inl (.inl (by change upd _ r _ t=_;rw[aj J,aj Rt,ak])),9],by change upd _ r _ l=_;rw[aj v,ak],9,9]
 let(MS,n2):=Ok.Ma (c:={a with H:=n,S:=a.S}) (i:=i) MC n1.toNs Nn rd (λy hy=>by
  obtain rfl|hy:=gs.mp hy
  .show#[o.2.2.2.2,q]
  rw[js.mp hy];show#[p.2.2.2.2,hl])
 show h _ 9 MS n2 #[λj hj=>ko (uk (Y j hj)),by simp]
def B0(h:PA X f (vL C i ms)):PA X f (vL C i (ms >>= Bm)):=by rintro b a s σ H Q I ⟨v,d,ev,rfl,rfl,ok,w⟩;show h b a s d.σ d.H Q I #[v,d,ev,9,9,ok,?_];rw[ai]at w;show w.mono λp st g c j k l m n r=>?_;let(t,o,e,q):=g;ext e;show q c j k l m n r.fre
def B1(o:C.P=X.prog)(p:C.w=X.w)(q:C.K=X.K)(v:Γ f=F)(x:∀b r,F b\.ok r->-b=y) (G:gL X.prog X.w X.K X.mg X.base (P' X.prog X.w) k j B D (T9 X.prog X.w X.K F y 0 J)) (N:dF k X.A) (T:Gl X f) (Y:X.mg f\.ref j) (UZ:W.keepIn X.K (.ref j)=4) (hb:Binds X.K B D []) (PN:(f==("__debug__":5))=dt) (ha:PA X (e::d) (vL C i ms)) (he:mu (e::d) X.env=(dt,Oj e X.env)::mu d X.env) (MY:(QM a (mu d X.env)).any (·.1)=dt) :PE X (.Call (.Name f p0) (e::d) [] a) (MD C (OW i >>= λ_=>ms >>= λg=>aG g >>= λ_=>gV Γ f i g J)):=by rintro l s σ H Q I ⟨c0,rfl,rfl,ok,h⟩;rw[ai]at h;let(u,b,hs,h):=fQ h;let(r,_,_,_,_,_,ev,_,_):=ok.ph hs;show Oh (mq I T Y ?_ PN);show W.callWith_K (h₀:=X.base) I.ok.mod.Uh UZ (My (Ky ha ev I ok h a) λb s1 ⟨g,c,vs,t,m,rv,w⟩=>#[m.O9,?_]) he MY;let(r',n,N7):=t.BY (E:=E0) o p q v x w;rw[t.hσ,ev]at n;ext n;let z:=qw (Q:=Q) G N hb .nil xn m rv (by rw[uv];show N7);rw[t.hσ]at z;show z
structure Ck where
 fns:↑5
 gl:↑(5 ×U)
 xc:↑5
 xd:↑(5 × 5)
 obs:↑(5 ×↑8 × 5)
def rn:U->U->Bool|.int i,.int j=>gi (i=j)|.str x,.str y=>gi (x=y)|.bl a,.bl b=>a==b|.Mx,.Mx=>4|_,_=>dt
def cN(h:rn u v=4):u=v:=by cases u<;>cases v<;>simp[rn]at h<;>subst_vars<;>rfl
def noStar(e:sL):Bool:=e.ctorIdx != 22
def fq(e:sL):Bool:=e.ctorIdx != 26
def vM(e:sL):Bool:=e.ctorIdx != 0x7
def eG(e:sL):Bool:=e.ctorIdx != 0x8&&e.ctorIdx != 0x9&&e.ctorIdx != 10
def Ir(e:sL):Bool:=e.ctorIdx != 25
def Oi(a:V9)(x:5):Bool:=gi (a.names.lookup x\.globalImplicit)
def g_(a:V9)(x:5):Bool:=gi (a.names.lookup x\.local)||decide (a.names.lookup x\.cell)||decide (a.names.lookup x\.free)
def pj(a:V9)(x:5):Bool:=gi (a.names.lookup x\.local)||decide (a.names.lookup x\.cell)
def Kz(a:V9)(x:5):Bool:=gi (a.names.lookup x\.local)
def bU(x:5):Bool:=!(x==("__debug__":5))&&!(x==("__classdict__":5))
def xH(N:↑5)(a:V9)(b:5->Bool)(i:8):sL->Bool|.Name x _=>gi (N[i]?\x)&&pj a x&&(b x||Kz a x)|_=>dt
def rp(N:↑5)(a:V9)(b:5->Bool):↑8->↑sL->Bool|[],[]=>4|i::c,e::d=>xH N a b i e&&rp N a b c d|_,_=>dt
def dE:sL->↑5
 |.Name x _=>[x]|.Tuple a _ _=>a.filterMap fun|.Name x _=>bD x|_=>cK
 |_=>[]
def hide(a N:↑5):↑5:=match a.filter λx=>gi (x∈N) with|[]=>N|[x]=>N.set (N.idxOf x) "."|x::y::_=>(N.set (N.idxOf x) ".").set (N.idxOf y) ".."
def Ta(t:Bool)(N:↑5)(b:V9)(c:5->Bool)(a:↑8):sL->Bool|.Name x p=>!t&&(match a with|[i]=>xH N b c i (.Name x p)|_=>dt)|.Tuple d _ _=>t&&rp N b c a d&&a.all λi=>gi (i< -N)|_=>dt
def isTup:sL->Bool|.Tuple _ _ _=>4|_=>dt
def kO(e:sL):Option (5 ×↑sL):=match e with
 |.Call f a b _=>match f with
  |.Name x _=>if b.isEmpty=4 then bD (x,a) else cK
  |_=>cK
 |_=>cK
def ft(h:kO e\(x,a)):∃p q,e=.Call (.Name x p) a [] q:=by
 unfold kO at h;split at h
 .split at h
  .simp_all
  ext h
 ext h
noncomputable def hJ(a:V9)(b:sL)(c:Ik)(e:sL):Option ↑sL:=match c with
 |.seq=>bD [e]|.Nc=>(kO e).bind λp=>if p.1="range"/\Oi a p.1=4/\-p.2=1 then bD p.2 else cK
 |.Rh=>(kO e).bind λp=>if p.1="range"/\Oi a p.1=4/\-p.2=2 then bD p.2 else cK
 |.Ri=>(kO e).bind λp=>if p.1="enumerate"/\Oi a p.1=4/\-p.2=1/\isTup b=4 then bD p.2 else cK
 |.zip=>(kO e).bind λp=>if p.1="zip"/\Oi a p.1=4/\-p.2=2/\isTup b=4 then bD p.2 else cK
noncomputable def simple:Bf->Bool:=λ_=>4
def B3(a b:V9):V9:={a with names:=a.names.map λ(n,k)=>if (k==UI&&b.kind==.function&&b.names.lookup n==bD .cell)=4 then(n,.cell) else(n,k)}
def cE [Decidable c]{f:c->Bool}{Q:6}(h:(if z:c then f z else dt)=4)(g:c->∀z,f z=4->Q):(Q):=by grind
def aJ(e:sL)(k:5->Bool):Bool:=if h:e.ctorIdx=23 then Ü (motive_1:=λ_=>Bool) e h (λx _=>k x) else dt
def aD(h:aJ e k=4):∃x p,e=.Name x p/\k x=4:=cE h λz=>Ü e z λ_ _ _ h=>#[_,_,9,h]
def aS{P:sL->6}(h:aJ e k=4)(fz:∀x p,k x=4->P (.Name x p)):P e:=cE h λz=>Ü e z λ_ _ _ h=>fz _ _ h
def dq{α:Type}(l:↑α)(k:α->Bool):Bool:=match l with|[a]=>k a|_=>dt
def eX(h:dq l k=4):∃a,l=[a]/\k a=4:=by
 unfold dq at h;split at h
 .show#[_,9,h]
 grind
def dQ{l}{k}{P:↑α->6}(h:dq l k=4)(fz:∀a,k a=4->P ([a])):P l:=by
 unfold dq at h;split at h
 .show fz _ h
 ext h
def cT(e:sL)(k:sL->↑sL->Pos->Bool):Bool:=if h:e.ctorIdx=16 then ϓ (motive_1:=λ_=>Bool) e h (λf a b p=>b.isEmpty&&k f a p) else dt
def lL(h:cT e k=4):∃f a p,e=.Call f a [] p/\k f a p=4:=cE h λz=>ϓ e z λf a b p _ h=>by
 replace h:(b.isEmpty&&k f a p)=4:=h
 rw[df,PH]at h;let(rfl,y):=h;show#[_,_,_,9,y]
def bG{P:sL->6}(h:cT e k=4)(fz:∀f a p,k f a p=4->P (.Call f a [] p)):P e:=by let(f,a,p,rfl,z):=lL h;show fz _ _ _ z
def gu(e:sL)(k:sL->5->Pos->Bool):Bool:=if h:e.ctorIdx=20 then Ŕ (motive_1:=λ_=>Bool) e h k else dt
def dW{P:sL->6}(h:gu e k=4)(fz:∀o m p,k o m p=4->P (.Attribute o m p)):P e:=cE h λz=>Ŕ e z λ_ _ _ _ h=>fz _ _ _ h
def B4(e:sL)(k:sL->aas->sL->Bool):Bool:=if h:e.ctorIdx=2 then η (motive_1:=λ_=>Bool) e h (λa c b _=>k a c b) else dt
def xI{P:sL->6}(h:B4 e k=4)(fz:∀a c b p,k a c b=4->P (.BinOp a c b p)):P e:=cE h λz=>η e z λ_ _ _ _ _ h=>fz _ _ _ _ h
def tS(e:sL)(k:sL->CmpOp->sL->Bool):Bool:=if h:e.ctorIdx=15 then ų (motive_1:=λ_=>Bool) e h (λa c d _=>dq c λf=>dq d λb=>k a f b) else dt
def vN(h:tS e k=4):∃a c b p,e=.Compare a [c] [b] p/\k a c b=4:=cE h λz=>ų e z λa d f q _ h=>by let(c,rfl,z1):=eX h;let(b,rfl,z2):=eX z1;show#[_,_,_,_,9,z2]
def mD{P:sL->6}(h:tS e k=4)(fz:∀a c b p,k a c b=4->P (.Compare a [c] [b] p)):P e:=by let(a,c,b,p,rfl,z):=vN h;show fz _ _ _ _ z
def d0(e:sL)(k:sL->5->Pos->↑sL->Pos->Bool):Bool:=cT e λf b c=>gu f λo m a=>k o m a b c
def cG{P:sL->6}(h:d0 e k=4)(fz:∀o m a b c,k o m a b c=4->P (.Call (.Attribute o m a) b [] c)):P e:=by apply bG h;intro f b p h;apply dW h;intro o m q h;show fz _ _ _ _ _ h
def nY(e:sL)(k:sL->sL->Bool):Bool:=if h:e.ctorIdx=21 then œ (motive_1:=λ_=>Bool) e h (λa b _=>k a b) else dt
def iG{P:sL->6}(h:nY e k=4)(fz:∀a b p,k a b=4->P (.Subscript a b p)):P e:=cE h λz=>œ e z λ_ _ _ _ h=>fz _ _ _ h
def pln:E->Bool|.var _=>4|.cst _=>4|_=>dt
def xJ{α:Type}(l:↑α)(k:α->α->Bool):Bool:=match l with|[a,b]=>k a b|_=>dt
def rq{l}{k}{P:↑α->6}(h:xJ l k=4)(fz:∀a b,k a b=4->P ([a,b])):P l:=by
 unfold xJ at h;split at h
 .show fz _ _ h
 ext h
def Ga(e:sL)(k:Const->Bool):Bool:=if h:e.ctorIdx=19 then ţ (motive_1:=λ_=>Bool) e h (λc _ _=>k c) else dt
def xK{P:sL->6}(h:Ga e k=4)(fz:∀c q p,k c=4->P (.Constant c q p)):P e:=cE h λz=>ţ e z λ_ _ _ _ h=>fz _ _ _ h
def Mc:Const->Option U|.int j=>bD (.int j)|.str y=>bD (.str y)|.bool y=>bD (.bl y)|.none=>bD .Mx|_=>cK
def Md(u:U)(c:Const):Bool:=match Mc c with|some v=>rn u v|none=>dt
def E7(e:sL)(a:BoolOp)(k:↑sL->Bool):Bool:=if h:e.ctorIdx=0 then Λ (motive_1:=λ_=>Bool) e h (λo b _=>gi (o=a)&&k b) else dt
def zm(h:E7 e b k=4):∃a p,e=.BoolOp b a p/\k a=4:=cE h λz=>Λ e z λo a q _ h=>by rw[df,decide_eq_true_eq]at h;let(rfl,y):=h;show#[_,_,9,y]
def vO{P:sL->6}(h:E7 e b k=4)(fz:∀a p,k a=4->P (.BoolOp b a p)):P e:=by let(a,p,rfl,z):=zm h;show fz _ _ z
def Iu(e:sL)(b:UnaryOp)(k:sL->Bool):Bool:=if h:e.ctorIdx=3 then Ų (motive_1:=λ_=>Bool) e h (λo a _=>gi (o=b)&&k a) else dt
def zo(h:Iu e b k=4):∃a p,e=.UnaryOp b a p/\k a=4:=cE h λz=>Ų e z λo a q _ h=>by left
def B5{P:sL->6}(h:Iu e b k=4)(fz:∀a p,k a=4->P (.UnaryOp b a p)):P e:=by let(a,p,rfl,z):=zo h;show fz _ _ z
def xM(e:sL)(k:↑sL->Bool):Bool:=if h:e.ctorIdx=25 then İ (motive_1:=λ_=>Bool) e h (λl _ _=>k l) else dt
def vP(h:xM e k=4):∃l q p,e=.Tuple l q p/\k l=4:=cE h λz=>İ e z λ_ _ _ _ h=>#[_,_,_,9,h]
def E8{P:sL->6}(h:xM e k=4)(fz:∀l q p,k l=4->P (.Tuple l q p)):P e:=cE h λz=>İ e z λ_ _ _ _ h=>fz _ _ _ h
def B6(e:sL)(k:↑sL->Bool):Bool:=if h:e.ctorIdx=24 then ϑ (motive_1:=λ_=>Bool) e h (λl _=>k l) else dt
def xN{P:sL->6}(h:B6 e k=4)(fz:∀l p,k l=4->P (.List l p)):P e:=cE h λz=>ϑ e z λ_ _ _ h=>fz _ _ h
def E9(e:sL):Bool:=if h:e.ctorIdx=0x6 then ϒ (motive_1:=λ_=>Bool) e h (λa b _=>a.isEmpty&&b.isEmpty) else dt
def pW(h:E9 e=4):∃p,e=.Dict [] [] p:=cE h λz=>ϒ e z λa b q _ h=>by left
def Iv{P:sL->6}(h:E9 e=4)(fz:∀p,P (.Dict [] [] p)):P e:=by let(p,rfl):=pW h;show fz _
def B7(e:sL)(k:Option sL->Option sL->Bool):Bool:=if h:e.ctorIdx=26 then ζ (motive_1:=λ_=>Bool) e h (λa b c _=>c.isNone&&k a b) else dt
def vQ(h:B7 e k=4):∃a b p,e=.Slice a b cK p/\k a b=4:=cE h λz=>ζ e z λa b c q _ h=>by
 replace h:(c.isNone&&k a b)=4:=h
 rw[df,ì]at h;let(rfl,y):=h;show#[_,_,_,9,y]
def E_{P:sL->6}(h:B7 e k=4)(fz:∀a b p,k a b=4->P (.Slice a b cK p)):P e:=by let(a,b,p,rfl,z):=vQ h;show fz _ _ _ z
def Iw(e:sL)(k:sL->sL->sL->↑sL->V9->Bool):Bool:=if h:e.ctorIdx=0x8 then Ţ (motive_1:=λ_=>Bool) e h (λa b c _=>dq b λg=>gi (g.is_async=0)&&k a g.target g.iter g.ifs c) else dt
def kP(h:Iw e k=4):∃b d a c f p,e=.ListComp b [⟨d,a,c,0⟩] f p/\k b d a c f=4:=cE h λz=>Ţ e z λb g f q _ h=>by let((d,a,c,z),rfl,z1):=eX h;rw[df,decide_eq_true_eq]at z1;let(rfl,z1):=z1;show#[_,_,_,_,_,_,9,z1]
def Iy{P:sL->6}(h:Iw e k=4)(fz:∀b d a c f p,k b d a c f=4->P (.ListComp b [⟨d,a,c,0⟩] f p)):P e:=by let(b,d,a,c,f,p,rfl,z):=kP h;show fz _ _ _ _ _ _ z
def isNm(e:sL)(n:5):Bool:=aJ e λx=>gi (x=n)
def zp(h:isNm e n=4):∃p,e=.Name n p:=by let(x,p,e,z):=aD h;show#[p,of_decide_eq_true z▸e]
def IA(v:sL)(f:5)(k:↑sL->Bool):Bool:=cT v λg a _=>isNm g f&&k a
def zq(h:IA v f k=4):∃a p q,v=.Call (.Name f p) a [] q/\k a=4:=by let(g,a,q,rfl,z):=lL h;rw[df]at z;let(p,rfl):=zp z.1;show#[a,p,q,9,z.2]
def IB{P:sL->6}(h:IA v f k=4)(fz:∀a p q,k a=4->P (.Call (.Name f p) a [] q)):P v:=by let(a,p,q,rfl,z):=zq h;show fz _ _ _ z
def rA(e:sL):Bool:=!(cT e λf a _=>a.isEmpty&&aJ f λ_=>4)
def PL(N:↑5)(a:V9)(i:8)(x:5):Bool:=gi (N[i]?\x)&&g_ a x&&bU x
def KA(e:sL):Bool:=B6 e λl=>l.isEmpty
def IC{P:sL->6}(h:KA e=4)(fz:∀p,P (.List [] p)):P e:=xN h λl p z=>by rw[PH]at z;subst z;show fz p
def Vq(N:↑5)(a:V9)(i:8)(o:Option sL):Bool:=o.any λe=>aJ e λy=>PL N a i y
def KC{P:Option sL->6}(h:Vq N a i o=4)(fz:∀y p,PL N a i y=4->P (bD (.Name y p))):P o:=by cases o with|none=>ext h|some e=>show aS (P:=λe=>P (bD e)) h fz
def tT(h:Vq N a i o=4):∃y p,o\.Name y p/\PL N a i y=4:=KC (P:=λo=>∃y p,o\.Name y p/\PL N a i y=4) h λy p z=>#[y,p,9,z]
mutual
noncomputable def bS(k:Ck):E->↑5->V9->sL->Bool
 |.var i,N,g,h=>aJ h λx=>gi (N[i]?\x)&&g_ g x&&bU x|.cst u,N,g,h=>Ga h λc=>Md u c|.Ow x u,N,g,h=>aJ h λy=>gi (x=y)&&Oi g x&&bU x&&k.gl.any λp=>gi (p.1=x)&&rn p.2 u|.bin H a b,N,g,h=>B4 h λq I w=>gi (H.op=I)&&bS k a N g q&&bS k b N g w|.cmp H a b,N,g,h=>tS h λq I w=>gi (H.op=I)&&!ç I w&&bS k a N g q&&bS k b N g w|.and A,N,g,h=>E7 h .And λz=>aT k A N g z|.or A,N,g,h=>E7 h .Or λz=>aT k A N g z|.not a,N,g,h=>Iu h .Not λq=>bS k a N g q|.bad,_,_,_=>4|.Nr i,N,g,h=>gu h λo m _=>aJ o λx=>gi (m="rows")&&PL N g i x|.P4 i,N,g,h=>cT h λB s _=>aJ B λf=>dq s λq=>gu q λo m _=>aJ o λx=>gi (f="len")&&gi (m="earlier")&&Oi g f&&PL N g i x|.OV i,N,g,h=>tS h λq H w=>gu q λo m _=>aJ o λx=>KA w&&gi (H=.Eq)&&gi (m="earlier")&&PL N g i x|.l8 i,N,g,h=>d0 h λo m j s D=>gu o λo2 m2 _=>aJ o2 λx=>s.isEmpty&&gi (m="pop")&&gi (m2="earlier")&&(j.endLine==D.line)&&PL N g i x|.NU f m i A,N,g,h=>d0 h λo y j s D=>aJ o λx=>gi (y=m)&&gi ((f,[],m)∈k.obs)&&(gi (m≠"")&&gi (m≠"rows")&&gi (m≠"earlier"))&&PL N g i x&&(j.endLine==D.line)&&gi (-s<20)&&aT k A N g s|.pop i,N,g,h=>d0 h λo m j s D=>aJ o λx=>s.isEmpty&&gi (m="pop")&&gi (N[i]?\x)&&g_ g x&&bU x&&(j.endLine==D.line)|.NT f i A is,N,g,h=>cT h λB s _=>aJ B λx=>gi (x=f)&&gi ((f,is,("":5))∈k.obs)&&Oi g x&&bU x&&Vq N g i s[0]?&&aT k A N g (s.drop 1)|.inD Y a i,N,g,h=>tS h λq I w=>aJ w λx=>gi (Ic Y=I)&&!ç I w&&gi (N[i]?\x)&&g_ g x&&bU x&&bS k a N g q|.T3 i,N,g,h=>aJ h λx=>gi (N[i]?\x)&&g_ g x&&bU x|.Pj i a b,N,g,h=>d0 h λo m j s D=>aJ o λx=>xJ s λq w=>gi (m="get")&&gi (N[i]?\x)&&g_ g x&&bU x&&(j.endLine==D.line)&&noStar q&&noStar w&&bS k a N g q&&bS k b N g w|.T4 i,N,g,h=>cT h λB s _=>aJ B λf=>dq s λc=>d0 c λo m j bs D=>aJ o λx=>bs.isEmpty&&gi (f="sorted")&&Oi g f&&gi (m="items")&&gi (N[i]?\x)&&g_ g x&&bU x&&(j.endLine==D.line)|.SS ln a b,N,g,h=>cT h λB s _=>aJ B λf=>dq s λd=>B4 d λl H r=>cT l λl' al _=>aJ l' λg1=>dq al λq=>cT r λr' ar _=>aJ r' λg2=>dq ar λw=>gi (f=(if ln=4 then("len":5) else "sorted"))&&gi (g1="set")&&gi (g2="set")&&gi (H=.Sub)&&Oi g f&&Oi g "set"&&noStar q&&noStar w&&bS k a N g q&&bS k b N g w|.RX a T,N,g,h=>cT h λB s _=>aJ B λx=>xJ s λq w=>aJ w λy=>gi (x="isinstance")&&gi (y=T.name)&&Oi g x&&Oi g y&&noStar q&&bS k a N g q|.tup A,N,g,h=>xM h λz=>aT k A N g z|.lst A,N,g,h=>B6 h λz=>aT k A N g z|.Ph _,N,g,h=>E9 h|.idx a b,N,g,h=>nY h λq w=>fq w&&bS k a N g q&&bS k b N g w|.P0 a lo hi,N,g,h=>nY h λq w=>B7 w λab N2=>bS k a N g q&&vR k lo N g ab&&vR k hi N g N2|.bi f A,N,g,h=>cT h λB z _=>aJ B λx=>gi (x=f.name)&&simple f&&Oi g x&&!z.isEmpty&&aT k A N g z|.Qz f A,N,g,h=>cT h λB s _=>aJ B λx=>dq s λc=>cT c λg' z _=>aJ g' λy=>gi (x=f.rf)&&gi (y=f.kM)&&Oi g x&&Oi g y&&!z.isEmpty&&aT k A N g z|.OM m a A,N,g,h=>d0 h λo J j z D=>gi (J=m.name)&&rA o&&(j.endLine==D.line)&&!z.isEmpty&&gi (-z<20)&&bS k a N g o&&aT k A N g z|.call f A,N,g,h=>cT h λB z _=>aJ B λx=>gi (x=f)&&gi (f∈k.fns)&&Oi g x&&bU x&&!z.isEmpty&&aT k A N g z|.comp n t ik ac cond e,N,g,h=>Iw h λag C G Q v =>
   gi (-dE C=n)&&DY (dE C++hide (dE C) N) (dE C) v g.names&&Ta t (dE C++hide (dE C) N) (B3 v g) (λx=>gi (v.names.lookup x\.cell)) (hW n) C&&vM G &&
   (match hJ g C ik G with
    |some s=>aT k ac N g s
    |none=>dt) &&
   gi (-Q<=1)&&aT k cond (dE C++hide (dE C) N) (B3 v g) Q&&bS k e (dE C++hide (dE C) N) (B3 v g) ag
noncomputable def aT(k:Ck):↑E->↑5->V9->↑sL->Bool
 |[],_,_,a=>a.isEmpty|e::c,N,b,a=>match a with
  |e'::a=>noStar e'&&bS k e N b e'&&aT k c N b a
  |[]=>dt
noncomputable def vR(k:Ck):↑E->↑5->V9->Option sL->Bool
 |[],_,_,o=>o.isNone|[e],N,a,o=>match o with
  |some b=>bS k e N a b
  |none=>dt
 |_::_::_,_,_,_=>dt
end
def bO:↑5:=["len","sorted","repr","max","min","all","any","list","tuple","str","int","range","enumerate","zip","reversed","set","dict","sum","isinstance","bool"]
structure R5(ck:Ck)(K:W.Frag)(mg:5->Option ki):6 where
 xc:∀x∈ck.xc,∃C,mg x\.ref C/\W.nsIn K tv x\bD (.ref C)/\W.excIn K C bmV "ValueError.__new__"=4
 xd:∀p∈ck.xd,∃C D,mg p.1\.ref C/\W.nsIn K tv p.1\bD (.ref C)/\mg p.2\.ref D/\W.exmOne K (.ref C) (.ref D)\4
structure vS(P:B')(w:Q2)(K:W.Frag)(mg:5->Option ki)(base:UD)(d:8)(F:↑U->Option (Ex (Kd×U)))(f:5):6 where
 ex:∃(np:8) (fa:mn) (fd:ę) (ps:↑5),gL P w K mg base (P' P w) d fa fd ps (spT P w K F np)/\mg f\.ref fa/\W.keepIn K (.ref fa)=4/\Binds K fd ps []/\(∀us k u,F us\.ok (k,u)->(k=.own\/k=.loc\/k=.any)/\-us=np)/\∀us c,F us\.exc c->-us=np
structure KD(P:B')(w:Q2)(K:W.Frag)(mg:5->Option ki)(base:UD)(d:8)(F:↑U->Option (Ex (Kd×U)))(f:5)(is:↑8)(m:5):6 where
 ex:∃(np:8) (fa:mn) (fd:ę) (ps:↑5),gL P w K mg base (P' P w) d fa fd ps (T9 P w K F np 0 is)/\(m=""->mg f\.ref fa)/\W.keepIn K (.ref fa)=4/\(m≠""->∀cl,Qy K cl->Meth K cl m fa)/\Binds K fd ps []/\∀us r,F us\.ok r->-us=np
structure Wz(P:B')(w:Q2)(K:W.Frag)(mg:5->Option ki)(base:UD):6 where
 ex:∃cl fi fd,P8 K cl/\Mk K cl fi/\gL P w K mg base Tz 1 fi fd ["self"] (Zj cl)/\Binds K fd ["self"] []/\mg "Shelf"\.ref cl
structure T'(ck:Ck)(Γ:Tab)(P:B')(w:Q2)(K:W.Frag)(mg:5->Option ki)(base:UD)(d:8):6 where
 o:∀q∈ck.obs,KD P w K mg base d (Γ q.1) q.1 q.2.1 q.2.2
 sh:Wz P w K mg base
 lv:2<=d
structure Gd(ck:Ck)(Γ:Tab)(C:Ct)(d:8)(X:Cx):6 where
 P:C.P=X.prog
 w:C.w=X.w
 K:C.K=X.K
 u:X.A.units+60<R0
 calm:X.calm=4
 room:dF d X.A
 blt:∀x∈bO,X.mg x=cK
 fns:∀f∈ck.fns,vS X.prog X.w X.K X.mg X.base d (Γ f) f
 OX:∀p∈ck.gl,∃val v,X.mg p.1\val/\RelV v val/\∀S H,Rep C S H p.2 v
 Og:T' ck Γ X.prog X.w X.K X.mg X.base d
def Gd.cx(g:Gd ck Γ C d X)(N)(a)(D)(s)(H)(b):Gd ck Γ C d (NC X N a D s H b) :=#[g.P,g.w,g.K,g.u,g.calm,g.room,g.blt,g.fns,g.OX,g.Og]
def cH(h:g_ a x=4):NA a x:=by
 unfold g_ at h;erw[YU,decide_eq_true_eq]at h;obtain(h|h)|h:=h
 .show .inl h
 .show .inr (.inl h)
 show .inr (.inr h)
def aV(h:bU x=4):(x==("__debug__":5))=dt/\(x==("__classdict__":5))=dt:=by unfold bU at h;exists h
def bb(h:noStar e=4):mu (e::es) env=(dt,Oj e env)::mu es env:=by cases e<;>first|rfl|cases h
def tU(h:fq e=4):qz e:=by intro o i;cases e<;>first|rfl|cases h
def vT(h:vM e=4):∀x,VT e a x=pure x:=by intro x;cases e<;>first|rfl|cases h
def mE(h:rA o=4):W8 o a b c=c:=by
 cases o with
 |Call f d e p =>
  cases f with
  |Name x q=>cases d with
   |nil=>cases e with
    |nil=>show absurd (show dt=4 from h) RR
    |cons _ _=>rfl
   |cons _ _=>rfl
  |_=>rfl
 |_=>rfl
def bF(h:∀e∈es,noStar e=4):(QM pos (mu es env)).any (·.1)=dt/\(QM pos (mu es env)).all (λx=>!x.1)=4:=by
 induction es with
 |nil=>show#[9,9]|cons e es a =>
  rw[bb (h e (by simp))];let:=a λb c=>h b (by simp[c])
  assumption
def cP(h:aT k b N d a=4):∀e∈a,noStar e=4:=by
 induction b generalizing a with
 |nil =>
  cases a with
  |nil=>intro e he;ext he
  |cons _ _=>simp[aT]at h
 |cons x b c =>
  cases a with
  |nil=>intro e he;ext he
  |cons f a =>
   erw[aT,df]at h;intro e he;obtain rfl|he:=gs.mp he
   .show h.1.1
   show c h.2 e he
def pX(a:∀x,b x=4->X.fn x=4)(h:xH X.N X.env.scope b i e=4):vH X e i:=by
 cases e with
 |Name x p =>
  erw[xH,df,decide_eq_true_eq,pj,YU,Kz]at h;show#[x,p,9,h.1.1,?_,?_]
  .rcases h.1.2 with z|z
   .show .inl z
   show .inr z
  obtain z|z:=h.2
  .show .inl (a x z)
  show .inr z
 |_=>ext h
theorem nZ(c:∀x,d x=4->X.fn x=4):∀{a}{b},rp X.N X.env.scope d a b=4->gn X b a|[],[],_=>.nil|[],_::_,h=>by ext h|_::_,[],h=>by ext h|i::a,e::b,h=>by erw[rp,df]at h;show .cons (pX c h.1) (nZ c h.2)
def tV(e:X.calm=4)(f:C.K=X.K)(b:X.N.Nodup)(c:∀x,fa x=4->X.fn x=4)(h:Ta t X.N X.env.scope fa a d=4):PG X d (tG C t a):=by
 cases d with
 |Name x p =>
  erw[Ta,df,S7]at h;let(rfl,h):=h;cases a with
  |nil=>ext h
  |cons i a=>cases a with
   |nil=>show HY b (pX c h)
   |cons _ _=>ext h
 |Tuple l k p=>erw[Ta,df,y7,decide_eq_true_eq]at h;let((rfl,g),j):=h;show Kg e f b (nZ c g) j|_=>ext h
def kQ(a N):fD ((a++hide a N).drop ⇑a) N:=by
 rw[Đ rfl];unfold hide;split
 .show .refl N
 .show(fD.refl N).set _ (.inl 9)
 show((fD.refl N).set _ (.inl 9)).set _ (.inr 9)
def Bf.isB:Bf->Bool|.len=>4|.sorted=>4|.max=>4|.min=>4|.all=>4|_=>dt
def Bf.id:Bf->String
 |.len=>"len"|.sorted=>"sorted"|.max=>"max"|.min=>"min"|.all=>"all"
 |.list=>"list"|.tuple=>"tuple"|.str=>"str"
def Fb:∀f,simple f=4->Pd f.name\f.val/\f.name∈bO/\f.name≠"__name__"/\(f.name==("__debug__":5))=dt:=by intro f h;cases f<;>first|show⟨by decide +kernel,by decide +kernel,by decide +kernel,by rfl⟩|(done)
def ID:∀f,simple f=4->(f.val=.builtin f.id\/f.val=.type f.id):=by intro f h;cases f<;>first|show .inl 9|show .inr 9|(done)
def IE:∀f:B2,f.rf∈bO/\f.kM∈bO:=by intro f;cases f<;>show#[by decide +kernel,by decide +kernel]
def Fc:∀f:Mf,Slot "str" f.name f.id/\ϩ (.builtin f.id)=pure (.type "method_descriptor"):=by intro f;cases f with|split=>show#[F.slot_str_split,F.type_str_split]|join=>show#[F.slot_str_join,F.type_str_join]|partition=>show#[F.slot_str_partition,F.type_str_partition]
def da(h:Oi X.env.scope x=4):Gl X x:=by change X.env.kindOf x\_;show of_decide_eq_true h
def Fd:("enumerate":5)∈bO:=by decide +kernel
def tW:("isinstance":5)∈bO:=by decide +kernel
def B8(T:Rg):T.name∈bO:=by cases T<;>decide +kernel
def xO:("range":5)∈bO:=by decide +kernel
def Gb(g:Gd ck Γ C d X)(h:hJ X.env.scope t w n\u)(r:PA X u (NJ C (bR Γ o)))(y:∀a,u=[a]->∃e,o=[e]/\PE X a (MD C (ev Γ e)))(m:∀e∈u,noStar e=4):PI X t n (Qb C w (bR Γ o)):=by
 unfold hJ at h;split at h
 .cases h;let(e,rfl,z):=y _ 9;show HV g.K z
 .rw[o9]at h;let((x,j),k,h):=h;split at h
  .rename_i l;ext h;let(c,f,hl):=l
   dsimp only at c f hl
   subst c;let(p,q,rfl):=ft k;let(b,rfl):=ċ.mp hl;show EO (da f) (g.blt _ xO) (bb (m _ (by simp))) r
  ext h
 .rw[o9]at h;let((x,j),k,h):=h;split at h
  .rename_i l;ext h;let(c,f,hl):=l
   dsimp only at c f hl
   subst c;let(p,q,rfl):=ft k;obtain⟨b,i,rfl⟩:∃b i,j=[b,i]:=by match j,hl with|[b,i],_=>show#[b,i,9]
   let s:=bb (env:=X.env) (es:=[]) (m _ (show _∈[_,_] from kj _ my));show ER (da f) (g.blt _ xO) (by rw[bb (m _ my),s];rfl) s r
  ext h
 .rw[o9]at h;let((x,j),k,h):=h;split at h
  .rename_i l;ext h;let(c,f,hl,v):=l
   dsimp only at c f hl
   subst c;let(p,q,rfl):=ft k;let(b,rfl):=ċ.mp hl;cases t with|Tuple A B D=>show HW g.K (da f) (g.blt _ Fd) (bb (m _ (by simp))) r|_=>ext v
  ext h
 rw[o9]at h;let((x,j),k,h):=h;split at h
 .rename_i l;ext h;let(c,f,hl,v):=l
  dsimp only at c f hl
  subst c;let(p,q,rfl):=ft k;obtain⟨b,i,rfl⟩:∃b i,j=[b,i]:=by match j,hl with|[b,i],_=>show#[b,i,9]
  let s:=bb (env:=X.env) (es:=[]) (m _ (show _∈[_,_] from kj _ my));cases t with|Tuple A B D=>show HX g.K (da f) (g.blt _ (by decide +kernel)) (bb (m _ my)) (by rw[s];rfl) r|_=>ext v
 ext h
def Ge{a:M α}{b:α->M β}{c:α->M γ}{g:γ->M δ}{st}{Q}(w:W (a >>= λx=>b x >>= λ_=>c x >>= g) st Q):W ((a >>= λx=>b x >>= λ_=>c x) >>= g) st Q:=by erw[ai]at w ⊢;show w
def bV:PT X e (NI C M.fail):=λa s σ H Q I ⟨_,_,_,_,w⟩=>(bE.mp w).elim
def n9:PE X e (MD C M.fail):=λa s σ H Q I ⟨_,_,_,_,w⟩=>(bE.mp w).elim
def PT.eqv(h:PT X e (NI C m))(i:∀st Q,W a st Q->W m st Q):PT X e (NI C a):=PT.weak h λσ H Q ⟨b,c,d,ok,w⟩=>#[b,c,d,ok,i _ _ w]
def KG(g:Gd ck Γ C d X)(c:PA X a (NJ C (bR Γ i))) (h:(gi (x=f.name)&&simple f&&Oi X.env.scope x&&!a.isEmpty&&aT ck i X.N X.env.scope a)=4):PE X (.Call (.Name x p) a [] b) (MD C (ev Γ (.bi f i))):=by
 erw[df,decide_eq_true_eq]at h;obtain⟨⟨⟨⟨rfl,j⟩,k⟩,t⟩,v⟩:=h;let(l,m,n,o):=Fb f j;let q:=cP v;cases a with
 |nil=>ext t|cons w r =>
  let st:=bb (env:=X.env) (es:=r) (q w (by simp));let s:=(bF (pos:=b) (env:=X.env) (es:=r) λe y=>q e (by simp[y])).1;obtain hv|hv:=ID f j
  .show EJ g.calm g.K g.room.gd g.u hv (da k) (g.blt _ m) (by rw[l,hv]) n o c st s
  show EK g.calm g.K g.room.gd g.u hv (da k) (g.blt _ m) (by rw[l,hv]) n o c st s
def KH(g:Gd ck Γ C d X)(j:PA X a (NJ C (bR Γ b))) (h:(gi (x=f.rf)&&gi (y=f.kM)&&Oi X.env.scope x&&Oi X.env.scope y&&!a.isEmpty&&aT ck b X.N X.env.scope a)=4):PE X (.Call (.Name x p) [.Call (.Name y z) a [] k] [] l) (MD C (ev Γ (.Qz f b))):=by erw[df,decide_eq_true_eq]at h;obtain⟨⟨⟨⟨⟨rfl,rfl⟩,m⟩,n⟩,o⟩,q⟩:=h;let(r,s):=IE f;let c:=cP q;cases a with|nil=>ext o|cons t i=>let st:=bb (env:=X.env) (es:=i) (c t (by simp));let v:=(bF (pos:=k) (env:=X.env) (es:=i) λe w=>c e (by simp[w])).1;show EN g.calm g.u g.K (da m) (g.blt _ r) (da n) (g.blt _ s) j st v
def KI(g:Gd ck Γ C d X)(p:PE X o (MD C (ev Γ a)))(q:PA X b (NJ C (bR Γ l))) (h:(gi (c=m.name)&&rA o&&(f.endLine==i.line)&&!b.isEmpty&&gi (-b<20)&&bS ck a X.N X.env.scope o&&aT ck l X.N X.env.scope b)=4):PE X (.Call (.Attribute o c f) b [] i) (MD C (ev Γ (.OM m a l))):=by
 erw[df,decide_eq_true_eq]at h;obtain⟨⟨⟨⟨⟨⟨rfl,r⟩,s⟩,t⟩,u⟩,B⟩,v⟩:=h;let j:=cP v;let(w,x):=Fc m;cases b with
 |nil=>ext t|cons n k =>
  let st:=bb (env:=X.env) (es:=k) (j n (by simp));let y:=(bF (pos:=i) (env:=X.env) (es:=k) λe z=>j e (by simp[z])).1;let A:=(bF (pos:=i) (env:=X.env)  j).2;show EM g.K w x p q (mE r) ?_ s st y;rw[A];let:⇑(n::k)+⇑([]:↑V_)+(if ([]:↑V_).isEmpty=4 then 0 else 1)<30:=by simp at u ⊢;lia
  erw[decide_eq_true this];rfl
def B9(g:Gd ck Γ C d X)(k:PA X a (NJ C (bR Γ c))) (h:(gi (x=f)&&gi (f∈ck.fns)&&Oi X.env.scope x&&bU x&&!a.isEmpty&&aT ck c X.N X.env.scope a)=4):PE X (.Call (.Name x p) a [] b) (MD C (ev Γ (.call f c))):=by erw[df,decide_eq_true_eq]at h;obtain⟨⟨⟨⟨⟨rfl,l⟩,m⟩,n⟩,o⟩,q⟩:=h;let i:=cP q;let(B,D,G,H,r,s,t,u,v,_):=(g.fns _ l).ex;cases a with|nil=>ext o|cons y j=>let st:=bb (env:=X.env) (es:=j) (i y (by simp));let z:=(bF (pos:=b) (env:=X.env) (es:=j) λe A=>i e (by simp[A])).1;show Bz g.P g.w g.K 9 v r g.room (da m) s t u (aV n).1 k st z
def hV{X:Cx}(h:PL X.N X.env.scope i x=4):X.N[i]?\x/\NA X.env.scope x/\(x==("__debug__":5))=dt/\(x==("__classdict__":5))=dt:=by erw[PL,df,decide_eq_true_eq]at h;let(a,b):=aV h.2;show#[h.1.1,cH h.1.2,a,b]
def KJ(c:Vq X.N X.env.scope i b[0]?=4)(d:PA X (b.drop 1) (NJ C ms)):PA X b (vL C i ms):=by let(y,p,e,z):=tT c;let(w1,w2,w3,w4):=hV z;cases b with|nil=>ext e|cons a b=>ext e;show E4 w1 w2 w3 w4 d
def B_(g:Gd ck Γ C d X)(j:PA X a (vL C i (bR Γ k)))(c:∀e∈a,noStar e=4)(l:a≠[]) (m:x=f) (n:(f,q,("":5))∈ck.obs) (r:Oi X.env.scope x=4) (s:bU x=4):PE X (.Call (.Name x p) a [] b) (MD C (ev Γ (.NT f i k q))):=by subst m;let(G,H,I,J,t,u,v,_,y,z):=(g.Og.o _ n).ex;cases a with|nil=>show absurd 9 l|cons A h=>let st:=bb (env:=X.env) (es:=h) (c A (by simp));let B:=(bF (pos:=b) (env:=X.env) (es:=h) λe D=>c e (by simp[D])).1;show B1 g.P g.w g.K 9 z t g.room (da r) (u 9) v y (aV s).1 (B0 j) st B
def KN(g:Gd ck Γ C d X)(A:PA X b (NJ C (bR Γ l)))(j:∀e∈b,noStar e=4)(k:b=[]->l=[])(B:(a.endLine==c.line)=4)(Q:-b<20) (D:(f,[],m)∈ck.obs) (h:m≠""/\m≠"rows"/\m≠"earlier") (G:PL X.N X.env.scope i x=4):PE X (.Call (.Attribute (.Name x H) m a) b [] c) (MD C (ev Γ (.NU f m i l))):=by let(T,Y,fd,ps,n,_,q3,p,q,r):=(g.Og.o _ D).ex;let(s,_,_,K,_):=g.Og.sh.ex;let(z1,z2,t,u):=hV G;let v:=E5 (x:=x) (y:=m) (px:=H) (apos:=a) (pos:=c) (env:=X.env) (as:=b) (by rw[(bF j).2];change(4&&4&&gi (-b+0+0<30))=4;rw[decide_eq_true ⋯];rfl) B;cases b with|nil=>cases k 9;show BZ K g.P g.w g.K z1 z2 t u 9 r n g.room (p h.1 s K.hc) q h.2 v|cons I z=>let st:=bb (env:=X.env) (es:=z) (j I (by simp));let J:=(bF (pos:=c) (env:=X.env) (es:=z) λe k=>j e (by simp[k])).1;show E6 K g.P g.w g.K z1 z2 t u 9 r n g.room (p h.1 s K.hc) q h.2 A st J v
def obL(f:Vq N d i b[n]?=4)(g:aT k es N d (b.take n)=4)(h:aT k es2 N d (b.drop (n+1))=4):(∀e∈b,noStar e=4)/\b≠[]/\True:=by
 let(y,p,e,z):=tT f;let c:n< -b:=(gj.mp e).1;show#[λa ha=>?_,(λz=>by rw[z]at c;ext c),ttt];rw[<-Í n b,Ym c]at ha;obtain ha|ha:=ke.mp ha
 .show cP g a ha
 obtain ha|ha:=gs.mp ha
 .rw[ha,(gj.mp e).2];rfl
 show cP h a ha
def fR(h:(b&&aT k a N c d)=4):aT k a N c d=4:=(Qh.mp h).2
mutual
theorem bW:∀(e:E) (X:Cx) (A:sL),Gd ck Γ C d X->bS ck e X.N X.env.scope A=4->PE X A (MD C (ev Γ e))
 |.var i,X,A,g,h=>by apply aS h;intro x p0 B;clear h;let h:=B;erw[df,decide_eq_true_eq]at h;let(h3,h4):=aV h.2;show rb h.1.1 (cH h.1.2) h3 h4|.cst u,X,A,g,h=>by
  apply xK h;intro c q0 p0 B;cases c with
  |int j=>let:=cN B;subst this;show jW zZ λ_ _=>9
  |str y=>let:=cN B;subst this;show jW Aa λ_ _=>9
  |bool y=>let:=cN B;subst this;show jW FY λ_ _=>9
  |none=>let:=cN B;subst this;show jW z_ λ_ _=>9
  |_=>ext B
 |.Ow x u,X,A,g,h=>by apply aS h;intro y p0 B;clear h;let h:=B;erw[df,decide_eq_true_eq,ÿ]at h;obtain⟨⟨⟨rfl,G⟩,J⟩,p,hp,e1,e2⟩:=h;let:=cN e2;subst this e1;let(aw,v,q1,q2,q3):=g.OX p hp;show jW (Dx (da G) q1 q2 (aV J).1) q3|.bin op a b,X,A,g,h=>by apply xI h;intro a' Qf b' p0 B;clear h;let h:=B;erw[df,decide_eq_true_eq]at h;let((rfl,G),J):=h;show Ew g.K (bW a X _ g G) (bW b X _ g J)|.cmp op a b,X,A,g,h=>by apply mD h;intro a' Qf b' p0 z1;let h:=z1;erw[df,decide_eq_true_eq,S7]at h;obtain⟨⟨⟨rfl,h0⟩,G⟩,J⟩:=h;show Ey g.P g.w g.K g.u (bW a X _ g G) (bW b X _ g J) h0|.and Y,X,A,g,h=>by apply vO h;intro Mp p0 B;clear h;let h:=B;show Ca Y X _ g h|.or Y,X,A,g,h=>n9|.not a,X,A,g,h=>by apply B5 h;intro a' p0 B;clear h;let h:=B;show EA (bW a X _ g h)|.bad,X,A,g,h=>n9|.Nr i,X,A,g,h=>by apply dW h;intro o m q z1;apply aS z1;intro x px z2;erw[df,decide_eq_true_eq]at z2;let(rfl,G):=z2;let(w1,w2,w3,w4):=hV G;let(cl,_,_,K,_):=g.Og.sh.ex;show BQ K g.K w1 w2 w3 w4|.P4 i,X,A,g,h=>by apply bG h;intro f' as p0 z1;apply aS z1;intro f p1 z2;apply dQ z2;intro a' z3;apply dW z3;intro o m q z4;apply aS z4;intro x px z5;erw[df,decide_eq_true_eq]at z5;obtain⟨⟨⟨rfl,rfl⟩,G⟩,J⟩:=z5;let(w1,w2,w3,w4):=hV J;let(cl,_,_,K,_):=g.Og.sh.ex;show BR K g.K w1 w2 w3 w4 (da G) (g.blt _ (by decide))|.OV i,X,A,g,h=>n9|.l8 i,X,A,g,h=>by apply cG h;intro o m ab as J' z1;apply dW z1;intro o2 m2 q z2;apply aS z2;intro x px z3;erw[df,decide_eq_true_eq,PH]at z3;obtain⟨⟨⟨⟨rfl,rfl⟩,rfl⟩,G⟩,J⟩:=z3;let(w1,w2,w3,w4):=hV J;let(cl,_,_,K,_):=g.Og.sh.ex;show BV K g.K w1 w2 w3 w4 G|.NT f i Y is,X,A,g,h=>by apply bG h;intro f' as p0 z1;apply aS z1;intro x p1 z2;erw[df,decide_eq_true_eq]at z2;obtain⟨⟨⟨⟨⟨G,J⟩,h3⟩,h4⟩,h5⟩,h7⟩:=z2;let(e1,e2,e3):=obL (k:=ck) (es:=[]) (es2:=Y) h5 9 h7;show B_ g (KJ h5 (jY Y X _ g h7)) e1 e2 G J h3 h4|.NU f m i Y,X,A,g,h=>by apply cG h;intro o y ab as J' z1;apply aS z1;intro x px z2;erw[df,decide_eq_true_eq]at z2;obtain⟨⟨⟨⟨⟨⟨rfl,J⟩,⟨h3,h4⟩,h5⟩,h6⟩,h8⟩,h9⟩,h7⟩:=z2;show KN g (jY Y X as g h7) (cP h7) (λz=>by subst z;cases Y with|nil=>rfl|cons _ _=>simp[aT]at h7) h8 h9 J ⟨h3,h4,h5⟩ h6|.pop i,X,A,g,h=>by apply cG h;intro o m ab as J' z1;apply aS z1;intro x px z2;erw[df,decide_eq_true_eq,PH]at z2;obtain⟨⟨⟨⟨⟨rfl,rfl⟩,G⟩,J⟩,h3⟩,h4⟩:=z2;let(q1,q2):=aV h3;show E1 G (cH J) q1 q2 h4 g.K|.inD ax a i,X,A,g,h=>n9|.T3 i,X,A,g,h=>by let(x,p0,rfl,B):=aD h;clear h;let h:=B;erw[df,decide_eq_true_eq]at h;let(h3,h4):=aV h.2;show EU h.1.1 (cH h.1.2) h3 h4|.Pj i a b,X,A,g,h=>by
  apply cG h;intro o m ab as J' z1;let(x,px,rfl,z2):=aD z1;apply rq z2;intro a' b' z3;clear h z1;let z2:=z3;erw[df,decide_eq_true_eq]at z2;obtain⟨⟨⟨⟨⟨⟨⟨⟨rfl,G⟩,J⟩,h3⟩,h4⟩,h5⟩,h6⟩,h7⟩,h8⟩:=z2;let(q1,q2):=aV h3;let sa:=bF (pos:=J') (env:=X.env) (es:=[a',b']) λe he=>by
   obtain rfl|he:=gs.mp he
   .show h5
   simp at he;subst he;show h6
  show BN g.u G (cH J) q1 q2 (bW a X _ g h7) (bW b X _ g h8) #[9,by rw[sa.2];rfl,h4,by rw[bb h5,bb h6];rfl]
 |.T4 i,X,A,g,h=>by apply bG h;intro f' as _ z1;let(f,_,rfl,z2):=aD z1;apply dQ z2;intro c z3;apply cG z3;intro o m ab bs J' z4;let(x,px,rfl,z5):=aD z4;erw[df,decide_eq_true_eq,PH]at z5;obtain⟨⟨⟨⟨⟨⟨⟨rfl,rfl⟩,G⟩,rfl⟩,h3⟩,h4⟩,h5⟩,h6⟩:=z5;let(q1,q2):=aV h5;show EY g.calm g.K (da G) (g.blt _ (by decide +kernel)) h3 (cH h4) q1 q2 h6|.SS ln a b,X,A,g,h=>by apply bG h;intro _ _ _ B;let(_,_,rfl,z1):=aD B;apply dQ z1;intro _ z2;apply xI z2;intro _ _ _ _ z3;apply bG z3;intro _ _ _ z4;let(_,_,rfl,z5):=aD z4;apply dQ z5;intro _ z6;apply bG z6;intro _ _ _ z7;let(_,_,rfl,z8):=aD z7;apply dQ z8;intro _ z9;erw[df,decide_eq_true_eq]at z9;obtain⟨⟨⟨⟨⟨⟨⟨⟨⟨rfl,rfl⟩,rfl⟩,rfl⟩,G⟩,J⟩,h3⟩,h4⟩,h5⟩,h6⟩:=z9;show EZ (ln:=ln) g.calm g.K (da G) (g.blt _ (by cases ln<;>decide +kernel)) (da J) (g.blt _ (by decide +kernel)) (bW a X _ g h5) (bW b X _ g h6) (bb h3) (bb h4)|.RX a T,X,A,g,h=>by apply bG h;intro f' as p0 z1;let(x,p1,rfl,z2):=aD z1;clear h z1;apply rq z2;intro a' b' z4;let(y,p2,rfl,z3):=aD z4;let h:=z3;erw[df,decide_eq_true_eq]at h;obtain⟨⟨⟨⟨⟨rfl,rfl⟩,G⟩,J⟩,h3⟩,h4⟩:=h;show xx g.K (da G) (g.blt _ tW) (da J) (g.blt _ (B8 T)) (bW a X _ g h4) (bb h3)|.tup Y,X,A,g,h=>by apply E8 h;intro l q0 p0 B;clear h;let h:=B;show EE (jY Y X _ g h)|.lst Y,X,A,g,h=>by apply xN h;intro l p0 B;clear h;let h:=B;show EF (jY Y X _ g h)|.Ph r,X,A,g,h=>by apply Iv h;intro p0;show By g.P g.w r|.idx a b,X,A,g,h=>by apply iG h;intro a' b' p0 B;clear h;let h:=B;erw[df]at h;show EG g.K g.u (tU h.1.1) (bW a X _ g h.1.2) (bW b X _ g h.2)|.P0 a lo hi,X,A,g,h=>by apply iG h;intro a' b' p0 z1;apply E_ z1;intro az N2 p1 B;clear h z1;erw[df]at B;show EI g.K (bW a X _ g B.1.1) (KO lo X _ g B.1.2) (KO hi X _ g B.2)|.bi f Y,X,A,g,h=>by apply bG h;intro f' as p0 z1;let(x,p1,rfl,z2):=aD z1;let h:=z2;show KG g (jY Y X _ g (fR h)) h|.Qz f Y,X,A,g,h=>by apply bG h;intro f' as p0 z1;let(x,p1,rfl,z2):=aD z1;apply dQ z2;intro c z3;apply bG z3;intro g' a0 p2 z4;let(y,p3,rfl,z5):=aD z4;let h:=z5;show KH g (jY Y X _ g (fR h)) h|.OM m a Y,X,A,g,h=>by apply cG h;intro o ar ab as J' z1;let h:=z1;let h':=h;erw[df]at h';show KI g (bW a X _ g h'.1.2) (jY Y X _ g (fR h)) h|.call f Y,X,A,g,h=>by apply bG h;intro f' as p0 z1;let(x,p1,rfl,z2):=aD z1;let h:=z2;show B9 g (jY Y X _ g (fR h)) h|.comp n t ik ag cond e,X,A,g,h=>by
  apply Iy h;intro an tg al ap ac p0 B;clear h;let h:=B;erw[df,decide_eq_true_eq]at h;obtain⟨⟨⟨⟨⟨⟨⟨G,J⟩,h3⟩,h4⟩,h5⟩,h6⟩,h7⟩,h8⟩:=h;subst G;let S:=vc (X:=X) 9 (kQ _ _) J;split at h5
  .rename_i as has;let Mt:=cP h5;let hI:PI X tg al (Qb C ik (bR Γ ag)):=Gb g has (jY ag X _ g h5) (λa e=>by
    subst e;cases ag with
    |nil=>simp[aT]at h5
    |cons e1 Nf =>
     cases Nf with
     |nil=>erw[aT,df]at h5;show#[e1,9,bW e1 X _ g h5.1.2]
     |cons _ _=>simp[aT]at h5) Mt
   show BG S g.calm hI (λD s H ex=>tV (fa:=λx=>gi (ac.names.lookup x\.cell)) g.calm g.K S.nd (λ_ z=>z) h3)
    (λD s H ex=>by
     cases ap with
     |nil =>
      cases cond with
      |nil=>show λam s σ H Q I ⟨c0,e1,e2,ok,w⟩=>qL am s σ H Q I (by subst e1 e2;rw[show aM Γ []=pure cb from rfl,au]at w;show w c0 9 9 ok (Nx.refl c0))
      |cons _ _=>simp[aT]at h7
     |cons c1 cs =>
      cases cs with
      |nil =>
       cases cond with
       |nil=>simp[aT]at h7
       |cons e1 Nf =>
        cases Nf with
        |nil=>erw[aT,df]at h7;show wQ (rB e1 (NC X _ ac D s H ex) c1 (g.cx _ _ _ _ _ _) h7.1.2)
        |cons _ _=>simp[aT]at h7
      |cons _ _=>simp at h6)
    (λD s H ex=>bW e (NC X _ ac D s H ex) an (g.cx _ _ _ _ _ _) h8) (vT h4)
  ext h5
theorem jY:∀(b:↑E) (X:Cx) (a:↑sL),Gd ck Γ C d X->aT ck b X.N X.env.scope a=4->PA X a (NJ C (bR Γ b))
 |[],X,a,g,h=>by
  cases a with
  |nil=>show ED
  |cons _ _=>simp[aT]at h
 |e::b,X,a,g,h=>by
  cases a with
  |nil=>simp[aT]at h
  |cons c a=>erw[aT,df]at h;show Bw (bW e X c g h.1.2) (jY b X a g h.2) (bb h.1.1)
theorem KO:∀(a:↑E) (X:Cx) (o:Option sL),Gd ck Γ C d X->vR ck a X.N X.env.scope o=4->PO X o (tO C (SV Γ a))
 |[],X,o,g,h=>by
  cases o with
  |none=>show zb
  |some _=>simp[vR]at h
 |[e],X,o,g,h=>by
  cases o with
  |none=>simp[vR]at h
  |some b=>erw[vR]at h;show zc (bW e X b g h)
 |_::_::_,X,o,g,h=>by simp[vR]at h
theorem Ca:∀(c:↑E) (X:Cx) (a:↑sL),Gd ck Γ C d X->aT ck c X.N X.env.scope a=4->∀{b},PE X (.BoolOp .And a b) (MD C (jT Γ c))
 |[],X,a,g,h,b=>n9|[e],X,a,g,h,b=>by
  cases a with
  |nil=>simp[aT]at h
  |cons f a =>
   cases a with
   |nil=>erw[aT,df]at h;show GN (bW e X f g h.1.2)
   |cons _ _=>simp[aT]at h
 |e::j::c,X,a,g,h,b=>by
  cases a with
  |nil=>simp[aT]at h
  |cons f a =>
   let i:noStar f=4/\bS ck e X.N X.env.scope f=4/\aT ck (j::c) X.N X.env.scope a=4:=by rw[aT]at h;erw[df]at h;show#[h.1.1,h.1.2,h.2]
   cases a with
   |nil=>let:=i.2.2;simp[aT]at this
   |cons l k=>show snd_and (bW e X f g i.2.1) (Ca (j::c) X _ g i.2.2)
theorem rB:∀(e:E) (X:Cx) (c:sL),Gd ck Γ C d X->bS ck e X.N X.env.scope c=4->PT X c (NI C (MM Γ e))|.and j,X,c,g,h=>by apply vO h;intro Mp l p;clear h;let h:=p;show(xP j X _ g h).pt|.or j,X,c,g,h=>by apply vO h;intro Mp l p;clear h;let h:=p;show(Cb j X _ g h).pt|.not a,X,c,g,h=>by apply B5 h;intro B l p;clear h;let h:=p;show EB (rB a X _ g h)|.cmp op a b,X,c,g,h=>by apply mD h;intro B Qf H l z1;let h:=z1;erw[df,decide_eq_true_eq,S7]at h;obtain⟨⟨⟨rfl,I⟩,s⟩,v⟩:=h;show Ez g.P g.w g.K g.u (bW a X _ g s) (bW b X _ g v) I|.var i,X,c,g,h=>by let(x,l,rfl,p):=aD h;erw[df,decide_eq_true_eq]at p;let(z,A):=aV p.2;show jU (rb p.1.1 (cH p.1.2) z A) g.K λ_=>9|.idx a b,X,c,g,h=>bV|.bi f j,X,c,g,h=>by apply bG h;intro J Y l z1;let(x,D,rfl,z2):=aD z1;let h:=z2;show PT.eqv (jU (KG g (jY j X _ g (fR h)) h) g.K λ_=>9) λst Q w=>Ge w|.Qz f j,X,c,g,h=>bV|.OM m a j,X,c,g,h=>bV|.call f j,X,c,g,h=>by apply bG h;intro J Y l z1;let(x,D,rfl,z2):=aD z1;let h:=z2;show PT.eqv (jU (B9 g (jY j X _ g (fR h)) h) g.K λ_=>9) λst Q w=>Ge w|.cst u,X,c,g,h=>bV|.Ow x u,X,c,g,h=>bV|.RX a T,X,c,g,h=>by apply bG h;intro J Y l z1;let(x,D,rfl,z2):=aD z1;clear h z1;apply rq z2;intro B H z4;let(y,p2,rfl,G):=aD z4;let h:=G;erw[df,decide_eq_true_eq]at h;obtain⟨⟨⟨⟨⟨rfl,rfl⟩,s⟩,v⟩,z⟩,A⟩:=h;show PT.eqv (jU (xx g.K (da s) (g.blt _ tW) (da v) (g.blt _ (B8 T)) (bW a X _ g A) (bb z)) g.K λ_=>9) λst Q w=>?_;let w:W (ev Γ a >>= λx=>M.MU (tE x.2 T)) st Q:=w;erw[ai]at w ⊢;show W.mono w λx s1 w1=>?_;let(b,e,w2):=cw.mp w1;show cw.mpr #[b,e,au.mpr (cw.mpr #[b,9,w2])]|.bad,X,c,g,h=>bV|.Nr i,X,c,g,h=>bV|.P4 i,X,c,g,h=>bV|.OV i,X,c,g,h=>by apply mD h;intro B Qf H l z1;apply dW z1;intro o m q z2;let(x,px,rfl,G):=aD z2;erw[df,decide_eq_true_eq]at G;obtain⟨⟨⟨s,rfl⟩,rfl⟩,v⟩:=G;apply IC s;intro p2;let(w1,w2,w3,w4):=hV v;let(cl,_,_,K,_):=g.Og.sh.ex;show BS K g.K g.u w1 w2 w3 w4|.l8 i,X,c,g,h=>bV|.NT f i j is,X,c,g,h=>by apply bG h;intro J Y l z1;let(x,D,rfl,z2):=aD z1;erw[df,decide_eq_true_eq]at z2;obtain⟨⟨⟨⟨⟨s,v⟩,z⟩,A⟩,h5⟩,h7⟩:=z2;let(e1,e2,e3):=obL (k:=ck) (es:=[]) (es2:=j) h5 9 h7;show jU (B_ g (KJ h5 (jY j X _ g h7)) e1 e2 s v z A) g.K λ_=>9|.NU f m i j,X,c,g,h=>bV|.pop i,X,c,g,h=>bV|.inD ab a i,X,c,g,h=>by apply mD h;intro B Qf H l z1;let(x,D,rfl,z2):=aD z1;let h:=z2;erw[df,decide_eq_true_eq,S7]at h;obtain⟨⟨⟨⟨⟨rfl,I⟩,s⟩,v⟩,z⟩,A⟩:=h;let(q1,q2):=aV z;show EV g.u s (cH v) q1 q2 (bW a X _ g A) I|.T3 i,X,c,g,h=>bV|.SS ln a b,X,c,g,h=>bV|.T4 i,X,c,g,h=>bV|.Pj i a b,X,c,g,h=>bV|.bin op a b,X,c,g,h=>bV|.tup j,X,c,g,h=>bV|.lst j,X,c,g,h=>bV|.Ph r,X,c,g,h=>bV|.P0 a lo hi,X,c,g,h=>bV|.comp n t ik ac cond e,X,c,g,h=>bV
theorem xP:∀(c:↑E) (X:Cx) (a:↑sL),Gd ck Γ C d X->aT ck c X.N X.env.scope a=4->∀{b},PW X (.BoolOp .And a b) (NI C (aM Γ c))
 |[],X,a,g,h,b=>by
  cases a with
  |nil=>rintro n k s σ H Q I ⟨i,rfl,rfl,ok,w⟩;rw[show aM Γ []=pure cb from rfl,au]at w;show isTrue_and_nil #[i.H,I,w i 9 9 ok (Nx.refl i)]
  |cons _ _=>simp[aT]at h
 |[e],X,a,g,h,b=>by
  cases a with
  |nil=>simp[aT]at h
  |cons f a =>
   cases a with
   |nil=>erw[aT,df]at h;show Dz (rB e X f g h.1.2)
   |cons _ _=>simp[aT]at h
 |e::l::c,X,a,g,h,b=>by
  cases a with
  |nil=>simp[aT]at h
  |cons f a =>
   let j:noStar f=4/\bS ck e X.N X.env.scope f=4/\aT ck (l::c) X.N X.env.scope a=4:=by rw[aT]at h;erw[df]at h;show#[h.1.1,h.1.2,h.2]
   cases a with
   |nil=>let:=j.2.2;simp[aT]at this
   |cons o m=>show EC (rB e X f g j.2.1) (xP (l::c) X _ g j.2.2)
theorem Cb:∀(c:↑E) (X:Cx) (a:↑sL),Gd ck Γ C d X->aT ck c X.N X.env.scope a=4->∀{b},PW X (.BoolOp .Or a b) (NI C (gW Γ c))
 |[],X,a,g,h,b=>by
  cases a with
  |nil=>rintro n k s σ H Q I ⟨i,rfl,rfl,ok,w⟩;rw[show gW Γ []=pure dt from rfl,au]at w;show isTrue_or_nil #[i.H,I,w i 9 9 ok (Nx.refl i)]
  |cons _ _=>simp[aT]at h
 |[e],X,a,g,h,b=>by
  cases a with
  |nil=>simp[aT]at h
  |cons f a =>
   cases a with
   |nil=>erw[aT,df]at h;show GJ (rB e X f g h.1.2)
   |cons _ _=>simp[aT]at h
 |e::l::c,X,a,g,h,b=>by
  cases a with
  |nil=>simp[aT]at h
  |cons f a =>
   let j:noStar f=4/\bS ck e X.N X.env.scope f=4/\aT ck (l::c) X.N X.env.scope a=4:=by rw[aT]at h;erw[df]at h;show#[h.1.1,h.1.2,h.2]
   cases a with
   |nil=>let:=j.2.2;simp[aT]at this
   |cons o m=>show HK (rB e X f g j.2.1) (Cb (l::c) X _ g j.2.2)
end
def Mg(g:Gd ck Γ C d X)(b:pln e=4)(h:bS ck e X.N X.env.scope f=4):PE X f (BK C (ev Γ e)):=by
 cases e with
 |var i=>apply aS h;intro x k a;erw[df,decide_eq_true_eq]at a;let(l,m):=aV a.2;show BL a.1.1 (cH a.1.2) l m|cst u =>
  apply xK h;intro c n k a;cases c with
  |int j=>let:=cN a;subst this;show jX zZ λ_ _=>9
  |str y=>let:=cN a;subst this;show jX Aa λ_ _=>9
  |bool y=>let:=cN a;subst this;show jX FY λ_ _=>9
  |none=>let:=cN a;subst this;show jX z_ λ_ _=>9
  |_=>ext a
 |_=>ext b
def Vr(d:V9)(x:5)(a:8):sL->Bool|.ListComp e c s b=>gi (d.names.lookup x\.local)&&(a==b.line)&&!(s.names.any λ(n,k)=>n==x&&(k==.local||k==.cell))|_=>dt
def pY(s:VU)(k:sL->Bool):Bool:=if h:s.ctorIdx=24 then Ϗ (motive_2:=λ_=>Bool) s h (λe _=>k e) else dt
def jZ{P:VU->6}(h:pY s k=4)(fz:∀e p,k e=4->P (.Expr e p)):P s:=cE h λz=>Ϗ s z λ_ _ _ h=>fz _ _ h
def j3(s:VU)(k:sL->sL->Bool):Bool:=if h:s.ctorIdx=0x5 then Ι (motive_2:=λ_=>Bool) s h (λa v _=>dq a λt=>k t v) else dt
def vU(h:j3 s k=4):∃t v p,s=.Assign [t] v p/\k t v=4:=cE h λz=>Ι s z λa v q _ h=>by let(t,rfl,z1):=eX h;show#[_,_,_,9,h]
def gv{P:VU->6}(h:j3 s k=4)(fz:∀t v p,k t v=4->P (.Assign [t] v p)):P s:=by let(t,v,p,rfl,z):=vU h;show fz _ _ _ z
def IF(s:VU)(k:5->sL->Bool):Bool:=j3 s λt v=>aJ t λy=>k y v
def zr(h:IF s k=4):∃y p v a,s=.Assign [.Name y p] v a/\k y v=4:=by apply gv h;intro t v a z;apply aS z;intro y p z;show#[y,p,v,a,9,z]
def IG{P:VU->6}(h:IF s k=4)(fz:∀y p v a,k y v=4->P (.Assign [.Name y p] v a)):P s:=by let(y,p,v,a,rfl,z):=zr h;show fz _ _ _ _ z
def rC(e:sL)(k:sL->sL->sL->V9->Bool):Bool:=match e with
 |.ListComp d b a _=>dq b λg=>match g with
  |⟨f,c,[],0⟩=>k d f c a
  |_=>dt
 |_=>dt
def tX(h:rC e k=4):∃c d b a p,e=.ListComp c [⟨d,b,[],0⟩] a p/\k c d b a=4:=by
 unfold rC at h;split at h
 .let(g,rfl,z1):=eX h;split at z1
  .show#[_,_,_,_,_,9,z1]
  ext z1
 ext h
def Cc{P:sL->6}(h:rC e k=4)(fz:∀c d b a p,k c d b a=4->P (.ListComp c [⟨d,b,[],0⟩] a p)):P e:=by let(c,d,b,a,p,rfl,z):=tX h;show fz _ _ _ _ _ z
def KP(e:sL)(k:5->Pos->Bool):Bool:=if h:e.ctorIdx=23 then Ü (motive_1:=λ_=>Bool) e h k else dt
def IH{P:sL->6}(h:KP e k=4)(fz:∀x p,k x p=4->P (.Name x p)):P e:=cE h λz=>Ü e z λ_ _ _ h=>fz _ _ h
def Gf(s:VU)(k:sL->aas->sL->Bool):Bool:=if h:s.ctorIdx=0x7 then Ŏ (motive_2:=λ_=>Bool) s h (λt a b _=>k t a b) else dt
def Fe{P:VU->6}(h:Gf s k=4)(fz:∀t a b p,k t a b=4->P (.AugAssign t a b p)):P s:=cE h λz=>Ŏ s z λ_ _ _ _ _ h=>fz _ _ _ _ h
def Cd(s:VU)(k:Option sL->Bool):Bool:=if h:s.ctorIdx=3 then Θ (motive_2:=λ_=>Bool) s h (λv _=>k v) else dt
def xQ{P:VU->6}(h:Cd s k=4)(fz:∀v p,k v=4->P (.Return v p)):P s:=cE h λz=>Θ s z λ_ _ _ h=>fz _ _ h
def Ff(v:Option sL)(k:sL->Bool):Bool:=match v with|some e=>k e|none=>dt
def zt(h:Ff v k=4):∃e,v\e/\k e=4:=by cases v with|none=>ext h|some e=>show#[e,9,h]
def Ce{P:Option sL->6}(h:Ff v k=4)(fz:∀e,k e=4->P (bD e)):P v:=by let(e,rfl,z):=zt h;show fz _ z
def Gg(s:VU)(k:sL->↑VU->↑VU->Bool):Bool:=if h:s.ctorIdx=12 then aar (motive_2:=λ_=>Bool) s h (λc a b _=>k c a b) else dt
def Fg{P:VU->6}(h:Gg s k=4)(fz:∀c a b p,k c a b=4->P (.If c a b p)):P s:=cE h λz=>aar s z λ_ _ _ _ _ h=>fz _ _ _ _ h
def Cg(s:VU)(k:sL->sL->↑VU->Bool):Bool:=if h:s.ctorIdx=0x9 then ϭ (motive_2:=λ_=>Bool) s h (λt i b o _=>o.isEmpty&&k t i b) else dt
def vV(h:Cg s k=4):∃t i b p,s=.For t i b [] p/\k t i b=4:=cE h λz=>ϭ s z λt i b o q _ h=>by
 replace h:(o.isEmpty&&k t i b)=4:=h
 rw[df,PH]at h;let(rfl,y):=h;show#[_,_,_,_,9,y]
def Fh{P:VU->6}(h:Cg s k=4)(fz:∀t i b p,k t i b=4->P (.For t i b [] p)):P s:=by let(t,i,b,p,rfl,z):=vV h;show fz _ _ _ _ z
def II(s:VU)(k:sL->↑VU->Bool):Bool:=if h:s.ctorIdx=11 then Ω (motive_2:=λ_=>Bool) s h (λc b o _=>o.isEmpty&&k c b) else dt
def zu(h:II s k=4):∃c b p,s=.While c b [] p/\k c b=4:=cE h λz=>Ω s z λc b o q _ h=>by
 replace h:(o.isEmpty&&k c b)=4:=h
 rw[df,PH]at h;let(rfl,y):=h;show#[_,_,_,9,y]
def IJ{P:VU->6}(h:II s k=4)(fz:∀c b p,k c b=4->P (.While c b [] p)):P s:=by let(c,b,p,rfl,z):=zu h;show fz _ _ _ z
mutual
noncomputable def IK(k:Ck):S->↑5->V9->VU->Bool
 |.set i e,N,d,s=>j3 s λt v=>KP t λx p=>gi (N[i]?\x)&&pj d x&&gi (d.kind=.function)&&bS k e N d v&&(eG v||Vr d x p.line v||(match v with|.ListComp _ _ _ _=>4|_=>dt))&&(match e with|.comp _ _ _ _ _ _=>4|_=>eG v)|.la z e,N,d,s=>j3 s λt v=>xM t λ_=>Ta 4 N d (λ_=>4) z t&&eG v&&Ir v&&bS k e N d v|.put i a b,N,d,s=>j3 s λt u=>nY t λo j=>aJ o λx=>gi (N[i]?\x)&&g_ d x&&bU x&&eG u&&fq j&&bS k a N d j&&bS k b N d u|.app i e,N,d,s=>pY s λc=>d0 c λo m f l r=>aJ o λx=>dq l λa=>gi (m="append")&&gi (N[i]?\x)&&g_ d x&&bU x&&(f.endLine==r.line)&&noStar a&&bS k e N d a|.mf i,N,d,s=>IF s λy v=>IA v "Shelf" λl=>l.isEmpty&&gi (N[i]?\y)&&pj d y&&Oi d "Shelf"|.iO i e,N,d,s=>j3 s λt v=>gu t λo m _=>aJ o λx=>aJ v λ_=>gi (m="rows")&&PL N d i x&&bS k e N d v|.P6 i,N,d,s=>pY s λc=>d0 c λo m f l r=>gu o λG m1 _=>aJ G λx=>dq l λa=>gu a λH m2 _=>aJ H λI=>gi (m="append")&&gi (m1="earlier")&&gi (m2="rows")&&gi (I=x)&&(f.endLine==r.line)&&PL N d i x|.ext i e,N,d,s=>pY s λc=>d0 c λo m f l r=>aJ o λx=>dq l λa=>gi (m="extend")&&gi (N[i]?\x)&&g_ d x&&bU x&&(f.endLine==r.line)&&noStar a&&bS k e N d a|.bad,_,_,_=>4|.newD i,N,d,s=>j3 s λt v=>aJ t λx=>E9 v&&gi (N[i]?\x)&&pj d x|.putD i a b,N,d,s=>j3 s λt u=>nY t λo j=>aJ o λx=>gi (N[i]?\x)&&g_ d x&&bU x&&eG u&&fq j&&bS k a N d j&&bS k b N d u|.OG i a e,N,d,s=>pY s λc=>d0 c λo m f l r=>nY o λJ j=>aJ J λx=>dq l λb=>gi (m="append")&&gi (N[i]?\x)&&g_ d x&&bU x&&fq j&&(f.endLine==r.line)&&noStar b&&bS k a N d j&&bS k e N d b|.aug sub i a e,N,d,s=>Gf s λt Q b=>nY t λo j=>aJ o λx=>gi (Q=if sub=4 then .Sub else .Add)&&gi (N[i]?\x)&&g_ d x&&bU x&&fq j&&bS k a N d j&&bS k e N d b&&pln e|.exp e,N,d,s=>pY s λw=>eG w&&bS k e N d w|.ret e,N,d,s=>Cd s λv=>Ff v λw=>bS k e N d w|.P5 i e,N,d,s=>Cd s λT=>Ff T λv=>rC v λA n h g=>d0 h λo m f l r=>aJ o λx=>l.isEmpty&&gi (m="items")&&gi (N[i]?\x)&&g_ d x&&bU x&&(f.endLine==r.line)&&isTup n&&gi (-dE n=2) &&
   DY (dE n++hide (dE n) N) (dE n) g d.names&&Ta 4 (dE n++hide (dE n) N) (B3 g d) (λ_=>dt) (hW 2) n&&bS k e (dE n++hide (dE n) N) (B3 g d) A
 |.ite c a b,N,d,s=>Gg s λB j u=>bS k c N d B&&eY k a N d j&&eY k b N d u|.MR t z Y C q,N,d,s=>Cg s λn h D=>Ta t N d (λ_=>4) z n&&vM h&&(match hJ d n Y h with
    |some l=>aT k C N d l
    |none=>dt)&&eY k q N d D
 |.RY c q,N,d,s=>II s λB D=>bS k c N d B&&eY k q N d D|.O4 _,_,_,_=>dt
noncomputable def eY(k:Ck):↑S->↑5->V9->↑VU->Bool
 |[],_,_,a=>a.isEmpty|s::c,N,b,a=>match a with
  |s'::a=>IK k s N b s'&&eY k c N b a
  |[]=>dt
end
section
variable{ck:Ck}{Γ:Tab}{C:Ct}{d:8}{X:Cx}
def rE(h:pj a x=4):Loc a x:=by unfold pj at h;erw[YU,decide_eq_true_eq]at h;show h
def j4(h:eG v=4):YR v t a b=pure dt:=by cases v<;>first|rfl|cases h
def rF(h:eG v=4):Č [t] v a b=pure dt:=by show j4 h
def Fi(h:fq i=4):∀b c a,augStore i b c a=(do Vx [a,b,c] (Ġ b c a);ŝ [a,b,c] [];pure .next):=by intro b c a;cases i<;>first|rfl|cases h
def xR(h:fq i=4):∀v,ō (.Subscript o i p) a v=(do
   let b <-Vx [v] (Oj o a)
   let c <-Vx [v,b] (Oj i a)
   ğ p
   Vx [v,b,c] (Ġ b c v)
   ŝ [v,b,c] []):=by
 intro v;cases i<;>first|rfl|cases h
structure Gs(ck:Ck)(Γ:Tab)(C:Ct)(d:8)(X:Cx):6 where
 gd:Gd ck Γ C d X
 nd:X.N.Nodup
 fn:∀x,X.fn x=4
 po:ű (il X.prog X.w) X.A X.env X.xe
 kd:X.env.scope.kind=.function
 xs:R5 ck X.K X.mg
 sk:X.stack=X.env::X.outer/\X.env.frame\X.env.locals
def xS(g:Gd ck Γ C d X)(h:(match hJ X.env.scope j k c with|some f=>aT ck b X.N X.env.scope f|none=>dt)=4):PI X j c (Qb C k (bR Γ b)):=by
 split at h
 .rename_i f has;show Gb g has (jY b X _ g h) (λa e=>by
   subst e;cases b with
   |nil=>simp[aT]at h|cons i l =>
    cases l with
    |nil=>erw[aT,df]at h;show#[i,9,bW i X _ g h.1.2]
    |cons _ _=>simp[aT]at h) (cP h)
 ext h
def n_{a p e:Pos}(hk:X.env.scope.kind=.function):YR (.ListComp c b s a) (bD (.Name x p)) e.line X.env=pure (Vr X.env.scope x p.line (.ListComp c b s a)):=by
 let f:X.env.blockKind=.function:=by unfold Env.blockKind;rw[hk];rfl
 change pure (X.env.blockKind==.function&&X.env.kindOf x==bD _&&p.line==a.line&&!(s.names.any λ(n,k)=>n==x&&(k==.local||k==.cell)))=_;unfold Vr;let:(X.env.kindOf x==bD NameKind.local)=gi (X.env.scope.names.lookup x\.local):=by unfold Env.kindOf;rw[UE];simp
 left
def IL{b cond}(G:Gs ck Γ C d X)(y:X.N[i]?\x)(hx:pj X.env.scope x=4) (h:bS ck (.comp n t ik b cond e) X.N X.env.scope (.ListComp c [⟨tg,f,k,0⟩] a q)=4) (A) (B:∀j,A j=4->j≠i) :L2.PS X (.Assign [.Name x p] (.ListComp c [⟨tg,f,k,0⟩] a q) PU) (Nv C A (ev Γ (.comp n t ik b cond e) >>= λr=>gk i r >>= λ_=>pure .nx)):=by
 let g:=G.gd;let J:=bW _ X _ g h;cases o:Vr _ x p.line _ with
 |false=>show F_ B G.nd y (rE hx) (.inl (G.fn x)) J (by rw[n_ G.kd,o])|true =>
  let hl:=by erw[Vr,df,decide_eq_true_eq]at o;show o.1.1
  let(T,ab,u,Y,Zq,p',e0,h0):=kP h;ext e0;clear h J;erw[df,decide_eq_true_eq]at h0;obtain⟨⟨⟨⟨⟨⟨⟨h1,h2⟩,h3⟩,h4⟩,h5⟩,h6⟩,l⟩,h8⟩:=h0;subst h1;let S:=vc  9 (kQ _ _) h2;show H9 B S g.calm G.nd y hl (xS g h5) (λD s H ex=>tV  g.calm g.K S.nd (λ_ z=>z) h3)
   (λD s H ex=>by
    cases k with
    |nil =>
     cases cond with
     |nil=>show λm s σ H Q I ⟨c0,v,e2,ok,w⟩=>qL m s σ H Q I (by subst v e2;rw[show aM Γ []=pure cb from rfl,au]at w;show w c0 9 9 ok (Nx.refl c0))
     |cons _ _=>simp[aT]at l
    |cons c1 cs =>
     cases cs with
     |nil =>
      cases cond with
      |nil=>simp[aT]at l
      |cons v Nf =>
       cases Nf with
       |nil=>erw[aT,df]at l;show wQ (rB v _ c1 (g.cx _ _ _ _ _ _) l.1.2)
       |cons _ _=>simp[aT]at l
     |cons _ _=>simp at h6)
   (λD s H ex=>bW e _ c (g.cx _ _ _ _ _ _) h8) (by rw[n_ G.kd,o]) (vT h4)
def Ci(G:Gs ck Γ C d X)(h:IK ck (.mf i) X.N X.env.scope b=4):L2.PS X b (Nv C (Wk (.mf i)) (exec Γ (.mf i))):=by apply IG h;intro y p v l z1;apply IB z1;intro m n o z2;erw[df,decide_eq_true_eq,PH]at z2;obtain⟨⟨⟨rfl,c⟩,e⟩,f⟩:=z2;let(q,r,s,K,M,F,g,k):=G.gd.Og.sh.ex;show Iq K G.gd.K (λj a=>by let a:gi (j≠i)=4:=a;exists a) G.nd c (rE e) (.inl (G.fn _)) M F (G.gd.room.mono G.gd.Og.lv) (da f) k g
mutual
theorem Mh:∀(s:S) (X:Cx) (f:VU),Gs ck Γ C d X->IK ck s X.N X.env.scope f=4->L2.PS X f (Nv C (Wk s) (exec Γ s))
 |.set i e,X,f,G,h=>by
  apply gv h;intro t v p1 z1;apply IH z1;intro x p z2;clear h z1;let h:=z2;erw[df,decide_eq_true_eq]at h;obtain⟨⟨⟨⟨⟨k,l⟩,J⟩,r⟩,Q⟩,B⟩:=h;let NP:∀j,Wk (.set i e) j=4->j≠i:=λj hj=>of_decide_eq_true (show gi (j≠i)=4 from hj);by_cases hc:eG v=4
  .show F_ NP G.nd k (rE l) (.inl (G.fn x)) (bW e X v G.gd r) (j4 hc)
  cases e with
  |comp n t ik am cond e=>let(an,tg,ag,ar,al,p3,rfl,_):=kP r;show IL G k l r _ NP
  |_=>show absurd B hc
 |.la is e,X,f,G,h=>by apply gv h;intro t v p1 z1;let(es,kk,p,rfl,z2):=vP z1;clear h z1;let h:=z2;erw[df]at h;obtain⟨⟨⟨k,l⟩,J⟩,r⟩:=h;show H_ (λj hj=>of_decide_eq_true (show gi (j∉is)=4 from hj)) (bW e X v G.gd r) (tV (fa:=λ_=>4) G.gd.calm G.gd.K G.nd (λx _=>G.fn x) k) (rF l) ?_ 9;cases v<;>first|rfl|cases J
 |.put i a b,X,f,G,h=>by apply gv h;intro t v p z1;apply iG z1;intro o a' p1 z2;apply aS z2;intro x px A;erw[df,decide_eq_true_eq]at A;obtain⟨⟨⟨⟨⟨⟨k,l⟩,J⟩,r⟩,Q⟩,B⟩,h7⟩:=A;let(T,Y):=aV J;show Ks G.gd.P G.gd.w G.gd.K G.gd.u k (cH l) T Y (bW b X _ G.gd h7) (bW a X _ G.gd B) (rF r) 9 (xR Q)|.mf i,X,f,G,h=>Ci G h|.iO i e,X,f,G,h=>by apply gv h;intro t v p1 z1;apply dW z1;intro o m q z2;apply aS z2;intro x px A;let(y,py,rfl,z4):=aD A;erw[df,decide_eq_true_eq]at z4;let((rfl,k),l):=z4;let(w1,w2,w3,w4):=hV k;let(cl,_,_,K,_):=G.gd.Og.sh.ex;show Ij K G.gd.K w1 w2 w3 w4 (bW e X _ G.gd l) 9|.P6 i,X,f,G,h=>by apply jZ h;intro c p0 z1;apply cG z1;intro o m ab as J' z2;apply dW z2;intro o1 m1 T A;apply aS A;intro x px z4;apply dQ z4;intro a z5;apply dW z5;intro o2 m2 Y z6;apply aS z6;intro x2 aw z7;erw[df,decide_eq_true_eq]at z7;obtain⟨⟨⟨⟨⟨rfl,rfl⟩,rfl⟩,rfl⟩,k⟩,l⟩:=z7;let(w1,w2,w3,w4):=hV l;let(cl,_,_,K,_):=G.gd.Og.sh.ex;show Il K G.gd.K w1 w2 w3 w4 k|.app i e,X,f,G,h=>by apply jZ h;intro c p0 z1;apply cG z1;intro o m ab as J' z2;apply aS z2;intro x px A;apply dQ A;intro a z4;erw[df,decide_eq_true_eq]at z4;obtain⟨⟨⟨⟨⟨⟨rfl,k⟩,l⟩,J⟩,r⟩,Q⟩,B⟩:=z4;let(T,Y):=aV J;let st:=bb (env:=X.env) (es:=[]) Q;let sa:=(bF (pos:=J') (env:=X.env) (es:=[a]) λe he=>by simp at he;subst he;show Q).2;show Kq G.gd.K k (cH l) T Y (bW e X _ G.gd B) ?_ r st;rw[sa];rfl|.ext i e,X,f,G,h=>by apply jZ h;intro c p0 z1;apply cG z1;intro o m ab as J' z2;apply aS z2;intro x px A;apply dQ A;intro a z4;erw[df,decide_eq_true_eq]at z4;obtain⟨⟨⟨⟨⟨⟨rfl,k⟩,l⟩,J⟩,r⟩,Q⟩,B⟩:=z4;let(T,Y):=aV J;let st:=bb (env:=X.env) (es:=[]) Q;let sa:=(bF (pos:=J') (env:=X.env) (es:=[a]) λe he=>by simp at he;subst he;show Q).2;show Kr G.gd.K k (cH l) T Y (bW e X _ G.gd B) ?_ r st;rw[sa];rfl|.bad,X,f,G,h=>λap sh σ H D I ⟨_,_,_,_,w⟩=>(bE.mp w).elim|.newD i,X,f,G,h=>by apply gv h;intro t v p1 z1;apply aS z1;intro x p z2;clear h z1;let h:=z2;erw[df,decide_eq_true_eq]at h;let(p2,rfl):=pW h.1.1;show Ie (λj hj=>of_decide_eq_true (show gi (j≠i)=4 from hj)) G.nd h.1.2 (rE h.2) (.inl (G.fn _)) (j4 9)|.putD i a b,X,f,G,h=>by apply gv h;intro t v p z1;apply iG z1;intro o a' p1 z2;apply aS z2;intro x px A;erw[df,decide_eq_true_eq]at A;obtain⟨⟨⟨⟨⟨⟨k,l⟩,J⟩,r⟩,Q⟩,B⟩,h7⟩:=A;let(T,Y):=aV J;show Ig G.gd.u k (cH l) T Y (bW b X _ G.gd h7) (bW a X _ G.gd B) (rF r) 9 (xR Q)|.OG i a e,X,f,G,h=>by apply jZ h;intro c p0 z1;apply cG z1;intro o m ab as J' z2;apply iG z2;intro o' a' p1 A;apply aS A;intro x px z4;apply dQ z4;intro b z5;erw[df,decide_eq_true_eq]at z5;obtain⟨⟨⟨⟨⟨⟨⟨⟨rfl,k⟩,l⟩,J⟩,r⟩,Q⟩,B⟩,h7⟩,h8⟩:=z5;let ha:=bW e X _ G.gd h8;let(T,Y):=aV J;let st:=bb (env:=X.env) (es:=[]) B;let sa:=(bF (pos:=J') (env:=X.env) (es:=[b]) λe he=>by simp at he;subst he;show B).2;show Ih G.gd.K G.gd.u k (cH l) T Y ha (bW a X _ G.gd h7) (tU r) ?_ Q st;rw[sa];rfl|.aug sub i a e,X,f,G,h=>by apply Fe h;intro t op b p z0;clear h;let h:=z0;apply iG h;intro o a' p1 z1;apply aS z1;intro x px z2;erw[df,decide_eq_true_eq]at z2;obtain⟨⟨⟨⟨⟨⟨⟨rfl,k⟩,l⟩,J⟩,r⟩,Q⟩,B⟩,h7⟩:=z2;let ha:=Mg (C:=C) (Γ:=Γ) (d:=d) (ck:=ck) G.gd h7 B;let(T,Y):=aV J;show Ku k (cH l) T Y ha (bW a X _ G.gd Q) (Fi r)|.exp e,X,f,G,h=>by apply jZ h;intro e' p z0;clear h;let h:=z0;erw[df]at h;show Kk (bW e X _ G.gd h.2) (j4 h.1)|.ret e,X,f,G,h=>by apply xQ h;intro v p z0;apply Ce z0;intro e' z1;clear h z0;let h:=z1;show Kl (bW e X _ G.gd h)|.P5 i e,X,f,G,h=>by
  let g:=G.gd;apply xQ h;intro v0 p0 y0;apply Ce y0;intro v y1;clear h y0;let h:=y1;apply Cc h;intro an tg ag al p z1;apply cG z1;intro o m ab as J' z2;apply aS z2;intro x px A;erw[df,decide_eq_true_eq,PH]at A;obtain⟨⟨⟨⟨⟨⟨⟨⟨⟨⟨rfl,rfl⟩,k⟩,l⟩,J⟩,r⟩,Q⟩,B⟩,h7⟩,h8⟩,h9⟩:=A;cases tg with
  |Tuple es kx ps=>let(T,Y):=aV J;let S:=vc (X:=X) 9 (kQ _ _) h7;rw[<-B]at h8;show Ii k (cH l) T Y r S g.calm B (λD s H ex=>tV (fa:=λ_=>dt) g.calm g.K S.nd (λ_ z=>nomatch z) h8) (λD s H ex=>bW e _ _ (g.cx _ _ _ _ _ _) h9)
  |_=>ext Q
 |.ite c a b,X,f,G,h=>by apply Fg h;intro c' a' b' p z0;clear h;let h:=z0;erw[df]at h;let ha:=og a X _ G h.1.2;let hb:=og b X _ G h.2;show Km (rB c X _ G.gd h.1.1) (ND.weak ha λD σ H z=>rj (λj hj=>(Qh.mp (show(Om a j&&Om b j)=4 from hj)).1) z) (ND.weak hb λD σ H z=>rj (λj hj=>(Qh.mp (show(Om a j&&Om b j)=4 from hj)).2) z)|.MR t is ik am ac,X,f,G,h=>by apply Fh h;intro tg ag OY p z0;clear h;let h:=z0;rw[df,df,df]at h;show Kp G.po G.gd.calm (xS G.gd h.1.2) (tV (fa:=λ_=>4) G.gd.calm G.gd.K G.nd (λx _=>G.fn x) h.1.1.1) (og ac X _ G h.2) (vT h.1.1.2) λj hj=>by let hj:(gi (j∉is)&&Om ac j)=4:=hj;exists hj|.RY c ac,X,f,G,h=>by apply IJ h;intro c' OY p z0;clear h;let h:=z0;erw[df]at h;show Ko G.po (rB c X _ G.gd h.1) (og ac X _ G h.2)|.O4 is,X,f,G,h=>absurd (show dt=4 from h) RR
theorem og:∀(b:↑S) (X:Cx) (a:↑VU),Gs ck Γ C d X->eY ck b X.N X.env.scope a=4->ND X a (Nv C (Om b) (execs Γ b))
 |[],X,a,G,h=>by
  cases a with
  |nil=>show Ki
  |cons _ _=>simp[eY]at h
 |s::b,X,a,G,h=>by
  cases a with
  |nil=>simp[eY]at h
  |cons e a=>erw[eY,df]at h;let f:=Mh s X e G h.1;let g:=og b X a G h.2;show H0 (PS.weak f λD σ H z=>rj (λj c=>by erw[Om,df]at c;show c.1) z) (ND.weak g λD σ H z=>rj (λj c=>by erw[Om,df]at c;show c.2) z)
end
end
section
variable{ck:Ck}{Γ:Tab}{d:8}{P:B'}{w:Q2}{K:PySem.W.Frag}{mg:5->Option ki}{base:UD}
def kR{n i:8}(h:(start a n)[i]?\bD (k,u)):a[i]?\u/\k=if MJ u=4 then .loc else .any:=by
 unfold start at h;by_cases b:i< -a
 .rw[y9 (by left),mx]at h;rw[vu b]at h ⊢;erw[Ă,Ě,aae]at h;let(c,e):=h;subst e;show#[9,c.symm]
 rw[y6 (by simp;lia),W6]at h;left
def bt{i:8}(h:a[i]?\v):(L2.start N a)[i]?\bD v:=by unfold L2.start;let b:=(gj.mp h).1;rw[y9 (by left),mx,h];rfl
def Cj(q:∀a,c a->OL H a)(h:av #[P,w,K,H,c,λ_=>False,s] c H m t)(x:-N=n):Ok ⟨P,w,K,H,c,λ_=>False,s⟩ ⟨λ_=>False,H,L2.start N t,start m n,λ_=>[]⟩:=by
 let f:∀(j:8) (u:U),(start m n)[j]?≠bD (bD (.A',u)):=λj u e=>by let:=(kR e).2;split at this<;>ext this
 show#[λa o e _=>e,λa z=>z.elim,λa z=>#[q a z,λz=>z],λa z=>z.elim,?_,λi k u e=>?_,λi j k A u B r hk C g p D G=>?_,#[λj u r e _=>(f j u e).elim,λi j a ⟨u,_,e,_,_⟩=>(f i u e).elim,λj a ⟨u,_,e,_,_⟩=>(f j u e).elim]]
 .let:=h.len;simp[start,L2.start,x];lia
 .let(g,p):=kR e;let(v,ev,b):=h.get g;show#[v,bt ev,?_];subst p;by_cases l:MJ u=4
  .rw[if_pos l];show Rep.MJ l b
  rw[if_neg l];show Rep.mv (.up λa z=>.inl z) b
 let(_,y):=kR g;subst y;split at hk<;>ext hk
def rG(h:bx Γ b c\.ok (k,u)):-c=b.np/\((k=.own\/k=.loc\/k=.any)/\(∃a,execs Γ b.body (start c b.ns)\(.ok (.rt k u),a))\/(k=.loc/\u=.Mx/\∃a,execs Γ b.body (start c b.ns)\(.ok .nx,a))):=by
 unfold bx at h;split at h
 .rename_i hl;show#[hl,?_];split at h
  .rename_i e;ext h;show .inl #[.inl 9,_,e]
  .rename_i e;ext h;show .inl #[.inr (.inl 9),_,e]
  .rename_i e;ext h;show .inl #[.inr (.inr 9),_,e]
  .rename_i e;ext h;show .inr #[9,9,_,e]
  .cases h
  ext h
 ext h
def tY(h:bx Γ a f\.exc c):-f=a.np/\∃b,execs Γ a.body (start f a.ns)\(.ok (.rt .io (.str c)),b):=by
 unfold bx at h;split at h
 .rename_i hl;show#[hl,?_];split at h
  .cases h
  .cases h
  .cases h
  .cases h
  .rename_i e;ext h;show#[_,e]
  ext h
 ext h
def Gh{st}(F:Q9 K m.name q st f fd)(S:d_ N ps (aO st))(hN:-N=m.ns)(O0:-ps=m.np) (Tc:eY ck m.body N (aO st) (cC st)=4) (I:∀x∈bO,mg x=cK) (J:∀g∈ck.fns,vS P w K mg base d (Γ g) g) (OX:∀p∈ck.gl,∃j v,mg p.1\j/\RelV v j/\∀C S H,Rep C S H p.2 v) (Og:T' ck Γ P w K mg base d) (xs:R5 ck K mg):gL P w K mg base (P' P w) (d+1) f fd ps (spT P w K (bx Γ m) m.np):=by
 let(oc,od,kV,ab,pm,an,NF,ct,Sj,rfl,lk,MN):=F.ex;show An lk MN S (λvs H Q E h=>h.1.trans O0.symm) λA l s H vs Q E hr h=>?_;let(hl,us,r,B,MT,T,Y,b):=h;let T6:=hr.un;show let t:Ct:=#[P,w,K,H,B,λ_=>False,λu H'=>∃c,u=.str c/\∀D,W.nsIn K tv c\bD (.ref D)->E (.ref D) cK H'];?_
 let q1:(SW P w K H B).Eqv t:=#[9,9,9]
 let y:t.Eqv (SW P w K H B):=#[9,9,9]
 let G:Gs ck Γ t d (su (P' P w) P w K mg base N q _ f NF A l s H E) :=
  #[#[9,9,9,by change(A.deeper _).units+60<R0;omega,9,hr,I,J,λp hp=>let ⟨j,v,q1,y,q3⟩:=OX p hp;⟨j,v,q1,y,q3 _⟩,Og],S.nd,λ_=>9,Ρ,S.kind,xs,
   #[9,9]
   ]
 show#[_,og _ _ _ G Tc,_,9,9,Cj T (Y.cg q1) hN,?_];cases r with|exc c=>let(_,i,e):=tY MT;show#[_,i,e,λcf ec ok n kp=>#[c,9,λD hC=>b D cf.H hC λa o z=>ok.same a o z λz=>z]]|ok x =>
 let(k,u):=x;let(hk,b):=b;let(_,Td):=rG MT;let mk:∀(c:Cf),Ok t c->∀v,HZ t c k u v->Back (SW P w K H B) H c.H c.S k u v:=λc ok v r=>by
  show#[λa o e=>ok.same a o e λz=>z,λa z=>ok.Ov a z,λe=>?_,λe=>?_,λe=>?_]
  .subst e;let(r0,e,h1,h2,h3,h4):=r;show#[r0,e,h1,h2,h4.cg y]
  .subst e;show Rep.cg y r
  subst e;show Rep.cg y r
 obtain⟨_,i,e⟩|⟨rfl,rfl,i,e⟩:=Td
 .rcases hk with rfl|rfl|rfl<;>show#[_,i,e,λc ec ok n kp v r=>b v c.H c.S (mk c ok v r)]
 show#[_,i,e,λc ec ok n kp=>b .Mx c.H c.S (mk c ok .Mx 9)]
def bq.cgO{S}(q:C.Eqv b)(f:∀x,b.OF x->C.OF x)(g:C.H₀=b.H₀)(i:∀x,C.IO x->b.IO x)(h:bq C S H r j (.ob u k)):bq b S H r j (.ob u k):=by let(l,m,v,a,n,e,o):=h;show#[l,m,v,a,n,e,by rw[<-q.K];show o.hc,o.ins,o.ne,λx c=>#[(o.fr x c).1,λz=>(o.fr x c).2.1 (f x z),(o.fr x c).2.2.imp (λz=>by rw[<-g];show z) (i x)],o.im,o.rep.cg q,o.lst,o.SQ,o.N3.cg q]
def gw(h:(bo c a n)[i]?\bD (k,u)):a[i]?\u/\k=if i=0 then .A' else if i∈c then .io else if MJ u=4 then .loc else .any:=by
 unfold bo at h;by_cases b:i< -a
 .rw[y9 (by exists b),mx,Ğ]at h;rw[vu b]at h ⊢;erw[Ă,Ě,aae,È]at h;let(e,f):=h;subst f;show#[9,e.symm]
 rw[y6 (by simp;lia),W6]at h;left
def Fj(z:a x):l_ H a x=cK:=by unfold l_;rw[if_pos z]
def zv(q:s.Eqv C)(h1:s.OF=C.OF)(h2:s.H₀=C.H₀)(T:s.IO=C.IO)(h4:C.H₀=l_ H Oc)(a:Ip s H Oc 0 r b D J g)(hn:-N=n):Ok C #[Oc,H,L2.start N g,bo D J n,λ_=>[b]]/\∀x,(⟨Oc,H,L2.start N g,bo D J n,λ_=>[b]⟩:Cf).R x->s.IO x:=by
 let rt:∀(j:8) (k:Kd) (u:U),k.root=4->(bo D J n)[j]?\bD (k,u)->j∈D/\J[j]?\u/\k=.io:=λj k u hk e=>by
  let(Q,c):=gw e;by_cases z:j=0
  .rw[if_pos z]at c;subst c;ext hk
  rw[if_neg z]at c;by_cases y:j∈D
  .rw[if_pos y]at c;show#[y,Q,c]
  rw[if_neg y]at c;subst c;split at hk<;>ext hk
 let Y:∀(j:8) (u:U),(bo D J n)[j]?\bD (.A',u)->j=0:=λj u e=>by
  let:=(gw e).2;by_cases z:j=0
  .show z
  rw[if_neg z]at this;split at this
  .cases this
  split at this<;>ext this
 let(w,ws,g1,rd):=a.ob;let dm:∀x,s.IO x->∃o,H x\o:=λx z=>by
  obtain z|z|⟨m,hm,e⟩:=(a.Vl x).mp z
  .let(o,ho,_):=bq.there rd x (by left);show#[o,ho]
  .let(o,ho,_):=bq.there rd x (by rw[z];simp);show#[o,ho]
  let hl:m< -J:=by rw[a.len];show(gj.mp e).1
  let(y,G,_,_,y2):=a.io m _ hm (vu hl);rw[e]at G;ext G;let(o,ho,_):=y2.some;show#[o,ho]
 let ab:∀x,s.IO x->¬Oc x:=λx z z'=>(a.oc x z').2 z;show#[#[λx o e _=>(zk (h4▸e)).1,λx z=>#[by rw[h4];show Fj z,(a.oc x z).1],λx z=>?_,λx z=>?_,?_,λi k u e=>?_,λi j k k' u f q hk Ny Q c t A=>?_,#[λj u r' e c=>?_,λi j x ⟨u,_,e,_,_⟩ ⟨f,_,e',_,_⟩=>(Y i u e).trans (Y j f e').symm,λj x ⟨u,r',e,c,t⟩ ⟨m,k,f,hk,A,h⟩=>?_]],λx z=>?_]
 .let((o,ho),G,y2):=a.par x (h1▸z);show#[#[o,by rw[h4];show xF ho y2],T▸G]
 .let(o,ho):=dm x (T▸z);show#[#[o,by rw[h4];show xF ho (ab x (T▸z))],o,ho]
 .let:=a.len;simp[bo,L2.start,hn];lia
 .let(Q,c):=gw e;by_cases z:i=0
  .rw[if_pos z]at c;subst c z;show#[_,bt a.at_,r,9]
  rw[if_neg z]at c;by_cases y:i∈D
  .rw[if_pos y]at c;subst c;let(q',G,y2,y3,y4):=a.io i u y Q;let hq:s.IO q':=(a.Vl q').mpr (.inr (.inr #[i,y,G]));show#[_,bt G,q',9,ab q' hq,λz=>(a.par q' (h1▸z)).2.1 hq,T▸hq,y4.cg q]
  rw[if_neg y]at c;let(v,l,p):=a.any i u z y Q;let p:=p.cg q;show#[v,bt l,?_];subst c;by_cases hu:MJ u=4
  .rw[if_pos hu];show Rep.MJ hu p
  rw[if_neg hu];show Rep.mv (.up λa z=>z.imp (λz=>h1▸z) id) p
 .let(I,i2,_):=rt i k u hk Q;let(j1,j2,_):=rt j k' f Ny c;let(q1,l,_):=a.io i u I i2;let(q2,p,_):=a.io j f j1 j2;let t:(L2.start N g)[i]?\bD (.ref q):=t;let A:(L2.start N g)[j]?\bD (.ref q):=A;rw[bt l]at t;rw[bt p]at A;ext t A;show a.inj i j _ I j1 l p
 .let hj:=Y j u e;subst hj;let B:(L2.start N g)[0]?\bD (.ref r'):=c;rw[bt a.at_]at B;ext B;let:=(gw e).1;rw[g1]at this;ext this;show rd.cgO q (λx z=>h1▸z) h2 λx z=>T▸z
 .let hj:=Y j u e;subst hj;let B:(L2.start N g)[0]?\bD (.ref r'):=c;rw[bt a.at_]at B;ext B;let(I,i2,_):=rt m k f hk A;let(q1,l,p,b3,_):=a.io m f I i2;let h:(L2.start N g)[m]?\bD (.ref x):=h;rw[bt l]at h;ext h;obtain z|z:=t
  .show p z
  show b3 (by exists z)
 obtain⟨m,k,f,hk,A,h⟩|⟨j,u,r',e,c,t⟩:=z
 .let(I,i2,_):=rt m k f hk A;let(q1,l,_):=a.io m f I i2;let h:(L2.start N g)[m]?\bD (.ref x):=h;rw[bt l]at h;ext h;show(a.Vl x).mpr (.inr (.inr #[m,I,l]))
 let hj:=Y j u e;subst hj;let B:(L2.start N g)[0]?\bD (.ref r'):=c;rw[bt a.at_]at B;ext B;show(a.Vl x).mpr (t.imp id λz=>.inl (by exists z))
theorem xT:∀{c}{st}{f},Rk c st\f->-f=-c/\∀(n i:8),c[n]?\i->∃w,f[n]?\w/\st[i]?\bD (.io,w)
 |[],_,_,h=>by ext h;show#[9,λn i e=>by simp at e]|i::c,st,f,h=>by
  unfold Rk at h;split at h
  .rename_i u g;rw[i7]at h;let(k,h,rfl):=h;let(a,b):=xT h;show#[by simp[a],λn j e=>?_];cases n with
   |zero=>simp at e;subst e;show#[u,9,g]
   |succ n=>left
  ext h
def xU(h:eF Γ c g a i\.ok r):-i=c.np/\∃f st k u o b,execs Γ a (bo g i c.ns)\(.ok f,st)/\T5 f\(k,u)/\U_ 0 st\o/\Rk g st\b/\r=(k,.tup (u::o::b)):=by
 unfold eF at h;split at h
 .rename_i hl;show#[hl.1,?_];split at h
  .rename_i f st e;let((k,u),j,h):=o9.mp h;let(o,l,h):=o9.mp h;rw[i7]at h;let(b,m,n):=h;ext n;show#[f,st,k,u,o,b,e,j,l,m,9]
  ext h
 ext h
def IM{st}(F:Q9 K x I st f fd)(S:d_ N ps (aO st))(hN:-N=fn.ns)(O0:-ps=fn.np)(Zs:Om b 0=4)(NP:∀i∈T,Om b i=4) (Tc:eY ck b N (aO st) (cC st)=4) (am:∀x∈bO,mg x=cK) (ap:∀g∈ck.fns,vS P w K mg base d (Γ g) g) (OX:∀p∈ck.gl,∃B v,mg p.1\B/\RelV v B/\∀C S H,Rep C S H p.2 v) (Og:T' ck Γ P w K mg base d) (xs:R5 ck K mg):gL P w K mg base (P' P w) (d+1) f fd ps (T9 P w K (eF Γ fn T b) fn.np 0 T):=by
 let(oc,od,kV,aw,pm,an,NF,ct,Sj,rfl,lk,MN):=F.ex;show An lk MN S (λJ H Q E h=>h.1.trans O0.symm) λA Y s H J Q E hr h=>?_;let(hl,us,k,u,o,ws,Pr,IO,l,r,a,MT,ab,j):=h;let T6:=hr.un;show let C1:Ct:=#[P,w,K,l_ H l,Pr,IO,λu H'=>∃c,u=.str c/\∀C',W.nsIn K tv c\bD (.ref C')->E (.ref C') cK H'];?_
 let q1:(Qd P w K H Pr IO l).Eqv C1:=#[9,9,9]
 let q2:C1.Eqv (Qd P w K H Pr IO l):=#[9,9,9]
 let G:Gs ck Γ C1 d (su (P' P w) P w K mg base N I (aO st) f NF A Y s H E) :=
  #[#[9,9,9,by change(A.deeper (ĵ I (aO st) ↥s f NF)).units+60<R0;omega,9,hr,am,ap,λp hp=>let ⟨B,v,q1,q2,q3⟩:=OX p hp;⟨B,v,q1,q2,q3 _⟩,Og],S.nd,λ_=>9,Ρ,S.kind,xs,
   #[9,9]
   ]
 let(N4,TN):=zv (C:=C1) (N:=N) q1 9 9 9 9 ab hN;show#[_,og b _ _ G Tc,#[l,H,L2.start N J,bo T us fn.ns,λ_=>[a]],9,9,N4,?_];let(_,fl,ac,k',u',o',RZ,e,e1,e2,Nu,e3):=xU MT;ext e3;let(l1,l2):=xT Nu;let mk:∀(c:Cf),c.st=ac->Ok C1 c->Ns #[l,H,L2.start N J,bo T us fn.ns,λ_=>[a]] c->Kept (Om b) ⟨l,H,L2.start N J,bo T us fn.ns,λ_=>[a]⟩ c->∀v,HZ C1 c k u v->(k=.own\/k=.loc)->xG (Qd P w K H Pr IO l) H c.H l c.S r a T J o ws k u v:=λc ec ok n kp v rt hk=>by
  let ag:∀(m t:8) (y:mn),T[t]?\m->J[m]?\.ref y->∃w,ws[t]?\w/\c.st[m]?\bD (.io,w)/\c.σ[m]?\bD (.ref y)/\dn C1 c.S c.H y w:=λm t y g1 g2=>by let(w',z1,z2):=l2 t m g1;rw[<-ec]at z2;let(v',y1,r',y2,_,_,_,y3):=ok.sl m _ _ z2;let WA:=y1;rw[kp.1 m (NP m (rD g1)),show(L2.start N J)[m]?\bD (.ref y) from bt g2]at WA;cases WA;cases y2;exact⟨w',z1,z2,y1,y3⟩
  unfold U_ at e2;split at e2
  rotate_left
  .cases e2
  rename_i uw ar Mt;ext e2;rw[<-ec]at Mt;let(v0,y1,r',y2):=ok.sl 0 _ _ Mt;subst y2;let WA:=y1;rw[kp.1 0 Zs,show(L2.start N J)[0]?\bD (.ref r) from bt ab.at_]at WA;ext WA;let rd:=ok.dd.kd 0 _ _ Mt y1;let(cl,dx,v1,D,Y_,ea,ob):=rd;let as:bq (Qd P w K H Pr IO l) c.S c.H r [D] (.ob uw ar):=bq.cgO q2 (λx z=>z) 9 (λx z=>z) ⟨cl,dx,v1,D,Y_,9,ob⟩;let al:c.RD 0 D:=#[_,r,Mt,y1,.inr (by rw[ea];simp)]
  let nw:∀x,l_ H l x=cK->¬c.S x->H x=cK:=λx z z'=>(pV z).resolve_right λy=>z' (n.sub x y);show#[λx y z1 z2=>n.keep x y z1 λz=>z2 (TN x z),λx y z1=>n.there x y z1,λx z=>#[pV (ok.Ov x z).1,(ok.Ov x z).2],#[D,?_,as,λhk=>?_],λhk=>?_,λhk=>?_,l1,λt m y w g1 g2 g3=>?_]
  .let f:=ob.fr D (by simp);obtain z|z:=f.2.2
   .show .inr (nw D z f.1)
   obtain z|z|⟨m,hm,z⟩:=(ab.Vl D).mp z
   .show absurd z.symm ob.ne
   .show .inl z
   let(t,ht):=υ hm;let(w',_,z2,z3,_):=ag m t D ht z;show absurd #[m,.io,w',9,z2,z3] (ok.dd.d1 0 D al)
  .subst hk;let(q,rfl,_,_,h3,_):=rt;intro z;ext z;show h3 (.inr #[0,al])
  .subst hk;let(q,rfl,h1,h2,_,h4):=rt;show#[q,9,nw q h1 h2,h2,h4.cg q2]
  .subst hk;show Rep.cg q2 rt
  let(w',z1,_,_,z4):=ag m t y g1 g2;rw[g3]at z1;ext z1;show z4.cg q2
 let SJ:k=.own\/k=.loc:=by cases fl with|nx=>ext e1;show .inr 9|rt k0 u0=>cases k0<;>first|(cases e1;done)|(cases e1;show .inl 9)|(cases e1;show .inr 9)
 obtain⟨_,j⟩|⟨z,_⟩:=j
 rotate_left
 .simp_all
 show#[fl,ac,e,λc ec ok n kp=>?_];cases fl with|nx=>ext e1;show j .Mx c.H c.S (mk c ec ok n kp .Mx 9 SJ)|rt k0 u0=>cases k0<;>first|(cases e1;done)|(cases e1;show λv r=>j v c.H c.S (mk c ec ok n kp v r SJ))
def Fn.bd(a:Fn):↑S:=match a.io with|some (_,b)=>b|none=>a.body
def WB(a:Fn):Bool:=match a.io with|some (c,b)=>Om b 0&&c.all λi=>Om b i|none=>4
structure Ld(ck:Ck)(K:W.Frag)(mg:5->Option ki)(fn:Fn)(m:5):6 where
 ex:∃(x qual:5) (st:VU) (f:mn) (fd:ę) (N ps:↑5),Q9 K x qual st f fd/\(m=""->x=fn.name/\mg fn.name\.ref f)/\(m≠""->∀cl,Qy K cl->Meth K cl m f)/\Binds K fd ps []/\d_ N ps (aO st)/\-N=fn.ns/\-ps=fn.np/\eY ck fn.bd N (aO st) (cC st)=4/\WB fn=4
def Fm{a:↑Fn}(b:(a.map (·.name)).Nodup)(h:c∈a):a.find? (λg=>gi (g.name=c.name))\c:=by
 induction a with
 |nil=>ext h|cons g a e =>
  rw[k9,sx]at b;obtain rfl|h:=gs.mp h
  .simp
  rw[List.find?_cons];let:gi (g.name=c.name)=dt:=by apply decide_eq_false;intro z;show b.1 (z▸ã h)
  rw[this];show e b.2 h
def vW(c:(a.map (·.name)).Nodup)(h:b∈a):MP a (d+1) b.name=nQ (MP a d) b:=by
 funext e
 change(match a.find? λg=>decide _ with|some b=>nQ _ b e|none=>cK)=_;rw[Fm c h]
def pZ(h:a.io=cK):nQ Γ a=bx Γ a:=by unfold nQ;rw[h]
def Fo(h:a.io\(c,b)):nQ Γ a=eF Γ a c b:=by unfold nQ;rw[h]
structure Zt(ck:Ck)(Pg:↑Fn)(K:W.Frag)(mg:5->Option ki):6 where
 f:∀g∈ck.fns,∃fn,fn∈Pg/\fn.name=g/\fn.io=cK/\Ld ck K mg fn ""
 o:∀q∈ck.obs,∃fn b,fn∈Pg/\fn.name=q.1/\fn.io\(q.2.1,b)/\Ld ck K mg fn q.2.2
def KQ(q:(h.map (·.name)).Nodup)(r:a∈h)(i:a.io=cK)(l:Ld ck K mg a "")(j:∀x∈bO,mg x=cK)(s:∀p∈ck.gl,∃b v,mg p.1\b/\RelV v b/\∀C S H,Rep C S H p.2 v)(t:R5 ck K mg)(m:∀g∈ck.fns,vS P w K mg base (d+2) (MP h d g) g)(y:T' ck (MP h d) P w K mg base (d+2)):vS P w K mg base (d+3) (MP h (d+1) a.name) a.name:=by
 let(x,n,st,f,A,N,B,F,D,_,G,S,I,J,o,_):=l.ex;let(rfl,Q):=D 9;rw[vW q r,pZ i];rw[show a.bd=a.body by unfold Fn.bd;rw[i]]at o;show#[_,f,A,B,Gh F S I J o j m s y t,Q,F.kp,G,λT k u e=>?_,λT c e=>(tY e).1];let(Y,i):=rG e;show#[?_,Y];obtain⟨z,_⟩|⟨z,_⟩:=i
 .show z
 show .inr (.inl z)
def KR(s:(i.map (·.name)).Nodup)(t:a∈i)(j:a.io\(u,b))(l:Ld ck K mg a m)(k:∀x∈bO,mg x=cK)(y:∀p∈ck.gl,∃c v,mg p.1\c/\RelV v c/\∀C S H,Rep C S H p.2 v)(A:R5 ck K mg)(n:∀g∈ck.fns,vS P w K mg base (d+2) (MP i d g) g)(B:T' ck (MP i d) P w K mg base (d+2)):KD P w K mg base (d+3) (MP i (d+1) a.name) a.name u m:=by let(x,o,st,f,D,N,G,F,I,J,Q,S,T,Y,q,h):=l.ex;rw[vW s t,Fo j];rw[show a.bd=b by unfold Fn.bd;rw[j]]at q;unfold WB at h;rw[j]at h;rw[df,y7]at h;show#[_,f,D,G,IM F S T Y h.1 h.2 q k n y B A,λz=>(I z).2,F.kp,J,Q,λus r e=>(xU e).1]
def xV(ME:(B.map (·.name)).Nodup)(j:∀x∈bO,mg x=cK)(OX:∀p∈ck.gl,∃m v,mg p.1\m/\RelV v m/\∀C S H,Rep C S H p.2 v)(L:Zt ck B K mg)(sh:Wz P w K mg base)(xs:R5 ck K mg):∀d,(∀g∈ck.fns,vS P w K mg base (d+2) (MP B d g) g)/\T' ck (MP B d) P w K mg base (d+2):=by
 intro d;induction d with
 |zero =>
  show#[λg D=>?_,λq G=>?_,sh,i9 _]
  .let(I,n,rfl,h2,l):=L.f g D;let(x,t,st,f,J,N,T,F,Y,_,hb,S,hN,O0,_):=l.ex;show#[_,f,J,T,#[λvs H Q E h=>h.1.trans O0.symm,λA a s H args i vs Q E _ _ _ _ h=>by let(_,i,r,_,e,_):=h;ext e],(Y 9).2,F.kp,hb,λi k u e=>(by ext e),λi c e=>by ext e]
  let(I,_,n,e,_,l):=L.o q G;let(x,t,st,f,J,N,T,F,Y,Pk,hb,S,hN,O0,_):=l.ex;show#[_,f,J,T,#[λvs H Q E h=>h.1.trans O0.symm,λA a s H args i vs Q E _ _ _ _ h=>by let(_,i,k,u,_,_,_,_,_,_,_,e,_):=h;ext e],λz=>e▸(Y z).2,F.kp,Pk,hb,λi k e=>by ext e]
 |succ d y =>
  show#[λg D=>?_,λq G=>?_,sh,7]
  .let(I,n,rfl,h2,l):=L.f g D;show KQ ME n h2 l j OX xs y.1 y.2
  let(I,b,n,e,hi,l):=L.o q G;rw[<-e];show KR ME n hi l j OX xs y.1 y.2
end
def Fp(a:↑Int):U:=.lst (a.map .int)
theorem p5{S}:∀(a:↑Int),av C S H (a.map .int) (a.map V.int)|[]=>9|n::a=>#[_,_,9,9,p5 a]
def vX(h:M3 C.K H a (b.map V.int)):Rep C (OL H) H (Fp b) (.ref a):=by
 show#[a,_,9,?_,p5 b];obtain(h|⟨o,h⟩)|h:=h
 .show .inl #[#[_,h],.inl h]
 .show .inl #[#[_,h],.inr #[o,h]]
 show .inr h
theorem tZ:∀{l:↑α},(∀a∈l,f a=g a)->l.filterMap f=l.filterMap g|[],_=>9|a::l,h=>by rw[Wa,Wa,h a (by simp),tZ λb c=>h b (by simp[c])]
theorem xW:∀(l:↑5) (b:↑ki),l.Nodup->-b=-l->l.filterMap (λn=>((l.zip b).lookup n).map (n,·))=l.zip b
 |[],_,_,_=>9|a::l,[],_,h=>nomatch h
 |a::l,u::b,c,h=>by
  rw[sx]at c;let d:=xW l b c.2 (by exists h);erw[ĳ,Wa,Hf,beq_self_eq_true,Ă];congr 1
  conv=>rhs;rw[<-d]
  show tZ λn e=>?_;let:(n==a)=dt:=by rw[beq_eq_false_iff_ne];rintro rfl;left
  rw[this]
def Cm(l:↑5)(b:↑ki)(h:-b=-l):l.filter (λn=>((l.zip b).lookup n).isNone)=[]:=by
 rw[SM];intro n hn;induction l generalizing b with
 |nil=>ext hn|cons a l c =>
  cases b with
  |nil=>ext h
  |cons u b =>
   erw[ĳ,Hf];cases e:n==a with
   |true=>simp
   |false =>
    obtain rfl|hn:=gs.mp hn
    .simp at e
    show c b (by exists h) hn
def Cn{kV c f g h}(m:(a.map (·.arg)).Nodup)(hl:-b=-a.map (·.arg)):bindArgs (W.fnOf x q #[[],a,cK,[],[],cK,[]] e d .none kV c f u g h) #[b,[]]=pure ((a.map (·.arg)).zip b):=by
 let o:=xW _ b m hl;let p:=Cm _ b hl;change(if _ then _ else _)=_;rw[if_neg (by simp[hl])];let r:∀k ,¬(!(((a.map (·.arg)).take k).filter λn=>(((a.map (·.arg)).zip b).lookup n).isNone).isEmpty)=4:=λk=>by rw[SM.mpr λn s=>SM.mp p n (Ĝ s)];show RR
 show(if_neg (r _)).trans ?_;let t:∀(l:↑5) i j,(l.drop i).zip ((cK.getD #v[]:Array ki).toList.drop j)=[]:=λl i j=>by simp
 show Eq.trans (congrArg (λz=>Bind.bind (forIn z _ _) _) (t _ _ _)) ?_;show congrArg (pure:↑(5 ×ki)->Sem (↑(5 ×ki))) ((congrArg (List.filterMap _) (uv _)).trans o)
structure Me where
 fn:Fn
 x:5
 i:8
 N:↑5
 a:mn
 c:mn
 m:ki
 cr:Obj
def Me.fd(top:8->VU)(m:Me):ę:=W.fnOf m.x m.fn.name (fU (top m.i)) (cC (top m.i)) (aO (top m.i)) .none .none .none m.m cK (.ref m.c) .none
def Me.fo(top:8->VU)(m:Me):Obj:=#[.type "function",cK,.func (m.fd top),#v[]]
def adr(ms:↑Me)(xa:↑mn):↑mn:=3::(ms.flatMap (λm=>[m.c,m.a])++xa)
def NM(top:8->VU)(g:Gx)(ms:↑Me):W.Frag:=(3,g.1)::(ms.flatMap (λm=>[(m.c,m.cr),(m.a,m.fo top)])++g.2)
def xX(top)(g:Gx)(ms)(xa)(h:g.2.map (·.1)=xa):adr ms xa=(NM top g ms).map (·.1):=by unfold adr NM;rw[k9,nH,List.map_flatMap,h];rfl
def Co(v:Option (Option ki))(a:mn):Bool:=match v with|some (bD (.ref b))=>gi (b=a)|_=>dt
def mF(h:Co v a=4):v\bD (.ref a):=by
 unfold Co at h;split at h
 .rw[of_decide_eq_true h]
 ext h
def nn(o:Option (Option ki)):Bool:=match o with|some cK=>4|_=>dt
def Cp(h:nn o=4):o\cK:=by
 unfold nn at h;split at h
 .rfl
 ext h
def KS(p:Arguments)(a:↑5):Bool:=p.posonlyargs.isEmpty&&p.vararg.isNone&&p.kwonlyargs.isEmpty&&p.kw_defaults.isEmpty&&p.kwarg.isNone&&p.defaults.isEmpty&&gi (p.args.map (·.arg)=a)
def scB(N:↑5)(b:8)(a:V9):Bool:=gi (a.kind=.function)&&gi (a.isCoroutine=dt)&&gi (a.isGenerator=dt)&&decide N.Nodup&&(N.take b).all (pj a)&&a.names.all (λy=>gi (y.2≠.free))
def WC(K:W.Frag):Option mn:=match W.nsIn K tv "Shelf" with|some (bD (.ref C))=>bD C|_=>cK
def M'(K:W.Frag)(C:mn)(x:5)(a:mn):Bool:=Co (W.findIn K (.ref C) x) a&&W.isFn K (.ref a)
def WD(K:W.Frag)(x:5)(a:mn):Bool:=match WC K with|some C=>M' K C x a|none=>dt
def mOk(ck:Ck)(top:8->VU)(K:W.Frag)(m:Me):Bool:=W.codeIn K (.ref m.c) m.fn.name&&W.keepIn K (.ref m.a)&&(if m.x=m.fn.name then Co (W.nsIn K tv m.fn.name) m.a else WD K m.x m.a)&&KS (fU (top m.i)) (m.N.take m.fn.np) &&
 scB m.N m.fn.np (aO (top m.i))&&gi (-m.N=m.fn.ns)&&gi (m.fn.np<=m.fn.ns)&&(eY ck m.fn.bd m.N (aO (top m.i)) (cC (top m.i))&&WB m.fn)
def glK(K:W.Frag)(p:5 ×U):Bool:=match p.2,W.nsIn K tv p.1 with|.int i,bD (bD (.int j _))=>gi (i=j)|.str i,bD (bD (.str j _))=>gi (i=j)|_,_=>dt
def QV(ck:Ck)(top:8->VU)(K:W.Frag)(ms:↑Me):Bool:=ms.all (mOk ck top K)&&bO.all (λy=>nn (W.nsIn K tv y))&&ck.gl.all (glK K)&&gi (K.map (·.1)).Nodup
def KU{K:W.Frag}(b:(K.map (·.1)).Nodup)(h:(a,o)∈K):K.lookup a\o:=by
 induction K with
 |nil=>ext h|cons p K c =>
  rw[k9,sx]at b;rw[Hf];obtain rfl|h:=gs.mp h
  .simp
  let:(a==p.1)=dt:=by rw[beq_eq_false_iff_ne];rintro rfl;show b.1 (mh.mpr #[_,h,9])
  rw[this];show c b.2 h
def Cq(d:QV ck top (NM top g ms) ms=4)(h:m∈ms):Q9 (NM top g ms) m.x m.fn.name (top m.i) m.a (m.fd top)/\(if m.x=m.fn.name then Co (W.nsIn (NM top g ms) tv m.fn.name) m.a else WD (NM top g ms) m.x m.a)=4 /\ (∀b,-b=-m.N.take m.fn.np->bindArgs (m.fd top) #[b,[]]=pure ((m.N.take m.fn.np).zip b))/\d_ m.N (m.N.take m.fn.np) (aO (top m.i))/\-m.N=m.fn.ns/\-m.N.take m.fn.np=m.fn.np/\(eY ck m.fn.bd m.N (aO (top m.i)) (cC (top m.i))=4/\WB m.fn=4):=by
 erw[QV,df,decide_eq_true_eq]at d;let z:=y7.mp d.1.1.1 m h;erw[mOk,df,decide_eq_true_eq]at z;obtain⟨⟨⟨⟨⟨⟨⟨z1,z2⟩,n⟩,c⟩,j⟩,o⟩,A⟩,p⟩:=z;erw[scB,df,decide_eq_true_eq]at j;obtain⟨⟨⟨⟨⟨q,r⟩,s⟩,k⟩,t⟩,u⟩:=j;let f:(NM top g ms).lookup m.a\m.fo top:=KU d.2 (gs.mpr (.inr (Uk _ (List.mem_flatMap.mpr #[m,h,by simp]))));let hl:-m.N.take m.fn.np=m.fn.np:=by left
 show#[G9 f z1 z2,n,λb l=>?_,#[q,r,s,k,by rw[hl],λx v=>?_,λy w=>?_],o,hl,p]
 .unfold Me.fd;revert c;cases fU _ with|mk B C D G H I J=>intro c;erw[KS,df,PH,ì,decide_eq_true_eq]at c;obtain⟨⟨⟨⟨⟨⟨rfl,rfl⟩,rfl⟩,rfl⟩,rfl⟩,rfl⟩,e⟩:=c;rw[<-e]at l ⊢;show Cn (by rw[e];show(Ϻ _ _).nodup k) l
 .let:=y7.mp t x v;simpa[pj] using this
 let:=y7.mp u y w;exists this
def Zu(ck:Ck)(ms:↑Me):Bool:=ck.fns.all (λg=>ms.any λm=>gi (m.fn.name=g)&&gi (m.x=g)&&m.fn.io.isNone) &&
 ck.obs.all (λq=>ms.any λm=>gi (m.fn.name=q.1)&&gi (m.fn.io.map (·.1)\q.2.1)&&(if q.2.2="" then gi (m.x=m.fn.name) else gi (m.x=q.2.2)&&gi (m.x≠m.fn.name)))
def Gi{h}{j}(l:QV ck top (NM top g ms) ms=4)(X:(NM top g ms).In h)(G:h.Ns tv j){m}(o:m∈ms){n:5}(i:if n="" then m.x=m.fn.name else m.x=n/\m.x≠m.fn.name):Ld ck (NM top g ms) j m.fn n:=by
 let(a,b,c,d,e,f,k):=Cq l o;show#[_,_,_,_,_,_,_,a,λz=>?_,λz q p=>?_,.all c,d,e,f,k]
 .rw[if_pos z]at i;rw[if_pos i]at b;show#[i,W.mg_of X G (mF b)]
 rw[if_neg z]at i;rw[if_neg i.2]at b;unfold WD WC at b;rw[p]at b;erw[M',df]at b;rw[<-i.1];show#[mF b.1,b.2,a.kp]
def IQ(f:QV ck top (NM top g ms) ms=4)(i:Zu ck ms=4)(X:(NM top g ms).In h)(G:h.Ns tv j):Zt ck (ms.map (·.fn)) (NM top g ms) j:=by
 erw[Zu,df,y7,ÿ,decide_eq_true_eq,ì]at i;let(k,l):=i;show#[λn o=>?_,λq p=>?_]
 .let(m,a,(b,c),r):=k n o;show#[m.fn,ã a,b,r,Gi f X G a (by left)]
 let(m,a,(b,c),d):=l q p;cases e:m.fn.io with
 |none=>left|some s =>
  rw[e]at c;show#[m.fn,s.2,ã a,b,by rw[<-D' c];show e,Gi f X G a ?_];split at d
  .rename_i z;rw[if_pos z];exists d
  rename_i z;rw[if_neg z];exists d
def WE(top:8->VU)(K:W.Frag)(ms:↑Me):Bool:=match WC K with
 |none=>dt|some C=>W.plainGet K C O'&&W.hasDictIn K C&&W.plainOver K C&&(W.findIn K (.ref C) "__setattr__"==bD (bD (.builtin "object.__setattr__")))&&nn (W.findIn K (.ref C) "rows")&&nn (W.findIn K (.ref C) "earlier")&&W.makesIn K C&&W.keepIn K (.ref C) &&
  ms.any λm=>gi (m.x="__init__")&&gi (m.x≠m.fn.name)&&gi (m.fn.np=1)&&gi (m.N=(["self"]:↑5))&&Zk (cC (top m.i))&&g_ (aO (top m.i)) "self"
def IS(j:QV ck top (NM top g ms) ms=4)(hs:WE top (NM top g ms) ms=4)(X:(NM top g ms).In h)(G:h.Ns tv k):Wz P w (NM top g ms) k f:=by
 unfold WE at hs;split at hs
 .cases hs
 rename_i C c;let d:Qy (NM top g ms) C:=by
  unfold WC at c;split at c
  .rename_i e;ext c;show e
  ext c
 erw[df,ÿ,decide_eq_true_eq]at hs;obtain⟨⟨⟨⟨⟨⟨⟨⟨l,n⟩,o⟩,p⟩,q⟩,r⟩,s⟩,t⟩,m,u,⟨⟨⟨⟨⟨v,x⟩,y⟩,z⟩,A⟩,B⟩⟩:=hs;let(F,b,i,S,_,_,_):=Cq j u;rw[if_neg x]at b;unfold WD at b;rw[c]at b;erw[M',df]at b;rw[y,z]at i S;rw[v]at F b;let K:P8 _ C:=#[d,#[l,n,o,beq_iff_eq.mp p],Cp q,Cp r]
 show#[C,m.a,_,K,#[s,mF b.1,b.2,t],E3  F S A (cH B) K,.all i,W.mg_of X G d]
def IT(d:QV ck top (NM top g ms) ms=4)(X:(NM top g ms).In h)(G:h.Ns tv e):∀p∈ck.gl,∃a v,e p.1\a/\RelV v a/\∀C S H,Rep C S H p.2 v:=by
 intro p f;erw[QV,df]at d;let z:=y7.mp d.1.2 p f;unfold glK at z;split at z
 .rename_i i j k b c;obtain rfl:=of_decide_eq_true z;show#[_,.int i,W.mg_of X G c,#[_,9],λ_ _ _=>by rw[b];rfl]
 .rename_i i j k b c;obtain rfl:=of_decide_eq_true z;show#[_,.str i,W.mg_of X G c,#[_,9],λ_ _ _=>by rw[b];rfl]
 ext z
def gX(ck:Ck)(K:W.Frag):Bool:=ck.xc.all (λx=>match W.nsIn K tv x with|some (bD (.ref C))=>W.excIn K C bmV "ValueError.__new__"|_=>dt)&&ck.xd.all λp=>match W.nsIn K tv p.1,W.nsIn K tv p.2 with|some (bD (.ref C)),bD (bD (.ref D))=>W.exmOne K (.ref C) (.ref D)==bD 4|_,_=>dt
def IU{K}(z:gX ck K=4)(X:K.In h)(G:h.Ns tv b):R5 ck K b:=by
 rw[gX,df,y7,y7]at z;show#[λx c=>?_,λp d=>?_]
 .let:=z.1 x c;split at this
  .rename_i e;show#[_,W.mg_of X G e,e,this]
  left
 let:=z.2 p d;split at this
 .rename_i a f;show#[_,_,W.mg_of X G a,a,W.mg_of X G f,beq_iff_eq.mp this]
 left
def walk{l:W.OpenLaw}{K:ŏ->W.Frag} (Y:l.most\63) (Sm:d.params.defaults=[]) (hr:dF (r+3) ģ) (hY:∀w h,YP w h->(K w.params).In h) (A:(B.map (·.name)).Nodup) (NR:g.io=cK) (O_:g∈B) (QD:g.name=d.name) (F:∀w e m h,(K w.params).In h->h.Ns tv e->e d.name\.ref m ->
   (∀y∈bO,e y=cK)/\(∀p∈ck.gl,∃k v,e p.1\k/\RelV v k/\∀C S H,Rep C S H p.2 v)/\Zt ck B (K w.params) e/\(∀c,Wz l.prog w (K w.params) e c)/\R5 ck (K w.params) e /\
   ∃i st n N,Q9 (K w.params) g.name i st m n/\d_ N [x] (aO st)/\-N=g.ns/\1=g.np/\eY ck g.body N (aO st) (cC st)=4/\∀s u,ϲ s n #[[u],[]] [(x,u)])
  (T:∀o,-o<=63->MP B (r+1) g.name [Fp o]\.ok (.loc,.bl 4)) :
  W.WalkO q D XP YP l.row.toRowW d [] (λf vs=>PySem.call f vs) :=
 L2.DR    (CX:=λw=>P' l.prog w)  Y (by decide) Sm hr hY
  (λw e m h KX G Uw=>by let(j,I,ld,Q,J,i,st,n,N,F1,S,hN,O0,hc,hb):=F w e m h KX G Uw;show#[n,hb,λc _ _=>Gh F1 S hN O0 hc j (xV A j I ld (Q c) J r).1 I (xV A j I ld (Q c) J r).2 J])
  (λw H a o hl _ hS=>by let t:=T o hl;rw[vW A O_,pZ NR]at t;let Rv:g.np=1:=(rG t).1.symm;show#[Rv.symm,_,_,_,t,λ_ z=>z,#[_,_,9,vX hS,9],.inr (.inl 9),λv H' S' b=>b.loc 9])
  λ_ _ _ _ _ ⟨_,_,_,_,_,_,z⟩=>z
def walk2{l:W.OpenLaw}{g:ŏ->Gx} (D:l.most\63) (H:d.params.defaults=[]) (I:dF (dp+3) ģ) (p:ms.map (·.fn)=Pg) (J:(Pg.map (·.name)).Nodup) (j:Zu ck ms=4) (r:m.fn.io=cK) (t:m∈ms) (v:m.fn.name=d.name) (i:m.x=m.fn.name) (Q:m.N.take m.fn.np=[x]) (ok:∀P,QV ck top (NM top (g P) ms) ms=4) (Wn:∀P,(gX ck (NM top (g P) ms)&&WE top (NM top (g P) ms) ms)=4) (WG:∀P,(g P).2.map (·.1)=xa) (T:∀z,-z<=63->MP Pg (dp+1) m.fn.name [Fp z]\.ok (.loc,.bl 4)) :W.WalkO q o XP (W.kHook (λP=>NM top (g P) ms) (adr ms xa) λP=>xX top (g P) ms xa (WG P)).says l.row.toRowW d [] (λf vs=>PySem.call f vs) :=walk D H I (λw h Y=>W.kIn_of Y) J r (p▸mh.mpr #[m,t,9]) v (λw mg fa h X G A=>by let hk:=ok w.params;let B:=Qh.mp (Wn w.params);let(a,b,c,e,f,k,n):=Cq hk t;rw[if_pos i]at b;rw[<-v,W.mg_of X G (mF b)]at A;ext A;rw[Q]at c e k;rw[i]at a;show#[λy hy=>W.mg_none_of X G (Cp ?_),IT hk X G,p▸IQ hk j X G,λC=>IS hk B.2 X G,IU B.1 X G,_,_,_,_,a,e,f,k,by let:=n.1;rw[show m.fn.bd=m.fn.body by unfold Fn.bd;rw[r]]at this;omega,λs u=>.of_eq (c [u] 9)];erw[QV,df]at hk;show y7.mp hk.1.1.2 y hy) T
end TM
namespace TM
open PySem L2
abbrev oL(a:↑U):Kd×U:=(Kd.own,U.lst a)
abbrev lI(i:Int):Kd×U:=(Kd.loc,U.int i)
abbrev zS(x:5):Kd×U:=(Kd.loc,U.str x)
abbrev lT(a:↑U):Kd×U:=(Kd.loc,U.tup a)
abbrev aL(a:↑U):Kd×U:=(Kd.any,U.lst a)
abbrev bL(b:Bool):Kd×U:=(Kd.loc,U.bl b)
abbrev Sl:=Option (Kd×U)
abbrev cI(i:Int):E:=E.cst (U.int i)
abbrev cO:E:=cI 0
abbrev cA:E:=cI 1
abbrev cQ(x:5):E:=E.cst (U.str x)
abbrev K':E:=E.var 0
abbrev MA:E:=E.var 1
abbrev MK:E:=E.var 2
abbrev MF:E:=E.var 3
abbrev Nj:E:=E.var 0x4
abbrev Nh:E:=E.var 0x5
def Run(m:M α)(st:ay)(a:α)(b:ay):6:=m st\(.ok a,b)
def af(d:Run m st a st1)(e:Run (f a) st1 b c):Run (m >>= f) st b c:=by change M.bind m f st=_;unfold M.bind;rw[d];show e
def bc:Run (pure a:M α) st a st:=9
def cV(h:o\a):Run (M.MU o) st a st:=by subst h;rfl
def bp(h:ba a st):Run (aG a) st () st:=by change aG a st=_;unfold aG;left
def kv(i:8)(k:Kd):Kd:=if k.root=4 then .bor i else k
def h_(h:st[i]?\bD (k,u))(hk:k≠.A':=by intro z;ext z):Run (eE i) st (kv i k,u) st:=by change eE i st=_;unfold eE;rw[h];cases k<;>first|rfl|show absurd 9 hk
def ae(h:st[i]?\bD (.loc,u)):Run (ev Γ (.var i)) st (.loc,u) st:=h_ h
def aN(h:st[i]?\bD (.any,u)):Run (ev Γ (.var i)) st (.any,u) st:=h_ h
def aB(h:st[i]?\bD (.own,u)):Run (ev Γ (.var i)) st (.bor i,u) st:=h_ h
def ao:Run (ev Γ (.cst u)) st (.loc,u) st:=9
def j5:Run (ev Γ (.Ow x u)) st (.loc,u) st:=9
def bK(e:Run (ev Γ a) st x d)(f:Run (ev Γ b) d y c)(g:ba [x,y] c)(h:O5 i x y\r):Run (ev Γ (.bin i a b)) st r c :=af e (af f (af (bp g) (cV h)))
def gI(f:Run (ev Γ a) st x e)(g:Run (ev Γ b) e y d)(h:ba [x,y] d)(i:cm j x.2 y.2\c):Run (ev Γ (.cmp j a b)) st (bL c) d :=af f (af g (af (bp h) (af (cV i) bc)))
def aP(d:Run (ev Γ a) st x st1)(e:Run (ev Γ b) st1 y c)(f:ba [x,y] c)(g:l7 x y.2\r):Run (ev Γ (.idx a b)) st r c :=af d (af e (af (bp f) (cV g)))
def xY:Run (SV Γ []) st cK st:=9
def xZ(h:Run (ev Γ e) st (k,.int i) a):Run (SV Γ [e]) st (bD i) a:=af h 9
def x_(e:Run (ev Γ a) st x b)(f:Run (SV Γ lo) b l c)(g:Run (SV Γ i) c h d)(j:ba [x] d)(k:pe x l h\r):Run (ev Γ (.P0 a lo i)) st r d :=af e (af f (af g (af (bp j) (cV k))))
def ah:Run (bR Γ []) st [] st:=9
def aa(c:Run (ev Γ e) st r a)(d:Run (bR Γ f) a g b):Run (bR Γ (e::f)) st (r::g) b:=af c (af d bc)
def cy(c:Run (bR Γ es) st b a)(d:ba b a)(e:ON f b\r):Run (ev Γ (.bi f es)) st r a:=af c (af (bp d) (cV e))
def ya(c:Run (bR Γ d) st b a)(e:ba b a)(g:tq f b\r):Run (ev Γ (.Qz f d)) st r a:=af c (af (bp e) (cV g))
def lM(e:Run (ev Γ a) st x c)(f:Run (bR Γ g) c d b)(h:ba (x::d) b)(i:jq m x.2 d\r):Run (ev Γ (.OM m a g)) st r b:=af e (af f (af (bp h) (cV i)))
def yb(h:Γ f a\.ok r)(b:isAny r.1=dt):Run (pQ Γ f a) st r st:=by let(k,u):=r;unfold pQ;rw[h];cases k<;>first|rfl|cases b
def aE(c:Run (bR Γ d) st b a)(e:ba b a)(g:Γ f (b.map (·.2))\.ok r)(h:isAny r.1=dt:=by show 9):Run (ev Γ (.call f d)) st r a:=af c (af (bp e) (yb g h))
def cF(c:Run (bR Γ d) st rs a)(e:ba rs a)(f:Run (dU rs) a us b)(g:-us<=et):Run (ev Γ (.tup d)) st (lT us) b:=by show af c (af (bp e) (af f ?_));rw[if_pos g];rfl
def dr(d:Run (bR Γ e) st c a)(f:ba c a)(g:Run (dU c) a us b)(h:-us<=et):Run (ev Γ (.lst e)) st (oL us) b:=by show af d (af (bp f) (af g ?_));rw[if_pos h];rfl
def Cr:Run (ev Γ (.Ph r)) st (.own,.Mr [] []) st:=9
def t5:Run (lift (.own,u)) st u st:=9
def aA:Run (lift (.loc,u)) st u st:=9
def lN(h:MJ u=4):Run (lift (.any,u)) st u st:=by change(if MJ u=4 then pure u else M.fail) st=_;rw[if_pos h];rfl
def aI:Run (dU []) st [] st:=9
def aq(c:Run (lift r) st u a)(d:Run (dU e) a f b):Run (dU (r::e)) st (u::f) b:=af c (af d bc)
def oh(h:Run (ev Γ e) st r a):Run (jT Γ [e]) st r a:=h
def rJ(h:Run (ev Γ e) st (k,.bl p) a)(c:if p=4 then Run (jT Γ (d::f)) a r b else b=a/\r=(bL dt)):Run (jT Γ (e::d::f)) st r b:=by show af h ?_;cases p with|true=>show c|false=>let(rfl,rfl):=c;show bc
def t6(h:Run (jT Γ b) st r a):Run (ev Γ (.and b)) st r a:=h
def aQ(f:Run (ev Γ a) st x e)(g:Run (ev Γ b) e y d)(h:ba [x,y] d)(i:cm j x.2 y.2\c):Run (MM Γ (.cmp j a b)) st c d:=af f (af g (af (bp h) (cV i)))
def iY(h:Run (MM Γ a) st c b):Run (MM Γ (.not a)) st (!c) b:=af h bc
def fS(h:Run (aM Γ b) st c a):Run (MM Γ (.and b)) st c a:=h
def t7(h:Run (gW Γ b) st c a):Run (MM Γ (.or b)) st c a:=h
def d7:Run (aM Γ []) st 4 st:=9
def cv(h:Run (MM Γ e) st c a):Run (aM Γ [e]) st c a:=h
def rK(h:Run (MM Γ e) st 4 a)(d:Run (aM Γ (f::g)) a c b):Run (aM Γ (e::f::g)) st c b:=af h d
def vY(h:Run (MM Γ e) st dt a):Run (aM Γ (e::b::c)) st dt a:=af h bc
def lO(h:Run (MM Γ e) st c a):Run (gW Γ [e]) st c a:=h
def KW(h:Run (MM Γ e) st 4 a):Run (gW Γ (e::b::c)) st 4 a:=af h bc
def iZ(h:Run (MM Γ e) st dt a)(d:Run (gW Γ (f::g)) a c b):Run (gW Γ (e::f::g)) st c b:=af h d
def bM:Run (gk i (.own,u)) st () (st.set i (bD (.own,u))):=9
def bh:Run (gk i (.loc,u)) st () (st.set i (bD (.loc,u))):=9
def oi:Run (gk i (.any,u)) st () (st.set i (bD (.any,u))):=9
def KY(c:Run (ev Γ e) st r a)(d:Run (gk i r) a () b):Run (exec Γ (.set i e)) st .nx b:=af c (af d bc)
def KZ(f:∃g c,st[i]?\bD (g,.lst c)/\g≠.A')(j:Run (ev Γ e) st r h)(l:Run (lift r) h u b)(m:b[i]?\bD (k,.lst d))(hk:k.root=4)(hl:-d<et):Run (exec Γ (.app i e)) st .nx (b.set i (bD (k,.lst (d++[u])))):=by
 let(g,c,f,n):=f;show af (h_ f n) (af   9 (af j (af l (af (a:=()) ?_ bc))));change modS i _ b=_;unfold modS;rw[m];erw[hk,if_true];let e:Es u (.lst d)\.lst (d++[u]):=by change(if -d<et then _ else _)=_;left
 rw[e]
def K1(c:Run (ev Γ e) st r a)(d:Run (retS r) a f b):Run (exec Γ (.ret e)) st f b:=af c d
def i_:Run (retS (.own,u)) st (.rt .own u) st:=9
def bj:Run (retS (.loc,u)) st (.rt .loc u) st:=9
def Gj(h:MJ u=4):Run (retS (.any,u)) st (.rt .loc u) st:=by change(if MJ u=4 then(pure _:M Fl) else pure _) st=_;rw[if_pos h];rfl
def p6(h:st[j]?\bD (.own,u)):Run (retS (.bor j,a)) st (.rt .own u) (st.set j cK):=by change(match st[j]? with|some (bD (.own,u))=>bD _|_=>cK)=_;rw[h]
def rL(g:Run (MM Γ c) st 4 d)(h:Run (execs Γ a) d f e):Run (exec Γ (.ite c a b)) st f e:=af g h
def vZ(g:Run (MM Γ c) st dt d)(h:Run (execs Γ b) d f e):Run (exec Γ (.ite c a b)) st f e:=af g h
def br:Run (execs Γ []) st .nx st:=9
def fF(c:Run (exec Γ s) st .nx a)(d:Run (execs Γ e) a f b):Run (execs Γ (s::e)) st f b:=af c d
def Cs(b:Run (exec Γ s) st (.rt k u) a):Run (execs Γ (s::c)) st (.rt k u) a:=af b bc
def bf(b:Run (ev Γ e) st r st1)(c:Run (gk i r) st1 () a)(d:Run (execs Γ g) a f h):Run (execs Γ (.set i e::g)) st f h:=fF (KY b c) d
def p7(d:st[i]?\bD (k',.lst g))(h:Run (ev Γ e) st r b)(j:Run (lift r) b u a)(l:a[i]?\bD (k,.lst c))(hk:k.root=4)(hl:-c<et) (m:Run (execs Γ n) (a.set i (bD (k,.lst (c++[u])))) f o) (p:k'≠.A':=by intro z;ext z):Run (execs Γ (.app i e::n)) st f o:=fF (KZ #[_,_,d,p] h j l hk hl) m
def a9(c:Run (ev Γ e) st r a)(d:Run (retS r) a (.rt k u) b):Run (execs Γ (.ret e::f)) st (.rt k u) b:=Cs (K1 c d)
def jt(d:Run (MM Γ c) st 4 st1)(e:Run (execs Γ a) st1 .nx st2)(g:Run (execs Γ h) st2 f i):Run (execs Γ (.ite c a b::h)) st f i:=fF (rL d e) g
def du(e:Run (MM Γ c) st dt st1)(g:Run (execs Γ b) st1 .nx d)(h:Run (execs Γ i) d f j):Run (execs Γ (.ite c a b::i)) st f j:=fF (vZ e g) h
def oj(f:Run (MM Γ c) st 4 d)(g:Run (execs Γ a) d (.rt k u) e):Run (execs Γ (.ite c a b::h)) st (.rt k u) e:=Cs (rL f g)
def K2(h:Run (bR Γ d) st c b)(i:ba c b)(j:Ol k c\l)(m:tF c g a=4)(n:Run (forM t g (execs Γ a) c l) b f e):Run (exec Γ (.MR t g k d a)) st f e:=by show af h (af (bp i) (af (cV j) ?_));rw[if_pos m];show n
def fT(e:Run (bR Γ b) st rs st1)(g:ba rs st1)(h:Ol i rs\j)(k:tF rs d a=4)(l:Run (forM t d (execs Γ a) rs j) st1 .nx c)(m:Run (execs Γ n) c f o):Run (execs Γ (.MR t d i b a::n)) st f o:=fF (K2 e g h k l) m
def Gk(h:ba b st):Run (forM t c a b []) st .nx st:=af (bp h) bc
def K3(h:ba d st)(g:Run (dC t e x) st () b)(i:Run a b .nx c)(j:Run (forM t e a d k) c f l):Run (forM t e a d (x::k)) st f l:=af (bp h) (af g (af i j))
theorem yc(I:↑(Kd×U)->ay->6)(hs:∀a st,I a st->ba rs st)(Ε:∀x a st,I (x::a) st->∃b c,Run (dC t is x) st () b/\Run body b .nx c/\I a c):∀a st,I a st->∃d,Run (forM t is body rs a) st .nx d/\I [] d|[],st,h=>#[st,Gk (hs _ _ h),h]|x::a,st,h=>by let(m,e,f,g,i):=Ε x a st h;let(j,k,l):=yc I hs Ε a e i;show#[j,K3 (hs _ _ h) f g k,l]
def dI(h:Run (gk i r) st () a):Run (dC dt [i] r) st () a:=h
def aC(b:-a=fn.np)(hk:k=.own\/k=.loc)(hs:start a fn.ns=st0)(h:Run (execs Γ fn.body) st0 (.rt k u) st):bx Γ fn a\.ok (k,u):=by subst hs;unfold bx;rw[if_pos b,h];obtain rfl|rfl:=hk<;>rfl
def t8{cond}(h:ba a st):Run (bQ k t cond c a [] b) st b st:=af (bp h) bc
def om{cond}(h:ba d st)(i:Run (dC t (hW k) x) (rr k cK++st) () j)(l:Run cond j 4 m)(n:Run c m r o)(p:Run (lift r) o u f) (hl:-e<et) (w:Run (bQ k t cond c d q (e++[u])) (f.drop k) s g):Run (bQ k t cond c d (x::q) e) st s g:=by
 show af (bp h) (af (a:=bD u) (st1:=f.drop k) ?_ ?_)
 .change inScope k _ st=_;unfold inScope;let v:Run (dC t _ x >>= λ_=>cond >>= λb=>if b=4 then(c >>= λr=>lift r >>= λu=>pure (bD u)) else pure cK) _ _ f :=af i (af l (af n (af  p 9)))
  rw[v]
 left
def v3{cond}(h:ba c st)(i:Run (dC t (hW k) x) (rr k cK++st) () j)(l:Run cond j dt g) (m:Run (bQ k t cond d c n e) (g.drop k) o f):Run (bQ k t cond d c (x::n) e) st o f:=by
 show af (bp h) (af (a:=cK)  ?_ m);change inScope k _ st=_;unfold inScope;let p:Run (dC t _ x >>= λ_=>cond >>= λb=>if b=4 then(d >>= λr=>lift r >>= λu=>pure (bD u)) else pure cK) _ cK g :=af i (af l (9))
 rw[p]
def bI{src cond}(c:Run (bR Γ src) st rs a)(d:ba rs a)(f:Ol ik rs\g)(h:Run (bQ k t (aM Γ cond) (ev Γ e) rs g []) a i b):Run (ev Γ (.comp k t ik src cond e)) st (oL i) b :=af c (af (bp d) (af (cV f) (af h bc)))
theorem Cu{cond}(h:ba c st)(g)(d:Kd×U->Kd):∀b a,-a+ -b<=et -> (∀x∈b,x.1=.loc\/x.1=.any)->(∀x∈b,Run cond (bD x::st) 4 (bD x::st)/\Run e (bD x::st) (d x,g x) (bD x::st)/\Run (lift (d x,g x)) (bD x::st) (g x) (bD x::st))->Run (bQ 1 dt cond e c b a) st (a++b.map g) st
 |[],a,_,_,_=>by rw[X2,uv];show t8 h|x::b,a,hl,hk,i=>by
  let(j,l,m):=i x (by simp);rw[oD]at hl;show om     h ?_ j l m 7 ?_
  .let(k,u):=x;obtain z|z:=hk _ (my ..)<;>(ext z;rfl)
  let:=Cu h g d b (a++[g x]) (by grind) (λy f=>hk y (by simp[f])) λy f=>i y (by simp[f]);left
theorem oo{cond}(h:ba src st)(p)(g)(d:Kd×U->Kd):∀b a,-a+ -b<=et -> (∀x∈b,x.1=.loc\/x.1=.any)->(∀x∈b,Run cond (bD x::st) (p x) (bD x::st)/\Run elt (bD x::st) (d x,g x) (bD x::st)/\Run (lift (d x,g x)) (bD x::st) (g x) (bD x::st))->Run (bQ 1 dt cond elt src b a) st (a++(b.filter p).map g) st
 |[],a,_,_,_=>by rw[Ŗ,X2,uv];show t8 h|x::b,a,hl,hk,f=>by
  let(e,l,m):=f x (by simp);rw[oD]at hl;let i:Run (dC dt (hW 1) x) (rr 1 cK++st) () (bD x::st):=by let(k,u):=x;obtain z|z:=hk _ (my ..)<;>(ext z;rfl)
  cases j:p x with
  |true=>rw[j]at e;show om     h i e l m 7 ?_;let:=oo h p g d b (a++[g x]) (by grind) (λy c=>hk y (by simp[c])) λy c=>f y (by simp[c]);left
  |false=>rw[j]at e;show v3   h i e ?_;let:=oo h p g d b a 7 (λy c=>hk y (by simp[c])) λy c=>f y (by simp[c]);left
def K4(h:st[i]?\bD (k,.lst us))(hk:k.root=4)(a:us[-us - 1]?\u):Run (ev Γ (.pop i)) st (.loc,u) (st.set i (bD (k,.lst us.dropLast))):=by change Bn i st=_;unfold Bn;left
def NY(a:↑Fn)(f:5)(b:Fn):6:=(a.find? λg=>gi (g.name=f))\b
def yd(h:NY a f b)(c):MP a (d+1) f c=nQ (MP a d) b c:=by change(match a.find? λg=>gi (g.name=f) with|some b=>nQ (MP a d) b c|none=>cK)=_;rw[show _\b from h]
def b7(h:NY a f b)(c)(e:b.io=cK:=by rfl):MP a (d+1) f c=bx (MP a d) b c:=by rw[yd h];unfold nQ;rw[e]
def kS(h:NY a f c)(e)(g:c.io\(i,b)):MP a (d+1) f e=eF (MP a d) c i b e:=by rw[yd h];unfold nQ;rw[g]
def bY(h:0<j):O5 .mod (k,.int i) (a,.int j)\lI (i % j):=by change(El i j).map _=_;rw[El,if_pos h];rfl
def Cv(h:0<j/\j<1073741824):O5 .Pf (k,.int i) (a,.int j)\lI (i / j):=by change(Ek i j).map _=_;rw[Ek,if_pos h];rfl
def qq(h:(-((2 ^ 64):Int)<i/\i<2 ^ 64)\/(-((2 ^ 64):Int)<j/\j<2 ^ 64)):O5 .mul (k,.int i) (a,.int j)\lI (i * j):=by change(Ej i j).map _=_;rw[Ej,if_pos h];rfl
def qr(h:0<=j/\j<=1000000/\i.natAbs<2 ^ 64):O5 .pow (k,.int i) (a,.int j)\lI (i ^ j.toNat):=by change(Em i j).map _=_;rw[Em,if_pos h];rfl
def dY:O5 .add (k,.int i) (a,.int j)\lI (i+j):=9
def mQ:O5 .sub (k,.int i) (a,.int j)\lI (i - j):=9
def aU(h:MX a i\u):l7 (k,.lst a) (.int i)\(kE k,u):=by change(MX a i).map _=_;rw[h];rfl
def fC(h:MX a i\u):l7 (k,.tup a) (.int i)\(kE k,u):=by change(MX a i).map _=_;rw[h];rfl
def ye:Kd.own≠Kd.A':=by decide
local macro_rules
 |`(tactic| sizeOf_list_dec)=>`(tactic| first|exact br|apply bf|apply p7|apply a9|exact ao|exact ae rfl|exact aN rfl|exact aB rfl|apply bK|apply gI|apply aP|apply cy|apply aE|apply lM|apply aQ|exact ah|apply aa|apply cF|apply dr|exact aI|apply aq|exact aA|exact t5|(first|exact trivial|exact⟨⟨_,rfl,rfl⟩,trivial⟩|exact#[#[_,rfl,rfl],#[_,rfl,rfl],trivial])|exact dY|exact mQ|exact bY (by first|lia|decide)|exact Cv (by first|lia|decide)|exact qq (by first|lia|decide)|exact qr (by decide)|exact bh|exact bM|exact oi|exact bj|exact i_|exact p6 rfl|exact ri _|exact rfl|exact ye)
def v5(c k:Int):Int:=((c % 10 ^ 15+1) * 48271+k * k * 16807+k * 7919) % 2147483647 * 69621 % 2147483629
def zw:Fn:=#["_law_mix",2,3,[.set 2 (.bin .add (.bin .add (.bin .mul (.bin .add (.bin .mod K' (.bin .pow (cI 10) (cI 15))) cA) (cI 48271)) (.bin .mul (.bin .mul MA MA) (cI 16807))) (.bin .mul MA (cI 7919))),.ret (.bin .mod (.bin .mul (.bin .mod MK (cI 2147483647)) (cI 69621)) (cI 2147483629))]]
def Fq(a:0<=k)(b:k<2 ^ 63):bx Γ zw [.int c,.int k]\.ok (lI (v5 c k)):=by
 apply aC  9 (.inr 9) 9
 repeat' sizeOf_list_dec
def yf:Fn:=#["_law_cell",2,3,[.ite (.cmp .lt MA (.bi .len [K'])) [.ret (.idx K' MA)] [],.set 2 cO,.ite (.cmp .gt (.bi .len [K']) cO) [.set 2 (.idx K' (.bin .mod MA (.bi .len [K'])))] [],.ret (.bin .add (.bin .mul (cI 2) (.call "_law_mix" [MK,MA])) cA)]]
def Cw(Γ:Tab):6:=∀c k:Int,0<=k->k<2 ^ 63->Γ "_law_mix" [.int c,.int k]\.ok (lI (v5 c k))
def p8(h:gi (i<j)=c):cm .lt (.int i) (.int j)\c:=by subst h;rfl
def j6(h:gi (j<i)=c):cm .gt (.int i) (.int j)\c:=by subst h;rfl
def gy(h:(i==j)=c):cm .eq (.int i) (.int j)\c:=by subst h;rfl
def eI:ON .len [(k,.lst xs)]\lI (-xs:8):=9
def iH:ON .len [(k,.tup a)]\lI (-a:8):=9
def Gm(a:↑Int)(k:8):Int:=if k< -a then(a[k]?).getD 0 else 2 * v5 ((a[k % -a]?).getD 0) k+1
def Cy(g:Cw Γ){k:8}(hk:k<2 ^ 62):bx Γ yf [.lst (a.map .int),.int k]\.ok (lI (Gm a k)):=by
 let d:∀c,Γ "_law_mix" [.int c,.int k]\.ok (lI (v5 c k)):=λc=>g c k 7 7;unfold Gm;by_cases h:k< -a
 .rw[if_pos h];let b:MX (a.map U.int) (k:Int)\.int ((a[k]?).getD 0):=cq (by simp[h]);apply aC (st0:=[bD (aL (a.map .int)),bD (lI k),cK]) 9 (.inr 9) 9;apply oj
  all_goals repeat' (first|show p8 (by simp[h])|show aU b|show Gj 9|sizeOf_list_dec)
 rw[if_neg h];let f:cm .lt (.int k) (.int (-a.map U.int:8))\dt:=p8 (by simp;lia);by_cases i:0< -a
 .let j:k % -a< -a:=î _ i;let b:MX (a.map U.int) ((k:Int) % (-a.map U.int:8))\.int ((a[k % -a]?).getD 0):=by show cq (by simp[j])
  let l:(0:Int)<(-a.map U.int:8):=by simp;omega
  apply aC (st0:=[bD (aL (a.map .int)),bD (lI k),cK]) 9 (.inr 9) 9;apply du
  all_goals repeat' (first|show f|sizeOf_list_dec)
  apply jt
  all_goals repeat' (first|show j6 (by simp;omega)|show bY l|show aU b|show d _|sizeOf_list_dec)
 let e:a=[]:=Xa 7;subst e;apply aC (st0:=[bD (aL ([].map .int)),bD (lI k),cK]) 9 (.inr 9) 9;apply du
 all_goals repeat' (first|show f|sizeOf_list_dec)
 apply du
 all_goals repeat' (first|show d _|sizeOf_list_dec)
def rM:Fn:=#["_law_drawn",2,0x5,[.set 2 (.lst []),.set 3 (.bin .Pf K' (cI 2)),.MR dt [0x4] .Nc [MA] [.ite (.cmp .eq (.bin .mod K' (cI 2)) cO) [.app 2 (.bin .mod MF (cI 64)),.set 3 (.bin .Pf MF (cI 64))] [.app 2 (.bin .mod (.bin .Pf (.call "_law_mix" [K',Nj]) (cI 0x7)) (cI 4096))]],.ret MK]]
def t9(x):Ol .Nc [x]=Bi x:=9
def v7(h:n<2 ^ 62):Ol .Nc [(k,.int (n:8))]\((hW n).map λi:8=>(lI (0+(i:Int)))):=by rw[t9,Bi,if_pos ⋯,Ê]
def ia(n:8)(a:↑(Kd×U)):6:=∃i,i<=n/\a=((hW n).drop i).map λi:8=>(lI (0+(i:Int)))
def ia.cons(h:ia n (x::b)):∃i,i<n/\x=(lI (i:8))/\ia n b/\i+ -b+1=n:=by
 let(i,c,e):=h;by_cases a:i<n
 .rw[Ym (by exists a)]at e;ext e;show#[i,a,by simp,#[_,a,9],by simp;lia]
 rw[List.drop_eq_nil_of_le (by grind)]at e;ext e
def ia.all(n):ia n ((hW n).map λi:8=>(lI (0+(i:Int)))):=#[0,ri _,9]
def zx(u:Cw Γ)(D:n<1000):∃a:↑Int,-a=n/\(∀d∈a,0<=d)/\bx Γ rM [.int c,.int n]\.ok (oL (a.map .int)):=by
 let v:(1000:8)<=et:=by decide
 show let I:↑(Kd×U)->ay->6:=λl st=>∃(a:↑Int) (b:↑U) (left:Int) (o:Sl),st=[bD (lI c),bD (lI n),bD (oL b),bD (lI left),o]/\b=a.map .int/\(∀d∈a,0<=d)/\-a+ -l=n/\ia n l;?_;let f:=yc (t:=dt) (is:=[0x4]) (body:=execs Γ [.ite (.cmp .eq (.bin .mod K' (cI 2)) cO)
    [.app 2 (.bin .mod MF (cI 64)),
    .set 3 (.bin .Pf MF (cI 64))]
    [.app 2 (.bin .mod (.bin .Pf (.call "_law_mix" [K',Nj]) (cI 0x7)) (cI 4096))]]) (rs:=[(lI n)]) I (λ_ _ _=>ttt) (λx l st w=>by
  let(a,b,left,o,e,g,j,hl,y):=w;subst e;let h:-b=-a:=by rw[g];simp
  let(i,G,rfl,q,r):=y.cons;let A:Γ "_law_mix" [.int c,.int i]\.ok (lI (v5 c i)):=u c i 7 7;rw[oD]at hl;by_cases s:c % 2=0
  .show#[[bD (lI c),bD (lI n),bD (oL b),bD (lI left),bD (lI i)],[bD (lI c),bD (lI n),bD (oL (b++[.int (left % 64)])),bD (lI (left / 64)),bD (lI i)],bh,?_,#[a++[left % 64],_,left / 64,_,9,by simp[g],?_,by simp;omega,q]]
   .apply jt
    all_goals repeat' (first|show gy (by simp[s])|show(by rw[h];omega)|sizeOf_list_dec)
   intro d m;obtain z|z:=ke.mp m
   .show j d z
   rw[js.mp z];lia
  show#[[bD (lI c),bD (lI n),bD (oL b),bD (lI left),bD (lI i)],[bD (lI c),bD (lI n),bD (oL (b++[.int (v5 c i / 0x7 % 4096)])),bD (lI left),bD (lI i)],bh,?_,#[a++[v5 c i / 0x7 % 4096],_,left,_,9,by simp[g],?_,by simp;omega,q]]
  .apply du
   all_goals repeat' (first|show gy (by simp[s])|show A|show(by rw[h];omega)|sizeOf_list_dec)
  intro d m;obtain z|z:=ke.mp m
  .show j d z
  rw[js.mp z];lia)
 let(B,C,a,b,left,o,e,g,j,hl,_):=f ((hW n).map λi:8=>(lI (0+(i:Int)))) [bD (lI c),bD (lI n),bD (oL []),bD (lI (c / 2)),cK] ⟨[],[],c / 2,cK,9,9,by simp,by simp,ia.all n⟩;subst e g;show#[a,by simpa using hl,j,?_];apply aC (st0:=[bD (lI c),bD (lI n),cK,cK,cK]) 9 (.inl 9) 9
 repeat' sizeOf_list_dec
 let p:=v7 (k:=.loc) (n:=n) 7;refine' fT (rs:=[(lI n)]) (st1:=[bD (lI c),bD (lI n),bD (oL []),bD (lI (c / 2)),cK]) _ ttt p 9 C _
 all_goals repeat' sizeOf_list_dec
end TM
local macro_rules
 |`(tactic| sizeOf_list_dec)=>`(tactic| first|exact TM.br|apply TM.bf|apply TM.p7|apply TM.a9|exact TM.ao|exact TM.ae rfl|exact TM.aN rfl|exact TM.aB rfl|apply TM.bK|apply TM.gI|apply TM.aP|apply TM.cy|apply TM.aE|apply TM.lM|apply TM.aQ|exact TM.ah|apply TM.aa|apply TM.cF|apply TM.dr|exact TM.aI|apply TM.aq|exact TM.aA|exact TM.t5|(first|exact trivial|exact⟨⟨_,rfl,rfl⟩,trivial⟩|exact#[#[_,rfl,rfl],#[_,rfl,rfl],trivial])|exact TM.dY|exact TM.mQ|exact TM.bY (by first|lia|decide)|exact TM.Cv (by first|lia|decide)|exact TM.qq (by first|lia|decide)|exact TM.qr (by decide)|exact TM.bh|exact TM.bM|exact TM.oi|exact TM.bj|exact TM.i_|exact TM.p6 rfl|exact ri _|exact rfl|exact TM.ye)
namespace MZ
open PySem L2
def bw(l:↑8):6:=fj l=4\/∃a b k,l=a++47::b/\fj a=4/\2<=k/\k<=99/\(~~~(jd k))=b
def len_list(x:5):-x=-x.cps.toList:=by rfl
def p9(a:0<=k)(b:k<=99):-jd k<=2:=by
 let(m,rfl):=Ą a;let c:m<100:=by omega
 clear a b;revert m;decide +kernel
def bw.len(h:bw l):1<=-l/\-l<=11:=by
 obtain h|⟨a,b,k,rfl,h,e,c,d⟩:=h
 .let:=(cz l).mp h;lia
 let:=(cz a).mp h;let hl:=p9  7 c;rw[len_list,d]at hl;simp;lia
def bw.Mi(h:bw (~~~x)):∃y r,Vc x F4=y::r/\fj (~~~y)=4:=by
 obtain h|⟨a,b,k,e,h,_⟩:=h
 .show#[x,[],u9 (jG h),h]
 let(r,c):=AB e (jG h) (by decide);show#[_,r,c,by omega]
theorem gJ:∀(b:↑5) a,(b.foldl (λa p=>a++O'.cps++p.cps) a).toList=a.toList++(b.map λp=>(~~~p)).flatten|[],a=>by simp|p::b,a=>by rw[ŕ,gJ b];let:O'.cps=#v[]:=9;simp[this]
def join_list(a):(~~~(Se O' a))=(a.map λp=>(~~~p)).flatten:=by cases a with|nil=>rfl|cons t a=>change(a.foldl _ t.cps).toList=_;rw[gJ];simp
def one(c:8):5:=#[#v[c]]
def join_ones(a):(~~~(Se O' (a.map one)))=a:=by rw[join_list,lg];induction a with|nil=>rfl|cons c a b=>rw[k9,Ľ,b];rfl
def t_(a:↑8)(h:-a<=100):Ĥ O' (a.map one)=4:=by
 unfold Ĥ;let e:=PySem.StrLaws.joinTotal O' (a.map one);let b:-O'=0:=9;let d:((a.map one).map (·.length)).sum=-a:=by rw[lg];clear h e;induction a with|nil=>rfl|cons c a f=>rw[k9,aaW,f];change 1+ -a=-a+1;lia
 rw[e,b,d];let g:-a+ -a.map one * 0<=100:=by omega
 revert g;generalize -a+ -a.map one * 0=m;revert m;decide
def IV(x)(j:8):(~~~(PySem.StrLaws.sliceText x cK (bD (j:Int))))=x.cps.toList.take j:=by
 by_cases h:j<=-x.cps.toList
 .rw[PySem.StrLaws.sliceText_to  ⟨⋯,⋯⟩];simp
 let e:PySem.StrLaws.sliceText x cK (bD j)=PySem.StrLaws.sliceText x cK (bD ⇑x):=by
  unfold PySem.StrLaws.sliceText;let hl:=len_list x;let:PySem.Builtin.Str.strSliceIndices cK (bD j) 1 ⇑x=PySem.Builtin.Str.strSliceIndices cK (bD ⇑x) 1 ⇑x:=by
   let a:¬((j:Int)<0):=7
   let b:¬((-x:Int)<0):=7
   let c:min (j:Int) ⇑x=-x:=7
   simp[PySem.Builtin.Str.strSliceIndices,a,b,c]
  rw[this]
 let hl:=len_list x;rw[e,PySem.StrLaws.sliceText_to  ⟨⋯,⋯⟩,List.drop_zero,U0   ⋯];rw[U0 ⋯]
def zy(d:fj a=4)(e:∀c∈b,low c=4):fj ((a++b).take 0x8)=4:=by
 let h:=(cz a).mp d;show(cz _).mpr #[by grind,by grind,λc f=>?_];let g:=Ĝ f;obtain m|m:=ke.mp g
 .show h.2.2 c m
 let:=e c m;simp[low]at this
 omega
def lP(a:∀c∈b,low c=4)(d:1<=-b)(e:-b<=0x8):fj b=4 :=(cz b).mpr #[d,e,λc f=>by let:=a c f;simp[low]at this;omega]
def small:5:="abcdefghijklmnopqrstuvwxyz"
def v8:(~~~small)=(hW 26).map (97+·):=by rfl
def oq(a:0<=k)(b:k<26):MX (~~~small) k\(97+k.toNat):=by let(j,rfl):=Ą a;show cq ?_;rw[v8,mx,ϖ ⋯];rfl
def v9(h:j<26):low (97+j)=4:=by simp[low];lia
def ua(k:8):5:=#[#v[97+k / 26,97+k % 26]]
def v_(h:k<40):fj (~~~(ua k))=4:=by
 show lP (λc a=>?_) (by change 1<=2;decide) (by change 2<=0x8;decide);let b:=by simpa[ua] using a
 obtain rfl|rfl:=b
 .show v9 7
 show v9 7
theorem j7 [DecidableEq α]:∀{l m:↑α},l.Nodup->(∀x∈l,x∈m)->-l<=-m|[],_,_,_=>ri _|x::l,m,c,h=>by let(d,e):=sx.mp c;let a:=h x my;let f:=j7 (l:=l) (m:=m.erase x) e λy b=>(ĝ (by rintro rfl;show d b)).mpr (h y (kj _ b));rw[ú a]at f;let:0< -m:=Ċ a;rw[oD];lia
def dJ:↑5:=(hW 40).map ua
def rN:(dJ.Nodup):=by decide +kernel
def wa(a:↑5)(h:-a<40):∃x∈dJ,x∉a:=by apply S0;intro b;let:=λx c=>S0 λd=>b #[x,c,d];let:=j7 rN this;simp[dJ]at this;lia
end MZ
namespace TM
open PySem L2 MZ
def j8(a:0<=z)(h:z<2 ^ 62):Ol .Nc [(k,.int z)]\((hW z.toNat).map λi:8=>(lI (0+(i:Int)))):=by rw[t9,Bi,if_pos ⋯]
def mV(a:-x<=et)(h:MX (~~~x) i\c):l7 (k,.str x) (.int i)\zS (MZ.one c):=by erw[l7];rw[if_pos a,h];rfl
def ot:-small<=et:=by decide
def cR{a:↑Int}{i}(h:i< -a):MX (a.map U.int) (i:Int)\.int ((a[i]?).getD 0):=cq (by simp[h])
theorem dc:∀a,strsOf (a.map U.str)\a|[]=>9|s::a=>by change(strsOf _).map _=_;rw[dc a];rfl
def rO(a:E):Fn:=#["_law_name",2,0x6,[.set 2 (cQ "abcdefghijklmnopqrstuvwxyz"),.set 3 (.OM .join (cQ "") [.comp 1 dt .Nc [.bin .add cA (.bin .mod (.idx K' cO) (cI 0x8))] [] (.idx MF (.bin .mod (.idx MA (.bin .add (cI 0x4) K')) (cI 26)))]),.ite (.cmp .gt (.bi .len [MA]) cO) [.set 0x4 (.idx (.OM .split (.idx MA (.bin .mod (.idx K' cA) (.bi .len [MA]))) [(cQ "/")]) cO),.ite (.cmp .eq (.bin .mod (.idx K' (cI 2)) (cI 0x4)) cA) [.set 3 (.P0 (.bin .add Nj MF) [] [(cI 0x8)])] [],.ite (.cmp .eq (.bin .mod (.idx K' (cI 2)) (cI 0x4)) (cI 2)) [.set 3 (.bin .add (.bin .add Nj (cQ "/")) (.bi .str [.bin .add (cI 2) (.bin .mod (.idx K' (cI 3)) a)]))] []] [],.set 0x5 (.bin .add (.lst [MF]) (.comp 1 dt .Nc [(cI 40)] [] (.bin .add (.idx MF (.bin .Pf K' (cI 26))) (.idx MF (.bin .mod K' (cI 26)))))),.ret (.idx (.comp 1 dt .seq [Nh] [.cmp .Mw K' MK] K') cO)]]
def Fs(h:E):6:=∀(Γ:Tab) (a:↑Int),12<=-a->(∀d∈a,0<=d)->∃m:Int,0<m/\m<=98/\∀b c e f g,Run (ev Γ h) [bD (aL (a.map .int)),b,c,e,f,g] (lI m) [bD (aL (a.map .int)),b,c,e,f,g]
abbrev K5:E:=cI 98
def Ft:Fs K5:=λ_ _ _ _=>#[98,by decide,by decide,λ_ _ _ _ _=>ao]
section
variable{Γ:Tab}{ds:List Int}
def dd(ds:↑Int)(i:8):Int:=(ds[i]?).getD 0
def fu(a:∀d∈ds,0<=d)(i):0<=dd ds i:=by unfold dd;cases e:ds[i]? with|none=>simp|some d=>show a d (rD e)
def rP(r:12<=-ds)(g:∀d∈ds,0<=d):∃b:↑8,(∀c∈b,low c=4)/\1<=-b/\-b<=0x8 /\ Run (ev Γ (.comp 1 dt .Nc [.bin .add cA (.bin .mod (.idx K' cO) (cI 0x8))] [] (.idx MF (.bin .mod (.idx MA (.bin .add (cI 0x4) K')) (cI 26)))))
   [bD (aL (ds.map .int)),o1,bD (zS small),o3,o4,o5] (oL ((b.map MZ.one).map .str)) [bD (aL (ds.map .int)),o1,bD (zS small),o3,o4,o5]:=by
 let s:=fu g 0;show let n:=(1+dd ds 0 % 0x8).toNat;?_;let h:n<=0x8/\1<=n:=7
 show let f:8->8:=λi=>97+(dd ds (0x4+i) % 26).toNat;?_;show#[(hW n).map f,?_,by simp;show h.2,by simp;show h.1,?_]
 .intro c m;let(i,_,rfl):=mh.mp m;let:=fu g (0x4+i);show v9 7
 let a:Run (bQ 1 dt (aM Γ []) (ev Γ (.idx MF (.bin .mod (.idx MA (.bin .add (cI 0x4) K')) (cI 26)))) [(lI (1+dd ds 0 % 0x8))] ((hW n).map λi:8=>(lI (0+(i:Int)))) [])
   [bD (aL (ds.map .int)),o1,bD (zS small),o3,o4,o5] ([]++((hW n).map λi:8=>(lI (0+(i:Int)))).map λx=>match x.2 with|.int j=>.str (MZ.one (97+(dd ds (0x4+j.toNat) % 26).toNat))|u=>u) [bD (aL (ds.map .int)),o1,bD (zS small),o3,o4,o5]:=by
  let t:(0x8:8)<=et:=by decide
  show Cu (by show ttt) _ (λ_=>.loc) _ _ (by simp;lia) (λx a=>?_) (λx a=>?_)
  .let(i,_,rfl):=mh.mp a;show .inl 9
  let(i,o,rfl):=mh.mp a;let v:i<n:=by exists o
  let l:MX (ds.map U.int) (0x4+(0+(i:Int)))\.int (dd ds (0x4+i)):=by rw[show(0x4+(0+(i:Int)))=((0x4+i:Nat):Int) by lia];show cR 7
  let p:=fu g (0x4+i);let hs:=oq (k:=dd ds (0x4+i) % 26) 7 7;show#[d7,?_,aA];erw[abr,Ê];rw[abr]at l
  repeat' (first|show aU l|show mV ot hs|sizeOf_list_dec)
 let e:((hW n).map f).map MZ.one=(hW n).map λi=>MZ.one (97+(dd ds (0x4+i) % 26).toNat):=by rw[lg];rfl
 rw[e];let q:([]++((hW n).map λi:8=>(lI (0+(i:Int)))).map λx=>match x.2 with|.int j=>U.str (MZ.one (97+(dd ds (0x4+j.toNat) % 26).toNat))|u=>u)=((hW n).map λi=>MZ.one (97+(dd ds (0x4+i) % 26).toNat)).map U.str:=by simp
 rw[q]at a;show bI (rs:=[(lI (1+dd ds 0 % 0x8))]) ?_ ttt (j8 7 7) a
 repeat' (first|show aU (cR (i:=0) 7)|sizeOf_list_dec)
def j9(h:-x+ -y<=et):O5 .add (k,.str x) (a,.str y)\zS (x++y):=by erw[O5,Bg];left
theorem dg:∀(a:↑5) n,dB n (a.map U.str)=4|[],n=>by rfl|s::a,n=>by erw[k9,dB,dg a n];rfl
theorem ub(x):∀(a:↑5),((a.map U.str).any λy=>cj y (.str x))=gi (x∈a)
 |[]=>by simp|s::a=>by
  rw[k9,aaX,ub x a];let:cj (.str s) (.str x)=gi (x=s):=by
   erw[cj]
   grind
  left
def Fu(x)(a:↑5):SU (.str x) (a.map U.str)\gi (x∈a):=by unfold SU;rw[if_pos #[by rfl,dg a 50],ub]
def eZ{x}{a:↑5}:cm .Mw (.str x) (.lst (a.map U.str))\gi (x∉a):=by change(SU _ _).map _=_;rw[Fu];simp
def uc:Run (ev Γ (.comp 1 dt .Nc [(cI 40)] [] (.bin .add (.idx MF (.bin .Pf K' (cI 26))) (.idx MF (.bin .mod K' (cI 26))))))
   [b,c,bD (zS small),d,e,f] (oL (dJ.map .str)) [b,c,bD (zS small),d,e,f]:=by
 let m:(100:8)<=et:=by decide
 let a:Run (bQ 1 dt (aM Γ []) (ev Γ (.bin .add (.idx MF (.bin .Pf K' (cI 26))) (.idx MF (.bin .mod K' (cI 26))))) [(lI 40)] ((hW 40).map λi:8=>(lI (0+(i:Int)))) [])
   [b,c,bD (zS small),d,e,f] ([]++((hW 40).map λi:8=>(lI (0+(i:Int)))).map λx=>match x.2 with|.int j=>.str (ua j.toNat)|u=>u) [b,c,bD (zS small),d,e,f]:=by
  show Cu (by show ttt) _ (λ_=>.loc) _ _ (by simp;lia) (λx a=>?_) (λx a=>?_)
  .let(i,_,rfl):=mh.mp a;show .inl 9
  let(i,n,rfl):=mh.mp a;let o:i<40:=by left
  show#[d7,?_,aA];simp;let g:=oq (k:=(i:Int) / 26) 7 7;let h:=oq (k:=(i:Int) % 26) 7 7
  repeat' (first|show mV ot g|show mV ot h|show ad|sizeOf_list_dec)
 let l:([]++((hW 40).map λi:8=>(lI (0+(i:Int)))).map λx=>match x.2 with|.int j=>U.str (ua j.toNat)|u=>u)=dJ.map U.str:=by rfl
 rw[l]at a;show bI (rs:=[(lI 40)]) (by repeat' sizeOf_list_dec) ttt (j8 7 7) a
def zA{names ts:↑5}(hl:-ts<=1000):Run (ev Γ (.comp 1 dt .seq [Nh] [.cmp .Mw K' MK] K'))
   [o0,bD (aL (names.map .str)),o2,o3,o4,bD (oL (ts.map .str))] (oL ((ts.filter λx=>gi (x∉names)).map .str)) [o0,bD (aL (names.map .str)),o2,o3,o4,bD (oL (ts.map .str))]:=by
 let c:1000<=et:=by decide
 let a:=oo (cond:=aM Γ [.cmp .Mw K' MK]) (elt:=ev Γ K') (src:=[(.bor 0x5,.lst (ts.map .str))]) (st:=[o0,bD (aL _),o2,o3,o4,bD _]) #[#[.own,9,9],ttt]
  (λx=>match x.2 with|.str y=>gi (y∉names)|_=>dt) (λx=>x.2) (λ_=>.loc) ((ts.map U.str).map λu=>(kE (.bor 0x5),u)) [] (by grind) (λx a=>by let(u,_,rfl):=mh.mp a;show .inl 9) (λx a=>by
   let(u,b,rfl):=mh.mp a;let(y,_,rfl):=mh.mp b;show#[cv ?_,ae 9,aA]
   repeat' (first|show eZ|sizeOf_list_dec))
 let e:([]++(((ts.map U.str).map λu=>(kE (.bor 0x5),u)).filter λx=>match x.2 with|.str y=>gi (y∉names)|_=>dt).map λx=>x.2)=(ts.filter λx=>gi (x∉names)).map U.str:=by rw[ŗ,ŗ,lg,lg];rfl
 rw[e]at a;show bI (rs:=[(.bor 0x5,.lst _)]) (by repeat' sizeOf_list_dec) #[#[.own,9,9],ttt] 9 a
end
section
variable{Γ:Tab}{ds:List Int}
def zB{a:↑5}(m:-a<40)(q:bw (~~~b)):∃x c,bw (~~~x)/\x∉a /\ Run (execs Γ [.set 0x5 (.bin .add (.lst [MF]) (.comp 1 dt .Nc [(cI 40)] [] (.bin .add (.idx MF (.bin .Pf K' (cI 26))) (.idx MF (.bin .mod K' (cI 26)))))),
  .ret (.idx (.comp 1 dt .seq [Nh] [(.cmp .Mw K' MK)] K') cO)]) [g,bD (aL (a.map .str)),bD (zS small),bD (zS b),i,cK] (.rt .loc (.str x)) c:=by
 let r:1000<=et:=by decide
 let(y,s,n):=wa _ m;let o:(b::dJ).filter (λx=>gi (x∉a))≠[]:=λz=>by left
 cases e:(b::dJ).filter _ with
 |nil=>show absurd e o|cons x j =>
  let p:x∈(b::dJ).filter (λx=>gi (x∉a)):=by rw[e];simp
  let(d,f):=MW.mp p;let l:=zA (Γ:=Γ) (names:=a) (ts:=b::dJ) (by simp[dJ]) (o0:=g) (o2:=bD (zS small)) (o3:=bD (zS b)) (o4:=i);rw[e]at l;let ad:O5 .add (oL [.str b]) (oL (dJ.map U.str))\oL ((b::dJ).map U.str):=by rfl
  show#[x,[g,bD (aL (a.map .str)),bD (zS small),bD (zS b),i,bD (oL ((b::dJ).map .str))],?_,by simpa using f,?_]
  .rcases gs.mp d with rfl|h
   .omega
   let(k,hk,rfl):=mh.mp h;show .inl (v_ (by left))
  show bf  (bK  (dr (aa (ae 9) ah) (by(first|show ttt|show⟨⟨_,9,9⟩,ttt⟩|show#[#[_,9,9],#[_,9,9],ttt])) (aq aA aI) (by grind)) uc ttt ad) bM ?_;show a9 (aP l ao ttt (aU (by show cq 9))) bj
def Cz(Vt:Fs u)(hd:12<=-ds)(o:∀d∈ds,0<=d){a:↑5}(hn:-a<40)(hw:∀x∈a,bw (~~~x)):∃x,bw (~~~x)/\x∉a/\bx Γ (rO u) [.lst (ds.map .int),.lst (a.map .str)]\.ok (zS x):=by
 let(m,So,al,v):=Vt Γ ds hd o;let h8:(1000:8)<=et:=by decide
 let(g,Zv,w,p,Vu):=rP (Γ:=Γ) hd o (o1:=bD (aL (a.map .str))) (o3:=cK) (o4:=cK) (o5:=cK);let Vv:jq .join (.str "") [(oL ((g.map MZ.one).map U.str))]\zS (Se O' (g.map MZ.one)):=by change(strsOf ((g.map MZ.one).map U.str)).bind _=_;rw[dc];change(if Ĥ O' (g.map MZ.one)=4 then _ else _)=_;rw[if_pos (t_ g ⋯)];rfl
 show let b:5:=Se O' (g.map MZ.one);?_;let z:(~~~b)=g:=join_ones g;let NX:fj (~~~b)=4:=by rw[z];show lP Zv w p
 let A:-b<=0x8:=by rw[len_list,z];show p
 let j:∀{f:Fl} {e:ay} (B:↑S),Run (execs Γ B) [bD (aL (ds.map .int)),bD (aL (a.map .str)),bD (zS small),bD (zS b),cK,cK] f e ->
   Run (execs Γ (.set 2 (cQ "abcdefghijklmnopqrstuvwxyz")::.set 3 (.OM .join (cQ "") [.comp 1 dt .Nc [.bin .add cA (.bin .mod (.idx K' cO) (cI 0x8))] [] (.idx MF (.bin .mod (.idx MA (.bin .add (cI 0x4) K')) (cI 26)))])::B))
    [bD (aL (ds.map .int)),bD (aL (a.map .str)),cK,cK,cK,cK] f e:=λB h=>bf (r:=(zS small)) ao bh (bf (lM ao (aa Vu ah) (by(first|show ttt|show⟨⟨_,9,9⟩,ttt⟩|show#[#[_,9,9],#[_,9,9],ttt])) Vv) bh h)
 let q:∀(k:5) (l:Sl),bw (~~~k)->∃x e,bw (~~~x)/\x∉a/\Run (execs Γ [.set 0x5 (.bin .add (.lst [MF]) (.comp 1 dt .Nc [(cI 40)] [] (.bin .add (.idx MF (.bin .Pf K' (cI 26))) (.idx MF (.bin .mod K' (cI 26)))))),
  .ret (.idx (.comp 1 dt .seq [Nh] [(.cmp .Mw K' MK)] K') cO)]) [bD (aL (ds.map .int)),bD (aL (a.map .str)),bD (zS small),bD (zS k),l,cK] (.rt .loc (.str x)) e:=λk l C=>zB hn C
 by_cases hz:0< -a
 .
  let D:(dd ds 1).toNat % -a< -a:=î _ hz;show let n:=a[(dd ds 1).toNat % -a]'D;?_;let PM:bw (~~~n):=hw _ (U2 D);let(y,r,N7,G):=PM.Mi;let Wm:-y<=0x8:=by rw[len_list];show((cz _).mp G).2.1
  let am:-n<=11:=by rw[len_list];show PM.len.2
  let Yu:=fu o 1;let Nm:MX (a.map U.str) (dd ds 1 % (-a.map U.str:8))\.str n:=by rw[eu,show dd ds 1 % (⇑a:Nat)=(((dd ds 1).toNat % ⇑a:Nat):Int) by rw[Int.natCast_emod,Į Yu]];show cq (by simp[D];rfl)
  let Te:jq .split (.str n) [(zS "/")]\oL ((y::r).map U.str):=by change(if (Ű "/"==0)=dt/\-n+2<=et then bD (oL ((Vc n "/").map .str)) else cK)=_;rw[if_pos #[by decide,⋯],show("/":Str)=F4 from rfl,N7]
  let hp:(0:Int)<(-a.map U.str:8):=by simp;omega
  let H:l7 (oL ((y::r).map U.str)) (.int 0)\zS y:=aU (by change MX _ ((0:8):Int)=_;show cq 9);let an:=fu o 2;let ap:=fu o 3;let i1:MX (ds.map U.int) 1\.int (dd ds 1):=cR (i:=1) 7;let i2:MX (ds.map U.int) 2\.int (dd ds 2):=cR (i:=2) 7;let i3:MX (ds.map U.int) 3\.int (dd ds 3):=cR (i:=3) 7;let go:∀k:5,bw (~~~k)->Run (execs Γ [.ite (.cmp .eq (.bin .mod (.idx K' (cI 2)) (cI 0x4)) cA)
    [.set 3 (.P0 (.bin .add Nj MF) [] [(cI 0x8)])]
    [],
   .ite (.cmp .eq (.bin .mod (.idx K' (cI 2)) (cI 0x4)) (cI 2))
    [.set 3 (.bin .add (.bin .add Nj (cQ "/")) (.bi .str [.bin .add (cI 2) (.bin .mod (.idx K' (cI 3)) u)]))]
    []]) [bD (aL (ds.map .int)),bD (aL (a.map .str)),bD (zS small),bD (zS b),bD (zS y),cK] .nx [bD (aL (ds.map .int)),bD (aL (a.map .str)),bD (zS small),bD (zS k),bD (zS y),cK] ->
    ∃x,bw (~~~x)/\x∉a/\bx Γ (rO u) [.lst (ds.map .int),.lst (a.map .str)]\.ok (zS x):=λk C hr=>by
   let(x,e,I,J,N):=q k (bD (zS y)) C;show#[x,I,J,aC (st0:=[bD (aL (ds.map .int)),bD (aL (a.map .str)),cK,cK,cK,cK]) 9 (.inr 9) 9 (j _ (jt (st1:=[bD (aL (ds.map .int)),bD (aL (a.map .str)),bD (zS small),bD (zS b),cK,cK]) ?_ (bf (r:=(zS y)) (st1:=[bD (aL (ds.map .int)),bD (aL (a.map .str)),bD (zS small),bD (zS b),cK,cK]) ?_ bh hr) N))]
   .repeat' (first|show j6 (by simp;omega)|sizeOf_list_dec)
   repeat' (first|show bY hp|show aU Nm|show aU i1|show Te|show H|sizeOf_list_dec)
  let Q:∀{c:Bool} {s l:Sl},(dd ds 2 % 0x4==1)=c->Run (MM Γ (.cmp .eq (.bin .mod (.idx K' (cI 2)) (cI 0x4)) cA)) [bD (aL (ds.map .int)),bD (aL (a.map .str)),bD (zS small),s,l,cK] c [bD (aL (ds.map .int)),bD (aL (a.map .str)),bD (zS small),s,l,cK]:=λT=>by repeat' (first|show aU i2|show gy T|sizeOf_list_dec)
  let Y:∀{c:Bool} {s l:Sl},(dd ds 2 % 0x4==2)=c->Run (MM Γ (.cmp .eq (.bin .mod (.idx K' (cI 2)) (cI 0x4)) (cI 2))) [bD (aL (ds.map .int)),bD (aL (a.map .str)),bD (zS small),s,l,cK] c [bD (aL (ds.map .int)),bD (aL (a.map .str)),bD (zS small),s,l,cK]:=λT=>by repeat' (first|show aU i2|show gy T|sizeOf_list_dec)
  by_cases Zw:dd ds 2 % 0x4=1
  .let ab:-y+ -b<=et:=7
   let O3:pe (zS (y++b)) cK (bD 0x8)\zS (PySem.StrLaws.sliceText (y++b) cK (bD 0x8)):=by erw[pe];rw[if_pos (by rw[len_list];change(y.cps++b.cps).toList.length<=_;rw[Ħ,ro,<-len_list,<-len_list];omega)]
   show go (PySem.StrLaws.sliceText (y++b) cK (bD 0x8)) (.inl ?_) ?_
   .let:=IV (y++b) 0x8;rw[show((0x8:Nat):Int)=0x8 from rfl]at this;rw[this];change fj ((y.cps++b.cps).toList.take 0x8)=4;rw[Ħ];show zy G (by rw[z];omega)
   show jt (Q (by simp[Zw])) (bf (x_ (bK (ae 9) (ae 9) ttt (j9 ab)) xY (xZ ao) ttt O3) bh br) (du (Y (by simp[Zw])) br br)
  by_cases Rr:dd ds 2 % 0x4=2
  .let YY:=ť (dd ds 3) (show m≠0 by lia);let Pk:=ĸ (dd ds 3) So;let RN:0<=2+dd ds 3 % m:=7
   let t:2+dd ds 3 % m<=99:=7
   let ac:=p9 RN t;let SX:ON .str [(lI (2+dd ds 3 % m))]\zS (jd (2+dd ds 3 % m)):=by
    erw[ON,iQ,Bh];rw[if_pos (by
     have:(2+dd ds 3 % m).natAbs<2 ^ 0x7:=⋯
     have h2:(2+dd ds 3 % m).natAbs≠0:=⋯
     have:=(Nat.log2_lt h2).mpr this;lia)]
    rfl
   let ag:-(y++("/":5))=-y+1:=by rw[len_list,len_list];change(y.cps++_).toList.length=_;rw[Ħ,ro];rfl
   let Zx:Run (ev Γ (.bin .add (cI 2) (.bin .mod (.idx K' (cI 3)) u))) [bD (aL (ds.map .int)),bD (aL (a.map .str)),bD (zS small),bD (zS b),bD (zS y),cK] (lI (2+dd ds 3 % m)) [bD (aL (ds.map .int)),bD (aL (a.map .str)),bD (zS small),bD (zS b),bD (zS y),cK]:=bK ao (bK (aP (aN 9) ao ttt (aU i3)) (v _ _ _ _ _) ttt (bY So)) ttt dY;show go (y++"/"++jd (2+dd ds 3 % m)) (.inr #[(~~~y),(~~~(jd (2+dd ds 3 % m))),2+dd ds 3 % m,?_,G,7,t,9]) ?_
   .change((y.cps++#v[47])++(jd _).cps).toList=_;simp
   show du (Q (by simp[Rr])) br (jt (Y (by simp[Rr])) (bf (bK (bK (ae 9) ao ttt (j9 (by change -y+1<=et;lia))) (cy (aa Zx ah) ttt SX) ttt (j9 7)) bh br) br)
  show go b (.inl NX) ?_;show du (Q (by simp[Zw])) br (du (Y (by simp[Rr])) br br)
 let(x,e,I,J,N):=q b cK (.inl NX);show#[x,I,J,aC (st0:=[bD (aL (ds.map .int)),bD (aL (a.map .str)),cK,cK,cK,cK]) 9 (.inr 9) 9 (j _ (du (st1:=[bD (aL (ds.map .int)),bD (aL (a.map .str)),bD (zS small),bD (zS b),cK,cK]) ?_ br N))]
 repeat' (first|show j6 (decide_eq_false (by erw[eu];lia))|sizeOf_list_dec)
end
def ou(Γ:Tab):6:=∀(a:↑Int) (k:8),k<2 ^ 62->∃z,Γ "_law_cell" [.lst (a.map .int),.int (k:8)]\.ok (lI z)
def j_(Γ:Tab):6:=∀(c:Int) (n:8),n<1000->∃a:↑Int,-a=n/\(∀d∈a,0<=d)/\Γ "_law_drawn" [.int c,.int (n:8)]\.ok (oL (a.map .int))
def CA(Γ:Tab):6:=∀(b:↑Int) (a:↑5),12<=-b->(∀d∈b,0<=d)->-a<40->(∀x∈a,bw (~~~x))->∃x,bw (~~~x)/\x∉a/\Γ "_law_name" [.lst (b.map .int),.lst (a.map .str)]\.ok (zS x)
def fNames:Fn:=#["_law_names",3,0x5,[.set 3 (.lst []),.MR dt [0x4] .Nc [MK] [.app 3 (.call "_law_name" [.call "_law_drawn" [.call "_law_cell" [K',.bin .add MA Nj],(cI 12)],MF])],.ret MF]]
theorem zC(hc:ou Γ)(hd:j_ Γ)(hn:CA Γ){ns:List Int}(hb:b<1000)(hm:m<40):
    ∃names:List 5,names.length=m/\names.Nodup/\(∀x∈names,bw x.cps.toList)/\bx Γ fNames [.lst (ns.map .int),.int (b:8),.int (m:8)]=bD (.ok (oL (names.map .str))):=by
  let hsz:(1000:8)<=et:=by decide
  show let I:List (Kd×U)->ay->6:=λxs st=>∃(names:List 5) (us:List U) (o:Sl),st=[bD (aL (ns.map .int)),bD (lI (b:8)),bD (lI (m:8)),bD (oL us),o]/\us=names.map .str/\names.Nodup/\(∀x∈names,bw x.cps.toList)/\names.length+xs.length=m/\ia m xs;?_;let loop:=yc (t:=dt) (is:=[0x4]) (body:=execs Γ [.app 3 (.call "_law_name" [.call "_law_drawn" [.call "_law_cell" [K',.bin .add MA Nj],(cI 12)],MF])]) (rs:=[(lI (m:8))]) I (λ_ _ _=>trivial) (λx xs st MO=>by
    obtain⟨names,us,o,e,e2,ME,hw,hl,hr⟩:=MO;subst e;obtain⟨i,hi,rfl,OD,hlen⟩:=hr.cons;rw[oD]at hl;obtain⟨z,hz⟩:=hc ns (b+i) 7;rw[Int.natCast_add]at hz;obtain⟨ds,d1,d2,d3⟩:=hd z 12 7;obtain⟨x,x1,x2,x3⟩:=hn ds names 7 d2 7 hw;rw[<-e2]at x3;refine⟨[bD (aL (ns.map .int)),bD (lI (b:8)),bD (lI (m:8)),bD (oL us),bD (lI (i:8))],[bD (aL (ns.map .int)),bD (lI (b:8)),bD (lI (m:8)),bD (oL (us++[.str x])),bD (lI (i:8))],bh,?_,⟨names++[x],_,_,9,by simp[e2],?_,?_,by simp;lia,OD⟩⟩
    · repeat' (first|exact hz|exact d3|exact x3|exact(by rw[e2,eu];lia)|sizeOf_list_dec)
    · rw[ti]
      exact ⟨ME, by simp, fun y hy w QT => by let : w = x := by simpa using QT
                                              subst this;rintro rfl;exact x2 hy⟩
    · intro y hy
      rcases ke.mp hy with h|h
      · exact hw y h
      · rw[js.mp h];exact x1)
  obtain⟨st',MT,names,us,o,e,e2,ME,hw,hl,_⟩:=loop ((hW m).map λi:8=>(lI (0+(i:Int)))) [bD (aL (ns.map .int)),bD (lI (b:8)),bD (lI (m:8)),bD (oL []),cK] ⟨[],[],cK,9,9,by simp,by simp,by simp,ia.all m⟩;subst e e2;refine⟨names,by simpa using hl,ME,hw,?_⟩;apply aC (st0:=[bD (aL (ns.map .int)),bD (lI (b:8)),bD (lI (m:8)),cK,cK]) 9 (.inl 9) 9
  repeat' sizeOf_list_dec
  let hit:=v7 (k:=.loc) (n:=m) 7;refine' fT (rs:=[(lI (m:8))]) (st1:=[bD (aL (ns.map .int)),bD (lI (b:8)),bD (lI (m:8)),bD (oL []),cK]) _ trivial hit 9 MT _
  all_goals repeat' sizeOf_list_dec
def lQ:Fn:=#["_law_told",2,0x6,[.set 2 (.bi .len [MA]),.ite (.and [.cmp .gt (.bin .mod (.idx K' (cI 2)) (cI 3)) cO,.cmp .gt (.bin .mod (.idx K' cO) (.bi .len [MA])) cO]) [.set 2 (.bin .mod (.idx K' cO) (.bi .len [MA]))] [],.set 3 (.lst []),.MR dt [0x4] .Nc [.idx (.lst [cO,cO,cA,cA,cA,(cI 2),(cI 2),(cI 2),(cI 3),(cI 0x8)]) (.bin .mod (.idx K' cA) (cI 10))] [.set 0x5 (.idx MA (.bin .mod (.idx K' (.bin .add (cI 3) Nj)) MK)),.ite (.cmp .Mw Nh MF) [.app 3 Nh] []],.ret (.bi .tuple [MF])]]
theorem Mj:∀j:8,j<10->∃q,q<=0x8/\MX [U.int 0,.int 0,.int 1,.int 1,.int 1,.int 2,.int 2,.int 2,.int 3,.int 0x8] (j:Int)\.int (q:8)
 |0,_=>⟨0,by omega,9⟩|1,_=>⟨0,by omega,9⟩|2,_=>⟨1,by omega,9⟩|3,_=>⟨1,by omega,9⟩|0x4,_=>#[1,by omega,9]
 |0x5,_=>⟨2,by omega,9⟩|0x6,_=>⟨2,by omega,9⟩|0x7,_=>⟨2,by omega,9⟩|0x8,_=>⟨3,7,9⟩|0x9,_=>#[0x8,7,9]
 |n+10,h=>absurd h 7
def CB(e:0<=z)(a:0<t)(hl:t<=-xs):∃x∈xs,MX xs (z % t)\x:=by
 let b:=ť z (by lia:t≠0);let f:=ĸ z a;let(j,c):=Ą b;let d:j< -xs:=7
 show#[_,U2 d,?_];rw[c];show cq (by simp)
def rQ{xs:↑5}{z t:Int}(a:0<=z)(b:0<t)(hl:t<=-xs):∃x∈xs,MX (xs.map U.str) (z % t)\.str x:=by let(u,c,e):=CB (xs:=xs.map _) a b (by left);let(x,d,rfl):=mh.mp c;show#[x,d,e]
def CC{Γ}{b:↑Int}{a:↑5}(hd:11<=-b)(D:∀d∈b,0<=d)(hn:0< -a):∃told:↑5,-told<=0x8/\told.Nodup/\(∀x∈told,x∈a)/\bx Γ lQ [.lst (b.map .int),.lst (a.map .str)]\.ok (lT (told.map .str)):=by
 let ac:(1000:8)<=et:=by decide
 let i0:MX (b.map U.int) 0\.int (dd b 0):=cR (i:=0) (by omega);let i1:MX (b.map U.int) 1\.int (dd b 1):=cR (i:=1) (by omega);let i2:MX (b.map U.int) 2\.int (dd b 2):=cR (i:=2) (by omega);let n0:=fu D 0;let n1:=fu D 1;let n2:=fu D 2;let u:(0:Int)<(-a.map U.str:8):=by simp;omega
 let hL:(-a.map U.str:Int)=-a:=by simp
 let So:=ĸ (dd b 0) u;let YY:=ť (dd b 0) (by omega:(-a.map U.str:Int)≠0);show let B:=λ(t:Int) (g:↑U) (o l:Sl)=>([bD (aL (b.map .int)),bD (aL (a.map .str)),bD (lI t),bD (oL g),o,l]:ay);?_
 let hj:(dd b 1 % 10).toNat<10:=by omega
 let(q,hq,Nm):=Mj _ hj;rw[Į (by omega)]at Nm;let v:∀t:Int,0<t->t<=-a->∃told:↑5,-told<=0x8/\told.Nodup/\(∀x∈told,x∈a)/\∃j,Run (execs Γ (lQ.body.drop 2)) [bD (aL (b.map .int)),bD (aL (a.map .str)),bD (lI t),cK,cK,cK] (.rt .loc (.tup (told.map .str))) j:=λt z J=>by
  show let I:↑(Kd×U)->ay->6:=λN st=>∃(told:↑5) (g:↑U) (o l:Sl),st=B t g o l/\g=told.map .str/\told.Nodup/\(∀x∈told,x∈a)/\-told+ -N<=q/\ia q N;?_;let A:=yc (t:=dt) (is:=[0x4]) (body:=execs Γ [.set 0x5 (.idx MA (.bin .mod (.idx K' (.bin .add (cI 3) Nj)) MK)),
   .ite (.cmp .Mw Nh MF)
    [.app 3 Nh]
    []]) (rs:=[(lI (q:8))]) I (λ_ _ _=>ttt) (λx N st MO=>by
   let(told,g,o,l,e,p,G,H,hl,hr):=MO;subst e;let(i,hi,rfl,OD,ab):=hr.cons;rw[oD]at hl;let ik:MX (b.map U.int) (3+(i:Int))\.int (dd b (3+i)):=by rw[show(3+(i:Int))=((3+i:Nat):Int) by omega];show cR (by omega)
   let(x,hx,WG):=rQ (xs:=a) (fu D (3+i)) z J;let C:cm .Mw (.str x) (.lst g)\gi (x∉told):=by rw[p];show eZ
   by_cases NW:x∈told
   .show#[B t g (bD (lI (i:8))) l,B t g (bD (lI (i:8))) (bD (.any,.str x)),bh,?_,#[told,g,_,_,9,p,G,H,by omega,OD]];show bf (r:=(.any,.str x)) (st1:=B t g (bD (lI (i:8))) l) ?_ oi (du (st1:=B t g (bD (lI (i:8))) (bD (.any,.str x))) ?_ br br)
    .repeat' (first|show aU ik|show bY z|show aU WG|sizeOf_list_dec)
    let:cm .Mw (.str x) (.lst g)\dt:=by rw[C];simp[NW]
    repeat' (first|show this|sizeOf_list_dec)
   show#[B t g (bD (lI (i:8))) l,B t (g++[.str x]) (bD (lI (i:8))) (bD (.any,.str x)),bh,?_,#[told++[x],_,_,_,9,by simp[p],?_,?_,by simp;omega,OD]]
   .show bf (r:=(.any,.str x)) (st1:=B t g (bD (lI (i:8))) l) ?_ oi (jt (st1:=B t g (bD (lI (i:8))) (bD (.any,.str x))) (st2:=B t (g++[.str x]) (bD (lI (i:8))) (bD (.any,.str x))) ?_ ?_ br)
    .repeat' (first|show aU ik|show bY z|show aU WG|sizeOf_list_dec)
    .let:cm .Mw (.str x) (.lst g)\4:=by rw[C];simp[NW]
     repeat' (first|show this|sizeOf_list_dec)
    repeat' (first|show lN 9|show(by rw[p,eu];omega)|sizeOf_list_dec)
   .rw[ti];show#[G,by simp,λy hy w QT=>by grind]
   intro y hy;obtain h|h:=ke.mp hy
   .show H y h
   rw[js.mp h];show hx)
  let(j,MT,told,g,o,l,e,p,G,H,hl,_):=A ((hW q).map λi:8=>(lI (0+(i:Int)))) (B t [] cK cK) ⟨[],[],cK,cK,9,9,by simp,by simp,by simp,ia.all q⟩;subst e p;show#[told,by simp at hl;omega,G,H,?_];let Q:=v7 (k:=.loc) (n:=q) (by omega);show#[B t (told.map .str) o l,bf (r:=(oL [])) (dr ah ttt aI (ri _)) bM (fT (rs:=[(lI (q:8))]) (st1:=B t [] cK cK) ?_ ttt Q 9 MT ?_)]
  .show aa (aP (x:=(oL [U.int 0,.int 0,.int 1,.int 1,.int 1,.int 2,.int 2,.int 2,.int 3,.int 0x8])) (y:=(lI (dd b 1 % 10))) (st1:=B t [] cK cK) ?_ ?_ ttt (aU Nm)) ah
   .repeat' (first|show(by decide:(10:8)<=et)|sizeOf_list_dec)
   repeat' (first|show aU i1|sizeOf_list_dec)
  repeat' sizeOf_list_dec
 let m:∀t:Int,0<t->t<=-a->(∀{f:Fl} {j:ay},Run (execs Γ (lQ.body.drop 2)) [bD (aL (b.map .int)),bD (aL (a.map .str)),bD (lI t),cK,cK,cK] f j->Run (execs Γ lQ.body) [bD (aL (b.map .int)),bD (aL (a.map .str)),cK,cK,cK,cK] f j) ->
   ∃told:↑5,-told<=0x8/\told.Nodup/\(∀x∈told,x∈a)/\bx Γ lQ [.lst (b.map .int),.lst (a.map .str)]\.ok (lT (told.map .str)):=λt z J hh=>by
  let(told,a1,a2,a3,j,a4):=v t z J;show#[told,a1,a2,a3,aC (st0:=[bD (aL (b.map .int)),bD (aL (a.map .str)),cK,cK,cK,cK]) 9 (.inr 9) 9 (hh a4)]
 show let s:ay:=[bD (aL (b.map .int)),bD (aL (a.map .str)),bD (lI (-a.map U.str:8)),cK,cK,cK];?_
 let T:∀{c:Bool},gi (0<dd b 2 % 3)=c->Run (MM Γ (.cmp .gt (.bin .mod (.idx K' (cI 2)) (cI 3)) cO)) s c s:=λh=>by repeat' (first|show aU i2|show j6 h|sizeOf_list_dec)
 let q2:∀{c:Bool},gi (0<dd b 0 % (-a.map U.str:8))=c->Run (MM Γ (.cmp .gt (.bin .mod (.idx K' cO) (.bi .len [MA])) cO)) s c s:=λh=>by repeat' (first|show aU i0|show bY u|show j6 h|sizeOf_list_dec)
 let Y:Run (ev Γ (.bi .len [MA])) [bD (aL (b.map .int)),bD (aL (a.map .str)),cK,cK,cK,cK] (lI (-a.map U.str:8)) [bD (aL (b.map .int)),bD (aL (a.map .str)),cK,cK,cK,cK]:=by repeat' sizeOf_list_dec
 let s3:Run (ev Γ (.bin .mod (.idx K' cO) (.bi .len [MA]))) s (lI (dd b 0 % (-a.map U.str:8))) s:=by repeat' (first|show aU i0|show bY u|sizeOf_list_dec)
 by_cases c1:0<dd b 2 % 3
 .by_cases c2:0<dd b 0 % (-a.map U.str:8)
  .show m (dd b 0 % (-a.map U.str:8)) c2 (by omega) λh=>bf Y bh (jt (fS (rK (T (decide_eq_true c1)) (cv (q2 (decide_eq_true c2))))) (bf s3 bh br) h)
  show m (-a.map U.str:8) u (by omega) λh=>bf Y bh (du (fS (rK (T (decide_eq_true c1)) (cv (q2 (decide_eq_false c2))))) br h)
 show m (-a.map U.str:8) u (by omega) λh=>bf Y bh (du (fS (vY (T (decide_eq_false c1)))) br h)
def Gn(j:Run (ev Γ l) st rv b)(m:b[i]?\bD (n,o))(p:Run (ev Γ q) b rk c)(r:Run (dU [rv,rk]) c [e,g] d)(s:d[i]?\bD (k,h))(hk:k.root=4)(t:gY g e h\u) (v:Run (execs Γ w) (d.set i (bD (k,u))) f x) (y:n≠.A':=by intro z;ext z):Run (execs Γ (.put i q l::w)) st f x:=by show fF (af j (af (h_ m y) (af p (af r (af (a:=())  ?_ bc))))) v;change modS i _ d=_;unfold modS;rw[s];erw[hk];change(match gY g e h with|some o=>_|none=>cK)=_;rw[t]
abbrev Row:=5 ×↑5
def Mo(r:Row):U:=.tup [.str r.1,.tup (r.2.map .str)]
abbrev tR(a:↑Row):U:=U.tup (a.map Mo)
def keyOf(r:Row):Row:=(r.1,bA r.2)
def zD(r):rowOf (Mo r)\r:=by change(strsOf _).map _=_;rw[dc];rfl
def sorted_strs(h:-ss<64):ON .sorted [(k,.tup (ss.map .str))]\oL ((bA ss).map .str):=by change(strsOf _).bind _=_;rw[dc];left
def CD(Γ:Tab):6:=∀(b:↑Int) (a:↑5),11<=-b->(∀d∈b,0<=d)->0< -a ->
 ∃told:↑5,-told<=0x8/\told.Nodup/\(∀x∈told,x∈a)/\Γ "_law_told" [.lst (b.map .int),.lst (a.map .str)]\.ok (lT (told.map .str))
structure d8(names:↑5)(r:Row):6 where
 word:r.1∈names
 NG:-r.2<=0x8
 once:r.2.Nodup
 told:∀x∈r.2,x∈names
def yg(Γ:Tab):6:=∀(c:↑Int) (b m:8),b<1000->m<40->∃a:↑5,-a=m/\a.Nodup/\(∀x∈a,bw (~~~x))/\Γ "_law_names" [.lst (c.map .int),.int (b:8),.int (m:8)]\.ok (oL (a.map .str))
def Gp(h:NY a "_law_mix" zw):Cw (MP a (d+1)):=λc k b e=>by rw[b7 h];show Fq b e
def ox(h:NY a "_law_mix" zw)(b:NY a "_law_cell" yf):ou (MP a (d+2)):=λc k hk=>#[_,by rw[b7 b];show Cy (Gp h) hk]
def drawnOk(h:NY f "_law_mix" zw)(g:NY f "_law_drawn" rM):j_ (MP f (d+2)):=λc n i=>by let(j,a,b,e):=zx (Gp  h)  i;show#[j,a,b,by rw[b7 g];show e]
def IW(g:Fs i)(h:NY j "_law_name" (rO i)):CA (MP j (d+1)):=λk f a b c e=>by let(x,p,q,r):=Cz  g a b c e;show#[x,p,q,by rw[b7 h];show r]
def IX(h:NY f "_law_told" lQ):CD (MP f (d+1)):=λg e a b c=>by let(x,p,q,r,s):=CC  a b c;show#[x,p,q,r,by rw[b7 h];show s]
structure eJ(md:E)(Pg:↑Fn):6 where
 mix:NY Pg "_law_mix" zw
 cell:NY Pg "_law_cell" yf
 drawn:NY Pg "_law_drawn" rM
 name:NY Pg "_law_name" (rO md)
 names:NY Pg "_law_names" fNames
 told:NY Pg "_law_told" lQ
def eJ.ox(M:eJ b a):ou (MP a (d+2)):=TM.ox M.mix M.cell
def eJ.drawnOk(M:eJ b a):j_ (MP a (d+2)):=TM.drawnOk M.mix M.drawn
def eJ.CF(c:Fs e)(M:eJ e f):yg (MP f (d+3)):=λi b m g h=>by let(a,p,q,r,s):=zC  M.ox M.drawnOk (TM.IW c M.name)  g h;show#[_,p,q,r,by rw[b7 M.names];show s]
abbrev CG(a:↑Fn):6:=eJ K5 a
def eJ.namesOk(M:CG a):yg (MP a (d+3)):=eJ.CF Ft M
def p_(h:Run (execs Γ (a++m)) st f b):(∃i,Run (execs Γ a) st .nx i/\Run (execs Γ m) i f b)\/(Run (execs Γ a) st f b/\f≠.nx):=by
 induction a generalizing st with
 |nil=>show .inl #[st,br,h]|cons s a n =>
  let d:M.bind (exec Γ s) (λf=>match f with|.nx=>execs Γ (a++m)|f=>pure f) st\(.ok f,b):=h;unfold M.bind at d;cases e:exec Γ s st with
  |none=>rw[e]at d;ext d
  |some p =>
   let(x,i):=p;rw[e]at d;cases x with
   |exc c=>ext d
   |ok g =>
    cases g with
    |nx =>
     obtain⟨o,j,l⟩|⟨j,l⟩:=n d
     .show .inl #[o,fF e j,l]
     show .inr #[fF e j,l]
    |rt k u=>ext d;show .inr #[Cs e,λz=>nomatch z]
def K6(b:Run (exec Γ s) st f a)(c:f≠.nx):Run (execs Γ (s::d)) st f a:=by cases f with|nx=>show absurd 9 c|rt k u=>show Cs b
def c8(i:Run (MM Γ c) st p g)(k:p=4->Run (execs Γ (a++j)) g f h)(l:p=dt->Run (execs Γ (b++j)) g f h):Run (execs Γ (.ite c a b::j)) st f h:=by
 cases p with
 |true =>
  obtain⟨m,d,e⟩|⟨d,e⟩:=p_ (k 9)
  .show fF (rL i d) e
  show K6 (rL i d) e
 |false =>
  obtain⟨m,d,e⟩|⟨d,e⟩:=p_ (l 9)
  .show fF (vZ i d) e
  show K6 (vZ i d) e
def wb(h:Run (ev Γ e) st (k,.bl p) st)(c:p=4->Run (jT Γ (a::b)) st (bL q) st):Run (jT Γ (e::a::b)) st (bL (p&&q)) st:=by show rJ h ?_;left
def K7(h:Run (MM Γ e) st p st)(a:p=dt->Run (gW Γ (b::c)) st q st):Run (gW Γ (e::b::c)) st (p||q) st:=by cases p with|true=>show KW h|false=>show iZ h (a 9)
def ib(h:Run (MM Γ e) st p st)(a:p=4->Run (aM Γ (b::c)) st q st):Run (aM Γ (e::b::c)) st (p&&q) st:=by cases p with|true=>show rK h (a 9)|false=>show vY h
theorem dM{cond:M Bool}(h:ba src st)(k:Kd)(hk:k=.loc\/k=.any)(a g:α->U)(d:Kd)(e:∀y,Run cond (bD (k,a y)::st) 4 (bD (k,a y)::st)):∀(c:↑α) (b:↑U),-b+ -c<=et -> (∀y∈c,Run elt (bD (k,a y)::st) (d,g y) (bD (k,a y)::st)/\Run (lift (d,g y)) (bD (k,a y)::st) (g y) (bD (k,a y)::st))->Run (bQ 1 dt cond elt src (c.map λy=>(k,a y)) b) st (b++c.map g) st
 |[],b,_,_=>by rw[X2,X2,uv];show t8 h|y::c,b,hl,f=>by
  let(i,j):=f y (by simp);rw[oD]at hl;show om     h ?_ (e y) i j 7 ?_
  .rcases hk with rfl|rfl
   .show dI bh
   show dI oi
  let:=dM h k hk a g d e c (b++[g y]) (by simp;lia) λz l=>f z (by simp[l]);left
theorem kU{cond:M Bool}(h:ba src st)(k:Kd)(hk:k=.loc\/k=.any)(a g:α->U)(p:α->Bool)(d:Kd):∀(c:↑α) (b:↑U),-b+ -c<=et -> (∀y∈c,Run cond (bD (k,a y)::st) (p y) (bD (k,a y)::st)/\(p y=4->Run elt (bD (k,a y)::st) (d,g y) (bD (k,a y)::st)/\Run (lift (d,g y)) (bD (k,a y)::st) (g y) (bD (k,a y)::st)))->Run (bQ 1 dt cond elt src (c.map λy=>(k,a y)) b) st (b++(c.filter p).map g) st
 |[],b,_,_=>by rw[X2,Ŗ,X2,uv];show t8 h|y::c,b,hl,f=>by
  let(e,i):=f y (by simp);rw[oD]at hl;let m:Run (dC dt (hW 1) (k,a y)) (rr 1 cK++st) () (bD (k,a y)::st):=by
   obtain rfl|rfl:=hk
   .show dI bh
   show dI oi
  cases j:p y with
  |true=>rw[j]at e;let(n,o):=i j;show om     h m e n o 7 ?_;let:=kU h k hk a g p d c (b++[g y]) (by simp;lia) λz l=>f z (by simp[l]);left
  |false=>rw[j]at e;show v3   h m e ?_;let:=kU h k hk a g p d c b 7 λz l=>f z (by simp[l]);left
theorem e_(it:α->Kd×U)(I:↑α->↑α->ay->6)(hs:∀d r st,I d r st->ba rs st) (Ε:∀d y r st,I d (y::r) st->∃a b,Run (dC t is (it y)) st () a/\Run body a .nx b/\I (d++[y]) r b):∀(r d:↑α) (st:ay),I d r st->∃c,Run (forM t is body rs (r.map it)) st .nx c/\I (d++r) [] c|[],d,st,h=>#[st,Gk (hs _ _ _ h),by left]|y::r,d,st,h=>by let(l,e,f,g,i):=Ε d y r st h;let(j,k,m):=e_ it I hs Ε r _ e i;show#[j,K3 (hs _ _ _ h) f g k,by left]
def ju(c:Run (bR Γ d) st rs a)(e:ba rs a)(g:Γ f (rs.map (·.2))\.ok r)(h:vD r.2\b)(i:isAny r.1=dt:=by show 9):Run (MM Γ (.call f d)) st b a:=af c (af (bp e) (af (yb g i) (cV h)))
def IY(h:Run (ev Γ (.bi f j)) st (k,.bl b) c):Run (MM Γ (.bi f j)) st b c:=by
 let o:=h;obtain⟨d,e,l,n,g,m,r,i,p,q⟩:∃d e,bR Γ j st\_/\∃a g,aG d e\_/\∃r i,M.MU _ g\_/\(r,i)=((k,U.bl b),c):=by
  let w:W (bR Γ j >>= λd=>aG d >>= λ_=>M.MU _) st λr s=>(r,s)=((k,U.bl b),c):=#[_,_,o,9]
  rw[ai]at w;let(d,e,l,w):=w;rw[ai]at w;let(a,g,n,w):=w;let(r,i,m,w):=w;show#[d,e,l,a,g,n,r,i,m,w]
 ext q;show af l (af  m (af p (cV 9)))
def CH(c:st[i]?\bD (k',.lst d))(g:Run (ev Γ e) st r b)(o:b[i]?\bD (k,.lst h))(hk:k.root=4)(p:pf r (.lst h)\.lst zs) (j:Run (execs Γ l) (b.set i (bD (k,.lst zs))) f m) (n:k'≠.A':=by intro z;ext z):Run (execs Γ (.ext i e::l)) st f m:=by show fF (af (h_ c n) (af   9 (af g (af (a:=())  ?_ bc)))) j;change modS i _ b=_;unfold modS;left
def Fv(h:-b+ -a<=et)(hs:kI k a=4):pf (k,.tup a) (.lst b)\.lst (b++a):=by change(if -b+ -a<=et/\kI k a=4 then _ else _)=_;rw[if_pos #[h,hs]]
def yh(h:-b+ -a<=et)(hs:kI k a=4):pf (k,.lst a) (.lst b)\.lst (b++a):=by change(if -b+ -a<=et/\kI k a=4 then _ else _)=_;rw[if_pos #[h,hs]]
theorem eS:∀a:↑5,dZ (a.map U.str)=4|[]=>by rfl|s::a=>by simp[dZ,MJ,eS a]
def fw(r):MJ (Mo r)=4:=by simp[Mo,MJ,dZ,eS]
theorem bB:∀a:↑Row,dZ (a.map Mo)=4|[]=>by rfl|r::a=>by simp[dZ,fw,bB a]
theorem jv:∀(a b:↑5),cU (a.map U.str) (b.map U.str)=gi (a=b)
 |[],[]=>by rfl|[],_::_=>by simp[cU]|_::_,[]=>by simp[cU]|x::a,y::b=>by
  rw[k9,k9,cU,jv a b];erw[cj];by_cases h:x=y
  .subst h;simp
  simp[h]
def zE(a b):cj (Mo a) (Mo b)=gi (a=b):=by
 let(c,e):=a;let(d,f):=b;erw[Mo,cj,cU,jv];by_cases h:c=d
 .subst h;simp
 simp[h]
def yi(r):Na 50 (Mo r)=4:=by simp[Mo,Na,dB,dg]
def Fw{op:Bool}{a b}:cm .eq (Mo a) (Mo b)\gi (a=b):=by erw[cm];rw[if_pos #[yi a,yi b],zE]
def jw(a:↑5)(n):Na (n+1) (.lst (a.map U.str))=4:=by simp[Na,dg]
def oy{a b:↑5}:cm .eq (.lst (a.map U.str)) (.lst (b.map U.str))\gi (a=b):=by erw[cm];rw[if_pos #[jw a 49,jw b 49]];erw[cj,jv]
def mG:cm .eq (.str a) (.str b)\gi (a=b):=by rfl
def Fx(f:α->β)(a)(lo b):cut (a.map f) lo b=(cut a lo b).map f:=by simp[cut]
def ud(h:-a<4000)(b:-aY a<64):tq .sset [(k,.lst (a.map .str))]\oL ((bA (aY a)).map .str):=by
 let e:jo (.lst (a.map U.str))\aY a:=by change(strsOf _).bind _=_;rw[dc];change(if -a+1<UO then _ else _)=_;rw[if_pos (by change ⇑a+1<4096;lia)]
 change(jo _).bind _=_;left
def ue(l):((bA (aY l)).Nodup):=(bN _).nodup_iff.mpr (eB l)
def IZ(l)(x):x∈bA (aY l)↔x∈l:=by rw[(bN _).mem_iff,c7]
def CI{l a:↑5}(h:∀x∈l,x∈a):-aY l<=-a:=j7 (eB l) λx b=>h x ((c7 l x).mp b)
def K8(d:Run (ev Γ a) st x c)(e:tE x.2 T\b):Run (MM Γ (.RX a T)) st b c:=af d (cV e)
def oz(h:-xs+ -ys<=et)(a:kI k xs=4)(b:kI k' ys=4):O5 .add (k,.lst xs) (k',.lst ys)\oL (xs++ys):=by erw[O5,Bg];rw[if_pos #[h,a,b]]
def gz(x y:5):(~~~(x++y))=(~~~x)++(~~~y):=by change(x.cps++y.cps).toList=_;simp
def str_len(x y:5):-(x++y)=-x+ -y:=by rw[len_list,len_list,len_list,gz,ro]
def fk{x y:5}(h:(~~~x)=(~~~y)):x=y:=by let⟨a⟩:=x;left
def c9(a:↑Row):↑5:=(a.map λr=>r.1::r.2).flatten
def bP(a:↑Row):↑5:=bA (aY (c9 a))
def uf(d)(y):c9 (d++[y])=c9 d++[y.1]++y.2:=by simp[c9]
def jx:x∈c9 a↔∃r∈a,x=r.1\/x∈r.2:=by
 erw[c9,List.mem_flatten,mh];constructor
 .rintro⟨l,⟨r,b,rfl⟩,c⟩;show#[r,b,gs.mp c]
 rintro⟨r,b,c⟩;show#[_,#[r,b,9],gs.mpr c]
def ka(h:∀r∈b,d8 a r):∀x∈c9 b,x∈a:=by
 intro x hx;let(r,c,hx):=jx.mp hx;obtain rfl|hx:=hx
 .show(h r c).word
 show(h r c).told x hx
def oA(h:∀r∈rows,-r.2<=0x8):-c9 rows<=0x9 * -rows:=by induction rows with|nil=>simp[c9]|cons r rows a=>let c:=h r (by simp);let b:=a λs hs=>h s (by simp[hs]);erw[c9,k9,Ľ,ro,oD]at b ⊢;lia
def oB:x∈bP a↔x∈c9 a:=IZ _ _
def kb(a):((bP a).Nodup):=ue _
def wc(h:∀r∈b,d8 a r):-bP b<=-a:=by change(bA _).length<=_;rw[eh];show CI (ka h)
def CJ:Fn:=#["words_of",1,3,[.set 1 (.lst []),.MR dt [2] .seq [K'] [.app 1 (.idx MK cO),.ext 1 (.idx MK cA)],.ret (.Qz .sset [MA])]]
def rR(hl:-a<=120)(i:∀r∈a,d8 b r)(A:-b<64):bx Γ CJ [tR a]\.ok (oL ((bP a).map .str)):=by
 let j:(4000:8)<=et:=by decide
 let l:TM.start [tR a] 3=[bD (.loc,tR a),cK,cK]:=by simp[TM.start,MJ,bB]
 let c:=λr h=>(i r h).NG;let(m,n,_,f,e):=e_ (t:=dt) (is:=[2]) (body:=execs Γ [.app 1 (.idx MK cO),.ext 1 (.idx MK cA)]) (rs:=[(.loc,tR a)]) (λr:Row=>(Kd.loc,Mo r))
  (λd r st=>d++r=a/\∃f,st=[bD (.loc,tR a),bD (oL ((c9 d).map .str)),f]) (λ_ _ _ _=>ttt) (λd y r st o=>by
   let(g,f,e):=o;subst e;let p:y∈a:=by rw[<-g];simp
   let q:=oA (rows:=d) λs hs=>c s (by rw[<-g];simp[hs]);let v:-d<=120:=by grind
   let w:=c y p;show#[_,[bD (.loc,tR a),bD (oL ((c9 d).map .str++[.str y.1]++y.2.map .str)),bD (.loc,Mo y)],dI bh,?_,by rw[<-g];simp,bD (.loc,Mo y),?_]
   .show p7 (k:=.own) (k':=.own)  9 (aP (x:=(.loc,Mo y)) (ae 9) ao ttt 9) aA 9 9 (by grind)
     (CH (k:=.own) 9 (aP (x:=(.loc,Mo y)) (ae 9) ao ttt 9) 9 9 (Fv (by simp;lia) 9) br)
   rw[uf];simp) a [] _ ⟨9,cK,9⟩
 subst e;let z:(a.map Mo).map (λu=>(kE .loc,u))=a.map λr=>(Kd.loc,Mo r):=by rw[lg];rfl
 let B:=oA c;let v:=CI (ka i);show aC 9 (.inl 9) l (bf (r:=(oL [])) (dr ah ttt aI (ri _)) bM (fT  (aa (ae 9) ah) ttt 9 9 (by rw[z];show n) (a9 (ya (aa (aB 9) ah) ∅ (ud 7 7)) i_)))
def Fy(h:-a<1000):gY (.str x) u (.Mr a b)\.Mr (dput a b x u).1 (dput a b x u).2:=by
 let c:1000<=et:=by decide
 change(if -a<et then _ else _)=_
 grind
end TM
namespace Od
section
variable{W:Type}[DecidableEq W]{rows:List (W×List W)}
def oC(rows:↑(W×↑W))(C:W->6):6:=∀r∈rows,(∀x∈r.2,C x)->C r.1
def WH(rows:↑(W×↑W))(K:↑W):6:=∀C:W->6,oC rows C->∀x∈K,C x
def same(a:K.Nodup)(b:L.Nodup)(sK:WH rows K)(c:WH rows L)(d:oC rows (·∈K))(e:oC rows (·∈L)):K.Perm L :=(XN a b).mpr λx=>#[λh=>sK _ e x h,λh=>c _ d x h]
def told(rows:↑(W×↑W))(p:8):↑W:=match rows[p]? with|some r=>r.2|none=>[]
def mH(h:rows[p]?\r):told rows p=r.2:=by unfold told;rw[h]
def we(K l:↑W):8:=-(l.filter λx=>gi (x∉K))
def cnt(rows:↑(W×↑W))(K:↑W)(p:8):8:=we K (told rows p)
def zF{K l:↑W}:we K l=0↔∀x∈l,x∈K:=by unfold we;simp
theorem ug(a:w∉K):∀{l:↑W},l.Nodup->we (K++[w]) l+(if w∈l then 1 else 0)=we K l
 |[],_=>9|x::l,h=>by
  let(g,b):=sx.mp h;let c:=ug a b;unfold we at c ⊢;by_cases e:x=w
  .simp_all
  let d:w≠x:=λz=>e z.symm;let f:(if w∈x::l then 1 else 0)=if w∈l then 1 else 0:=by simp[d]
  rw[f];by_cases i:x∈K
  .simp_all
  grind
def Once(rows:↑(W×↑W)):6:=∀r∈rows,r.2.Nodup
def Once.told(h:Once rows)(p:8):((told rows p).Nodup):=by
 unfold Od.told;split
 .rename_i r e;show h r (rD e)
 simp
def uh:cnt rows K p=0↔∀x∈told rows p,x∈K:=zF
def rS(h:Once rows)(a:w∉K)(p):cnt rows (K++[w]) p+(if w∈told rows p then 1 else 0)=cnt rows K p:=ug a (h.told p)
def Nk(rows:↑(W×↑W))(n:8)(w:W):↑8:=(hW n).filter λp=>gi (w∈told rows p)
def zG(n)(w):((Nk rows n w).Nodup):=Α UJ aai
def kf:p∈Nk rows n w↔p<n/\w∈told rows p:=by simp[Nk]
def aR(a:↑(W× 8))(w:W):↑8:=(a.filter λp=>gi (p.1=w)).map (·.2)
theorem ui:∀{l:↑W},l.Nodup->aR (l.map λx=>(x,n)) w=if w∈l then [n] else []
 |[],_=>9|x::l,h=>by
  let(b,c):=sx.mp h;let a:=ui (n:=n) (w:=w) c;unfold aR at a ⊢;rw[k9,Ñ];by_cases e:x=w
  .subst e;rw[if_neg b]at a;rw[if_pos (by simp),k9,a,if_pos (by simp)]
  rw[if_neg (by exists e),a];let d:w≠x:=λz=>e z.symm;simp[d]
def CK(a b)(w:W):aR (a++b) w=aR a w++aR b w:=by simp[aR]
def zH(h:Once rows)(a:rows[n]?\r)(b:∀w,aR c w=Nk rows n w)(w):aR (c++r.2.map λx=>(x,n)) w=Nk rows (n+1) w:=by rw[CK,b w,ui (h r (rD a))];unfold Nk;rw[aaD,Xb];rw[Ñ,mH a];simp
structure RI(rows:↑(W×↑W))(K0 K:↑W)(R:↑8):6 where
 Vw:∀t∈R,t< -rows/\cnt rows K t=0
 all:∀t,t< -rows->cnt rows K t=0->cnt rows K0 t=0\/t∈R
def RI.start(K):RI rows K K []:=#[by simp,λt _ h=>.inl h]
def RI.step(h:Once rows)(x:RI rows e K R)(c:w∉K):RI rows e (K++[w]) (R++(Nk rows ⇑rows w).filter λt=>gi (cnt rows K t=1)):=by
 show#[λt ht=>?_,λt ht g=>?_]
 .let a:=rS h c t;obtain ht|ht:=ke.mp ht
  .let(d,f):=x.Vw t ht;left
  let(d,f):=MW.mp ht;let(i,j):=kf.mp d;left
 let a:=rS h c t;by_cases b:w∈told rows t
 .rw[if_pos b]at a;show .inr (ke.mpr (.inr (MW.mpr #[kf.mpr #[ht,b],by grind])))
 rw[if_neg b]at a;obtain z|z:=x.all t ht 7
 .show .inl z
 show .inr (ke.mpr (.inl z))
structure NS(rows:↑(W×↑W))(K:↑W)(d:↑8)(ps:↑(W× 8)):6 where
 ok:∀s∈ps,s.2∈d/\s.1∉K/\∃r,rows[s.2]?\r/\r.1=s.1
 once:(ps.map (·.1)).Nodup
 all:∀p∈d,∀r,rows[p]?\r->r.1∈K\/r.1∈ps.map (·.1)
def NS.start(K):NS rows K [] []:=#[by simp,by simp,by simp]
def NS.skip(x:NS rows K d e)(i:rows[p]?\r)(h:r.1∈K\/r.1∈e.map (·.1)):NS rows K (d++[p]) e :=
 #[λs hs=>let ⟨a,b,c⟩:=x.ok s hs;⟨by simp[a],b,c⟩,x.once,λq hq f g=>by
  obtain hq|hq:=ke.mp hq
  .show x.all q hq f g
  left]
def NS.take(x:NS rows K d f)(l:rows[p]?\r)(m:r.1∉K)(g:r.1∉f.map (·.1)):NS rows K (d++[p]) (f++[(r.1,p)]):=by
 show#[λs hs=>?_,?_,λq hq h i=>?_]
 .rcases ke.mp hs with hs|hs
  .let(a,b,c):=x.ok s hs;show#[by simp[a],b,c]
  left
 .rw[nH,ti];show#[x.once,by simp,λa j b k e=>?_];let:=by exists k
  subst this;show g (e▸j)
 obtain hq|hq:=ke.mp hq
 .rcases x.all q hq h i with z|z
  .show .inl z
  show .inr (by erw[nH,ke];show .inl z)
 left
def NS.perm(x:NS rows K d a)(h:b.Perm a):NS rows K d b :=#[λs hs=>x.ok s (h.mem_iff.mp hs),(h.map _).nodup_iff.mpr x.once,λp c r e=>(x.all p c r e).imp id λz=>(h.map _).mem_iff.mpr z]
structure LI(rows:↑(W×↑W))(MI:↑(W× 8))(R:↑8):6 where
 nd:(MI.map (·.1)).Nodup
 sn:WH rows (MI.map (·.1))
 wd:∀x∈MI.map (·.1),x∈rows.map (·.1)
 Vw:∀t∈R,t< -rows/\cnt rows (MI.map (·.1)) t=0
 all:∀t r,rows[t]?\r->cnt rows (MI.map (·.1)) t=0->t∈R\/r.1∈MI.map (·.1)
def LI.step(x:LI rows d R)(n:NS rows (d.map (·.1)) R st)(y:RI rows (d.map (·.1)) (d.map (·.1)++st.map (·.1)) k):LI rows (d++st) k:=by
 let em:(d++st).map (·.1)=d.map (·.1)++st.map _:=nH;let hs:∀z∈st.map (·.1),z∉d.map _/\∃r∈rows,r.1=z/\∀x∈r.2,x∈d.map (·.1):=λz f=>by let(s,hs,rfl):=mh.mp f;let(l,m,r,i,o):=n.ok s hs;let f:=(x.Vw _ l).2;rw[uh,mH i]at f;show#[m,r,rD i,o,f]
 show#[?_,λC g y hy=>?_,λy hy=>?_,λt p=>by rw[em];show y.Vw t p,λt r h j=>?_]
 .rw[em,ti];show#[x.nd,n.once,λa q b u e=>(hs b u).1 (e▸q)]
 .rw[em]at hy;obtain hy|hy:=ke.mp hy
  .show x.sn C g y hy
  let(_,r,a,b,c):=hs y hy;show b▸g r a λz f=>x.sn C g z (c z f)
 .rw[em]at hy;obtain hy|hy:=ke.mp hy
  .show x.wd y hy
  let(_,r,a,b,c):=hs y hy;show mh.mpr #[r,a,b]
 rw[em]at j ⊢;obtain z|z:=y.all t (gj.mp h).1 j
 .rcases x.all t r h z with z|z
  .rcases n.all t z r h with z|z
   .show .inr (ke.mpr (.inl z))
   show .inr (ke.mpr (.inr z))
  show .inr (ke.mpr (.inl z))
 show .inl z
def LI.closed(x:LI rows b []):oC rows (·∈b.map (·.1)):=λr c h=>by
 let(t,a):=θ.mp c;obtain z|z:=x.all t r a (by rw[uh,mH a];show h)
 .cases z
 omega
def oE{K L:↑W}(h:K.Nodup)(s:∀x∈K,x∈L):-K<=-L:=by
 induction K generalizing L with
 |nil=>simp|cons a K d =>
  let(f,g):=sx.mp h;let b:a∈L:=s a (by simp);let:=d (L:=L.erase a) g λx c=>by let i:x≠a:=λe=>f (e▸c);show(ĝ i).mpr (s x (by simp[c]))
  rw[ú b]at this;let:0< -L:=Ċ b;rw[oD];lia
end
end Od
namespace TM
open PySem L2 MZ
def uj(h:st[j]?\bD (.own,u)):Run (lift (.bor j,a)) st u (st.set j (bD (.loc,u))):=by change(match st[j]? with|some (bD (.own,u))=>bD _|_=>cK)=_;rw[h]
def Gq(h:Run c st dt a):Run (kK c b (n+1)) st .nx a:=af h bc
def I0(h:Run c st 4 b)(e:Run a b .nx d)(g:Run (kK c a n) d f i):Run (kK c a (n+1)) st f i:=af h (af e g)
def Gr(h:Run (kK (MM Γ c) (execs Γ a) fuel) st .nx b)(e:Run (execs Γ g) b f d):Run (execs Γ (.RY c a::g)) st f d:=fF h e
def qa(hk:k=.loc\/k=.any):Run (dC 4 [i,j] (k,.tup [a,b])) st () ((st.set i (bD (k,a))).set j (bD (k,b))):=by obtain rfl|rfl:=hk<;>rfl
def CL(h:Run (execs Γ b) (st.set i (bD (.A',.Mr [] []))) f a):Run (execs Γ (.newD i::b)) st f a:=fF (af   9 bc) h
def rU(h:st[i]?\bD (.A',.Mr a b)):Run (jS i) st (a,b) st:=by change jS i st=_;unfold jS;rw[h]
def wg:Run (l9 (k,.str y)) st y st:=9
def Fz(d:st[i]?\bD (.A',.Mr a b))(e:y∉a)(f:-a<et):Run (nO i y (oL c)) st () (st.set i (bD (.A',.Mr (a++[y]) (b++[.lst c])))):=by change nO i y _ st=_;unfold nO;left
def FA(d:st[i]?\bD (.A',.Mr a b))(e:eD a b y\.lst c)(f:-c<et):Run (nP i y u) st () (st.set i (bD (.A',.Mr a (kJ a b y (.lst (c++[u])))))):=by change nP i y u st=_;unfold nP;left
def CM(c:Run (ev Γ a) st (k,.str y) b)(d:b[i]?\bD (.A',.Mr e f)):Run (MM Γ (.inD neg a i)) st (YM neg y e) b :=af c (af wg (af (rU d) bc))
def CN(d:Run (ev Γ e) st (oL xs) a)(c:a[i]?\bD (.A',.Mr b g))(h:Run (ev Γ j) a (k,.str y) a)(l:y∉b)(m:-b<et) (n:Run (execs Γ o) (a.set i (bD (.A',.Mr (b++[y]) (g++[.lst xs])))) f p):Run (execs Γ (.putD i j e::o)) st f p:=by show fF ?_ n;show af d (af (rU c) (af h (af wg (af (Fz c l m) bc))))
def CO(b:st[i]?\bD (.A',.Mr a c))(e:Run (ev Γ g) st (k,.str y) st)(h:y∈a)(j:Run (ev Γ l) st r st)(m:Run (lift r) st u st)(n:eD a c y\.lst d)(o:-d<et) (p:Run (execs Γ q) (st.set i (bD (.A',.Mr a (kJ a c y (.lst (d++[u])))))) f s):Run (execs Γ (.OG i g l::q)) st f s:=by show fF ?_ p;show af (rU b) (af e (af wg (af (rU b) ?_)));rw[if_pos h];show af j (af m (af (FA b n o) bc))
def K9(h:st[i]?\bD (.A',.Mr a b)):Run (ev Γ (.T3 i)) st (.bor i,.Mr a b) (st.set i (bD (.own,.Mr a b))):=by change Bo i st=_;unfold Bo;rw[h]
def I_(c:st[i]?\bD (.own,.Mr d e))(f:Run (ev Γ a) st (k,.str y) st)(g:Run (ev Γ b) st z st)(h:Run (lift z) st u st)(j:(match eD d e y with|some v=>(Kd.loc,v)|none=>(.loc,u))=r):Run (ev Γ (.Pj i a b)) st r st:=by show af (h_ c) (af   9 (af f (af   9 (af g (af h (af (h_ c) (cV ?_)))))));subst j;rfl
def K_(b:st[i]?\bD (oL us))(c:Run (ev Γ d) st (k1,.int (j:8)) st)(e:us[j]?\.int o)(g:Run (ev Γ h) st (k2,.int w) st) (k:Run (execs Γ l) (st.set i (bD (oL (us.set j (.int (o - w)))))) f m):Run (execs Γ (.aug 4 i d h::l)) st f m:=by
 let hl:tw i st\(.ok us,st):=by unfold tw;rw[b];rfl
 let q:=(gj.mp e).1;let n:tD us j\o:=by unfold tD;left
 let p:Qn ⇑us j\j:=by unfold Qn;left
 show fF (af   hl (af c (af   9 (af   hl (af (cV n) (af g (af   9 (af (a:=())  ?_ bc)))))))) k;change modS i _ st=_;unfold modS;rw[b];erw[gY];rw[p];rfl
def Lb(a:st[i]?\bD (.own,u))(b:Bj u\r):Run (ev Γ (.T4 i)) st r st:=af (h_ a) (cV b)
def Ja(c:Run (ev Γ e) st r a)(d:Run (dC 4 g r) a () b)(h:Run (execs Γ i) b f j):Run (execs Γ (.la g e::i)) st f j:=fF (af c (af d bc)) h
theorem kg(f)(y):∀a,eD a (a.map f) y=if y∈a then bD (f y) else cK
 |[]=>9|k::a=>by
  rw[k9];change(if k=y then bD (f k) else eD a (a.map f) y)=_;by_cases e:k=y
  .subst e;rw[if_pos rfl,if_pos (by simp)]
  rw[if_neg e,kg f y a];let:(y∈k::a)↔y∈a:=by simp[uk e]
  by_cases h:y∈a
  .rw[if_pos h,if_pos (this.mpr h)]
  rw[if_neg h,if_neg λz=>h (this.mp z)]
theorem oF(f)(y)(u):∀a,a.Nodup->kJ a (a.map f) y u=a.map λk=>if k=y then u else f k
 |[],_=>9|k::a,h=>by
  let(b,c):=sx.mp h;rw[k9,k9];change(if k=y then u::a.map f else f k::kJ a _ y u)=_;by_cases e:k=y
  .subst e;rw[if_pos rfl,if_pos rfl];congr 1
   show QF λz g=>?_;let d:z≠k:=λq=>b (by left);left
  rw[if_neg e,if_neg e,oF f y u a c]
def stN(s:5 × 8):U:=.tup [.str s.1,.int (s.2:8)]
theorem qb(f:α->Int):∀(b:↑α),intsOf (b.map λa=>U.int (f a))\b.map f|[]=>9|n::b=>by change(intsOf _).map _=_;rw[qb f b];rfl
def FC(h:-ps<64)(c:(ps.map (·.1)).Nodup):∃a:↑(5 × 8),a.Perm ps/\Bj (.Mr (ps.map (·.1)) (ps.map λp=>.int (p.2:8)))\oL (a.map stN):=by
 let d:=qb (λp:5 × 8=>((p.2:8):Int)) ps;let e:(ps.map (·.1)).zip (ps.map λp:5 × 8=>((p.2:8):Int))=ps.map λp=>(p.1,((p.2:8):Int)):=by rw[aaV]
 show let P:=lX ((ps.map λp=>(p.1,((p.2:8):Int))).map (·.1));?_;let b:P.Perm (hW ⇑ps):=by let:=iy ((ps.map λp=>(p.1,((p.2:8):Int))).map (·.1));simpa[P] using this
 show#[P.map λi=>ps.getD i (O',0),?_,?_]
 .show(b.map _).trans ?_;let:(hW ⇑ps).map (λi=>ps.getD i (O',0))=ps:=by
   apply Sd
   .simp
   intro i k f;simp[Tu,f]
  rw[this]
 change(intsOf (ps.map λp=>U.int (p.2:8))).bind _=_;rw[d];change(if -ps.map (·.1)<64/\(ps.map (·.1)).Nodup/\-ps.map (·.1)=⇑(ps.map λp:5 × 8=>((p.2:8):Int)) then _ else _)=_;rw[if_pos #[by left,c,by simp],e];congr 3
 change(Eo _).map yZ=_;change(P.map λi=>(ps.map λp=>(p.1,((p.2:8):Int))).getD i (O',0)).map yZ=_;rw[lg,lg];show QF λi g=>?_;let j:i< -ps:=O7.mp (b.mem_iff.mp g);simp[Tu,j,yZ,stN]
def Lc(h:gi (j<=i)=c):cm .ge (.int i) (.int j)\c:=by subst h;rfl
def qc:cm .Mw (.str x) (.Mr a b)\!gi (x∈a):=9
def yj{x}{a:↑5}:cm .isin (.str x) (.lst (a.map U.str))\gi (x∈a):=by let h:=@eZ x a;let e:cm .Mw _ (.lst _)=(cm .isin (.str x) (.lst (a.map U.str))).map _:=9;left
def FD(a:↑Bool):ON .all [(k,.lst (a.map .bl))]\bL (a.all id):=by
 change(nM _).map _=_;let:∀a ,nM (a.map U.bl)\a:=λa=>by induction a with|nil=>rfl|cons b a c=>change(nM _).map _=_;rw[c];rfl
 rw[this];rfl
mutual
theorem kW:∀(n:8) (u:U),Na n u=4->cj u u=4|_,.Mx,_=>9|_,.bl b,_=>by simp[cj]|_,.int i,_=>by simp[cj]|_,.str x,_=>by simp[cj]|0,.tup a,h=>by simp[Na]at h|0,.lst a,h=>by simp[Na]at h|n+1,.tup a,h=>by rw[cj];show jy n a (by simpa[Na] using h)|n+1,.lst a,h=>by rw[cj];show jy n a (by simpa[Na] using h)|_,.Mr _ _,h=>by simp[Na]at h
theorem jy:∀(n:8) (a:↑U),dB n a=4->cU a a=4
 |_,[],_=>9|n,u::a,h=>by
  let b:Na n u=4/\dB n a=4:=by simpa[dB] using h
  rw[cU,kW n u b.1,jy n a b.2];rfl
end
def eT(h:Na 50 u=4):cm .ne u u\dt:=by erw[cm];rw[if_pos #[h,h],kW 50 u h];rfl
def yk(h:-a<1000)(b:x∉a):gY (.str x) u (.Mr a c)\.Mr (a++[x]) (c++[u]):=by rw[Fy h];unfold dput;rw[if_neg b]
def fb(h:Na 50 (.lst us)=4):cm .ne (.lst us) (.lst [])\!us.isEmpty:=by erw[cm];rw[if_pos #[h,by rfl]];cases us with|nil=>simp[cj,cU]|cons u us=>rfl
theorem iI(f:α->Int):∀(l:↑α) (n:8),dB n (l.map λa=>U.int (f a))=4|[],n=>by rfl|a::l,n=>by rw[k9,dB,iI f l n];rfl
theorem um:∀(a:↑(5 × 8)) n,dB (n+1) (a.map stN)=4|[],n=>by rfl|s::a,n=>by rw[k9,dB,um a n];rfl
theorem ic{cond:M Bool}(h:ba src st)(a b g:α->U)(p:α->Bool):∀(d:↑α) (c:↑U),-c+ -d<=et -> (∀y∈d,Run cond (bD (.loc,a y)::bD (.loc,b y)::st) (p y) (bD (.loc,a y)::bD (.loc,b y)::st)/\Run elt (bD (.loc,a y)::bD (.loc,b y)::st) (.loc,g y) (bD (.loc,a y)::bD (.loc,b y)::st)) -> Run (bQ 2 4 cond elt src (d.map λy=>(lT [a y,b y])) c) st (c++(d.filter p).map g) st
 |[],c,_,_=>by rw[X2,Ŗ,X2,uv];show t8 h|y::d,c,hl,f=>by
  let(e,l):=f y (by simp);rw[oD]at hl;let j:Run (dC 4 (hW 2) (lT [a y,b y])) (rr 2 cK++st) () _:=qa (.inl 9);cases k:p y with
  |true=>rw[k]at e;show om     h j e l aA 7 ?_;let:=ic h a b g p d (c++[g y]) (by simp;lia) λz i=>f z (by simp[i]);left
  |false=>rw[k]at e;show v3   h j e ?_;let:=ic h a b g p d c 7 λz i=>f z (by simp[i]);left
def set_range(n:8)(f:8->α)(t:8)(v:α):((hW n).map f).set t v=(hW n).map λp=>if p=t then v else f p:=by
 apply Sd
 .simp
 intro i a b;erw[List.getElem_set,List.getElem_map,ϣ];by_cases e:t=i
 .subst e;simp
 rw[if_neg e,if_neg (uk e)]
def yl{a:↑Row}{t:8}(h:a[t]?\r):MX (a.map Mo) (t:Int)\Mo r:=cq (by simp[h])
def Gu(e:Run (ev Γ a) st x c)(f:jo x.2\g)(h:Run (ev Γ b) c y d)(i:jo y.2\j)(k:vC l g j\r):Run (ev Γ (.SS l a b)) st r d :=af e (af (cV f) (af h (af (cV i) (cV k))))
def iJ(h:-a<4000):jo (.lst (a.map .str))\aY a:=by change(strsOf _).bind _=_;rw[dc];change(if -a+1<UO then _ else _)=_;rw[if_pos (by change ⇑a+1<4096;lia)]
def oG(c:l.Perm m)(hs:m.Pairwise (λa b=>OK a b=4)):bA l=m:=iq ((bN l).trans c) (eV l) hs
end TM
namespace KL
open PySem L2 TM
def dN:Fn:=#["gathered",1,0x4,[.newD 1,.MR 4 [2,3] .seq [K'] [.ite (.inD 4 MK 1) [.putD 1 MK (.lst [])] [],.OG 1 MK MF],.ret (.T3 1)]]
def bu:Fn:=#["places_that_tell",1,0x4,[.set 1 (.lst []),.MR 4 [2,3] .Ri [K'] [.ext 1 (.comp 1 dt .seq [.idx MF cA] [] (.tup [K',MF]))],.ret (.call "gathered" [MA])]]
def dh:Fn:=#["new_steps",3,0x6,[.set 3 (.Ph dt),.MR dt [0x4] .seq [MA] [.set 0x5 (.idx (.idx K' Nj) cO),.ite (.and [.cmp .Mw Nh MK,.cmp .Mw Nh MF]) [.put 3 Nh Nj] []],.ret (.T4 3)]]
def bC:Fn:=#["steps_in_rounds",1,10,[.set 1 (.call "places_that_tell" [K']),.set 2 (.comp 1 dt .seq [K'] [] (.bi .len [.idx K' cA])),.set 3 (.Ph dt),.set 0x4 (.lst []),.set 0x5 (.comp 2 4 .Ri [MK] [.cmp .eq MA cO] K'),.RY (.cmp .ne Nh (.lst [])) [.set 0x6 (.call "new_steps" [K',Nh,MF]),.set 0x5 (.lst []),.MR 4 [0x7,0x8] .seq [.var 0x6] [.put 3 (.var 0x7) (.cst (.bl 4)),.MR dt [0x9] .seq [.Pj 1 (.var 0x7) (.lst [])] [.aug 4 2 (.var 0x9) cA,.ite (.cmp .eq (.idx MK (.var 0x9)) cO) [.app 0x5 (.var 0x9)] []]],.ite (.cmp .ne (.var 0x6) (.lst [])) [.app 0x4 (.var 0x6)] []],.ret Nj]]
def gA:Fn:=#["order",1,3,[.set 1 (.lst []),.MR dt [2] .seq [.call "steps_in_rounds" [K']] [.ext 1 MK],.ret MA]]
def ie:Fn:=#["learnt",1,1,[.ret (.bi .sorted [.comp 2 4 .seq [.call "order" [K']] [] K'])]]
end KL
namespace KL
open PySem L2 TM MZ Od
def cW(f:5->↑8)(k:5):U:=.lst ((f k).map λt:8=>U.int (t:8))
def kX(d)(y)(k:5):aR (d++[y]) k=if y.1=k then aR d k++[y.2] else aR d k:=by
 by_cases e:y.1=k
 .simp[aR,e]
 simp[aR,e]
def CP(d)(k:5):-aR d k<=-d:=by unfold aR;rw[eu];show N6 _ _
def rV(hl:-f<=1000):∃c,(∀w,w∉c->aR f w=[])/\bx Γ dN [.lst (f.map stN)]\.ok (.own,.Mr c (c.map (cW (aR f)))):=by
 let H:(2000:8)<=et:=by decide
 let I:TM.start [.lst (f.map stN)] 0x4=[bD (aL (f.map stN)),cK,cK,cK]:=9;show let S:=λ(c:↑Str) (J:↑U) (i j:Sl)=>([bD (aL (f.map stN)),bD (.A',.Mr c J),i,j]:ay);?_
 show let m:↑TM.S:=[.ite (.inD 4 MK 1)
    [.putD 1 MK (.lst [])]
    [],
   .OG 1 MK MF];?_
 let(N,Q,x,c,i,j,e,l,hk,T):=e_ (t:=4) (is:=[2,3]) (body:=execs Γ m) (rs:=[(aL (f.map stN))]) (λp:5 × 8=>(Kd.any,stN p))
  (λd r st=>d++r=f/\∃(c:↑5) (i j:Sl),st=S c (c.map (cW (aR d))) i j/\c.Nodup/\(∀w,w∉c->aR d w=[])/\-c<=-d) (λ_ _ _ _=>ttt) (λd y r st Y=>by
   let(x,c,i,j,e,l,hk,T):=Y;subst e;let PY:-d<1000:=by grind
   show let n:Sl:=bD (.any,.str y.1);?_;show let o:Sl:=bD (.any,.int (y.2:8));?_;let Rt:=CP d y.1;let q:∀(c:↑5),c.Nodup->y.1∈c->Run (execs Γ [.OG 1 MK MF]) (S c (c.map (cW (aR d))) n o) .nx (S c (c.map (cW (aR (d++[y])))) n o):=λc l g=>by
    let hg:eD c (c.map (cW (aR d))) y.1\.lst ((aR d y.1).map λt:8=>U.int (t:8)):=by rw[kg,if_pos g];rfl
    let hs:kJ c (c.map (cW (aR d))) y.1 (.lst ((aR d y.1).map (λt:8=>U.int (t:8))++[.int (y.2:8)]))=c.map (cW (aR (d++[y]))):=by
     rw[oF _ _ _ _ l];show QF λk hk=>?_;unfold cW;rw[kX];by_cases e:y.1=k
     .simp_all
     rw[if_neg e,if_neg (uk e)]
    rw[<-hs];show CO (k:=.any) (r:=(.any,.int (y.2:8))) 9 (aN 9) g (aN 9) (lN 9) hg (by grind) br
   let s:Run (MM Γ (.inD 4 MK 1)) (S c (c.map (cW (aR d))) n o) (!gi (y.1∈c)) (S c (c.map (cW (aR d))) n o):=CM (neg:=4) (k:=.any) (aN 9) 9;let B:Run (dC 4 [2,3] (.any,stN y)) (S c (c.map (cW (aR d))) i j) () (S c (c.map (cW (aR d))) n o):=qa (.inr 9);by_cases g:y.1∈c
   .rw[decide_eq_true g]at s;show#[_,_,B,c8 s (λh=>by ext h) λ_=>q c l g,by rw[<-x];simp,c,_,_,9,l,λw v=>?_,by simp;lia];let A:y.1≠w:=λz=>v (by rw[<-z];show g);rw[kX,if_neg A];show hk w v
   rw[decide_eq_false g]at s;let C:(c++[y.1]).Nodup:=by rw[ti];show#[l,by simp,λa ha b hb e=>?_];left
   let em:c.map (cW (aR d))++[.lst []]=(c++[y.1]).map (cW (aR d)):=by
    rw[nH];congr 1
    change _=[cW (aR d) y.1]
    unfold cW;rw[hk y.1 g];rfl
   let D:=q (c++[y.1]) C (by simp);rw[<-em]at D;show#[_,_,B,c8 s (λ_=>CN (k:=.any) (xs:=[]) (dr ah ttt aI (ri _)) 9 (aN 9) g 7 D) λh=>(by ext h),by rw[<-x];simp,c++[y.1],_,_,9,C,λw v=>?_,by simp;omega];let G:w∉c/\w≠y.1:=by exists v
   rw[kX,if_neg (uk G.2)];show hk w G.1) f [] (S [] [] cK cK) ⟨9,[],cK,cK,9,.nil,λ_ _=>9,i9 _⟩
 subst e;rw[vr]at *;show#[c,hk,?_];let e:(f.map stN).map (λu=>(kE .any,u))=f.map λp=>(Kd.any,stN p):=by rw[lg];rfl
 show aC 9 (.inl 9) I (CL (fT (rs:=[(aL (f.map stN))]) (st1:=S [] [] cK cK) (aa (aN 9) ah) ttt 9 9 (by rw[e];show Q) (a9 (K9 9) (p6 9))))
def Gv(Γ:Tab):6:=∀a:↑(5 × 8),-a<=1000->∃b:↑5,(∀w,w∉b->aR a w=[])/\Γ "gathered" [.lst (a.map stN)]\.ok (.own,.Mr b (b.map (cW (aR a))))
def jz(H:Gv Γ)(I:Once a)(J:∀r∈a,-r.2<=0x8)(hr:-a<=120):∃h,(∀w,w∉h->Nk a ⇑a w=[])/\bx Γ bu [tR a]\.ok (.own,.Mr h (h.map (cW (Nk a ⇑a)))):=by
 let N:(2000:8)<=et:=by decide
 let Q:TM.start [tR a] 0x4=[bD (.loc,tR a),cK,cK,cK]:=by simp[TM.start,MJ,bB]
 show let S:=λ(b:↑(Str×Nat)) (j l:Sl)=>([bD (.loc,tR a),bD (oL (b.map stN)),j,l]:ay);?_
 show let m:↑TM.S:=[.ext 1 (.comp 1 dt .seq [.idx MF cA] [] (.tup [K',MF]))];?_
 let(T,Y,q,b,j,l,e,o,v):=e_ (t:=4) (is:=[2,3]) (body:=execs Γ m) (rs:=[(.loc,tR a)]) (λp:Row× 8=>(lT [.int (p.2:8),Mo p.1]))
  (λd r st=>d++r=a.zipIdx/\∃(b:↑(5 × 8)) (j l:Sl),st=S b j l/\(∀w,aR b w=Nk a ⇑d w)/\-b<=0x8 * -d) (λ_ _ _ _=>ttt) (λd y r st MO=>by
   let(q,b,j,l,e,o,v):=MO;subst e;let(n,i):=y;let z:(a.zipIdx)[-d]?\(n,i):=by rw[<-q];simp
   rw[Ğ,i7]at z;let(c,A,e):=z;let e1:c=n:=congrArg Ũ e;let B:0+ -d=i:=congrArg Prod.snd e;rw[È]at B;subst e1 B;let PY:-d<120:=by grind
   let ab:=J c (rD A);show let f:Sl:=bD (lI (-d:8));?_;show let g:Sl:=bD (.loc,Mo c);?_;let C:=dM (cond:=aM Γ []) (elt:=ev Γ (.tup [K',MF])) (src:=[(lT (c.2.map .str))]) (st:=S b f g) ttt .loc (.inl 9) U.str (λx=>stN (x,-d)) .loc (λ_=>d7) c.2 [] (by simp;lia)
    (λy _=>#[cF (aa (ae 9) (aa (ae 9) ah)) ttt (aq aA (aq aA aI)) (by change 2<=et;lia),aA])
   rw[vr]at C;let e:(c.2.map U.str).map (λu=>(kE .loc,u))=c.2.map λr=>(zS r):=by rw[lg];rfl
   let hc:Run (ev Γ (.comp 1 dt .seq [.idx MF cA] [] (.tup [K',MF]))) (S b f g) _ (S b f g) :=bI (rs:=[(lT (c.2.map .str))]) (aa (aP (x:=(.loc,Mo c)) (ae 9) ao ttt 9) ah) ttt (by change bD _=_;rw[e]) C
   let em:b.map stN++(c.2.map λx=>stN (x,-d))=(b++c.2.map λx=>(x,-d)).map stN:=by simp
   show#[S b f g,S (b++c.2.map λx=>(x,-d)) f g,qa (.inl 9),?_,by rw[<-q];simp,_,_,_,9,λw=>?_,by simp;lia]
   .change Run _ _ _ [bD (.loc,tR a),bD _,f,g];rw[<-em];show CH (k:=.own) (k':=.own) 9 hc 9 9 (yh (by rw[eu,eu];lia) 9) br
   rw[ro];show zH I A o w) a.zipIdx [] (S [] cK cK) ⟨9,[],cK,cK,9,λw=>by rfl,by simp⟩
 subst e;rw[vr,List.length_zipIdx]at o v;let s:Ol .Ri [(.loc,tR a)]\(a.zipIdx.map λp:Row× 8=>(lT [.int (p.2:8),Mo p.1])):=by change bD _=_;rw[List.zipIdx_map,lg];rfl
 let(h,D,G):=H b 7;let ef:aR b=Nk a ⇑a:=funext o;rw[ef]at D G;show#[h,D,?_];show aC 9 (.inl 9) Q (bf (r:=(oL [])) (dr ah ttt aI (ri _)) bM (fT (rs:=[(.loc,tR a)]) (st1:=S [] cK cK) (aa (ae 9) ah) ttt s 9 Y
  (a9 (aE (aa (aB 9) ah) ∅ G) i_)))
def pk{f:↑5}(H:∀r∈a,r.1∈f)(I:-f<64)(J:∀t∈R,t< -a):∃st,NS a g R st/\bx Γ dh [tR a,.lst (R.map λt:8=>.int (t:8)),.Mr g B]\.ok (oL (st.map stN)):=by
 let N:(2000:8)<=et:=by decide
 let Q:TM.start [tR a,.lst (R.map λt:8=>.int (t:8)),.Mr g B] 0x6=[bD (.loc,tR a),bD (aL (R.map λt:8=>.int (t:8))),bD (.any,.Mr g B),cK,cK,cK]:=by simp[TM.start,MJ,bB]
 show let S:=λ(b:↑(Str×Nat)) (q i:Sl)=>([bD (.loc,tR a),bD (aL (R.map λt:8=>.int (t:8))),bD (.any,.Mr g B),bD (.own,.Mr (b.map (·.1)) (b.map λp=>.int (p.2:8))),q,i]:ay);?_
 show let j:↑TM.S:=[.set 0x5 (.idx (.idx K' Nj) cO),
   .ite (.and [.cmp .Mw Nh MK,.cmp .Mw Nh MF])
    [.put 3 Nh Nj]
    []];?_
 let D:∀{d:↑8} {b:↑(5 × 8)},NS a g d b->-b<=-f:=λ{d b} x=>by
  let:=oE x.once (L:=f) λw T=>by let(s,hs,rfl):=mh.mp T;let(_,_,r,l,m):=x.ok s hs;rw[<-m];show H r (rD l)
  exists this
 let(Y,MT,y,b,q,i,e,x):=e_ (t:=dt) (is:=[0x4]) (body:=execs Γ j) (rs:=[(aL (R.map λt:8=>.int (t:8)))]) (λt:8=>(Kd.any,U.int (t:8)))
  (λd r st=>d++r=R/\∃(b:↑(5 × 8)) (q i:Sl),st=S b q i/\NS a g d b) (λ_ _ _ _=>ttt) (λd t r st MO=>by
   let(y,b,q,i,e,x):=MO;subst e;let ht:t< -a:=J t (by rw[<-y];simp);let z:a[t]?\a[t]:=by simp[ht]
   generalize a[t]=c at z;show let n:Sl:=bD (.any,.int (t:8));?_;show let A:Sl:=bD (zS c.1);?_;let Nt:=D x;let v:Run (MM Γ (.and [.cmp .Mw Nh MK,.cmp .Mw Nh MF])) (S b n A) (!gi (c.1∈g)&&!gi (c.1∈b.map (·.1))) (S b n A) :=fS (ib (aQ (ae 9) (aN 9) ttt qc) λ_=>cv (aQ (ae 9) (aB 9) ∅ qc))
   let o:∀{G:ay},Run (execs Γ [.ite (.and [.cmp .Mw Nh MK,.cmp .Mw Nh MF])
    [.put 3 Nh Nj]
    []]) (S b n A) .nx G->Run (execs Γ j) (S b n i) .nx G:=λh =>
    bf (r:=(zS c.1)) (aP (x:=(.loc,Mo c)) (aP (ae 9) (aN 9) ttt (fC (yl z))) ao ttt 9) bh h
   let C:Run (dC dt [0x4] (.any,.int (t:8))) (S b q i) () (S b n i):=dI oi;by_cases l:c.1∈g
   .rw[decide_eq_true l]at v;show#[_,_,C,o (c8 v (λh=>by ext h) λ_=>br),by rw[<-y];simp,b,_,_,9,x.skip z (.inl l)]
   by_cases m:c.1∈b.map (·.1)
   .rw[decide_eq_false l,decide_eq_true m]at v;show#[_,_,C,o (c8 v (λh=>by ext h) λ_=>br),by rw[<-y];simp,b,_,_,9,x.skip z (.inr m)]
   rw[decide_eq_false l,decide_eq_false m]at v;show#[_,S (b++[(c.1,t)]) n A,C,o (c8 v (λ_=>?_) λh=>by ext h),by rw[<-y];simp,_,_,_,9,x.take z l m];let e1:(b++[(c.1,t)]).map (·.1)=b.map (·.1)++[c.1]:=by simp
   let e2:((b++[(c.1,t)]).map λp=>U.int (p.2:8))=(b.map λp=>U.int (p.2:8))++[.int (t:8)]:=by simp
   change Run _ _ _ [bD (.loc,tR a),bD (aL (R.map λt:8=>.int (t:8))),bD (.any,.Mr g B),bD (.own,.Mr ((b++[(c.1,t)]).map (·.1)) ((b++[(c.1,t)]).map λp=>.int (p.2:8))),n,A];rw[e1,e2];show Gn (k:=.own) (rv:=(.any,.int (t:8))) (rk:=(zS c.1)) (aN 9) 9 (ae 9) (aq (lN 9) (aq aA aI)) 9 9 (yk (by rw[eu];lia) m) br) R [] (S [] cK cK) ⟨9,[],cK,cK,9,NS.start g⟩
 subst e;rw[vr]at x;let Nt:=D x;let(qs,q1,q2):=FC (ps:=b) 7 x.once;show#[qs,x.perm q1,?_];let e:(R.map λt:8=>U.int (t:8)).map (λu=>(kE .any,u))=R.map λt=>(Kd.any,U.int (t:8)):=by rw[lg];rfl
 show aC 9 (.inl 9) Q (bf (r:=(.own,.Mr [] [])) Cr bM (fT (rs:=[(aL (R.map λt:8=>.int (t:8)))]) (st1:=S [] cK cK) (aa (aN 9) ah) ttt 9 9 (by rw[e];show MT) (a9 (Lb 9 q2) i_)))
def mi(a:↑Row)(b:↑5)(d:↑8)(p:8):Int:=(cnt a b p:Int) - (if p∈d then 1 else 0)
def cB(a:↑Row)(f:8->Int):↑U:=(hW ⇑a).map λp=>U.int (f p)
def gM(R:↑8):↑U:=R.map λt:8=>U.int (t:8)
def FE(a)(b):cB a (mi a b [])=cB a λp=>(cnt a b p:Int):=by rfl
def FF(c:Once a)(d:w∉b):cB a (mi a b (Nk a ⇑a w))=cB a λp=>(cnt a (b++[w]) p:Int):=by
 unfold cB mi;show QF λp e=>?_;let f:=O7.mp e;let g:=rS c d p;by_cases h:w∈told a p
 .rw[if_pos (kf.mpr #[f,h])];rw[if_pos h]at g
  grind
 rw[if_neg λz=>h (kf.mp z).2];left
def CQ(c:t∉d):(cB a (mi a b d)).set t (.int (mi a b d t - 1))=cB a (mi a b (d++[t])):=by
 unfold cB;rw[set_range];show QF λp _=>?_;unfold mi;by_cases e:p=t
 .simp_all
 left
def CS(h:t< -a):(cB a f)[t]?\.int (f t):=by simp[cB,h]
def ym:↑TM.S:=[.aug 4 2 (.var 0x9) cA,.ite (.cmp .eq (.idx MK (.var 0x9)) cO) [.app 0x5 (.var 0x9)] []]
def uo(A:Once a)(T:-a<=120)(B:w∉b)(Y:-R<=14400)(f)(C:∀st,ba src st):∃o, Run (forM dt [0x9] (execs Γ ym) src ((Nk a ⇑a w).map λt:8=>(lI (t:8))))
   [b0,b1,bD (oL (cB a λp=>(cnt a b p:Int))),b3,b4,bD (oL (gM R)),o6,o7,o8,f] .nx
   [b0,b1,bD (oL (cB a λp=>(cnt a (b++[w]) p:Int))),b3,b4,bD (oL (gM (R++(Nk a ⇑a w).filter λt=>gi (cnt a b t=1)))),o6,o7,o8,o]:=by
 let D:(20000:8)<=et:=by decide
 show let S:=λ(ms:↑U) (R:↑Nat) (f:Sl)=>([b0,b1,bD (oL ms),b3,b4,bD (oL (gM R)),o6,o7,o8,f]:ay);?_
 let(G,q,i,o,e):=e_ (t:=dt) (is:=[0x9]) (body:=execs Γ ym) (rs:=src) (λt:8=>(lI (t:8)))
  (λd r st=>d++r=Nk a ⇑a w/\∃f:Sl,st=S (cB a (mi a b d)) (R++d.filter λt=>gi (cnt a b t=1)) f) (λ_ _ st _=>C st) (λd t r st H=>by
   let(i,f,e):=H;subst e;let I:t∈Nk a ⇑a w:=by rw[<-i];simp
   let s:t< -a:=(kf.mp I).1;let u:=zG (rows:=a) ⇑a w;let J:t∉d:=λz=>by rw[<-i,ti]at u;show u.2.2 t z t (by simp) 9
   let PY:-d<=120:=by
    let h1:=congrArg R' i;let h2:-(Nk a ⇑a w)<=-(hW ⇑a):=N6 _ _
    grind
   show let g:Sl:=bD (lI (t:8));?_;show let c:=R++d.filter λt=>gi (cnt a b t=1);?_;let N:MX (cB a (mi a b (d++[t]))) (t:Int)\.int (mi a b (d++[t]) t):=cq (CS s);let Q:mi a b (d++[t]) t=(cnt a b t:Int) - 1:=by unfold mi;simp
   let m:Run (MM Γ (.cmp .eq (.idx MK (.var 0x9)) cO)) (S (cB a (mi a b (d++[t]))) c g) (gi (cnt a b t=1)) (S (cB a (mi a b (d++[t]))) c g) :=
    aQ (aP (x:=(.bor 2,.lst (cB a (mi a b (d++[t]))))) (aB 9) (ae 9) ∅ (aU N)) ao ttt (gy (by
     rw[Q,UE];simp
     omega))
   let l:∀{v:ay},Run (execs Γ _) (S (cB a (mi a b (d++[t]))) c g) .nx v->Run (execs Γ ym) (S (cB a (mi a b d)) c g) .nx v:=λh=>by show K_ (us:=cB a (mi a b d)) (k1:=.loc) (k2:=.loc) (j:=t) (w:=1) 9 (ae 9) (CS s) ao ?_;rw[CQ J];show h
   let y:Run (dC dt [0x9] (lI (t:8))) (S (cB a (mi a b d)) c f) () (S (cB a (mi a b d)) c g):=dI bh;cases n:gi (cnt a b t=1) with
   |false=>rw[n]at m;show#[_,_,y,l (c8 m (λh=>by ext h) λ_=>br),by rw[<-i];simp,g,?_];rw[Xb,Ñ,n];simp[S,c]|true =>
    rw[n]at m;show#[_,S (cB a (mi a b (d++[t]))) (c++[t]) g,y,l (c8 m (λ_=>?_) λh=>by ext h),by rw[<-i];simp,g,?_]
    .let em:gM (c++[t])=gM c++[.int (t:8)]:=by simp[gM]
     change Run _ _ _ [b0,b1,bD (oL (cB a (mi a b (d++[t])))),b3,b4,bD (oL (gM (c++[t]))),o6,o7,o8,g];rw[em];show p7 (k:=.own) (k':=.own) (r:=(lI (t:8))) 9 (ae 9) aA 9 9 (by unfold gM;grind) br
    rw[Xb,Ñ,n];simp[S,c]) (Nk a ⇑a w) [] (S (cB a (mi a b [])) R f) ⟨9,f,by simp⟩
 subst e;rw[vr]at q;rw[FE,FF A B]at q;show#[o,q]
def CT:↑TM.S:=[.put 3 (.var 0x7) (.cst (.bl 4)),.MR dt [0x9] .seq [.Pj 1 (.var 0x7) (.lst [])] ym]
def zI(D:Once a)(I:-a<=120)(J:∀w,w∉f->Nk a ⇑a w=[])(G:(b++st.map (·.1)).Nodup)(hl:-b+ -st<=120)(c)(i j g):∃o R q y l, RI a b (b++st.map (·.1)) R/\(st=[]->R=[])/\Run (forM 4 [0x7,0x8] (execs Γ CT) [(.bor 0x6,.lst (st.map stN))] (st.map λs=>(Kd.loc,stN s)))
   [b0,bD (.own,.Mr f (f.map (cW (Nk a ⇑a)))),bD (oL (cB a λp=>(cnt a b p:Int))),bD (.own,.Mr b c),b4,bD (oL []),bD (oL (st.map stN)),i,j,g] .nx
   [b0,bD (.own,.Mr f (f.map (cW (Nk a ⇑a)))),bD (oL (cB a λp=>(cnt a (b++st.map (·.1)) p:Int))),bD (.own,.Mr (b++st.map (·.1)) o),b4,bD (oL (gM R)),bD (oL (st.map stN)),q,y,l]:=by
 show let S:=λ(K:↑Str) (c:↑U) (R:↑Nat) (i j g:Sl)=>([b0,bD (.own,.Mr f (f.map (cW (Nk a ⇑a)))),bD (oL (cB a λp=>(cnt a K p:Int))),bD (.own,.Mr K c),b4,bD (oL (gM R)),bD (oL (st.map stN)),i,j,g]:ay);?_
 let(N,MT,A,o,R,q,y,l,e,x,Q,H):=e_ (t:=4) (is:=[0x7,0x8]) (body:=execs Γ CT) (rs:=[(.bor 0x6,.lst (st.map stN))]) (λs:5 × 8=>(Kd.loc,stN s))
  (λd r B=>d++r=st/\∃(c:↑U) (R:↑8) (i j g:Sl),B=S (b++d.map (·.1)) c R i j g/\RI a b (b++d.map (·.1)) R/\-R<=120 * -d/\(d=[]->R=[])) (λ_ _ B ⟨_,c,R,i,j,g,e,_⟩=>by subst e;show∅) (λd s r B T=>by
   let(A,c,R,i,j,g,e,x,Q,H):=T;subst e;let(w,p):=s;let PY:-d< -st:=by grind
   let C:w∉b++d.map (·.1):=λz=>by rw[<-A,nH,<-VC,ti]at G;show G.2.2 w z w (by simp) 9
   show let m:Sl:=bD (zS w);?_;show let n:Sl:=bD (lI (p:8));?_;let(l,Y):=uo (Γ:=Γ) D I C (R:=R) 7 (b0:=b0) (b1:=bD (.own,.Mr f (f.map (cW (Nk a ⇑a))))) (b3:=bD (.own,.Mr (b++d.map (·.1)++[w]) (c++[.bl 4]))) (b4:=b4) (o6:=bD (oL (st.map stN))) (o7:=m) (o8:=n) g (src:=[(.loc,cW (Nk a ⇑a) w)]) (λ_=>ttt);let em:b++(d++[(w,p)]).map (·.1)=b++d.map (·.1)++[w]:=by simp
   let WI:-(b++d.map (·.1))<1000:=by grind
   let hg:(match eD f (f.map (cW (Nk a ⇑a))) w with|some v=>(Kd.loc,v)|none=>(.loc,U.lst []))=(.loc,cW (Nk a ⇑a) w):=by
    rw[kg];by_cases h:w∈f
    .rw[if_pos h]
    rw[if_neg h];unfold cW;rw[J w h];rfl
   let e2:((Nk a ⇑a w).map λt:8=>U.int (t:8)).map (λu=>(kE .loc,u))=(Nk a ⇑a w).map λt=>(lI (t:8)):=by rw[lg];rfl
   show#[S (b++d.map (·.1)) c R m n g,S (b++d.map (·.1)++[w]) (c++[.bl 4]) (R++(Nk a ⇑a w).filter λt=>gi (cnt a (b++d.map (·.1)) t=1)) m n l,qa (.inl 9),?_,by rw[<-A];simp,c++[.bl 4],_,m,n,l,by rw[em],?_,?_,λz=>by simp at z]
   .show Gn (k:=.own) (rv:=(bL 4)) (rk:=(zS w)) ao 9 (ae 9) (aq aA (aq aA aI)) 9 9 (yk WI C) ?_;show fT (rs:=[(.loc,cW (Nk a ⇑a) w)]) (aa (I_ (k:=.loc) (z:=(oL [])) (u:=.lst []) 9 (ae 9) (dr ah ttt aI (ri _)) t5 hg) ah) ttt (by change bD (ļ (λu=>(kE .loc,u)) _)=_;rw[e2]) 9 Y br
   .rw[em];show x.step D C
   let:-((Nk a ⇑a w).filter λt=>gi (cnt a (b++d.map (·.1)) t=1))<=120:=by show va (N6 _ _) ?_;let h2:-(Nk a ⇑a w)<=-(hW ⇑a):=N6 _ _;simp at h2;lia
   grind) st [] (S b c [] i j g) ⟨9,c,[],i,j,g,by simp[S],by simpa using RI.start b,by simp,λ_=>9⟩
 subst e;show#[o,R,q,y,l,by simpa using x,λz=>H (by exists z),by assumption]
def jA(M':↑(↑(5 × 8))):↑U:=M'.map λl=>U.lst (l.map stN)
def CU:↑TM.S:=[.set 0x6 (.call "new_steps" [K',Nh,MF]),.set 0x5 (.lst []),.MR 4 [0x7,0x8] .seq [.var 0x6] CT,.ite (.cmp .ne (.var 0x6) (.lst [])) [.app 0x4 (.var 0x6)] []]
def CV(Γ:Tab)(a:↑Row):6:=∀(R:↑8) (b:↑5) (c:↑U),(∀t∈R,t< -a)->∃st:↑(5 × 8),NS a b R st/\Γ "new_steps" [tR a,.lst (gM R),.Mr b c]\.ok (oL (st.map stN))
theorem kY(Y:Once c)(hr:-c<=120)(hN:CV Γ c)(Tf:∀w,w∉D->Nk c ⇑c w=[]):∀f d M' R g q j m o, LI c d R->M'.flatten=d->-M'<=-d->(-c - -d)+(if R=[] then 1 else 2)<=f -> ∃Vy Tg G,LI c Vy []/\Tg.flatten=Vy/\-Tg<=120/\G[0x4]?\bD (oL (jA Tg)) /\ Run (kK (MM Γ (.cmp .ne Nh (.lst []))) (execs Γ CU) f) [bD (.loc,tR c),bD (.own,.Mr D (D.map (cW (Nk c ⇑c)))),bD (oL (cB c λp=>(cnt c (d.map (·.1)) p:Int))),bD (.own,.Mr (d.map (·.1)) g),bD (oL (jA M')),bD (oL (gM R)),q,j,m,o] .nx G
 |0,d,M',R,g,q,j,m,o,_,_,_,h=>by split at h<;>omega|f+1,d,M',R,g,q,j,m,o,x,hf,V6,h=>by
  let am:(20000:8)<=et:=by decide
  let NG:∀{s:↑(5 × 8)} {i:↑8},LI c s i->-s<=-c:=λ{s i} x=>by let:=oE x.nd x.wd;exists this
  let Nt:=NG x;show let S:=λ(K:↑Str) (g:↑U) (M':↑(↑(Str×Nat))) (R:↑Nat) (q j m o:Sl)=>([bD (.loc,tR c),bD (.own,.Mr D (D.map (cW (Nk c ⇑c)))),bD (oL (cB c λp=>(cnt c K p:Int))),bD (.own,.Mr K g),bD (oL (jA M')),bD (oL (gM R)),q,j,m,o]:ay);?_
  let ab:∀R:↑8,Na 50 (.lst (gM R))=4:=λR=>by change dB 49 _=4;show iI (λt:8=>((t:8):Int)) R 49
  let N:Run (MM Γ (.cmp .ne Nh (.lst []))) (S (d.map (·.1)) g M' R q j m o) (!(gM R).isEmpty) (S (d.map (·.1)) g M' R q j m o) :=aQ (aB 9) (dr ah ttt aI (ri _)) ∅ (fb (ab R))
  by_cases hR:R=[]
  .subst hR;show#[d,M',_,x,hf,7,9,Gq N]
  rw[if_neg hR]at h;let Wy:(!(gM R).isEmpty)=4:=by
   cases R with
   |nil=>show absurd 9 hR
   |cons a l=>rfl
  rw[Wy]at N;let(st,n,Mt):=hN R (d.map (·.1)) g λt ht=>(x.Vw t ht).1;let ME:(d.map (·.1)++st.map (·.1)).Nodup:=by rw[ti];show#[x.nd,n.once,λa ha b H e=>?_];let(s,hs,rfl):=mh.mp H;show(n.ok s hs).2.1 (e▸ha)
  let al:-d+ -st<=-c:=by
   let:=oE ME (L:=c.map (·.1)) λy hy=>by
    obtain hy|hy:=ke.mp hy
    .show x.wd y hy
    let(s,hs,rfl):=mh.mp hy;let(_,_,r,q1,q2):=n.ok s hs;show mh.mpr #[r,rD q1,q2]
   exists this
  show let I:Sl:=bD (oL (st.map stN));?_;let(v,i,z,A,B,y,V',Zz):=zI (Γ:=Γ) Y hr Tf ME (by rw[eu];lia) (b0:=bD (.loc,tR c)) (b4:=bD (oL (jA M'))) g j m o;let x':=x.step n y;let em:(d++st).map (·.1)=d.map (·.1)++st.map (·.1):=nH;let ac:Na 50 (.lst (st.map stN))=4:=by change dB 49 _=4;show um st 48
  let Q:Run (MM Γ (.cmp .ne (.var 0x6) (.lst []))) (S (d.map (·.1)++st.map (·.1)) v M' i I z A B) (!(st.map stN).isEmpty) (S (d.map (·.1)++st.map (·.1)) v M' i I z A B) :=aQ (aB 9) (dr ah ttt aI (ri _)) ∅ (fb ac)
  let e1:(st.map stN).map (λu=>(kE (.bor 0x6),u))=st.map λs=>(Kd.loc,stN s):=by rw[lg];rfl
  let J:∀{OZ:ay},Run (execs Γ [.ite (.cmp .ne (.var 0x6) (.lst []))
   [.app 0x4 (.var 0x6)]
   []]) (S (d.map (·.1)++st.map (·.1)) v M' i I z A B) .nx OZ->Run (execs Γ CU) (S (d.map (·.1)) g M' R q j m o) .nx OZ:=λh=>by
   show bf (r:=(oL (st.map stN))) (aE (aa (ae 9) (aa (aB 9) (aa (aB 9) ah))) #[#[.own,9,9],#[.own,9,9],ttt] Mt) bM ?_;show bf (r:=(oL [])) (dr ah ttt aI (ri _)) bM ?_;show fT (rs:=[(.bor 0x6,.lst (st.map stN))]) (aa (aB 9) ah) ∅ (by change bD (ļ (λu=>(kE (.bor 0x6),u)) _)=_;rw[e1]) 9 Zz h
  by_cases NX:st=[]
  .let ag:=V' NX;subst NX;rw[show(!(([]:↑(Str×Nat)).map stN).isEmpty)=dt from rfl]at Q;let ee:d++[]=d:=uv _;rw[ee]at x';let H:=J (c8 Q (λh=>by ext h) λ_=>br);let(Th,Ti,C,z1,z2,z3,z4,T):=kY Y hr hN Tf f d M' i v I z A B x' hf V6 (by rw[if_pos ag];lia);show#[Th,Ti,C,z1,z2,z3,z4,I0 N H ?_];let e3:d.map (·.1)++([]:↑(5 × 8)).map (·.1)=d.map (·.1):=by simp
   change Run _ (S (d.map (·.1)++([]:↑(5 × 8)).map (·.1)) v M' i I z A B) _ _;rw[e3];show T
  let ZA:(!(st.map stN).isEmpty)=4:=by left
  rw[ZA]at Q;let S_:0< -st:=ϕ.mpr NX;let ef:jA (M'++[st])=jA M'++[.lst (st.map stN)]:=by simp[jA]
  let H:Run (execs Γ CU) (S (d.map (·.1)) g M' R q j m o) .nx (S (d.map (·.1)++st.map (·.1)) v (M'++[st]) i (bD (.loc,.lst (st.map stN))) z A B):=by show J (c8 Q (λ_=>?_) λh=>by ext h);change Run _ _ _ [bD (.loc,tR c),bD (.own,.Mr D (D.map (cW (Nk c ⇑c)))),bD (oL (cB c λp=>(cnt c (d.map (·.1)++st.map (·.1)) p:Int))),bD (.own,.Mr (d.map (·.1)++st.map (·.1)) v),bD (oL (jA (M'++[st]))),bD (oL (gM i)),bD (.loc,.lst (st.map stN)),z,A,B];rw[ef];show p7 (k:=.own) (k':=.own) (r:=(.bor 0x6,.lst (st.map stN))) (u:=.lst (st.map stN)) 9 (aB 9) (uj 9) 9 9 (by unfold jA;rw[eu];lia) br
  let(Th,Ti,C,z1,z2,z3,z4,T):=kY Y hr hN Tf f (d++st) (M'++[st]) i v (bD (.loc,.lst (st.map stN))) z A B x' (by rw[ϗ,hf];simp) (by grind) (by grind);show#[Th,Ti,C,z1,z2,z3,z4,I0 N H ?_];rw[em]at T;show T
def Gw(Γ:Tab)(a:↑Row):6:=∃b:↑5,(∀w,w∉b->Nk a ⇑a w=[])/\Γ "places_that_tell" [tR a]\.ok (.own,.Mr b (b.map (cW (Nk a ⇑a))))
def iS(v:Once c)(w:-c<=120)(z:Gw Γ c)(A:CV Γ c):∃f M',LI c f []/\M'.flatten=f/\-M'<=120/\bx Γ bC [tR c]\.ok (oL (jA M')):=by
 let B:(20000:8)<=et:=by decide
 let(o,C,D):=z;let G:TM.start [tR c] 10=[bD (.loc,tR c),cK,cK,cK,cK,cK,cK,cK,cK,cK]:=by simp[TM.start,MJ,bB]
 show let g:Sl:=bD (.loc,tR c);?_;show let j:Sl:=bD (.own,.Mr o (o.map (cW (Nk c ⇑c))));?_;show let H:Sl:=bD (oL (cB c λp=>(cnt c [] p:Int)));?_;let I:Run (ev Γ (.comp 1 dt .seq [K'] [] (.bi .len [.idx K' cA]))) [g,j,cK,cK,cK,cK,cK,cK,cK,cK] (oL (cB c λp=>(cnt c [] p:Int))) [g,j,cK,cK,cK,cK,cK,cK,cK,cK]:=by
  let d:=dM (cond:=aM Γ []) (elt:=ev Γ (.bi .len [.idx K' cA])) (src:=[(.loc,tR c)]) (st:=[g,j,cK,cK,cK,cK,cK,cK,cK,cK]) ttt .loc (.inl 9) Mo (λr=>.int (-r.2:8)) .loc (λ_=>d7) c [] (by simp;omega)
   (λy _=>#[cy (aa (aP (x:=(.loc,Mo y)) (ae 9) ao ttt 9) ah) ttt (by rw[iH,eu]),aA])
  rw[vr]at d;let e:(c.map Mo).map (λu=>(kE .loc,u))=c.map λr=>(Kd.loc,Mo r):=by rw[lg];rfl
  let J:(c.map λr=>U.int (-r.2:8))=cB c λp=>(cnt c [] p:Int):=by
   unfold cB;apply Sd
   .simp
   intro i k l;let hi:i< -c:=by left
   let q:told c i=c[i].2:=mH (by simp);let N:cnt c [] i=c[i].2.length:=by unfold cnt we;left
   simp[N]
  rw[J]at d;show bI  (aa (ae 9) ah) ttt (by change bD _=_;rw[e]) d
 show let m:=(hW ⇑c).filter λp=>gi (cnt c [] p=0);?_;show let n:ay:=[g,j,H,bD (.own,.Mr [] []),bD (oL []),cK,cK,cK,cK,cK];?_
 let Q:Run (ev Γ (.comp 2 4 .Ri [MK] [.cmp .eq MA cO] K')) n (oL (gM m)) n:=by
  let d:=ic (st:=n) (cond:=aM Γ [.cmp .eq MA cO]) (elt:=ev Γ K') (src:=[(.bor 2,.lst _)]) ∅ (λp:8=>U.int (p:8)) (λp:8=>U.int (cnt c [] p:Int)) (λp:8=>U.int (p:8)) (λp=>gi (cnt c [] p=0)) (hW ⇑c) [] (by simp;omega)
   (λy _=>#[cv (aQ (ae 9) ao ttt (gy (by rw[UE];simp))),ae 9])
  rw[vr]at d;let e:((cB c λp=>(cnt c [] p:Int)).zipIdx.map λp=>(kE (.bor 2),U.tup [.int p.2,p.1]))=(hW ⇑c).map λp:8=>(lT [.int (p:8),.int (cnt c [] p:Int)]):=by
   unfold cB;apply Sd
   .simp
   intro i k l;simp[kE]
  show bI  (aa (aB 9) ah) ∅ (by change bD _=_;rw[e]) d
 let T:LI c [] m:=#[.nil,λ_ _ _ h=>(nomatch h),λ_ h=>(nomatch h),λt q=>by let(a,b):=MW.mp q;left,λt r k l=>.inl (MW.mpr #[O7.mpr (gj.mp k).1,by exists l])]
 let(f,M',Y,z1,z2,z3,s,z5):=kY v w A C fuel [] [] m [] cK cK cK cK T 9 (i9 _) (by unfold fuel;split<;>simp<;>lia);show#[f,M',z1,z2,z3,?_];show aC 9 (.inl 9) G (bf  (aE (aa (ae 9) ah) ttt D) bM (bf I bM (bf (r:=(.own,.Mr [] [])) Cr bM (bf (r:=(oL [])) (dr ah ttt aI (ri _)) bM (bf Q bM (Gr z5 (a9 (aB s) (p6 s))))))))
def zJ{M'}(hs:Γ "steps_in_rounds" [tR a]\.ok (oL (jA M')))(f:M'.flatten=g)(hl:-g<=120):bx Γ gA [tR a]\.ok (oL (g.map stN)):=by
 let i:(20000:8)<=et:=by decide
 let j:TM.start [tR a] 3=[bD (.loc,tR a),cK,cK]:=by simp[TM.start,MJ,bB]
 show let S:=λ(l:↑(Str×Nat)) (b:Sl)=>([bD (.loc,tR a),bD (oL (l.map stN)),b]:ay);?_
 let(m,n,c,b,e):=e_ (t:=dt) (is:=[2]) (body:=execs Γ [.ext 1 MK]) (rs:=[(oL (jA M'))]) (λl:↑(5 × 8)=>(Kd.loc,U.lst (l.map stN)))
  (λd r st=>d++r=M'/\∃b:Sl,st=S d.flatten b) (λ_ _ _ _=>ttt) (λd y r st o=>by
   let(c,b,e):=o;subst e;let p:-d.flatten+ -y<=120:=by let:=congrArg (λl:↑(↑(5 × 8))=>-l.flatten) c;erw[ϗ,Ľ,ro,f]at this;lia
   show#[S d.flatten (bD (.loc,.lst (y.map stN))),S (d++[y]).flatten (bD (.loc,.lst (y.map stN))),dI bh,?_,by rw[<-c];simp,_,9];let em:(d++[y]).flatten.map stN=d.flatten.map stN++y.map stN:=by simp
   change Run _ _ _ [bD (.loc,tR a),bD (oL ((d++[y]).flatten.map stN)),bD (.loc,.lst (y.map stN))];rw[em];show CH (k:=.own) (k':=.own) 9 (ae 9) 9 9 (yh (by rw[eu,eu];lia) 9) br) M' [] (S [] cK) ⟨9,cK,9⟩
 subst e;let e:(jA M').map (λu=>(kE .own,u))=M'.map λl=>(Kd.loc,U.lst (l.map stN)):=by unfold jA;rw[lg];rfl
 let h:=aC (Γ:=Γ) (fn:=gA) 9 (.inl 9) j (bf (r:=(oL [])) (dr ah ttt aI (ri _)) bM (fT (rs:=[(oL (jA M'))]) (st1:=S [] cK) (aa (aE (aa (ae 9) ah) ttt hs) ah) ttt 9 9 (by rw[e];show n) (a9 (aB 9) (p6 9))));rw[vr,f]at h;show h
def oH(h:-ss<64):ON .sorted [(k,.lst (ss.map .str))]\oL ((bA ss).map .str):=by change(strsOf _).bind _=_;rw[dc];left
def wj{b:↑(5 × 8)}(hl:-b<64)(ho:Γ "order" [tR a]\.ok (oL (b.map stN))):bx Γ ie [tR a]\.ok (oL ((bA (b.map (·.1))).map .str)):=by
 let d:20000<=et:=by decide
 let f:TM.start [tR a] 1=[bD (.loc,tR a)]:=by simp[TM.start,MJ,bB]
 let c:=ic (st:=[bD (.loc,tR a)]) (cond:=aM Γ []) (elt:=ev Γ K') (src:=[(oL (b.map stN))]) ttt _ (λs=>U.int s.2) (λs=>U.str s.1) _ b [] (by grind) (λy _=>#[d7,ae 9]);rw[UN.mpr (λ_ _=>rfl)]at c;let e:(b.map stN).map (λu=>(kE .own,u))=b.map λs=>(lT [.str s.1,.int (s.2:8)]):=by rw[lg];rfl
 let g:(b.map λs=>U.str s.1)=(b.map (·.1)).map U.str:=by rw[lg];rfl
 rw[g]at c;show aC 9 (.inl 9) f (a9 (cy (aa (bI  (aa (aE (aa (ae 9) ah) ttt ho) ah) ttt (by change bD _=_;rw[e]) c) ah) ttt (oH (by left))) i_)
structure Lrn(prog:↑Fn):6 where
 g:NY prog "gathered" dN
 p:NY prog "places_that_tell" bu
 n:NY prog "new_steps" dh
 s:NY prog "steps_in_rounds" bC
 o:NY prog "order" gA
structure Kn(rows:↑Row)(K:↑5):6 where
 nd:K.Nodup
 sn:WH rows K
 cl:oC rows (·∈K)
def Kn.perm(a:Kn c K)(b:Kn c L):K.Perm L:=same a.nd b.nd a.sn b.sn a.cl b.cl
def Kn.of(s:LI a b []):Kn a (b.map (·.1)):=#[s.nd,s.sn,s.closed]
def FG(L:Lrn prog)(n)(f:∀r∈c,d8 d r)(C:-d<=24)(D:-c<=120):∃e,LI c e []/\-e<=24/\MP prog (n+0x4) "order" [tR c]\.ok (oL (e.map stN)):=by
 let m:=λr h=>(f r h).NG;let k:=λr h=>(f r h).once;let l:=λr h=>(f r h).word;let q:Gv (MP prog (n+1)):=λG hl=>by let(i,a,b):=rV  hl;show#[i,a,(b7 L.g _).trans b]
 let t:Gw (MP prog (n+2)) c:=by let(i,a,b):=jz q k m (by omega);show#[i,a,(b7 L.p _).trans b]
 let u:CV (MP prog (n+2)) c:=λR H I v=>by let(st,a,b):=pk  l 7 v;show#[st,a,(b7 L.n _).trans b]
 let(e,M',j,w,J,y):=iS k (by omega) t u;let z:=(b7 L.s _).trans y;let A:-e<=24:=by
  let:=oE (Kn.of j).nd  λx B=>by let(r,a,b):=mh.mp (j.wd x B);show b▸l r a
  rw[eu]at this;lia
 show#[e,j,A,(b7 L.o _).trans (zJ z w 7)]
end KL
namespace TM
open PySem L2 MZ
def qd(h:st[i]?\bD (.A',.ob u a)):Run (OW i) st (u,a) st:=by change OW i st=_;unfold OW;rw[h]
def Gy(h:st[i]?\bD (.A',.ob u c))(d:f u c\(b,a))(e:MJ b=4)(g:dZ a=4):Run (Rj i f) st () (st.set i (bD (.A',.ob b a))):=by
 change Rj i f st=_;unfold Rj;rw[h]
 dsimp only
 rw[d];show if_pos #[e,g]
def gB(h:st[i]?\bD (.A',.ob u a)):Run (ev Γ (.Nr i)) st (.loc,u) st:=af (qd h) bc
def Jb(h:st[i]?\bD (.A',.ob u us)):Run (ev Γ (.P4 i)) st (lI (-us:8)) st:=af (qd h) bc
def Jc(h:st[i]?\bD (.A',.ob u us))(a:Na 50 (.lst us)=4):Run (MM Γ (.OV i)) st us.isEmpty st:=af (qd h) (by change(if Na 50 (.lst us)=4 then pure us.isEmpty else M.fail:M Bool) st=_;rw[if_pos a];rfl)
def Jd(h:st[i]?\bD (.A',.ob u us))(a:us[-us - 1]?\w):Run (ev Γ (.l8 i)) st (.loc,w) (st.set i (bD (.A',.ob u us.dropLast))):=by
 change TM.l8 i st=_;unfold TM.l8;rw[h]
 dsimp only
 rw[a]
def Je(h:Run (execs Γ b) (st.set i (bD (.A',.ob (.tup []) []))) f a):Run (execs Γ (.mf i::b)) st f a:=fF 9 h
def Jf(g:Run (ev Γ e) st r b)(j:Run (lift r) b c a)(h:a[i]?\bD (.A',.ob u d))(k:MJ c=4)(l:dZ d=4)(m:Run (execs Γ n) (a.set i (bD (.A',.ob c d))) f o):Run (execs Γ (.iO i e::n)) st f o :=fF (af g (af j (af (Gy h 9 k l) bc))) m
def Jg(h:st[i]?\bD (.A',.ob u us))(hl:-us<et)(a:MJ u=4)(b:dZ (us++[u])=4)(c:Run (execs Γ d) (st.set i (bD (.A',.ob u (us++[u])))) f e):Run (execs Γ (.P6 i::d)) st f e :=fF (af (Gy h (by unfold Ep;rw[if_pos hl]) a b) bc) c
def rW(h:st[i]?\bD (.A',.ob u e))(g:Γ f (.ob u e::a.map (·.2))\.ok (k,.tup (w::.ob j b::l)))(hk:k=.own\/k=.loc)(m:lF ((.loc,.Mx)::a) c=4)(n:lG ((.loc,.Mx)::a) c l (st.set i (bD (.A',.ob j b)))\d):Run (gV Γ f i a c) st (k,w) d:=by
 change gV Γ f i a c st=_;unfold gV;rw[h]
 dsimp only
 rw[g];change(if _ then _ else _)=_;rw[if_pos #[hk,m],n]
def Jh(d:st[i]?\bD (.A',.ob u0 us0))(e:Run (bR Γ g) st rs a)(j:ba (rs.map (jR a)) a)(h:a[i]?\bD (.A',.ob u us))(l:Γ f (.ob u us::(rs.map (jR a)).map (·.2))\.ok (k,.tup (w::.ob u' us'::ws)))(hk:k=.own\/k=.loc) (m:lF ((.loc,.Mx)::rs.map (jR a)) c=4) (n:lG ((.loc,.Mx)::rs.map (jR a)) c ws (a.set i (bD (.A',.ob u' us')))\b):Run (ev Γ (.NT f i g c)) st (k,w) b :=af (qd d) (af (af e (show Run (Bm rs) a (rs.map (jR a)) a from 9)) (af (bp j) (rW h l hk m n)))
def CW(e:st[i]?\bD (.A',.ob u0 us0))(g:Run (bR Γ j) st rs a)(l:ba (rs.map (jR a)) a)(h:a[i]?\bD (.A',.ob u us))(m:Γ f (.ob u us::(rs.map (jR a)).map (·.2))\.ok (k,.tup (.bl b::.ob u' us'::ws)))(hk:k=.own\/k=.loc) (n:lF ((.loc,.Mx)::rs.map (jR a)) d=4) (o:lG ((.loc,.Mx)::rs.map (jR a)) d ws (a.set i (bD (.A',.ob u' us')))\c):Run (MM Γ (.NT f i j d)) st b c :=af (af (qd e) (af (af g (show Run (Bm rs) a (rs.map (jR a)) a from 9)) (af (bp l) (rW h m hk n o)))) (cV 9)
def zK:lF a []=4:=by
 let:∀x,Bl [] x=4:=λ⟨k,u⟩=>by cases k<;>rfl
 unfold lF;simp[this]
def dv(b:st[i]?\bD (.A',.ob u0 us0))(c:Run (bR Γ es) st rs a)(d:ba rs a)(h:a[i]?\bD (.A',.ob u us))(e:Γ f (.ob u us::rs.map (·.2))\.ok (k,.tup [w,.ob u' us']))(hk:k=.own\/k=.loc):Run (ev Γ (.NU f m i es)) st (k,w) (a.set i (bD (.A',.ob u' us'))) :=af (qd b) (af c (af (bp d) (rW h e hk zK 9)))
def cJ(e:-c=b.np/\0<b.np)(hs:bo is c b.ns=d)(h:Run (execs Γ a) d f st)(g:T5 f\(k,w))(ho:st[0]?\bD (.A',.ob u i))(j:Rk is st\l):eF Γ b is a c\.ok (k,.tup (w::.ob u i::l)):=by subst hs;unfold eF;rw[if_pos e,show execs Γ a (bo is c b.ns)=_ from h];change(T5 f).bind _=_;rw[g];change(U_ 0 st).bind _=_;unfold U_;rw[ho];change(Rk is st).map _=_;rw[j];rfl
end TM
namespace K
open PySem L2 TM
def kZ:Fn:=#["is_stem",1,1,[.ite (.or [.cmp .eq K' (cQ ""),.cmp .gt (.bi .len [K']) (.Ow "LONGEST_STEM" (.int 0x8))]) [.ret (.cst (.bl dt))] [],.ret (.bi .all [.comp 1 dt .seq [K'] [] (.cmp .isin K' (.Ow "LETTERS" (.str "abcdefghijklmnopqrstuvwxyz")))])]]
def dO:Fn:=#["is_later_sense",1,1,[.ret (.cmp .isin K' (.comp 1 dt .Rh [.bin .add (.Ow "FIRST_SENSE" (.int 1)) cA,.bin .add (.Ow "LAST_SENSE" (.int 99)) cA] [] (.bi .str [K'])))]]
def k_:Fn:=#["is_word",1,1,[.ite (.cmp .Mw (cQ "/") K') [.ret (.call "is_stem" [K'])] [],.ret (.and [.call "is_stem" [.call "stem_of" [K']],.call "is_later_sense" [.call "number_of" [K']]])]]
def qe:Fn:=#["stem_of",1,1,[.ret (.idx (.OM .partition K' [(cQ "/")]) cO)]]
def lR:Fn:=#["number_of",1,1,[.ret (.idx (.OM .partition K' [(cQ "/")]) (cI 2))]]
def oI:Fn:=#["is_row",1,2,[.set 1 (.idx K' cA),.ite (.or [.cmp .gt (.bi .len [MA]) (.Ow "MOST_TOLD" (.int 0x8)),.cmp .lt (.Qz .jc [MA]) (.bi .len [MA])]) [.ret (.cst (.bl dt))] [],.ret (.and [.call "is_word" [.idx K' cO],.bi .all [.comp 1 dt .seq [MA] [] (.call "is_word" [K'])]])]]
def dw:Fn:=#["in_one_order",1,1,[.ret (.tup [.idx K' cO,.bi .tuple [.bi .sorted [.idx K' cA]]])]]
def mI:Fn:=#["alike",2,2,[.ret (.cmp .eq (.call "in_one_order" [K']) (.call "in_one_order" [MA]))]]
def dP:Fn:=#["has_alike_rows",1,1,[.ret (.cmp .lt (.Qz .jc [.comp 1 dt .seq [K'] [] (.call "in_one_order" [K'])]) (.bi .len [K']))]]
def wm:Fn:=#["fits",1,1,[.ite (.cmp .gt (.bi .len [K']) (.Ow "MOST_ROWS" (.int 60))) [.ret (.cst (.bl dt))] [],.ret (.and [.bi .all [.comp 1 dt .seq [K'] [] (.call "is_row" [K'])],.not (.call "has_alike_rows" [K'])])]]
def oJ:Fn:=#["fitted",1,1,[.ite (.not (.call "fits" [K'])) [.bad] [],.ret K']]
noncomputable abbrev oK:Fn:=TM.CJ
def iK:Fn:=#["rows_of",2,2,[.ret (.comp 2 4 .Ri [K'] [.cmp .eq (.idx MA cO) MF] K')]]
noncomputable abbrev dN:Fn:=KL.dN
noncomputable abbrev bu:Fn:=KL.bu
noncomputable abbrev dh:Fn:=KL.dh
noncomputable abbrev bC:Fn:=KL.bC
noncomputable abbrev gA:Fn:=KL.gA
noncomputable abbrev ie:Fn:=KL.ie
def gC:Fn:=#["not_learnt",1,1,[.ret (.SS dt (.call "words_of" [K']) (.call "learnt" [K']))]]
def fc:Fn:=#["places_alike",2,2,[.ret (.comp 2 4 .Ri [K'] [.call "alike" [MA,MF]] K')]]
def dy:Fn:=#["gained_and_lost",2,0x6,[.set 2 (.call "learnt" [K']),.set 3 (.call "learnt" [MA]),.set 0x4 (.comp 1 dt .seq [MF] [.cmp .Mw K' MF] K'),.set 0x5 (.comp 1 dt .seq [MK] [.cmp .Mw K' Nj] K'),.ret (.tup [Nj,Nh])]]
def CY:Fn:=#["Shelf.__init__",1,1,[.bad,.bad]]
def iL:Fn:=#["Shelf.book",1,1,[.O4 [],.ret (.Nr 0)]]
def cX:Fn:=#["Shelf.learnt_now",1,1,[.O4 [],.ret (.call "learnt" [.Nr 0])]]
def gD:Fn:=#["Shelf.deeds",1,1,[.O4 [],.ret (.P4 0)]]
def dX:Fn:=#["Shelf.put",3,0x4,[.O4 [],.set 3 (.tup [MA,.bi .tuple [MK]]),.ite (.or [.not (.call "is_row" [MF]),.cmp .ne (.call "places_alike" [.Nr 0,MF]) (.lst [])]) [.bad] [],.ite (.cmp .ge (.bi .len [.Nr 0]) (.Ow "MOST_ROWS" (.int 60))) [.bad] [],.ret (.NU "Shelf.do_deed" "do_deed" 0 [.bin .add (.Nr 0) (.tup [MF])])]]
def di:Fn:=#["Shelf.take",3,0x4,[.O4 [],.set 3 (.call "places_alike" [.Nr 0,.tup [MA,.bi .tuple [MK]]]),.ite (.cmp .eq MF (.lst [])) [.bad] [],.ret (.NU "Shelf.do_deed" "do_deed" 0 [.bin .add (.P0 (.Nr 0) [] [.idx MF cO]) (.P0 (.Nr 0) [.bin .add (.idx MF cO) cA] [])])]]
def iM:Fn:=#["Shelf.back",1,1,[.O4 [],.ite (.OV 0) [.bad] [],.ret (.NU "Shelf.turn_to" "turn_to" 0 [.l8 0])]]
def eM:Fn:=#["Shelf.do_deed",2,2,[.O4 [],.P6 0,.ret (.NU "Shelf.turn_to" "turn_to" 0 [MA])]]
def eN:Fn:=#["Shelf.turn_to",2,3,[.O4 [],.set 2 (.call "gained_and_lost" [.Nr 0,MA]),.iO 0 MA,.ret MK]]
def rX:Fn:=#["knot",1,0x4,[.newD 1,.MR dt [2] .seq [.call "not_learnt" [K']] [.putD 1 MK (.lst [])],.MR dt [3] .seq [K'] [.ite (.inD dt (.idx MF cO) 1) [.OG 1 (.idx MF cO) (.idx (.comp 1 dt .seq [.idx MF cA] [.inD dt K' 2] K') cO)] []],.P5 1 (.tup [K',.bi .tuple [MA]])]]
def eO:Fn:=#["is_blocked",3,0x4,[.set 3 (.call "rows_of" [K',.idx MA cO]),.ite (.cmp .ne (.bi .len [.idx MA cA]) (.bi .len [MF])) [.ret (.cst (.bl dt))] [],.ret (.bi .all [.comp 2 4 .zip [MF,.idx MA cA] [] (.and [.cmp .isin MA (.idx (.idx MK K') cA),.cmp .isin MA Nj])])]]
def iN:Fn:=#["is_knot",2,3,[.set 2 (.comp 1 dt .seq [MA] [] (.idx K' cO)),.ite (.or [.cmp .ne MK (.Qz .sset [MK]),.cmp .gt (.SS 4 MK (.call "words_of" [K'])) cO]) [.ret (.cst (.bl dt))] [],.ret (.bi .all [.comp 1 dt .seq [MA] [] (.call "is_blocked" [MA,K',MF])])]]
def wo:Fn:=#["read",1,1,[.ite (.not (.RX K' .str)) [.bad] [],.ite (.cmp .eq K' (cQ "")) [.ret (.tup [])] [],.ret (.call "fitted" [.bi .tuple [.comp 1 dt .seq [.OM .split K' [(cQ "\n")]] [] (.call "read_row" [K'])]])]]
def jB:Fn:=#["read_row",1,2,[.set 1 (.OM .split K' [(cQ " ")]),.ite (.or [.cmp .lt (.bi .len [MA]) (cI 3),.not (.call "is_word" [.idx MA cO]),.cmp .ne (.idx MA cA) (cQ "=")]) [.bad] [],.ret (.tup [.idx MA cO,.call "read_told" [.P0 MA [(cI 2)] []]])]]
def ig:Fn:=#["read_told",1,1,[.ite (.cmp .eq K' (.lst [.Ow "PICTURE_SIGN" (.str "*")])) [.ret (.tup [])] [],.ite (.not (.bi .all [.comp 1 dt .seq [K'] [] (.call "is_word" [K'])])) [.bad] [],.ret (.bi .tuple [K'])]]
def rY:Fn:=#["shown",1,1,[.ret (.OM .join (cQ "\n") [.comp 1 dt .seq [K'] [] (.bin .add (.bin .add (.idx K' cO) (cQ " = ")) (.call "shown_told" [.idx K' cA]))])]]
def gE:Fn:=#["shown_told",1,1,[.ite (.cmp .eq K' (.tup [])) [.ret (.Ow "PICTURE_SIGN" (.str "*"))] [],.ret (.OM .join (cQ " ") [K'])]]
noncomputable abbrev qf:Fn:=TM.zw
noncomputable abbrev oM:Fn:=TM.yf
noncomputable abbrev lS:Fn:=TM.rM
def oN:Fn:=#["_law_name",2,0x6,[.set 2 (cQ "abcdefghijklmnopqrstuvwxyz"),.set 3 (.OM .join (cQ "") [.comp 1 dt .Nc [.bin .add cA (.bin .mod (.idx K' cO) (cI 0x8))] [] (.idx MF (.bin .mod (.idx MA (.bin .add (cI 0x4) K')) (cI 26)))]),.ite (.cmp .gt (.bi .len [MA]) cO) [.set 0x4 (.idx (.OM .split (.idx MA (.bin .mod (.idx K' cA) (.bi .len [MA]))) [(cQ "/")]) cO),.ite (.cmp .eq (.bin .mod (.idx K' (cI 2)) (cI 0x4)) cA) [.set 3 (.P0 (.bin .add Nj MF) [] [(cI 0x8)])] [],.ite (.cmp .eq (.bin .mod (.idx K' (cI 2)) (cI 0x4)) (cI 2)) [.set 3 (.bin .add (.bin .add Nj (cQ "/")) (.bi .str [.bin .add (cI 2) (.bin .mod (.idx K' (cI 3)) (cI 98))]))] []] [],.set 0x5 (.bin .add (.lst [MF]) (.comp 1 dt .Nc [(cI 40)] [] (.bin .add (.idx MF (.bin .Pf K' (cI 26))) (.idx MF (.bin .mod K' (cI 26)))))),.ret (.idx (.comp 1 dt .seq [Nh] [.cmp .Mw K' MK] K') cO)]]
noncomputable abbrev lU:Fn:=TM.fNames
noncomputable abbrev oO:Fn:=TM.lQ
def gF:Fn:=#["_law_stands",2,2,[.ret (.cmp .ne (.comp 1 dt .seq [K'] [.and [.cmp .eq (.idx K' cO) (.idx MK cO),.cmp .eq (.bi .sorted [.idx K' cA]) (.bi .sorted [.idx MK cA])]] K') (.lst []))]]
def dR:Fn:=#["_law_leaning",2,0x6,[.set 2 (.lst [MA]),.set 3 cO,.RY (.cmp .lt MF (.bi .len [MK])) [.MR 4 [0x4,0x5] .seq [K'] [.ite (.and [.cmp .isin (.idx MK MF) Nh,.cmp .Mw Nj MK]) [.app 2 Nj] []],.set 3 (.bin .add MF cA)],.ret MK]]
def fe:Fn:=#["_law_turn",0x4,11,[.O4 [3],.set 0x4 (.bi .list [.NU "Shelf.book" "book" 0 []]),.set 0x5 (.tup [.idx MK (.bin .mod (.idx MA cO) (.bi .len [MK])),.call "_law_told" [MA,MK]]),.set 0x6 (.bin .mod (.idx MA (cI 11)) (cI 0x8)),.ite (.and [.cmp .eq (.var 0x6) (cI 0x7),.cmp .ne MF (.lst [])]) [.la [0x7,0x8,0x9] (.pop 3),.ret (.tup [.NU "Shelf.back" "back" 0 [],.not (.var 0x8),.var 0x8,.var 0x7,.var 0x9])] [],.ite (.and [.cmp .gt (.var 0x6) (cI 0x4),.cmp .ne Nj (.lst [])]) [.la [0x7,10] (.idx Nj (.bin .mod (.idx MA (cI 12)) (.bi .len [Nj]))),.app 3 (.tup [.var 0x7,.cst (.bl dt),Nj]),.ret (.tup [.NU "Shelf.take" "take" 0 [.var 0x7,.var 10],.cst (.bl dt),.cst (.bl 4),.var 0x7,Nj])] [],.ite (.call "_law_stands" [Nj,Nh]) [.ret (.cst .Mx)] [],.app 3 (.tup [.idx Nh cO,.cst (.bl 4),.bin .add Nj (.lst [Nh])]),.ret (.tup [.NU "Shelf.put" "put" 0 [.idx Nh cO,.idx Nh cA],.cst (.bl 4),.cst (.bl dt),.idx Nh cO,.bin .add Nj (.lst [Nh])])]]
def b8:Fn:=#["_law_in_and_out",0x4,0x7,[.O4 [3],.set 0x4 (.tup [MA,.tup [(cQ "in/2"),(cQ "out/3")]]),.ite (.call "_law_stands" [.NU "Shelf.book" "book" 0 [],Nj]) [.ret (.cst (.bl 4))] [],.MR dt [0x5] .Nc [MK] [.set 0x6 (.bin .add (.bi .list [.NU "Shelf.book" "book" 0 []]) (.lst [Nj])),.app 3 (.tup [MA,.cst (.bl 4),.var 0x6]),.ite (.cmp .ne (.idx (.NU "Shelf.put" "put" 0 [MA,.lst [(cQ "in/2"),(cQ "out/3")]]) cA) (.lst [])) [.ret (.cst (.bl dt))] [],.app 3 (.tup [MA,.cst (.bl dt),.var 0x6]),.ite (.cmp .ne (.idx (.NU "Shelf.take" "take" 0 [MA,.lst [(cQ "in/2"),(cQ "out/3")]]) cO) (.lst [])) [.ret (.cst (.bl dt))] []],.ret (.cst (.bl 4))]]
def dz:Fn:=#["_law_afresh",1,0x4,[.O4 [],.set 1 (.call "read" [.call "shown" [.NU "Shelf.book" "book" 0 []]]),.set 2 (.call "learnt" [MA]),.set 3 (.comp 1 dt .seq [.call "knot" [MA]] [] (.idx K' cO)),.ite (.or [.cmp .ne MA (.NU "Shelf.book" "book" 0 []),.cmp .ne MK (.NU "Shelf.learnt_now" "learnt_now" 0 []),.not (.call "is_knot" [MA,.call "knot" [MA]])]) [.ret (.cst (.bl dt))] [],.ret (.cmp .eq (.bi .sorted [.bin .add MK MF]) (.call "words_of" [MA]))]]
def qg:Fn:=#["law",1,13,[.set 1 (.call "_law_drawn" [.call "_law_cell" [K',cO],(cI 0x4)]),.set 2 (.call "_law_names" [K',cA,.bin .add cA (.bin .mod (.idx MA cO) (cI 14))]),.mf 3,.set 0x4 (.lst []),.MR dt [0x5] .Nc [.bi .max [.bin .mod (.idx MA cA) (cI 41),.bi .min [(cI 40),.bin .sub (.bi .len [K']) (cI 20)]]] [.set 0x6 (.NT "_law_turn" 3 [.call "_law_drawn" [.call "_law_cell" [K',.bin .add (cI 20) Nh],(cI 14)],MK,Nj] [3]),.ite (.cmp .SR (.var 0x6) (.cst .Mx)) [.la [0x7,0x8,0x9,10,11] (.var 0x6),.ite (.or [.and [.cmp .ne (.idx (.var 0x7) cO) (.lst []),.not (.var 0x8)],.and [.cmp .ne (.idx (.var 0x7) cA) (.lst []),.not (.var 0x9)]]) [.ret (.cst (.bl dt))] [],.set 12 (.call "_law_leaning" [.var 11,.var 10]),.ite (.cmp .ne (.comp 1 dt .seq [.bin .add (.idx (.var 0x7) cO) (.idx (.var 0x7) cA)] [.cmp .Mw K' (.var 13)] K') (.lst [])) [.ret (.cst (.bl dt))] []] [],.set 10 (.idx MK (.bin .mod Nh (.bi .len [MK]))),.ite (.and [.cmp .eq (.bin .mod (.idx MA (cI 2)) (cI 0x6)) cA,.not (.NT "_law_in_and_out" 3 [.var 10,.bin .add cA (.bin .mod Nh (cI 3)),Nj] [3])]) [.ret (.cst (.bl dt))] [],.ite (.and [.cmp .eq (.bin .mod Nh (cI 3)) cO,.not (.NT "_law_afresh" 3 [] [])]) [.ret (.cst (.bl dt))] []],.ite (.or [.not (.NT "_law_afresh" 3 [] []),.cmp .ne (.NU "Shelf.deeds" "deeds" 3 []) (.bi .len [Nj])]) [.ret (.cst (.bl dt))] [],.MR dt [0x5] .Nc [.bi .len [Nj]] [.exp (.NU "Shelf.back" "back" 3 [])],.ret (.and [.cmp .eq (.NU "Shelf.book" "book" 3 []) (.tup []),.cmp .eq (.NU "Shelf.learnt_now" "learnt_now" 3 []) (.lst []),.cmp .eq (.NU "Shelf.deeds" "deeds" 3 []) cO])]]
def prog:↑Fn:=[kZ,dO,k_,qe,lR,oI,dw,mI,dP,wm,oJ,oK,iK,dN,bu,dh,bC,gA,ie,gC,fc,dy,CY,iL,cX,gD,dX,di,iM,eM,eN,rX,eO,iN,wo,jB,ig,rY,gE,qf,oM,lS,oN,lU,oO,gF,dR,fe,b8,dz,qg]
def ck:Ck:=#[(prog.filter λf=>f.io.isNone&&gi (f.name≠("Shelf.__init__":5))).map (·.name),[("FIRST_SENSE",(.int 1)),("LAST_SENSE",(.int 99)),("LETTERS",(.str "abcdefghijklmnopqrstuvwxyz")),("LONGEST_STEM",(.int 0x8)),("MOST_ROWS",(.int 60)),("MOST_TOLD",(.int 0x8)),("PICTURE_SIGN",(.str "*"))],[],[],[("Shelf.book",[],"book"),("Shelf.learnt_now",[],"learnt_now"),("Shelf.deeds",[],"deeds"),("Shelf.put",[],"put"),("Shelf.take",[],"take"),("Shelf.back",[],"back"),("Shelf.do_deed",[],"do_deed"),("Shelf.turn_to",[],"turn_to"),("_law_afresh",[],""),("_law_turn",[3],""),("_law_in_and_out",[3],"")]]
end K
namespace TM
open PySem L2 MZ
def jl(c:8):↑5->↑8|[]=>[]|[x]=>(~~~x)|x::y::r=>(~~~x)++c::jl c (y::r)
def fy(c):∀a,(~~~(Se #[#v[c]] a))=jl c a:=by
 let h:∀a ,(~~~(ώ _ a))=jl c a:=λa=>by match a with|[]=>rfl|[x]=>rfl|x::y::r=>let b:=fy.go c (y::r);change(x++⟨#v[c]⟩++ώ _ _).cps.toList=_;rw[gz,gz,b,VC];rfl
 intro a;change(ż _ a).cps.toList=_;rw[Ż];show h a
where go (c:8):∀a ,(~~~(ώ _ a))=jl c a
 |[]=>9|[x]=>9|x::y::r=>by change(x++⟨#v[c]⟩++ώ _ _).cps.toList=_;rw[gz,gz,go c _,VC];rfl
theorem CZ:∀{a b},a≠[]->b≠[]->(∀x∈a,c∉(~~~x))->(∀y∈b,c∉(~~~y))->jl c a=jl c b->a=b|[],_,h,_,_,_,_=>absurd 9 h|_::_,[],_,h,_,_,_=>absurd 9 h|[x],[y],_,_,_,_,e=>by rw[TM.fk (e)]|[x],y::z::r,_,_,d,_,e=>by let e:(~~~x)=(~~~y)++c::jl c _:=e;show absurd (by rw[e];simp) (d x (by simp))|x::z::r,[y],_,_,_,f,e=>by let e:(~~~x)++c::jl c _=(~~~y):=e;show absurd (by rw[<-e];simp) (f y (by simp))|x::z::r,y::l::m,_,_,d,f,e=>by let(g,i):=qH e (d x (by simp)) (f y (by simp));rw[TM.fk g,CZ (Ŋ _ _) (Ŋ _ _) (λx j=>d x (kj _ j)) (λy k=>f y (kj _ k)) i]
def oP(h:a≠[])(b:∀x∈a,(~~~x)≠[])(d:∀x∈a,c∉(~~~x)):Vc (Se #[#v[c]] a) ⟨#v[c]⟩=a:=by
 let f:=StrLaws.join_split (Se #[#v[c]] a) #[#v[c]];let e:jl c (Vc (Se #[#v[c]] a) #[#v[c]])=jl c a:=by rw[<-fy.go,f,fy]
 show CZ (λz=>?_) h (StrLaws.split_free _ c) d e;rw[z]at e;cases a with
 |nil=>show h 9|cons x r =>
  cases r with
  |nil=>show b x (by simp) e.symm
  |cons y r=>show absurd e.symm (by change (~~~x)++c::_≠[];simp)
def FI(x)(c):U8 #[#v[c]] x=gi (c∈(~~~x)):=PySem.StrLaws.found_one x c
def rZ{x:5}(h:bw (~~~x)):∀c∈(~~~x),47<=c:=by
 let d:∀n:_root_.Fin 100,∀c∈(~~~(jd n)),47<=c:=by decide +kernel
 obtain h|⟨a,b,k,e,h,j,l,m⟩:=h
 .let(f,g,i):=(cz _).mp h
  grind
 let(f,g,i):=(cz _).mp h;rw[e];intro c hc;obtain hc|hc:=ke.mp hc
 .grind
 obtain rfl|hc:=gs.mp hc
 .decide
 let:=d #[k.toNat,7] c
 grind
end TM
namespace TM
open PySem L2
def Wp(Γ:Tab)(b:↑S)(st:ay)(Q:Fl->ay->6):6:=∃f a,Run (execs Γ b) st f a/\Q f a
def Wp.set(h:Run (ev Γ e) st r c)(g:Run (gk i r) c () d)(j:Wp Γ k d Q):Wp Γ (.set i e::k) st Q:=let ⟨f,s,a,b⟩:=j;⟨f,s,bf h g a,b⟩
def Wp.ret(h:Run (ev Γ e) st r a)(c:Run (retS r) a (.rt k u) b)(d:Q (.rt k u) b):Wp Γ (.ret e::f) st Q:=#[_,_,a9 h c,d]
def Wp.if2(h:Run (MM Γ c) st p d)(g:p=4->Wp Γ (a++e) d Q)(i:p=dt->Wp Γ (b++e) d Q):Wp Γ (.ite c a b::e) st Q:=by cases p with|true=>let(f,s,x,y):=g 9;show#[f,s,c8 h (λ_=>x) (λz=>nomatch z),y]|false=>let(f,s,x,y):=i 9;show#[f,s,c8 h (λz=>nomatch z) λ_=>x,y]
def Wp.no(h:Run (MM Γ c) st p st1)(e:p=dt)(k:Wp Γ (b++d) st1 Q):Wp Γ (.ite c a b::d) st Q:=let ⟨f,s,x,y⟩:=k;⟨f,s,c8 h (λz=>by left) λ_=>x,y⟩
def Wp.la(h:Run (ev Γ e) st r c)(g:Run (dC 4 i r) c () d)(k:Wp Γ j d Q):Wp Γ (.la i e::j) st Q:=let ⟨f,s,a,b⟩:=k;⟨f,s,Ja h g a,b⟩
def Wp.app(g:st[i]?\bD (j,.lst l))(m:Run (ev Γ e) st r d)(n:Run (lift r) d u c)(o:c[i]?\bD (k,.lst us))(hk:k.root=4)(hl:-us<et)(p:j≠.A')(h:Wp Γ q (c.set i (bD (k,.lst (us++[u])))) Q):Wp Γ (.app i e::q) st Q:=let ⟨f,s,a,b⟩:=h;⟨f,s,p7 g m n o hk hl a p,b⟩
def Wp.nil(h:Q .nx st):Wp Γ [] st Q:=#[_,_,br,h]
def Wp.exp(h:Run (ev Γ e) st x c)(k:Wp Γ d c Q):Wp Γ (.exp e::d) st Q:=let ⟨f,s,a,b⟩:=k;⟨f,s,fF (af h bc) a,b⟩
def Wp.mf(k:Wp Γ a (st.set i (bD (.A',.ob (.tup []) []))) Q):Wp Γ (.mf i::a) st Q:=let ⟨f,s,x,y⟩:=k;⟨f,s,Je x,y⟩
def r_{l:↑α}(it:α->Kd×U)(J:8->ay->6)(q:Run (bR Γ j) st rs st)(u:ba rs st)(v:Ol w rs\l.map it)(y:tF rs o g=4)(hs:∀d s,J d s->ba rs s)(z:J 0 st)(Ε:∀d s x,l[d]?\x->J d s->∃i,Run (dC t o (it x)) s () i/\Wp Γ g i λf m=>f=.nx/\J (d+1) m)(k:∀s,J ⇑l s->Wp Γ A s Q):Wp Γ (.MR t o w j g::A) st Q:=by
 let(m,B,_,p):=e_     it (λd r s=>d++r=l/\J ⇑d s) (λ_ _ s h=>hs _ s h.2) (λd r rs s C=>by let(e,p):=C;let(i,a,f,n,b,rfl,c):=Ε _ s r (by rw[<-e];simp) p;show#[i,n,a,b,by rw[<-e];simp,by rw[ro];show c]) l [] st ⟨9,z⟩
 let(f,n,a,b):=k m (by assumption);show#[f,n,fT q u v y B a,b]
def Ji(J:8->ay->6)(Ε:∀n s,J n s->Run (MM Γ c) s dt s/\Wp Γ i s Q\/Run (MM Γ c) s 4 s/\Wp Γ e s λf d=>f=.nx/\∃m,m<n/\J m d)(j:n<=1000)(l:J n st):Wp Γ (.RY c e::i) st Q:=by
 let g:∀(k n:8) (s:ay),n<k->J n s->∃d,Run (kK _ _ k) s .nx d/\Wp Γ i d Q:=λk=>by
  induction k with
  |zero=>show λ_ _ h=>absurd h (Nat.not_lt_zero _)|succ k o =>
   intro n s j h;obtain⟨a,b⟩|⟨a,f,p,b,rfl,m,v,q⟩:=Ε n s h
   .show#[s,Gq a,b]
   let(d,r,t):=o m p 7 q;show#[d,I0 a b r,t]
 let(d,a,f,u,b,c):=g fuel n st (by unfold fuel;lia) l;show#[f,u,Gr a b,c]
def Wp.yes(h:Run (MM Γ c) st p d)(g:p=4)(k:Wp Γ (a++e) d Q):Wp Γ (.ite c a b::e) st Q:=let ⟨f,s,x,y⟩:=k;⟨f,s,c8 h (λ_=>x) (λz=>by left),y⟩
def Jj(d:-c=b.np)(hk:k=.own\/k=.loc)(h:Wp Γ b.body (start c b.ns) λf _=>f=.rt k u):bx Γ b c\.ok (k,u):=let ⟨_,_,a,e⟩:=h;aC d hk 9 (e▸a)
end TM
namespace TM
open PySem L2 MZ
def FJ(b:0<=i)(c:i<=99):ON .str [(k,.int i)]\zS (jd i):=by
 erw[ON,iQ,Bh];rw[if_pos (by
  by_cases a:i.natAbs=0
  .rw[a];decide
  have:i.natAbs<2 ^ 0x7:=⋯
  have:=(Nat.log2_lt a).mpr this;lia)]
 rfl
theorem ur:∀a,nN (a.map Mo)\a|[]=>9|r::a=>by rw[k9,nN,zD,ur a];rfl
def zL{a:↑Row}(h:a.Nodup)(hl:-a<=64):tq .jc [(k,.lst (a.map Mo))]\lI (-a:8):=by change tm _=_;cases a with|nil=>rfl|cons r a=>change(nN _).bind _=_;rw[ur];show if_pos #[hl,h]
def zM{a:↑5}(h:a.Nodup)(hl:-a<=100):tq .jc [(k,.tup (a.map .str))]\lI (-a:8):=by
 change tm _=_;unfold tm;let e:jo (.tup (a.map U.str))\aY a:=by change(strsOf _).bind _=_;rw[dc];change(if -a+1<UO then _ else _)=_;rw[if_pos (by change ⇑a+1<4096;lia)]
 rw[e];let c:=dH a;let d:=j7 h λx b=>(c7 a x).mpr b
 grind
end TM
namespace K
open PySem L2 TM MZ
def Le(h:Run (ev Γ a) st (k,.bl c) b):Run (ev Γ (.not a)) st (bL !c) b:=af h bc
def FK{bs:↑Bool}(h:∀b∈bs,b=4):ON .all [(k,.lst (bs.map .bl))]\bL 4:=by
 rw[FD];congr 3
 rw[y7];show h
def C0(h:fj (~~~x)=4):bx Γ kZ [.str x]\.ok (bL 4):=by
 let b:(1000:8)<=et:=by decide
 let(a,l,d):=(cz _).mp h;let hl:-x<=0x8:=by assumption
 let e:x≠"":=λz=>by rw[z]at a;show absurd a (by decide)
 show let S:ay:=[bD (zS x)];?_
 let f:Run (MM Γ (.or [.cmp .eq K' (cQ ""),.cmp .gt (.bi .len [K']) (.Ow "LONGEST_STEM" (.int 0x8))])) S dt S:=by
  show t7 (iZ (aQ (ae 9) ao ttt ?_) (lO (aQ (cy  (r:=(lI (-x:8))) (aa (ae 9) ah) ttt ?_) j5 ttt (j6 (decide_eq_false 7)))))
  .rw[mG,decide_eq_false e]
  change(if -x<=et then bD ⇑x else cK).map _=_
  grind
 let g:=dM (cond:=aM Γ []) (elt:=ev Γ (.cmp .isin K' (.Ow "LETTERS" (.str _)))) (src:=[(zS x)]) (st:=S) ttt .loc (.inl 9) (λc:8=>U.str #[#v[c]]) (λ_=>U.bl 4) .loc (λ_=>d7) (~~~x) [] (by grind)
  (λc i=>#[gI (c:=4) (ae 9) j5 ttt (by change bD _=_;let:=u7 "abcdefghijklmnopqrstuvwxyz" (by rfl) c;rw[show U8 #[#v[c]] _=low c from this];let:=d c i;simp[low,this.1,this.2]),aA])
 let j:=by let:=FK (k:=.own) (bs:=x.cps.toList.map λ_=>4) (by simp);rw[lg]at this;show this
 show aC 9 (.inr 9) (9) (c8 f (λz=>by ext z) λ_=>a9 (cy (aa (bI (rs:=[(zS x)]) (aa (ae 9) ah) ttt 9 g) ah) ttt j) bj)
def zN(c:2<=k)(d:k<=99):bx Γ dO [.str (jd k)]\.ok (bL 4):=by
 let b:1000<=et:=by decide
 show let S:ay:=[bD (zS (jd k))];?_
 let a:=dM (cond:=aM Γ []) (elt:=ev Γ (.bi .str [K'])) (src:=[(lI (1+1)),(lI (99+1))]) (st:=S) ttt .loc (.inl 9) (λi:8=>U.int (2+i)) _ .loc (λ_=>d7) (hW 98) [] (by grind)
  (λi f=>#[cy (aa (ae 9) ah) ttt (FJ 7 (by grind)),aA])
 rw[vr]at a;let e:((hW 98).map λi:8=>U.str (jd (2+i)))=((hW 98).map λi:8=>jd (2+i)).map U.str:=by rfl
 rw[e]at a;show aC 9 (.inr 9) (9) (a9 (gI  (ae 9) (bI  (aa (bK j5 ao ttt dY) (aa (bK j5 ao ttt dY) ah)) ttt 9 a) ttt ?_) bj);rw[yj,decide_eq_true];show mh.mpr #[(k - 2).toNat,O7.mpr (by omega),by grind]
def C2(b:a=⟨a.name,1,1,[.ret (.idx (.OM .partition K' [(cQ "/")]) (cI n))]⟩)(hl:-x<=1000)(h:MX [U.str (y8 x "/").1,.str (y8 x "/").2.1,.str (y8 x "/").2.2] n\.str y):bx Γ a [.str x]\.ok (zS y):=by
 let c:1000<=et:=by decide
 let d:jq .partition (.str x) [(zS "/")]\lT [.str (y8 x "/").1,.str (y8 x "/").2.1,.str (y8 x "/").2.2]:=by change(if (Ű "/"==0)=dt/\-x<=et then _ else _)=_;rw[if_pos #[by decide,⋯]]
 rw[b];show aC  9 (.inr 9) 9 (a9 (aP (lM (ae 9) (aa ao ah) ttt d) ao ttt (fC h)) bj)
def kh(Γ:Tab):6:=∀x:5,bw (~~~x)->Γ "is_word" [.str x]\.ok (bL 4)
def C3(f:∀x,fj (~~~x)=4->Γ "is_stem" [.str x]\.ok (bL 4))(i:∀k,2<=k->k<=99->Γ "is_later_sense" [.str (jd k)]\.ok (bL 4)) (hs:∀x y,-x<=1000->(y8 x "/").1=y->Γ "stem_of" [.str x]\.ok (zS y)) (d:∀x y,-x<=1000->(y8 x "/").2.2=y->Γ "number_of" [.str x]\.ok (zS y)) (h:bw (~~~x)):bx Γ k_ [.str x]\.ok (bL 4):=by
  let hl:-x<=11:=by rw[len_list];show h.len.2
  show let S:ay:=[bD (zS x)];?_
  let c:Run (MM Γ (.cmp .Mw (cQ "/") K')) S (!gi (47∈(~~~x))) S:=aQ ao (ae 9) ttt (by change(bD (U8 "/" x)).map _=_;rw[show U8 "/" x=gi (47∈(~~~x)) from FI x 47];rfl)
  obtain h|⟨a,b,k,e,h,j,l,m⟩:=h
  . let d:47∉(~~~x):=jG h
    rw[decide_eq_false d]at c;show aC 9 (.inr 9) (show TM.start [.str x] 1=S from 9) (oj c (a9 (aE (aa (ae 9) ah) ttt (f x h)) bj))
  . rw[decide_eq_true (by rw[e];simp)]at c
    let g:=MZ.DV e (jG h);let n:(⟨b.toArray⟩:5)=jd k:=TM.fk (by exists m.symm);let o:=f #[a.toArray] (by omega);let q:=hs x #[a.toArray] (by omega) (by rw[show("/":Str)=⟨#v[47]⟩ from rfl,g]);let r:=d x (jd k) (by omega) (by rw[show("/":Str)=⟨#v[47]⟩ from rfl,g];show n);show aC 9 (.inr 9) (show TM.start [.str x] 1=S from 9) (c8 c (λz=>by ext z) λ_=>a9 (t6 (rJ (p:=4) (aE (aa (aE (aa (ae 9) ah) ttt q) ah) ttt o) (by rw[if_pos rfl];show oh (aE (aa (aE (aa (ae 9) ah) ttt r) ah) ttt (i k j l))))) bj)
def qh(f:kh Γ){a:↑5}(hs:∀x∈a,bw (~~~x))(hl:-a<=1000)(h:Run (ev Γ e) st (k,u) st)(g:ba [(k,u)] st)(hk:c=.loc\/c=.any)(d:Ol .seq [(k,u)]\(a.map λx=>(c,U.str x))):Run (ev Γ (.bi .all [.comp 1 dt .seq [e] [] (.call "is_word" [K'])])) st (bL 4) st:=by
 let i:1000<=et:=by decide
 let b:=dM (cond:=aM Γ []) (elt:=ev Γ (.call "is_word" [K']))   g c hk U.str (λ_=>U.bl 4) .loc (λ_=>d7) a [] (by grind)
  (λx b=>by
   obtain rfl|rfl:=hk
   .show#[aE (aa (ae 9) ah) ttt (f x (hs x b)),aA]
   show#[aE (aa (aN 9) ah) ttt (f x (hs x b)),aA])
 let j:=by let:=FK (k:=.own) (bs:=a.map λ_=>4) (by simp);rw[lg]at this;show this
 show cy (aa (bI  (aa h ah) g d b) ah) ttt j
def FL(a:kh Γ)(g:-r.2<=0x8)(b:r.2.Nodup)(c:bw (~~~r.1))(d:∀x∈r.2,bw (~~~x)):bx Γ oI [Mo r]\.ok (bL 4):=by
 let e:TM.start [Mo r] 2=[bD (.loc,Mo r),cK]:=by simp[TM.start,fw]
 show let S:ay:=[bD (.loc,Mo r),bD (lT (r.2.map .str))];?_
 let f:Run (MM Γ (.or [.cmp .gt (.bi .len [MA]) (.Ow "MOST_TOLD" (.int 0x8)),.cmp .lt (.Qz .jc [MA]) (.bi .len [MA])])) S dt S:=by
  let gl:=by let h:=cy (Γ:=Γ) (st:=S)  (es:=[MA]) (aa (ae 9) ah) ttt (iH);rw[eu]at h;show h
  show t7 (iZ (aQ gl j5 ttt (j6 (decide_eq_false 7))) (lO (aQ (ya (aa (ae 9) ah) ttt (zM b 7)) gl ttt (p8 (decide_eq_false 7)))))
 show aC 9 (.inr 9) e (bf (aP  (ae 9) ao ttt 9) bh (c8 f (λz=>by ext z) λ_=>a9 (t6 (rJ  (aE (aa (aP  (ae 9) ao ttt 9) ah) ttt (a r.1 c)) (by show oh (qh a d 7 (ae 9) ttt (.inl 9) (by change bD _=_;rw[lg];rfl))))) bj))
def FN(h:-r.2<64):bx Γ dw [Mo r]\.ok (.loc,Mo (keyOf r)):=by
 let a:=sorted_strs (k:=.loc) (ss:=r.2) h;apply aC (st0:=[bD (.loc,Mo r)]) 9 (.inr 9) (by simp[TM.start,fw,dw])
 repeat' (first|show b|show c|show a|show(by decide:(2:8)<=et)|sizeOf_list_dec)
def wq(ho:∀r,-r.2<64->Γ "in_one_order" [Mo r]\.ok (.loc,Mo (keyOf r)))(d:∀r∈a,-r.2<=0x8)(hl:-a<=64)(hk:(a.map keyOf).Nodup):bx Γ dP [tR a]\.ok (bL dt):=by
 let g:(1000:8)<=et:=by decide
 show let S:ay:=[bD (.loc,tR a)];?_
 let i:TM.start [tR a] 1=S:=by simp[TM.start,MJ,bB,S]
 let c:=dM (cond:=aM Γ []) (elt:=ev Γ (.call "in_one_order" [K'])) (src:=[(.loc,tR a)]) (st:=S) ttt .loc (.inl 9) Mo _ .loc (λ_=>d7) a [] (by grind)
  (λr j=>#[aE (aa (ae 9) ah) ttt (ho r (by let:=d r j;lia)),aA])
 let e:(a.map λr=>Mo (keyOf r))=(a.map keyOf).map Mo:=by rw[lg];rfl
 rw[e]at c;let b:=zL (k:=.own) hk (by rw[eu];show hl);let gl:=by let h:=cy (Γ:=Γ) (st:=S) (f:=.len) (es:=[K']) (aa (ae 9) ah) ttt (iH);show h
 let l:Ol .seq [(.loc,tR a)]\(a.map λr=>(Kd.loc,Mo r)):=by change bD _=_;rw[lg];rfl
 show aC 9 (.inr 9) i (a9 (gI (ya (aa (bI  (aa (ae 9) ah) ttt l c) ah) ttt b) gl ttt (p8 (by simp))) bj)
def C4(b:∀r∈a,Γ "is_row" [Mo r]\.ok (bL 4))(c:Γ "has_alike_rows" [tR a]\.ok (bL dt))(hl:-a<=60):bx Γ wm [tR a]\.ok (bL 4):=by
 let d:(1000:8)<=et:=by decide
 show let S:ay:=[bD (.loc,tR a)];?_
 let e:TM.start [tR a] 1=S:=by simp[TM.start,MJ,bB,S]
 let f:=dM (cond:=aM Γ []) (elt:=ev Γ (.call "is_row" [K'])) (src:=[(.loc,tR a)]) (st:=S) ttt .loc (.inl 9) Mo _ .loc (λ_=>d7) a [] (by grind)
  (λr h=>#[aE (aa (ae 9) ah) ttt (b r h),aA])
 let g:=by let:=FK (k:=.own) (bs:=a.map λ_=>4) (by simp);rw[lg]at this;show this
 let i:Ol .seq [(.loc,tR a)]\(a.map λr=>(Kd.loc,Mo r)):=by change bD _=_;rw[lg];rfl
 let j:Run (MM Γ (.cmp .gt (.bi .len [K']) (.Ow "MOST_ROWS" (.int 60)))) S dt S:=aQ (cy (aa (ae 9) ah) ttt iH) j5 ttt (j6 (decide_eq_false (by rw[eu];lia)));show aC 9 (.inr 9) e (c8 j (λz=>by ext z) λ_=>a9 (t6 (rJ  (cy (aa (bI  (aa (ae 9) ah) ttt i f) ah) ttt g) (by show oh (Le  (aE (aa (ae 9) ah) ttt c))))) bj)
def wt(b:Γ "fits" [tR a]\.ok (bL 4)):bx Γ oJ [tR a]\.ok (.loc,tR a):=by
 show let S:ay:=[bD (.loc,tR a)];?_
 let c:TM.start [tR a] 1=S:=by simp[TM.start,MJ,bB,S]
 show aC 9 (.inr 9) c (c8 (iY  (ju (aa (ae 9) ah) ttt b 9)) (λz=>by ext z) λ_=>a9 (ae 9) bj)
end K
namespace TM
open PySem L2 MZ
theorem yn:∀{a:↑5},(∀x∈a,-x<=n)->(a.map (·.length)).sum<=n * -a|[],_=>ri _|x::a,h=>by let:=yn λy b=>h y (kj _ b);let:=h x my;rw[k9,aaW,oD,Nat.mul_succ];lia
def mJ(h:∀x∈a,-x<=n)(hs:-sep=1)(hl:(n+1) * -a<=1000000):Ĥ sep a=4/\-Se sep a<=(n+1) * -a:=by
 let b:=yn h;show#[abv (by grind),?_];change(ż sep a).length<=_;rw[Ż];let:=StrLaws.join_length_le sep a
 grind
def C5(h:Ĥ a b=4):jq .join (.str a) [(k,.lst (b.map .str))]\zS (Se a b):=by change(strsOf _).bind _=_;left
def C6(h:Ĥ a b=4):jq .join (.str a) [(k,.tup (b.map .str))]\zS (Se a b):=by change(strsOf _).bind _=_;left
def qi(hs:-a=1)(hl:-x<=1000000)(e:Vc x a=b):jq .split (.str x) [(k,.str a)]\oL (b.map .str):=by
 change(if (-a==0)=dt/\-x+2<=et then bD _ else cK)=_;let c:1000002<=et:=by decide
 rw[if_pos #[by rw[hs];rfl,⋯],e]
def zO:cm .eq (.tup (a.map U.str)) (.tup [])\gi (a=[]):=by erw[cm];rw[if_pos #[by simp[Na,dg],by rfl]];cases a<;>simp[cj,cU]
def tl(r:Row):↑5:=if r.2=[] then [("*":5)] else r.2
def b9(r:Row):5:=r.1++(" = ":5)++Se " " (tl r)
structure RowW(r:Row):6 where
 NG:-r.2<=0x8
 once:r.2.Nodup
 w1:bw (~~~r.1)
 w2:∀x∈r.2,bw (~~~x)
def ij(h:RowW r):1<=-tl r/\-tl r<=0x8:=by
 unfold tl;split
 .simp
 rename_i z;show#[Ϸ λe=>z (Xa e),h.NG]
def C7(h:RowW r):∀x∈tl r,(~~~x)≠[]/\-x<=11/\∀c∈(~~~x),42<=c:=by
 intro x a;unfold tl at a;split at a
 .rw[js.mp a];show#[by decide +kernel,by decide +kernel,by decide +kernel]
 let b:=h.w2 x a;let:=b.len;show#[λz=>by rw[z]at this;left,by show this.2,λc d=>by let:=rZ b c d;lia]
def kl(h:RowW r):∀x∈r.1::("=":5)::tl r,(~~~x)≠[]/\-x<=11/\∀c∈(~~~x),42<=c:=by
 intro x hx;obtain rfl|hx:=gs.mp hx
 .let:=h.w1.len;show#[λz=>by rw[z]at this;left,by show this.2,λc a=>by let:=rZ h.w1 c a;lia]
 obtain rfl|hx:=gs.mp hx
 .show#[by decide +kernel,by decide +kernel,by decide +kernel]
 show C7 h x hx
def qj(h:RowW r):b9 r=Se #[#v[32]] (r.1::("=":5)::tl r):=by show TM.fk ?_;let e:(~~~(Se " " (tl r)))=jl 32 _:=fy 32 _;rw[b9,gz,gz,e,fy];let hl:=(ij h).1;cases q:tl r with|nil=>rw[q]at hl;simp at hl|cons y a=>rw[VC];rfl
def wu(h:RowW r):Vc (b9 r) #[#v[32]]=r.1::("=":5)::tl r:=by rw[qj h];show oP (Ŋ _ _) (λx a=>(kl h x a).1) λx a b=>by let:=(kl h x a).2.2 32 b;lia
theorem C8:∀{e},d∈jl c e->d=c\/∃x∈e,d∈(~~~x)
 |[],h=>by ext h|[x],h=>.inr #[x,by simp,h]|x::y::r,h=>by
  obtain h|h:=ke.mp h
  .show .inr #[x,by simp,h]
  obtain h|h:=gs.mp h
  .show .inl h
  obtain h|⟨z,a,b⟩:=C8 h
  .show .inl h
  show .inr #[z,kj _ a,b]
def km(h:RowW r):(~~~(b9 r))≠[]/\-b9 r<=120/\∀c∈(~~~(b9 r)),32<=c:=by
 let e:=mJ (sep:=#[#v[32]])   (λx f=>(kl h x f).2.1) 9 (by let:=(ij h).2;grind);rw[qj h];show#[λz=>?_,va e.2 (by let:=(ij h).2;grind),λc d=>?_]
 .rw[fy]at z;show absurd z (by change (~~~r.1)++32::_≠[];simp)
 rw[fy]at d;obtain rfl|⟨x,a,b⟩:=C8 d
 .show i9 _
 let:=(kl h x a).2.2 c b;lia
def textOf(a:↑Row):5:=Se #[#v[10]] (a.map b9)
def uu(h:∀r∈a,RowW r)(hl:-a<=60):Ĥ ⟨#v[10]⟩ (a.map b9)=4/\-textOf a<=10000:=by
 let b:=mJ (sep:=#[#v[10]])   (λx c=>by let(r,d,rfl):=mh.mp c;show(km (h r d)).2.1) 9 (by grind)
 show#[b.1,va b.2 (by grind)]
def wx(h:∀r∈a,RowW r)(d:a≠[]):Vc (textOf a) ⟨#v[10]⟩=a.map b9:=by
 show oP (by exists d) (λx b=>?_) λx b e=>?_
 .let(r,c,rfl):=mh.mp b;show(km (h r c)).1
 let(r,c,rfl):=mh.mp b;let:=(km (h r c)).2.2 10 e;lia
def FO(h:∀r∈a,RowW r)(d:a≠[]):textOf a≠"":=λz=>by
 let b:(~~~(textOf a))=[]:=by rw[z];rfl
 cases a with
 |nil=>show d 9|cons r c =>
  let:(~~~(textOf (r::c)))=jl 10 _:=fy 10 _;rw[this]at b;let hl:=(km (h r (by simp))).1;cases c with
  |nil=>show hl b
  |cons s c=>show absurd b (by change(b9 r).cps.toList++10::_≠[];simp)
end TM
namespace K
open PySem L2 TM MZ
def C9:cm .ne (.str a) (.str a)\dt:=eT 9
def uA(a:↑5):MJ (.tup (a.map U.str))=4:=by simp[MJ,eS]
def zP(d:kh Γ)(h:RowW r):bx Γ ig [.lst ((tl r).map .str)]\.ok (lT (r.2.map .str)):=by
 show let S:ay:=[bD (aL ((tl r).map .str))];?_
 let c:TM.start [.lst _] 1=S:=9;let b:Run (MM Γ (.cmp .eq K' (.lst [.Ow "PICTURE_SIGN" (.str "*")]))) S _ S :=aQ (y:=(oL ([("*":5)].map .str))) (aN 9) (dr (aa j5 ah) ttt (aq aA aI) (by decide)) ttt oy
 by_cases e:r.2=[]
 .let a:tl r=[("*":5)]:=by unfold tl;rw[if_pos e]
  rw[decide_eq_true a]at b;rw[e];show aC 9 (.inr 9) c (oj b (a9 (cF ah ttt aI (ri _)) bj))
 let a:tl r=r.2:=by unfold tl;rw[if_neg e]
 let f:tl r≠[("*":5)]:=λz=>by
  let g:("*":5)∈r.2:=by rw[<-a,z];simp
  show absurd (rZ (h.w2 _ g) 42 (by decide +kernel)) (by decide)
 rw[decide_eq_false f]at b;let i:∀x∈tl r,bw (~~~x):=by rw[a];show h.w2
 let j:=qh d (st:=S) (e:=.var 0)    i (by let:=(ij h).2;lia) (aN 9) ttt (.inr 9) (by change bD _=_;rw[lg];rfl);rw[<-a];show aC 9 (.inr 9) c (c8 b (λz=>by ext z) λ_=>c8 (iY  (IY j)) (λz=>by ext z) λ_=>a9 (cy  (aa (aN 9) ah) ttt 9) (Gj (uA (tl r))))
def C_(b:kh Γ)(h:RowW r)(d:Γ "read_told" [.lst ((tl r).map .str)]\.ok (lT (r.2.map .str))):bx Γ jB [.str (b9 r)]\.ok (.loc,Mo r):=by
 let e:(1000:8)<=et:=by decide
 show let L:=r.1::("=":5)::tl r;?_;show let S:ay:=[bD (zS (b9 r)),bD (oL (L.map .str))];?_
 let f:jq .split (.str (b9 r)) [(zS " ")]\oL (L.map .str):=qi 9 (by let:=(km h).2.1;lia) (wu h);let g:MX (L.map U.str) 0\.str r.1:=by show cq 9
 let i:MX (L.map U.str) 1\.str "=":=by show cq 9
 let a:Run (ev Γ (.idx MA cO)) S (zS r.1) S:=aP (aB 9) ao ∅ (aU g);let j:Run (MM Γ (.or [.cmp .lt (.bi .len [MA]) (cI 3),.not _,.cmp .ne (.idx MA cA) (cQ "=")])) S dt S :=
  t7 (iZ (aQ (cy (aa (aB 9) ah) ∅ eI) ao ttt (p8 (decide_eq_false (by
   let:=(ij h).1;rw[eu]
   grind)))) (iZ (iY (c:=4) (ju (aa a ah) ttt (b r.1 h.w1) 9)) (lO (aQ (aP (aB 9) ao ∅ (aU i)) ao ttt C9))))
 let k:pe (.bor 1,.lst (L.map .str)) (bD 2) cK\oL ((tl r).map .str):=by change bD (oL (cut (L.map U.str) (bD ((2:8):Int)) cK))=_;unfold cut;rw[HT.DJ,HT.Ap,U0 (by simp)];rfl
 show aC 9 (.inr 9) (9) (bf (lM (ae 9) (aa ao ah) ttt f) bM (c8 j (λz=>by ext z) λ_=>a9 (cF (aa a (aa (aE (aa (x_ (aB 9) (xZ ao) xY ∅ k) ah) ttt d) ah)) ttt (aq aA (aq aA aI)) (by change 2<=et;lia)) bj))
def run_read(h:∀r∈a,RowW r)(hl:-a<=60)(f:∀r∈a,Γ "read_row" [.str (b9 r)]\.ok (.loc,Mo r))(g:Γ "fitted" [tR a]\.ok (.loc,tR a)):bx Γ wo [.str (textOf a)]\.ok (.loc,tR a):=by
 let i:(1000:8)<=et:=by decide
 show let S:ay:=[bD (zS (textOf a))];?_
 let d:Run (MM Γ (.not (.RX K' .str))) S dt S:=iY (c:=4) (K8 (ae 9) 9);let b:Run (MM Γ (.cmp .eq K' (cQ ""))) S _ S:=aQ (ae 9) ao ttt mG;by_cases e:a=[]
 .subst e;show aC 9 (.inr 9) (9) (c8 d (λz=>by ext z) λ_=>oj b (a9 (cF ah ttt aI (ri _)) bj))
 rw[decide_eq_false (FO h e)]at b;let j:jq .split _ [(zS "\n")]\_:=qi 9 (by let:=(uu h hl).2;lia) (wx h e);let k:=dM (cond:=aM Γ []) (elt:=ev Γ (.call "read_row" [K'])) (src:=[(oL ((a.map b9).map .str))]) (st:=S) ttt .loc (.inl 9) _ Mo .loc (λ_=>d7) a [] (by grind)
  (λr l=>#[aE (aa (ae 9) ah) ttt (f r l),aA])
 let m:Ol .seq [(oL ((a.map b9).map .str))]\(a.map λr=>(zS (b9 r))):=by change bD _=_;rw[lg,lg];rfl
 show aC 9 (.inr 9) (9) (c8 d (λz=>by ext z) λ_=>c8 b (λz=>by ext z) λ_=>a9 (aE (aa (cy (r:=(.loc,tR a)) (aa (bI  (aa (lM (ae 9) (aa ao ah) ttt j) ah) ttt m k) ah) ttt 9) ah) ttt g) bj)
def zQ(h:RowW r):bx Γ gE [.tup (r.2.map .str)]\.ok (zS (Se " " (tl r))):=by
 show let S:ay:=[bD (lT (r.2.map .str))];?_
 let c:TM.start [.tup (r.2.map .str)] 1=S:=by simp[TM.start,uA,S]
 let a:Run (MM Γ (.cmp .eq K' _)) S _ S:=aQ (ae 9) (cF ah ttt aI (ri _)) ttt zO;by_cases e:r.2=[]
 .rw[decide_eq_true e]at a;let b:Se " " (tl r)="*":=by unfold tl;rw[if_pos e];rfl
  rw[b];show aC 9 (.inr 9) c (oj a (a9 j5 bj))
 rw[decide_eq_false e]at a;let b:tl r=r.2:=by unfold tl;rw[if_neg e]
 let d:=mJ (sep:=" ")   (λx f=>(C7 h x f).2.1) 9 (by let:=(ij h).2;lia);rw[b]at d ⊢;show aC 9 (.inr 9) c (c8 a (λz=>by ext z) λ_=>a9 (lM ao (aa (ae 9) ah) ttt (C6 d.1)) bj)
def Ml(h:RowW r)(c:Run (ev Γ a) st (zS r.1) st)(d:Run (ev Γ b) st (zS (Se " " (tl r))) st):Run (ev Γ (.bin .add (.bin .add a (cQ " = ")) b)) st (zS (b9 r)) st:=by
 let e:1000<=et:=by decide
 let g:=mJ (sep:=" ")   (λx f=>(C7 h x f).2.1) 9 (by let:=(ij h).2;lia);let i:=(ij h).2;let j:-r.1<=11:=by show h.w1.len.2
 let k:⇑(" = ":5)=3:=by rfl
 show bK (bK c ao ttt (j9 7)) d ttt (j9 (by rw[str_len];lia))
def zR(h:∀r∈a,RowW r)(hl:-a<=60)(d:∀r∈a,Γ "shown_told" [.tup (r.2.map .str)]\.ok (zS (Se " " (tl r)))):bx Γ rY [tR a]\.ok (zS (textOf a)):=by
 let f:1000<=et:=by decide
 show let S:ay:=[bD (.loc,tR a)];?_
 let g:TM.start [tR a] 1=S:=by simp[TM.start,MJ,bB,S]
 let b:=dM (cond:=aM Γ []) (elt:=ev Γ (.bin .add (.bin .add (.idx K' cO) _) (.call _ [.idx K' cA]))) (src:=[(.loc,tR a)]) (st:=S) ttt .loc (.inl 9) Mo _ .loc (λ_=>d7) a [] (by grind)
  (λr c=>#[Ml (h r c) (aP  (ae 9) ao ttt 9) (aE (aa (aP  (ae 9) ao ttt 9) ah) ttt (d r c)),aA])
 let e:(a.map λr=>U.str (b9 r))=(a.map b9).map U.str:=by rw[lg];rfl
 rw[e]at b;let i:Ol .seq [(.loc,tR a)]\(a.map λr=>(Kd.loc,Mo r)):=by change bD _=_;rw[lg];rfl
 show aC 9 (.inr 9) g (a9 (lM ao (aa (bI  (aa (ae 9) ah) ttt i b) ah) ttt (C5 (uu h hl).1)) bj)
end K
namespace K
open PySem L2 TM MZ Od KL
def tb(a:↑Row):U:=tR a
def M7(p:List ↑Row):↑U:=p.map tb
def MB(a:↑Row)(p:List ↑Row):U:=.ob (tb a) (M7 p)
def lw(a:↑Row):↑5:=open Classical in if h:∃L,Kn a L then bA h.choose else []
def uB(h:Kn a L):lw a=bA L:=by unfold lw;rw[dif_pos #[L,h]];show lC ((Classical.choose_spec #[L,h]).perm h)
def jC(h:Kn a L):x∈lw a↔x∈L:=by rw[uB h];show(bN L).mem_iff
def gl(K L:↑5):↑5:=L.filter λx=>gi (x∉K)
def N_(a b:↑Row):U:=.tup [.lst ((gl (lw a) (lw b)).map .str),.lst ((gl (lw b) (lw a)).map .str)]
structure Bk(names:↑5)(rs:↑Row):6 where
 ok:∀r∈rs,d8 names r
 ln:-rs<=50
def ff(a):MJ (tb a)=4:=by simp[tb,MJ,bB]
theorem sd:∀p,dZ (M7 p)=4|[]=>9|r::p=>by rw[M7,k9,dZ,ff];show sd p
theorem se(n):∀a:↑Row,dB (n+2) (a.map Mo)=4|[]=>by rfl|r::a=>by rw[k9,dB,se n a];simp[Mo,Na,dB];show jw _ _
def wy(n)(a):Na (n+3) (tb a)=4:=by show se n a
theorem uC(n):∀p,dB (n+3) (M7 p)=4|[]=>by rfl|r::p=>by rw[M7,k9,dB,wy];show uC n p
def Dc(K L):-gl K L<=-L:=N6 _ _
def WK(Γ:Tab)(f:5)(a:↑5):6:=∀b:↑Row,Bk a b->-lw b<64/\Γ f [tb b]\.ok (oL ((lw b).map .str))
def Lf(a:st[i]?\bD (oL (L.map .str)))(d:st[j]?\bD (k,.lst (K.map .str)))(hk:k=.own\/k=.any)(hl:-L<=1000):Run (ev Γ (.comp 1 dt .seq [.var i] [.cmp .Mw K' (.var (j+1))] K')) st (oL ((gl K L).map .str)) st:=by
 let e:1000<=et:=by decide
 let c:=kU (cond:=aM Γ [.cmp .Mw K' (.var (j+1))]) (elt:=ev Γ K') (src:=[(.bor i,.lst _)])  ⟨⟨.own,9,a⟩,ttt⟩ .loc (.inl 9) U.str _ (λx=>gi (x∉K)) .loc L [] (by simp;lia)
  (λx c=>by
   let b:=d;show#[cv ?_,λ_=>#[ae 9,aA]];obtain rfl|rfl:=hk
   .show aQ (ae 9) (aB b) #[#[.own,9,b],ttt] eZ
   show aQ (ae 9) (aN b) ttt eZ)
 show bI  (aa (aB a) ah) #[#[.own,9,a],ttt] (by change bD _=_;rw[lg];rfl) c
def Jk(k:WK Γ "learnt" b)(h:Bk b a)(m:Bk b c):bx Γ dy [tb a,tb c]\.ok (.loc,N_ a c):=by
 let n:(1000:8)<=et:=by decide
 let(s,o):=k a h;let(t,p):=k c m;show let d:Sl:=bD (.loc,tb a);?_;show let e:Sl:=bD (.loc,tb c);?_;show let f:Sl:=bD (oL ((lw a).map .str));?_;show let g:Sl:=bD (oL ((lw c).map .str));?_;show let l:Sl:=bD (oL ((gl (lw a) (lw c)).map .str));?_;show let q:Sl:=bD (oL ((gl (lw c) (lw a)).map .str));?_;let r:TM.start [tb a,tb c] 0x6=[d,e,cK,cK,cK,cK]:=by simp[TM.start,ff,d,e]
 show aC 9 (.inr 9) r (bf (aE (aa (ae 9) ah) ttt o) bM (bf (aE (aa (ae 9) ah) ttt p) bM
  (bf (Lf (i:=3) (j:=2) (st:=[d,e,f,g,cK,cK]) 9 9 (.inl 9) 7) bM (bf (Lf (i:=2) (j:=3) (st:=[d,e,f,g,l,cK]) 9 9 (.inl 9) 7) bM
   (a9 (cF (us:=[.lst ((gl (lw a) (lw c)).map .str),.lst ((gl (lw c) (lw a)).map .str)]) (aa (aB (i:=0x4) (st:=[d,e,f,g,l,q]) 9) (aa (aB 9) ah)) #[#[.own,9,9],#[.own,9,9],ttt] (aq (uj 9) (aq (uj 9) aI)) (by change 2<=et;lia)) bj)))))
def ZC(Γ:Tab)(a:↑5):6:=∀c b p,Bk a c->Bk a b->Γ "Shelf.turn_to" [MB c p,tb b]\.ok (lT [N_ c b,MB b p])
def Dd(i:∀a b,Bk d a->Bk d b->Γ "gained_and_lost" [tb a,tb b]\.ok (.loc,N_ a b))(h:Bk d c)(j:Bk d f):eF Γ eN [] (eN.body.drop 1) [MB c e,tb f]\.ok (lT [N_ c f,MB f e]):=by
 show let g:Sl:=bD (.loc,tb f);?_;show let k:Sl:=bD (.loc,N_ c f);?_;let l:bo [] [MB c e,tb f] 3=[bD (.A',MB c e),g,cK]:=by simp[bo,ff,g]
 show cJ (is:=[]) (st:=[bD (.A',MB f e),g,k]) #[9,by decide] l (bf (aE (aa (gB 9) (aa (ae 9) ah)) ttt (i c f h j)) bh
  (Jf (r:=(.loc,tb f)) (ae 9) aA 9 (ff _) (sd _) (a9 (ae 9) bj))) 9 9 9
def De(i:ZC Γ c)(h:Bk c a)(j:Bk c d)(m:-b<=900):eF Γ eM [] (eM.body.drop 1) [MB a b,tb d]\.ok (lT [N_ a d,MB d (b++[a])]):=by
 let k:(1000:8)<=et:=by decide
 show let f:Sl:=bD (.loc,tb d);?_;let l:bo [] [MB a b,tb d] 2=[bD (.A',MB a b),f]:=by simp[bo,ff,f]
 let e:M7 (b++[a])=M7 b++[tb a]:=by simp[M7]
 let g:=i a d (b++[a]) h j;unfold MB at g ⊢;rw[e]at g ⊢;show cJ (is:=[]) (st:=[bD (.A',.ob (tb d) (M7 b++[tb a])),f]) #[9,by decide] l (Jg (u:=tb a) (us:=M7 b) 9 (by unfold M7;rw[eu];lia) (ff _) (by rw[<-e];show sd _)
  (a9 (dv (us:=M7 b++[tb a]) 9 (aa (ae 9) ah) ttt 9 g (.inr 9)) bj)) 9 9 9
def Df:eF Γ iL [] (iL.body.drop 1) [MB a b]\.ok (lT [tb a,MB a b]) :=cJ (is:=[]) (st:=[bD (.A',MB a b)]) #[9,by decide] (by simp[bo];rfl) (a9 (gB 9) bj) 9 9 9
def Dg(d:WK Γ "learnt" c)(h:Bk c a):eF Γ cX [] (cX.body.drop 1) [MB a b]\.ok (.own,.tup [.lst ((lw a).map .str),MB a b]) :=cJ (is:=[]) (st:=[bD (.A',MB a b)]) #[9,by decide] (by simp[bo];rfl) (a9 (aE (aa (gB 9) ah) ttt (d a h).2) i_) 9 9 9
def zT:eF Γ gD [] (gD.body.drop 1) [MB b a]\.ok (lT [.int (-a:8),MB b a]):=by
 let e:-M7 a=-a:=by simp[M7]
 let h:=Jb (Γ:=Γ) (st:=[bD (.A',MB b a)]) (i:=0) (u:=tb b) (us:=M7 a) 9;rw[e]at h;show cJ (is:=[]) (st:=[bD (.A',MB b a)]) #[9,by decide] (by simp[bo];rfl) (a9 h bj) 9 9 9
def Dh(g:ZC Γ d)(h:Bk d b)(j:Bk d c):eF Γ iM [] (iM.body.drop 1) [MB b (a++[c])]\.ok (lT [N_ b c,MB c a]):=by
 let e:M7 (a++[c])=M7 a++[tb c]:=by simp[M7]
 let t:Run (MM Γ (.OV 0)) [bD (.A',MB b (a++[c]))] dt [bD (.A',MB b (a++[c]))]:=by let:=Jc (Γ:=Γ) (i:=0) (st:=[bD (.A',MB b (a++[c]))]) (u:=tb b) (us:=M7 (a++[c])) 9 (by rw[Na];show uC 46 _);rw[e,show(M7 a++[tb c]).isEmpty=dt by cases M7 a<;>rfl]at this;show this
 let f:=Jd (Γ:=Γ) (i:=0) (st:=[bD (.A',MB b (a++[c]))]) (u:=tb b) (us:=M7 (a++[c])) (w:=tb c) 9 (by rw[e];simp);rw[e,χ]at f;show cJ (is:=[]) (st:=[bD (.A',MB c a)]) #[9,by decide] (by simp[bo];rfl) (c8 t (λz=>by ext z) λ_=>a9 (dv 9 (aa f ah) ttt 9 (g b c a h j) (.inr 9)) bj) 9 9 9
end K
namespace TM
open PySem L2 MZ
def uD:pe (k,tR rs) lo hi\(kE k,.tup ((cut rs lo hi).map Mo)):=by erw[pe];rw[Fx]
def uE(h:-a+ -b<=et):O5 .add (k,tR a) (c,tR b)\(kT k c,.tup ((a++b).map Mo)):=by change(if _ then _ else _)=_;left
def Jl(a:↑α)(k:8):cut a cK (bD (k:Int))=a.take k:=by change(a.drop 0).take (min k _ - 0)=_;simp
def Di(a:↑α)(k:8):cut a (bD (k:Int)) cK=a.drop k:=by change(a.drop (min k _)).take (-a - min k _)=_;rw[U0 (by simp)];simp
end TM
namespace K
open PySem L2 TM MZ Od KL
def Qj(r s:Row):Bool:=gi (keyOf r=keyOf s)
def zU(a:∀r,-r.2<64->Γ "in_one_order" [Mo r]\.ok (.loc,Mo (keyOf r)))(h:-r.2<64)(b:-s.2<64):bx Γ mI [Mo r,Mo s]\.ok (bL (Qj r s)):=by
 apply aC (st0:=[bD (.loc,Mo r),bD (.loc,Mo s)]) 9 (.inr 9) (by simp[TM.start,fw,mI])
 repeat' (first|show a r h|show a s b|show Fw (op:=4)|sizeOf_list_dec)
def QW(a:↑Row)(r:Row):↑8:=(hW ⇑a).filter λp=>Qj (a.getD p ("",[])) r
def R6(Γ:Tab)(a:↑5):6:=∀(b:↑Row) (r:Row),Bk a b->-r.2<64->Γ "places_alike" [tb b,Mo r]\.ok (oL ((QW b r).map λn:8=>.int (n:8)))
def jz(d:∀r s,-r.2<64->-s.2<64->Γ "alike" [Mo r,Mo s]\.ok (bL (Qj r s)))(c:Bk b a)(f:-r.2<64):bx Γ fc [tb a,Mo r]\.ok (oL ((QW a r).map λn:8=>.int (n:8))):=by
 let g:(2000:8)<=et:=by decide
 let q:=c.ln;let h:TM.start [tb a,Mo r] 2=[bD (.loc,tb a),bD (.loc,Mo r)]:=by simp[TM.start,ff,fw]
 let j:=ic (st:=[bD (.loc,tb a),bD (.loc,Mo r)]) (cond:=aM Γ [.call "alike" [MA,MF]]) (elt:=ev Γ K') (src:=[(.loc,tb a)]) ttt _ (λp:8=>Mo (a.getD p ("",[]))) (λp:8=>U.int (p:8)) _ (hW ⇑a) [] (by grind)
  (λy k=>#[cv (ju (aa (ae 9) (aa (ae 9) ah)) ttt (d _ r (by
   let l:y< -a:=by exists k
   let e:a.getD y ("",[])=a[y]:=by simp[Tu,l]
   rw[e];let:=(c.ok a[y] (U2 _)).NG;lia) f) 9),ae 9])
 let e:((a.map Mo).zipIdx.map λp=>(kE .loc,U.tup [.int p.2,p.1]))=(hW ⇑a).map λp:8=>(lT [.int (p:8),Mo (a.getD p ("",[]))]):=by
  apply Sd
  .simp
  intro i m t;let o:i< -a:=by exists m
  simp[kE,Tu,o]
 show aC 9 (.inl 9) h (a9 (bI  (aa (ae 9) ah) ttt (by change bD _=_;rw[e]) j) i_)
def FP:QW a r=[]↔∀s∈a,keyOf s≠keyOf r:=by
 unfold QW;rw[SM];constructor
 .intro h s hs e;let(i,b,rfl):=Uj.mp hs;show h i (O7.mpr b) ?_;let c:a.getD i ("",[])=a[i]:=by simp[Tu,b]
  rw[c,Qj,decide_eq_true_eq];show e
 intro h i b e;let b:=O7.mp b;let c:a.getD i ("",[])=a[i]:=by simp[Tu,b]
 rw[c,Qj,decide_eq_true_eq]at e;show h _ (U2 _) e
def Dj(d:∀x∈a,keyOf x≠keyOf r)(hs:keyOf s=keyOf r):∃l,QW (a++s::b) r=-a::l:=by
 let h:(QW (a++s::b) r).head?\-a:=by
  unfold QW;rw[List.head?_filter,List.find?_range_eq_some];show#[by simp[Qj,Tu,hs],by simp,λj c=>?_];let e:(a++s::b).getD j ("",[])=a[j]:=by simp[Tu,y9 c,c]
  rw[e];erw[Qj,S7,decide_eq_false_iff_not];show d _ (U2 _)
 cases f:QW _ r with|nil=>left|cons x l=>rw[f]at h;show#[l,by rw[D' h]]
def oQ(Γ:Tab)(a:↑5):6:=∀r:Row,d8 a r->Γ "is_row" [Mo r]\.ok (bL 4)
def Tn(Γ:Tab)(a:↑5):6:=∀b c p,Bk a b->Bk a c->-p<=900->Γ "Shelf.do_deed" [MB b p,tb c]\.ok (lT [N_ b c,MB c (p++[b])])
def d4:Run (ev Γ (.lst [])) st (oL []) st:=dr   ah ttt aI (ri _)
def Dl(f:R6 Γ a)(g:oQ Γ a)(h:Bk a b)(c:d8 a r)(i:st[0]?\bD (.A',MB b d))(e:st[3]?\bD (.loc,Mo r)):Run (MM Γ (.or [.not (.call "is_row" [MF]),.cmp .ne (.call "places_alike" [.Nr 0,MF]) (.lst [])])) st (!(QW b r).isEmpty) st:=by show t7 (iZ (iY  (ju (aa (ae e) ah) ttt (g r c) 9)) (lO (aQ (aE (aa (gB i) (aa (ae e) ah)) ttt (f b r h (by let:=c.NG;lia))) d4 ttt ?_)));let:=fb (us:=(QW b r).map λn:8=>U.int n) (by show iI _ _ _);rw[this,Ð]
def Lg{c:↑5}:bo [] [MB a b,.str w,.lst (c.map .str)] 0x4=[bD (.A',MB a b),bD (zS w),bD (aL (c.map .str)),cK]:=by rfl
def yo(a:st[1]?\bD (zS w))(b:st[2]?\bD (aL (c.map .str))):Run (ev Γ (.tup [MA,.bi .tuple [MK]])) st (.loc,Mo (w,c)) st :=cF (aa (ae a) (aa (cy (aa (aN b) ah) ttt 9) ah)) ttt (aq aA (aq (lN (by simp[MJ,eS])) aI)) (by change 2<=et;decide)
def uF(e:R6 Γ c)(f:oQ Γ c)(g:Tn Γ c)(d:Bk c a)(h:Bk c (a++[r]))(i:d8 c r)(j:∀s∈a,keyOf s≠keyOf r)(l:-b<=900) (hs:bo [] [MB a b,.str r.1,w] 0x4=[bD (.A',MB a b),bD (zS r.1),bD (k,w),cK]) (m:Run (ev Γ (.tup [MA,.bi .tuple [MK]])) [bD (.A',MB a b),bD (zS r.1),bD (k,w),cK] (.loc,Mo r) [bD (.A',MB a b),bD (zS r.1),bD (k,w),cK]) :eF Γ dX [] (dX.body.drop 1) [MB a b,.str r.1,w]\.ok (lT [N_ a (a++[r]),MB (a++[r]) (b++[a])]):=by
 let n:(2000:8)<=et:=by decide
 let v:=d.ln;show let o:Sl:=bD (zS r.1);?_;show let p:=bD (k,w);?_;show let q:Sl:=bD (.loc,Mo r);?_;show let S:ay:=[bD (.A',MB a b),o,p,q];?_
 let t:=Dl (Γ:=Γ) (st:=S) e f d i 9 9;rw[FP.mpr j]at t;let u:Run (MM Γ (.cmp .ge (.bi .len [.Nr 0]) (.Ow "MOST_ROWS" (.int 60)))) S dt S:=aQ (cy (aa (gB 9) ah) ttt (iH)) j5 ttt (Lc (by grind));show cJ (is:=[])  ⟨9,by decide⟩ hs (bf m bh
  (c8 t (λz=>by ext z) λ_=>c8 u (λz=>by ext z) λ_=>a9 (dv (st:=S) 9 (aa (bK (gB   9) (cF (us:=[r].map Mo) (aa (ae 9) ah) ttt (aq aA aI) (by change 1<=et;lia)) ttt (uE (by grind))) ah) ttt 9 (g a _ b d h l) (.inr 9)) bj)) 9 9 9
def FQ(d:R6 Γ a)(e:oQ Γ a)(f:Tn Γ a)(g:Bk a b)(h:Bk a (b++[r]))(i:d8 a r)(j:∀s∈b,keyOf s≠keyOf r)(k:-c<=900):eF Γ dX [] (dX.body.drop 1) [MB b c,.str r.1,.lst (r.2.map .str)]\.ok (lT [N_ b (b++[r]),MB (b++[r]) (c++[b])]):=uF d e f g h i j k Lg (yo 9 9)
def Dm(d:R6 Γ a)(e:oQ Γ a)(f:Tn Γ a)(g:Bk a b)(h:Bk a (b++[r]))(i:d8 a r)(j:∀s∈b,keyOf s≠keyOf r)(k:-c<=900):eF Γ dX [] (dX.body.drop 1) [MB b c,.str r.1,.tup (r.2.map .str)]\.ok (lT [N_ b (b++[r]),MB (b++[r]) (c++[b])]) :=uF d e f g h i j k  (by simp[bo,MJ,eS]) (cF (aa (ae 9) (aa (cy (aa (ae 9) ah) ttt 9) ah)) ttt (aq aA (aq aA aI)) (by change 2<=et;decide))
def qk(o:R6 Γ d)(p:Tn Γ d)(f:Bk d (a++r::b))(g:Bk d (a++b))(hk:keyOf (r.1,e)=keyOf r)(hl:-e<64)(q:∀x∈a,keyOf x≠keyOf r)(u:-c<=900) (hs:bo [] [MB (a++r::b) c,.str r.1,w] 0x4=[bD (.A',MB (a++r::b) c),bD (zS r.1),bD (k,w),cK]) (v:Run (ev Γ (.tup [MA,.bi .tuple [MK]])) [bD (.A',MB (a++r::b) c),bD (zS r.1),bD (k,w),cK] (.loc,Mo (r.1,e)) [bD (.A',MB (a++r::b) c),bD (zS r.1),bD (k,w),cK]) :eF Γ di [] (di.body.drop 1) [MB (a++r::b) c,.str r.1,w]\.ok (lT [N_ (a++r::b) (a++b),MB (a++b) (c++[a++r::b])]):=by
 let y:(2000:8)<=et:=by decide
 let J:=f.ln;let h:=g.ln;let(l,A):=Dj (r:=(r.1,e)) (a:=a) (b:=b) (s:=r) (by rw[hk];show q) hk.symm;show let B:Sl:=bD (zS r.1);?_;show let C:Sl:=bD (k,w);?_;show let D:Sl:=bD (oL ((-a::l).map λn:8=>.int (n:8)));?_;show let S:ay:=[bD (.A',MB (a++r::b) c),B,C,D];?_
 let i:=o (a++r::b) (r.1,e) f hl;rw[A]at i;let t:Run (MM Γ (.cmp .eq MF (.lst []))) S dt S:=by
  show aQ (aB 9) d4 ∅ ?_;let G:Na 50 (.lst ((-a::l).map λn:8=>U.int (n:8)))=4:=by rw[Na];show iI _ _ _
  change(if _ then _ else _)=_;rw[if_pos #[G,rfl]];rfl
 let m:Run (ev Γ (.idx MF cO)) S (lI (-a:8)) S:=aP (aB 9) ao ∅ (aU (cq (j:=0) 9));let H:Run (ev Γ (.P0 (.Nr 0) [] [.idx MF cO])) S (.loc,tR a) S:=by let:=uD (k:=.loc) (rs:=a++r::b) (lo:=cK) (hi:=bD (-a:Int));rw[Jl,List.take_left'  rfl]at this;show x_ (gB 9) xY (xZ m) ttt this
 let I:Run (ev Γ (.P0 (.Nr 0) [.bin .add (.idx MF cO) cA] [])) S (.loc,tR b) S:=by let:=uD (k:=.loc) (rs:=a++r::b) (lo:=bD ((-a+1:8):Int)) (hi:=cK);rw[Di,show a++r::b=(a++[r])++b by simp,Đ (by simp),show(a++[r])++b=a++r::b by simp]at this;show x_ (gB 9) (xZ (bK m ao ttt dY)) xY ttt this
 show cJ (is:=[])  ⟨9,by decide⟩ hs (bf (aE (aa (gB 9) (aa v ah)) ttt i) bM
  (c8 t (λz=>by ext z) λ_=>a9 (dv (st:=S) 9 (aa (bK H I ttt (uE (by grind))) ah) ttt 9 (p (a++r::b) (a++b) c f g u) (.inr 9)) bj)) 9 9 9
def Dn(f:R6 Γ c)(g:Tn Γ c)(h:Bk c (a++r::b))(i:Bk c (a++b))(hk:keyOf (r.1,e)=keyOf r)(hl:-e<64)(j:∀x∈a,keyOf x≠keyOf r)(k:-d<=900):eF Γ di [] (di.body.drop 1) [MB (a++r::b) d,.str r.1,.lst (e.map .str)]\.ok (lT [N_ (a++r::b) (a++b),MB (a++b) (d++[a++r::b])]):=qk f g h i hk hl j k Lg (yo 9 9)
def zV(e:R6 Γ c)(f:Tn Γ c)(g:Bk c (a++r::b))(h:Bk c (a++b))(hl:-r.2<64)(i:∀x∈a,keyOf x≠keyOf r)(j:-d<=900):eF Γ di [] (di.body.drop 1) [MB (a++r::b) d,.str r.1,.tup (r.2.map .str)]\.ok (lT [N_ (a++r::b) (a++b),MB (a++b) (d++[a++r::b])]) :=qk  e f g h 9 hl i j  (by simp[bo,MJ,eS]) (cF (aa (ae 9) (aa (cy (aa (ae 9) ah) ttt 9) ah)) ttt (aq aA (aq aA aI)) (by change 2<=et;decide))
section
variable{Γ:Tab}{names:List 5}{rows G':List Row}{past:List (List Row)}{r:Row}
def lb(a:↑Row):U:=.lst (a.map Mo)
def sf(n)(a):Na (n+3) (lb a)=4:=by show se n a
structure Gd(names:↑5)(n:8)(rs:↑Row):6 where
 ok:∀r∈rs,d8 names r
 ln:-rs<=n
 ky:(rs.map keyOf).Nodup
def Gd.bk(h:Gd names n rows)(a:n<=50):Bk names rows:=#[h.ok,va h.ln a]
def Gd.up(h:Gd names n rows):Gd names (n+1) rows:=#[h.ok,Nat.le_succ_of_le h.ln,h.ky]
def Gd.snoc(a:Gd names n rows)(c:d8 names r)(hk:∀s∈rows,keyOf s≠keyOf r):Gd names (n+1) (rows++[r]):=by
 let:=a.ln;show#[λx b=>?_,by simp;omega,?_]
 .rcases ke.mp b with h|h
  .show a.ok x h
  rw[js.mp h];show c
 rw[nH,ti];show#[a.ky,by simp,λx b y d e=>?_];let(s,hs,rfl):=mh.mp b;let:y=keyOf r:=by exists d
 show hk s hs (e.trans this)
def Gd.at(i:Gd names n rows)(m:u∈rows):∃a b,rows=a++u::b/\(∀x∈a,keyOf x≠keyOf u)/\(∀x∈b,keyOf x≠keyOf u)/\rows.filter (λx=>gi (x≠u))=a++b/\Gd names n (a++b):=by
 let(a,b,g):=ϥ m;let d:=i.ky;rw[g,nH,k9,ti]at d;let j:∀x∈a,keyOf x≠keyOf u:=λx c e=>d.2.2 _ (mh.mpr #[x,c,9]) _ my e;let k:∀x∈b,keyOf x≠keyOf u:=λx c e=>(sx.mp d.2.1).1 (e▸mh.mpr #[x,c,9]);show#[a,b,g,j,k,?_,?_]
 .let f:∀l:↑Row,(∀x∈l,keyOf x≠keyOf u)->l.filter (λx=>gi (x≠u))=l:=λl hl=>UN.mpr λx c=>decide_eq_true λe=>hl x c (e▸9);rw[g,Xb,þ (by simp),f a j,f b k]
 let:=i.ln;show#[λx c=>i.ok x (by rw[g];obtain h|h:=ke.mp c<;>simp[h]),by grind,?_];rw[nH,ti];show#[d.1,(sx.mp d.2.1).2,λx c y o=>d.2.2 x c y (kj _ o)]
inductive Bv(rs:↑Row):Kd->U->6|tup:Bv rs .loc (tb rs)|lst:Bv rs .any (lb rs)
def Bv.it(h:Bv rows k w):Ol .seq [(k,w)]\(rows.map λr=>(k,Mo r)):=by
 ext h
 .change bD _=_;rw[lg];rfl
 change bD _=_;rw[lg];rfl
def Bv.bg(h:Bv rows k w):(bD (if MJ w=4 then Kd.loc else Kd.any,w):Sl)\(k,w):=by
 ext h
 .rw[if_pos (ff rows)]
 rfl
def Bv.kd(h:Bv rows k w):k=.loc\/k=.any:=by cases h<;>simp
def WL(hk:k=.loc\/k=.any)(h:st[i]?\bD (k,u)):Run (ev Γ (.var i)) st (k,u) st:=by
 obtain rfl|rfl:=hk
 .show ae h
 show aN h
def ql(hk:k=.loc\/k=.any)(h:ba a st):ba ((k,u)::a) st:=by obtain rfl|rfl:=hk<;>show h
def Mm(hk:k=.loc\/k=.any):kE k=k:=by obtain rfl|rfl:=hk<;>rfl
def V_K(hk:k=.loc\/k=.any)(h:MJ u=4):Run (lift (k,u)) st u st:=by
 obtain rfl|rfl:=hk
 .show aA
 show lN h
def uG(a:Bv rows k w)(g:∀s∈rows,-s.2<=0x8)(hl:-rows<=100)(m:-r.2<=0x8):bx Γ gF [w,Mo r]\.ok (bL (rows.any λs=>Qj s r)):=by
 let h:(1000:8)<=et:=by decide
 let hk:=a.kd;show let S:ay:=[bD (k,w),bD (.loc,Mo r)];?_
 let i:TM.start [w,Mo r] 2=S:=by
  let j:(bD (if MJ (Mo r)=4 then Kd.loc else Kd.any,Mo r):Sl)\(.loc,Mo r):=by rw[fw];rfl
  change [bD _,bD _]=_;rw[a.bg,j]
 let b:∀(k:Kd) (x:Row),l7 (k,Mo x) (.int 0)\(kE k,.str x.1):=λ_ _=>9;let c:∀(k:Kd) (x:Row),l7 (k,Mo x) (.int 1)\(kE k,.tup (x.2.map .str)):=λ_ _=>9;let l:=kU (cond:=aM Γ [.and [.cmp .eq (.idx K' cO) (.idx MK cO),.cmp .eq (.bi .sorted [.idx K' cA]) (.bi .sorted [.idx MK cA])]]) (elt:=ev Γ K') (src:=[(k,w)]) (st:=S) (ql hk ttt) k hk Mo Mo (λs=>Qj s r) k rows [] (by grind)
  (λs hs=>by
   let:=g s hs;let e:Qj s r=(gi (s.1=r.1)&&gi (bA s.2=bA r.2)):=by unfold Qj keyOf;simp
   rw[e];let d:=b k s;let f:=c k s;rw[Mm hk]at d f;show#[cv (fS (ib (aQ (aP (WL hk 9) ao (ql hk ttt) d) (aP (ae 9) ao ttt (b _ r)) (ql hk ttt) mG) λ_=>cv (aQ (cy (aa (aP (WL hk 9) ao (ql hk ttt) f) ah) (ql hk ttt) (sorted_strs 7)) (cy (aa (aP (ae 9) ao ttt (c _ r)) ah) ttt (sorted_strs 7)) ttt oy))),λ_=>#[WL hk 9,V_K hk (fw s)]])
 show aC 9 (.inr 9) i (a9 (gI (bI (rs:=[(k,w)]) (aa (WL hk 9) ah) (ql hk ttt) a.it l) d4 ttt ?_) bj);change cm .ne (lb _) (.lst [])=_;rw[lb,fb (sf 47 _),Ð];congr 1
 rw[UE];simp
def Ub(rows:↑Row)(A F:↑5):6:=∀y∈A,∀s∈rows,y∈s.2->s.1∈F
def nS(rows:↑Row)(w:5)(F:↑5)(n:8)(a b:Sl):ay:=[bD (.any,lb rows),bD (zS w),bD (oL (F.map .str)),bD (lI (n:Int)),a,b]
def uH(N:w∈names)(hn:-names<=24)(Q:∀s∈rows,s.1∈names):∃F,w∈F/\-F<=24/\Ub rows F F/\bx Γ dR [lb rows,.str w]\.ok (oL (F.map .str)):=by
 let T:(1000:8)<=et:=by decide
 let run:Wp Γ dR.body (TM.start [lb rows,.str w] 0x6) λf _=>∃F:↑5,w∈F/\-F<=24/\Ub rows F F/\f=.rt .own (.lst (F.map .str)):=by
  show Wp.set (dr (us:=[.str w]) (aa (ae 9) ah) ttt (aq aA aI) (by change 1<=et;lia)) bM ?_;show Wp.set ao bh ?_;show Ji (λn s=>∃(A B:↑5) (d g:Sl),s=nS rows w (A++B) ⇑A d g/\n+ -A=30/\(A++B).Nodup/\(∀x∈A++B,x∈names)/\w∈A++B/\Ub rows A (A++B)) ?_ (n:=30) 7 ⟨[],[w],cK,cK,9,9,by simp,by simpa using N,by simp,λ_ h=>by ext h⟩;rintro n _ ⟨A,B,d,g,rfl,Y,i,j,m,hl⟩;let I:=oE i j;let t:Run (MM Γ (.cmp .lt MF (.bi .len [MK]))) (nS rows w (A++B) ⇑A d g) (!B.isEmpty) (nS rows w (A++B) ⇑A d g) :=aQ (ae 9) (cy (aa (aB 9) ah) ∅ eI) ttt (p8 (by cases B with|nil=>simp|cons b B=>simp;lia))
  cases B with
  |nil=>show .inl #[t,Wp.ret (aB 9) (p6 9) #[A++[],m,7,by rw[uv]at hl ⊢;show hl,9]]|cons x B =>
   show .inr #[t,?_];show r_ (l:=rows) (λs=>(.any,Mo s)) (λk s=>∃(c:↑5) (d g:Sl),s=nS rows w (A++x::c) ⇑A d g/\(A++x::c).Nodup/\(∀y∈A++x::c,y∈names)/\w∈A++x::c/\Ub rows A (A++x::c)/\∀s∈rows.take k,x∈s.2->s.1∈A++x::c) (rs:=[(.any,lb rows)]) (aa (aN 9) ah) ttt (Bv.it .lst) 9 (λ_ _ _=>ttt) ⟨B,_,_,9,i,j,m,hl,λ_ h=>by simp at h⟩ ?_ ?_
   .rintro k _ s hs ⟨c,d,g,rfl,i,j,m,hl,u⟩;let J:rows.take (k+1)=rows.take k++[s]:=by rw[List.take_succ,hs];rfl
    let G:s∈rows:=rD hs;let I:=oE i j;show#[_,qa (.inr 9),?_];let Nm:MX ((A++x::c).map U.str) ((-A:8):Int)\.str x:=cq (by simp);let t2:∀d g,d\(Kd.any,U.str s.1)->g\(Kd.any,U.tup (s.2.map .str))->Run (MM Γ (.and [.cmp .isin (.idx MK MF) Nh,.cmp .Mw Nj MK])) (nS rows w (A++x::c) ⇑A d g) (gi (x∈s.2)&&gi (s.1∉A++x::c)) (nS rows w (A++x::c) ⇑A d g):=λd g e4 e5=>by subst e4 e5;show fS (ib (aQ (aP (aB 9) (ae 9) ∅ (aU Nm)) (aN 9) ttt (@yj x s.2)) λ_=>cv (aQ (aN 9) (aB 9) ∅ eZ))
    show Wp.if2 (t2 _ _ 9 9) (λq=>?_) (λq=>Wp.nil #[9,c,_,_,9,i,j,m,hl,λv h C=>?_])
    .rw[df,decide_eq_true_eq,decide_eq_true_eq]at q;let H:∀y,y∈A++x::c->y∈A++x::(c++[s.1]):=λy h=>by rw[show A++x::(c++[s.1])=(A++x::c)++[s.1] by simp];show Uk _ h
     show Wp.app (k:=.own) (us:=(A++x::c).map .str) 9 (aN 9) (lN 9) 9 9 (by rw[eu];show Ķ I 7) (by intro z;ext z) (Wp.nil #[9,c++[s.1],bD (.any,.str s.1),bD (.any,.tup (s.2.map .str)),?_,?_,?_,H _ m,λy D v p o=>H _ (hl y D v p o),λv h C=>?_])
     .rw[show A++x::(c++[s.1])=(A++x::c)++[s.1] by simp];change [_,_,_,_,_,_]=[_,_,_,_,_,_]
      rw[nH (l₂:=[s.1])];rfl
     .rw[show A++x::(c++[s.1])=(A++x::c)++[s.1] by simp,ti];show#[i,by simp,λa ha b hb e=>q.2 (by rw[<-js.mp hb,<-e];show ha)]
     .rw[show A++x::(c++[s.1])=(A++x::c)++[s.1] by simp];intro y D;obtain h|h:=ke.mp D
      .show j y h
      rw[js.mp h];show Q s G
     rw[J]at h;obtain h|h:=ke.mp h
     .show H _ (u v h C)
     rw[js.mp h];simp
    rw[J]at h;obtain h|h:=ke.mp h
    .show u v h C
    rw[js.mp h]at C ⊢;rw[decide_eq_true C,Β,decide_eq_false_iff_not]at q;show Classical.not_not.mp q
   rintro _ ⟨c,d,g,rfl,i,j,m,hl,u⟩;rw[aah]at u;show Wp.set (bK (ae 9) ao ttt dY) bh (Wp.nil #[9,n - 1,?_,A++[x],c,d,g,?_,by let:=oE i j;simp at this ⊢;lia,by simpa using i,by simpa using j,by simpa using m,λy D s p o=>?_])
   .grind
   .rw[VC];change [_,_,_,_,_,_]=[_,_,_,_,_,_]
    simp
   rw[VC];obtain h|h:=ke.mp D
   .show hl y h s p o
   rw[js.mp h]at o;show u s p o
 let(f,s,a,F,p,o,h3,rfl):=run;show#[F,p,o,h3,aC 9 (.inl 9) 9 a]
def WM(names:↑5):6:=∀a,Bk names a->∃L,Kn a L
def Lh(f:∃L,Kn (a++b) L)(g:∃L,Kn (a++r::b) L)(c:x∈lw (a++b)):x∈lw (a++r::b):=by let(K,d):=f;let(L,e):=g;rw[jC d]at c;rw[jC e];show d.sn _ (λs hs h=>e.cl s (by obtain z|z:=ke.mp hs<;>simp[z]) h) x c
def FR(k:∃L,Kn (a++b) L)(l:∃L,Kn (a++r::b) L)(m:r.1∈F)(n:Ub (a++r::b) F F)(e:x∈lw (a++r::b))(f:x∉lw (a++b)):x∈F:=by
 let(K,d):=k;let(L,g):=l;rw[jC g]at e;rw[jC d]at f;show(g.sn (λy=>y∈F\/y∈K) (λs hs h=>?_) x e).resolve_right f;by_cases i:∃y∈s.2,y∈F
 .let(y,c,o):=i;show .inl (n y o s hs c)
 let j:=λy c=>(h y c).resolve_left λz=>i #[y,c,z];obtain z|z:=ke.mp hs
 .show .inr (d.cl s (by simp[z]) j)
 obtain rfl|z:=gs.mp z
 .show .inl m
 show .inr (d.cl s (by simp[z]) j)
def Gz(c:∃L,Kn (a++b) L)(d:∃L,Kn (a++r::b) L):gl (lw (a++r::b)) (lw (a++b))=[]:=by unfold gl;rw[SM];intro x e h;show of_decide_eq_true h (Lh c d e)
end
end K
namespace TM
open PySem L2 MZ
def Jm(b:st[i]?\bD (.A',.Mr c d))(f:Run (bQ 2 4 (pure 4) (ev Γ e) [] (q_ (c,d)) []) (st.set i cK) g a):Run (execs Γ (.P5 i e::h)) st (.rt .own (.lst g)) a:=by show Cs (af   ?_ (af f 9));change tu i st=_;unfold tu;rw[b]
end TM
namespace K
open PySem L2 TM MZ Od KL
def Li:↑TM.S:=match rX.body.getD 2 .bad with|.MR _ _ _ _ b=>b|_=>[]
def OO(a:↑Row)(K:↑5):↑5:=(bP a).filter λx=>gi (x∉K)
def mK:x∈OO a K↔x∈c9 a/\x∉K:=by unfold OO;rw[MW,oB];simp
def lj(a)(K):((OO a K).Nodup):=(kb a).sublist UJ
def pick(Z:↑5)(l:↑5):5:=((l.filter λx=>gi (x∈Z)).head?).getD ""
def NZ(Z:↑5)(d:↑Row)(k:5):↑5:=(d.filter λr=>gi (r.1=k)).map λr=>pick Z r.2
def dA(Z:↑5)(d:↑Row)(k:5):U:=.lst ((NZ Z d k).map .str)
def d5(Z:↑5)(a:↑Row):↑Row:=Z.map λk=>(k,NZ Z a k)
def oR(f:-K<64)(g:-bP a<64)(b:Γ "words_of" [tR a]\.ok (oL ((bP a).map .str)))(c:Γ "learnt" [tR a]\.ok (oL (K.map .str))):bx Γ gC [tR a]\.ok (oL ((OO a K).map .str)):=by
 let d:TM.start [tR a] 1=[bD (.loc,tR a)]:=by simp[TM.start,MJ,bB]
 let h:=dH (bP a);let i:=dH K;let hs:vC dt (aY (bP a)) (aY K)\oL ((OO a K).map .str):=by
  unfold vC;rw[if_pos #[⋯,⋯],if_neg RR];let e:bA ((aY (bP a)).filter λx=>gi (x∉aY K))=OO a K:=by show oG ?_ ((eV _).sublist UJ);show(XN ((eB _).sublist UJ) (lj a K)).mpr λx=>?_;unfold OO;rw[MW,MW];erw[c7]
  rw[e]
 show aC 9 (.inl 9) d (a9 (Gu (aE (aa (ae 9) ah) ttt b) (iJ 7) (aE (aa (ae 9) ah) ttt c) (iJ 7) hs) i_)
def uI(Z)(d)(r)(k):NZ Z (d++[r]) k=if r.1=k then NZ Z d k++[pick Z r.2] else NZ Z d k:=by
 unfold NZ;rw[Xb,nH,Ñ];by_cases e:r.1=k
 .rw[if_pos e,if_pos (decide_eq_true e)];rfl
 rw[if_neg e,if_neg (by exists e)];simp
def FT(Z)(d)(k):-NZ Z d k<=-d:=by unfold NZ;rw[eu];show N6 _ _
def Dp(hr:-b<=120)(J:∀r∈b,-r.2<=0x8)(v:Z.Nodup)(hl:-Z<64)(N:∀r∈b,r.1∈Z->∃x∈r.2,x∈Z)(Q:Γ "not_learnt" [tR b]\.ok (oL (Z.map .str))):bx Γ rX [tR b]\.ok (oL ((d5 Z b).map Mo)):=by
 let T:(20000:8)<=et:=by decide
 show let q:Sl:=bD (.loc,tR b);?_;let Y:TM.start [tR b] 0x4=[q,cK,cK,cK]:=by simp[TM.start,MJ,bB,q]
 show let S:=λ(ks:↑Str) (us:↑TM.U) (f j:Option (Kd×TM.U))=>([q,bD (.A',.Mr ks us),f,j]:ay);?_
 let(ab,C,_,f,e):=e_ (t:=dt) (is:=[2]) (body:=execs Γ [.putD 1 MK (.lst [])]) (rs:=[(oL (Z.map .str))]) (λw:5=>(zS w))
  (λd r st=>d++r=Z/\∃f,st=S d (d.map (dA Z [])) f cK) (λ_ _ _ _=>ttt) (λd w r st A=>by
   let(i,f,e):=A;subst e;let hw:w∉d:=λz=>by rw[<-i,ti]at v;show v.2.2 w z w (by simp) 9
   let PY:-d<64:=by let:=congrArg R' i;simp at this;lia
   let em:(d++[w]).map (dA Z [])=d.map (dA Z [])++[.lst []]:=by rw[nH];rfl
   show#[S d (d.map (dA Z [])) (bD (zS w)) cK,S (d++[w]) ((d++[w]).map (dA Z [])) (bD (zS w)) cK,dI bh,?_,by rw[<-i];simp,_,9];rw[em];show CN (k:=.loc) (xs:=[]) (dr ah ttt aI (ri _)) 9 (ae 9) hw 7 br) Z [] (S [] [] cK cK) ⟨9,cK,9⟩
 subst e;rw[vr]at C;show let n:↑TM.S:=Li;?_;let(ac,D,_,j,e):=e_ (t:=dt) (is:=[3]) (body:=execs Γ n) (rs:=[(.loc,tR b)]) (λr:Row=>(Kd.loc,Mo r))
  (λd r st=>d++r=b/\∃j,st=S Z (Z.map (dA Z d)) f j) (λ_ _ _ _=>ttt) (λd c r st A=>by
   let(i,j,e):=A;subst e;let PY:-d<120:=by let:=congrArg R' i;simp at this;lia
   let G:c∈b:=by rw[<-i];simp
   let ag:=J c G;show let g:Option (Kd×TM.U):=bD (.loc,Mo c);?_;let H:Run (ev Γ (.idx MF cO)) (S Z (Z.map (dA Z d)) f g) (zS c.1) (S Z (Z.map (dA Z d)) f g):=aP (x:=(.loc,Mo c)) (ae 9) ao ttt 9;let s:Run (MM Γ (.inD dt (.idx MF cO) 1)) (S Z (Z.map (dA Z d)) f g) (gi (c.1∈Z)) (S Z (Z.map (dA Z d)) f g):=CM (neg:=dt) (k:=.loc) H 9;let I:Run (dC dt [3] (.loc,Mo c)) (S Z (Z.map (dA Z d)) f j) () (S Z (Z.map (dA Z d)) f g):=dI bh;by_cases m:c.1∈Z
   .rw[decide_eq_true m]at s;let o:=kU (cond:=aM Γ [.inD dt K' 2]) (elt:=ev Γ K') (src:=[(lT (c.2.map .str))]) (st:=S Z (Z.map (dA Z d)) f g) ttt .loc (.inl 9) U.str U.str (λx=>gi (x∈Z)) .loc c.2 [] (by simp;lia)
     (λy _=>#[cv (CM (neg:=dt) (k:=.loc) (ae 9) 9),λ_=>#[ae 9,aA]])
    rw[vr]at o;let B:(c.2.map U.str).map (λu=>(kE .loc,u))=c.2.map λx=>(zS x):=by rw[lg];rfl
    let gc:=bI (Γ:=Γ) (ik:=.seq) (rs:=[(lT (c.2.map .str))]) (st:=S Z (Z.map (dA Z d)) f g) (src:=[.idx MF cA]) (aa (aP (x:=(.loc,Mo c)) (ae 9) ao ttt 9) ah) ttt (by change bD (ļ (λu=>(kE .loc,u)) _)=_;rw[B]) o;let Nm:MX ((c.2.filter λx=>gi (x∈Z)).map U.str) ((0:8):Int)\.str (pick Z c.2):=by let(x,al,am):=N c G m;show cq ?_;unfold pick;cases hf:c.2.filter λx=>gi (x∈Z) with|nil=>left|cons a l=>rfl
    let hg:eD Z (Z.map (dA Z d)) c.1\.lst ((NZ Z d c.1).map .str):=by rw[kg,if_pos m];rfl
    let hs:kJ Z (Z.map (dA Z d)) c.1 (.lst ((NZ Z d c.1).map .str++[.str (pick Z c.2)]))=Z.map (dA Z (d++[c])):=by
     rw[oF _ _ _ _ v];show QF λk hk=>?_;unfold dA;rw[uI];by_cases e:c.1=k
     .subst e;rw[if_pos rfl,if_pos rfl];simp
     rw[if_neg e,if_neg (uk e)]
    let an:=FT Z d c.1;show#[_,S Z (Z.map (dA Z (d++[c]))) f g,I,c8 s (λ_=>?_) (λh=>by ext h),by rw[<-i];simp,_,9];rw[<-hs];show CO (k:=.loc) (r:=(zS (pick Z c.2))) 9 H m (aP gc ao ttt (aU (k:=.own) Nm)) aA hg (by rw[eu];lia) br
   rw[decide_eq_false m]at s;let em:Z.map (dA Z (d++[c]))=Z.map (dA Z d):=QF λk hk=>by unfold dA;rw[uI,if_neg (show ¬c.1=k from λz=>m (z▸hk))]
   show#[_,S Z (Z.map (dA Z d)) f g,I,c8 s (λh=>by ext h) (λ_=>br),by rw[<-i];simp,g,by rw[em]]) b [] (S Z (Z.map (dA Z [])) f cK) ⟨9,cK,9⟩
 subst e;rw[vr]at D;let o:=ic (st:=[q,cK,f,j]) (cond:=pure 4) (elt:=ev Γ (.tup [K',.bi .tuple [MA]])) (src:=[]) ttt (λk:5=>U.str k) (λk=>dA Z b k) (λk=>Mo (k,NZ Z b k)) (λ_=>4) Z [] (by simp;lia)
  (λy _=>#[bc,cF (aa (ae 9) (aa (cy (aa (ae 9) ah) ttt (r:=(lT ((NZ Z b y).map .str))) 9) ah)) ttt (aq aA (aq aA aI)) (by change 2<=et;lia)])
 rw[vr,UN.mpr (λ_ _=>rfl)]at o;let ei:q_ (Z,Z.map (dA Z b))=Z.map λk=>(lT [.str k,dA Z b k]):=by
  let:∀l:↑5,(l.zip (l.map (dA Z b))).map (λp=>(lT [.str p.1,p.2]))=l.map λk=>(lT [.str k,dA Z b k]):=λl=>by induction l with|nil=>rfl|cons a l ih=>left
  show this Z
 let ek:(d5 Z b).map Mo=Z.map λk=>Mo (k,NZ Z b k):=by unfold d5;rw[lg];rfl
 rw[ek];let B:(Z.map U.str).map (λu=>(kE .own,u))=Z.map λw=>(zS w):=by rw[lg];rfl
 let e2:(b.map Mo).map (λu=>(kE .loc,u))=b.map λr=>(Kd.loc,Mo r):=by rw[lg];rfl
 show aC 9 (.inl 9) Y (CL (fT (rs:=[(oL (Z.map .str))]) (st1:=S [] [] cK cK) (aa (aE (aa (ae 9) ah) ttt Q) ah) ttt (by change bD (ļ (λu=>(kE .own,u)) _)=_;rw[B]) 9 C
  (fT (rs:=[(.loc,tR b)]) (aa (ae 9) ah) ttt (by change bD (ļ (λu=>(kE .loc,u)) _)=_;rw[e2]) 9 D (Jm 9 (by rw[ei];show o)))))
def Dq(h:∃x∈l,x∈Z):pick Z l∈l/\pick Z l∈Z:=by
 let(x,e,f):=h;unfold pick;cases b:l.filter λx=>gi (x∈Z) with
 |nil=>left|cons a t =>
  let:a∈l.filter λx=>gi (x∈Z):=by rw[b];show my
  let(c,d):=MW.mp this;show#[c,of_decide_eq_true d]
def rat(a:↑Row)(p:8):Row:=a.getD p ("",[])
def Dr(h:p< -a):a[p]?\rat a p:=by simp[rat,Tu,h]
def QE(a:↑Row)(k:5):↑8:=(hW ⇑a).filter λp=>gi ((rat a p).1=k)
def sg(Z)(a)(k):NZ Z a k=(QE a k).map λp=>pick Z (rat a p).2:=by
 let e:a=(hW ⇑a).map (rat a):=Sd (by simp) λi b c=>by simp[rat,Tu,b]
 unfold NZ QE
 conv=>lhs;rw[e,ŗ,lg]
 rfl
def Ds:((a.map Mo).zipIdx.map λp=>(kE .loc,U.tup [.int p.2,p.1]))=(hW ⇑a).map λp:8=>(lT [.int (p:8),Mo (rat a p)]):=by
 apply Sd
 .simp
 intro i b d;let c:=by exists b
 simp[kE,rat,Tu,c]
def uJ(hl:-a<=1000):bx Γ iK [tb a,.str k]\.ok (oL ((QE a k).map λp:8=>.int (p:8))):=by
 let b:1000<=et:=by decide
 let c:=ic (st:=[bD (.loc,tb a),bD (zS k)]) (cond:=aM Γ [.cmp .eq (.idx MA cO) MF]) (elt:=ev Γ K') (src:=[(.loc,tb a)]) ttt _ (λp=>Mo (rat a p)) (λp =>U.int p) _ (hW ⇑a) [] (by grind)
  (λy _=>#[cv (aQ  (aP (ae 9) ao ttt (fC 9)) (ae 9) ttt mG),ae 9])
 show aC 9 (.inl 9) (by simp[TM.start,ff,MJ,iK]) (a9 (bI  (aa (ae 9) ah) ttt (by change bD _=_;rw[Ds]) c) i_)
def all_true(l:↑α):ON .all [(k,.lst (l.map λ_=>U.bl 4))]\bL 4:=by let:=FK (k:=k) (bs:=l.map λ_=>4) (by simp);rw[lg]at this;show this
def uK(hl:-c<=1000)(hk:k∈Z)(e:∀r∈c,r.1∈Z->∃x∈r.2,x∈Z)(f:Γ "rows_of" [tb c,.str k]\.ok (oL ((QE c k).map λp:8=>.int (p:8)))):bx Γ eO [tb c,Mo (k,NZ Z c k),.lst (Z.map .str)]\.ok (bL 4):=by
 let g:(1000:8)<=et:=by decide
 let i:-QE c k<=1000:=va (N6 _ _) (by exists hl);let j:∀p∈QE c k,p< -c/\pick Z (rat c p).2∈(rat c p).2/\pick Z (rat c p).2∈Z:=λp h=>by let(a,b):=MW.mp h;let a:=O7.mp a;show#[a,Dq (e _ (rD (Dr a)) (of_decide_eq_true b▸hk))]
 show let S:ay:=[bD (.loc,tb c),bD (.loc,Mo (k,NZ Z c k)),bD (aL (Z.map .str)),bD (oL ((QE c k).map λp:8=>.int (p:8)))];?_
 let d:=ic (st:=S) (cond:=aM Γ []) (elt:=ev Γ (.and [.cmp .isin MA (.idx (.idx MK K') cA),.cmp .isin MA Nj])) (src:=[(.bor 3,.lst ((QE c k).map λp:8=>.int (p:8))),(lT ((NZ Z c k).map .str))]) ⟨⟨.own,9,9⟩,ttt⟩ (λp:8=>U.int (p:8)) (λp=>.str (pick Z (rat c p).2)) (λ_=>.bl 4) (λ_=>4) (QE c k) [] (by simp;lia)
  (λp h=>by let(l,m,n):=j p h;show#[d7,t6 (wb (p:=4) (q:=4) (gI (ae 9) (aP (x:=(.loc,Mo (rat c p))) (aP (ae 9) (ae 9) ttt (fC (yl (Dr l)))) ao ttt (fC 9)) ttt ((@yj _ (rat c p).2).trans (by rw[decide_eq_true m]))) λ_=>oh (gI (ae 9) (aN 9) ttt (yj.trans (by rw[decide_eq_true n]))))])
 rw[vr,UN.mpr (λ_ _=>rfl)]at d;show aC 9 (.inr 9) (st0:=[bD (.loc,tb c),bD (.loc,Mo (k,NZ Z c k)),bD (aL (Z.map .str)),cK]) (by simp[TM.start,ff,fw,MJ,eO]) (bf (aE (aa (ae 9) (aa (aP (x:=(.loc,Mo (k,NZ Z c k))) (ae 9) ao ttt (fC 9)) ah)) ttt f) bM
  (du (aQ (cy (aa (aP (x:=(.loc,Mo (k,NZ Z c k))) (r:=(lT ((NZ Z c k).map .str))) (ae 9) ao ttt 9) ah) ttt iH) (cy (aa (aB 9) ah) ∅ eI) ttt ?_) br
   (a9 (cy (aa (bI (rs:=[(.bor 3,.lst ((QE c k).map λp:8=>.int (p:8))),(lT ((NZ Z c k).map .str))]) (aa (aB 9) (aa (aP (x:=(.loc,Mo (k,NZ Z c k))) (ae 9) ao ttt 9) ah)) ⟨⟨.own,9,9⟩,ttt⟩ ?_ d) ah) ttt (all_true _)) bj)))
 .change cm .ne (.int _) (.int _)=_;rw[eu,eu,sg,eu];show eT 9
 change(if _ then bD ((((QE c k).map λp:8=>U.int (p:8)).zip ((NZ Z c k).map U.str)).map λq:U×U=>(kT (.bor 3) .loc,U.tup [q.1,q.2])) else cK)=_;rw[if_pos (by rw[eu,eu,sg,eu]),sg,lg,aaV,lg];rfl
def wz(b:Z.Sublist (bP a))(hl:-a<=1000)(q:-bP a<64)(l:Γ "words_of" [tb a]\.ok (oL ((bP a).map .str)))(m:∀k∈Z,Γ "is_blocked" [tb a,Mo (k,NZ Z a k),.lst (Z.map .str)]\.ok (bL 4)):bx Γ iN [tb a,.lst ((d5 Z a).map Mo)]\.ok (bL 4):=by
 let n:(1000:8)<=et:=by decide
 let o:=b.length_le;let d:Z.Nodup:=b.nodup (ue _);let f:bA (aY Z)=Z:=oG ((XN (eB _) d).mpr λx=>by rw[c7]) ((eV _).sublist b);let s:=dH Z;let p:=dH (bP a);let t:-d5 Z a=-Z:=by unfold d5;simp
 show let g:ay:=[bD (.loc,tb a),bD (aL ((d5 Z a).map Mo)),cK];?_
 show let S:ay:=[bD (.loc,tb a),bD (aL ((d5 Z a).map Mo)),bD (oL (Z.map .str))];?_
 let i:Ol .seq [(aL ((d5 Z a).map Mo))]\((d5 Z a).map λr=>(Kd.any,Mo r)):=by change bD _=_;rw[lg];rfl
 let c:=dM (cond:=aM Γ []) (elt:=ev Γ (.idx K' cO)) (src:=[(aL ((d5 Z a).map Mo))]) (st:=g) ttt .any (.inr 9) Mo (λr=>.str r.1) .any (λ_=>d7) (d5 Z a) [] (by simp;omega)
  (λy _=>#[aP (aN 9) ao ttt (fC 9),lN 9])
 rw[vr,show((d5 Z a).map λr=>U.str r.1)=Z.map U.str by unfold d5;rw[lg];rfl]at c;let j:=dM (cond:=aM Γ []) (elt:=ev Γ (.call "is_blocked" [MA,K',MF])) (src:=[(aL ((d5 Z a).map Mo))]) (st:=S) ttt .any (.inr 9) Mo (λ_=>.bl 4) .loc (λ_=>d7) (d5 Z a) [] (by simp;omega)
  (λy h=>by let(k,hk,rfl):=mh.mp h;show#[aE  (aa (ae 9) (aa (aN 9) (aa (aB 9) ah))) ∅ (m k hk),aA])
 rw[vr]at j;show aC 9 (.inr 9) (st0:=g) (by simp[TM.start,ff,MJ,iN,g]) (bf (bI (rs:=[(aL ((d5 Z a).map Mo))]) (aa (aN 9) ah) ttt i c) bM
  (du (t7 (iZ (aQ (aB (st:=S) 9) (ya (aa (aB 9) ah) ∅ (ud (by omega) (by omega))) ∅ ?_) (lO (aQ (x:=(lI 0)) (Gu (aB 9) (iJ (by omega)) (aE (aa (ae 9) ah) ttt l) (iJ 7) ?_) ao ttt 9)))) br
   (a9 (cy (aa (bI (rs:=[(aL ((d5 Z a).map Mo))]) (aa (aN 9) ah) ttt i j) ah) ttt (all_true _)) bj)))
 .rw[f];show eT (by rw[Na];show dg _ _)
 unfold vC;rw[if_pos #[by omega,⋯],if_pos rfl];let e:=SM.mpr λx c h=>absurd ((c7 _ _).mpr (b.subset ((c7 _ _).mp c))) (show x∉aY (bP a) from of_decide_eq_true h);rw[e];rfl
def Dt(h:Kn a L):((lw a).Nodup):=by rw[uB h];show(bN L).nodup_iff.mpr h.nd
def Du(h:∃L,Kn a L):∀x∈lw a,x∈c9 a:=λx c=>by let(L,b):=h;show b.sn _ (λs hs _=>jx.mpr #[s,hs,.inl 9]) x ((jC b).mp c)
def Jn(h:∃L,Kn c L):bA (lw c++OO c (lw c))=bP c:=by
 let d:=Du h;let(L,f):=h;show oG ((XN ?_ (kb c)).mpr λx=>?_) (eV _)
 .rw[ti];show#[Dt f,lj _ _,λa g b i e=>(mK.mp i).2 (e▸g)]
 rw[ke,mK,oB];constructor
 .rintro(h|h)
  .show d x h
  left
 intro h;by_cases z:x∈lw c
 .show .inl z
 show .inr #[h,z]
def yp(h:∃L,Kn a L):∀r∈a,r.1∈OO a (lw a)->∃x∈r.2,x∈OO a (lw a):=λr d f=>by let(L,b):=h;apply S0;intro g;show(mK.mp f).2 ((jC b).mpr (b.cl r d λx e=>?_));apply S0;intro c;show g #[x,e,mK.mpr #[jx.mpr #[r,d,.inr e],λz=>c ((jC b).mp z)]]
def kt(a:↑Row):↑Row:=d5 (OO a (lw a)) a
structure FH(Γ:Tab)(names:↑5):6 where
 bk:∀rs p,Γ "Shelf.book" [MB rs p]\.ok (lT [tb rs,MB rs p])
 ln:∀rs p,Bk names rs->Γ "Shelf.learnt_now" [MB rs p]\.ok (.own,.tup [.lst ((lw rs).map .str),MB rs p])
 WN:WK Γ "learnt" names
 shown:∀rs,Bk names rs->Γ "shown" [tb rs]\.ok (zS (textOf rs))
 read:∀rs,Gd names 50 rs->Γ "read" [.str (textOf rs)]\.ok (.loc,tb rs)
 d5:∀rs,Bk names rs->Γ "knot" [tb rs]\.ok (oL ((kt rs).map Mo))
 WO:∀rs,Bk names rs->Γ "is_knot" [tb rs,.lst ((kt rs).map Mo)]\.ok (bL 4)
 QX:∀rs,Bk names rs->-bP rs<64/\Γ "words_of" [tb rs]\.ok (oL ((bP rs).map .str))
 kn:WM names
def wA(H:FH Γ g)(i:Gd g 50 b):eF Γ dz [] (dz.body.drop 1) [MB b d]\.ok (lT [.bl 4,MB b d]):=by
 let t:(1000:8)<=et:=by decide
 let h:Bk g b:=i.bk (i9 _);let hk:=H.kn b h;let j:=Jn hk;let(x,v):=H.QX b h;let l:-lw b+ -OO b (lw b)=-bP b:=by let:=congrArg R' j;rw[eh,ro]at this;show this
 show let o:Sl:=bD (.A',MB b d);?_;show let m:Sl:=bD (.loc,tb b);?_;show let n:Sl:=bD (oL ((lw b).map .str));?_;show let w:Sl:=bD (oL ((OO b (lw b)).map .str));?_;let p:=dM (cond:=aM Γ []) (elt:=ev Γ (.idx K' cO)) (src:=[(oL ((kt b).map Mo))]) (st:=[o,m,n,cK]) ttt .loc (.inl 9) Mo (λr=>.str r.1) .loc (λ_=>d7) (kt b) [] (by change 0+ -kt b<=_;rw[kt,K.d5,eu];lia)
  (λy _=>#[aP (ae 9) ao ttt (fC 9),aA])
 rw[vr,show((kt b).map λr=>U.str r.1)=(OO b (lw b)).map U.str by unfold kt K.d5;rw[lg];rfl]at p;let run:Wp Γ (dz.body.drop 1) (bo [] [MB b d] 0x4) λf s=>f=.rt .loc (.bl 4)/\s[0]?\o:=by show Wp.set (aE (aa (aE (aa (dv (rs:=[]) (u0:=tb b) (us0:=M7 d) 9 ah ttt 9 (H.bk b d) (.inr 9)) ah) ttt (H.shown b h)) ah) ttt (H.read b i)) bh ?_;show Wp.set (aE (aa (ae 9) ah) ttt (H.WN b h).2) bM ?_;show Wp.set (bI (rs:=[(oL ((kt b).map Mo))]) (aa (aE (aa (ae (u:=tb b) 9) ah) ttt (H.d5 b h)) ah) ttt (by change bD _=_;rw[lg];rfl) p) bM ?_;show Wp.no (st:=[o,m,n,w]) (t7 (iZ (aQ (ae 9) (dv (rs:=[]) (u0:=tb b) (us0:=M7 d) 9 ah ttt 9 (H.bk b d) (.inr 9)) ttt (eT (wy 47 b))) (iZ (aQ (aB 9) (dv (rs:=[]) (u0:=tb b) (us0:=M7 d) 9 ah ttt 9 (H.ln b d h) (.inl 9)) ∅ (eT (by rw[Na];show dg _ _))) (lO (iY (c:=4) (ju (rs:=[(.loc,tb b),(oL ((kt b).map Mo))]) (aa (ae 9) (aa (aE (aa (ae (u:=tb b) 9) ah) ttt (H.d5 b h)) ah)) ttt (H.WO b h) 9)))))) 9 ?_;let q:=oz (k:=.bor 2) (k':=.bor 3) (xs:=(lw b).map U.str) (ys:=(OO b (lw b)).map U.str) (by rw[eu,eu];lia) 9 9;rw[<-nH]at q;let hs:=oH (k:=.own) (ss:=lw b++OO b (lw b)) (by rw[ro];lia);rw[j]at hs;show Wp.ret (gI (c:=4) (cy (aa (bK (aB 9) (aB 9) #[#[.own,9,9],#[.own,9,9],ttt] q) ah) ttt hs) (aE (aa (ae 9) ah) ttt v) ttt (oy.trans (by rw[decide_eq_true rfl]))) bj #[9,9]
 let(f,s,a,rfl,e):=run;show cJ (is:=[]) (st:=s) #[9,by decide] 9 a 9 e 9
end K
namespace TM
open PySem L2
def FU:Run (dC 4 [i,j,k] (lT [a,b,c])) st () (((st.set i (bD (.loc,a))).set j (bD (.loc,b))).set k (bD (.loc,c))):=9
def Jo:Run (dC 4 [f,g,h,i,j] (lT [a,b,c,d,e])) st () (((((st.set f (bD (.loc,a))).set g (bD (.loc,b))).set h (bD (.loc,c))).set i (bD (.loc,d))).set j (bD (.loc,e))):=9
end TM
namespace K
open PySem L2 TM MZ Od KL
abbrev Ev:=5 ×Bool×↑Row
def NO(e:Ev):U:=.tup [.str e.1,.bl e.2.1,lb e.2.2]
def WQ(c d:↑Row)(e:Ev):6:=∃a r b,r.1=e.1/\e.2.2=a++r::b/\c=(if e.2.1=4 then a++b else e.2.2)/\d=if e.2.1=4 then e.2.2 else a++b
inductive mj:List ↑Row->↑Ev->↑Row->6|nil:mj [] [] []|snoc:∀{p q old new e},mj p q old->WQ old new e->mj (p++[old]) (q++[e]) new
section
variable{Γ:Tab}{names nm:List 5}{rows:List Row}{p:List (List Row)}{q:List Ev}{r:Row}{ds:List Int}{n:8}
def mj.len(h:mj p q rows):-p=-q:=by induction h with|nil=>rfl|snoc _ _ a=>simp[a]
def mj.inv(h:mj p q rows)(b:q=d++[e]):∃c a,p=c++[a]/\mj c d a/\WQ a rows e:=by cases h with|nil=>simp at b|snoc f g=>let(i,j):=List.append_inj' b 9;ext j;subst i;show#[_,_,9,f,g]
def Gd.mono(h:Gd names n rows)(a:n<=m):Gd names m rows:=#[h.ok,va h.ln a,h.ky]
structure St(names:↑5)(n:8)(p:List ↑Row)(q:↑Ev)(rows:↑Row):6 where
 hs:mj p q rows
 gp:∀x∈p,Gd names (n+1) x
 gr:Gd names n rows
def si(g:Bool)(a:↑Row)(r:Row)(b:↑Row):U:=.tup [N_ (if g=4 then a++b else a++r::b) (if g=4 then a++r::b else a++b),.bl g,.bl !g,.str r.1,lb (a++r::b)]
structure TH(Γ:Tab)(names:↑5):6 where
 told:CD Γ
 bk:∀rs p,Γ "Shelf.book" [MB rs p]\.ok (lT [tb rs,MB rs p])
 ZD:∀(k:Kd) (w:U) (rs:↑Row) (x:Row),Bv rs k w->(∀s∈rs,-s.2<=0x8)->-rs<=100->-x.2<=0x8->Γ "_law_stands" [w,Mo x]\.ok (bL (rs.any λs=>Qj s x))
 put:∀rs (x:Row) p w,w=.lst (x.2.map .str)\/w=.tup (x.2.map .str)->Bk names rs->Bk names (rs++[x])->d8 names x->(∀s∈rs,keyOf s≠keyOf x)->-p<=900->Γ "Shelf.put" [MB rs p,.str x.1,w]\.ok (lT [N_ rs (rs++[x]),MB (rs++[x]) (p++[rs])])
 ZE:∀(a b:↑Row) (x:Row) p w,w=.lst (x.2.map .str)\/w=.tup (x.2.map .str)->Bk names (a++x::b)->Bk names (a++b)->-x.2<=0x8->(∀y∈a,keyOf y≠keyOf x)->-p<=900->Γ "Shelf.take" [MB (a++x::b) p,.str x.1,w]\.ok (lT [N_ (a++x::b) (a++b),MB (a++b) (p++[a++x::b])])
 back:∀rs NK p,Bk names rs->Bk names NK->Γ "Shelf.back" [MB rs (p++[NK])]\.ok (lT [N_ rs NK,MB NK p])
 kn:WM names
theorem yq(m):∀q:↑Ev,dB (m+0x4) (q.map NO)=4|[]=>by rfl|e::q=>by rw[k9,dB,yq m q];simp[NO,Na,dB];show sf m _
def O(p:List ↑Row)(rows:↑Row):Sl:=bD (.A',MB rows p)
def Dv(H:TH Γ names)(h:st[0]?\O p rows)(hs:st.set 0 (O p rows)=st):Run (ev Γ (.bi .list [.NU "Shelf.book" "book" 0 []])) st (.own,lb rows) st:=by let g:=dv     (m:="book")       h ah ttt h (H.bk rows p) (.inr 9);rw[show st.set 0 (bD (.A',.ob _ _))=st from hs]at g;show cy (aa g ah) ttt 9
def wB(a:Run (ev Γ e) st (k,lb rows) st)(b:ba [(k,lb rows),(oL [Mo r])] st)(hk:k≠.any)(c:st[i]?\bD (.loc,Mo r))(hl:-rows<=100):Run (ev Γ (.bin .add e (.lst [.var i]))) st (.own,lb (rows++[r])) st:=by
 let d:1000<=et:=by decide
 show bK a (dr  (aa (ae c) ah) ttt (aq aA aI) (by change 1<=et;lia)) b ?_;let:=oz (k:=k) (k':=.own) (xs:=rows.map Mo) (ys:=[Mo r]) (by simp;lia) (by cases k<;>first|rfl|show absurd 9 hk) 9;rw[show rows.map Mo++[Mo r]=(rows++[r]).map Mo by simp]at this;show this
def zW(H:TH Γ names)(PM:∀x∈nm,x∈names)(hn:0< -nm)(hd:-ds=14)(h0:∀d∈ds,0<=d)(hN:n<=45)(hp:-p<=800)(A:St names n p q rows):∃l B D c,(St names (n+1) l B D/\-l<=-p+1/\(c=.Mx\/∃g a r b,c=si g a r b/\Bk names (a++b)/\Bk names (a++r::b))) /\ eF Γ fe [3] (fe.body.drop 1) [MB rows p,.lst (ds.map .int),.lst (nm.map .str),.lst (q.map NO)]\.ok (lT [c,MB D l,.lst (B.map NO)]):=by
 let al:(2000:8)<=et:=by decide
 let C:=A.gr;let Tj:=C.ln;let G:=C.bk 7;let MY:=A.hs.len;let pn:(0:Int)<(-nm:8):=7
 let ix:∀i,i<14->MX (ds.map U.int) (i:8)\.int (dd ds i):=λi h=>cR 7;let(x,hx,ax):=rQ (xs:=nm) (z:=dd ds 0) (t:=(-nm:8)) (fu h0 0) pn (Ϛ _);let(told,t1,t2,t3,t4):=H.told ds nm 7 h0 hn;let hr:d8 names (x,told):=#[PM x hx,t1,t2,λy I=>PM y (t3 y I)]
 let up:∀y∈p++[rows],Gd names (n+2) y:=λy I=>by
  obtain h|h:=ke.mp I
  .show(A.gp y h).up
  rw[js.mp h];show C.mono 7
 show let a1:Sl:=bD (aL (ds.map .int));?_;show let a2:Sl:=bD (aL (nm.map .str));?_;show let M (o x3 x4 x5 x6 x7 x8 x9 VD:Sl):ay:=[o,a1,a2,x3,x4,x5,x6,x7,x8,x9,VD];?_
 show let N:Sl:=cK;?_;show let i3:Sl:=bD (.io,.lst (q.map NO));?_;show let i4:Sl:=bD (.own,lb rows);?_;show let i5:Sl:=bD (.loc,Mo (x,told));?_;show let i6:Sl:=bD (lI (dd ds 11 % 0x8));?_;let ag:∀k:Kd,ON .len [(k,lb rows)]\lI (-rows:8):=λk=>by let:=eI (k:=k) (xs:=rows.map Mo);rw[eu]at this;show this
 let run:Wp Γ (fe.body.drop 1) (M (O p rows) i3 N N N N N N N) λf s=>∃(l:List ↑Row) (B:↑Ev) (D:↑Row) (c:U),(St names (n+1) l B D/\-l<=-p+1/\(c=.Mx\/∃g a r b,c=si g a r b/\Bk names (a++b)/\Bk names (a++r::b)))/\T5 f\(.loc,c)/\s[0]?\O l D/\Rk [3] s\[.lst (B.map NO)]:=by
  show Wp.set (Dv H 9 9) bM ?_;show Wp.set (cF (us:=[.str x,.tup (told.map .str)]) (aa (aP (aN 9) (bK (aP (aN 9) ao ttt (aU (ix 0 7))) (cy (aa (aN 9) ah) ttt eI) ttt (bY (by rw[eu];omega))) ttt (aU (by rw[eu];show ax))) (aa (aE (aa (aN 9) (aa (aN 9) ah)) ttt t4) ah)) ttt (aq (lN 9) (aq aA aI)) (by change 2<=et;lia)) bh ?_;show Wp.set (bK (aP (aN 9) ao ttt (aU (ix 11 7))) ao ttt (bY (by decide))) bh ?_;change Wp Γ _ (M (O p rows) i3 i4 i5 i6 N N N N) _;let v:cm .ne (.lst (q.map NO)) (.lst [])\!q.isEmpty:=by rw[fb (by rw[Na];show yq 45 q),Ð]
  show Wp.if2 (fS (ib (aQ (ae 9) ao ttt (gy 9)) λ_=>cv (aQ (h_ (i:=3) (k:=.io) 9) d4 #[#[.io,9,9],ttt] v))) (λT=>?_) λ_=>?_
  .
   rw[df,S7,ŵ]at T;obtain Y|⟨B,e,Y⟩:=ι q
   .show absurd Y T.2
   rw[μ]at Y;let(l,m,rfl,hh,a,r,b,e1,e2,v,w):=A.hs.inv Y;let hO:=A.gp m (by simp);let ZF:=hO.bk 7;let VE:=K4 (Γ:=Γ) (st:=M (O (l++[m]) rows) i3 i4 i5 i6 N N N N) (i:=3) (k:=.io) (us:=q.map NO) (u:=NO e) 9 9 (by left);rw[Y,nH,List.map_singleton,χ]at VE;show Wp.la VE FU ?_;show Wp.ret (cF (us:=[N_ rows m,.bl !e.2.1,.bl e.2.1,.str e.1,lb e.2.2]) (aa (dv (rs:=[]) (u0:=tb rows) (us0:=M7 (l++[m])) 9 ah ttt 9 (H.back rows m l G ZF) (.inr 9)) (aa (Le (ae 9)) (aa (ae 9) (aa (ae 9) (aa (ae 9) ah))))) ttt (aq aA (aq aA (aq aA (aq aA (aq aA aI))))) (by change 0x5<=et;lia)) bj ?_;show#[l,B,m,_,#[#[hh,λy I=>(A.gp y (by simp[I])).up,hO],by simp;lia,.inr #[!e.2.1,a,r,b,?_,?_,?_]],9,9,9]
   .unfold si;rw[<-e2,e1];cases Q:e.2.1<;>rw[Q]at v w<;>simp at v w<;>simp[v,w]
   .cases Q:e.2.1<;>rw[Q]at v w<;>simp at v w
    .show w▸G
    show v▸ZF
   rw[<-e2];cases Q:e.2.1<;>rw[Q]at v w<;>simp at v w
   .show v▸ZF
   show w▸G
  let w:cm .ne (lb rows) (.lst [])\!rows.isEmpty:=by unfold lb;rw[fb (sf 47 rows),Ð]
  show Wp.if2 (fS (ib (aQ (ae 9) ao ttt (j6 9)) λ_=>cv (aQ (aB (i:=0x4) 9) d4 ∅ w))) (λT=>?_) λ_=>?_
  .
   rw[df,S7,ŵ]at T;let S_:0< -rows:=ϕ.mpr T.2;let(u,ab,ac):=CB (xs:=rows) (z:=dd ds 12) (t:=(-rows:8)) (fu h0 12) (by omega) (Ϛ _);let(a,b,NV,ha,Q,_,J):=C.at ab;let e:=H.ZE a b u p _ (.inr 9) (NV▸G) (J.bk 7) (C.ok u ab).NG ha (by omega);rw[<-NV]at e;let Nm:MX (rows.map Mo) (dd ds 12 % (-rows:8))\Mo u:=by unfold MX at ac ⊢;rw[eu];let(j,q1,q2):=o9.mp ac;rw[q1];change(rows.map Mo)[j]?=_;rw[mx,q2];rfl
   show Wp.la (aP (x:=(.bor 0x4,lb rows)) (r:=(.loc,Mo u)) (aB 9) (bK (aP (aN 9) ao ttt (aU (ix 12 7))) (cy (aa (aB (i:=0x4) 9) ah) ∅ (ag _)) ttt (bY (by omega))) ∅ (aU (k:=.bor 0x4) Nm)) (qa (.inl 9)) ?_;show Wp.app (k:=.io) (us:=q.map NO) 9 (cF (us:=[.str u.1,.bl dt,lb rows]) (aa (ae 9) (aa ao (aa (aB 9) ah))) ∅ (aq aA (aq aA (aq (uj 9) aI))) (by change 3<=et;omega)) aA 9 9 (by rw[eu];omega) (by intro z;ext z) ?_;show Wp.ret (cF (us:=[N_ rows (a++b),.bl dt,.bl 4,.str u.1,lb rows]) (aa (dv (rs:=[(zS u.1),(lT (u.2.map .str))]) (u0:=tb rows) (us0:=M7 p) 9 (aa (ae 9) (aa (ae 9) ah)) ttt 9 e (.inr 9)) (aa ao (aa ao (aa (ae 9) (aa (ae 9) ah))))) ttt (aq aA (aq aA (aq aA (aq aA (aq aA aI))))) (by change 0x5<=et;lia)) bj ?_;show#[p++[rows],q++[(u.1,dt,rows)],a++b,_,#[#[A.hs.snoc #[a,u,b,9,NV,9,9],up,J.up],by simp,.inr #[dt,a,u,b,?_,J.bk 7,NV▸G]],9,9,?_]
   .unfold si;rw[<-NV];rfl
   rw[nH];rfl
  show Wp.if2 (ju (aa (aB 9) (aa (ae (u:=Mo (x,told)) 9) ah)) ∅ (H.ZD .any (lb rows) rows (x,told) .lst (λs h=>(C.ok s h).NG) (by omega) t1) 9) (λ_=>Wp.ret ao bj #[p,q,rows,.Mx,#[#[A.hs,λy I=>(A.gp y I).up,C.up],by simp,.inl 9],9,9,9]) λhs=>?_;let hk:∀s∈rows,keyOf s≠keyOf (x,told):=λs h e=>ľ.mp hs s h (decide_eq_true e);let J:=C.snoc hr hk;let e:=H.put rows (x,told) p _ (.inr 9) G (J.bk 7) hr hk (by omega);let j0:∀st:ay,st[0x5]?\bD (.loc,Mo (x,told))->Run (ev Γ (.idx Nh cO)) st (zS x) st:=λst h=>aP (x:=(.loc,Mo (x,told))) (ae h) ao ttt 9;show Wp.app (k:=.io) (us:=q.map NO) 9 (cF (us:=[.str x,.bl 4,lb (rows++[(x,told)])]) (aa (j0 _ 9) (aa ao (aa (wB (aB (i:=0x4) 9) ∅ (by intro z;ext z) 9 (by omega)) ah))) ttt (aq aA (aq aA (aq t5 aI))) (by change 3<=et;omega)) aA 9 9 (by rw[eu];omega) (by intro z;ext z) ?_;show Wp.ret (cF (us:=[N_ rows (rows++[(x,told)]),.bl 4,.bl dt,.str x,lb (rows++[(x,told)])]) (aa (dv (rs:=[(zS x),(lT (told.map .str))]) (u0:=tb rows) (us0:=M7 p) 9 (aa (j0 _ 9) (aa (aP (x:=(.loc,Mo (x,told))) (ae 9) ao ttt 9) ah)) ttt 9 e (.inr 9)) (aa ao (aa ao (aa (j0 _ 9) (aa (wB (aB (i:=0x4) 9) ∅ (by intro z;ext z) 9 (by omega)) ah))))) ttt (aq aA (aq aA (aq aA (aq aA (aq t5 aI))))) (by change 0x5<=et;lia)) bj ?_;show#[p++[rows],q++[(x,4,rows++[(x,told)])],rows++[(x,told)],_,#[#[A.hs.snoc #[rows,(x,told),[],9,9,by simp,9],up,J],by simp,.inr #[4,rows,(x,told),[],?_,by simpa using G,J.bk 7]],9,9,?_]
  .unfold si;simp
  rw[nH];rfl
 let(f,s,a,l,B,D,c,h1,h2,h3,h4):=run;show#[l,B,D,c,h1,cJ #[9,by decide] 9 a h2 h3 h4]
def zX{m:8}(H:TH Γ names)(hw:w∈names)(D:("in/2":5)∈names)(ho:("out/3":5)∈names)(hm:m<=3)(hN:n<=45)(hp:-p<=800)(G:St names n p q rows):∃c d,(St names n c d rows/\-c<=-p+0x6) /\ eF Γ b8 [3] (b8.body.drop 1) [MB rows p,.str w,.int (m:Int),.lst (q.map NO)]\.ok (lT [.bl 4,MB rows c,.lst (d.map NO)]):=by
 let ab:(2000:8)<=et:=by decide
 show let T:↑5:=["in/2","out/3"];?_
 let C:d8 names (w,T):=#[hw,by change 2<=0x8;decide,by change T.Nodup;decide +kernel,λy hy=>by
  obtain rfl|hy:=gs.mp hy
  .show D
  rw[js.mp hy];show ho]
 let j:=G.gr;let Tj:=j.ln;let Q:=j.bk 7;show let M (p:List ↑Row) (q:↑Ev) (x4 o t:Sl):ay:=[O p rows,bD (zS w),bD (lI (m:Int)),bD (.io,.lst (q.map NO)),x4,o,t];?_
 show let Y:Sl:=bD (.loc,Mo (w,T));?_;show let N:Sl:=cK;?_;let run:Wp Γ (b8.body.drop 1) (M p q N N N) λf s=>∃(c:List ↑Row) (d:↑Ev),(St names n c d rows/\-c<=-p+0x6)/\T5 f\bL 4/\s[0]?\O c rows/\Rk [3] s\[.lst (d.map NO)]:=by
  show Wp.set (cF (us:=[.str w,.tup (T.map .str)]) (aa (ae 9) (aa (cF (us:=T.map .str) (aa ao (aa ao ah)) ttt (aq aA (aq aA aI)) (by change 2<=et;omega)) ah)) ttt (aq aA (aq aA aI)) (by change 2<=et;omega)) bh ?_;change Wp Γ _ (M p q Y N N) _;show Wp.if2 (ju (aa (dv (rs:=[]) (u0:=tb rows) (us0:=M7 p) 9 ah ttt 9 (H.bk rows p) (.inr 9)) (aa (ae (u:=Mo (w,T)) 9) ah)) ttt (H.ZD .loc (tb rows) rows (w,T) .tup (λs h=>(j.ok s h).NG) 7 C.NG) 9) (λ_=>Wp.ret ao bj #[p,q,#[G,7],9,9,9]) λhs=>?_;let hk:∀s∈rows,keyOf s≠keyOf (w,T):=λs h e=>ľ.mp hs s h (decide_eq_true e);let QY:=j.snoc C hk;let I:=QY.bk 7;let v:gl (lw (rows++[(w,T)])) (lw rows)=[]:=by
   let:=Gz (a:=rows) (r:=(w,T)) (b:=[]) (by rw[uv];show H.kn rows Q) (H.kn _ I)
   rwa [uv]at this
  let hT:∀st:ay,Run (ev Γ (.lst [(cQ "in/2"),(cQ "out/3")])) st (oL (T.map .str)) st:=λst=>dr (aa ao (aa ao ah)) ttt (aq aA (aq aA aI)) (by change 2<=et;omega);let J:=j8 (k:=.loc) (z:=(m:Int)) 7 7;show r_ (l:=hW ((m:Int)).toNat) (λi:8=>(lI (0+(i:Int)))) (λk s=>∃c d o t,St names n c d rows/\-c<=-p+2 * k/\s=M c d Y o t) (aa (ae 9) ah) ttt J 9 (λ_ _ _=>ttt) ⟨p,q,N,N,G,7,9⟩ ?_ ?_
  .rintro k _ i D ⟨g,A,o,t,B,Ra,rfl⟩;let ac:k<m:=by let:=(gj.mp D).1;exists this
   let MY:=B.hs.len;let e1:=H.put rows (w,T) g _ (.inl 9) Q I C hk 7;let e2:=H.ZE rows [] (w,T) (g++[rows]) _ (.inl 9) I (by left) C.NG hk (by simp;lia);rw[uv]at e2;show let R:↑Row:=rows++[(w,T)];?_;let s1:WQ rows R (w,4,R):=#[rows,(w,T),[],9,9,(uv rows).symm,9]
   let s2:WQ R rows (w,dt,R):=#[rows,(w,T),[],9,9,9,(uv rows).symm]
   show#[_,dI bh,?_];show Wp.set (wB (Dv H 9 9) ttt (by simp) 9 7) bM ?_;show Wp.app (k:=.io) (us:=A.map NO) 9 (cF (us:=[.str w,.bl 4,lb R]) (aa (ae 9) (aa ao (aa (aB 9) ah))) ∅ (aq aA (aq aA (aq (uj 9) aI))) (by change 3<=et;omega)) aA 9 9 (by rw[eu];lia) (by intro z;ext z) ?_;show Wp.no (aQ (x:=(.loc,.lst ((gl (lw R) (lw rows)).map .str))) (y:=(oL [])) (aP (dv (rs:=[(zS w),(oL (T.map .str))]) (u0:=tb rows) (us0:=M7 g) 9 (aa (ae 9) (aa (hT _) ah)) ttt 9 e1 (.inr 9)) ao ttt 9) d4 ttt (by rw[v];rfl)) 9 ?_;show Wp.app (k:=.io) (us:=A.map NO++[NO (w,4,R)]) 9 (cF (us:=[.str w,.bl dt,lb R]) (aa (ae 9) (aa ao (aa (ae 9) ah))) ttt (aq aA (aq aA (aq aA aI))) (by change 3<=et;omega)) aA 9 9 (by rw[ro,eu];simp;lia) (by intro z;ext z) ?_;show Wp.no (aQ (x:=(.loc,.lst ((gl (lw R) (lw rows)).map .str))) (y:=(oL [])) (aP (dv (rs:=[(zS w),(oL (T.map .str))]) (u0:=tb R) (us0:=M7 (g++[rows])) 9 (aa (ae 9) (aa (hT _) ah)) ttt 9 e2 (.inr 9)) ao ttt 9) d4 ttt (by rw[v];rfl)) 9 ?_;show Wp.nil #[9,g++[rows]++[R],A++[(w,4,R)]++[(w,dt,R)],bD (lI (0+(i:Int))),bD (.loc,lb R),#[(B.hs.snoc s1).snoc s2,λy hy=>?_,j],by simp;lia,?_]
   .rcases ke.mp hy with h|h
    .rcases ke.mp h with h|h
     .show B.gp y h
     rw[js.mp h];show j.up
    rw[js.mp h];show QY
   change _=M _ _ _ _ _;erw[M,nH];rfl
  rintro _ ⟨g,A,o,t,B,Ra,rfl⟩;rw[Q0]at Ra;show Wp.ret ao bj #[g,A,#[B,7],9,9,9]
 let(f,s,a,c,d,h1,h2,h3,h4):=run;show#[c,d,h1,cJ #[9,by decide] 9 a h2 h3 h4]
end
section
variable{Γ:Tab}{names nm:List 5}{rows:List Row}{p:List (List Row)}{q:List Ev}{r:Row}{ns ds:List Int}{n:8}
def mj.zero(h:mj p [] rows):p=[]/\rows=[]:=by generalize e:[]=q at h;cases h with|nil=>show#[9,9]|snoc _ _=>simp at e
def Jp:lw []=[]:=by
 let h:Kn [] _:=#[.nil,(λ_ _ x a=>by ext a),(λr b=>by ext b)]
 rw[uB h];show List.perm_nil.mp (bN [])
def wC(h:Na 50 u=4):cm .eq u u\4:=by erw[cm];rw[if_pos #[h,h],kW 50 u h]
def Lj(h:st[i]?\bD (bL b)):Run (MM Γ (.var i)) st b st:=af (h_ h) (cV 9)
structure LH(Γ:Tab)(nm names:↑5):6 where
 cell:ou Γ
 drawn:j_ Γ
 bk:∀rs p,Γ "Shelf.book" [MB rs p]\.ok (lT [tb rs,MB rs p])
 ln:∀rs p,Bk names rs->Γ "Shelf.learnt_now" [MB rs p]\.ok (.own,.tup [.lst ((lw rs).map .str),MB rs p])
 de:∀rs (p:List ↑Row),Γ "Shelf.deeds" [MB rs p]\.ok (lT [.int (-p:8),MB rs p])
 back:∀rs NK p,Bk names rs->Bk names NK->Γ "Shelf.back" [MB rs (p++[NK])]\.ok (lT [N_ rs NK,MB NK p])
 turn:∀(n:8) p q rows (ds:↑Int),-ds=14->(∀d∈ds,0<=d)->n<=45->-p<=800->St names n p q rows ->
  ∃(p':List ↑Row) (q':↑Ev) (G':↑Row) (res:U),(St names (n+1) p' q' G'/\-p'<=-p+1/\(res=.Mx\/∃g a r b,res=si g a r b/\Bk names (a++b)/\Bk names (a++r::b))) /\
   Γ "_law_turn" [MB rows p,.lst (ds.map .int),.lst (nm.map .str),.lst (q.map NO)]\.ok (lT [res,MB G' p',.lst (q'.map NO)])
 R7:∀(n m:8) p q rows (w:5),w∈names->m<=3->n<=45->-p<=800->St names n p q rows ->
  ∃(p':List ↑Row) (q':↑Ev),(St names n p' q' rows/\-p'<=-p+0x6)/\Γ "_law_in_and_out" [MB rows p,.str w,.int (m:Int),.lst (q.map NO)]\.ok (lT [.bl 4,MB rows p',.lst (q'.map NO)])
 lean:∀(rs:↑Row) (w:5),w∈names->(∀s∈rs,s.1∈names)->∃F:↑5,w∈F/\-F<=24/\Ub rs F F/\Γ "_law_leaning" [lb rs,.str w]\.ok (oL (F.map .str))
 afr:∀rs p,Gd names 50 rs->Γ "_law_afresh" [MB rs p]\.ok (lT [.bl 4,MB rs p])
 kn:WM names
 To:∀rs,Bk names rs->-lw rs<64
def L(ns ds:↑Int)(nm:↑5)(p:List ↑Row)(rows:↑Row)(q:↑Ev)(t:ay):ay:=bD (aL (ns.map .int))::bD (oL (ds.map .int))::bD (oL (nm.map .str))::O p rows::bD (oL (q.map NO))::t
def lB:↑TM.S:=match qg.body.getD 0x4 .bad with|.MR _ _ _ _ b=>b|_=>[]
variable{x5 x6 x7 x8 x9 VD ZG WR:Sl}
def GA(H:LH Γ nm names)(a:Gd names 50 rows):Run (MM Γ (.not (.NT "_law_afresh" 3 [] []))) (L ns ds nm p rows q t) dt (L ns ds nm p rows q t) :=iY  (CW          9 ah ttt 9 (H.afr rows p a) (.inr 9) 9 9)
def Lk(H:LH Γ nm names)(i:Bk names (a++b))(d:Bk names (a++r::b))(k:∀u v w y C D G,Wp Γ I (L ns ds nm p rows q [x5,u,v,w,y,C,D,G]) Q):Wp Γ (lB.getD 1 .bad::I) (L ns ds nm p rows q [x5,bD (.loc,si g a r b),x7,x8,x9,VD,ZG,WR]) Q:=by
 let J:(1000:8)<=et:=by decide
 show Wp.yes (aQ (ae 9) ao ttt (c:=4) 9) 9 ?_;show Wp.la (ae 9) Jo ?_;show let A:=gl (lw (if g=4 then a++b else a++r::b)) (lw (if g=4 then a++r::b else a++b));?_;show let B:=gl (lw (if g=4 then a++r::b else a++b)) (lw (if g=4 then a++b else a++r::b));?_;let f:=Gz (H.kn _ i) (H.kn _ d);let O8:=H.To _ i;let Pn:=H.To _ d;let lA:-A<=100:=va (Dc _ _) (by split<;>lia);let N:-B<=100:=va (Dc _ _) (by split<;>lia);show let S:ay:=L ns ds nm p rows q [x5,bD (.loc,si g a r b),bD (lT [.lst (A.map .str),.lst (B.map .str)]),bD (bL g),bD (bL !g),bD (zS r.1),bD (.loc,lb (a++r::b)),WR];?_;change Wp Γ _ S Q;let j:∀st:ay,st[0x7]?\bD (lT [.lst (A.map .str),.lst (B.map .str)])->Run (ev Γ (.idx (.var 0x7) cO)) st (.loc,.lst (A.map .str)) st:=λst h=>aP (ae h) ao ttt 9;let l:∀st:ay,st[0x7]?\bD (lT [.lst (A.map .str),.lst (B.map .str)])->Run (ev Γ (.idx (.var 0x7) cA)) st (.loc,.lst (B.map .str)) st:=λst h=>aP (ae h) ao ttt 9;let m:∀X:↑5,cm .ne (.lst (X.map U.str)) (.lst [])\!X.isEmpty:=λX=>by rw[fb (by rw[Na];show dg _ _),Ð]
 show Wp.no (t7 (K7 (fS (ib (aQ (j S 9) d4 ttt (m A)) λ_=>cv (iY (Lj 9)))) λ_=>lO (fS (ib (aQ (l S 9) d4 ttt (m B)) λ_=>cv (iY (Lj 9)))))) ?_ ?_
 .cases g
  .let:A=[]:=f;rw[this];simp
  let:B=[]:=f;left
 let(F,T,f2,Y,f4):=H.lean (a++r::b) r.1 (d.ok r (by simp)).word λs hs=>(d.ok s hs).word;show Wp.set (aE (aa (ae 9) (aa (ae 9) ah)) ttt f4) bM ?_;show let S2:ay:=L ns ds nm p rows q [x5,bD (.loc,si g a r b),bD (lT [.lst (A.map .str),.lst (B.map .str)]),bD (bL g),bD (bL !g),bD (zS r.1),bD (.loc,lb (a++r::b)),bD (oL (F.map .str))];?_;let NW:∀x∈A++B,x∈F:=λx e=>by
  let o:x∈lw (a++r::b)/\x∉lw (a++b):=by
   ext g
   .rcases ke.mp e with h|h
    .let:A=[]:=f;left
    let h:=MW.mp h;show#[h.1,of_decide_eq_true h.2]
   obtain h|h:=ke.mp e
   .let h:=MW.mp h;show#[h.1,of_decide_eq_true h.2]
   let:B=[]:=f;left
  show FR (H.kn _ i) (H.kn _ d) T Y o.1 o.2
 let e:=kU (cond:=aM Γ [.cmp .Mw K' (.var 13)]) (elt:=ev Γ K') (src:=[(oL ((A++B).map .str))]) (st:=S2) ttt .loc (.inl 9) U.str U.str (λx=>gi (x∉F)) .loc (A++B) [] (by simp;omega)
  (λx _=>#[cv (aQ (ae 9) (aB 9) ∅ eZ),λ_=>#[ae 9,aA]])
 rw[vr,SM.mpr λx h z=>absurd (NW x h) (show x∉F from of_decide_eq_true z)]at e;let t:=oz (k:=.loc) (k':=.loc) (xs:=A.map U.str) (ys:=B.map U.str) (by rw[eu,eu];omega) 9 9;rw[<-nH]at t;show Wp.no (st1:=S2) (aQ (bI (rs:=[(oL ((A++B).map .str))]) (aa (bK (j S2 9) (l S2 9) ttt t) ah) ttt (by change bD _=_;rw[lg];rfl) e) d4 ttt (c:=dt) 9) 9 (k _ _ _ _ _ _ _)
def Jq{k}(H:LH Γ nm names)(PM:∀x∈nm,x∈names)(hn:0< -nm)(hd:-ds=0x4)(h0:∀d∈ds,0<=d)(hk:k<41)(hp:-p<=0x7 * k)(hS:St names k p q rows):Wp Γ lB (L ns ds nm p rows q [bD (lI (0+(k:Int))),x6,x7,x8,x9,VD,ZG,WR]) λf s=>f=.nx/\∃A D G T h j l o I v y,s=L ns ds nm A G D [T,h,j,l,o,I,v,y]/\St names (k+1) A D G/\-A<=0x7 * (k+1):=by
 let ac:(1000:8)<=et:=by decide
 show let x5:Sl:=bD (lI (0+(k:Int)));?_;let(z,hz):=H.cell ns (20+k) 7;let SH:Γ "_law_cell" [.lst (ns.map .int),.int (20+(0+(k:Int)))]\.ok (lI z):=by left
 let(es,d1,d2,d3):=H.drawn z 14 7;let(B,J,e,ab,(s1,l1,Td),e1):=H.turn k p q rows es d1 d2 7 7 hS;show Wp.set (Jh (rs:=[(oL (es.map .int)),(.bor 2,.lst (nm.map .str)),(.bor 0x4,.lst (q.map NO))]) (u0:=tb rows) (us0:=M7 p) (u:=tb rows) (us:=M7 p) (u':=tb e) (us':=M7 B) (ws:=[.lst (J.map NO)]) 9 (aa (aE (aa (aE (aa (aN 9) (aa (bK ao (ae 9) ttt dY) ah)) ttt SH) (aa ao ah)) ttt d3) (aa (aB 9) (aa (aB 9) ah))) #[#[.own,9,9],#[.own,9,9],ttt] 9 e1 (.inr 9) 9 9) bh ?_;change Wp Γ (lB.getD 1 .bad::lB.drop 2) (L ns ds nm B e J [x5,bD (.loc,ab),x7,x8,x9,VD,ZG,WR]) _;let N:∀h j l o I v y,Wp Γ (lB.drop 2) (L ns ds nm B e J [x5,h,j,l,o,I,v,y]) λf s=>f=.nx/\∃A D G T h j l o I v y,s=L ns ds nm A G D [T,h,j,l,o,I,v,y]/\St names (k+1) A D G/\-A<=0x7 * (k+1):=by
  intro h j l o I v y;let(w,hw,aw):=rQ (xs:=nm) (z:=0+(k:Int)) (t:=(-nm:8)) 7 7 (Ϛ _);show Wp.set (aP (aB 9) (bK (ae 9) (cy (aa (aB 9) ah) ∅ eI) ttt (bY (by left))) ∅ (aU (k:=.bor 2) (by rw[eu];show aw))) bh ?_;change Wp Γ _ (L ns ds nm B e J [x5,h,j,l,o,bD (zS w),v,y]) _;let i2:MX (ds.map U.int) ((2:8):Int)\.int (dd ds 2):=cR 7;let QZ:=aQ (Γ:=Γ) (st:=L ns ds nm B e J [x5,h,j,l,o,bD (zS w),v,y]) (bK (aP (aB (i:=1) 9) ao ∅ (aU (k:=.bor 1) i2)) (ao (u:=.int 0x6)) ttt (bY (by decide))) (ao (u:=.int 1)) ttt (gy 9);let Y:∀C Q,St names (k+1) C Q e->-C<=0x7 * (k+1)->Wp Γ (lB.drop 0x4) (L ns ds nm C e Q [x5,h,j,l,o,bD (zS w),v,y]) λf s=>f=.nx/\∃A D G T h j l o I v y,s=L ns ds nm A G D [T,h,j,l,o,I,v,y]/\St names (k+1) A D G/\-A<=0x7 * (k+1):=λC Q s2 l2=>by let t:=aQ (Γ:=Γ) (st:=L ns ds nm C e Q [x5,h,j,l,o,bD (zS w),v,y]) (bK (ae (i:=0x5) 9) (ao (u:=.int 3)) ttt (bY (by decide))) (ao (u:=.int 0)) ttt (gy 9);show Wp.no (fS (ib t λ_=>cv (GA H (s2.gr.mono (by omega))))) (À _) (Wp.nil #[9,C,Q,e,_,_,_,_,_,_,_,_,9,s2,l2])
  cases hb:dd ds 2 % 0x6==1 with
  |false=>rw[hb]at QZ;show Wp.no (fS (vY QZ)) 9 (Y B J s1 7)|true =>
   rw[hb]at QZ;obtain⟨m,hm,em⟩:∃m:8,m<=3/\1+(0+(k:Int)) % 3=(m:Int):=#[1+k % 3,7,7]
   let(C,Q,(s2,l2),e2):=H.R7 (k+1) m B J e w (PM w hw) hm 7 7 s1;rw[<-em]at e2;show Wp.no (fS (rK QZ (cv (iY (c:=4) (CW (rs:=[(zS w),(lI (1+(0+(k:Int)) % 3)),(.bor 0x4,.lst (J.map NO))]) (u0:=tb e) (us0:=M7 B) (u:=tb e) (us:=M7 B) (u':=tb e) (us':=M7 C) (ws:=[.lst (Q.map NO)]) 9 (aa (ae 9) (aa (bK ao (bK (ae 9) ao ttt (bY (by decide))) ttt dY) (aa (aB 9) ah))) ∅ 9 e2 (.inr 9) 9 9))))) 9 (Y C Q s2 7)
 obtain rfl|⟨g,a,r,b,rfl,h1,h2⟩:=Td
 .show Wp.no (aQ (ae 9) ao ttt (c:=dt) 9) 9 (N _ _ _ _ _ _ _)
 show Lk H h1 h2 N
def FV(H:LH Γ nm names)(PM:∀x∈nm,x∈names)(hn:0< -nm)(NP:-ns<=63)(hd:-ds=0x4)(h0:∀d∈ds,0<=d)(hc:Γ "_law_cell" [.lst (ns.map .int),.int 0]\.ok (lI z))(Nd:Γ "_law_drawn" [.int z,.int 0x4]\.ok (oL (ds.map .int))) (RO:Γ "_law_names" [.lst (ns.map .int),.int 1,.int (1+dd ds 0 % 14)]\.ok (oL (nm.map .str))):bx Γ qg [.lst (ns.map .int)]\.ok (bL 4):=by
 let ac:(1000:8)<=et:=by decide
 let i0:MX (ds.map U.int) ((0:8):Int)\.int (dd ds 0):=cR 7;let i1:MX (ds.map U.int) ((1:8):Int)\.int (dd ds 1):=cR 7;let n1:=fu h0 1;show let N:Sl:=cK;?_;let run:Wp Γ qg.body (TM.start [.lst (ns.map .int)] 13) λf _=>f=.rt .loc (.bl 4):=by
  show Wp.set (aE (aa (aE (aa (aN 9) (aa ao ah)) ttt hc) (aa ao ah)) ttt Nd) bM ?_;show Wp.set (aE (aa (aN 9) (aa ao (aa (bK ao (bK (aP (aB 9) ao ∅ (aU (k:=.bor 1) i0)) ao ttt (bY (by decide))) ttt dY) ah))) ttt RO) bM ?_;show Wp.mf ?_;show Wp.set d4 bM ?_;change Wp Γ _ (L ns ds nm [] [] [] [N,N,N,N,N,N,N,N]) _;show let b:Int:=if ((-ns:8):Int) - 20<40 then((-ns:8):Int) - 20 else 40;?_
  show let m:Int:=if b>dd ds 1 % 41 then b else dd ds 1 % 41;?_
  let hm:0<=m/\m<=40:=by grind
  let gm:Run (ev Γ (.bi .max [.bin .mod (.idx MA cA) (cI 41),.bi .min [(cI 40),.bin .sub (.bi .len [K']) (cI 20)]])) (L ns ds nm [] [] [] [N,N,N,N,N,N,N,N]) (lI m) (L ns ds nm [] [] [] [N,N,N,N,N,N,N,N]) :=cy (aa (bK (aP (aB 9) ao ∅ (aU (k:=.bor 1) i1)) ao ttt (bY (by decide))) (aa (cy (r:=(lI b)) (aa ao (aa (bK (cy (aa (aN 9) ah) ttt eI) ao ttt mQ) ah)) ttt (by rw[eu];rfl)) ah)) ttt 9
  show r_ (l:=hW m.toNat) (λi:8=>(lI (0+(i:Int)))) (λk s=>∃p q rows j y A B C D G I,s=L ns ds nm p rows q [j,y,A,B,C,D,G,I]/\St names k p q rows/\-p<=0x7 * k) (aa gm ah) ttt (j8 hm.1 (by omega)) 9 (λ_ _ _=>ttt) ⟨[],[],[],_,_,_,_,_,_,_,_,9,⟨.nil,(λ_ h=>by ext h),⟨(λ_ h=>by ext h),i9 _,Z5⟩⟩,i9 _⟩ ?_ ?_
  .rintro k _ i hi ⟨p,q,rows,j,y,A,B,C,D,G,I,rfl,o,hp⟩;obtain⟨hk,rfl⟩:k<m.toNat/\k=i:=by let(a,b):=gj.mp hi;rw[ϣ]at b;rw[Q0]at a;show#[a,b]
   show#[_,dI bh,Jq H PM hn hd h0 (by omega) hp o]
  rintro _ ⟨p,q,rows,j,y,A,B,C,D,G,I,rfl,o,hp⟩;rw[Q0]at o hp;let MY:=o.hs.len;let Wu:∀x∈p++[rows],Bk names x:=λx hx=>by
   obtain h|h:=ke.mp hx
   .show(o.gp x h).bk (by omega)
   rw[js.mp h];show o.gr.bk (by omega)
  show let T:ay:=[j,y,A,B,C,D,G,I];?_
  let td:=dv (Γ:=Γ) (st:=L ns ds nm p rows q T) (i:=3) (f:="Shelf.deeds") (m:="deeds") (es:=[]) (rs:=[]) (u0:=tb rows) (us0:=M7 p) (u:=tb rows) (us:=M7 p) (u':=tb rows) (us':=M7 p) 9 ah ttt 9 (H.de rows p) (.inr 9);show Wp.no (t7 (iZ (GA H (o.gr.mono (by omega))) (lO (aQ td (cy (aa (aB (i:=0x4) 9) ah) ∅ eI) ttt (c:=dt) (by rw[eu,<-MY];show eT 9))))) 9 ?_;change Wp Γ _ (L ns ds nm p rows q T) _;show r_ (l:=hW ((-q:8):Int).toNat) (λi:8=>(lI (0+(i:Int)))) (λk s=>∃J w t j,s=L ns ds nm J t q [j,y,A,B,C,D,G,I]/\mj J w t/\(∀x∈J++[t],Bk names x)/\-w+k=-q) (rs:=[(lI ((-q:8):Int))]) (aa (cy (aa (aB (i:=0x4) 9) ah) ∅ (by let:=eI (k:=.bor 0x4) (xs:=q.map NO);rwa [eu]at this)) ah) ttt (j8 7 (by omega)) 9 (λ_ _ _=>ttt) ⟨p,q,rows,_,9,o.hs,Wu,9⟩ ?_ ?_
  .rintro k _ i hi ⟨J,w,t,j,rfl,Y,hb,hl⟩;let hk:k< -q:=by let:=(gj.mp hi).1;exists this
   obtain v|⟨q2,e,v⟩:=ι w
   .rw[v]at hl;simp at hl
    omega
   rw[μ]at v;let(Q,g,rfl,ab,_):=Y.inv v;rw[v]at hl;show#[_,dI bh,Wp.exp (dv (rs:=[]) (u0:=tb t) (us0:=M7 (Q++[g])) (u:=tb t) (us:=M7 (Q++[g])) (u':=tb g) (us':=M7 Q) 9 ah ttt 9 (H.back t g Q (hb _ (by simp)) (hb _ (by simp))) (.inr 9)) (Wp.nil #[9,Q,q2,g,_,9,ab,λx hx=>hb x ?_,by simp at hl;lia])];obtain h|h:=ke.mp hx
   .simp[h]
   simp[js.mp h]
  rintro _ ⟨J,w,t,j,rfl,Y,hb,hl⟩;rw[Q0]at hl;let v:w=[]:=Xa 7;rw[v]at Y;let(rfl,rfl):=Y.zero;let b0:Bk names []:=#[(λ_ h=>by ext h),ri _]
  let hl:=H.ln [] [] b0;rw[Jp]at hl;show Wp.ret (t6 (wb (p:=4) (q:=4) (gI (dv (rs:=[]) (u0:=tb []) (us0:=M7 []) 9 ah ttt 9 (H.bk [] []) (.inr 9)) (cF (rs:=[]) (us:=[]) ah ttt aI (ri _)) ttt (wC (wy 47 []))) λ_=>wb (p:=4) (q:=4) (gI (dv (rs:=[]) (u0:=tb []) (us0:=M7 []) 9 ah ttt 9 hl (.inl 9)) d4 ttt (wC (sf 47 []))) λ_=>oh (gI (dv (rs:=[]) (u0:=tb []) (us0:=M7 []) 9 ah ttt 9 (H.de [] []) (.inr 9)) ao ttt (wC 9)))) bj 9
 show Jj 9 (.inr 9) run
end
def makers:CG prog:=#[9,9,9,9,9,9]
def WN:Lrn prog:=#[9,9,9,9,9]
def b_(e:bx (MP prog n) a b=r)(h:NY prog f a:=by show 9)(c:a.io=cK:=by show 9):MP prog (n+1) f b=r:=(b7 h b c).trans e
def ip(e:eF (MP prog n) b [] a c=r)(h:NY prog f b:=by show 9)(d:b.io\([],a):=by show 9):MP prog (n+1) f c=r:=(kS h c d).trans e
def ZH(n)(f:-d<=24)(h:Bk d e):∃L,Kn e L/\-L<=24/\MP prog (n+0x5) "learnt" [tb e]\.ok (oL ((lw e).map .str)):=by let hl:=h.ln;let(g,a,b,c):=FG WN n h.ok f 7;show#[_,Kn.of a,by rw[eu];show b,?_];rw[uB (Kn.of a)];show b_ (KL.wj 7 c)
def VF(c:-b<=24):WM b:=λd h=>let ⟨L,a,_⟩:=ZH 0 c h;⟨L,a⟩
def To(e:-c<=24)(d)(h:Bk c d):-lw d<64:=by let(L,a,b,_):=ZH 0 e h;rw[uB a,(bN _).length_eq];lia
def WS(n)(b:-a<=24):WK (MP prog (n+0x5)) "learnt" a:=λd h=>#[To b d h,let ⟨_,_,_,c⟩:=ZH n b h;c]
def Mn(n)(d:-c<=24):∀a b,Bk c a->Bk c b->MP prog (n+0x6) "gained_and_lost" [tb a,tb b]\.ok (.loc,N_ a b):=λa b e f=>b_ (Jk (WS n d) e f)
def sht(n)(b:-a<=24):ZC (MP prog (n+0x7)) a:=λd e p h c=>ip (Dd (Mn n b) h c)
def WT(n)(b:-a<=24):Tn (MP prog (n+0x8)) a:=λe f p h c d=>ip (De (sht n b) h c d)
def ono(n)(r)(h:-r.2<64):MP prog (n+1) "in_one_order" [Mo r]\.ok (.loc,Mo (keyOf r)):=b_ (FN h)
def WU(n):R6 (MP prog (n+3)) a:=λe r h b=>b_ (K.jz (λr s c d=>b_ (zU (ono n) c d)) h b)
def oS(d):kh (MP prog (d+2)):=λx h=>b_ (C3 (λx c=>b_ (C0 c)) (λk a b=>b_ (zN a b)) (λx y hl e=>b_ (C2 (n:=0) 9 hl (by rw[<-e];rfl))) (λx y hl e=>b_ (C2 (n:=2) 9 hl (by rw[<-e];rfl))) h)
def rws(n)(b:∀x∈a,bw (~~~x)):oQ (MP prog (n+3)) a:=λr h=>b_ (FL (oS n) h.NG h.once (b _ h.word) λx c=>b x (h.told x c))
def wok(c:∀x∈a,bw (~~~x)){d:↑Row}(h:∀r∈d,d8 a r):∀r∈d,RowW r:=λr b=>#[(h r b).NG,(h r b).once,c _ (h r b).word,λx e=>c x ((h r b).told x e)]
def ZI(n)(a)(p):MP prog (n+1) "Shelf.book" [MB a p]\.ok (lT [tb a,MB a p]):=ip Df
def lnk(n)(c:-a<=24)(b)(p)(h:Bk a b):MP prog (n+0x6) "Shelf.learnt_now" [MB b p]\.ok (.own,.tup [.lst ((lw b).map .str),MB b p]):=ip (Dg (WS n c) h)
def bck(n)(d:-a<=24):∀c b p,Bk a c->Bk a b->MP prog (n+0x8) "Shelf.back" [MB c (p++[b])]\.ok (lT [N_ c b,MB b p]):=λc b p h e=>ip (Dh (sht n d) h e)
def QX(n)(c:-a<=24)(b)(h:Bk a b):-bP b<=24/\MP prog (n+1) "words_of" [tb b]\.ok (oL ((bP b).map .str)):=by let hl:=h.ln;let:=wc h.ok;show#[7,(b7 (show NY prog "words_of" _ from 9) _).trans (rR (by omega) h.ok 7)]
def FW(c:-a<=24)(b)(h:Bk a b):-OO b (lw b)<64:=by let d:-OO b (lw b)<=-bP b:=N6 _ _;let:=(QX 0 c b h).1;lia
def ktk(n)(c:-b<=24)(a)(h:Bk b a):MP prog (n+0x7) "knot" [tb a]\.ok (oL ((kt a).map Mo)):=by let hl:=h.ln;show b_ (Dp (by omega) (λr d=>(h.ok r d).NG) (lj _ _) (FW c a h) (yp (VF c a h)) (b_ (oR (To c a h) (by let:=(QX 0 c a h).1;lia) (QX _ c a h).2 (WS n c a h).2)))
def WO(n)(c:-a<=24)(b)(h:Bk a b):MP prog (n+3) "is_knot" [tb b,.lst ((kt b).map Mo)]\.ok (bL 4):=by let hl:=h.ln;show b_ (wz UJ (by omega) (by let:=(QX 0 c b h).1;lia) (QX _ c b h).2 λk hk=>b_ (uK (by omega) hk (yp (VF c b h)) (b_ (uJ (by omega)))))
def rdk(n)(e:∀x∈a,bw (~~~x))(c)(h:Gd a 50 c):MP prog (n+0x6) "read" [.str (textOf c)]\.ok (.loc,tb c):=by let hl:=h.ln;let d:=wok e h.ok;show b_ (run_read d (by omega) (λr b=>b_ (C_ (oS _) (d r b) (b_ (zP (oS _) (d r b))))) (b_ (wt (b_ (C4 (λr b=>rws n e r (h.ok r b)) (b_ (wq (λr h=>ono _ r h) (λr b=>(h.ok r b).NG) 7 h.ky)) (by omega))))))
def shk(n)(d:∀x∈a,bw (~~~x))(b)(h:Bk a b):MP prog (n+2) "shown" [tb b]\.ok (zS (textOf b)):=by let hl:=h.ln;let c:=wok d h.ok;show b_ (zR c (by omega) λr e=>b_ (zQ (c r e)))
def fh(b:-a<=24)(c:∀x∈a,bw (~~~x)):FH (MP prog 10) a where
 bk:=ZI 0x9
 ln:=lnk 0x4 b
 WN:=WS 0x5 b
 shown:=shk 0x8 c
 read:=rdk 0x4 c
 d5:=ktk 3 b
 WO:=WO 0x7 b
 QX:=λd h=>#[by let:=(QX 0 b d h).1;lia,(QX 0x9 b d h).2]
 kn:=VF b
def th(i:-h<=24)(l:∀x∈h,bw (~~~x)):TH (MP prog 10) h where
 told:=TM.IX makers.told
 bk:=ZI 0x9
 ZD:=λk w m x n o hl q=>b_ (uG n o hl q)
 put:=λm x p w j a b c d e=>by
  obtain rfl|rfl:=j
  .show ip (FQ (WU 0x6) (rws 0x6 l) (WT 1 i) a b c d e)
  show ip (Dm (WU 0x6) (rws 0x6 l) (WT 1 i) a b c d e)
 ZE:=λa b x p w j c d e f g=>by
  obtain rfl|rfl:=j
  .show ip (Dn  (WU 0x6) (WT 1 i) c d 9 (by omega) f g)
  show ip (zV (WU 0x6) (WT 1 i) c d (by omega) f g)
 back:=bck 2 i
 kn:=VF i
def lh(hs:∀x∈t,x∈f)(v:0< -t)(y:("in/2":5)∈f)(ho:("out/3":5)∈f)(g:-f<=24)(l:∀x∈f,bw (~~~x)):LH (MP prog 11) t f where
 cell:=makers.ox
 drawn:=makers.drawnOk
 bk:=ZI 10
 ln:=lnk 0x5 g
 de:=λu p=>ip zT
 back:=bck 3 g
 turn:=λn p q i C a b c d e=>by let(o,r,z,s,j,k):=zW (th g l) hs v a b c d e;show#[o,r,z,s,j,(kS (show NY prog "_law_turn" _ from 9) _ 9).trans k]
 R7:=λn m p q i w a b c d e=>by let(o,r,j,k):=zX (th g l) a y ho b c d e;show#[o,r,j,(kS (show NY prog "_law_in_and_out" _ from 9) _ 9).trans k]
 lean:=λu w a b=>by let(F,j,k,A,B):=uH  a g b;show#[F,j,k,A,b_ B]
 afr:=λu p h=>ip (wA (fh g l) h)
 kn:=VF g
 To:=To g
def pure(a)(d:-a<=63):MP prog 12 "law" [Fp a]\.ok (bL 4):=by
 let(z,e):=(makers.ox:ou (MP prog 11)) a 0 7;let(f,g,b,i):=(makers.drawnOk:j_ (MP prog 11)) z 0x4 7;let l:=fu b 0;let(m,n,o,j,c):=makers.namesOk a 1 (1+dd f 0 % 14).toNat 7 7;rw[Į ⋯]at c;let k:∀x∈(["in/2","out/3"]:↑5),bw (~~~x):=λx hx=>by
  obtain rfl|hx:=gs.mp hx
  .show .inr #[[105,110],[50],2,9,by decide,by decide,by decide,by rfl]
  rw[js.mp hx];show .inr #[[111,117,116],[51],3,9,by decide,by decide,by decide,by rfl]
 show b_ (FV (lh  (λx h=>Uk _ h) (by omega) (by simp) (by simp) (by grind) λx hx=>(ke.mp hx).elim (j x) (k x)) (λx h=>Uk _ h) (by omega) d g b e i c)
end K
namespace K
open PySem L2 TM PySem.W PyProof.Rows
def mz(z:Mz)(f:Fn):Me:=#[f,z.x,z.i,z.N,z.a,z.c,z.m,z.cr]
def ml:Me:=mz zl qg
def ms:↑Me:=List.zipWith mz zs [kZ,dO,k_,qe,lR,oI,dw,mI,dP,wm,oJ,oK,iK,dN,bu,dh,bC,gA,ie,gC,fc,dy,CY,iL,cX,gD,dX,di,iM,eM,eN,rX,eO,iN,wo,jB,ig,rY,gE,qf,oM,lS,oN,lU,oO,gF,dR,fe,b8,dz,qg]
def hk:Hook:=kHook (λP=>NM top (gx P) ms) (adr ms xa) λP=>xX top (gx P) ms xa 9
def Rf:hk.obs=λs=>aZ.map s.heap.get?:=by kernel_rfl
def TU(w):hk.val w=(fZ (gx w.params)).map λp=>bD p.2:=by kernel_rfl
def hl:LeftO PySem.Challenge.rw_primer_k55_whole_gained_and_lost.row.prog vw R8 xt hk.obs hk.val 4000:=λw=>by let(s,e,a):=i7.mp (O8 w);let b:=Pn w;let c:=Tq w;let d:=hl4 w;let f:=R9 w;let g:=hl6 w;rw[e]at b c d f g;rw[Jr e,Rf,TU];show congrArg bD (Û (Û a (Û (D' c) (Û (D' b) (Û (D' d) (D' f))))) (D' g))
def ho(P:ŏ):QV ck top (NM top (gx P) ms) ms=4:=by kernel_rfl
def hox(P:ŏ):(gX ck (NM top (gx P) ms)&&WE top (NM top (gx P) ms) ms)=4:=by kernel_rfl
end K
open PySem PySem.W PyProof.Rows K
theorem PySem.Challenge.cw_primer_k55_whole_gained_and_lost_holds : PySem.Challenge.rw_primer_k55_whole_gained_and_lost.Holds := by
 w_on
 refine holds_law hs λz => ?_;refine holds_open hl hk.of hk.keeps (λs e => xl_of s (Qh.mp e).1) XL.keeps 9 9 9 (λs e => recFacts_of (Qh.mp e).2) 9 z (by kernel_rfl) ⟨9, 9, 9, 9, 9, by decide +kernel⟩ ?hw ?a
 (case hw => w_witness2)
 exact TM.walk2 (l := PySem.Challenge.rw_primer_k55_whole_gained_and_lost) (Pg := prog) (ck := ck) (dp := 11) (x := "_law_script") (m := ml) 9 9 ⟨9, by decide, by decide, 9⟩ 9 (by decide +kernel) (by decide +kernel) 9 (θ.mpr ⟨50, 9⟩) 9 9 9 ho hox (λ_ => 9) K.pure
