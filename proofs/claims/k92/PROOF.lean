import PyProof.Rows.All
import Wide.All
import OpenK.AllK
import Wide.FinOn
import Lean
import PyProof.EqAt
import PyProof.EqKinds
import PyProof.TupleCall
import PyProof.StrLawsChain
import PyProof.StrLawsFirst
import PyProof.Rows.StrNews2
import OpenK.AllK
import PySem.SetOps
import OpenK.AllK
import PyProof.DictItems
import OpenK.AllK
import PyProof.DictValues
import PyProof.ZipIter
import OpenK.AllK
import PyProof.ReprBulk
import PySem.Challenge.RW_primer_k92_whole_fewest
set_option Elab.async false
set_option linter.all false
set_option bootstrap.genMatcherCode false
set_option maxRecDepth 100000
set_option maxHeartbeats 4000000
set_option genInjectivity false
set_option genSizeOf false
set_option autoImplicit true
set_option relaxedAutoImplicit true
open Option renaming some->a0,none->b5,map_eq_some_iff->hZ,bind_eq_some_iff->ve,isSome_map->SA,isSome_iff_exists->S9,map_eq_none_iff->TL,map_some->TV,isNone_iff_eq_none->YO,isSome_some->Z7,getD_some->Õ,getD_none->Ö
open PySem renaming wpAny_bind->bD,wpAny_pure->cL,sizeLine->dV,Value->ez,wpAny->eH,Shared->gj,Addr->i5,model->kj,starEach->mx,wpAny_setState_of->pb,Expr->p8,wpAny_holding->uk,wpAny_call_entry->va,wpAny_newObj_type->vl,wpAny_mono->w6,Program->HP,rawInt->H8,wpAny_Call_Name_kw->IC,bootBuiltins->IL,wpAny_callSpecial?_slot->JS,mainGlobals->J8,cLine->Ki,World->Km,wpAny_truthy_bool->Kr,wpAny_field->Kv,eval->KH,sysModules->K1,wpAny_isInstance->K2,scanBound->K4,Heap->K9,wpAny_seqItems->Lf,backTo->Ll,wpAny_rule->L5,isSubtype_type->Mm,compareOp->MO,NameKind->MZ,codeAny_builtin->NA,cellsFrom->NB,foldedSetIterable->NF,Around->NU,Scope->NZ,holding->N_,wpAny_setField->Oc,keywordEach->OR,wpAny_setField_rec->OV,wpAny_pyIter_tuple->OX,Builtin->O5,wpAny_passesOwn->O_,Stmt->Pc,behindInMarks->Py,binaryOp->PZ,SetTable->P0,call->Qz,wpAny_specialOf->QG,Keyword->QP,tupleKind_room_in1->Q1,assignEach->Q2,IsPair->Q5,wpAny_getItem_str_slice->Rc,wpAny_pyIter_list->RC,tupleKeyHash->RE,wpAny_askSetting->R4,swapsWith->R6,pyNext->R7,isSubtype->R8,swapsWithSole->R',sliceBounds->Sf,backToKw->Sg,wpAny_setEntries_of->SS,wpAny_typeOf->Tf,getItem->Tj,pushCells->Tx,typeIs_str->TJ,assign->TK,codeAny->T6,wpAny_forIn_list->Uy,FuncData->US,setItem->Vd,relabel->Ve,codeAny_mono->Vf,callerA->Vg,call_meets->Vh,builtinsNs->Vi,wpAny_updateSeq->Vt,wpAny_loadPart'->Vx,post_val_or_str->Vy,letOwnedTupleGo->Vz,call_isinstance->VA,isSubtype_tuple_tuple->VC,builtinLookup_eq_fast->VF,wpAny_updateSeq_pair->VX,isSubtype_stop->V3,firstArgMember->V5,atKey->Wa,IsZip->Wb,IsPart->Wc,tupleKind->Wl,notedBy->Wm,wpAny_onRaise->WC,wpAny_attempt->WD,swappedStores->WI,plainId_quiet->WJ,attributeBase->WV,wpAny_tupleItemsOf->W_,wpAny_storeSet_of->Xz,wpAny_setEpoch_of->XH,wpAny_pyIter_enum->XJ,valueAt->XR,sub_set_self->XS,setNext->XX,setField->XY,release->XZ,fits_of_scanBound->X1,concat_meets->X2,compEnvC->X',call_meetsIn->Yf,pickOrder->YT,noFill_tuple_add->YV,PassesOwn->Y2,wpAny_of_eq->Y6,unsupported->Y7,subscripted->Y8,wpAny_execs_nil->Zd,typeLookup_type->Ze,pushCells_keeps->Zf,standAt->Zo,wpAny_runValue->ZE,relayAll->ZN,raiseNew->ZO,pyIter->ZQ,newFunctionEnv->ZR,field->ZT,entryFor_alias->ZU,IsTupleKey->ZV,wpAny_standAt->Â,wpAny_newList->Ã,wpAny_comprehension_free->Ä,seq_tuple_add->Å,wpAny_Call_method0_late->Í,strValues->Î,seqItems?->Ï,eqIsQuiet->Ð,bindL->Ñ,bindC->Ò,wpAny_Call_method_late->Ý,setNextDrawn->Þ,newExc->ß,collect->à,Params->ä,IsEnum->å,BindsTo->ç,wpAny_nextOf_list_end->í,wpAny_isTrue_Compare1->î,wpAny_loadName_local->õ,wpAny_letGo->ö,wpAny_alloc->ø,step->ù,seqIndex_of->ú,entryFor->û,Operator->ü,wpAny_loadName_cell->Ċ,wpAny_setItem_heap->đ,wpAny_load->Ē,wpAny_Name->ē,typeOf->Ĕ,typeLookup->ĕ,setsByText->Ė,isInstance->ė,JoinOk->ę,wpAny_sequenceKey->ġ,wpAny_pyIter_slot->Ģ,wpAny_assign_Name->ģ,spliced->Ĥ,slot_list_getitem->ĥ,newList->Ħ,eqIsQuiet_byValue->ħ,Draws->Į,wpAny_setScan_of->İ,wpAny_pyIter_zip->ı,wpAny_eqBool_str->Ĳ,wpAny_eqBool_int->ĳ,wpAny_Dict_empty->Ĵ,storeName->ĵ,setDiscardHashed->Ķ,rule->ķ,meets_dict_items->ĸ,codeAny_of_tree->ŀ,wpAny_newTuple->Ň,wpAny_Compare1->ň,truthy->ŉ,recursionLimit->Ŋ,numbered_texts->ŋ,newTuple->Ō,bindArgs->ō,augStore->Ŏ,argsOk->ŏ,again->Ő
open Bool renaming true->b6,false->cb,and_eq_true->eh,false_ne_true->oO,false_eq_true->ti,not_eq_true'->G1,eq_iff_iff->JM,and_eq_true_iff->KR,not_true->MX,or_eq_true->RU,and_false->Va,and_true->Zc,not_false->ď,false_and->Đ,or_false->ğ,and_self->Ġ
open Decidable renaming decide->cK
open List renaming length_map->df,map_map->et,getElem?_eq_some_iff->eW,nil_append->gc,map_cons->gi,mem_map->gs,range->hA,getElem?_set_self->hU,mem_filter->hY,mem_singleton->ix,length_append->i4,mem_cons->ke,size_toArray->ki,mem_append->ko,length_cons->mh,map_append->my,replicate->nz,length_filter_le->nC,getElem?_set_ne->nH,getElem?_map->oa,mem_append_right->oR,mem_cons_self->oT,mem_cons_of_mem->oW,lookup_cons->p7,nodup_cons->qe,map_congr_left->qk,mem_of_getElem?->qs,nodup_append->rr,filter_sublist->r3,append_nil->sx,all_eq_true->tA,getElem?_append_right->uv,mem_append_left->wh,perm_ext_iff_of_nodup->DD,not_mem_nil->D',length->G2,getElem?_append_left->G',getElem?_eq_getElem->IV,filter_cons->I0,length_singleton->JJ,length_take->KP,filter_eq_nil_iff->K5,isEmpty_iff->LO,filter_append->LV,mem_range->L0,map_nil->MT,getElem?_drop->Na,flatten_cons->Nf,filterMap_cons->NG,getElem_mem->NI,getElem?_replicate->NP,ext_getElem->NR,take_of_length_le->N',find?_cons->OQ,length_pos_iff->PV,filter_eq_self->PX,filter_nil->Ql,zip_cons_cons->Qm,filter_cons_of_pos->Qt,filter_cons_of_neg->Qw,length_range->QW,filter_congr->Q0,length_replicate->Rv,getD->Rx,eq_nil_iff_forall_not_mem->Rz,map->RH,of_mem_zip->RL,length_zip->RP,forIn_cons->RT,getElem_of_mem->R9,flatten_append->R_,all_map->Se,pairwise_cons->Sr,forIn_nil->Ss,drop_eq_getElem_cons->Ta,append_assoc->Tw,length_eq_zero_iff->TN,getElem?_cons_succ->TQ,foldl_cons->Ua,mem_iff_getElem?->Uo,nodup_nil->U8,any_cons->VL,findIdx?_eq_some_iff_getElem->Wg,zipIdx_cons->W0,mem_flatten->W2,length_drop->W3,any_eq_true->W4,eq_nil_of_length_eq_zero->Xi,length_nil->Xr,filter_map->Xs,drop_left'->Xt,getElem?_zip_eq_some->Y3,findIdx?_eq_none_iff->Y4,length_erase_of_mem->Y_,getElem?_take_of_lt->Y',findIdx?->Za,eraseIdx_cons_succ->Zi,length_pos_of_mem->Zw,length_eq_one_iff->Zx,getElem?_eq_none->ZZ,mem_of_mem_take->Z8,mem_iff_getElem->Z9,mem_erase_of_ne->Z_,map_id->Z',length_eraseIdx->À,getElem?_zipIdx->Á,mem_map_of_mem->É,getElem?_range->Ê,mem_filterMap->Ø,filter_filter->Ù,filterMap_map->Ú,take_sublist->ë,map_fst_zip->ð,getElem_map->ñ,getElem_inj->ò,drop_length->ó,cons_append->ô,zipIdx_nil->Ą,zipIdx_map->ą,range_succ->Ć,length_set->ć,zip_map'->ĝ,all_cons->Ğ,any_map->į
open PySem.Heap renaming get?_push_of_some->dt,get?_push_size->fx,lt_size->f6,SameBut->ri,get?_update_self->Jx,size_push->Pz,get?_update_ne->PQ,get?_update_other->QT,ExtBut->Z4,IsTuple->Ĭ
open Nat renaming ne_of_lt->k7,le_refl->lg,zero_le->mu,lt_of_lt_of_le->nc,le_trans->td,ne_of_gt->vr,lt_irrefl->wk,le_of_lt->Nv,lt_succ_of_lt->O9,le_succ->Qy,pow_le_pow_right->RJ,zero_add->Sm,lt_succ_self->T3,mod_lt->T7,lt_trans->T',lt_of_le_of_lt->Wf,add_sub_cancel_left->Zv,succ_pos->ZW,pow_succ->ZX,le_of_eq->ZY,le_of_not_lt->ă,add_zero->ľ
open Array renaming length_toList->lx,getElem?_toList->Ji,forIn_toList->N8,toList_append->R0,size_map->Sn,getElem?_eq_getElem->SN,getD->VM,size_append->Wj,toList->Zn,toList_extract->Z2,toList_push->Ü,toList_inj->ì
open PySem.Value renaming ref->mA,none->ro,str->tr,type->y2,bool->N4,isStrOf->Oq,isStrOf_shape->Z3,int->á,isInt->Ī
open Classical renaming byContradiction->oZ,propDecidable->Xu
open Sum renaming inr->p6,inl->Wt
open PySem.Builtin.SmallTypes renaming nextOf->rz,ownedTupleIsFree->LN,ownedTupleHandOut->Sq
open Option.some renaming inj->sL,injEq->UY
open PySem.Obj renaming mapSeq->tj,data_mapFields->Oh,putSet->Qr,isFreed_of_fields->UP,cls_mapFields->WA,mapFields->ī
open Ne renaming symm->vu
open PyProof.Rows renaming slot_tuple_getitem->y3,seqObj->KN,callWith_type1->LY,size_push'->Nd,StrsAre->RG,callWith_builtin1->U2,AllBare->Vs,envOfC->Wd,subscriptTail->WY,listUpdate_at->WZ,subscriptTail_builtinR->è,listItems_at->é,IntsAre->ê,seqEpoch_at->ā,IsTup->Ă,entry_tuple_getitem->ċ,sortedHeap->Ě,args_tuple_getitem->ě,Subscript_->Ĝ,wpAny_notIn_heap->ļ,slot_str_getitem->Ľ,get?_update_seq->ń,entry_list_sort->Ņ,call_isinstance_yes->ņ,sortedHeap_old->Œ,slot_list_sort->œ,slicePart_none->Ŕ,isTrue_and_nil->ŕ,args_list_sort->Ŗ
open PySem.Str renaming empty->G0,ofString->Og,length->Y1
open PySem.SetTable.layClean renaming free->Jd
open PySem.Heap.SameBut renaming update->KJ,refl->LH
open PySem.Builtin.Tuple renaming tupleHashOf->KX,tupleExact->OY,tupleItemsOf->Rn
open PySem.Builtin.Frozenset renaming isAnySet->LW,difference->Qk,sizeOf->Rq,differenceUpdate->To,unchanged->Um,copyOf->Vj,baseOf->Vk,addrOf->Vm,slot1->VB,updateFrom->þ,slot0->ÿ,newClass->Ā
open Int renaming toNat_natCast->L7,toNat_of_nonneg->Qc,emod_lt_of_pos->SG,eq_ofNat_of_zero_le->T4,emod_nonneg->Ur,natCast_add->YP,zero_add->Z1
open PySem.NameKind renaming free->Mn,cell->Mo
open PySem.Calls renaming callWith_builtin->Mx,evalArgs_plain->Ph,spliced_cons->Qj,spliced_nil->SX,Name_function_global->YG,call_function_entry->YQ
open List.Perm renaming refl->MI,swap->Ë,cons->Ì
open PySem.SetTable renaming sizeAbove->MS,below->Nz,grown->OT,bits->PH,eraseAt->QO,turns->RK,layClean->Sl,fits->So,laid->UL,runEnd->Wn,relaid->Wq,fill->Xj,orStandIn->Zt,fresh->Ó,leap->â,drop->ã
open PySem.Builtin.List renaming listTooLong->M4,listExtendWith->NT,listSameRef->Wr,listLengthHint->Ń
open List.cons renaming injEq->NV
open PySem.Builtin.Str renaming occurrences->Oj,partsBetween->Po,strKind->YR
open PySem.Builtin.Slice renaming slicePlaces->Ow,sliceAdjust->RF,sliceApplied->VH,slicePartIndex->Ĺ,sliceFields->ĺ
open PyProof.Rows.F renaming plain_set_update_loop->OJ,entry_set_update_loop->Tz
open PySem.Around renaming under_plainId->O8
open PySem.W renaming kas_sort->O',kas_ask->Ĩ
open LT renaming lt->Pr
open False renaming elim->Pt
open PySem.AutoSeq1 renaming wpAny_loadPart'->PK,sub_tuple_tuple->Xq,sub_tuple_list->YI,sub_list_tuple->YJ,sub_list_list->YS,idx_int->Z6
open ForInStep renaming yield->PM
open PySem.Txt renaming split->Qx,join->Wu
open PySem.Shared renaming TypeIs->SV,heap->Zs
open PySem.SeqAt renaming EqAt->TR,ne_of_list_tuple->Zg,RcAt->Ç,RcNeAt->Ę
open ToString renaming toString->Uu
open PyProof.Rows.LSm renaming kept_iter->U4,range_any->Č,range_all->č
open True renaming intro->VW
open Sum.inr renaming inj->Wk
open Prod renaming ext->Ws,fst->Ď
open PySem.F renaming args_str_split_2->WB,entry_str_split->W',slot_str_split->Yk,args_list_extend_2->æ,entry_list_extend->ï,slot_list_extend->ý
open PySem.pickOrder renaming go->X0
open PySem.SetTable.below renaming go->Yj
open List.Sublist renaming refl->Y5
open PyProof.Rows.IsTup renaming new->Y9
open List.Nodup renaming sublist->Zb
open PySem.Data renaming cell->Zh,fields->Z5
open PySem.Walks renaming list->Æ
open PySem.Draws renaming list->È
open PySem.Code renaming quiet_builtin->Ô
open LawfulBEq renaming eq_of_beq->Û
open LE renaming le->Ĉ
open ForIn renaming forIn->ĉ
open PySem.W.WShape renaming has->ĩ
open PySem.Heap.IsSliceOf renaming new->ĭ
open PySem.Builtin.Range renaming rangeSize->Ļ
open List.Pairwise renaming nil->Ŀ
open PySem.W.WData renaming int->Ł
open PySem.Heap.DictOfH renaming new->ł
open PySem.Heap.DictOf renaming new->ő
abbrev ŗ:=@decide_eq_true_eq
abbrev Ř:=@if_pos
abbrev ř:=@decide_eq_false
abbrev Ś:=@if_neg
abbrev ś:=@decide_eq_true
abbrev Ŝ:=@of_decide_eq_true
abbrev ŝ:=@congrArg
abbrev Ş:=@beq_eq_false_iff_ne
abbrev ş:=@if_false
abbrev Š:=@if_true
local macro_rules|`(def $a:declId $b* : $t :=$v)=>`(theorem $a:declId $b* : $t :=$v)
local macro_rules|`(abbrev $a:declId $b:optDeclSig $c:declVal)=>`(noncomputable def $a:declId $b:optDeclSig $c:declVal)
local macro_rules|`(tactic|show $t)=>`(tactic|refine $t)
local macro_rules|`(tactic|have⟨$a,*⟩:=$t)=>do let p<-a.getElems.mapM fun x=>`(Lean.Parser.Tactic.rcasesPatLo|$(⟨x⟩):ident);`(tactic|obtain⟨$p,*⟩:=$t)
local macro_rules|`(⋯)=>`(by lia)
namespace L2
open PySem PySem.Spec PyProof.Rows
@[reducible]def Key:=Sum Int Str
abbrev jJ:Key->ez->Bool
 |.inl k,v=>Ī k v
 |.inr x,v=>Oq x v
abbrev Hm(w:Km):Key->Int
 |.inl k=>hashInt k
 |.inr x=>hashStr w x
theorem bx:∀{k:Key}{v:ez},jJ k v=b6->(∃i t,k=Wt i/\v=á i t)\/(∃x t,k=p6 x/\v=tr x t)
 |.inl i,v,h=>by
  have⟨t,e⟩:=Value.isInt_shape (k:=i) (v:=v) h;show .inl ⟨i,t,rfl,e⟩
 |.inr x,v,h=>by
  have⟨t,e⟩:=Z3 (x:=x) (v:=v) h;show .inr ⟨x,t,rfl,e⟩
def vO(i:Int)(t:Tok):jJ (.inl i) (.int i t)=b6:=by simp[jJ,Ī]
def vP(x:Str)(t:Tok):jJ (.inr x) (.str x t)=b6:=by simp[jJ,Oq]
def C8(a b:Int):cK ((Wt a:Key)=Wt b)=(a==b):=by
 by_cases e:a=b
 .subst e;simp
 .have h:¬(Wt a:Key)=Wt b:=λq=>e (Sum.inl.inj q);rw[ř h];show(Ş.mpr e).symm
def C9(a b:Str):cK ((p6 a:Key)=p6 b)=cK (a=b):=by
 by_cases e:a=b
 .subst e;simp
 .have h:¬(p6 a:Key)=p6 b:=λq=>e (Wk q);rw[ř h,ř e]
def C_(a:Int)(b:Str):cK ((Wt a:Key)=p6 b)=cb:=ř (λq=>nomatch q)
def Dc(a:Str)(b:Int):cK ((p6 a:Key)=Wt b)=cb:=ř (λq=>nomatch q)
abbrev aZ(prog:HP)(w:Km):PySem.KeyKind prog w Key where
 is:=jJ
 hash:=Hm w
 inj:=λv a b g f=>by
  rcases bx g with⟨i,t,rfl,rfl⟩|⟨x,t,rfl,rfl⟩
  .rcases bx f with⟨j,u,rfl,e⟩|⟨y,u,rfl,e⟩
   .injection e with c _;rw[c]
   .show nomatch e
  .rcases bx f with⟨j,u,rfl,e⟩|⟨y,u,rfl,e⟩
   .show nomatch e
   .injection e with c _;rw[c]
 byValue:=λk v h=>by
  rcases bx h with⟨i,t,rfl,rfl⟩|⟨x,t,rfl,rfl⟩<;>rfl
 pyHash:=λd h=>by
  rcases bx d with⟨i,t,rfl,rfl⟩|⟨x,t,rfl,rfl⟩
  .show wpAny_pyHash_int h
  .show wpAny_pyHash_str h
 eqBool:=λl d h=>by
  rcases bx l with⟨i,t,rfl,rfl⟩|⟨x,t,rfl,rfl⟩
  .rcases bx d with⟨j,u,rfl,rfl⟩|⟨y,u,rfl,rfl⟩
   .rw[C8]at h;show ĳ h
   .rw[C_]at h;show SeqAt.EqAt.int_str i t y u _ _ _ _ h
  .rcases bx d with⟨j,u,rfl,rfl⟩|⟨y,u,rfl,rfl⟩
   .rw[Dc]at h;show SeqAt.EqAt.str_int x t j u _ _ _ _ h
   .rw[C9]at h;show Ĳ h
 «strs»:=λk x t v h=>by
  rcases bx h with⟨i,u,rfl,e⟩|⟨y,u,rfl,e⟩
  .show nomatch e
  .injection e with c _
   subst c;cases v<;>rfl
def qq(prog:HP)(w:Km)(i:Int)(t:Tok):(aZ prog w).is (.inl i) (.int i t)=b6:=vO i t
def qr(prog:HP)(w:Km)(x:Str)(t:Tok):(aZ prog w).is (.inr x) (.str x t)=b6:=vP x t
inductive V where
 |Iy|bl (b:Bool)|int (i:Int)|str (x:Str)|QB (b:Array UInt8)|QC (b:UInt64)|ref (a:i5)|ty (n:String)
 deriving DecidableEq
def RelV:V->ez->Prop
 |.Iy,u=>u=ro
 |.bl b,u=>u=N4 b
 |.int i,u=>∃t,u=á i t
 |.str x,u=>∃t,u=tr x t
 |.QB b,u=>∃t,u=Value.bytes b t
 |.QC b,u=>∃t,u=Value.float b t
 |.ref a,u=>u=mA a
 |.ty n,u=>u=y2 n
@[reducible]def Vals:List V->List ez->Prop:=Paired RelV
def Vals.length(r:Vals xs us):xs.length=us.length:=Paired.length r
theorem Vals.get:∀{xs:List V}{us:List ez}{i:Nat}{x:V},Vals xs us->xs[i]?=a0 x->∃u,us[i]?=a0 u/\RelV x u
 |_,_,_,_,.nil,e=>by simp at e
 |_,_,0,_,.cons r _,e=>by simp at e;subst e;show⟨_,rfl,r⟩
 |_,_,i+1,x,.cons _ t,e=>by
  have⟨u,a,b⟩:=Vals.get (i:=i) (x:=x) t (by simpa using e);show⟨u,by simpa using a,b⟩
theorem Vals.set(r:RelV x u):∀{xs:List V}{us:List ez} (i:Nat),Vals xs us->Vals (xs.set i x) (us.set i u)
 |_,_,_,.nil=>.nil
 |_,_,0,.cons _ t=>.cons r t
 |_,_,i+1,.cons q t=>.cons q (Vals.set r i t)
theorem Vals.append:∀{xs ys:List V}{us ws:List ez},Vals xs us->Vals ys ws->Vals (xs++ys) (us++ws)
 |_,_,_,_,.nil,s=>s
 |_,_,_,_,.cons r t,s=>.cons r (Vals.append t s)
theorem Vals.take:∀{xs:List V}{us:List ez} (n:Nat),Vals xs us->Vals (xs.take n) (us.take n)
 |_,_,0,_=>.nil
 |_,_,_+1,.nil=>.nil
 |_,_,n+1,.cons r t=>.cons r (Vals.take n t)
theorem Vals.drop:∀{xs:List V}{us:List ez} (n:Nat),Vals xs us->Vals (xs.drop n) (us.drop n)
 |_,_,0,r=>r
 |_,_,_+1,.nil=>.nil
 |_,_,n+1,.cons _ t=>Vals.drop n t
def j7:Option V->Option ez->Prop
 |some v,a0 u=>RelV v u
 |none,b5=>True
 |_,_=>False
abbrev KV{κ:Type}:List (κ×V)->List (κ×ez)->Prop:=Paired λ(p:κ×V) (q:κ×ez)=>p.1=q.1/\RelV p.2 q.2
abbrev kV:Key->V
 |.inl i=>.int i
 |.inr x=>.str x
inductive HO where
 |lst (xs:List V)
 |tup (xs:List V)
 |dK (kvs:List (Key×V))|dT (kvs:List (List Key×V))
 |set (S:Int->Bool) (n:Nat)
 |ins (C dx:i5) (fs:List (Str×V))
 |own (x:i5)
 |xd (fs:List (Str×V))
 |met (f x:i5)
 |Ry (lo hi:Int)
 |Jw (o:Obj) (u:HO)
 |Nu (ps:Array ez)
 |ext (φ:K9->Prop)
@[reducible]def Hp:=i5->Option HO
abbrev upd(H:Hp)(a:i5)(o:HO):Hp:=λb=>if b=a then a0 o else H b
def aI:upd H a o a=a0 o:=by unfold upd;rw[Ř rfl]
def aw(h:b≠a):upd H a o b=H b:=by unfold upd;rw[Ś h]
def xj{H:Hp}(h:H a=a0 o)(h':H b=a0 u)(d:o≠u):a≠b:=by
 intro e;subst e;rw[h]at h';show d (sL h')
def bP{H:Hp}(h:H a=a0 o)(h':H b=b5):a≠b:=by
 intro e;subst e;rw[h]at h';cases h'
section
variable(P:HP)(w:Km)
def bL(H:Hp)(h:K9)(a:i5):HO->Prop
 |.lst xs=>xs.length<=dV/\∃(c:List ez) (n:Nat),Vals xs c/\h.get? a=a0 {cls:=.type "list",data:=.seq c.toArray n}
 |.tup xs=>xs.length<=dV/\∃c:List ez,Vals xs c/\Ă h a c.toArray
 |.dK kvs=>kvs.length<=dV/\(a==K1)=cb/\∃vs,KV kvs vs/\h.DictOf (aZ P w) a vs
 |.dT kvs=>kvs.length<=dV/\(a==K1)=cb/\∃xs:List (List Key×i5×ez),
   Paired (λ(p:List Key×V) (q:List Key×i5×ez)=>p.1=q.1/\H q.2.1=a0 (.tup (p.1.map kV))/\RelV p.2 q.2.2) kvs xs /\
   ∃o es ep,h.get? a=a0 o/\o.ExactDict/\o.data=.dict es ep/\es.toList=xs.map (entryOfKey (Wl (aZ P w)))/\(xs.map (·.1)).Nodup
 |.set S n=>h.SetOf (intKind P w) a S n
 |.ins C e d=>H e=a0 (.own a)/\d.length<=1000/\e≠a/\h.get? a=a0 (PySem.W.instObj C e) /\
   ∃b,h.Ns1 e b/\(∀f,j7 (d.lookup f) (b f))/\PySem.Within b (d.map (·.1))
 |.own _=>∃o,h.get? a=a0 o
 |.xd d=>∃b,h.Ns1 a b/\∀f,j7 (d.lookup f) (b f)
 |.Ry lo j=>∃t u v,h.get? a=a0 {cls:=.type "range",data:=.fields #[.int lo t,.int j u,.int 1 v]}
 |.Jw o u=>h.get? a=a0 o/\bL H h a u
 |.Nu ps=>h.get? a=a0 {cls:=.none,data:=.fields ps}
 |.met f x=>h.get? a=a0 (PySem.W.methodObj (.ref f) (.ref x))
 |.ext φ=>φ h/\(∃o,h.get? a=a0 o)/\∀g i:K9,φ g->(∀o,g.get? a=a0 o->i.get? a=a0 o)->φ i
abbrev JG(H:Hp)(h:K9):Prop:=∀a o,H a=a0 o->bL P w H h a o
end
section
def bL.lt(x:bL P w H h a o):a<h.objs.size:=by
 cases o with
 |lst xs=>obtain⟨_,_,_,_,e⟩:=x;show f6 e
 |tup xs=>obtain⟨_,_,_,p⟩:=x;show p.lt
 |set S n=>obtain⟨o,_,_,_,e,_⟩:=x;show f6 e
 |ins C c b=>obtain⟨_,_,_,e,_⟩:=x;show f6 e
 |own y=>obtain⟨_,e⟩:=x;show f6 e
 |xd b=>obtain⟨_,⟨_,_,_,e,_⟩,_⟩:=x;show f6 e
 |Ry lo d=>obtain⟨_,_,_,e⟩:=x;show f6 e
 |Jw g u=>obtain⟨e,_⟩:=x;show f6 e
 |Nu ps=>show f6 (show h.get? a=a0 _ from x)
 |met f y=>show f6 (show h.get? a=a0 _ from x)
 |ext φ=>obtain⟨_,⟨_,e⟩,_⟩:=x;show f6 e
 |_=>obtain⟨_,_,_,_,o,_,_,e,_⟩:=x;show f6 e
theorem Paired.Dd:∀{c:List α}{d:List β},Paired F c d->(∀a b,F a b->G a b)->Paired G c d
 |_,_,.nil,_=>.nil
 |_,_,.cons r t,f=>.cons (f _ _ r) (Paired.Dd t f)
def bL.g_(x:bL P w H h a o)(k:∀b u,(b=a\/H b=a0 (.own a))->h.get? b=a0 u->h'.get? b=a0 u)
  (ho:∀b,H b=a0 (.own a)->H' b=a0 (.own a)) (m:∀b xs,H b=a0 (.tup xs)->H' b=a0 (.tup xs)):bL P w H' h' a o:=by
 induction o with
 |lst xs=>have⟨z,i,n,r,e⟩:=x;show⟨z,i,n,r,k _ _ (.inl rfl) e⟩
 |tup xs=>have⟨z,i,r,g,e,c⟩:=x;show⟨z,i,r,g,k _ _ (.inl rfl) e,c⟩
 |dK kvs=>have⟨z,y,vs,r,g,es,ep,e,c⟩:=x;show⟨z,y,vs,r,g,es,ep,k _ _ (.inl rfl) e,c⟩
 |dT kvs =>
  have⟨z,y,xs,r,g,es,ep,e,c⟩:=x;show⟨z,y,xs,Paired.Dd r λp q z=>⟨z.1,m _ _ z.2.1,z.2.2⟩,g,es,ep,k _ _ (.inl rfl) e,c⟩
 |set S n=>have⟨g,es,ep,t,e,c⟩:=x;show⟨g,es,ep,t,k _ _ (.inl rfl) e,c⟩
 |ins C G s =>
  obtain⟨d,z,A,e,j,⟨l,es,ep,B,c⟩,r⟩:=x;show⟨ho _ d,z,A,k _ _ (.inl rfl) e,j,⟨l,es,ep,k _ _ (.inr d) B,c⟩,r⟩
 |own y=>have⟨g,e⟩:=x;show⟨g,k _ _ (.inl rfl) e⟩
 |xd s=>obtain⟨j,⟨l,es,ep,e,c⟩,r⟩:=x;show⟨j,⟨l,es,ep,k _ _ (.inl rfl) e,c⟩,r⟩
 |Ry lo I=>have⟨t,u,v,e⟩:=x;show⟨t,u,v,k _ _ (.inl rfl) e⟩
 |Jw g u D=>have⟨e,q⟩:=x;show⟨k _ _ (.inl rfl) e,D q⟩
 |Nu ps =>
  have e:h.get? a=a0 {cls:=.none,data:=.fields ps}:=x;change h'.get? a=a0 {cls:=.none,data:=.fields ps};show k a _ (.inl rfl) e
 |met f y =>
  have e:h.get? a=a0 (PySem.W.methodObj (.ref f) (.ref y)):=x;change h'.get? a=a0 (PySem.W.methodObj (.ref f) (.ref y));show k a _ (.inl rfl) e
 |ext φ=>obtain⟨p,⟨o,e⟩,st⟩:=x;show⟨st _ _ p λo q=>k _ _ (.inl rfl) q,⟨o,k _ _ (.inl rfl) e⟩,st⟩
def JG.lt(x:JG P w H h)(e:H a=a0 o):a<h.objs.size:=(x a o e).lt
def JG.fresh(x:JG P w H h)(e:h.objs.size<=a):H a=b5:=by
 cases q:H a with
 |none=>rfl
 |some u=>show absurd (nc (x.lt q) e) (wk _)
def JG.kept(x:JG P w H h)(k:∀b u,h.get? b=a0 u->h'.get? b=a0 u):JG P w H h':=λa o e =>
 (x a o e).g_ (λb u _ q=>k b u q) (λ_ q=>q) λ_ _ q=>q
def JG.laid(x:JG P w H h)(k:∀b u,h.get? b=a0 u->h'.get? b=a0 u)(g:h.objs.size<=a)(new:bL P w (upd H a o) h' a o):JG P w (upd H a o) h':=λb u e=>by
 have d:=x.fresh g;by_cases f:b=a
 .subst f;rw[aI]at e;cases e;show new
 .rw[aw f]at e;show(x b u e).g_ (λc v _ q=>k c v q) (λc q=>by rw[aw (bP q d)];show q) λc xs q=>by rw[aw (bP q d)];show q
end
abbrev Rd(H:Hp)(a:i5)(u:HO):Prop:=H a=a0 u\/∃o,H a=a0 (.Jw o u)
def Rd.ok(r:Rd H a u)(x:JG P w H h):bL P w H h a u:=by
 rcases r with r|⟨o,r⟩
 .show x a u r
 .obtain⟨_,q⟩:=x a _ r;show q
def OU:Option HO->Prop
 |some (.lst _)=>True
 |some (.dK _)=>True
 |some (.dT _)=>True
 |some (.set _ _)=>True
 |some (.ins _ _ _)=>True
 |some (.ext _)=>True
 |_=>False
section
def JG.write(l:JG P w H h)(a:OU (H x))(g:e=x\/H e=a0 (.own x))(k:∀b u,b≠e->h.get? b=a0 u->h'.get? b=a0 u)(m:∃u,h'.get? e=a0 u)
  (new:bL P w (upd H x o') h' x o'):JG P w (upd H x o') h':=λb u q=>by
 have i:∀c y,H c=a0 (.own y)->c≠x:=λc y r z=>by subst z;rw[r]at a;show a
 have n:∀c xs,H c=a0 (.tup xs)->c≠x:=λc xs r z=>by subst z;rw[r]at a;show a
 by_cases d:b=x
 .subst d;rw[aI]at q;cases q;show new
 .rw[aw d]at q;by_cases f:b=e
  .have j:H b=a0 (.own x):=by
    rcases g with z|z
    .show absurd (f.trans z) d
    .rw[f];show z
   rw[q]at j;cases j;have⟨v,o⟩:=m;show⟨v,by rw[f];show o⟩
  .show(l b u q).g_ (λc v hc r=>k c v ?_ r) (λc r=>by rw[aw (i c b r)];show r) λc xs r=>by rw[aw (n c xs r)];show r
   rcases hc with rfl|hc
   .show f
   .rintro rfl;rcases g with z|z
    .show i c b hc z
    .rw[hc]at z;cases z;show d rfl
end
structure Un(fs ex:List i5)(H H':Hp)(h h':K9):Prop where
 keep:∀b o,h.get? b=a0 o->H b=b5->b∉fs->b∉ex->h'.get? b=a0 o
 slot:∀b o,h.get? b=a0 o->H b=b5->b∈fs->b∉ex->∃sl,h'.get? b=a0 {o with slots:=sl}
 free:∀b o,h.get? b=a0 o->H b=b5->b∉ex->H' b=b5
 there:∀b o,h.get? b=a0 o->b∉ex->∃o',h'.get? b=a0 o'
 kf:∀b xs,H b=a0 (.tup xs)->H' b=a0 (.tup xs)
 J5:∀b o u,H b=a0 (.Jw o u)->H' b=a0 (.Jw o u)
 Kh:∀b ps,H b=a0 (.Nu ps)->∃more,H' b=a0 (.Nu (ps++more))
section
def Un.any(u:Un e ex H i h f)(q:h.get? b=a0 a)(n:H b=b5)(c:b∉ex):∃g,f.get? b=a0 {a with slots:=g}:=by
 by_cases d:b∈e
 .show u.slot b a q n d c
 .show⟨a.slots,u.keep b a q n d c⟩
def Un.kept(k:∀b u,h.get? b=a0 u->h'.get? b=a0 u):Un c ex H H h h' :=
 ⟨λb a q _ _ _=>k b a q,λb a q _ _ _=>⟨a.slots,k b a q⟩,λ_ _ _ n _=>n,λb a q _=>⟨a,k b a q⟩,λ_ _ q=>q,λ_ _ _ q=>q,λ_ ps q=>⟨#[],by rw[q];simp⟩⟩
def Un.refl:Un a ex H H h h:=Un.kept λ_ _ q=>q
def Un.laid(k:∀b u,h.get? b=a0 u->h'.get? b=a0 u)(d:h.objs.size<=a)(c:H a=b5):Un e ex H (upd H a o) h h' where
 keep:=λb u q _ _ _=>k b u q
 slot:=λb u q _ _ _=>⟨u.slots,k b u q⟩
 free:=λb u q n _=>by rw[aw (k7 (nc (f6 q) d))];show n
 there:=λb u q _=>⟨u,k b u q⟩
 kf:=λb xs q=>by rw[aw (bP q c)];show q
 J5:=λb u xs q=>by rw[aw (bP q c)];show q
 Kh:=λb ps q=>⟨#[],by rw[aw (bP q c),q];simp⟩
def Un.write(a:OU (H x))(i:e=x\/H e=a0 (.own x))(k:∀b u,b≠e->h.get? b=a0 u->h'.get? b=a0 u)(j:∃u,h'.get? e=a0 u):Un m ex H (upd H x o) h h':=by
 have d:∀b,H b=b5->b≠x:=λb n z=>by subst z;rw[n]at a;show a
 have f:∀b,H b=b5->b≠e:=λb n z=>by
  subst z;rcases i with r|r
  .show d b n r
  .rw[n]at r;cases r
 have c:∀b u,H b=a0 u->¬OU (a0 u)->b≠x:=λb u q l z=>by subst z;rw[q]at a;show l a
 show⟨λb u q n _ _=>k b u (f b n) q,λb u q n _ _=>⟨u.slots,k b u (f b n) q⟩,λb u q n _=>by rw[aw (d b n)];show n,λb u q _=>?_,
  λb xs q=>by rw[aw (c b _ q λz=>z)];show q,λb u xs q=>by rw[aw (c b _ q λz=>z)];show q,λb ps q=>⟨#[],by rw[aw (c b _ q λz=>z),q];simp⟩⟩
 by_cases g:b=e
 .subst g;show j
 .show⟨u,k b u g q⟩
end
abbrev QD(h:K9)(H:Hp):List i5:=(hA h.objs.size).filter λa=>(H a).isSome
abbrev oF(h:K9)(H:Hp):K9:=PySem.W.hideAll h (QD h H)
def vQ(h:K9)(H:Hp):(oF h H).objs.size=h.objs.size:=PySem.W.hideAll_size _ _
def xk(e:h.get? b=a0 o)(n:H b=b5):(oF h H).get? b=a0 o :=
 PySem.W.hideAll_get _ e λa=>by
  have q:(H b).isSome=b6:=(hY.mp a).2;rw[n]at q;simp at q
def Aj(e:(oF h H).get? b=a0 o):h.get? b=a0 o/\H b=b5:=by
 have a:h.get? b=a0 o:=PySem.W.of_hideAll (QD h H) e;show⟨a,?_⟩;cases q:H b with
 |none=>rfl
 |some x =>
  have c:b∈QD h H:=hY.mpr ⟨L0.mpr (f6 a),by simp[q]⟩;have z:(oF h H).get? b=b5:=PySem.W.hideAll_none (QD h H) c;rw[z]at e;cases e
structure Mod(K:PySem.W.Frag)(mg:Str->Option ez)(base:K9):Prop where
 QE:K.In base
 glob:base.Ns J8 mg
 blt:∃mb,base.Ns Vi mb/\∀x:Str,x≠"__name__"->mb x=IL x
 nolimit:base.NoLimit
structure Cx where
 prog:HP
 w:Km
 K:PySem.W.Frag
 mg:Str->Option ez
 base:K9
 A:NU
 N:List Str
 s₀:gj
 H₀:Hp
 env:Env
 outer:List Env
 stack:List Env
 ex:List i5
 fn:Str->Bool
 calm:Bool
 pn:List (i5×Obj)
 xe:ez->gj->Prop
abbrev K7(l:List Env):List i5:=l.filterMap (·.frame)
noncomputable abbrev Cx.fs(X:Cx):List i5:=K7 X.outer
abbrev Ko(a:NZ)(x:Str):Prop:=a.names.lookup x=a0 .local\/a.names.lookup x=a0 .cell\/a.names.lookup x=a0 .free
abbrev Loc(a:NZ)(x:Str):Prop:=a.names.lookup x=a0 .local\/a.names.lookup x=a0 .cell
abbrev Look(env:Env)(h:K9)(m:Str->Option ez)(x:Str)(u:ez):Prop :=
 (env.kindOf x=a0 .local/\m x=a0 u)\/((env.kindOf x=a0 .cell\/env.kindOf x=a0 .free)/\∃c,env.cells.lookup x=a0 c/\h.IsCell c (a0 u))
structure Cx.Ok(X:Cx):Prop where
 mod:Mod X.K X.mg X.base
 kind:X.env.scope.kind=.function
 glob:X.env.globals=J8
 blt:X.env.builtins=Vi
 above:X.s₀.heap.objs.size<=X.env.locals
 inj:∀x y c,X.env.cells.lookup x=a0 c->X.env.cells.lookup y=a0 c->x=y
 has:∀x,(X.env.kindOf x=a0 .cell\/X.env.kindOf x=a0 .free)->∃c,X.env.cells.lookup x=a0 c
 OW:∀x c,X.fn x=b6->X.env.cells.lookup x=a0 c->X.s₀.heap.objs.size<=c
 hd:X.calm=b6->X.A.handled=b5
 frames:X.A.frames=a0 X.stack
 QF:X.stack=X.outer\/(X.stack=X.env::X.outer/\X.env.frame=a0 X.env.locals)
 UR:∀b∈X.ex,b≠X.env.locals/\∀x c,X.env.cells.lookup x=a0 c->c≠b
 bs:∀b o,X.base.get? b=a0 o->X.s₀.heap.get? b=a0 o/\X.H₀ b=b5
 M3:X.base.objs.size<=X.s₀.heap.objs.size
 LS:∀b o,X.base.get? b=a0 o->b∉X.ex
 MG:∀b∈X.ex,b∉X.fs
 kN:X.s₀.heap.FunFrames X.base X.outer
 Ot:∀b∈X.fs,X.H₀ b=b5
structure Inv(X:Cx)(pins:List (i5×Obj))(σ:List (Option V))(H:Hp)(s:gj):Prop where
 ok:X.Ok
 os:s.os=X.s₀.os
 bare:Vs s.gens
 base:Un X.fs X.ex X.H₀ H X.s₀.heap s.heap
 loc:∃m,s.heap.Ns X.env.locals m/\∀(i:Nat) (x:Str) (v:V),X.N[i]?=a0 x->σ[i]?=a0 (a0 v)->Ko X.env.scope x->∃u,RelV v u/\Look X.env s.heap m x u
 cell:∀x c,X.env.cells.lookup x=a0 c->∃v,s.heap.IsCell c v
 free:H X.env.locals=b5
 Jn:∀x c,X.env.cells.lookup x=a0 c->H c=b5
 pin:∀p∈X.pn++pins,s.heap.get? p.1=a0 p.2/\H p.1=b5/\p.1≠X.env.locals/\p.1∉X.fs/\∀v,p.2.data≠.cell v
 Ir:JG X.prog X.w H s.heap
 len:σ.length=X.N.length
section
variable{X:Cx}{pins:List (i5×Obj)}{σ:List (Option V)}{H H':Hp}{s:gj}{h':K9}
def Cx.Ok.Hn(a:X.Ok)(e:X.base.get? b=a0 o):b∉X.fs:=λc=>by
 have:=(a.kN.mem c).1;rw[e]at this;cases this
def Inv.bs(I:Inv X pins σ H s):∀b o,X.base.get? b=a0 o->s.heap.get? b=a0 o/\H b=b5:=λb o e =>
 ⟨I.base.keep b o (I.ok.bs b o e).1 (I.ok.bs b o e).2 (I.ok.Hn e) (I.ok.LS b o e),I.base.free b o (I.ok.bs b o e).1 (I.ok.bs b o e).2 (I.ok.LS b o e)⟩
def Inv.bk(I:Inv X pins σ H s):∀b o,X.base.get? b=a0 o->s.heap.get? b=a0 o:=λb o e=>(I.bs b o e).1
def Inv.mod(I:Inv X pins σ H s):Mod X.K X.mg X.base:=I.ok.mod
def Inv.Nw(I:Inv X pins σ H s):X.K.In s.heap:=I.ok.mod.QE.keeps I.bk
def Inv.lt(I:Inv X pins σ H s):X.env.locals<s.heap.objs.size:=let ⟨_,a,_⟩:=I.loc;a.lt
def Inv.sz(I:Inv X pins σ H s):X.s₀.heap.objs.size<=s.heap.objs.size:=td I.ok.above (Nv I.lt)
def Inv.De(I:Inv X pins σ H s)(h:s.heap.objs.size<=a):a∉X.fs:=λb=>by
 obtain⟨_,o,ho,_⟩:=I.ok.kN.mem b;show absurd (nc (f6 ho) (td I.sz h)) (wk _)
def Inv.Ny(I:Inv X pins σ H s):∀x c,X.env.cells.lookup x=a0 c->c≠X.env.locals:=λx c e z=>by
 have⟨v,o,ho,a⟩:=I.cell x c e;obtain⟨m,⟨o',es,ep,b,d,_⟩,_⟩:=I.loc;rw[z,b]at ho;cases ho;rw[d]at a;cases a
def Inv.kN(I:Inv X pins σ H s):s.heap.FunFrames X.base X.outer:=by
 have all:∀(l:List Env),(∀b∈K7 l,b∈X.fs)->X.s₀.heap.FunFrames X.base l->s.heap.FunFrames X.base l:=by
  intro l;induction l with
  |nil=>intro _ _;trivial
  |cons env r f =>
   intro hs hl;obtain⟨hk,⟨L,o,a,g,ho,h⟩,hr⟩:=hl;have c:L∈X.fs:=hs L (by unfold K7;rw[NG,a];show oT);have⟨i,e⟩:=I.base.slot L o ho (I.ok.Ot L c) c λz=>I.ok.MG L z c;show⟨hk,⟨L,_,a,g,e,h⟩,f (λb d=>hs b (by unfold K7;rw[NG,a];show oW _ d)) hr⟩
 show all X.outer (λ_ d=>d) I.ok.kN
def Inv.stack(I:Inv X pins σ H s):s.heap.FunFrames X.base X.stack:=by
 rcases I.ok.QF with e|⟨e,a⟩
 .rw[e];show I.kN
 .rw[e];obtain⟨m,b,_⟩:=I.loc;show .cons (by rw[I.ok.kind];decide) a b ?_ I.kN;show Heap.get?_none_of_le (td I.ok.M3 I.ok.above)
def Inv.kO(I:Inv X pins σ H s):∀b∈K7 X.stack,b∈X.env.locals::X.fs:=λb a=>by
 rcases I.ok.QF with e|⟨e,c⟩
 .rw[e]at a;show oW _ a
 .rw[e]at a;unfold K7 at a;rw[NG,c]at a;show a
def Inv.t_(I:Inv X pins σ H s):∀b∈K7 X.stack,H b=b5:=λb hb=>by
 rcases ke.mp (I.kO b hb) with e|hb
 .rw[e];show I.free
 .obtain⟨_,o,ho,_⟩:=I.ok.kN.mem hb;show I.base.free b o ho (I.ok.Ot b hb) λz=>I.ok.MG b z hb
def Inv.step{ch:List i5}(I:Inv X pins σ H s)
  (j:∀b∈ch,(b∈X.ex\/X.s₀.heap.objs.size<=b)/\b≠X.env.locals/\(∀x c,X.env.cells.lookup x=a0 c->c≠b)/\∀p∈X.pn++pins,p.1≠b)
  (keep:∀b o,b≠X.env.locals->b∉X.fs->b∉ch->s.heap.get? b=a0 o->H b=b5->h'.get? b=a0 o)
  (slot:∀b o,b≠X.env.locals->b∈X.fs->b∉ch->s.heap.get? b=a0 o->H b=b5->∃C,h'.get? b=a0 {o with slots:=C}) (free:∀b o,b∉ch->s.heap.get? b=a0 o->H b=b5->H' b=b5)
  (there:∀b o,b∉ch->s.heap.get? b=a0 o->∃o',h'.get? b=a0 o')
  (kf:∀b xs,H b=a0 (.tup xs)->H' b=a0 (.tup xs)) (J5:∀b o u,H b=a0 (.Jw o u)->H' b=a0 (.Jw o u)) (Kh:∀b ps,H b=a0 (.Nu ps)->∃t,H' b=a0 (.Nu (ps++t)))
  (ns:∀m,s.heap.Ns X.env.locals m->h'.Ns X.env.locals m) (Q:JG X.prog X.w H' h') (T:Vs g') :
  Inv X pins σ H' {s with heap:=h',gens:=g',drawn:=d',toks:=t' }:=by
 have G:∀b o,X.s₀.heap.get? b=a0 o->b≠X.env.locals:=λb o e=>k7 (nc (f6 e) I.ok.above);have B:∀b o,X.s₀.heap.get? b=a0 o->b∉X.ex->b∉ch:=λb o e a h=>by
  rcases(j b h).1 with z|z
  .show a z
  .show absurd (nc (f6 e) z) (wk _)
 have f:∀x c,X.env.cells.lookup x=a0 c->∀v,s.heap.IsCell c v->h'.IsCell c v:=λx c e v Y=>by
  have⟨o,ho,D⟩:=Y;have y:c∉ch:=λz=>(j c z).2.2.1 x c e rfl;by_cases J:c∈X.fs
  .have⟨C,q⟩:=slot c o (I.Ny x c e) J y ho (I.Jn x c e);show⟨_,q,D⟩
  .show⟨o,keep c o (I.Ny x c e) J y ho (I.Jn x c e),D⟩
 show⟨I.ok,I.os,T,⟨λb o e n h a=>?_,λb o e n h a=>?_,λb o e n a=>?_,λb o e a=>?_,λb xs e=>kf b xs (I.base.kf b xs e),λb o xs e=>J5 b o xs (I.base.J5 b o xs e),λb ps e=>?_⟩,?_,λx c e=>?_,?_,λx c e=>?_,λp L=>?_,Q,I.len⟩
 .show keep b o (G b o e) h (B b o e a) (I.base.keep b o e n h a) (I.base.free b o e n a)
 .have⟨C,g⟩:=I.base.slot b o e n h a;have⟨Wh,A⟩:=slot b _ (G b o e) h (B b o e a) g (I.base.free b o e n a);show⟨Wh,A⟩
 .have⟨o',g⟩:=I.base.there b o e a;show free b o' (B b o e a) g (I.base.free b o e n a)
 .have⟨o',g⟩:=I.base.there b o e a;show there b o' (B b o e a) g
 .have⟨m1,g⟩:=I.base.Kh b ps e;have⟨m2,A⟩:=Kh b _ g;show⟨m1++m2,by rw[A,Array.append_assoc]⟩
 .have⟨m,hn,hl⟩:=I.loc;show⟨m,ns m hn,λi x v g A e3=>?_⟩;have⟨u,r,l⟩:=hl i x v g A e3;show⟨u,r,?_⟩;rcases l with l|⟨k,c,e,z⟩
  .show .inl l
  .show .inr ⟨k,c,e,f x c e _ z⟩
 .have⟨v,z⟩:=I.cell x c e;show⟨v,f x c e v z⟩
 .obtain⟨m,⟨o,_,_,ho,_⟩,_⟩:=I.loc;show free _ o (λz=>(j _ z).2.1 rfl) ho I.free
 .have⟨v,o,ho,D⟩:=I.cell x c e;show free c o (λz=>(j c z).2.2.1 x c e rfl) ho (I.Jn x c e)
 .have⟨e,n,N,O,d⟩:=I.pin p L;have y:p.1∉ch:=λz=>(j p.1 z).2.2.2 p L rfl;show⟨keep p.1 p.2 N O y e n,free p.1 p.2 y e n,N,O,d⟩
def Inv.un(I:Inv X pins σ H s)(u:Un X.fs [] H H' s.heap h')(d:JG X.prog X.w H' h'):Inv X pins σ H' {s with heap:=h',toks:=t' }:=by
 obtain⟨m,⟨o,es,ep,ho,r⟩,_⟩:=id I.loc;have⟨k,f⟩:=u.any ho I.free (by simp);show I.step (g':=s.gens) (d':=s.drawn) (ch:=[]) (λ_ z=>nomatch z) (λb o _ a _ e n=>u.keep b o e n a (by simp)) (λb o _ a _ e n=>u.slot b o e n a (by simp)) (λb o _ e n=>u.free b o e n (by simp)) (λb o _ e=>u.there b o e (by simp)) u.kf u.J5 u.Kh (λl g=>by
  have⟨o',h,i,c,j⟩:=g;rw[ho]at c;cases c;show⟨_,h,i,f,j⟩) d I.bare
def Inv.call(I:Inv X pins σ H s)(u:Un (K7 X.stack) ch H H' s.heap h')(h:JG X.prog X.w H' h')(i:Vs g')
  (f:∀b∈ch,(b∈X.ex\/X.s₀.heap.objs.size<=b)/\b≠X.env.locals/\(∀x c,X.env.cells.lookup x=a0 c->c≠b)/\∀p∈X.pn++pins,p.1≠b) :
  Inv X pins σ H' {s with heap:=h',gens:=g',drawn:=d',toks:=t' }:=by
 obtain⟨m,⟨o,es,ep,ho,r⟩,_⟩:=id I.loc;have⟨v,d⟩:=u.any ho I.free λz=>(f _ z).2.1 rfl;show I.step (ch:=ch) f (λb o d j a e n=>u.keep b o e n (λz=>(ke.mp (I.kO b z)).elim d j) a) (λb o _ _ a e n=>u.any e n a) (λb o a e n=>u.free b o e n a) (λb o a e=>u.there b o e a) u.kf u.J5 u.Kh (λy k=>by
  have⟨o',l,q,g,t⟩:=k;rw[ho]at g;cases g;show⟨_,l,q,d,t⟩) h i
def Inv.turned(I:Inv X pins σ H s)(k:∀b o,b≠it->s.heap.get? b=a0 o->h'.get? b=a0 o)(g:H it=b5)(d:it≠X.env.locals)
  (h:it∈X.ex\/X.s₀.heap.objs.size<=it) (i:∀x c,X.env.cells.lookup x=a0 c->c≠it) (j:∀p∈X.pn++pins,p.1≠it):Inv X pins σ H {s with heap:=h',toks:=t' }:=by
 have f:∀b u,H b=a0 u->b≠it:=λb u e z=>by rw[z,g]at e;cases e
 show I.step (g':=s.gens) (d':=s.drawn) (ch:=[it]) (λb l=>?_) (λb o _ _ a e _=>k b o (λz=>a (by simp[z])) e) (λb o _ _ a e _=>⟨o.slots,k b o (λz=>a (by simp[z])) e⟩) (λ_ _ _ _ n=>n)
  (λb o a e=>⟨o,k b o (λz=>a (by simp[z])) e⟩) (λ_ _ e=>e) (λ_ _ _ e=>e) (λb ps e=>⟨#[],by rw[e];simp⟩) (λm t=>?_) (λb u e=>?_) I.bare
 .have e:b=it:=by simpa using l
  subst e;show⟨h,d,i,j⟩
 .have⟨o,es,ep,ho,r⟩:=t;show⟨o,es,ep,k _ o (vu d) ho,r⟩
 .show(I.Ir b u e).g_ (λc v a q=>k c v ?_ q) (λ_ q=>q) λ_ _ q=>q;rcases a with z|z
  .rw[z];show f b u e
  .show f c _ z
def Inv.tok(I:Inv X pins σ H s)(t:Nat):Inv X pins σ H {s with toks:=t}:=I.un (h':=s.heap) (t':=t) Un.refl I.Ir
def Inv.kept(I:Inv X pins σ H s)(k:∀b u,s.heap.get? b=a0 u->h'.get? b=a0 u):Inv X pins σ H {s with heap:=h',toks:=t' }:=I.un (Un.kept k) (I.Ir.kept k)
def Inv.laid(I:Inv X pins σ H s)(k:∀b u,s.heap.get? b=a0 u->h'.get? b=a0 u)(c:s.heap.objs.size<=a)(new:bL X.prog X.w (upd H a o) h' a o):
  Inv X pins σ (upd H a o) {s with heap:=h',toks:=t' }:=I.un (Un.laid k c (I.Ir.fresh c)) (I.Ir.laid k c new)
def Inv.write(I:Inv X pins σ H s)(a:OU (H x))(c:e=x\/H e=a0 (.own x))(k:∀b u,b≠e->s.heap.get? b=a0 u->h'.get? b=a0 u)(d:∃u,h'.get? e=a0 u)
  (new:bL X.prog X.w (upd H x o) h' x o):Inv X pins σ (upd H x o) {s with heap:=h',toks:=t' }:=I.un (Un.write a c k d) (I.Ir.write a c k d new)
def Inv.weak(I:Inv X pins σ H s)(hl:a.length=σ.length)(w:∀(i:Nat) v,a[i]?=a0 (a0 v)->σ[i]?=a0 (a0 v)):Inv X pins a H s :=
 ⟨I.ok,I.os,I.bare,I.base,let ⟨m,b,c⟩:=I.loc;⟨m,b,λi x v d e f=>c i x v d (w i v e) f⟩,I.cell,I.free,I.Jn,I.pin,I.Ir,hl.trans I.len⟩
def Inv.eu(I:Inv X pins σ H s)(h:∀p∈a,s.heap.get? p.1=a0 p.2/\H p.1=b5/\p.1≠X.env.locals/\p.1∉X.fs/\∀v,p.2.data≠.cell v):Inv X a σ H s :=
 ⟨I.ok,I.os,I.bare,I.base,I.loc,I.cell,I.free,I.Jn,λp b=>(ko.mp b).elim (λz=>I.pin p (wh _ z)) (h p),I.Ir,I.len⟩
def kP{N:List Str}(c:N.Nodup){i j:Nat}(a:N[i]?=a0 x)(b:N[j]?=a0 x):i=j:=by
 have⟨f,d⟩:=eW.mp a;have⟨g,e⟩:=eW.mp b;show(ò c).mp (d.trans e.symm)
def m6(I:Inv X pins σ H s)(hN:X.N.Nodup)(D:X.N[i]?=a0 x)(l:Loc X.env.scope x)(r:RelV v u)
  (h:∀s',Inv X pins (σ.set i (a0 v)) H s'->(∃a,ri a s.heap s'.heap/\(a=X.env.locals\/X.env.cells.lookup x=a0 a))->Q () s') (hf:X.fn x=b6\/X.env.scope.names.lookup x=a0 .local:=by first|show .inl rfl|show .inr rfl|assumption):eH M A (ĵ X.env x u) Q E s:=by
 have⟨m,O,hl⟩:=id I.loc;have RA:(X.env.scope.kind==.class||(X.env.scope.kind==.module&&X.env.locals != X.env.globals))=cb:=by rw[I.ok.kind];rfl
 have UT:i < σ.length:=by rw[I.len];show(eW.mp D).1
 have T:=I.Ny;have f:∀{a:i5} {h':K9},(∃o,s.heap.get? a=a0 o/\H a=b5)->ri a s.heap h'->JG X.prog X.w H h':=λ{a h'} ha hs b ob e=>by
  obtain⟨_,_,IW⟩:=ha;show(I.Ir b ob e).g_ (λc G hc q=>(hs.2 c ?_).trans q) (λ_ q=>q) λ_ _ q=>q;rintro rfl;rcases hc with rfl|hc
  .rw[IW]at e;cases e
  .rw[IW]at hc;cases hc
 rcases l with hk|hk
 .show wpAny_storeName_local hk O (λh' QH hs=>?_) RA;obtain⟨oL,_,_,MH,_⟩:=id O;show h _ ⟨I.ok,I.os,I.bare,⟨λb o e n B l=>?_,λb o e n B l=>?_,I.base.free,λb o e l=>?_,I.base.kf,I.base.J5,I.base.Kh⟩,⟨_,QH,λj y Y g t e3=>?_⟩,λy c e=>?_,I.free,I.Jn,λp hp=>?_,f ⟨oL,MH,I.free⟩ hs,by simpa using I.len⟩ ⟨_,hs,.inl rfl⟩
  .show(hs.2 b (k7 (nc (f6 e) I.ok.above))).trans (I.base.keep b o e n B l)
  .have⟨sl,g⟩:=I.base.slot b o e n B l;show⟨sl,(hs.2 b (k7 (nc (f6 e) I.ok.above))).trans g⟩
  .have⟨o',g⟩:=I.base.there b o e l;show⟨o',(hs.2 b (k7 (nc (f6 e) I.ok.above))).trans g⟩
  .by_cases C:j=i
   .subst C;rw[D]at g;cases g;rw[hU UT]at t;cases t;show⟨u,r,.inl ⟨hk,by simp⟩⟩
   .rw[nH (vu C)]at t;have⟨u',r',q⟩:=hl j y Y g t e3;show⟨u',r',?_⟩;rcases q with⟨k,e⟩|⟨k,c,e,z⟩
    .show .inl ⟨k,?_⟩;have:y≠x:=λe=>C (kP hN g (e▸D));simp[this,e]
    .show .inr ⟨k,c,e,z.sameBut hs (T y c e)⟩
  .have⟨G,z⟩:=I.cell y c e;show⟨G,z.sameBut hs (T y c e)⟩
  .have⟨e,n,J,nf,d⟩:=I.pin p hp;show⟨(hs.2 p.1 J).trans e,n,J,nf,d⟩
 .have Mp:X.fn x=b6:=by
   rcases hf with z|z
   .show z
   .rw[z]at hk;cases hk
  have⟨c,hc⟩:=I.ok.has x (.inl hk);have⟨G,z⟩:=I.cell x c hc;show wpAny_storeName_cell I.ok.kind hk hc z (λh' Mq hs=>?_);have⟨oc,UU,RB⟩:=id z;show h {s with heap:=h' } ⟨I.ok,I.os,I.bare,⟨λb o e n B l=>?_,λb o e n B l=>?_,I.base.free,λb o e l=>?_,I.base.kf,I.base.J5,I.base.Kh⟩,⟨m,O.sameBut hs (vu (T x c hc)),λj y Y g t e3=>?_⟩,λy L e=>?_,I.free,I.Jn,λp hp=>?_,f ⟨oc,UU,I.Jn x c hc⟩ hs,by simpa using I.len⟩ ⟨c,hs,.inr hc⟩
  .show(hs.2 b (k7 (nc (f6 e) (I.ok.OW x c Mp hc)))).trans (I.base.keep b o e n B l)
  .have⟨sl,g⟩:=I.base.slot b o e n B l;show⟨sl,(hs.2 b (k7 (nc (f6 e) (I.ok.OW x c Mp hc)))).trans g⟩
  .have⟨o',g⟩:=I.base.there b o e l;show⟨o',(hs.2 b (k7 (nc (f6 e) (I.ok.OW x c Mp hc)))).trans g⟩
  .by_cases C:j=i
   .subst C;rw[D]at g;cases g;rw[hU UT]at t;cases t;show⟨u,r,.inr ⟨.inl hk,c,hc,Mq⟩⟩
   .rw[nH (vu C)]at t;have⟨u',r',q⟩:=hl j y Y g t e3;show⟨u',r',?_⟩;rcases q with q|⟨k,L,e,z'⟩
    .show .inl q
    .show .inr ⟨k,L,e,z'.sameBut hs ?_⟩;rintro rfl;show C (kP hN g (I.ok.inj _ _ _ e hc▸D))
  .by_cases UW:L=c
   .subst UW;show⟨_,Mq⟩
   .have⟨w2,z2⟩:=I.cell y L e;show⟨w2,z2.sameBut hs UW⟩
  .have⟨e,n,J,nf,d⟩:=I.pin p hp;show⟨(hs.2 p.1 ?_).trans e,n,J,nf,d⟩;intro q;rw[q,UU]at e;have q':oc=p.2:=sL e;show d G (by rw[<-q'];show RB)
def kQ(I:Inv X pins σ H s)(a:X.N.Nodup)(b:X.N[i]?=a0 x)(c:Loc X.env.scope x)(r:RelV v u)
  (h:∀s',Inv X pins (σ.set i (a0 v)) H s'->Q () s') (d:X.fn x=b6\/X.env.scope.names.lookup x=a0 .local:=by first|show .inl rfl|show .inr rfl|assumption):eH M A (ĵ X.env x u) Q E s :=
 m6 I a b c r (λs' e _=>h s' e) d
def Inv.Ft(I:Inv X pins σ H s)(ho:s'.os=s.os)(u:Un (K7 X.stack) ch H H' s.heap s'.heap)(a:JG X.prog X.w H' s'.heap)(d:Vs s'.gens)
  (f:∀b∈ch,(b∈X.ex\/X.s₀.heap.objs.size<=b)/\b≠X.env.locals/\(∀x c,X.env.cells.lookup x=a0 c->c≠b)/\∀p∈X.pn++pins,p.1≠b):Inv X pins σ H' s':=by
 have⟨h',g',d',t',o'⟩:=s';have e:o'=s.os:=ho;subst e;show I.call (g':=g') (t':=t') (d':=d') u a d f
end
@[reducible]def XK:=ez->Option i5->Hp->Prop
@[reducible]def St:=List (Option V)
@[reducible]def VK:=V->Hp->Prop
@[reducible]def TE:=St->Hp->VK->Prop
@[reducible]def TT:=St->Hp->(Bool->Hp->Prop)->Prop
@[reducible]def TA:=St->Hp->(List V->Hp->Prop)->Prop
structure Ends where
 nx:St->Hp->Prop
 rt:VK
 bk:St->Hp->Prop:=λ_ _=>False
 ct:St->Hp->Prop:=λ_ _=>False
@[reducible]def TS:=Ends->St->Hp->Prop
abbrev EP(X:Cx)(a:List (i5×Obj))(σ:St)(Q:VK)(u:ez)(s':gj):Prop:=∃v H',Inv X a σ H' s'/\RelV v u/\Q v H'
abbrev TP(X:Cx)(a:List (i5×Obj))(σ:St)(Q:Bool->Hp->Prop)(b:Bool)(s':gj):Prop:=∃H',Inv X a σ H' s'/\Q b H'
abbrev AP(X:Cx)(a:List (i5×Obj))(σ:St)(Q:List V->Hp->Prop)(us:List ez)(s':gj):Prop:=∃vs H',Inv X a σ H' s'/\Vals vs us/\Q vs H'
abbrev SP(X:Cx)(a:List (i5×Obj))(D:Ends)(f:Flow)(s':gj):Prop :=
 match f with
 |.next=>∃b H',Inv X a b H' s'/\D.nx b H'
 |.brk=>∃b H',Inv X a b H' s'/\D.bk b H'
 |.cont=>∃b H',Inv X a b H' s'/\D.ct b H'
 |.ret u=>∃v b H',Inv X a b H' s'/\RelV v u/\D.rt v H'
abbrev PE(X:Cx)(e:p8)(t:TE):Prop :=
 ∀(a:List (i5×Obj)) (s:gj) (σ:St) (H:Hp) (Q:VK),Inv X a σ H s->t σ H Q->eH (kj X.prog X.w) X.A (KH e X.env) (EP X a σ Q) X.xe s
abbrev PT(X:Cx)(e:p8)(t:TT):Prop :=
 ∀(a:List (i5×Obj)) (s:gj) (σ:St) (H:Hp) (Q:Bool->Hp->Prop),Inv X a σ H s->t σ H Q->eH (kj X.prog X.w) X.A (isTrue e X.env (KH e X.env)) (TP X a σ Q) X.xe s
abbrev PW(X:Cx)(e:p8)(t:TT):Prop :=
 ∀(b:Sem ez) (a:List (i5×Obj)) (s:gj) (σ:St) (H:Hp) (Q:Bool->Hp->Prop),Inv X a σ H s->t σ H Q->eH (kj X.prog X.w) X.A (isTrue e X.env b) (TP X a σ Q) X.xe s
def PW.pt(h:PW X e t):PT X e t:=h _
abbrev PA(X:Cx)(es:List p8)(t:TA):Prop :=
 ∀(pos:Pos) (a:List (i5×Obj)) (s:gj) (σ:St) (H:Hp) (Q:List V->Hp->Prop),Inv X a σ H s->t σ H Q->eH (kj X.prog X.w) X.A (Ĥ (Ll pos (mx es X.env))) (AP X a σ Q) X.xe s
abbrev PS(X:Cx)(st:Pc)(t:TS):Prop :=
 ∀(a:List (i5×Obj)) (s:gj) (σ:St) (H:Hp) (D:Ends),Inv X a σ H s->t D σ H->eH (kj X.prog X.w) X.A (exec st X.env) (SP X a D) X.xe s
abbrev JK(X:Cx)(st:List Pc)(t:TS):Prop :=
 ∀(a:List (i5×Obj)) (s:gj) (σ:St) (H:Hp) (D:Ends),Inv X a σ H s->t D σ H->eH (kj X.prog X.w) X.A (execs st X.env) (SP X a D) X.xe s
def Iw(h:eH M A t Q E s)(b:∀a s,Q a s->Q' a s):eH M A t Q' E s:=w6 h b λ_ _ x=>x
section
abbrev Ho(i:Nat):TE:=λσ H Q=>∃v,σ[i]?=a0 (a0 v)/\Q v H
abbrev tC(v:V):TE:=λ_ H Q=>Q v H
def cT(j:X.N[i]?=a0 x)(k:Ko X.env.scope x)(d:(x==("__debug__":Str))=cb:=by decide)(n:(x==("__classdict__":Str))=cb:=by decide):PE X (.Name x pos) (Ho i):=by
 intro b s σ H Q I h;have⟨v,e,h⟩:=h;have⟨m,o,hl⟩:=I.loc;have⟨u,r,l⟩:=hl i x v j e k;have a:EP X b σ Q u s:=⟨v,H,I,r,h⟩
 rcases l with⟨hk,p⟩|⟨hk,c,f,g⟩
 .show ē (õ I.ok.kind hk o p a) d
 .rcases hk with hk|hk
  .show ē (Ċ I.ok.kind hk f g a) d
  .show ē (wpAny_loadName_free I.ok.kind hk f g a n) d
def xl:PE X (.Constant (.int i) j pos) (tC (.int i)):=λ_ _ _ H _ I h=>wpAny_Constant_int ⟨.int i,H,I.tok _,⟨_,rfl⟩,h⟩
def Fu:PE X (.Constant (.bool b) j pos) (tC (.bl b)):=λ_ _ _ H _ I h=>Constant_bool ⟨.bl b,H,I,rfl,h⟩
def Df:PE X (.Constant .none j pos) (tC .Iy):=λ_ _ _ H _ I h=>Constant_none ⟨.Iy,H,I,rfl,h⟩
def Dg:PE X (.Constant (.str x) j pos) (tC (.str x)):=λ_ _ _ H _ I h=>Calls.Constant_str ⟨.str x,H,I.tok _,⟨_,rfl⟩,h⟩
abbrev Gl(X:Cx)(x:Str):Prop:=X.env.kindOf x=a0 .globalImplicit
def oG(I:Inv X a σ H s)(b:Gl X x)(c:X.mg x=a0 u)(h:Q u s)
  (d:(x==("__debug__":Str))=cb:=by decide):eH (kj X.prog X.w) X.A (KH (.Name x pos) X.env) Q E s :=
 YG I.ok.kind b (Calls.loadGlobal_global (by rw[I.ok.glob];show I.mod.glob.keeps I.bk) c h) d
def dc(I:Inv X a σ H s)(b:Gl X x)(c:X.mg x=b5)(d:IL x=a0 u)(h:Q u s)
  (e:x≠"__name__":=by decide) (f:(x==("__debug__":Str))=cb:=by decide):eH (kj X.prog X.w) X.A (KH (.Name x pos) X.env) Q E s:=by
 have⟨j,g,i⟩:=I.mod.blt;show YG I.ok.kind b (Calls.loadGlobal_builtin (by rw[I.ok.glob];show I.mod.glob.keeps I.bk) c (by rw[I.ok.blt];show g.keeps I.bk) ((i x e).trans d) h) f
def Ak(a:Gl X x)(b:X.mg x=a0 u)(r:RelV v u)(c:(x==("__debug__":Str))=cb:=by decide):PE X (.Name x pos) (tC v) :=
 λ_ _ _ H _ I h=>oG I a b ⟨v,H,I,r,h⟩ c
def Al(a:Gl X x)(b:X.mg x=b5)(c:IL x=a0 u)(r:RelV v u)(d:x≠"__name__":=by decide)(e:(x==("__debug__":Str))=cb:=by decide):PE X (.Name x pos) (tC v) :=
 λ_ _ _ H _ I h=>dc I a b c ⟨v,H,I,r,h⟩ d e
abbrev PC(X:Cx)(op:CmpOp)(a b:p8)(t:TE):Prop :=
 ∀(c:List (i5×Obj)) (s:gj) (σ:St) (H:Hp) (Q:VK),Inv X c σ H s->t σ H Q ->
  eH (kj X.prog X.w) X.A (KH a X.env) (λv d=>eH (kj X.prog X.w) X.A (KH b X.env) (λu e=>eH (kj X.prog X.w) X.A (MO op v u) (EP X c σ Q) X.xe e) X.xe d) X.xe s
abbrev tB(t:TE):TT:=λσ H Q=>t σ H λx a=>∃c,x=.bl c/\Q c a
def xm(h:PC X op a b t)(d:Py op b=cb:=by first|show f _ (by decide) (by decide)|rfl):PE X (.Compare a [op] [b] pos) t:=λc s σ H Q I e=>ň (h c s σ H Q I e) d
def xn(h:PC X op a b t)(f:Py op b=cb:=by first|show n _ (by decide) (by decide)|rfl):PT X (.Compare a [op] [b] pos) (tB t):=by
 intro e s σ H Q I g;show î (Iw (h e s σ H _ I g) λv s1 f=>Iw f λu s2 i=>Iw i λc s3 ⟨x,j,k,l,m⟩=>?_) f;have⟨d,rfl,q⟩:=m;cases l;show Kr ⟨j,k,q⟩
abbrev Hq(t u:TT):TT:=λσ H Q=>t σ H λc a=>if c=b6 then u σ a Q else Q cb a
abbrev Wi(t u:TT):TT:=λσ H Q=>t σ H λc a=>if c=b6 then Q b6 a else u σ a Q
abbrev Hr(t:TT):TT:=λσ H Q=>t σ H λc a=>Q (!c) a
def Am(d:PT X a f):PW X (.BoolOp .And [a] pos) f:=by
 intro g b s σ H Q I h;show isTrue_and (Iw (d b s σ H Q I h) λc s1 e=>?_);cases c with
 |true=>show ŕ e
 |false=>show e
def Dh(d:PT X a f):PW X (.BoolOp .Or [a] pos) f:=by
 intro g b s σ H Q I h;show isTrue_or (Iw (d b s σ H Q I h) λc s1 e=>?_);cases c with
 |false=>show isTrue_or_nil e
 |true=>show e
def Di(j:PT X a k)(l:PW X (.BoolOp .And (b::e) pos) m):PW X (.BoolOp .And (a::b::e) pos) (Hq k m):=by
 intro n d s σ H Q I h;show isTrue_and (Iw (j d s σ H _ I h) λc s1 o=>?_);have⟨f,g,i⟩:=o;cases c with
 |true=>show l n d s1 σ f Q g i
 |false=>show⟨f,g,i⟩
def Fv(j:PT X a k)(l:PW X (.BoolOp .Or (b::e) pos) m):PW X (.BoolOp .Or (a::b::e) pos) (Wi k m):=by
 intro n d s σ H Q I h;show isTrue_or (Iw (j d s σ H _ I h) λc s1 o=>?_);have⟨f,g,i⟩:=o;cases c with
 |true=>show⟨f,g,i⟩
 |false=>show l n d s1 σ f Q g i
def Dj(d:PT X a e):PT X (.UnaryOp .Not a pos) (Hr e):=by
 intro b s σ H Q I h;show isTrue_not (d b s σ H (λc f=>Q (!c) f) I h)
abbrev Fw(b d:TE):TE:=λσ H Q=>b σ H λx a=>∃c,x=.bl c/\if c=b6 then d σ a Q else Q (.bl cb) a
abbrev Hs(b d:TE):TE:=λσ H Q=>b σ H λx a=>∃c,x=.bl c/\if c=b6 then Q (.bl b6) a else d σ a Q
abbrev Fx(a:TE):TE:=λσ H Q=>a σ H λx b=>∃c,x=.bl c/\Q (.bl (!c)) b
def xo(h:PE X a t):PE X (.BoolOp op [a] pos) t:=λb s σ H Q I c=>BoolOp_one (h b s σ H Q I c)
def Dk(j:PE X a k)(l:PE X (.BoolOp .And (b::e) pos) m):PE X (.BoolOp .And (a::b::e) pos) (Fw k m):=by
 intro d s σ H Q I h;show BoolOp_and (Iw (j d s σ H _ I h) λv s1 n=>?_);have⟨x,g,i,o,f⟩:=n;have⟨c,rfl,f⟩:=f;cases o;show Kr ?_;cases c with
 |true=>show l d s1 σ g Q i f
 |false=>show⟨.bl cb,g,i,rfl,f⟩
def Fy(j:PE X a k)(l:PE X (.BoolOp .Or (b::e) pos) m):PE X (.BoolOp .Or (a::b::e) pos) (Hs k m):=by
 intro d s σ H Q I h;show BoolOp_or (Iw (j d s σ H _ I h) λv s1 n=>?_);have⟨x,g,i,o,f⟩:=n;have⟨c,rfl,f⟩:=f;cases o;show Kr ?_;cases c with
 |false=>show l d s1 σ g Q i f
 |true=>show⟨.bl b6,g,i,rfl,f⟩
def Dl(e:PE X a f):PE X (.UnaryOp .Not a pos) (Fx f):=by
 intro b s σ H Q I h;show UnaryOp_ (Iw (e b s σ H _ I h) λv s1 g=>?_);have⟨x,i,j,k,d⟩:=g;have⟨c,rfl,d⟩:=d;cases k;show not_of (Kr ⟨.bl (!c),i,j,rfl,d⟩)
abbrev Wo(t:TT)(b d:TE):TE:=λσ H Q=>t σ H λc a=>if c=b6 then b σ a Q else d σ a Q
def xp(j:PT X c k)(l:PE X a m)(n:PE X b o):PE X (.IfExp c a b pos) (Wo k m o):=by
 intro e s σ H Q I h;show wpAny_IfExp (Iw (j e s σ H _ I h) λd s1 p=>?_);have⟨f,g,i⟩:=p;cases d with
 |true=>show l e s1 σ f Q g i
 |false=>show n e s1 σ f Q g i
end
abbrev Je(K:PySem.W.Frag)(H:Hp)(a:i5)(xs:List V):Prop :=
 Rd H a (.lst xs) \/
  ∃(o:Obj) (b:Array ez) (n:Nat),K.lookup a=a0 o/\o.cls=.type "list"/\o.dict=b5/\o.data=.seq b n/\b.size<=dV/\Vals xs b.toList
abbrev IX(K:PySem.W.Frag)(H:Hp)(a:i5)(xs:List V):Prop :=
 Rd H a (.tup xs) \/
  ∃(o:Obj) (b:Array ez) (n:Nat),K.lookup a=a0 o/\o.cls=.type "tuple"/\o.data=.seq b n/\b.size<=dV/\Vals xs b.toList
abbrev Ht:ez->Option V
 |.none=>a0 .Iy
 |.bool b=>a0 (.bl b)
 |.int i _=>a0 (.int i)
 |.str x _=>a0 (.str x)
 |.bytes b _=>a0 (.QB b)
 |.float b _=>a0 (.QC b)
 |.ref a=>a0 (.ref a)
 |.type n=>a0 (.ty n)
 |_=>b5
def RelV.abs(r:RelV x u):Ht u=a0 x:=by
 cases x with
 |Iy=>cases r;rfl
 |bl _=>cases r;rfl
 |ref _=>cases r;rfl
 |ty _=>cases r;rfl
 |_=>have⟨t,rfl⟩:=r;rfl
def RelV.inj(r:RelV x u)(q:RelV y u):x=y:=sL (r.abs.symm.trans q.abs)
theorem Vals.inj:∀{xs ys:List V}{us:List ez},Vals xs us->Vals ys us->xs=ys
 |_,_,_,.nil,.nil=>rfl
 |_,_,_,.cons r t,.cons a t'=>by rw[r.inj a,Vals.inj t t']
section
def Je.of{K:PySem.W.Frag}(h:H a=a0 (.lst xs)):Je K H a xs:=.inl (.inl h)
def IX.of{K:PySem.W.Frag}(h:H a=a0 (.tup xs)):IX K H a xs:=.inl (.inl h)
def Inv.list(I:Inv X c σ H s)(h:Je X.K H a xs):∃b:List ez,Vals xs b/\PlainL s.heap a b.toArray/\xs.length<=dV:=by
 rcases h with h|⟨o,b,n,hk,d,f,hs,hz,r⟩
 .have⟨z,b,n,r,e⟩:=h.ok I.Ir;show⟨b,r,⟨_,n,e,rfl,rfl,rfl⟩,z⟩
 .show⟨b.toList,r,⟨o,n,I.Nw a o hk,d,f,by simpa using hs⟩,?_⟩;have e:=r.length;simp only[lx]at e;lia
def Inv.tuple(I:Inv X c σ H s)(h:IX X.K H a xs):∃b:List ez,Vals xs b/\Ă s.heap a b.toArray/\xs.length<=dV:=by
 rcases h with h|⟨o,b,n,hk,d,hs,hz,r⟩
 .have⟨z,b,r,p⟩:=h.ok I.Ir;show⟨b,r,p,z⟩
 .show⟨b.toList,r,⟨o,I.Nw a o hk,d,n,by simpa using hs⟩,?_⟩;have e:=r.length;simp only[lx]at e;lia
def Inv.kR(I:Inv X b σ H s)(h:Je X.K H a xs)(h':Je X.K H a ys):xs=ys:=by
 obtain⟨f,r,⟨o,n,e,_,_,d⟩,_⟩:=I.list h;obtain⟨its',g,⟨o',j,c,_,_,d'⟩,_⟩:=I.list h';rw[e]at c;cases c;rw[d]at d';injection d' with i _
 have:f=its':=by simpa using ŝ Zn i
 subst this;show r.inj g
def Inv.jm(I:Inv X b σ H s)(h:IX X.K H a xs)(h':IX X.K H a ys):xs=ys:=by
 obtain⟨f,r,⟨o,e,_,n,d⟩,_⟩:=I.tuple h;obtain⟨its',g,⟨o',c,_,j,d'⟩,_⟩:=I.tuple h';rw[e]at c;cases c;rw[d]at d';injection d' with i _
 have:f=its':=by simpa using ŝ Zn i
 subst this;show r.inj g
end
@[reducible]def Cx.mK(X:Cx)(E:ez->gj->Prop):Cx:={X with xe:=E}
@[reducible]def Cx.OZ(X:Cx):Cx:=X.mK λ_ _=>False
def Cx.Ok.mK{X:Cx}(a:X.Ok)(E:ez->gj->Prop):(X.mK E).Ok :=
 ⟨a.mod,a.kind,a.glob,a.blt,a.above,a.inj,a.has,a.OW,a.hd,a.frames,a.QF,a.UR,a.bs,a.M3,a.LS,a.MG,a.kN,a.Ot⟩
def Cx.Ok.jn{X:Cx}(a:(X.mK E).Ok):X.Ok :=
 ⟨a.mod,a.kind,a.glob,a.blt,a.above,a.inj,a.has,a.OW,a.hd,a.frames,a.QF,a.UR,a.bs,a.M3,a.LS,a.MG,a.kN,a.Ot⟩
section
def Inv.mK(I:Inv X a σ H s)(E:ez->gj->Prop):Inv (X.mK E) a σ H s:=⟨I.ok.mK E,I.os,I.bare,I.base,I.loc,I.cell,I.free,I.Jn,I.pin,I.Ir,I.len⟩
def Inv.jn(I:Inv (X.mK E) a σ H s):Inv X a σ H s:=⟨I.ok.jn,I.os,I.bare,I.base,I.loc,I.cell,I.free,I.Jn,I.pin,I.Ir,I.len⟩
def SP.jn(h:SP (X.mK E) a D f s'):SP X a D f s':=by
 cases f with
 |ret u=>have⟨v,b,H',I,r,q⟩:=h;show⟨v,b,H',I.jn,r,q⟩
 |_=>have⟨b,H',I,q⟩:=h;show⟨b,H',I.jn,q⟩
def JK.OZ{st:List Pc}(h:JK X.OZ st t):JK X st t:=λa s σ H D I b =>
 w6 (h a s σ H D (I.mK _) b) (λ_ _ q=>q.jn) λ_ _ z=>Pt z
end
section
variable{X:Cx}{st:Pc}{rest:List Pc}{t u:TS}{e:p8}{te:TE}{pos:Pos}
abbrev Cu:TS:=λD σ H=>D.nx σ H
abbrev Hu(t u:TS):TS:=λD σ H=>t {D with nx:=u D} σ H
def An:JK X [] Cu:=λ_ _ σ H _ I h=>Zd ⟨σ,H,I,h⟩
def xq(b:PS X st t)(c:JK X rest u):JK X (st::rest) (Hu t u):=by
 intro a s σ H D I h;show wpAny_execs_cons (Iw (b a s σ H {D with nx:=u D} I h) λf s1 q=>?_);cases f with
 |next =>
  have⟨d,H',g,q⟩:=q;show c a s1 d H' D g q
 |_=>show q
abbrev Dm:TS:=λD σ H=>D.bk σ H
abbrev Fz:TS:=λD σ H=>D.ct σ H
def Ao:PS X (.Pass pos) Cu:=λ_ _ σ H _ I h=>wpAny_Pass ⟨σ,H,I,h⟩
def xr:PS X (.Break pos) Dm:=λ_ _ σ H _ I h=>wpAny_Break ⟨σ,H,I,h⟩
def qt:PS X (.Continue pos) Fz:=λ_ _ σ H _ I h=>wpAny_Continue ⟨σ,H,I,h⟩
def Inv.quiet(I:Inv X a σ H s):interactive X.env=cb:=by simp[interactive,I.ok.kind]
abbrev FA(te:TE):TS:=λD σ H=>te σ H λ_ a=>D.nx σ a
def kr(b:PE X e te)(hs:R6 e b5 pos.line X.env=pure cb:=by rfl):PS X (.Expr e pos) (FA te):=by
 intro a s σ H D I h;show wpAny_Expr_any (Iw (b a s σ H _ I h) λv s1 ⟨x,c,d,g,f⟩=>⟨σ,c,d,f⟩) I.quiet hs
abbrev Hv(te:TE):TS:=λD σ H=>te σ H D.rt
def xu(b:PE X e te):PS X (.Return (a0 e) pos) (Hv te):=by
 intro a s σ H D I h;show wpAny_Return_some (Iw (b a s σ H _ I h) λv s1 ⟨x,c,d,f,g⟩=>⟨x,σ,c,d,f,g⟩)
abbrev FC:TS:=λD _ H=>D.rt .Iy H
def Ap:PS X (.Return b5 pos) FC:=λ_ _ σ H _ I h=>wpAny_Return_none ⟨.Iy,σ,H,I,rfl,h⟩
abbrev Hw(c:TT)(t u:TS):TS:=λD σ H=>c σ H λb a=>if b=b6 then t D σ a else u D σ a
def FD(k:PT X c l)(m:JK X a t)(n:JK X b u):PS X (.If c a b pos) (Hw l t u):=by
 intro f s σ H D I h;show wpAny_If (Iw (k f s σ H _ I h) λd s1 o=>?_);have⟨g,i,j⟩:=o;cases d with
 |true=>show m f s1 σ g D i j
 |false=>show n f s1 σ g D i j
end
@[reducible]def TG:=V->St->Hp->(St->Hp->Prop)->Prop
@[reducible]def Ou:=List V->St->Hp->(St->Hp->Prop)->Prop
abbrev PG(X:Cx)(a:p8)(t:TG):Prop :=
 ∀(b:List (i5×Obj)) (s:gj) (σ:St) (H:Hp) (v:V) (u:ez) (Q:St->Hp->Prop),Inv X b σ H s->RelV v u->t v σ H Q ->
  eH (kj X.prog X.w) X.A (TK a X.env u) (λ_ s'=>∃c H',Inv X b c H' s'/\Q c H') X.xe s
abbrev O0(X:Cx)(ts:List p8)(t:Ou):Prop :=
 ∀(a:List (i5×Obj)) (s:gj) (σ:St) (H:Hp) (vs:List V) (us:List ez) (Q:St->Hp->Prop),Inv X a σ H s->Vals vs us->t vs σ H Q ->
  eH (kj X.prog X.w) X.A (assignInOrder ((Q2 ts X.env).map (·.2)) us) (λ_ s'=>∃b H',Inv X a b H' s'/\Q b H') X.xe s
@[reducible]def Dn:=V->V->V->Hp->(Hp->Prop)->Prop
abbrev kS(X:Cx)(t:Dn):Prop :=
 ∀(a:List (i5×Obj)) (s:gj) (σ:St) (H:Hp) (o i v:V) (b c u:ez) (Q:Hp->Prop),Inv X a σ H s->RelV o b->RelV i c->RelV v u->t o i v H Q ->
  eH (kj X.prog X.w) X.A (Vd b c u) (λ_ s'=>∃H',Inv X a σ H' s'/\Q H') X.xe s
@[reducible]def QI:=V->V->Hp->VK->Prop
abbrev O3(X:Cx)(op:ü)(t:QI):Prop :=
 ∀(a:List (i5×Obj)) (s:gj) (σ:St) (H:Hp) (x y:V) (v u:ez) (Q:VK),Inv X a σ H s->RelV x v->RelV y u->t x y H Q ->
  eH (kj X.prog X.w) X.A (inplaceOp op v u) (EP X a σ Q) X.xe s
section
abbrev ub(i:Nat):TG:=λv σ H Q=>Q (σ.set i (a0 v)) H
def uc(b:X.N.Nodup)(c:X.N[i]?=a0 x)(d:Loc X.env.scope x)(e:X.fn x=b6\/X.env.scope.names.lookup x=a0 .local:=by first|show .inl rfl|show .inr rfl|assumption):PG X (.Name x pos) (ub i):=by
 intro a s σ H v u Q I r h;show ģ (kQ I b c d r (λs' f=>⟨_,H,f,h⟩) e)
abbrev FE:Ou:=λvs σ H Q=>vs=[]/\Q σ H
abbrev Cv(t:TG)(u:Ou):Ou:=λvs σ H Q=>∃v r,vs=v::r/\t v σ H λa H'=>u r a H' Q
def Aq:O0 X [] FE:=by
 intro a s σ H vs us Q I r h;have⟨e,h⟩:=h;subst e;cases r;show assignInOrder_nil ⟨σ,H,I,h⟩
def xv(b:PG X e t)(c:O0 X es u)
  (hs:(Q2 (e::es) X.env).map (·.2)=TK e X.env::(Q2 es X.env).map (·.2):=by rfl):O0 X (e::es) (Cv t u):=by
 intro a s σ H vs us Q I r h;have⟨v,m,d,h⟩:=h;subst d;cases r with
 |cons r f =>
  rw[hs];show assignInOrder_cons (Iw (b a s σ H _ _ _ I r h) λ_ s1 g=>?_);have⟨i,j,k,l⟩:=g;show c a s1 i j _ _ Q k f l
abbrev Hx(K:PySem.W.Frag)(n:Nat)(t:Ou):TG:=λv σ H Q=>∃a xs,v=.ref a/\IX K H a xs/\xs.length=n/\t xs σ H Q
def Dp(f:X.calm=b6)(h:O0 X es t)
  (g:(Q2 es X.env).length=n:=by rfl) (i:(Q2 es X.env).findIdx? (·.1)=b5:=by rfl):PG X (.Tuple es k pos) (Hx X.K n t):=by
 intro c s σ H v u Q I r d;have⟨a,xs,j,l,hl,d⟩:=d;subst j;cases r;have⟨w,rv,m,hz⟩:=I.tuple l;show assign_Tuple_tuple (I.ok.hd f) m (by simp[g,<-hl,rv.length]) i λh' p=>?_;have q:Inv X c σ H {s with heap:=h' }:=I.kept (t':=s.toks) λb o e=>p b o (k7 (f6 e)) e;show h c _ σ H xs _ Q q (by simpa using rv) d
abbrev Hy(a b:TE)(t:Dn):TG:=λv σ H Q=>a σ H λo c=>b σ c λi d=>t o i v d λe=>Q σ e
def xw(ho:PE X o d)(e:PE X i f)(hs:kS X t)
  (g:∀v,TK (.Subscript o i pos) X.env v=(do
   let b <-N_ [v] (KH o X.env)
   let c <-N_ [v,b] (KH i X.env)
   Zo pos
   N_ [v,b,c] (Vd b c v)
   XZ [v,b,c] []):=by intro _;rfl):PG X (.Subscript o i pos) (Hy d f t):=by
 intro a s σ H v u Q I r h;rw[g];show bD (uk (Iw (ho a s σ H _ I h) λb s1 j=>?_));have⟨x,k,l,m,n⟩:=j;show bD (uk (Iw (e a s1 σ k _ l n) λc s2 p=>?_));have⟨y,q,w,z,A⟩:=p;show bD (Â (bD (uk (Iw (hs a s2 σ q x y v b c u _ w m z r A) λ_ s3 B=>?_))));have⟨C,D,G⟩:=B;show wpAny_release ⟨σ,C,D,G⟩
abbrev Dq(a:TE)(g:TG):TS:=λD σ H=>a σ H λx b=>g x σ b D.nx
def se(c:PE X e d)(f:PG X b g)(hs:R' [b] e pos.line X.env=pure cb:=by rfl)(i:WI [b] e X.env=pure b5:=by rfl)
  (j:(Q2 [b] X.env).map (·.2)=[TK b X.env]:=by rfl):PS X (.Assign [b] e pos) (Dq d g):=by
 intro a s σ H D I h;show wpAny_Assign_stores (Iw (c a s σ H _ I h) λv s1 ⟨x,k,l,m,n⟩=>?_) hs i;rw[j];show Iw (f a s1 σ k x v _ l m n) λ_ s2 q=>q
def xx(c:X.N.Nodup)(d:X.N[i]?=a0 x)(f:Loc X.env.scope x)(g:PE X e j)(hs:R6 e (a0 (.Name x a)) pos.line X.env=pure cb:=by rfl)(k:X.fn x=b6\/X.env.scope.names.lookup x=a0 .local:=by first|show .inl rfl|show .inr rfl|assumption):
  PS X (.Assign [.Name x a] e pos) (Dq j (ub i)):=by
 intro b s σ H D I h;show wpAny_Assign_Name (Iw (g b s σ H _ I h) λv s1 ⟨y,l,m,n,o⟩=>?_) hs;show kQ m c d f n (λs2 p=>⟨_,l,p,o⟩) k
abbrev Hz(i:Nat)(a:TE)(b:QI):TS:=λD σ H=>∃x,σ[i]?=a0 (a0 x)/\a σ H λy c=>b x y c λz d=>D.nx (σ.set i (a0 z)) d
def Dr(g:X.N.Nodup)(d:X.N[i]?=a0 x)(b:Loc X.env.scope x)(j:PE X e n)(ho:O3 X op o)(p:X.fn x=b6\/X.env.scope.names.lookup x=a0 .local:=by first|show .inl rfl|show .inr rfl|assumption):
  PS X (.AugAssign (.Name x f) op e pos) (Hz i n o):=by
 intro a s σ H D I h;have⟨v,q,h⟩:=h;have⟨m,t,hl⟩:=I.loc;have B:Ko X.env.scope x:=by rcases b with k|k;show .inl k;show .inr (.inl k)
 have⟨u,r,l⟩:=hl i x v d q B;show wpAny_AugAssign_Name ?_;have go:eH (kj X.prog X.w) X.A (KH e X.env) (λw C=>eH (kj X.prog X.w) X.A (inplaceOp op u w) (λr G=>eH (kj X.prog X.w) X.A (ĵ X.env x r) (λ_=>SP X a D .next) X.xe G) X.xe C) X.xe s:=by
  show Iw (j a s σ H _ I h) λw s1 J=>?_;have⟨y,L,O,Q,T⟩:=J;show Iw (ho a s1 σ L v y u w _ O r Q T) λz s2 Y=>?_;have⟨zv,H2,I2,r2,q2⟩:=Y;show kQ I2 g d b r2 (λs3 I3=>⟨_,H2,I3,q2⟩) p
 rcases l with⟨hk,hm⟩|⟨hk,c,hc,K8⟩
 .show õ I.ok.kind hk t hm go
 .rcases hk with hk|hk
  .show Ċ I.ok.kind hk hc K8 go
  .rcases b with k|k
   .have:X.env.scope.names.lookup x=a0 .free:=hk;rw[k]at this;cases this
   .have:X.env.scope.names.lookup x=a0 .free:=hk;rw[k]at this;cases this
abbrev FF(a b c:TE)(d:V->V->Hp->VK->Prop)(e:QI)(f:Dn):TS:=λD σ H=>a σ H λo g=>b σ g λi h=>d o i h λx j=>c σ j λy k=>e x y k λz l=>f o i z l λm=>D.nx σ m
abbrev FG(X:Cx)(t:V->V->Hp->VK->Prop):Prop :=
 ∀(a:List (i5×Obj)) (s:gj) (σ:St) (H:Hp) (o i:V) (b c:ez) (Q:VK),Inv X a σ H s->RelV o b->RelV i c->t o i H Q ->
  eH (kj X.prog X.w) X.A (Tj b c) (EP X a σ Q) X.xe s
def Ar(ho:PE X o l)(m:PE X i n)(p:FG X q)(r:PE X e t)(u:O3 X op w)(hs:kS X x)
  (y:∀b c new,Ŏ i b c new=(do N_ [new,b,c] (Vd b c new);XZ [new,b,c] [];pure .next):=by intros;rfl):PS X (.AugAssign (.Subscript o i Wv) op e pos) (FF l n t q w x):=by
 intro a s σ H D I h;show wpAny_AugAssign_SubscriptAny (Iw (ho a s σ H _ I h) λb s1 ⟨f,z,A,g,B⟩=>?_) y;show Iw (m a s1 σ z _ A B) λc s2 C=>?_;have⟨j,G,J,k,L⟩:=C;show Iw (p a s2 σ G f j b c _ J g k L) λd s3 N=>?_;have⟨O,Q,T,Y,q3⟩:=N;show Iw (r a s3 σ Q _ T q3) λv s4 RM=>?_;have⟨x4,H4,I4,r4,q4⟩:=RM;show Iw (u a s4 σ H4 O x4 d v _ I4 Y r4 q4) λnew s5 RN=>?_;have⟨x5,H5,I5,r5,q5⟩:=RN;show Iw (hs a s5 σ H5 f j x5 b c new _ I5 g k r5 q5) λ_ s6 ⟨H6,I6,q6⟩=>⟨σ,H6,I6,q6⟩
abbrev RO(f:Int->Int->Int):QI:=λx y H Q=>∃i j,x=.int i/\y=.int j/\Q (.int (f i j)) H
def xy:O3 X .Add (RO λi j=>i+j):=by
 intro a s σ H x y v u Q I b c h;have⟨i,j,d,e,q⟩:=h;subst d;subst e;have⟨t,rfl⟩:=b;have⟨t',rfl⟩:=c;show iadd_int ⟨.int _,H,I.tok _,⟨_,rfl⟩,q⟩
def Ds:O3 X .Sub (RO λi j=>i - j):=by
 intro a s σ H x y v u Q I b c h;have⟨i,j,d,e,q⟩:=h;subst d;subst e;have⟨t,rfl⟩:=b;have⟨t',rfl⟩:=c;show isub_int ⟨.int _,H,I.tok _,⟨_,rfl⟩,q⟩
end
section
abbrev Dt(c:TT)(f:TS):TS:=λD σ H=>∃W:Nat->St->Hp->Prop,(∃m,W m σ H)/\∀m σ H,W m σ H ->
 c σ H λb a=>if b=b6 then ∃N:St->Hp->Prop,(∀d H',N d H'->∃e,e<m/\W e d H')/\f {D with nx:=N,ct:=N,bk:=D.nx} σ a else D.nx σ a
def xA(r:Y2 (kj X.prog X.w) X.A X.env X.xe)(z:PT X c B)(C:JK X body G):PS X (.While c body [] pos) (Dt B G):=by
 intro a s σ H D I h;obtain⟨W,⟨m0,J⟩,d⟩:=h;show wpAny_While (codeAny_whileLoop (λn s'=>∃t H',Inv X a t H' s'/\W n t H') ?_ m0 ⟨σ,H,I,J⟩);rintro n s1 ⟨i,u,L,O⟩;show O_ r (Iw (z a s1 i u _ L (d n i u O)) λb s2 Q=>?_);have⟨v,x,j⟩:=Q;cases b with
 |true =>
  have⟨N,y,j⟩:=j;rw[Ř rfl];show O_ r (Iw (C a s2 i v _ x j) λf s3 k=>?_);cases f with
  |next =>
   have⟨e,g,l,m⟩:=k;have⟨o,p,q⟩:=y e g m;show⟨o,p,e,g,l,q⟩
  |cont =>
   have⟨e,g,l,m⟩:=k;have⟨o,p,q⟩:=y e g m;show⟨o,p,e,g,l,q⟩
  |_=>show k
 |false =>
  rw[Ś oO];show Zd ⟨i,v,x,j⟩
end
structure It where
 go:Nat->Hp->Prop
 QJ:Nat->Hp->V->Hp->Prop
 stop:Nat->Hp->Prop
abbrev iC(X:Cx)(a:List (i5×Obj))(H:Hp)(b:i5):Prop :=
 H b=b5/\b≠X.env.locals/\b∉X.fs/\(b∈X.ex\/X.s₀.heap.objs.size<=b)/\(∀x c,X.env.cells.lookup x=a0 c->c≠b)/\∀p∈X.pn++a,p.1≠b
def Inv.vR(I:Inv X a σ H s)(d:s.heap.objs.size<=b)(f:H' b=b5):iC X a H' b:=by
 show⟨f,vr (nc I.lt d),I.De d,.inr (td I.sz d),λx c e z=>?_,λp g z=>?_⟩
 .have⟨v,q⟩:=I.cell x c e;show absurd (nc q.lt (by rw[z];show d)) (wk _)
 .show absurd (nc (f6 (I.pin p g).1) (by rw[z];show d)) (wk _)
structure Turn(P:HP)(w:Km)(K:PySem.W.Frag)(tg:p8)(J:It)(fp:List i5)(it:i5)(tn:Nat->K9->Prop):Prop where
 mem:it∈fp
 obj:∀i h,tn i h->∀b∈fp,∃o,h.get? b=a0 o/\∀v,o.data≠.cell v
 keep:∀i h h',tn i h->(∀b∈fp,∀o,h.get? b=a0 o->h'.get? b=a0 o)->tn i h'
 item:∀(X:Cx),X.prog=P->X.w=w->X.K=K->X.calm=b6->∀(i:Nat) (pins:List (i5×Obj)) (s:gj) (σ:St) (H:Hp) (E:ez->gj->Prop),Inv X pins σ H s->(∀b∈fp,iC X pins H b)->tn i s.heap->J.go i H ->
  eH (kj P w) X.A (R7 (.ref it)) (λr s1=>∃u,r=a0 u /\
   eH (kj P w) X.A (Vz tg (.ref it) u) (λ_ s2=>∃x H',Inv X pins σ H' s2/\RelV x u/\J.QJ i H x H'/\tn (i+1) s2.heap/\∀b∈fp,H' b=b5) E s1) E s
 done:∀(X:Cx),X.prog=P->X.w=w->X.K=K->X.calm=b6->∀(i:Nat) (pins:List (i5×Obj)) (s:gj) (σ:St) (H:Hp) (E:ez->gj->Prop),Inv X pins σ H s->(∀b∈fp,iC X pins H b)->tn i s.heap->J.stop i H ->
  eH (kj P w) X.A (R7 (.ref it)) (λr s1=>r=b5/\Inv X pins σ H s1) E s
 self:∀(A:NU) (i:Nat) (s:gj) (Q:ez->gj->Prop) (E:ez->gj->Prop),tn i s.heap->Q (.ref it) s->eH (kj P w) A (ZQ (.ref it)) Q E s
@[reducible]def TI:=St->Hp->(It->Hp->Prop)->Prop
abbrev UX(X:Cx)(a:List (i5×Obj))(σ:St)(e:p8)(R:It->Hp->Prop)(f:ez)(s2:gj):Prop :=
 ∃(it:i5) (c:List i5) (d:Nat->K9->Prop) (J:It) (H':Hp),f=.ref it/\Inv X a σ H' s2/\Turn X.prog X.w X.K e J c it d/\d 0 s2.heap/\(∀b∈c,iC X a H' b)/\R J H'
abbrev PI(X:Cx)(c b:p8)(d:TI):Prop :=
 ∀(a:List (i5×Obj)) (s:gj) (σ:St) (H:Hp) (R:It->Hp->Prop),Inv X a σ H s->d σ H R ->
  eH (kj X.prog X.w) X.A (KH b X.env) (λv s1=>eH (kj X.prog X.w) X.A (ZQ v) (UX X a σ c R) X.xe s1) X.xe s
def xB(ho:s.heap.get? it=a0 o)(b:o.cls=.type n)(c:o.data=.fields vs)
    (d:["enumerate","zip","dict_itemiterator","dict_reverseitemiterator","odict_iterator","itertools.zip_longest","itertools.pairwise"].contains n=cb) (a:Q () s):eH M A (Vz e (.ref it) u) Q E s:=by
  unfold Vz;cases e<;>first
    | show cL a
    | (cases u<;>first
        | show cL a
        | (show bD (Ē ho ?_)
           rw[b,c];change eH M A (if (["enumerate","zip","dict_itemiterator","dict_reverseitemiterator","odict_iterator","itertools.zip_longest","itertools.pairwise"].contains n&&vs[0]?==a0 (H8 _))=b6 then _ else _) Q E s;rw[Ś (by intro h;rw[d,Đ]at h;cases h)];show cL a))
abbrev RQ(K:PySem.W.Frag)(a:i5):It :=
 ⟨λi H=>∃xs x,Je K H a xs/\xs[i]?=a0 x,λi H x H'=>H'=H/\∀xs,Je K H a xs->xs[i]?=a0 x,λi H=>∃xs,Je K H a xs/\xs.length<=i⟩
abbrev RS(K:PySem.W.Frag)(a:i5):It :=
 ⟨λi H=>∃xs x,IX K H a xs/\xs[i]?=a0 x,λi H x H'=>H'=H/\∀xs,IX K H a xs->xs[i]?=a0 x,λi H=>∃xs,IX K H a xs/\xs.length<=i⟩
abbrev QL(lo:Int)(n:Nat):It:=⟨λi _=>i<n,λi H x H'=>H'=H/\x=.int (lo+i),λi _=>n<=i⟩
def vS{K:PySem.W.Frag}(a it:i5):Turn P w K tg (RQ K a) [it] it (λi h=>h.IsListIter it a i) where
 mem:=by simp
 obj:=λi h st b g=>by
  have e:b=it:=by simpa using g
  subst e;have⟨o,e,c,d⟩:=st;show⟨o,e,λv z=>by rw[d]at z;cases z⟩
 keep:=λi h h' st k=>st.at λo e=>k it (by simp) o e
 item:=by
  intro X m n q G i f s σ H E I j st r;subst m n q;have⟨xs,x,l,t⟩:=r;have⟨J,rv,p,hz⟩:=I.list l;have⟨u,L,N⟩:=rv.get t;have⟨y,A,O,B,C,D⟩:=j it (by simp);show wpAny_pyNext_list_item st p.isList (x:=u) (by simpa using L) λh' st' Q=>?_;have T:Inv X f σ H {s with heap:=h' }:=I.turned (t':=s.toks) (λb o g e=>(Q.2 b g).trans e) y A B C D;have⟨o,e,c,d⟩:=id st';show⟨u,rfl,xB (s:={s with heap:=h' }) e c d (by decide) ⟨x,H,T,N,⟨rfl,λys Y=>by rw[I.kR Y l];show t⟩,st',λb g=>(j b g).1⟩⟩
 done:=by
  intro X m n q G i f s σ H E I j st r;subst m n q;have⟨xs,l,t⟩:=r;have⟨J,rv,p,hz⟩:=I.list l;have⟨y,A,O,B,C,D⟩:=j it (by simp);have hl:=rv.length;show wpAny_pyNext_list_end (I.ok.hd G) st p.isList (by simp;lia) λh' eb=>⟨rfl,I.turned (t':=s.toks) (λb o g e=>eb b o g e) y A B C D⟩
 self:=λ_ _ _ _ _ st h=>wpAny_pyIter_listiter st h
def sg{K:PySem.W.Frag}(a it:i5):Turn P w K tg (RS K a) [it] it (λi h=>h.IsTupleIter it a i) where
 mem:=by simp
 obj:=λi h st b g=>by
  have e:b=it:=by simpa using g
  subst e;have⟨o,e,c,d⟩:=st;show⟨o,e,λv z=>by rw[d]at z;cases z⟩
 keep:=λi h h' st k=>st.at λo e=>k it (by simp) o e
 item:=by
  intro X m n q J i f s σ H E I j st r;subst m n q;have⟨xs,x,l,t⟩:=r;have⟨y,rv,p,hz⟩:=I.tuple l;have⟨u,L,N⟩:=rv.get t;have⟨A,B,O,C,D,G⟩:=j it (by simp);show wpAny_pyNext_tuple_item st (show s.heap.IsTuple a y.toArray from p) (x:=u) (by simpa using L) λh' st' Q=>?_;have T:Inv X f σ H {s with heap:=h' }:=I.turned (t':=s.toks) (λb o g e=>(Q.2 b g).trans e) A B C D G;have⟨o,e,c,d⟩:=id st';show⟨u,rfl,xB (s:={s with heap:=h' }) e c d (by decide) ⟨x,H,T,N,⟨rfl,λys Y=>by rw[I.jm Y l];show t⟩,st',λb g=>(j b g).1⟩⟩
 done:=by
  intro X m n q J i f s σ H E I j st r;subst m n q;have⟨xs,l,t⟩:=r;have⟨y,rv,p,hz⟩:=I.tuple l;have⟨A,B,O,C,D,G⟩:=j it (by simp);have hl:=rv.length;show wpAny_pyNext_tuple_end (I.ok.hd J) st (show s.heap.IsTuple a y.toArray from p) (by simp;lia) λh' eb=>⟨rfl,I.turned (t':=s.toks) (λb o g e=>eb b o g e) A B C D G⟩
 self:=λ_ _ _ _ _ st h=>wpAny_pyIter_tupleiter st h
def si{K:PySem.W.Frag}(it:i5)(lo:Int)(n:Nat):Turn P w K L (QL lo n) [it] it (λi h=>IsRangeIter h it (lo+(i:Nat) * 1) ((n:Int) - (i:Nat)) 1) where
 mem:=by simp
 obj:=λi h st b c=>by
  have e:b=it:=by simpa using c
  subst e;show⟨_,st,λv z=>by
   have A:Z5 _=Zh v:=z;cases A⟩
 keep:=λi h h' st k=>k it (by simp) _ st
 item:=by
  intro X f g j l i a s σ H E I d st m;subst f g j;have⟨p,q,B,r,u,x⟩:=d it (by simp);have W:=Walks.range (prog:=X.prog) (w:=X.w) (I.ok.hd l) it lo 1 n;show W.item i s _ _ m st λv h' y C st' D=>?_;have⟨t,rfl⟩:=C;have G:Inv X a σ H {s with heap:=h',toks:=y}:=I.turned (λb o c e=>D b o (by simpa using c) e) p q r u x;show⟨_,rfl,xB (s:={s with heap:=h',toks:=y}) (n:="range_iterator") st' rfl rfl (by decide) ⟨.int (lo+i),H,G,⟨t,?_⟩,⟨rfl,rfl⟩,st',λb c=>(d b c).1⟩⟩;rw[Int.mul_one]
 done:=by
  intro X f g j l i a s σ H E I d st m;subst f g j;have⟨p,q,B,r,u,x⟩:=d it (by simp);show wpAny_pyNext_range_end (I.ok.hd l) st (by have:n<=i:=m;lia) λh' J=>⟨rfl,I.turned (t':=s.toks) (λb o c e=>J b o c e) p q r u x⟩
 self:=λ_ _ _ _ _ st h=>wpAny_pyIter_rangeiter st h
section
abbrev FH(K:PySem.W.Frag)(c:TE):TI:=λσ H R=>c σ H λx b=>∃a,x=.ref a/\(∃xs,Je K b a xs)/\R (RQ K a) b
abbrev HA(K:PySem.W.Frag)(c:TE):TI:=λσ H R=>c σ H λx b=>∃a,x=.ref a/\(∃xs,IX K b a xs)/\R (RS K a) b
def As(hl:PE X l f):PI X r l (FH X.K f):=by
 intro c s σ H R I h;show Iw (hl c s σ H _ I h) λv s1 g=>?_;have⟨x,i,d,j,k⟩:=g;obtain⟨a,e,⟨xs,m⟩,q⟩:=k;subst e;cases j;have⟨t,rv,p,hz⟩:=d.list m;show RC p.isList ?_;show⟨s1.heap.objs.size,[s1.heap.objs.size],_,_,i,rfl,d.kept (t':=s1.toks) λb o e=>dt _ e,vS a _,⟨_,fx _ rfl,rfl,rfl⟩,λb n=>?_,q⟩;have e:b=s1.heap.objs.size:=by simpa using n
 subst e;show d.vR (lg _) (d.Ir.fresh (lg _))
def Du(hl:PE X l f):PI X t l (HA X.K f):=by
 intro c s σ H R I h;show Iw (hl c s σ H _ I h) λv s1 g=>?_;have⟨x,i,d,j,k⟩:=g;obtain⟨a,e,⟨xs,m⟩,q⟩:=k;subst e;cases j;have⟨n,rv,p,hz⟩:=d.tuple m;show OX (show s1.heap.IsTuple a n.toArray from p) ?_;show⟨s1.heap.objs.size,[s1.heap.objs.size],_,_,i,rfl,d.kept (t':=s1.toks) λb o e=>dt _ e,sg a _,⟨_,fx _ rfl,rfl,rfl⟩,λb r=>?_,q⟩;have e:b=s1.heap.objs.size:=by simpa using r
 subst e;show d.vR (lg _) (d.Ir.fresh (lg _))
def xC{lo a:Int}(I:Inv X c σ H s)(g:-(2 ^ 62)<=lo)(h:lo<2 ^ 62)(i:-(2 ^ 62)<=a)(j:a<2 ^ 62)
  (q:R (QL lo (a - lo).toNat) H):eH (kj X.prog X.w) X.A (ZQ (.ref s.heap.objs.size)) (UX X c σ n R) E {s with heap:=s.heap.push {cls:=.type "range",data:=.fields #[.int lo t,.int a u,.int 1 v]},toks:=f}:=by
 show wpAny_pyIter_range (IsRange.new ..) (small_one g h i j) ?_;have d:Inv X c σ H {s with heap:=s.heap.push {cls:=.type "range",data:=.fields #[.int lo t,.int a u,.int 1 v]},toks:=f}:=I.kept λb o e=>dt _ e;show⟨(s.heap.push {cls:=.type "range",data:=.fields #[.int lo t,.int a u,.int 1 v]}).objs.size,[(s.heap.push {cls:=.type "range",data:=.fields #[.int lo t,.int a u,.int 1 v]}).objs.size],_,_,H,rfl,
  d.kept (t':=f) λb o e=>dt _ e,si _ lo (a - lo).toNat,?_,λb k=>?_,q⟩
 .have l:lo+((0:Nat):Int) * 1=lo:=by simp
  have m:(((a - lo).toNat:Nat):Int) - ((0:Nat):Int)=Ļ lo a 1:=by rw[rangeSize_one];split<;>lia
  change IsRangeIter _ _ (lo+((0:Nat):Int) * 1) ((((a - lo).toNat:Nat):Int) - ((0:Nat):Int)) 1;rw[l,m];show fx _ rfl
 .have e:b=(s.heap.push {cls:=.type "range",data:=.fields #[.int lo t,.int a u,.int 1 v]}).objs.size:=by simpa using k
  subst e;show d.vR (lg _) (d.Ir.fresh (lg _))
abbrev FI(a:TA):TI:=λσ H R=>a σ H λvs b=>∃j:Int,vs=[.int j]/\-(2 ^ 62)<=j/\j<2 ^ 62/\R (QL 0 j.toNat) b
def vT(d:Gl X "range")(f:X.mg "range"=b5)(g:PA X [a] i)(hs:mx [a] X.env=[(cb,KH a X.env)]:=by rfl):PI X o (.Call (.Name "range" p) [a] [] pos) (FI i):=by
 intro b s σ H R I h;show Call_ (dc I d f boot_range (LY (Iw (g pos b s σ H _ I h) λus s1 ⟨vs,u,k,l,c⟩=>?_) hs rfl));have⟨j,e,c,m,q⟩:=c;subst e;cases l with
 |cons r n =>
  cases n;have⟨t,rfl⟩:=r;show call_range_1 (xC k ⋯ ⋯ c m (by simpa using q))
abbrev HB(c:TI)(g:TG)(d:TS):TS:=λD σ H=>c σ H λJ e=>∃W:Nat->Nat->St->Hp->Prop,(∃m,W 0 m σ e)/\∀i m σ H,W i m σ H ->
 (J.stop i H/\D.nx σ H)\/(J.go i H/\∃N:St->Hp->Prop,(∀a H',N a H'->∃b,b<m/\W (i+1) b a H')/\∀x H',J.QJ i H x H'->g x σ H' λf h=>d {D with nx:=N,ct:=N,bk:=D.nx} f h)
abbrev kU(a:List i5)(h:K9):List (i5×Obj):=a.filterMap λb=>(h.get? b).map λo=>(b,o)
def fi(a:b∈c)(e:h.get? b=a0 o):(b,o)∈kU c h:=Ø.mpr ⟨b,a,by rw[e];rfl⟩
def vU(a:p∈kU c h):p.1∈c/\h.get? p.1=a0 p.2:=by
 have⟨b,d,e⟩:=Ø.mp a;cases q:h.get? b with
 |none=>rw[q]at e;cases e
 |some o =>
  rw[q]at e;have f:(b,o)=p:=sL e;subst f;show⟨d,q⟩
def Inv.pinned(I:Inv X a σ H s)(h:∀b∈c,iC X a H b)(ho:∀b∈c,∃o,s.heap.get? b=a0 o/\∀v,o.data≠.cell v):Inv X (a++kU c s.heap) σ H s :=
 I.eu λp i=>(ko.mp i).elim (λz=>I.pin p (oR _ z)) λz=>by
  have⟨f,e⟩:=vU z;obtain⟨j,k,l,_⟩:=h p.1 f;have⟨o,g,d⟩:=ho p.1 f;rw[e]at g;cases g;show⟨e,j,k,l,d⟩
def Inv.kW(I:Inv X (a++c) σ H s):Inv X a σ H s:=I.eu λp b=>I.pin p (oR _ (wh _ b))
def Dv(t:Y2 (kj X.prog X.w) X.A X.env X.xe)(hc:X.calm=b6)(hi:PI X tg p wi)(hg:PG X tg g)(c:JK X body tb)
  (hs:∀x,NF p X.env x=pure x:=by intro _;rfl):PS X (.For tg p body [] pos) (HB wi g tb):=by
 intro a s σ H D I h;show wpAny_For (Iw (hi a s σ H _ I h) λv s1 h1=>Iw h1 λQK s2 h2=>?_) hs;obtain⟨it,y,tn,J,H2,e,I2,T,st2,f2,W,⟨m0,w0⟩,z⟩:=h2;subst e;have O:∀{H':Hp},(∀b∈y,H' b=b5)->∀b∈y,iC X a H' b:=λhn b c=>⟨hn b c,(f2 b c).2⟩
 show codeAny_forLoop_any (λn s'=>∃i B H',Inv X a B H' s'/\tn i s'.heap/\(∀b∈y,H' b=b5)/\W i n B H') ?_ m0 ⟨0,σ,H2,I2,st2,λb c=>(f2 b c).1,w0⟩;rintro n s3 ⟨i,C,L,I3,st3,O4,w3⟩;rcases z i n C L w3 with⟨G,qn⟩|⟨go,N,hN,ù⟩
 .show O_ t (Iw (T.done X rfl rfl rfl hc i a s3 C L X.xe I3 (O O4) st3 G) λr s4 RV=>?_);have⟨hr,I4⟩:=RV;subst hr;show Zd ⟨C,L,I4,qn⟩
 .show O_ t (Iw (T.item X rfl rfl rfl hc i a s3 C L X.xe I3 (O O4) st3 go) λr s4 RW=>?_);have⟨u,hr,h4⟩:=RW;subst hr;show O_ t (Iw h4 λ_ s5 RX=>?_);have⟨x,H5,I5,r5,y5,Q,RY⟩:=RX;have RZ:=I5.pinned (O RY) (T.obj _ _ Q);show O_ t (Iw (hg _ s5 C H5 x u _ RZ r5 (ù x H5 y5)) λ_ s6 R3=>?_);have⟨σ6,H6,I6,q6⟩:=R3;show O_ t (Iw (c _ s6 σ6 H6 _ I6 q6) λf Y q=>?_);have Ő:∀{j:St} {k:Hp},Inv X (a++kU y s5.heap) j k Y->N j k->∃m,m<n/\∃i B H',Inv X a B H' Y/\tn i Y.heap/\(∀b∈y,H' b=b5)/\W i m B H':=λ{j k} l n7=>by
   have⟨m',hm,w7⟩:=hN j k n7;show⟨m',hm,i+1,j,k,l.kW,T.keep _ _ _ Q λb c o e=>(l.pin (b,o) (oR _ (oR _ (fi c e)))).1,λb c=>?_,w7⟩;have⟨o,e,d⟩:=T.obj _ _ Q b c;show(l.pin (b,o) (oR _ (oR _ (fi c e)))).2.1
  cases f with
  |brk=>have⟨j,k,l,q⟩:=q;show⟨j,k,l.kW,q⟩
  |ret v=>have⟨x7,j,k,l,r7,q⟩:=q;show⟨x7,j,k,l.kW,r7,q⟩
  |_=>have⟨j,k,l,n7⟩:=q;show Ő l n7
end
@[reducible]def R2:=V->V->Hp->VK->Prop
abbrev J0(X:Cx)(f:ez->ez->Sem ez)(r:R2):Prop :=
 ∀(a:List (i5×Obj)) (s:gj) (σ:St) (H:Hp) (x y:V) (v u:ez) (Q:VK),Inv X a σ H s->RelV x v->RelV y u->r x y H Q ->
  eH (kj X.prog X.w) X.A (f v u) (EP X a σ Q) X.xe s
abbrev gQ(X:Cx)(f:ez)(r:List V->Hp->VK->Prop):Prop :=
 ∀(a:List (i5×Obj)) (s:gj) (σ:St) (H:Hp) (xs:List V) (us:List ez) (Q:VK),Inv X a σ H s->Vals xs us->r xs H Q ->
  eH (kj X.prog X.w) X.A (Qz f us) (EP X a σ Q) X.xe s
abbrev HC(X:Cx)(r:V->Hp->(Bool->Hp->Prop)->Prop):Prop :=
 ∀(a:List (i5×Obj)) (s:gj) (σ:St) (H:Hp) (x:V) (v:ez) (Q:Bool->Hp->Prop),Inv X a σ H s->RelV x v->r x H Q ->
  eH (kj X.prog X.w) X.A (ŉ v) (TP X a σ Q) X.xe s
abbrev rI(C:Int->Int->Prop)(g:Int->Int->V):R2:=λx y H Q=>∃i j,x=.int i/\y=.int j/\C i j/\Q (g i j) H
abbrev NC(g:Int->Int->V):R2:=λx y H Q=>∃i j,x=.int i/\y=.int j/\Q (g i j) H
section
def QM{g:Int->Int->Int}
  (ķ:∀(i j:Int) (t u:Tok) (s:gj) (Q:ez->gj->Prop) (E:ez->gj->Prop),C i j->Q (.int (g i j) s.toks) {s with toks:=s.toks+1}->eH (kj X.prog X.w) X.A (f (.int i t) (.int j u)) Q E s) :
  J0 X f (rI C λi j=>.int (g i j)):=by
 intro a s σ H x y v u Q I b c h;have⟨i,j,rfl,rfl,d,q⟩:=h;have⟨t,rfl⟩:=b;have⟨t',rfl⟩:=c;show ķ i j t t' s _ _ d ⟨.int (g i j),H,I.tok _,⟨_,rfl⟩,q⟩
def FJ{g:Int->Int->Int}
  (ķ:∀(i j:Int) (t u:Tok) (s:gj) (Q:ez->gj->Prop) (E:ez->gj->Prop),Q (.int (g i j) s.toks) {s with toks:=s.toks+1}->eH (kj X.prog X.w) X.A (f (.int i t) (.int j u)) Q E s) :
  J0 X f (NC λi j=>.int (g i j)):=by
 intro a s σ H x y v u Q I b c h;have⟨i,j,rfl,rfl,q⟩:=h;have⟨t,rfl⟩:=b;have⟨t',rfl⟩:=c;show ķ i j t t' s _ _ ⟨.int (g i j),H,I.tok _,⟨_,rfl⟩,q⟩
def Dw{g:Int->Int->Bool}
  (ķ:∀(i j:Int) (t u:Tok) (s:gj) (Q:ez->gj->Prop) (E:ez->gj->Prop),Q (.bool (g i j)) s->eH (kj X.prog X.w) X.A (f (.int i t) (.int j u)) Q E s) :
  J0 X f (NC λi j=>.bl (g i j)):=by
 intro a s σ H x y v u Q I b c h;have⟨i,j,rfl,rfl,q⟩:=h;have⟨t,rfl⟩:=b;have⟨t',rfl⟩:=c;show ķ i j t t' s _ _ ⟨.bl (g i j),H,I,rfl,q⟩
abbrev HD(i j:Int):Prop:=0<j/\j<1073741824
abbrev HE(i j:Int):Prop:=0<=j/\j<=1000000/\i.natAbs<2 ^ 64
abbrev Dx(i j:Int):Prop:=(-(2 ^ 64)<i/\i<2 ^ 64)\/(-(2 ^ 64)<j/\j<2 ^ 64)
def Dx.ok(h:Dx i j):IntMulOk i j:=by
 rcases h with⟨a,b⟩|⟨a,b⟩
 .show .of_left (intBits_le_64 a b)
 .show .of_right (intBits_le_64 a b)
def hJ:J0 X (PZ .Add) (NC λi j=>.int (i+j)):=FJ λ_ _ _ _ _ _ _ q=>add_int q
def fj:J0 X (PZ .Sub) (NC λi j=>.int (i - j)):=FJ λ_ _ _ _ _ _ _ q=>sub_int q
def oH:J0 X (PZ .Mult) (rI Dx λi j=>.int (i * j)):=QM λ_ _ _ _ _ _ _ a q=>mul_int q a.ok
def Au:J0 X (PZ .FloorDiv) (rI HD λi j=>.int (i / j)):=QM λi j _ _ _ _ _ a q=>by
 have b:(0:Int)<j:=a.1;have c:j<1073741824:=a.2;show floordiv_int ⋯ (by rw[Int.fdiv_eq_ediv_of_nonneg i ⋯];show q) (.inl (PyProof.noPylong_small ⋯))
def cZ:J0 X (PZ .Mod) (rI (λ_ j=>0<j) λi j=>.int (i % j)):=QM λi j _ _ _ _ _ a q=>by
 have b:(0:Int)<j:=a;show mod_int' ⋯ (by rw[Int.fmod_eq_emod_of_nonneg i ⋯];show q)
def oI:J0 X (PZ .Pow) (rI HE λi j=>.int (i ^ j.toNat)):=QM λ_ _ _ _ _ _ _ a q=>pow_int_small a.1 a.2.1 a.2.2 q
end
section
def oJ(I:Inv X a σ H s)(q:Q (.bl k) H)(e:k=k'):EP X a σ Q (.bool k') s:=by
 subst e;show⟨.bl k,H,I,rfl,q⟩
def FK:J0 X (MO .Lt) (NC λi j=>.bl (cK (i<j))):=Dw λ_ _ _ _ _ _ _ q=>lt_int q
def FL:J0 X (MO .Gt) (NC λi j=>.bl (cK (j<i))):=Dw λ_ _ _ _ _ _ _ q=>gt_int q
def FN:J0 X (MO .GtE) (NC λi j=>.bl (cK (j<=i))):=Dw λ_ _ _ _ _ _ _ q=>ge_int q
def Dy:J0 X (MO .Is) (λx y H Q=>y=.Iy/\Q (.bl (cK (x=.Iy))) H):=by
 intro a s σ H x y v u Q I b c h;have⟨rfl,q⟩:=h;cases c;show is_none_gen (oJ I q ?_);cases x<;>first
  |(cases b;rfl)
  |(have⟨t,rfl⟩:=b;rfl)
def Av:J0 X (MO .IsNot) (λx y H Q=>y=.Iy/\Q (.bl (!cK (x=.Iy))) H):=by
 intro a s σ H x y v u Q I b c h;have⟨rfl,q⟩:=h;cases c;show isnot_none_gen (oJ I q ?_);cases x<;>first
  |(cases b;rfl)
  |(have⟨t,rfl⟩:=b;rfl)
abbrev FO(K:PySem.W.Frag)(x:V)(H:Hp)(k:Bool):Prop :=
 match x with
 |.Iy=>k=cb
 |.bl b=>k=b
 |.int i=>k=(i != 0)
 |.str y=>y.length<=dV/\k=((y.length:Int) != 0)
 |.QB y=>y.size<=dV/\k=((y.size:Int) != 0)
 |.ref p=>(∃xs,Je K H p xs/\k=!xs.isEmpty)\/(∃xs,IX K H p xs/\k=!xs.isEmpty)\/∃kvs,H p=a0 (.dK kvs)/\k=!kvs.isEmpty
 |_=>False
def sj(r:KV kvs vs):(!vs.isEmpty)=!kvs.isEmpty:=by
 cases r<;>rfl
def kX(r:Vals xs a):(!a.toArray.isEmpty)=!xs.isEmpty:=by
 cases r<;>simp
def fQ:(dV:Nat)<2 ^ 63:=by rw[sizeLine_eq];decide
def Dz:HC X (λx H Q=>∃k,FO X.K x H k/\Q k H):=by
 intro j s σ H x v Q I d h;have⟨k,e,q⟩:=h;have hl:=fQ;have hs:dV=16777216:=sizeLine_eq;cases x with
 |Iy =>
  cases d;have a:k=cb:=e;subst a;show truthy_none ⟨H,I,q⟩
 |bl b =>
  cases d;have a:k=b:=e;subst a;show Kr ⟨H,I,q⟩
 |int i =>
  have⟨t,rfl⟩:=d;have a:k=(i != 0):=e;subst a;show PySem.P.truthy_int ⟨H,I,q⟩
 |str y =>
  have⟨t,rfl⟩:=d;obtain⟨l,a⟩:y.length<=dV/\k=((y.length:Int) != 0):=e;subst a;show PySem.P.truthy_str ⋯ ⟨H,I.tok _,q⟩
 |QB y =>
  have⟨t,rfl⟩:=d;obtain⟨l,a⟩:y.size<=dV/\k=((y.size:Int) != 0):=e;subst a;show PySem.W.truthy_bytes ⋯ ⟨H,I.tok _,q⟩
 |ref p =>
  cases d;have a:(∃xs,Je X.K H p xs/\k=!xs.isEmpty)\/(∃xs,IX X.K H p xs/\k=!xs.isEmpty)\/∃kvs,H p=a0 (.dK kvs)/\k=!kvs.isEmpty:=e;rcases a with⟨xs,f,a⟩|⟨xs,f,a⟩|⟨kvs,f,a⟩
  .subst a;have⟨n,r,g,hz⟩:=I.list f;have c:=r.length;show wpAny_truthy_list g.isList (by simp only[ki];lia) ⟨H,I.tok _,by rw[kX r];show q⟩
  .subst a;have⟨n,r,g,hz⟩:=I.tuple f;have c:=r.length;show truthy_tuple g (by simp only[ki];lia) ⟨H,I.tok _,by rw[kX r];show q⟩
  .subst a;obtain⟨hz,o,vs,r,m⟩:kvs.length<=dV/\(p==K1)=cb/\∃vs,KV kvs vs/\s.heap.DictOf (aZ X.prog X.w) p vs:=I.Ir p _ f;have c:kvs.length=vs.length:=Paired.length r;show wpAny_truthy_dict o m ⋯ ⟨H,I.tok _,by rw[sj r];show q⟩
 |_=>show(show False from e).elim
def xD(d:PE X a e)(f:∀b,isTrue a X.env b=(do let v <-b;Zo a.pos;N_ [v] (ŉ v))):
  PT X a (λσ H Q=>e σ H λx H'=>∃k,FO X.K x H' k/\Q k H'):=by
 intro c s σ H Q I h;show isTrue_plain (Iw (d c s σ H _ I h) λv s1 ⟨x,g,i,j,l⟩=>Dz c s1 σ g x v Q i j l) (f _)
def sk:J0 X (PZ .Add) (λx y H Q=>∃i j,x=.str i/\y=.str j/\i.length+j.length<=dV/\Q (.str (i++j)) H):=by
 intro a s σ H x y v u Q I b c h;have⟨i,j,rfl,rfl,hz,q⟩:=h;have⟨t,rfl⟩:=b;have⟨t',rfl⟩:=c;show add_str (λt' d=>⟨.str (i++j),H,I.tok _,⟨_,rfl⟩,q⟩) hz
def vals1(r:Vals [x] us):∃u,us=[u]/\RelV x u:=by
 cases r with
 |cons a b=>cases b;show⟨_,rfl,a⟩
def vals2(r:Vals [x,y] us):∃u a,us=[u,a]/\RelV x u/\RelV y a:=by
 cases r with
 |cons b c =>
  cases c with
  |cons d e=>cases e;show⟨_,_,rfl,b,d⟩
def oK:gQ X (.type "str") (λxs H Q=>∃i,xs=[.int i]/\i.natAbs.log2<1920/\Q (.str (Uu i)) H):=by
 intro a s σ H xs us Q I r h;have⟨i,rfl,hz,q⟩:=h;have⟨u,rfl,t,rfl⟩:=vals1 r;show PySem.P.str_of_int hz ⟨.str _,H,I.tok _,⟨_,rfl⟩,q⟩
end
section
end
def j7.some_of(r:j7 (a0 v) o):∃u,o=a0 u/\RelV v u:=by
 cases o with
 |none=>show(show False from r).elim
 |some u=>show⟨u,rfl,r⟩
section
end
structure Ww(K:PySem.W.Frag)(C:i5):Prop where
 pg:PySem.W.plainGet K C G0=b6
 hd:PySem.W.hasDictIn K C=b6
 po:PySem.W.plainOver K C=b6
 sa:PySem.W.findIn K (.ref C) "__setattr__"=a0 (a0 (.builtin "object.__setattr__"))
section
end
section
end
section
inductive kY(K:PySem.W.Frag)(H:Hp):V->ez->Prop where
 |Iy:kY K H .Iy (.type "NoneType")
 |bl (x:Bool):kY K H (.bl x) (.type "bool")
 |int (i:Int):kY K H (.int i) (.type "int")
 |str (x:Str):kY K H (.str x) (.type "str")
 |QC (x:UInt64):kY K H (.QC x) (.type "float")
 |lst {a:i5} {xs:List V} (e:H a=a0 (.lst xs)):kY K H (.ref a) (.type "list")
 |Jw {a:i5} {o:Obj} {xs:List V} (e:H a=a0 (.Jw o (.lst xs))):kY K H (.ref a) (.type "list")
 |tup {a:i5} {xs:List V} (e:H a=a0 (.tup xs)):kY K H (.ref a) (.type "tuple")
 |dK {a:i5} {kvs:List (Key×V)} (e:H a=a0 (.dK kvs)):kY K H (.ref a) (.type "dict")
 |dT {a:i5} {kvs:List (List Key×V)} (e:H a=a0 (.dT kvs)):kY K H (.ref a) (.type "dict")
 |ins {a C dx:i5} {fs:List (Str×V)} (e:H a=a0 (.ins C dx fs)) (cl:Ww K C) (ha:PySem.W.findIn K (.ref C) "__class__"=a0 (a0 (.builtin "object.__class__")))
   (hn:PySem.W.specialIn K (.builtin "object.__class__") "__get__"=a0 (a0 (.builtin "getset_descriptor.__get__"))) (Wx:PySem.W.takesIn K (.builtin "object.__class__")=a0 b6)
   (hm:PySem.W.mroIn K C (.type "object")=a0 b6):kY K H (.ref a) (.ref C)
end
structure gK(k:Nat)(A:NU):Prop where
 hd:A.handled=b5
 dp:A.depth+3 * k+5<Ŋ
 un:A.units+16 * k+200<Ki
 gd:A.guards=a0 []
def gK.deeper(r:gK (k+1) A)(env:Env):gK k (A.deeper env) :=
 ⟨r.hd,by have:=r.dp;change A.depth+1+3 * k+5 < _;lia,by have:=r.un;change A.units+3+16 * k+200 < _;lia,r.gd⟩
def gK.depth(r:gK k A):A.depth<Ŋ:=by have:=r.dp;lia
abbrev HF:TA:=λ_ H Q=>Q [] H
abbrev FP(a:TE)(b:TA):TA:=λσ H Q=>a σ H λx c=>b σ c λxs d=>Q (x::xs) d
section
def kZ:PA X [] HF:=λ_ _ _ _ H Q I h=>SX ⟨[],H,I,.nil,h⟩
def gq(b:PE X e c)(hr:PA X es t)(hs:mx (e::es) X.env=(cb,KH e X.env)::mx es X.env:=by rfl):PA X (e::es) (FP c t):=by
 intro pos a s σ H Q I h;rw[hs];change eH _ _ (Ĥ ((cb,KH e X.env)::Ll pos (mx es X.env))) _ _ s;show Qj (Iw (b a s σ H _ I h) λu s1 d=>?_);have⟨x,f,g,i,j⟩:=d;show Iw (hr pos a s1 σ f _ g j) λus s2 ⟨xs,k,l,m,n⟩=>⟨x::xs,k,l,.cons i m,n⟩
end
@[reducible]def Sp:=List V->Hp->VK->XK->Prop
@[reducible]def Ov:=List Env->Hp->gj->XK->ez->gj->Prop
structure Aw(P:HP)(w:Km)(K:PySem.W.Frag)(mg:Str->Option ez)(base:K9)(A:NU)(outer:List Env)(s:gj)(H:Hp):Prop where
 frames:A.frames=a0 outer
 mod:Mod K mg base
 bs:∀b o,base.get? b=a0 o->s.heap.get? b=a0 o/\H b=b5
 M3:base.objs.size<=s.heap.objs.size
 kN:s.heap.FunFrames base outer
 Ot:∀b∈K7 outer,H b=b5
 Ir:JG P w H s.heap
 bare:Vs s.gens
abbrev CE(outer:List Env)(P:HP)(w:Km)(H:Hp)(s:gj)(Q:VK)(u:ez)(s':gj):Prop :=
 ∃v H',s'.os=s.os/\Vs s'.gens/\Un (K7 outer) [] H H' s.heap s'.heap/\JG P w H' s'.heap/\RelV v u/\Q v H'
abbrev CR(CX:Ov)(outer:List Env)(P:HP)(w:Km)(H:Hp)(s:gj)(Q:VK)(E:XK)(r:Result)(s':gj):Prop :=
 match r with
 |.ok (.ret u)=>CE outer P w H s Q u s'
 |.ok _=>False
 |.error e=>CX outer H s E e s'
structure oM(P:HP)(w:Km)(K:PySem.W.Frag)(mg:Str->Option ez)(base:K9)(CX:Ov)(k:Nat)(f:i5)(fd:US)(ps:List Str)(sp:Sp):Prop where
 len:∀vs H Q E,sp vs H Q E->vs.length=ps.length
 run:∀(A:NU) (outer:List Env) (s:gj) (H:Hp) (args:Args) (us:List ez) (vs:List V) (Q:VK) (E:XK),gK k A->Aw P w K mg base A outer s H->ç s fd args (ps.zip us)->Vals vs us->sp vs H Q E ->
  T6 (kj P w) A (.call (.ref f) args) (CR CX outer P w H s Q E) s
section
def Inv.HG(I:Inv X a σ H s):Aw X.prog X.w X.K X.mg X.base X.A X.stack s H :=
 ⟨I.ok.frames,I.ok.mod,I.bs,td I.ok.M3 I.sz,I.stack,I.t_,I.Ir,I.bare⟩
def Inv.after(I:Inv X a σ H s)(h:CE X.stack X.prog X.w H s Q u s'):EP X a σ Q u s':=by
 have⟨v,H',os,c,e,f,r,q⟩:=h;have⟨hh,g,d,t,i⟩:=s';obtain rfl:i=s.os:=os;show⟨v,H',I.call (h':=hh) (g':=g) (d':=d) (t':=t) (ch:=[]) e f c (λb z=>absurd z (by simp)),r,q⟩
end
abbrev Binds(K:PySem.W.Frag)(b:US)(ps:List Str)(a:List ez):Prop :=
 ∀(s:gj) (us:List ez),K.In s.heap->(us++a).length=ps.length->ç s b ⟨us,[]⟩ (ps.zip (us++a))
def Binds.all{K:PySem.W.Frag}(h:∀us:List ez,us.length=ps.length->ō a ⟨us,[]⟩=pure (ps.zip us)):Binds K a ps []:=λs us _ hl=>by
 rw[sx]at hl ⊢;show .of_eq (h us hl)
abbrev Passes(CX:Ov)(X:Cx)(E:XK):Prop:=∀(a:List (i5×Obj)) (σ:St) (H:Hp) (s:gj) (e:ez) (s':gj),Inv X a σ H s->CX X.stack H s E e s'->X.xe e s'
section
def xE(F:oM X.prog X.w X.K X.mg X.base CX k f i ps sp)(hr:gK k X.A)(j:Binds X.K i ps b)(l:Vals c b)(m:Passes CX X E)
  (I:Inv X a σ H s) (r:Vals vs us) (h:sp (vs++c) H Q E):eH (kj X.prog X.w) X.A (Qz (.ref f) us) (EP X a σ Q) X.xe s:=by
 have g:Vals (vs++c) (us++b):=r.append l;have hl:(us++b).length=ps.length:=by rw[<-g.length];show F.len _ _ _ _ h
 show wpAny_call (Vf (F.run X.A X.stack s H ⟨us,[]⟩ (us++b) (vs++c) Q E hr I.HG (j s us I.Nw hl) g h) λr s' d=>?_);cases r with
 |error e=>show m a σ H s e s' I d
 |ok n =>
  cases n with
  |ret u=>show I.after d
  |_=>show Pt d
end
section
end
structure fk(N P:List Str)(sc:NZ):Prop where
 kind:sc.kind=.function
 co:sc.isCoroutine=cb
 gen:sc.isGenerator=cb
 nd:N.Nodup
 pre:N.take P.length=P
 par:∀x∈P,sc.names.lookup x=a0 .local\/sc.names.lookup x=a0 .cell
 ND:∀y∈sc.names,y.2≠.free
theorem m7{kindOf:Str->Option MZ}:∀{a:List (Str×ez)}{m:Str->Option ez},(∀v,(x,v)∉a)->Ñ kindOf a m x=m x
 |[],_,_=>rfl
 |(n,v)::r,m,h=>by
  unfold Ñ;rw[m7 λw b=>h w (oW _ b)];split
  .have:x≠n:=by rintro rfl;show h v oT
   simp[this]
  .rfl
theorem m8{kindOf:Str->Option MZ}:∀{a:List (Str×ez)}{m:Str->Option ez},(∀v,(x,v)∉a)->Ò kindOf a m x=m x
 |[],_,_=>rfl
 |(n,v)::r,m,h=>by
  unfold Ò;rw[m8 λw b=>h w (oW _ b)];split
  .rfl
  .have:x≠n:=by rintro rfl;show h v oT
   simp[this]
theorem m9{kindOf:Str->Option MZ}:∀{P:List Str}{vs:List ez}{i:Nat}{m:Str->Option ez},P.Nodup->P[i]?=a0 x->vs[i]?=a0 v->kindOf x=a0 .local ->
  Ñ kindOf (P.zip vs) m x=a0 v
 |[],_,_,_,_,h,_,_=>by simp at h
 |_::_,[],_,_,_,_,h,_=>by simp at h
 |p::P,w::vs,0,m,c,a,b,hk=>by
  simp at a b;subst a;subst b;change Ñ kindOf ((p,w)::P.zip vs) m p=_;unfold Ñ;rw[m7 λv d=>(qe.mp c).1 (RL d).1,Ř hk];simp
 |p::P,w::vs,i+1,m,c,a,b,hk=>by
  change Ñ kindOf ((p,w)::P.zip vs) m x=_;unfold Ñ;show m9 (i:=i) (qe.mp c).2 (by simpa using a) (by simpa using b) hk
theorem m_{kindOf:Str->Option MZ}:∀{P:List Str}{vs:List ez}{i:Nat}{m:Str->Option ez},P.Nodup->P[i]?=a0 x->vs[i]?=a0 v->kindOf x≠a0 .local ->
  Ò kindOf (P.zip vs) m x=a0 v
 |[],_,_,_,_,h,_,_=>by simp at h
 |_::_,[],_,_,_,_,h,_=>by simp at h
 |p::P,w::vs,0,m,c,a,b,hk=>by
  simp at a b;subst a;subst b;change Ò kindOf ((p,w)::P.zip vs) m p=_;unfold Ò;rw[m8 λv d=>(qe.mp c).1 (RL d).1,Ś hk];simp
 |p::P,w::vs,i+1,m,c,a,b,hk=>by
  change Ò kindOf ((p,w)::P.zip vs) m x=_;unfold Ò;show m_ (i:=i) (qe.mp c).2 (by simpa using a) (by simpa using b) hk
abbrev start(N:List Str)(vs:List V):St:=vs.map a0++nz (N.length - vs.length) b5
abbrev sm(CX:Ov)(P:HP)(w:Km)(K:PySem.W.Frag)(mg:Str->Option ez)(base:K9)(N:List Str)(a:Str)(scope:NZ)(f:i5)(b:ez)(A:NU)(outer:List Env)(s:gj)(H:Hp)(E:XK):Cx where
 prog:=P
 w:=w
 K:=K
 mg:=mg
 base:=base
 A:=A.deeper (Wd a scope s.heap.objs.size f b)
 N:=N
 s₀:=s
 H₀:=H
 env:=Wd a scope s.heap.objs.size f b
 outer:=outer
 stack:=Wd a scope s.heap.objs.size f b::outer
 ex:=[]
 calm:=b6
 fn:=λ_=>b6
 pn:=[]
 xe:=λe s'=>eH (kj P w) (A.deeper (Wd a scope s.heap.objs.size f b)) (leaving (Wd a scope s.heap.objs.size f b) e) (λ_ c=>CX outer H s E e c) (λd c=>CX outer H s E d c) s'
def qu{a:NZ}(h:a.names.lookup x=a0 .cell):∃c,(NB n a.names []).lookup x=a0 c:=by
 have q:=PySem.W.cellsFrom_some a.names n [] (.inl h);show S9.mp q
def vV{K:PySem.W.Frag}
  (S:fk N ps scope) (G:A.handled=b5) (j:Aw P w K mg base A outer s H) (hl:vs.length=ps.length) (r:Vals vs us)
  (x:InCallC s s.heap.objs.size (Ñ (Wd g scope s.heap.objs.size f t).kindOf (ps.zip us) λ_=>b5) (NB (s.heap.objs.size+1) scope.names []) (Ò (Wd g scope s.heap.objs.size f t).kindOf (ps.zip us) λ_=>b5) s1) :
  Inv (sm CX P w K mg base N g scope f t A outer s H E) [] (start N vs) H s1:=by
 have J:ps.length<=N.length:=by have:=ŝ G2 S.pre;rw[KP]at this;lia
 have⟨m,L,rfl,hk⟩:=x.done;have B:∀b:i5,b∉(sm CX P w K mg base N g scope f t A outer s H E).ex:=λb z=>absurd (show b∈([]:List i5) from z) (by simp);show⟨⟨j.mod,S.kind,rfl,rfl,lg _,λy z c m d=>?_,λy hy=>?_,λy c _ h=>?_,λ_=>G,Around.frames_deeper j.frames,.inr ⟨rfl,rfl⟩,λb z=>absurd z (B b),j.bs,j.M3,λb _ _=>B b,λb z=>absurd z (B b),j.kN,j.Ot⟩,
  rfl,j.bare,Un.kept hk,⟨_,x.toInCall.ns,λi y v m d O=>?_⟩,λy c h=>⟨_,x.cell y c h⟩,j.Ir.fresh (lg _),λy c h=>?_,λp l=>absurd (show p∈([]:List (i5×Obj)) from l) (by simp),j.Ir.kept hk,?_⟩
 .show name_of_addr x.apart (PySem.mem_of_lookup m) (PySem.mem_of_lookup d)
 .have hy:scope.names.lookup y=a0 .cell\/scope.names.lookup y=a0 .free:=hy;rcases hy with hy|hy
  .show qu hy
  .show absurd rfl (S.ND _ (PySem.mem_of_lookup hy))
 .show Nv (x.above y c (PySem.mem_of_lookup h))
 .have o:i<vs.length:=by
   unfold start at d;by_cases o:i<vs.length
   .show o
   .rw[uv (by simpa using o)]at d;rw[NP]at d;split at d<;>cases d
  have I:vs[i]?=a0 v:=by
   unfold start at d;rw[G' (by simpa using o),oa]at d;cases e:vs[i]? with
   |none=>rw[e]at d;cases d
   |some a=>rw[e]at d;cases d;rfl
  have⟨u,C,rv⟩:=r.get I;have l:ps[i]?=a0 y:=by
   rw[<-S.pre,Y' ⋯];show m
  have D:ps.Nodup:=by rw[<-S.pre];show S.nd.sublist (ë _ _)
  show⟨u,rv,?_⟩;rcases S.par y (qs l) with k|k
  .show .inl ⟨k,m9 D l C k⟩
  .have⟨c,e⟩:=qu (n:=s.heap.objs.size+1) k;show .inr ⟨.inl k,c,e,?_⟩;have q:=x.cell y c e;rw[m_ D l C (by change scope.names.lookup y≠_;rw[k];decide)]at q;show q
 .show j.Ir.fresh (Nv (x.above y c (PySem.mem_of_lookup h)))
 .unfold start;change _=N.length;rw[i4,df,Rv];lia
def FQ{K:PySem.W.Frag}{p kV g z d ct D:ez}
 (lk:K.lookup f=a0 ⟨D,od,.func (PySem.W.fnOf name a c body scope p kV g z G d ct),O7⟩) (L:PySem.W.codeIn K d a=b6) (S:fk N ps scope)
    (h:∀vs H Q E,sp vs H Q E->vs.length=ps.length)
    (O:∀(A:NU) (outer:List Env) (s:gj) (H:Hp) (vs:List V) (Q:VK) (E:XK),gK k (A.deeper (Wd a scope s.heap.objs.size f d))->sp vs H Q E ->
      ∃t,JK (sm CX P w K mg base N a scope f d A outer s H E) body t/\t {nx:=λ_ H'=>Q .Iy H',rt:=Q} (start N vs) H) :
    oM P w K mg base CX (k+1) f (PySem.W.fnOf name a c body scope p kV g z G d ct) ps sp:=by
  show⟨h,λA outer s H args us vs Q E hr i T r B=>?_⟩;have hl:=h _ _ _ _ B;have C:K.In s.heap:=i.mod.QE.keeps λb o e=>(i.bs b o e).1;have m:s.heap.NoLimit:=i.mod.nolimit.keeps λb o e=>(i.bs b o e).1;have Y:∀y∈ps.zip us,scope.names.lookup y.1=a0 .local\/(scope.names.lookup y.1=a0 .cell/\((NB (s.heap.objs.size+1) scope.names []).lookup y.1).isSome=b6):=λ⟨n,v⟩ hy=>by
    rcases S.par n (RL hy).1 with q|q
    . show .inl q
    . show .inr ⟨q,PySem.W.cellsFrom_some _ _ _ (.inl q)⟩
  show codeAny_call_function hr.depth (C _ _ lk) rfl S.co S.gen rfl (PySem.W.codeRec_of C L) (T _ _ _ _ ?_);show wpAny_newFunctionEnv_cells S.kind Y λenv he s1 x=>?_;subst he;show⟨m.keeps x.toInCall.keep,codeAny_func ?_⟩;have⟨t,ht,hq⟩:=O A outer s H vs Q E (hr.deeper _) B;have I:Inv (sm CX P w K mg base N a scope f d A outer s H E) [] (start N vs) H s1:=vV S hr.hd i hl r x;show w6 (ht [] s1 (start N vs) H _ I hq) (λfl s' hs=>?_) λe s' hs=>hs;have j:∀{l:St} {H':Hp} {v:V} {u:ez},Inv (sm CX P w K mg base N a scope f d A outer s H E) [] l H' s'->RelV v u->Q v H'->CE outer P w H s Q u s' :=
    λ{l H' v u} J rv q=>⟨v,H',J.os,J.bare,J.base,J.Ir,rv,q⟩
  cases fl with
  | ret u =>
    have⟨v,l,H',J,rv,q⟩:=hs;show j J rv q
  | next =>
    have⟨l,H',J,q⟩:=hs;show j (v:=V.Iy) (u:=ro) J rfl q
  | brk =>
    obtain⟨_,_,_,q⟩:=hs;show Pt q
  | cont =>
    obtain⟨_,_,_,q⟩:=hs;show Pt q
section
end
end L2
namespace HT
open PySem PyProof.Rows
section
open PySem.SeqAt
open PySem.AutoSeq1 (wpAny_loadPart')
open PySem.MeetsSeq PySem.MeetsSeq2 PySem.MeetsSeq3
end
section
def Ax(o:Ă s.heap t vs.toArray)(p:Ă s.heap b ws.toArray)(f:vs≠[])
  (q:ws=[]->Q (.ref t) s) (r:ws≠[]->Q (.ref s.heap.objs.size) {s with heap:=s.heap.push {cls:=.type "tuple",data:=.seq (vs++ws).toArray}})
  (hsz:vs.length+ws.length<=dV):eH (kj prog w) A (PZ .Add (.ref t) (.ref b)) Q E s:=by
 obtain⟨⟨cls,dd,data,g⟩,ho,h,n,i⟩:=id o;obtain⟨⟨u,j,data2,k⟩,c,l,m,a⟩:=id p;simp only at h i l a;subst h i l a;have e:vs.toArray++ws.toArray=(vs++ws).toArray:=by simp
 by_cases d:ws=[]
 .show X2 ⟨_,ho,rfl⟩ ⟨_,c,rfl⟩ YV Å PySem.F.slot_tuple_add PySem.F.entry_tuple_add (PySem.F.args_tuple_add_2 _ _)
   (tuple_addW1 t b vs.toArray ws.toArray n m dd j g k (by simpa using f) (by simp[d])) ⟨ho,c,q d⟩
 .show X2 ⟨_,ho,rfl⟩ ⟨_,c,rfl⟩ YV Å PySem.F.slot_tuple_add PySem.F.entry_tuple_add (PySem.F.args_tuple_add_2 _ _)
   (tuple_addW2 t b vs.toArray ws.toArray n m dd j g k (by simpa using f) (by simpa using d) (by rw[ki,ki];show hsz)) ⟨ho,c,?_⟩
  rw[e];show r d
abbrev IG(n d:Nat):Option Int->Nat
 |none=>d
 |some v=>if v<0 then(v+(n:Int)).toNat else min v.toNat n
def Ay(n d k:Nat):IG n d (a0 (k:Int))=min k n:=by
 change(if (k:Int)<0 then((k:Int)+(n:Int)).toNat else min (k:Int).toNat n)=min k n;rw[Ś ⋯,L7]
def DA(n d:Nat)(b:d<=n)(o:Option Int):IG n d o<=n:=by
 cases o with
 |none=>show b
 |some v =>
  change(if v<0 then(v+(n:Int)).toNat else min v.toNat n)<=n;by_cases a:v<0
  .rw[Ř a];lia
  .rw[Ś a];show Nat.min_le_right _ _
def ud(v:Int)(n d:Nat):(if v<0 then max (v+(n:Int)) 0 else min v (n:Int))=((IG n d (a0 v):Nat):Int):=by
 change(if v<0 then max (v+(n:Int)) 0 else min v (n:Int))=(((if v<0 then(v+(n:Int)).toNat else min v.toNat n):Nat):Int)
 by_cases a:v<0
 .simp only[Ř a];lia
 .simp only[Ś a];lia
def so(lo a:Option Int)(n:Nat):RF lo a 1 (n:Int)=(((IG n 0 lo:Nat):Int),((IG n n a:Nat):Int)):=by
 have b:¬((1:Int)<0):=by lia
 unfold RF;simp only[b,ş];show Ws ?_ ?_
 .cases lo with
  |none=>rfl
  |some v=>show ud v n 0
 .cases a with
  |none=>rfl
  |some v=>show ud v n n
def sr(i j:Nat):Ow (i:Int) (j:Int) 1=j - i:=by
 unfold Ow;have a:(1:Int)>0:=by lia
 simp only[a,Š,Int.ediv_one];split<;>lia
def k9(p:Wc v o)(h:Q o s):eH (kj prog w) A (Ĺ v) Q E s:=by
 cases p with
 |none=>show Ŕ h
 |int i t=>show slicePart_int h
def eL{lo a:Option Int}{n:Nat}(hs:s.heap.IsSliceOf f d e .none)(g:Wc d lo)(i:Wc e a)
  (h:Q (((IG n 0 lo:Nat):Int),1,IG n n a - IG n 0 lo) s):eH (kj prog w) A (VH (.ref f) (pure (n:Int))) Q E s:=by
 have⟨os,b,j,c⟩:=id hs;unfold VH ĺ;show bD (bD (Kv b c (x:=d) rfl (bD (Kv b c (x:=e) rfl (bD (Kv b c (x:=.none) rfl (cL ?_)))))));show bD (Ŕ ?_);change eH _ _ (if ((1:Int)==0)=b6 then _ else _) _ _ s;rw[Ś (by decide)];show bD (k9 g (bD (k9 i (bD (cL ?_)))));change eH _ _ (match RF lo a 1 (n:Int) with|(lo,a)=>pure (lo,(1:Int),Ow lo a 1)) _ _ s;rw[so lo a n];change eH _ _ (pure (((IG n 0 lo:Nat):Int),(1:Int),Ow ((IG n 0 lo:Nat):Int) ((IG n n a:Nat):Int) 1)) _ _ s;rw[sr];show cL h
def xF(xs:Array ez)(i k:Nat):((hA k).filterMap λ(m:Nat)=>xs[((i:Int)+(m:Int) * 1).toNat]?).toArray=((xs.toList.drop i).take k).toArray:=by
 have e:(λ(m:Nat)=>xs[((i:Int)+(m:Int) * 1).toNat]?)=λm=>xs[i+m]?:=by
  funext m
  have:((i:Int)+(m:Int) * 1).toNat=i+m:=by lia
  rw[this]
 rw[e];have:=pick_run xs i k;rw[Ú]at this;have a:((λx=>xs[x]?) ∘ λx=>i+x)=λm=>xs[i+m]?:=rfl;rw[a]at this;rw[this]
def iD{lo b:Option Int}(c:Ă s.heap t a)(hs:s.heap.IsSliceOf e f g .none)(i:Wc f lo)(j:Wc g b)
  (k:¬(IG a.size 0 lo=0/\IG a.size a.size b=a.size))
  (h:Q (.ref s.heap.objs.size) {s with heap:=s.heap.push {cls:=.type "tuple",data:=.seq ((a.toList.drop (IG a.size 0 lo)).take (IG a.size a.size b - IG a.size 0 lo)).toArray}})
  (hsz:a.size<=dV):eH (kj prog w) A (Tj (.ref t) (.ref e)) Q E s:=by
 have d:sizeOk (.seq ((a.toList.drop (IG a.size 0 lo)).take (IG a.size a.size b - IG a.size 0 lo)).toArray):=by
  change((a.toList.drop (IG a.size 0 lo)).take (IG a.size a.size b - IG a.size 0 lo)).toArray.size<=dV;rw[ki,KP,W3,lx];lia
 have r:IG a.size a.size b<=a.size:=DA _ _ (lg _) b;have⟨os,l,n,u⟩:=id hs;have o:s.TypeIs (.ref e) "slice":=⟨os,l,n⟩
 unfold Tj
 try with_reducible show uk ?_
 first|show bD (cL ?_)|skip
 show bD (ġ c.typeIs (by decide) ?_);show bD (JS (name:=Og "__getitem__") c.typeIs y3
  (va y3 c.typeIs ċ ?_ (ě _ _)))
 change eH _ _ (Rn (.ref t) >>= _) _ _ s;show bD (tupleItemsOf_ c ?_);show bD (Tf o ?_);rw[Ř (by decide)];show bD (eL hs i j ?_);have p:¬((((IG a.size 0 lo:Nat):Int)==0&&(1:Int)==1&&(IG a.size a.size b - IG a.size 0 lo)==a.size)=b6):=by
  intro q;rw[eh,eh]at q;have v:((IG a.size 0 lo:Nat):Int)=0:=Û q.1.1;have x:IG a.size a.size b - IG a.size 0 lo=a.size:=Û q.2;show k ⟨⋯,⋯⟩
 change eH _ _ (if (((IG a.size 0 lo:Nat):Int)==0&&(1:Int)==1&&(IG a.size a.size b - IG a.size 0 lo)==a.size)=b6 then _ else _) _ _ s;rw[Ś p,xF]
 first
  |show bD (m:=OY _) (vl (cL ⟨_,rfl,cL h⟩) d)
  |show bD (m:=OY _) (vl (bD (cL (cL ⟨_,rfl,cL h⟩))) d)
  |show bD (bD (m:=OY _) (vl (cL (cL ⟨_,rfl,cL h⟩)) d))
  |show bD (bD (m:=OY _) (vl (cL ⟨_,rfl,cL h⟩) d))
end
end HT
namespace L2
open PySem PySem.Spec PyProof.Rows
@[reducible]def TO:=St->Hp->(Option Int->Hp->Prop)->Prop
abbrev PO(X:Cx)(e:Option p8)(t:TO):Prop :=
 ∀(a:List (i5×Obj)) (s:gj) (σ:St) (H:Hp) (Q:Option Int->Hp->Prop),Inv X a σ H s->t σ H Q ->
  eH (kj X.prog X.w) X.A (evalPart e X.env) (λu s'=>∃o H',Inv X a σ H' s'/\Wc u o/\Q o H') X.xe s
abbrev Az:TO:=λ_ H Q=>Q b5 H
abbrev FR(t:TE):TO:=λσ H Q=>t σ H λx a=>∃i,x=.int i/\Q (a0 i) a
section
variable{X:Cx}{e:p8}{te:TE}{lo hi:Option p8}{tl th:TO}{pos p2:Pos}
def AA:PO X b5 Az:=by
 intro a s σ H Q I h;rw[evalPart_none];show cL ⟨b5,H,I,.none,h⟩
def AB(h:PE X e te):PO X (a0 e) (FR te):=by
 intro a s σ H Q I b;rw[evalPart_some];show Iw (h a s σ H _ I b) λu s1 c=>?_;have⟨x,d,f,g,j⟩:=c;have⟨i,rfl,q⟩:=j;have⟨t,rfl⟩:=g;show⟨a0 i,d,f,.int i t,q⟩
abbrev Mr(X:Cx)(r:V->Option Int->Option Int->Hp->VK->Prop):Prop :=
 ∀(a:List (i5×Obj)) (s:gj) (σ:St) (H:Hp) (x:V) (v b c:ez) (lo hi:Option Int) (d:i5) (Q:VK),Inv X a σ H s->RelV x v->s.heap.IsSliceOf d b c .none->Wc b lo->Wc c hi->r x lo hi H Q ->
  ∃T id,ĕ (.type T) "__getitem__"=pure (a0 (.builtin id))/\s.TypeIs v T/\eH (kj X.prog X.w) X.A (Tj v (.ref d)) (EP X a σ Q) X.xe s
def Mr.or(h:Mr X r)(h':Mr X j):Mr X (λx lo hi H Q=>r x lo hi H Q\/j x lo hi H Q):=by
 intro a s σ H x v b c lo hi d Q I f hs g i q;rcases q with q|q
 .show h a s σ H x v b c lo hi d Q I f hs g i q
 .show h' a s σ H x v b c lo hi d Q I f hs g i q
abbrev Wy(r:V->Option Int->Option Int->Hp->VK->Prop)(te:TE)(tl th:TO):TE:=λσ H Q=>te σ H λx a=>tl σ a λl b=>th σ b λu c=>r x l u c Q
def xG(hr:Mr X r)(g:PE X e te)(hl:PO X lo tl)(i:PO X hi th):PE X (.Subscript e (.Slice lo hi b5 p2) pos) (Wy r te tl th):=by
 intro a s σ H Q I h;show Ĝ (Iw (g a s σ H _ I h) λv s1 j=>?_);have⟨x,k,m,n,o⟩:=j;show wpAny_Slice (Iw (hl a s1 σ k _ m o) λc s2 ⟨l,p,t,y,z⟩=>Iw (i a s2 σ p _ t z) λd s3 B=>?_);have⟨u,f,C,D,G⟩:=B;rw[evalPart_none];show cL ?_;have J:Inv X a σ f {s3 with heap:=s3.heap.push {cls:=.type "slice",data:=.fields #[c,d,.none]}}:=C.kept (t':=s3.toks) λb Y q=>dt _ q;have⟨T,id,L,N,O⟩:=hr a {s3 with heap:=s3.heap.push {cls:=.type "slice",data:=.fields #[c,d,.none]}} σ f x v c d l u s3.heap.objs.size Q J n (ĭ ..) y D G;change eH (kj X.prog X.w) X.A (WY e (.Slice lo hi b5 p2) v (.ref s3.heap.objs.size)) (EP X a σ Q) X.xe {s3 with heap:=s3.heap.push {cls:=.type "slice",data:=.fields #[c,d,.none]}};show tail_any (ops:=[.ref s3.heap.objs.size,v]) N L O (by with_unfolding_all rfl)
abbrev qv(xs:List V)(lo hi:Option Int):List V:=(xs.drop (HT.IG xs.length 0 lo)).take (HT.IG xs.length xs.length hi - HT.IG xs.length 0 lo)
def jK(xs:List V)(lo hi:Option Int):(qv xs lo hi).length<=xs.length:=by
 unfold qv;rw[KP,W3];lia
abbrev FT(K:PySem.W.Frag):V->Option Int->Option Int->Hp->VK->Prop:=λx lo hi H Q=>∃a xs,x=.ref a/\IX K H a xs /\
 ¬(HT.IG xs.length 0 lo=0/\HT.IG xs.length xs.length hi=xs.length)/\∀p,H p=b5->Q (.ref p) (upd H p (.tup (qv xs lo hi)))
def DB:Mr X (FT X.K):=by
 intro d s σ H x v n p lo hi t Q I g hs i j h;have⟨a,xs,rfl,k,l,q⟩:=h;cases g;have⟨m,r,f,hz⟩:=I.tuple k;have c:m.toArray.size=xs.length:=by rw[ki];show r.length.symm
 show⟨"tuple",_,y3.lookup,f.typeIs,?_⟩;show HT.iD f hs i j (by rw[c];show l) ?_ (by rw[c];show hz);rw[c];show⟨.ref s.heap.objs.size,_,I.laid (t':=s.toks) (o:=.tup (qv xs lo hi)) (λb u q=>dt _ q) (lg _) ?_,rfl,q _ (I.Ir.fresh (lg _))⟩;show⟨td (jK xs lo hi) hz,_,(r.drop (HT.IG xs.length 0 lo)).take (HT.IG xs.length xs.length hi - HT.IG xs.length 0 lo),Y9 _ _⟩
abbrev FU(K:PySem.W.Frag):R2:=λx y H Q=>∃a b xs ys,x=.ref a/\y=.ref b/\IX K H a xs/\IX K H b ys/\xs≠[]/\xs.length+ys.length<=dV /\
 (ys=[]->Q (.ref a) H)/\(ys≠[]->∀p,H p=b5->Q (.ref p) (upd H p (.tup (xs++ys))))
def Vals.oN(r:Vals xs us):us=[]↔xs=[]:=by
 cases r with
 |_=>simp
def AD:J0 X (PZ .Add) (FU X.K):=by
 intro f s σ H x y v u Q I g i h;have⟨a,b,xs,ys,rfl,rfl,j,k,l,hz,m,n⟩:=h;cases g;cases i;obtain⟨r,d,p,_⟩:=I.tuple j;obtain⟨t,c,p2,_⟩:=I.tuple k;show HT.Ax p p2 (λz=>l (d.oN.mp z)) (λz=>⟨.ref a,H,I,rfl,m (c.oN.mp z)⟩) (λz=>?_) (by rw[<-d.length,<-c.length];show hz);show⟨.ref s.heap.objs.size,_,I.laid (t':=s.toks) (o:=.tup (xs++ys)) (λb A q=>dt _ q) (lg _) ?_,rfl,n (λw=>z (c.oN.mpr w)) _ (I.Ir.fresh (lg _))⟩;show⟨by rw[i4];show hz,_,d.append c,Y9 _ _⟩
end
abbrev LZ(n:Nat)(i:Int):Option Nat:=if 0<=i then(if i<n then a0 i.toNat else b5) else if -(n:Int)<=i then a0 (i+n).toNat else b5
abbrev Jb{α:Type}(xs:List α)(i:Int):Option α:=(LZ xs.length i).bind λj=>xs[j]?
def ue{n:Nat}(h:LZ n i=a0 j):seqIndex? i n=a0 j/\j<n/\-(n:Int)<=i/\i<n:=by
 unfold LZ at h;by_cases b:0<=i
 .rw[Ř b]at h;by_cases a:i<n
  .rw[Ř a]at h;have e:i.toNat=j:=sL h;show⟨by rw[ú b a,e],⋯,⋯,a⟩
  .rw[Ś a]at h;cases h
 .rw[Ś b]at h;by_cases a:-(n:Int)<=i
  .rw[Ř a]at h;have e:(i+n).toNat=j:=sL h;show⟨by rw[seqIndex_neg ⋯ a,e],⋯,a,⋯⟩
  .rw[Ś a]at h;cases h
def oP(h:Jb xs i=a0 v):∃j,seqIndex? i xs.length=a0 j/\xs[j]?=a0 v/\j<xs.length/\-(xs.length:Int)<=i/\i<xs.length:=by
 unfold Jb at h;cases e:LZ xs.length i with
 |none=>rw[e]at h;cases h
 |some j =>
  rw[e]at h;have⟨a,b,c,d⟩:=ue e;show⟨j,a,h,b,c,d⟩
def cv{j:Nat}(h:xs[j]?=a0 v):Jb xs (j:Int)=a0 v:=by
 have a:j<xs.length:=(eW.mp h).1;have e:LZ xs.length (j:Int)=a0 j:=by
  unfold LZ;rw[Ř ⋯,Ř ⋯];simp
 unfold Jb;rw[e];show h
abbrev oQ(b:p8):Prop:=∀o i,Y8 b cb o i=operate [o,i] (Tj o i)
abbrev Sa(X:Cx)(r:R2):Prop :=
 ∀(c a:p8) (b:List (i5×Obj)) (s:gj) (σ:St) (H:Hp) (x y:V) (v u:ez) (Q:VK),Inv X b σ H s->RelV x v->RelV y u->r x y H Q ->
  Y8 a cb v u=operate [v,u] (Tj v u)->eH (kj X.prog X.w) X.A (WY c a v u) (EP X b σ Q) X.xe s
abbrev Sb(X:Cx)(id:String)(r:V->List V->Hp->VK->Prop):Prop :=
 ∀(a:List (i5×Obj)) (s:gj) (σ:St) (H:Hp) (x:V) (xs:List V) (v:ez) (us:List ez) (Q:VK),Inv X a σ H s->RelV x v->Vals xs us->r x xs H Q ->
  eH (kj X.prog X.w) X.A (Qz (.builtin id) (v::us)) (EP X a σ Q) X.xe s
section
abbrev HH(K:PySem.W.Frag):R2:=λx y H Q=>∃p xs i v,x=.ref p/\y=.int i/\Je K H p xs/\Jb xs i=a0 v/\Q v H
abbrev HI(K:PySem.W.Frag):R2:=λx y H Q=>∃p xs i v,x=.ref p/\y=.int i/\IX K H p xs/\Jb xs i=a0 v/\Q v H
abbrev HJ:R2:=λx y H Q=>∃z i c,x=.str z/\y=.int i/\z.length<=dV/\Jb z.cps.toList i=a0 c/\Q (.str ⟨#[c]⟩) H
def AE:Sa X (HH X.K):=by
 intro d f a s σ H x y v u Q I n A h hs;have⟨p,xs,i,z,rfl,rfl,B,C,q⟩:=h;cases n;have⟨t,rfl⟩:=A;have⟨D,r,g,hz⟩:=I.list B;have⟨j,c,G,O,J,L⟩:=oP C;have⟨w,l,N⟩:=r.get G;have hl:=r.length;have Y:=fQ;have b:EP X a σ Q w s:=⟨z,H,I,N,q⟩
 by_cases m:0<=i
 .have k:i.toNat=j:=by
   rw[ú m L]at c;show sL c
  show item_listR g.isList m ⋯ (by rw[k];simpa using l) b hs
 .have k:(i+(D.toArray.size:Int)).toNat=j:=by
   rw[seqIndex_neg ⋯ J]at c;rw[ki,<-hl];show sL c
  show è (x:=w) g.isList.typeIs ĥ.lookup
   (wpAny_getItem_list_neg (Q:=λr s'=>r=w/\EP X a σ Q r s') g.isList ⋯ (by rw[ki]<;>lia) ⋯ (by rw[k];simpa using l) ⟨rfl,b⟩) hs
def b9:Sa X (HI X.K):=by
 intro b c a s σ H x y v u Q I g k h hs;have⟨p,xs,i,z,rfl,rfl,l,m,q⟩:=h;cases g;have⟨t,rfl⟩:=k;have⟨D,r,f,hz⟩:=I.tuple l;have⟨j,n,A,G,J,L⟩:=oP m;have⟨w,B,C⟩:=r.get A;have hl:=r.length;have N:=fQ;have d:EP X a σ Q w s:=⟨z,H,I,C,q⟩
 show è (x:=w) f.typeIs y3.lookup
  (getItem_tuple (j:=j) (Q:=λr s'=>r=w/\EP X a σ Q r s') f ⋯ ⋯ (by rw[ki,<-hl];show n) (by simpa using B) ⟨rfl,d⟩) hs
def k_:Sa X HJ:=by
 intro a b d s σ H x y v u Q I g k h hs;have⟨z,i,c,rfl,rfl,hz,l,q⟩:=h;have⟨t,rfl⟩:=g;have⟨t',rfl⟩:=k;have⟨j,f,m,B,n,p⟩:=oP l;have hl:z.cps.toList.length=z.length:=by simp[Y1]
 rw[hl]at f n p;have C:=fQ;show tail_any (TJ s z t) Ľ.lookup (getItem_str (c:=c) (by
  have w:cK (i < -(2 ^ 63:Int))=cb:=ř ⋯;have A:cK (i >= 2 ^ 63)=cb:=ř ⋯;rw[w,A,ğ]) (by rw[f];simpa using m) ⟨.str ⟨#[c]⟩,H,I.tok _,⟨_,rfl⟩,q⟩) hs
def sv(a:List ez)(n j:Nat)(u:ez):tj (·.setIfInBounds j u) {cls:=.type "list",data:=.seq a.toArray n}={cls:=.type "list",data:=.seq (a.set j u).toArray n}:=by
 simp[tj]
def Inv.lst(I:Inv X b σ H s)(h:H p=a0 (.lst xs)):
  ∃(a:List ez) (n:Nat),Vals xs a/\s.heap.get? p=a0 {cls:=.type "list",data:=.seq a.toArray n}/\xs.length<=dV:=by
 have⟨z,a,n,r,e⟩:=I.Ir p _ h;show⟨a,n,r,e,z⟩
def Inv.DC{c its':List ez}(I:Inv X a σ H s)(h:H p=a0 (.lst xs))
  (ho:s.heap.get? p=a0 {cls:=.type "list",data:=.seq c.toArray n}) (d:f {cls:=.type "list",data:=.seq c.toArray n}={cls:=.type "list",data:=.seq its'.toArray g }) (r:Vals ys its') (hz:ys.length<=dV) (t:Nat) :
  Inv X a σ (upd H p (.lst ys)) {s with heap:=s.heap.update p f,toks:=t}:=by
 have e:(s.heap.update p f).get? p=a0 {cls:=.type "list",data:=.seq its'.toArray g }:=by
  rw[Jx f ho (by rw[d]<;>rfl),d]
 show I.write (x:=p) (e:=p) (by rw[h];trivial) (.inl rfl) (λb u i q=>(QT _ _ (vu i)).trans q) ⟨_,e⟩ ?_;show⟨hz,its',g,r,e⟩
abbrev FV:V->V->V->Hp->(Hp->Prop)->Prop:=λo i v H Q=>∃p xs k j,o=.ref p/\i=.int k/\H p=a0 (.lst xs)/\LZ xs.length k=a0 j/\Q (upd H p (.lst (xs.set j v)))
def set_list:kS X FV:=by
 intro a s σ H o i v z A u Q I w x rv h;have⟨p,xs,k,j,rfl,rfl,c,y,q⟩:=h;cases w;have⟨t,rfl⟩:=x;have⟨d,n,r,ho,hz⟩:=I.lst c;have⟨b,B,f,g⟩:=ue y;have hl:=r.length;have C:=fQ;have l:Inv X a σ (upd H p (.lst (xs.set j v))) {s with heap:=s.heap.update p (tj (·.setIfInBounds j u))} :=
  I.DC c ho (sv d n j u) (r.set rv j) (by rw[ć];show hz) s.toks
 by_cases m:0<=k
 .have hk:k.toNat=j:=by
   rw[ú m g]at b;show sL b
  show PySem.W.ki_setAt ho m ⋯ (by rw[ki,<-hl];show g) (by rw[hk];show⟨_,l,q⟩)
 .have hk:(k+(d.toArray.size:Int)).toNat=j:=by
   rw[seqIndex_neg ⋯ f]at b;rw[ki,<-hl];show sL b
  show PySem.W.ki_setBack ho ⋯ (by rw[ki,<-hl];show f) ⋯ (by rw[hk];show⟨_,l,q⟩)
def oS(lo a:Option Int)(n:Nat):(Sf lo a b5 n).1=((HT.IG n 0 lo:Nat):Int)/\(Sf lo a b5 n).2.1=((HT.IG n n a:Nat):Int)/\(Sf lo a b5 n).2.2=1:=by
 show⟨?_,?_,rfl⟩
 .cases lo with
  |none=>simp[Sf,HT.IG]
  |some i =>
   simp only[Sf,HT.IG,Ö,show(1:Int)>0 by decide,Š];by_cases h:i<0
   .simp only[h,Š]<;>lia
   .simp only[h,ş]<;>lia
 .cases a with
  |none=>simp[Sf,HT.IG]
  |some i =>
   simp only[Sf,HT.IG,Ö,show(1:Int)>0 by decide,Š];by_cases h:i<0
   .simp only[h,Š]<;>lia
   .simp only[h,ş]<;>lia
def mL(a:List ez)(lo b:Option Int):slicePick a.toArray lo b b5=((a.drop (HT.IG a.length 0 lo)).take (HT.IG a.length a.length b - HT.IG a.length 0 lo)).toArray:=by
 have⟨c,d,f⟩:=oS lo b a.toArray.size;unfold slicePick;rw[c,d,f];simp only[sliceRange_one,pick_run,ki]<;>rfl
abbrev FW(K:PySem.W.Frag):V->Option Int->Option Int->Hp->VK->Prop:=λx lo b H Q=>∃a xs,x=.ref a/\Je K H a xs/\∀p,H p=b5->Q (.ref p) (upd H p (.lst (qv xs lo b)))
def AF:Mr X (FW X.K):=by
 intro f s σ H x v m n lo d p Q I i hs j k h;have⟨a,xs,rfl,l,q⟩:=h;cases i;have⟨u,r,g,hz⟩:=I.list l;have c:=r.length;show⟨"list",_,ĥ.lookup,g.isList.typeIs,?_⟩;show wpAny_getItem_list_slice g.isList hs j k .none (by simp) ?_ (by rw[ki]<;>lia);rw[mL,<-c];show⟨.ref s.heap.objs.size,_,I.laid (t':=s.toks) (o:=.lst (qv xs lo d)) (λb w q=>dt _ q) (lg _) ?_,rfl,q _ (I.Ir.fresh (lg _))⟩;show⟨td (jK xs lo d) hz,_,0,(r.drop (HT.IG xs.length 0 lo)).take (HT.IG xs.length xs.length d - HT.IG xs.length 0 lo),fx _ rfl⟩
def iE:gQ X (.builtin "len") (λxs H Q=>∃p ys,xs=[.ref p]/\(Je X.K H p ys\/IX X.K H p ys)/\Q (.int ys.length) H):=by
 intro d s σ H xs us Q I r h;have⟨p,ys,rfl,hq,q⟩:=h;have⟨u,rfl,f⟩:=vals1 r;cases f;have i:=fQ;rcases hq with hq|hq
 .have⟨g,b,c,hz⟩:=I.list hq;have a:=b.length;show Calls.call_len_list c.isList (by simp only[ki]<;>lia) ⟨.int ys.length,H,I.tok _,⟨s.toks+1,by rw[ki,a]⟩,q⟩
 .have⟨g,b,c,hz⟩:=I.tuple hq;have a:=b.length;show len_tuple c (by simp only[ki]<;>lia) ⟨.int ys.length,H,I.tok _,⟨s.toks+1,by rw[ki,a]⟩,q⟩
def oU:gQ X (.builtin "len") (λxs H Q=>∃z,xs=[.str z]/\z.length<=dV/\Q (.int z.length) H):=by
 intro a s σ H xs us Q I r h;have⟨z,rfl,hz,q⟩:=h;have⟨u,rfl,t,rfl⟩:=vals1 r;have b:=fQ;show len_str ⋯ ⟨.int z.length,H,I.tok _,⟨_,rfl⟩,q⟩
def iF:gQ X (.type "list") (λxs H Q=>∃p ys,xs=[.ref p]/\(Je X.K H p ys\/IX X.K H p ys)/\∀l,H l=b5->Q (.ref l) (upd H l (.lst ys))):=by
 intro f s σ H xs us Q I r h;have⟨p,ys,rfl,hq,q⟩:=h;have⟨u,rfl,x⟩:=vals1 r;cases x;have g:∀(a:List ez),Vals ys a->ys.length<=dV->∀(h':K9) (c:Nat),(∀b o',s.heap.get? b=a0 o'->h'.get? b=a0 o') ->
   h'.get? s.heap.objs.size=a0 {cls:=.type "list",dict:=b5,data:=.seq a.toArray c,slots:=#[]}->EP X f σ Q (.ref s.heap.objs.size) {s with heap:=h' }:=λa d hz h' c i e =>
  ⟨.ref s.heap.objs.size,_,I.laid (t':=s.toks) i (lg _) (show bL X.prog X.w _ h' _ (.lst ys) from⟨hz,a,c,d,e⟩),rfl,q _ (I.Ir.fresh (lg _))⟩
 rcases hq with hq|hq
 .have⟨a,d,k,hz⟩:=I.list hq;have j:=d.length;have⟨o,ho,m,n,v⟩:=k.isList;show call_list_seq p (.inl rfl) ho m v (λh' c i e=>g a d hz h' c i e) (by simp only[ki]<;>lia)
 .have⟨a,d,k,hz⟩:=I.tuple hq;have j:=d.length;have⟨o,ho,m,n,v⟩:=k;show call_list_seq p (.inr rfl) ho m v (λh' c i e=>g a d hz h' c i e) (by simp only[ki]<;>lia)
def gR:gQ X (.type "tuple") (λxs H Q=>∃p ys,xs=[.ref p]/\((Je X.K H p ys/\∀l,H l=b5->Q (.ref l) (upd H l (.tup ys)))\/(IX X.K H p ys/\Q (.ref p) H))):=by
 intro a s σ H xs us Q I r h;have⟨p,ys,rfl,h⟩:=h;have⟨u,rfl,k⟩:=vals1 r;cases k;rcases h with⟨c,q⟩|⟨c,q⟩
 .have⟨d,f,g,hz⟩:=I.list c;have i:=f.length;show call_tuple_list g.isList (λh' m=>?_) (by simp only[ki]<;>lia);have j:Inv X a σ H {s with heap:=h' }:=I.kept (t':=s.toks) m;have n:Inv X a σ (upd H h'.objs.size (.tup ys)) {s with heap:=h'.push {cls:=.type "tuple",data:=.seq d.toArray}} :=
   j.laid (t':=s.toks) (λb o e=>dt _ e) (lg _) (show bL X.prog X.w _ _ _ (.tup ys) from⟨hz,d,f,Y9 _ _⟩)
  show⟨.ref h'.objs.size,_,n,rfl,q _ (j.Ir.fresh (lg _))⟩
 .have⟨d,f,g,hz⟩:=I.tuple c;show call_tuple_same g ⟨.ref p,H,I,rfl,q⟩
abbrev Sd(K:PySem.W.Frag)(T:String)(x:V)(H:Hp):Prop:=match x with
 |.str _=>T="str"
 |.int _=>T="int"
 |.ref p=>(T="list"/\∃xs,Je K H p xs)\/(T="tuple"/\∃o,K.lookup p=a0 o/\o.cls=.type "tuple"/\o.dict=b5) \/
   (T="dict"/\((∃kvs,H p=a0 (.dK kvs))\/∃kvs,H p=a0 (.dT kvs)))\/(T="set"/\∃S n,H p=a0 (.set S n))
 |_=>False
def sy(I:Inv X g σ H s)(r:RelV x v)(b:Sd X.K T x H):
  s.TypeIs v T/\∀a,v=.ref a->∃h,s.heap.get? a=a0 h/\h.dict=b5:=by
 cases x with
 |str z =>
  have⟨t,rfl⟩:=r;cases(show T="str" from b);show⟨TJ s z t,λ_ e=>nomatch e⟩
 |int i =>
  have⟨t,rfl⟩:=r;cases(show T="int" from b);show⟨typeIs_int s i t,λ_ e=>nomatch e⟩
 |ref p =>
  cases r;rcases b with⟨rfl,xs,k⟩|⟨rfl,o,hk,l,d⟩|⟨rfl,hk⟩|⟨rfl,S,n,hk⟩
  .obtain⟨m,_,j,_⟩:=I.list k;show⟨j.isList.typeIs,λa e=>?_⟩;cases e;obtain⟨o,n,e,c,d,_⟩:=j;show⟨o,e,d⟩
  .show⟨⟨o,I.Nw p o hk,l⟩,λa e=>?_⟩;cases e;show⟨o,I.Nw _ o hk,d⟩
  .have z:∃o,s.heap.get? p=a0 o/\o.ExactDict:=by
    rcases hk with⟨kvs,hk⟩|⟨kvs,hk⟩
    .obtain⟨_,_,_,_,o,_,_,e,ex,_⟩:=I.Ir p _ hk;show⟨o,e,ex⟩
    .obtain⟨_,_,_,_,o,_,_,e,ex,_⟩:=I.Ir p _ hk;show⟨o,e,ex⟩
   have⟨o,e,ex⟩:=z;show⟨⟨o,e,ex.1⟩,λa f=>?_⟩;cases f;show⟨o,e,ex.2.1⟩
  .obtain⟨o,_,_,_,e,ex,_⟩:=I.Ir p _ hk;show⟨⟨o,e,ex.1⟩,λa f=>?_⟩;cases f;show⟨o,e,ex.2.1⟩
 |_=>show Pt b
abbrev Wz(K:PySem.W.Frag)(T:String)(r:V->List V->Hp->VK->Prop)(to:TE)(t:TA):TE:=λσ H Q=>to σ H λx a=>Sd K T x a/\t σ a λxs b=>r x xs b Q
variable{o e:p8}{es:List p8}{to:TE}{t:TA}{name:Str}{apos Ij:Pos}{T id:String}{r:V->List V->Hp->VK->Prop}
def xH(f:PlainAttrs T)(slot:Slot T name id)(g:Ĕ (.builtin id)=pure (.type "method_descriptor"))(i:Sb X id r)(ho:PE X o to)(j:PA X (e::es) t)
  (k:WV o name X.env (KH o X.env)=KH o X.env:=by rfl)
  (l:((Ll Ij (mx (e::es) X.env)).all (λx=>!x.1)&&(Sg Ij (OR [] X.env)).all (λx=>x.1.isSome)
   && cK ((e::es).length+([]:List QP).length+(if ([]:List QP).isEmpty then 0 else 1)<30))=b6:=by rfl)
  (m:(apos.endLine==Ij.line)=b6:=by rfl) (hs:mx (e::es) X.env=(cb,KH e X.env)::mx es X.env:=by rfl) (n:(Ll Ij (mx es X.env)).any (·.1)=cb:=by rfl) :
  PE X (.Call (.Attribute o name apos) (e::es) [] Ij) (Wz X.K T r to t):=by
 intro a s σ H Q I h;show Ý k l m rfl (Iw (ho a s σ H _ I h) λv s1 p=>?_);have⟨x,q,b,c,u,w⟩:=p;have⟨y,z⟩:=sy b c u;show⟨T,id,f,slot,g,y,z,?_⟩;have d:=j Ij a s1 σ q _ b w;rw[hs]at d ⊢;show Mx (by change(cb||(Ll Ij (mx es X.env)).any (·.1))=cb;rw[n]<;>rfl) (Ph ?_);show Iw d λus s2 ⟨vs,A,B,C,D⟩=>i a s2 σ A x vs v us Q B c C D
end
abbrev UZ(X:Cx)(id:String)(r:V->List V->Hp->VK->Prop):Prop :=
 ∀(a:List (i5×Obj)) (s:gj) (σ:St) (H:Hp) (x:V) (xs:List V) (v:ez) (us:List ez) (Q:VK),Inv X a σ H s->RelV x v->Vals xs us->r x xs H Q ->
  eH (kj X.prog X.w) X.A (Qz (.builtin id) (v::us)) (EP X a σ Q) X.xe s
theorem Vals.one:∀{x:V}{us:List ez},Vals [x] us->∃u,us=[u]/\RelV x u
 |_,_,.cons r .nil=>⟨_,rfl,r⟩
section
def Inv.la{b its':List ez}(I:Inv X a σ H s)(c:H l=a0 (.lst xs))
  (e:s.heap.get? l=a0 {cls:=.type "list",data:=.seq b.toArray n}) (d:f b.toArray=its'.toArray) (g:Vals ys its') (hz:ys.length<=dV) :
  Inv X a σ (upd H l (.lst ys)) {s with heap:=s.heap.update l (tj f),toks:=t' }:=by
 have q:=PySem.IsL.update e f;rw[d]at q;show I.write (x:=l) (e:=l) (by rw[c];show trivial) (.inl rfl) (λj u h i=>(QT s.heap (tj f) (vu h)).trans i) ⟨_,q⟩ ?_;show⟨hz,its',_,g,q⟩
def Inv.HK(I:Inv X a σ H s)(c:Vals ys b)(hz:ys.length<=dV):
  Inv X a σ (upd H s.heap.objs.size (.lst ys)) {s with heap:=s.heap.push {cls:=.type "list",data:=.seq b.toArray},toks:=t' } :=
 I.laid (λ_ _ q=>dt _ q) (lg _) ⟨hz,b,0,c,fx _ rfl⟩
def Inv.fresh(I:Inv X a σ H s):H s.heap.objs.size=b5:=I.Ir.fresh (lg _)
def Inv.FX(I:Inv X b σ H s)(c:H l=a0 (.lst xs)):xs.length<=dV/\∃(a:List ez) (n:Nat),Vals xs a/\xs.length=a.length/\s.heap.get? l=a0 {cls:=.type "list",data:=.seq a.toArray n}:=by
 have⟨z,a,n,r,e⟩:=I.Ir l _ c;show⟨z,a,n,r,r.length,e⟩
def xI(h:n<=dV):M4 n=cb:=by
 unfold M4;show ř ⋯
end
section
abbrev AG:V->List V->Hp->VK->Prop:=λx vs H Q=>∃l xs y,x=.ref l/\vs=[y]/\H l=a0 (.lst xs)/\xs.length<dV/\Q .Iy (upd H l (.lst (xs++[y])))
def ng:UZ X "list.append" AG:=by
 intro a s σ H x vs v us Q I d rv h;have⟨l,xs,y,rfl,rfl,b,hz,q⟩:=h;cases d;have⟨u,rfl,f⟩:=rv.one;have⟨z,c,n,r,hl,e⟩:=I.FX b;show Vh F.slot_list_append ⟨_,e,rfl⟩ F.entry_list_append (F.args_list_append_2 _ _) (PySem.list_append l c.toArray n u (by rw[ki];lia)) ⟨e,?_⟩;show⟨.Iy,_,I.la (its':=c++[u]) b e (by simp) (r.append (.cons f .nil)) ?_,rfl,q⟩;rw[i4,JJ];lia
end
section
set_option maxRecDepth 100000 in
end
section
end
end L2
namespace U0
open PySem PySem.W PySem.Calls PyProof.Rows
def j8:∀(ns:List Int) (vs:List ez),WellAll P h vs (ns.map Ł)->ê vs ns:=by
 intro ns;induction ns with
 |nil =>
  intro vs w;rw[MT]at w;cases w;show .nil
 |cons n ns c =>
  intro vs w;rw[gi]at w;cases w with
  |cons a b =>
   cases a;show .cons _ _ (c _ b)
def vW{l:OpenLaw}(i:l.most=a0 n)
  (f:l.row.toRowW.claim.pre args=b6) (j:WellAll P h vals args) :
  ∃a vs ns,vals=[mA a]/\args=[WData.list (ns.map Ł)]/\h.get? a=a0 {cls:=.type "list",data:=.seq vs.toArray}/\ê vs ns/\ns.length<=n:=by
 have k:WShape.hasAll [] args [.list .int]=b6:=(pre_splitW f).1;have g:l.pre.holds [] {args:=args}=b6:=(pre_splitW f).2;have⟨d,r,rfl,m,o⟩:=hasAllW_cons k;obtain rfl:=hasAllW_nil o;have⟨xs,rfl,p⟩:=hasW_list m;have⟨ns,rfl⟩:=items_int p;have b:ns.length<=n:=by
  unfold OpenLaw.pre at g;have c:(WTm.not (.lt (.lit (.int (n:Int))) (.len (.arg 0)))).holds [] {args:=[.list (ns.map .int)]}=b6:=by
   have c:=(holds_andW g).1;rw[i]at c;show c
  have e:=condW_of c (w_not (w_lt w_lit (w_len_list (w_arg rfl))));rw[df]at e;show ă λq=>?_;have s:(n:Int)<((ns.length:Nat):Int):=by lia
  first
   |(rw[ś s]at e;show absurd e (by decide))
   |(simp at e;lia)
 cases j with
 |cons t u =>
  cases u;cases t with
  |list ho v=>show⟨_,_,ns,rfl,rfl,ho,j8 ns _ v,b⟩
def vX(l:OpenLaw)(args:List WData):l.row.toRowW.claim.post args (.bool b6) args=b6 :=
 postW_of (r:=l.row.toRowW) (X:=(b6==b6))
  (show ĩ [] (.bool b6) .bool=b6 by first|rfl|decide|simp[ĩ,WShape.arms,WShape.armsAll])
  (show(WTm.eq .res (.lit (.bool b6))).value [] {args:=args,res:=a0 (.bool b6),after:=args}=a0 (.bool (b6==b6)) from w_eq_bool (w_res rfl) w_lit) rfl
def qw{l:OpenLaw}
  (p:l.most=a0 n) (s:d.params.defaults=[])
  (Qz:∀(w:Km) (s₀ b:gj) (mg j:Str->Option ez) (fa:i5) (o:Obj) (k i c:ez) (a:i5) (vs:List ez) (ns:List Int),
   Ground q e [] t w s₀ mg j b.heap->u w b.heap ->
   b.heap.get? fa=a0 o->o.data=.func (docDef d.name d.params d.body d.scope k i c)->b.heap.CodeRec i d.name->mg d.name=a0 (.ref fa) ->
   b.heap.get? a=a0 {cls:=.type "list",data:=.seq vs.toArray}->ê vs ns->ns.length<=n->b.gens=#[] ->
   T6 (kj l.prog w) Vg (.call (.ref fa) ⟨[.ref a],[]⟩) (λr s'=>r=.ok (.ret (.bool b6))/\OldK b.heap s'.heap/\s'.os=b.os/\Vs s'.gens) b) :
  WalkO q e t u l.row.toRowW d [] (λf vs=>PySem.call f vs):=by
 intro w s₀ b mg j G Y fa o k i c v kV ho x y m z A args vals as B O Q C T;obtain rfl:v=.none:=Dflts.none m s;obtain rfl:kV=.none:=Dflts.noKw m;have⟨a,vs,ns,rfl,rfl,D,g,h⟩:=vW p B C;show enter_call (Vf (Qz w s₀ b mg j fa o k i c a vs ns G Y ho (fd_plain x) y z D g h A) λr s' H=>?_);have⟨rfl,I,J,L⟩:=H;show⟨.inl ⟨.bool b6,.bool b6,[],rfl,λ_=>rfl,.bool b6,vX l _,λ_=>⟨Ŀ,λ_ N=>(nomatch N)⟩⟩,I,J,L⟩
section
end
end U0
namespace L2
open PySem PySem.Spec PyProof.Rows
theorem nh:∀{vs:List ez}{ns:List Int},ê vs ns->Vals (ns.map V.int) vs
 |_,_,.nil=>.nil
 |_,_,.cons n t h=>.cons ⟨t,rfl⟩ (nh h)
abbrev DE(H:Hp):Prop:=∀b,H b=b5\/∃o xs,H b=a0 (.Jw o (.lst xs))
def xJ{K:PySem.W.Frag}
  (y:K.In c.heap) (A:c.heap.Ns J8 mg) (f:c.heap.Ns Vi B) (O:∀x:Str,x≠"__name__"->B x=IL x) (Q:c.heap.NoLimit) (T:c.gens=#[])
  (l:c.heap.get? a=a0 {cls:=.type "list",data:=.seq vs.toArray}) (C:ê vs ns) (hl:ns.length<=dV) (hr:gK k Vg)
  (F:∀base:K9,K.In base->base.Ns J8 mg->oM P w K mg base CX k fa Y [x] sp) (Pa:∀(s:gj) (u:ez),ç s Y ⟨[u],[]⟩ [(x,u)])
  (Kp:∀H:Hp,DE H->Je K H a (ns.map V.int)->sp [.ref a] H (λv _=>v=.bl b6) λ_ _ _=>False)
  (Sh:∀H e s',CX [] H c (λ_ _ _=>False) e s'->False) :
  T6 (kj P w) Vg (.call (.ref fa) ⟨[.ref a],[]⟩) (λr s'=>r=.ok (.ret (.bool b6))/\OldK c.heap s'.heap/\s'.os=c.os/\Vs s'.gens) c:=by
 have rv:=nh C;have Si:=C.length;have g:∀H:Hp,DE H->Je K H a (ns.map V.int)->JG P w H c.heap->(∀b,H b≠b5->b=a)->(H a≠b5->K.lookup a=b5) ->
   T6 (kj P w) Vg (.call (.ref fa) ⟨[.ref a],[]⟩) (λr s'=>r=.ok (.ret (.bool b6))/\OldK c.heap s'.heap/\s'.os=c.os/\Vs s'.gens) c:=by
  intro H D hS G I hK;have kH:∀{b:i5} {o:Obj},c.heap.get? b=a0 o->H b=b5->(oF c.heap H).get? b=a0 o:=λe n=>xk e n;have O6:∀{b:i5} {o:Obj} {es:Array DictEntry} {ep:Nat},c.heap.get? b=a0 o->o.data=.dict es ep->H b=b5:=λ{b o es ep} e d=>by
   cases q:H b with
   |none=>rfl
   |some u =>
    have t:b=a:=I b (by rw[q];simp);subst t;rw[l]at e;cases e;have d':Data.seq vs.toArray _=Data.dict es ep:=d;cases d'
  have p:∀{b:i5} {m:Str->Option ez},c.heap.Ns b m->(oF c.heap H).Ns b m:=λ{b m} ⟨o,es,ep,e,d,r⟩=>⟨o,es,ep,kH e (O6 e d),d,r⟩
  have J:K.In (oF c.heap H):=λb o e=>kH (y b o e) (by
   cases q:H b with
   |none=>rfl
   |some u =>
    have t:b=a:=I b (by rw[q];simp);subst t;rw[hK (by rw[q];simp)]at e;cases e)
  have hM:Mod K mg (oF c.heap H):=⟨J,p A,⟨B,p f,O⟩,let ⟨mc,h1,h2⟩:=Q;⟨mc,p h1,h2⟩⟩
  have e0:Aw P w K mg (oF c.heap H) Vg [] c H:=⟨rfl,hM,λb o e=>Aj e,ZY (vQ _ _),trivial,λb f=>absurd (show b∈([]:List i5) from f) (by simp),G,.of_eq T⟩
  show Vf ((F _ J (p A)).run Vg [] c H ⟨[.ref a],[]⟩ [.ref a] [.ref a] _ _ hr e0 (Pa c (.ref a)) (.cons rfl .nil) (Kp H D hS)) λr s' h=>?_;cases r with
  |error e=>show(Sh H e s' h).elim
  |ok fl =>
   cases fl with
   |ret u =>
    have⟨v,H',os,i,L,Sj,r',q⟩:=h;have q':v=.bl b6:=q;subst q';obtain rfl:u=N4 b6:=r';show⟨rfl,OldK.of_keep λb o e=>?_,os,i⟩;cases q:H b with
    |none=>show L.keep b o e q (by intro z;show absurd (show b∈([]:List i5) from z) (by simp)) (by simp)
    |some u =>
     rcases D b with z|⟨ob,xs,z⟩
     .rw[q]at z;cases z
     .have z2:=L.J5 b ob _ z;obtain⟨N,_⟩:=G b _ z;obtain⟨e2,_⟩:=Sj b _ z2;rw[e]at N;cases N;show e2
   |_=>show Pt h
 cases hk:K.lookup a with
 |some o =>
  have e:=y a o hk;rw[l]at e;cases e;show g (λ_=>b5) (λ_=>.inl rfl) (.inr ⟨_,vs.toArray,_,hk,rfl,rfl,rfl,by rw[ki,Si];show hl,by simpa using rv⟩) (λb u z=>by have j:(b5:Option HO)=a0 u:=z;cases j) (λb z=>absurd rfl z) λz=>absurd rfl z
 |none =>
  show g (λb=>if b=a then a0 (.Jw {cls:=.type "list",data:=.seq vs.toArray} (.lst (ns.map V.int))) else b5) (λb=>?_) (.inl (.inr ⟨{cls:=.type "list",data:=.seq vs.toArray},Ř rfl⟩)) (λb u z=>?_) (λb z=>?_) λ_=>hk
  .by_cases f:b=a
   .show .inr ⟨_,_,Ř f⟩
   .show .inl (Ś f)
  .by_cases f:b=a
   .have j:=(Ř f).symm.trans z;cases j;subst f;show⟨l,by rw[df];show hl,vs,_,rv,l⟩
   .have j:=(Ś f).symm.trans z;cases j
  .by_cases f:b=a
   .show f
   .show absurd (Ś f) z
def AH{l:PySem.W.OpenLaw}{K:ä->PySem.W.Frag}{CX:Km->Ov}{sp:Km->Sp}
  (r:l.most=a0 n) (t:n<=dV) (y:d.params.defaults=[]) (hr:gK k Vg)
  (z:∀(w:Km) (h:K9),A w h->(K w.params).In h)
  (F:∀(w:Km) (mg:Str->Option ez) (fa:i5) (h:K9),(K w.params).In h->h.Ns J8 mg->mg d.name=a0 (.ref fa) ->
   ∃j:US,(∀(s:gj) (u:ez),ç s j ⟨[u],[]⟩ [(x,u)]) /\
    ∀base:K9,(K w.params).In base->base.Ns J8 mg->oM l.prog w (K w.params) mg base (CX w) k fa j [x] (sp w))
  (B:∀(w:Km) (H:Hp) (a:i5) (ns:List Int),ns.length<=n->DE H->Je (K w.params) H a (ns.map V.int)->sp w [.ref a] H (λv _=>v=.bl b6) λ_ _ _=>False)
  (C:∀(w:Km) (H:Hp) (s:gj) (e:ez) (s':gj),CX w [] H s (λ_ _ _=>False) e s'->False) :
  PySem.W.WalkO q m XP A l.row.toRowW d [] (λf vs=>PySem.call f vs):=by
 show U0.qw r y λw s₀ D mg mb fa o pm cd I a vs ns G Y ho hd Jk J L i c N=>?_;have p:=z w _ Y;have⟨j,O,Q⟩:=F w mg fa _ p G.T.g J;show xJ p G.T.g G.T.b G.T.builtins G.T.nolimit N L i (td c t) hr Q O (λH hO hS=>B w H a ns c hO hS) λH e s'=>C w H D e s'
abbrev gr(s:Pc):Arguments:=match s with
 |.FunctionDef _ a _ _ _ _ _ _ _ _=>a
 |_=>{posonlyargs:=[],args:=[],vararg:=b5,kwonlyargs:=[],kw_defaults:=[],kwarg:=b5,defaults:=[]}
abbrev dy(s:Pc):List Pc:=match s with
 |.FunctionDef _ _ b _ _ _ _ _ _ _=>b
 |_=>[]
abbrev bf(s:Pc):NZ:=match s with
 |.FunctionDef _ _ _ _ _ _ a _ _ _=>a
 |_=>{kind:=.function,names:=[],isGenerator:=cb,isCoroutine:=cb}
@[reducible]def MJ:Ov:=λ_ _ _ _ _ _=>False
@[reducible]def E0:XK:=λ_ _ _=>False
def Cw:Passes MJ X E0:=λ_ _ _ _ _ _ _ h=>h.elim
structure NH(K:PySem.W.Frag)(x qual:Str)(st:Pc)(f:i5)(fd:US):Prop where
 ex:∃(oc:ez) (od:Option i5) (kV doc pm:ez) (an:Option i5) (JT ct:ez) (O7:Array (Option ez)),
  fd=PySem.W.fnOf x qual (gr st) (dy st) (bf st) .none kV doc pm an JT ct/\K.lookup f=a0 ⟨oc,od,.func fd,O7⟩/\PySem.W.codeIn K JT qual=b6
 kp:PySem.W.keepIn K (.ref f)=b6
section
variable{P:HP}{w:Km}{K:PySem.W.Frag}{mg:Str->Option ez}{base:K9}
def NH.ok{st:Pc}(F:NH K x a st f d)(S:fk N ps (bf st))(c:∀vs H Q E,sp vs H Q E->vs.length=ps.length)
  (e:∀(b:ez) (A:NU) (outer:List Env) (s:gj) (H:Hp) (vs:List V) (Q:VK) (E:XK),gK k (A.deeper (Wd a (bf st) s.heap.objs.size f b))->sp vs H Q E ->
   ∃t,JK (sm MJ P w K mg base N a (bf st) f b A outer s H E).OZ (dy st) t/\t {nx:=λ_ H'=>Q .Iy H',rt:=Q} (start N vs) H):oM P w K mg base MJ (k+1) f d ps sp:=by
 have⟨l,m,kV,g,n,o,b,ct,p,rfl,lk,i⟩:=F.ex;show FQ lk i S c λA outer s H vs Q E hr j=>?_;have⟨t,h,q⟩:=e b A outer s H vs Q E hr j;show⟨t,h.OZ,q⟩
def DF{st:Pc}{kV b e d ct:ez}(l:K.lookup f=a0 ⟨h,i,.func (PySem.W.fnOf x a (gr st) (dy st) (bf st) .none kV b e g d ct),j⟩)
  (c:PySem.W.codeIn K d a=b6) (k:PySem.W.keepIn K (.ref f)=b6):NH K x a st f (PySem.W.fnOf x a (gr st) (dy st) (bf st) .none kV b e g d ct):=⟨⟨h,i,kV,b,e,g,d,ct,j,rfl,l,c⟩,k⟩
end
def vY(h:n<=1000):n<dV:=Wf h (by decide)
section
end
abbrev DG(H H':Hp):Prop:=∀b o,H b=a0 o->H' b=a0 o
section
variable{κ:Type}[DecidableEq κ]
abbrev dG(kvs:List (κ×V))(k:κ):Option V:=(kvs.find? λkv=>cK (kv.1=k)).map (·.2)
abbrev putK(kvs:List (κ×V))(k:κ)(v:V):List (κ×V) :=
 if (kvs.any λkv=>cK (kv.1=k))=b6 then kvs.map (λkv=>if kv.1=k then(kv.1,v) else kv) else kvs++[(k,v)]
def eM{p:κ×V}{k:κ}(e:p.1=k):dG (p::r) k=a0 p.2:=by simp[dG,OQ,e]
def eN{p:κ×V}{k:κ}(e:¬p.1=k):dG (p::r) k=dG r k:=by simp[dG,OQ,e]
theorem iG(k:κ):∀kvs:List (κ×V),(kvs.any λkv=>cK (kv.1=k))=(dG kvs k).isSome
 |[]=>rfl
 |p::r=>by
  rw[VL];by_cases e:p.1=k
  .simp only[eM e,ś e,Bool.true_or,Z7]
  .rw[eN e,ř e,Bool.false_or];show iG k r
def jL(kvs:List (κ×V))(k:κ)(v:V):(putK kvs k v).length<=kvs.length+1:=by
 unfold putK;split
 .rw[df];lia
 .rw[i4,mh,Xr];lia
def xK{k:κ}(v:V)(h:dG kvs k=b5):putK kvs k v=kvs++[(k,v)]:=by
 unfold putK;rw[iG,h];show Ś (by decide)
def j7.eO(r:j7 o u):o.isSome=u.isSome:=by
 cases o with
 |none=>cases u with
  |none=>rfl
  |some _=>show(show False from r).elim
 |some _=>cases u with
  |none=>show(show False from r).elim
  |some _=>rfl
def j7.getD(r:j7 o u)(a:RelV d d'):RelV (o.getD d) (u.getD d'):=by
 cases o with
 |none=>cases u with
  |none=>show a
  |some _=>show(show False from r).elim
 |some _=>cases u with
  |none=>show(show False from r).elim
  |some _=>show r
def KV.val(r:KV kvs vs)(k:κ):j7 (dG kvs k) (XR vs k):=by
 unfold KV at r;induction r with
 |nil=>show VW
 |@cons p q ps a h t f =>
  have⟨d,g⟩:=h;by_cases e:p.1=k
  .have c:q.1=k:=d.symm.trans e;have b:XR (q::a) k=a0 q.2:=by simp[XR,OQ,c]
   rw[eM e,b];show g
  .have c:¬q.1=k:=λz=>e (d.trans z);have b:XR (q::a) k=XR a k:=by simp[XR,OQ,c]
   rw[eN e,b];show f
def KV.any(r:KV kvs vs)(k:κ):(kvs.any λkv=>cK (kv.1=k))=vs.any λkv=>cK (kv.1=k):=by
 unfold KV at r;induction r with
 |nil=>rfl
 |cons h t a=>rw[VL,VL,a,h.1]
def KV.DH(r:KV kvs vs)(k:κ)(b:RelV y u):
  KV (kvs.map λkv=>if kv.1=k then(kv.1,y) else kv) (vs.map λkv=>if kv.1=k then(kv.1,u) else kv):=by
 unfold KV at r ⊢;induction r with
 |nil=>show .nil
 |@cons p q ps f h t c =>
  rw[gi,gi];show .cons ?_ c;have⟨a,d⟩:=h;by_cases e:p.1=k
  .rw[Ř e,Ř (a.symm.trans e)];show⟨a,b⟩
  .rw[Ś e,Ś (λz=>e (a.trans z))];show⟨a,d⟩
def KV.put(r:KV kvs vs)(k:κ)(a:RelV y u):KV (putK kvs k y) (stored vs k u):=by
 unfold putK stored;rw[r.any k];by_cases e:(vs.any λkv=>cK (kv.1=k))=b6
 .rw[Ř e,Ř e];show r.DH k a
 .rw[Ś e,Ś e];show Paired.snoc r ⟨rfl,a⟩
def KV.length(r:KV kvs vs):kvs.length=vs.length:=Paired.length r
end
def ni(r:RelV (kV k) u):(aZ P w).is k u=b6:=by
 cases k with
 |inl i=>have⟨t,e⟩:=(show ∃t,u=á i t from r);subst e;show qq P w i t
 |inr x=>have⟨t,e⟩:=(show ∃t,u=tr x t from r);subst e;show qr P w x t
theorem nj:∀{ks:List Key}{us:List ez},Vals (ks.map kV) us->ItemsAre (aZ P w) ks us
 |[],_,r=>by rw[MT]at r;cases r;show .nil
 |k::ks,_,r=>by
  rw[gi]at r;cases r with
  |cons h t=>show .cons (ni h) (nj t)
@[reducible]def KT(H:Hp):List (List Key×V)->List (List Key×i5×ez)->Prop:=Paired λp q=>p.1=q.1/\H q.2.1=a0 (.tup (p.1.map kV))/\RelV p.2 q.2.2
def KT.val(r:KT H kvs xs)(k:List Key):j7 (dG kvs k) ((Wa xs k).map (·.2)):=by
 induction r with
 |nil=>show VW
 |@cons p q ps a h t f =>
  obtain⟨d,_,g⟩:=h;by_cases e:p.1=k
  .have c:q.1=k:=d.symm.trans e;have b:Wa (q::a) k=a0 q.2:=by simp[Wa,OQ,c]
   rw[eM e,b];show g
  .have c:¬q.1=k:=λz=>e (d.trans z);have b:Wa (q::a) k=Wa a k:=by simp[Wa,OQ,c]
   rw[eN e,b];show f
def KT.DH(r:KT H kvs xs)(k:List Key)(c:RelV y u):
  KT H (kvs.map λkv=>if kv.1=k then(kv.1,y) else kv) (xs.map (putAt k u)):=by
 induction r with
 |nil=>show .nil
 |@cons p q ps g h t d =>
  rw[gi,gi];show .cons ?_ d;have⟨a,b,f⟩:=h;unfold putAt;by_cases e:p.1=k
  .rw[Ř e,Ř (a.symm.trans e)];show⟨a,b,c⟩
  .rw[Ś e,Ś (λz=>e (a.trans z))];show⟨a,b,f⟩
def KT.put(r:KT H kvs xs)(k:List Key)(c:H b=a0 (.tup (k.map kV)))(a:RelV y u):
  KT H (putK kvs k y) (storedH xs k b u):=by
 have e:(kvs.any λkv=>cK (kv.1=k))=(Wa xs k).isSome:=by
  rw[iG,(r.val k).eO,SA]
 unfold putK storedH;rw[e];by_cases q:(Wa xs k).isSome=b6
 .rw[Ř q,Ř q];show r.DH k a
 .rw[Ś q,Ś q];show Paired.snoc r ⟨rfl,c,a⟩
def KT.keeps(r:KT H kvs xs)(a:∀b ys,H b=a0 (.tup ys)->H' b=a0 (.tup ys)):KT H' kvs xs :=
 Paired.Dd r λ_ _ z=>⟨z.1,a _ _ z.2.1,z.2.2⟩
section
def Cy(b:JG P w H h)(e:Rd H a u):bL P w H h a u:=e.ok b
def lb(b:JG P w H h)(e:Rd H a (.dK kvs)):kvs.length<=dV/\(a==K1)=cb/\∃vs,KV kvs vs/\h.DictOf (aZ P w) a vs :=
 show bL P w H h a (.dK kvs) from Cy b e
def xM(b:JG P w H h)(e:H a=a0 (.dK kvs)):kvs.length<=dV/\(a==K1)=cb/\∃vs,KV kvs vs/\h.DictOf (aZ P w) a vs:=lb b (.inl e)
def jo(b:JG P w H h)(e:H a=a0 (.tup (ks.map kV))):(Wl (aZ P w)).is h ks a:=by
 obtain⟨_,c,r,o,d,f,n,g⟩:=(show bL P w H h a (.tup (ks.map kV)) from b a _ e)
 show⟨o,c.toArray,n,d,f,g,by simpa using nj r⟩
def lh(b:JG P w H h)(e:Rd H a (.dT kvs)):kvs.length<=dV/\(a==K1)=cb /\
  ∃xs,KT H kvs xs/\h.DictOfH (Wl (aZ P w)) a xs:=by
 have⟨z,y,xs,r,o,es,ep,d,f,g,i,j⟩:=(show bL P w H h a (.dT kvs) from Cy b e)
 show⟨z,y,xs,r,o,es,ep,d,f,g,i,λx hx=>?_,j⟩;have all:∀{l:List (List Key×V)} {m:List (List Key×i5×ez)},KT H l m->∀x∈m,(Wl (aZ P w)).is h x.1 x.2.1:=by
  intro l m q;induction q with
  |nil=>intro x hx;show nomatch hx
  |@cons p q ps n c t k =>
   intro x hx;rcases ke.mp hx with e|hx
   .subst e;show jo b (by rw[<-c.1];show c.2.1)
   .show k x hx
 show all r x hx
def FY(b:JG P w H h)(e:H a=a0 (.dT kvs)):kvs.length<=dV/\(a==K1)=cb /\
  ∃xs,KT H kvs xs/\h.DictOfH (Wl (aZ P w)) a xs:=lh b (.inl e)
end
abbrev eI(H:Hp)(a:i5)(y:V)(r:Option V):Prop :=
 (∃kvs k,Rd H a (.dK kvs)/\y=kV k/\r=dG kvs k)\/∃kvs k b,Rd H a (.dT kvs)/\y=.ref b/\H b=a0 (.tup (k.map kV))/\r=dG kvs k
abbrev vZ(H:Hp)(a:i5)(y v:V)(H':Hp):Prop :=
 (∃kvs k,H a=a0 (.dK kvs)/\y=kV k/\kvs.length<dV/\H'=upd H a (.dK (putK kvs k v))) \/
 ∃kvs k b,H a=a0 (.dT kvs)/\y=.ref b/\H b=a0 (.tup (k.map kV))/\kvs.length<dV/\H'=upd H a (.dT (putK kvs k v))
def eI.k{H:Hp}{a:i5}{kvs:List (Key×V)}{k:Key}(e:H a=a0 (.dK kvs)):eI H a (kV k) (dG kvs k):=.inl ⟨kvs,k,.inl e,rfl,rfl⟩
def vZ.k{H:Hp}{a:i5}{kvs:List (Key×V)}{k:Key}{v:V}(e:H a=a0 (.dK kvs))(hl:kvs.length<dV):vZ H a (kV k) v (upd H a (.dK (putK kvs k v))):=.inl ⟨kvs,k,e,rfl,hl,rfl⟩
section
def Inv.big(I:Inv X a σ H s):K1<s.heap.objs.size:=by
 have h:J8<s.heap.objs.size:=(I.mod.glob.keeps I.bk).lt;show T' (by decide) h
def v3(q:A.units+1<Ki)(I:Inv X f σ H s)(g:eI H a y (a0 v))(n:RelV y u)(h:∀d s',Inv X f σ H s'->RelV v d->Q d s'):
  eH (kj X.prog X.w) A (Tj (.ref a) u) Q E s:=by
 rcases g with⟨kvs,k,e,i,l⟩|⟨kvs,k,b,e,i,r,l⟩
 .subst i;have⟨z,t,vs,c,dd⟩:=lb I.Ir e;have⟨d,j,m⟩:=j7.some_of (v:=v) (o:=XR vs k) (by rw[l];show c.val k);show wpAny_getItem_of (ni n) dd.mapOf j (h d _ (I.tok _) m)
 .subst i;cases(show u=mA b from n);have⟨z,t,xs,c,dd⟩:=lh I.Ir e;have⟨d,j,m⟩:=j7.some_of (v:=v) (o:=(Wa xs k).map (·.2)) (by rw[l];show c.val k);have⟨p,x,B⟩:=hZ.mp j;show wpAny_getItem_heap (Q1 q) (jo I.Ir r) dd x ?_;rw[B];show h d _ (I.tok _) m
def FZ(m:A.units+1<Ki)(I:Inv X d σ H s)(g:eI H a y o)(j:RelV y u)(h:∀s',Inv X d σ H s'->Q (.bool o.isSome) s'):
  eH (kj X.prog X.w) A (MO .In u (.ref a)) Q E s:=by
 rcases g with⟨kvs,k,e,f,l⟩|⟨kvs,k,b,e,f,n,l⟩
 .subst f;have⟨z,i,vs,c,dd⟩:=lb I.Ir e;show wpAny_in_of (ni j) i dd.mapOf ?_;rw[<-(c.val k).eO,<-l];show h _ (I.tok _)
 .subst f;cases(show u=mA b from j);have⟨z,i,xs,c,dd⟩:=lh I.Ir e;show wpAny_in_heap (Q1 m) (jo I.Ir n) i dd ?_;have q:=(c.val k).eO;rw[SA]at q;rw[<-q,<-l];show h _ (I.tok _)
def uf(m:A.units+1<Ki)(I:Inv X d σ H s)(g:eI H a y o)(j:RelV y u)(h:∀s',Inv X d σ H s'->Q (.bool (!o.isSome)) s'):
  eH (kj X.prog X.w) A (MO .NotIn u (.ref a)) Q E s:=by
 rcases g with⟨kvs,k,e,f,l⟩|⟨kvs,k,b,e,f,n,l⟩
 .subst f;have⟨z,i,vs,c,dd⟩:=lb I.Ir e;show wpAny_notIn_of (ni j) i dd.mapOf ?_;rw[<-(c.val k).eO,<-l];show h _ (I.tok _)
 .subst f;cases(show u=mA b from j);have⟨z,i,xs,c,dd⟩:=lh I.Ir e;show ļ (Q1 m) (jo I.Ir n) i dd ?_;have q:=(c.val k).eO;rw[SA]at q;rw[<-q,<-l];show h _ (I.tok _)
def ug(I:Inv X c σ H s)(f:OU (H a))(hs:ri a s.heap h')(g:∃q,h'.get? a=a0 q)(new:bL X.prog X.w (upd H a d) h' a d):
  Inv X c σ (upd H a d) {s with heap:=h',toks:=t' } :=
 I.write (x:=a) (e:=a) f (.inl rfl) (λb q h z=>(hs.2 b h).trans z) g new
def DI(z:kvs.length<=dV)(c:(a==K1)=cb)(b:KV kvs vs)(dd:h'.DictOf (aZ P w) a vs):
  bL P w H' h' a (.dK kvs):=⟨z,c,vs,b,dd⟩
def v5(B:A.units+1<Ki)(I:Inv X f σ H s)(g:vZ H a y v H')(p:RelV y u)(rv:RelV v r)(h:∀s',Inv X f σ H' s'->Q () s'):
  eH (kj X.prog X.w) A (Vd (.ref a) u r) Q E s:=by
 rcases g with⟨kvs,k,e,m,l,n⟩|⟨kvs,k,b,e,m,t,l,n⟩
 .subst m n;have⟨z,o,vs,d,dd⟩:=xM I.Ir e;have hz:vs.length<=dV:=by rw[<-d.length];show z
  have hl:(putK kvs k v).length<=dV:=by have:=jL kvs k v;lia
  show wpAny_setItem_pairs (hsz:=hz) (ni p) dd λh' i hs=>h _ ?_;have C:∃q,h'.get? a=a0 q:=let ⟨q,_,_,j,_⟩:=i;⟨q,j⟩;show ug I (by rw[e];show VW) hs C (DI hl o (d.put k rv) i)
 .subst m n;cases(show u=mA b from p);have⟨z,o,xs,d,dd⟩:=FY I.Ir e;have hz:xs.length<=dV:=by rw[<-Paired.length d];show z
  have hl:(putK kvs k v).length<=dV:=by have:=jL kvs k v;lia
  show đ (hsz:=hz) (Q1 B) (jo I.Ir t) dd λh' i hs=>h _ ?_;obtain⟨q,es,ep,j,D,G,J,_,L⟩:=i;show ug I (by rw[e];show VW) hs ⟨q,j⟩ ⟨hl,o,_,(d.put k t rv).keeps λc ys x=>?_,q,es,ep,j,D,G,J,L⟩;rw[aw (xj x e (λz=>nomatch z))];show x
end
section
end
abbrev DJ(i:p8):Prop:=∀a b,Y8 i cb a b=operate [a,b] (Tj a b)
def AI{T id:String}
  (hl:ĕ (.type T) "__getitem__"=pure (a0 (.builtin id))) (hs:DJ a)
  (h:eH (kj prog w) A (KH b env) (λo f=>eH (kj prog w) A (KH a env) (λi d=>d.TypeIs o T/\eH (kj prog w) A (Tj o i) Q E d) E f) E s) :
  eH (kj prog w) A (KH (.Subscript b a pos) env) Q E s:=by
 show Ĝ (w6 h (λo f k=>w6 k (λi d e=>?_) λ_ _ x=>x) λ_ _ x=>x);have⟨g,e⟩:=e;unfold WY;show bD ?_;rw[getitemInPython_of_ne g.not_modules];show bD (QG g hl ?_);have c:eH (kj prog w) A (Y8 a cb o i) (λr j=>eH (kj prog w) A (letTemporaryGo b o r >>= λ_=>pure r) Q E j) E d:=by
  rw[hs o i];show wpAny_operating (w6 e (λr j l=>bD (wpAny_letTemporaryGo (cL l))) λ_ _ x=>x)
 first
  |show cL (bD c)
  |show bD (cL (bD c))
  |show bD c
def qx(I:Inv X c σ H s)(g:eI H a y o):s.TypeIs (.ref a) "dict":=by
 rcases g with⟨kvs,k,e,_,_⟩|⟨kvs,k,b,e,_,_,_⟩
 .obtain⟨_,_,vs,_,dd⟩:=lb I.Ir e;show dd.typeIs
 .obtain⟨_,_,xs,_,dd⟩:=lh I.Ir e;show dd.typeIs
abbrev F0(c d:TE):TE:=λσ H Q=>c σ H λx e=>d σ e λy b=>∃a v,x=.ref a/\eI b a y (a0 v)/\Q v b
abbrev HL(c d:TE):TE:=λσ H Q=>c σ H λy e=>d σ e λx b=>∃a o,x=.ref a/\eI b a y o/\Q (.bl o.isSome) b
abbrev AJ(c d:TE):TE:=λσ H Q=>c σ H λy e=>d σ e λx b=>∃a o,x=.ref a/\eI b a y o/\Q (.bl (!o.isSome)) b
section
def AK(d:X.A.units+1<Ki)(ho:PE X o e)(f:PE X i j)(hs:DJ i):PE X (.Subscript o i pos) (F0 e j):=by
 intro b s σ H Q I h;show AI PySem.F.slot_dict_getitem.lookup hs (Iw (ho b s σ H _ I h) λu s1 ⟨x,k,l,m,n⟩=>Iw (f b s1 σ k _ l n) λB s2 p=>?_);have⟨y,q,c,r,a,v,ex,g,t⟩:=p;subst ex;obtain rfl:u=mA a:=m;show⟨qx c g,v3 d c g r λC s3 w z=>⟨v,q,w,z,t⟩⟩
def xN(c:X.A.units+1<Ki)(d:PE X i e)(ho:PE X o f):PC X .In i o (HL e f):=by
 intro b s σ H Q I h;show Iw (d b s σ H _ I h) λz s1 ⟨y,j,k,l,m⟩=>Iw (ho b s1 σ j _ k m) λu s2 n=>?_;have⟨x,p,q,r,a,t,ex,g,v⟩:=n;subst ex;obtain rfl:u=mA a:=r;show FZ c q g l λs3 w=>⟨.bl t.isSome,p,w,rfl,v⟩
def nq(c:X.A.units+1<Ki)(d:PE X i e)(ho:PE X o f):PC X .NotIn i o (AJ e f):=by
 intro b s σ H Q I h;show Iw (d b s σ H _ I h) λz s1 ⟨y,j,k,l,m⟩=>Iw (ho b s1 σ j _ k m) λu s2 n=>?_;have⟨x,p,q,r,a,t,ex,g,v⟩:=n;subst ex;obtain rfl:u=mA a:=r;show uf c q g l λs3 w=>⟨.bl (!t.isSome),p,w,rfl,v⟩
end
def xO(h:K9)(a:K1<h.objs.size):bL P w H (h.push {cls:=.type "dict",data:=.dict #[]}) h.objs.size (.dK []) :=
 ⟨mu _,Ş.mpr (vu (k7 a)),[],.nil,ő h⟩
abbrev DK:TE:=λ_ H Q=>∀p,H p=b5->Q (.ref p) (upd H p (.dK []))
section
def qy:PE X (.Dict [] [] pos) DK:=λb s σ H Q I h =>
 Ĵ ⟨.ref s.heap.objs.size,_,I.laid (a:=s.heap.objs.size) (o:=.dK []) (t':=s.toks) (λ_ _ q=>dt _ q) (lg _) (xO s.heap I.big),rfl,h _ (I.Ir.fresh (lg _))⟩
end
structure M2(X:Cx)(o:p8)(m:Str)(apos:Pos)(e f:p8)(Ij:Pos):Prop where
 base:WV o m X.env (KH o X.env)=KH o X.env
 Lj:((Ll Ij (mx [e,f] X.env)).all (λx=>!x.1)&&(Sg Ij (OR [] X.env)).all (λx=>x.1.isSome)
  && cK (([e,f]:List p8).length+([]:List QP).length+(if ([]:List QP).isEmpty then 0 else 1)<30))=b6
 line:(apos.endLine==Ij.line)=b6
 trees:Ll Ij (mx [e,f] X.env)=[(cb,KH e X.env),(cb,KH f X.env)]
abbrev U3(H:Hp)(a:i5):Prop:=(∃kvs,Rd H a (.dK kvs))\/∃kvs,Rd H a (.dT kvs)
def DL(I:Inv X i σ H s)(d:U3 H a):
  s.TypeIs (.ref a) "dict"/\(∀b,mA a=.ref b->∃c,s.heap.get? b=a0 c/\c.dict=b5)/\(a==K1)=cb:=by
 rcases d with⟨kvs,e⟩|⟨kvs,e⟩
 .obtain⟨_,f,vs,_,dd⟩:=lb I.Ir e;show⟨dd.typeIs,λb q=>?_,f⟩;cases q;obtain⟨c,_,_,g,h,_⟩:=dd;show⟨c,g,h.2.1⟩
 .obtain⟨_,f,xs,_,dd⟩:=lh I.Ir e;show⟨dd.typeIs,λb q=>?_,f⟩;cases q;obtain⟨c,_,_,g,h,_⟩:=dd;show⟨c,g,h.2.1⟩
section
def DM(q:A.units+1<Ki)(I:Inv X f σ H s)(g:eI H a y o)(m:RelV y u)(n:RelV d r)(h:∀p s',Inv X f σ H s'->RelV (o.getD d) p->Q p s'):
  eH (kj X.prog X.w) A (Qz (.builtin "dict.get") [.ref a,u,r]) Q E s:=by
 rcases g with⟨kvs,k,e,i,l⟩|⟨kvs,k,b,e,i,t,l⟩
 .subst i;have⟨z,j,vs,c,dd⟩:=lb I.Ir e;show Yf PySem.F.slot_dict_get dd.typeIs PySem.F.entry_dict_get (PySem.F.args_dict_get_3 _ _ _) (meets_dict_get_default (aZ X.prog X.w) a (ni m) j r) ⟨_,dd.mapOf,h _ _ (I.tok _) ?_⟩;rw[l];show(c.val k).getD n
 .subst i;cases(show u=mA b from m);have⟨z,j,xs,c,dd⟩:=lh I.Ir e;show Yf PySem.F.slot_dict_get dd.typeIs PySem.F.entry_dict_get (PySem.F.args_dict_get_3 _ _ _) (meetsH_dict_get_default (Wl (aZ X.prog X.w)) a b j r) ⟨Q1 q,k,xs,jo I.Ir t,dd,h _ _ (I.tok _) ?_⟩;rw[l];show(c.val k).getD n
end
abbrev DN(d e f:TE):TE:=λσ H Q=>d σ H λx b=>∃a,x=.ref a/\U3 b a/\e σ b λy g=>f σ g λz c=>∃o,eI c a y o/\Q (o.getD z) c
section
def xP(j:X.A.units+1<Ki)(ho:PE X o k)(l:PE X e n)(p:PE X f q)(m:M2 X o "get" c e f r):PE X (.Call (.Attribute o "get" c) [e,f] [] r) (DN k n q):=by
 intro b s σ H Q I h;show wpAny_Call_method m.base m.Lj m.line PySem.F.plainAttrs_dict PySem.F.slot_dict_get PySem.F.type_dict_get (Iw (ho b s σ H _ I h) λu s1 t=>?_);have⟨x,v,i,w,a,ex,d,B⟩:=t;subst ex;obtain rfl:u=mA a:=w;obtain⟨C,D,_⟩:=DL i d;show⟨C,D,?_⟩;rw[m.trees];show Mx rfl (Ph (Qj (Iw (l b s1 σ v _ i B) λiv s2 ⟨y,G,J,L,N⟩ =>
  Qj (Iw (p b s2 σ G _ J N) λfv s3 ⟨z,O,T,Y,ov,g,q3⟩=>SX ?_))))
 show DM j T g L Y λw' s4 I4 Li=>⟨_,O,I4,Li,q3⟩
end
section
end
section
end
end L2
namespace IM
open PySem PySem.Builtin.Str PySem.StrLaws
abbrev low(c:Nat):Bool:=cK (97<=c)&&cK (c<=122)
abbrev fG(l:List Nat):Bool:=cK (1<=l.length)&&cK (l.length<=8)&&l.all low
def de(l:List Nat):fG l=b6↔1<=l.length/\l.length<=8/\∀c∈l,97<=c/\c<=122:=by
 simp[fG,low,tA,and_assoc]
def qz(h:fG l=b6):47∉l:=λm=>by
 have:=((de l).mp h).2.2 47 m;lia
def AL{x y:Str}(h:x.cps.toList=y.cps.toList):x=y:=by
 cases x;cases y;congr
 show ì.mp h
def oV(x:Str)(c i:Nat):At x ⟨#[c]⟩ x.length i↔x.cps.toList[i]?=a0 c:=subAt_one x c i
def DO(h:x.cps.toList=a++c::b)(j:c∉a)(d:Nat)(hl:1<=d):∃r,Oj x ⟨#[c]⟩ 0 x.length d=a.length::r:=by
 have f:x.cps.toList[a.length]?=a0 c:=by rw[h];simp
 rcases occ_head x ⟨#[c]⟩ d hl with⟨_,k⟩|⟨i,r,e,l,m⟩
 .show absurd ((oV x c a.length).mpr f) (k _)
 .have g:=(oV x c i).mp l;have:i=a.length:=by
   rcases Nat.lt_trichotomy i a.length with z|z|z
   .exfalso
    rw[h,G' z]at g;show j (qs g)
   .show z
   .show absurd ((oV x c a.length).mpr f) (m _ z)
  subst this;show⟨r,e⟩
def sA(h:c∉x.cps.toList):Qx x ⟨#[c]⟩=[x]:=by
 unfold Qx;split
 .rfl
 .rw[Ř];rcases occ_head x ⟨#[c]⟩ (x.length+1) ⋯ with⟨e,_⟩|⟨i,r,e,a,_⟩
  .rw[e];rfl
  .show absurd (qs ((oV x c i).mp a)) h
def qA(c:Nat)(h:c<256)(x:Str):¬(PySem.Builtin.Str.strKind x<PySem.Builtin.Str.strKind ⟨#[c]⟩):=by
 have e:PySem.Builtin.Str.strKind ⟨#[c]⟩=1:=by simp[PySem.Builtin.Str.strKind,h]
 rw[e];unfold PySem.Builtin.Str.strKind;split
 .lia
 .split<;>lia
def xQ(h:x.cps.toList=a++c::b)(d:c∉a)(f:c<256):∃r,Qx x ⟨#[c]⟩=⟨a.toArray⟩::r:=by
 have⟨r,e⟩:=DO h d (x.length+1) ⋯;have g:(⟨#[c]⟩:Str).length=1:=rfl;have k:x.length=a.length+1+b.length:=by
  have:=ŝ G2 h;simp[Y1]at this ⊢;lia
 unfold Qx;rw[Ś (by
  have i:¬(x.length<(⟨#[c]⟩:Str).length):=by rw[g];lia
  have j:=qA c f x;simp[i,j]),Ś (by rw[e];simp),partsBetween_eq,e]
 show⟨_,ŝ (·::_) ?_⟩;apply AL;rw[strSub_toList,h];simp
abbrev v7(i:Int):Str:=Og (Uu i)
abbrev Cz:Str:=⟨#[47]⟩
end IM
namespace L2
open PySem PySem.Spec PyProof.Rows
abbrev bO(env:Env):List (Str×MZ)->List (Str×i5)->List (Str×i5)
 |[],cs=>cs
 |(n,k)::r,cs=>bO env r (if k==.free then(match env.cells.lookup n with|some a=>(n,a)::cs|none=>cs) else cs)
def eQ(h:∀y∈scope.names,y.2=.free->∃a,env.cells.lookup y.1=a0 a):closureFor scope env=pure (bO env scope.names []):=by
 unfold closureFor;generalize scope.names=names at h
 suffices H:∀cs,(ĉ names cs (λ(x:Str×MZ) (r:List (Str×i5))=>if (x.2==Mn)=b6 then do let a <-cellOf env x.1;pure (PM ((x.1,a)::r)) else pure (PM r)):Sem (List (Str×i5)))=pure (bO env names cs) by
  have:=H [];show ŝ (λ(m:Sem (List (Str×i5)))=>m >>= pure) this
 induction names with
 |nil=>intro cs;rfl
 |cons y r c =>
  intro cs;have⟨n,k⟩:=y;rw[RT];have b:=c λy d=>h y (oW _ d);by_cases hk:(k==Mn)=b6
  .have⟨a,e⟩:=h (n,k) oT (by simpa using hk);have f:env.cells.lookup n=a0 a:=e;simp only[hk,Š,cellOf,f,bO];show b _
  .simp only[hk,ş,bO];show b _
theorem fm:∀(names:List (Str×MZ)) (cs:List (Str×i5)),(∀n c,cs.lookup n=a0 c->env.cells.lookup n=a0 c)->∀n c,(bO env names cs).lookup n=a0 c->env.cells.lookup n=a0 c
 |[],_,h=>h
 |(m,k)::r,cs,h=>by
  unfold bO;show fm r _ λn c e=>?_;by_cases hk:(k==Mn)=b6
  .rw[Ř hk]at e;cases q:env.cells.lookup m with
   |none=>rw[q]at e;show h n c e
   |some a =>
    rw[q]at e;simp only[p7]at e;cases b:n==m with
    |true =>
     rw[b]at e;have d:n=m:=by simpa using b
     subst d;simp only at e;rw[q];show e
    |false=>rw[b]at e;show h n c e
  .rw[Ś hk]at e;show h n c e
theorem jM(c:env.cells.lookup n=a0 a):∀(names:List (Str×MZ)) (cs:List (Str×i5)),cs.lookup n=a0 a->(bO env names cs).lookup n=a0 a
 |[],_,h=>h
 |(m,k)::r,cs,h=>by
  unfold bO;show jM c r _ ?_;by_cases hk:(k==Mn)=b6
  .rw[Ř hk];cases q:env.cells.lookup m with
   |none=>show h
   |some b =>
    simp only[p7];cases d:n==m with
    |true =>
     have e:n=m:=by simpa using d
     subst e;rw[c]at q;cases q;rfl
    |false=>show h
  .rw[Ś hk];show h
theorem hV(b:env.cells.lookup n=a0 a):∀(names:List (Str×MZ)) (cs:List (Str×i5)),(n,Mn)∈names->(bO env names cs).lookup n=a0 a
 |[],_,h=>by cases h
 |(m,k)::r,cs,h=>by
  unfold bO;rcases ke.mp h with e|e
  .cases e;show jM b r _ ?_;rw[Ř (by decide),b];simp[p7]
  .show hV b r _ e
theorem b_{env:Env}:∀{names:List (Str×MZ)}{x:Str}{k:MZ},
  (names.map λ(n,k)=>if (k==Mn&&env.scope.kind==.function&&env.kindOf n==a0 .cell) then(n,Mo) else(n,k)).lookup x=a0 k ->
  names.lookup x=a0 k\/(k=.cell/\names.lookup x=a0 .free)
 |[],_,_,h=>by simp at h
 |(n,e)::r,x,k,h=>by
  have f:=@b_ env r x k;rw[gi]at h;by_cases b:(e==Mn&&env.scope.kind==.function&&env.kindOf n==a0 .cell)=b6
  .simp only[Ř b,p7]at h;cases a:x==n with
   |true =>
    rw[a]at h;have g:e=.free:=by
     have:=(KR.mp (KR.mp b).1).1;simpa using this
    show .inr ⟨by simpa using h.symm,by simp[p7,a,g]⟩
   |false =>
    rw[a]at h;rcases f h with z|⟨c,d⟩
    .show .inl (by simp[p7,a,z])
    .show .inr ⟨c,by simp[p7,a,d]⟩
  .simp only[Ś b,p7]at h;cases a:x==n with
   |true=>rw[a]at h;show .inl (by simpa[p7,a] using h)
   |false =>
    rw[a]at h;rcases f h with z|⟨c,d⟩
    .show .inl (by simp[p7,a,z])
    .show .inr ⟨c,by simp[p7,a,d]⟩
theorem jN:∀(names:List (Str×MZ)) (cs:List (Str×i5)),(bO env names cs).lookup x=a0 c->(x,Mn)∈names\/cs.lookup x=a0 c
 |[],_,h=>.inr h
 |(m,k)::r,cs,h=>by
  unfold bO at h;rcases jN r _ h with z|z
  .show .inl (oW _ z)
  .by_cases hk:(k==Mn)=b6
   .rw[Ř hk]at z;cases q:env.cells.lookup m with
    |none=>rw[q]at z;show .inr z
    |some a =>
     rw[q]at z;simp only[p7]at z;cases b:x==m with
     |true =>
      have d:x=m:=by simpa using b
      have e:k=.free:=by simpa using hk
      subst d e;show .inl oT
     |false=>rw[b]at z;show .inr z
   .rw[Ś hk]at z;show .inr z
theorem iH:∀(names:List (Str×MZ)) (n:Nat) (a:List (Str×i5)),(NB n names a).lookup x=a0 c->((x,Mo)∈names/\@Ĉ Nat _ n c)\/a.lookup x=a0 c
 |[],_,_,h=>.inr h
 |(y,k)::r,n,a,h=>by
  unfold NB at h;by_cases hk:(k==Mo)=b6
  .rw[Ř hk]at h;have f:k=.cell:=by simpa using hk
   subst f;rcases iH r (n+1) _ h with⟨b,d⟩|z
   .show .inl ⟨oW _ b,Nat.le_of_succ_le d⟩
   .simp only[p7]at z;cases e:x==y with
    |true =>
     rw[e]at z;have g:x=y:=by simpa using e
     subst g;cases z;show .inl ⟨oT,lg _⟩
    |false=>rw[e]at z;show .inr z
  .rw[Ś hk]at h;rcases iH r n a h with⟨b,d⟩|z
   .show .inl ⟨oW _ b,d⟩
   .show .inr z
theorem oX:∀(names:List (Str×MZ)) (n:Nat) (a:List (Str×i5)),(x,Mo)∉names->(NB n names a).lookup x=a.lookup x
 |[],_,_,_=>rfl
 |(y,k)::r,n,a,h=>by
  unfold NB;have hr:(x,Mo)∉r:=λz=>h (oW _ z);by_cases hk:(k==Mo)=b6
  .rw[Ř hk,oX r _ _ hr];have b:k=.cell:=by simpa using hk
   subst b;simp only[p7];cases c:x==y with
   |true =>
    have d:x=y:=by simpa using c
    subst d;show absurd oT h
   |false=>rfl
  .rw[Ś hk,oX r _ _ hr]
theorem sC:∀(names:List (Str×MZ)) (n:Nat) (a:List (Str×i5)),(∀(z:Str) (d:i5),a.lookup z=a0 d->@Pr Nat _ d n)->(∀(u v:Str) (d:i5),a.lookup u=a0 d->a.lookup v=a0 d->u=v) ->
  (NB n names a).lookup x=a0 c->(NB n names a).lookup y=a0 c->x=y
 |[],_,_,_,g,b,f=>g x y c b f
 |(h,k)::r,n,a,hl,g,b,f=>by
  unfold NB at b f;by_cases hk:(k==Mo)=b6
  .rw[Ř hk]at b f;have lk:∀(z:Str) (d:i5),List.lookup z ((h,(n:i5))::a)=a0 d->(z=h/\d=n)\/a.lookup z=a0 d:=λz d e=>by
    simp only[p7]at e;cases i:z==h with
    |true=>rw[i]at e;cases e;show .inl ⟨by simpa using i,rfl⟩
    |false=>rw[i]at e;show .inr e
   show sC r (n+1) _ (λz d e=>?_) (λu v d j l=>?_) b f
   .rcases lk z d e with⟨_,q⟩|q
    .rw[q];show T3 _
    .show O9 (hl z d q)
   .rcases lk u d j with⟨m,o⟩|q<;>rcases lk v d l with⟨s,p2⟩|p
    .rw[m,s]
    .rw[o]at p;show absurd (hl v n p) (wk _)
    .rw[p2]at q;show absurd (hl u n q) (wk _)
    .show g u v d q p
  .rw[Ś hk]at b f;show sC r n a hl g b f
theorem oY:∀(names:List (Str×MZ)) (h:K9) (a:List (Str×i5)),(NB h.objs.size names a).lookup x=a0 c->(Tx h names).IsCell c b5\/a.lookup x=a0 c
 |[],_,_,e=>.inr e
 |(y,k)::r,h,a,e=>by
  unfold NB at e;unfold Tx;by_cases hk:(k==Mo)=b6
  .rw[Ř hk]at e ⊢;have hs:h.objs.size+1=(h.push {cls:=.type "cell",data:=.cell b5}).objs.size:=by rw[Pz]
   rw[hs]at e;rcases oY r _ _ e with z|z
   .show .inl z
   .simp only[p7]at z;cases b:x==y with
    |true =>
     rw[b]at z;cases z;show .inl ⟨_,Zf r _ _ _ (fx _ rfl),rfl⟩
    |false=>rw[b]at z;show .inr z
  .rw[Ś hk]at e ⊢;show oY r h a e
abbrev LB(X:Cx)(scope:NZ)(C:i5):List (Str×i5):=NB (C+1) scope.names (bO X.env scope.names [])
abbrev JD(X:Cx)(N:List Str)(scope:NZ)(C:i5)(s:gj)(H:Hp)(ex:List i5):Cx where
 prog:=X.prog
 w:=X.w
 K:=X.K
 mg:=X.mg
 base:=X.base
 A:=X.A
 N:=N
 s₀:=s
 H₀:=H
 env:=X' scope (LB X scope C) C X.env
 outer:=X.stack
 stack:=X.stack
 ex:=ex
 fn:=λx=>cK (scope.names.lookup x=a0 .cell)
 calm:=X.calm
 pn:=[]
 xe:=λ_ _=>False
abbrev eJ(D N:List Str):Prop:=D.length=N.length/\∀(i:Nat) (y:Str),D[i]?=a0 y->N[i]?=a0 y\/y="."\/y=".."
def eJ.refl(N:List Str):eJ N N:=⟨rfl,λ_ _ h=>.inl h⟩
def eJ.set{D N:List Str}(h:eJ D N)(j:Nat){m:Str}(b:m="."\/m=".."):eJ (D.set j m) N:=by
 show⟨by rw[ć];show h.1,λi y e=>?_⟩;by_cases a:j=i
 .subst a;rw[List.getElem?_set,Ř rfl]at e;split at e
  .cases e;show .inr b
  .cases e
 .rw[nH a]at e;show h.2 i y e
structure cU(X:Cx)(N own:List Str)(scope:NZ):Prop where
 kind:scope.kind=.function
 uq:∀y∈scope.names,scope.names.lookup y.1=a0 y.2
 cl:∀y∈scope.names,y.2=.cell->y.1∈own
 nd:N.Nodup
 pre:N.take own.length=own
 loc:∀y∈scope.names,y.2=.local->y.1∈own\/y.1=".0"
 WE:(".0":Str)∉N
 tail:eJ (N.drop own.length) X.N
 free:∀y∈scope.names,y.2=.free->X.env.scope.names.lookup y.1=a0 .cell\/X.env.scope.names.lookup y.1=a0 .free
 dot:∀y∈scope.names,y.1≠"."/\y.1≠".."
def mem_lookup{names:List (Str×MZ)}(h:names.lookup x=a0 k):(x,k)∈names:=PySem.mem_of_lookup h
def cU.names(S:cU X N a scope):∀y∈scope.names,y.2=.local->scope.names.lookup y.1=a0 .local:=λy b e=>e▸S.uq y b
def cU.no(S:cU X N a scope)(h:scope.names.lookup x=a0 .free):(x,Mo)∉scope.names:=λz=>by
 have:=S.uq _ z;rw[h]at this;cases this
def cU.cells(S:cU X N c scope)(b:X.Ok):∀y∈scope.names,y.2=.free->∃a,X.env.cells.lookup y.1=a0 a:=λy d e=>by
 rcases S.free y d e with z|z
 .show b.has y.1 (.inl z)
 .show b.has y.1 (.inr z)
def xR(S:cU X N f scope)(I:Inv X D σ H s)
  (B:s.heap.objs.size<=C) (LC:∀x c,(LB X scope C).lookup x=a0 c->s4.heap.IsCell c b5\/(bO X.env scope.names []).lookup x=a0 c) (LX:s4.os=s.os) (hg:s4.gens=s.gens) (keep:∀b o,s.heap.get? b=a0 o->s4.heap.get? b=a0 o) (ns:∃m,s4.heap.Ns C m)
  (g:∀b∈ex,iC X D H b/\b<s.heap.objs.size):Inv (JD X N scope C s H ex) [] (nz f.length b5++σ) H s4:=by
 have⟨m0,Pb⟩:=ns;have sub:=fm (env:=X.env) scope.names [] (λn c e=>by simp at e);have WG:∀(x:Str) (c:i5),(bO X.env scope.names []).lookup x=a0 c->c<s.heap.objs.size:=λx c e=>by
  obtain⟨v,o,ho,_⟩:=I.cell x c (sub x c e);show f6 ho
 have L:∀(x:Str) (c:i5),(LB X scope C).lookup x=a0 c->C<c\/(bO X.env scope.names []).lookup x=a0 c:=λx c e=>(iH _ _ _ e).imp (λz=>z.2) id;have Y:∀b∈ex,b<C:=λb t=>nc (g b t).2 B;have tl:f.length<=N.length:=by have:=ŝ G2 S.pre;rw[KP]at this;lia
 show⟨⟨I.ok.mod,?_,I.ok.glob,I.ok.blt,B,λx y c w A=>sC _ _ _ (λz d e=>O9 (nc (WG z d e) B)) (λu v d G e2=>I.ok.inj u v d (sub u d G) (sub v d e2)) w A,λx hx=>?_,λx c h e=>?_,I.ok.hd,I.ok.frames,.inl rfl,λb t=>⟨k7 (Y b t),λx c e=>?_⟩,λb o e=>I.bs b o e,?_,λb o e t=>?_,λb t=>?_,I.stack,I.t_⟩,
  LX,(by rw[hg];show I.bare),Un.kept keep,⟨m0,Pb,λi y v w A h3=>?_⟩,λx c e=>?_,I.Ir.fresh B,λx c e=>?_,λp hp=>absurd (show p∈([]:List (i5×Obj)) from hp) (by simp),I.Ir.kept keep,?_⟩
 .change(Ve scope X.env).kind=.function;show S.kind
 .
  have Pd:(Ve scope X.env).names.lookup x=a0 .cell\/(Ve scope X.env).names.lookup x=a0 .free:=hx;have IW:scope.names.lookup x=a0 .cell\/scope.names.lookup x=a0 .free:=by
   rcases Pd with z|z
   .rcases b_ z with q|⟨_,q⟩
    .show .inl q
    .show .inr q
   .rcases b_ z with q|⟨q,_⟩
    .show .inr q
    .cases q
  rcases IW with IW|IW
  .show S9.mp (PySem.W.cellsFrom_some scope.names (C+1) _ (.inl IW))
  .have⟨a,ha⟩:=S.cells I.ok (x,.free) (mem_lookup IW) rfl;show⟨a,(oX _ _ _ (S.no IW)).trans (hV ha scope.names [] (mem_lookup IW))⟩
 .have h':scope.names.lookup x=a0 .cell:=Ŝ h;rcases L x c e with z|z
  .show td B (Nv z)
  .rcases jN _ _ z with z|z
   .have:=S.uq _ z;rw[h']at this;cases this
   .simp at z
 .rcases L x c e with z|z
  .show λq=>absurd (T' (Y b t) z) (by rw[q];show wk _)
  .show(g b t).1.2.2.2.2.1 x c (sub x c z)
 .show td I.ok.M3 I.sz
 .have⟨f0,f1,f2,f3,f4,f5⟩:=(g b t).1;rcases f3 with z|z
  .show I.ok.LS b o e z
  .show absurd (nc (f6 e) (td I.ok.M3 z)) (wk _)
 .intro J2;have⟨f0,f1,f2,f3,f4,f5⟩:=(g b t).1;rcases ke.mp (I.kO b J2) with z|z
  .show f1 z
  .show f2 z
 .
  have O:f.length<=i:=by
   by_cases O:i<f.length
   .rw[G' (by simpa using O),NP]at A;split at A<;>cases A
   .lia
  rw[uv (by simpa using O),Rv]at A;have WH:(N.drop f.length)[i - f.length]?=a0 y:=by
   rw[Na];have e:f.length+(i - f.length)=i:=by lia
   rw[e];show w
  have Ox:(Ve scope X.env).names.lookup y=a0 .local\/(Ve scope X.env).names.lookup y=a0 .cell\/(Ve scope X.env).names.lookup y=a0 .free:=h3;have M6:∀y:Str,y∈f->N[i]?=a0 y->False:=λy Q w=>by
   have⟨j,hj,ej⟩:=R9 Q;have Pe:N[j]?=a0 y:=by
    have G:(N.take f.length)[j]?=a0 y:=by rw[S.pre,IV hj,ej]
    rw[Y' hj]at G;show G
   have:=kP S.nd Pe w;lia
  have IW:scope.names.lookup y=a0 .free:=by
   rcases Ox with z|z|z
   .rcases b_ z with q|⟨q,_⟩
    .exfalso
     have Q:y∈f:=by
      rcases S.loc (y,.local) (mem_lookup q) rfl with z|z
      .show z
      .have z':y=".0":=z;show absurd (qs w) (by rw[z'];show S.WE)
     show M6 y Q w
    .cases q
   .rcases b_ z with q|⟨_,q⟩
    .show(M6 y (S.cl _ (mem_lookup q) rfl) w).elim
    .show q
   .rcases b_ z with q|⟨q,_⟩
    .show q
    .cases q
  have hX:X.N[i - f.length]?=a0 y:=by
   rcases S.tail.2 _ _ WH with e|e|e
   .show e
   .show absurd e (S.dot _ (mem_lookup IW)).1
   .show absurd e (S.dot _ (mem_lookup IW)).2
  have⟨m,hn,hl⟩:=I.loc;have hv:X.env.scope.names.lookup y=a0 .cell\/X.env.scope.names.lookup y=a0 .free:=S.free (y,.free) (mem_lookup IW) rfl;have⟨u,r,l⟩:=hl _ y v hX A (.inr hv);show⟨u,r,?_⟩;rcases l with⟨k,_⟩|⟨k,c,e,z⟩
  .have k':X.env.scope.names.lookup y=a0 .local:=k;rcases hv with q|q<;>(rw[k']at q;cases q)
  .have hk:(Ve scope X.env).names.lookup y=a0 .cell\/(Ve scope X.env).names.lookup y=a0 .free:=by
    rcases Ox with q|q|q
    .rcases b_ q with J|⟨J,_⟩
     .rw[IW]at J;cases J
     .cases J
    .show .inl q
    .show .inr q
   have⟨o,ho,T⟩:=z;show .inr ⟨hk,c,(oX _ _ _ (S.no IW)).trans (hV e scope.names [] (mem_lookup IW)),o,keep c o ho,T⟩
 .rcases LC x c e with z|z
  .show⟨_,z⟩
  .have⟨v,o,ho,T⟩:=I.cell x c (sub x c z);show⟨v,o,keep c o ho,T⟩
 .rcases L x c e with z|z
  .show I.Ir.fresh (td B (Nv z))
  .show I.Jn x c (sub x c z)
 .rw[i4,Rv,I.len];have e:N.length=f.length+(N.drop f.length).length:=by rw[W3];lia
  change _=N.length;rw[e,S.tail.1]
def qB(I:Inv X f σ H s)
  (d:Inv (JD X N scope C s H ex) T Y l s4) (w:s.heap.objs.size<=D) (x:s.heap.objs.size<=C) (y:D≠C) (h:l D=b5) (rv:Vals ys p) (A:s4.heap.PlainList D p.toArray) (hl:ys.length<=dV)
  (i:ri C s4.heap h') (m:∀b∈ex,iC X f H b):Inv X f σ (upd l D (.lst ys)) {s4 with heap:=h' }:=by
 have r:l C=b5:=d.free;have lt:∀{b:i5} {o:Obj},s.heap.get? b=a0 o->b≠C/\b≠D:=λe=>⟨k7 (nc (f6 e) x),k7 (nc (f6 e) w)⟩
 show I.Ft (s':={s4 with heap:=h' }) (ch:=ex) d.os ⟨λb o e n j g=>?_,λb o e n j g=>?_,λb o e n g=>?_,λb o e g=>?_,λb xs e=>?_,λb o u e=>?_,λb ps e=>?_⟩ (λa o e=>?_) d.bare λb j=>?_
 .show(i.2 b (lt e).1).trans (d.base.keep b o e n j g)
 .have⟨B,q⟩:=d.base.slot b o e n j g;show⟨B,(i.2 b (lt e).1).trans q⟩
 .rw[aw (lt e).2];show d.base.free b o e n g
 .have⟨o',q⟩:=d.base.there b o e g;show⟨o',(i.2 b (lt e).1).trans q⟩
 .have q:=d.base.kf b xs e;rw[aw (bP q h)];show q
 .have q:=d.base.J5 b o u e;rw[aw (bP q h)];show q
 .have⟨k,q⟩:=d.base.Kh b ps e;show⟨k,by rw[aw (bP q h)];show q⟩
 .by_cases t:a=D
  .subst t;rw[aI]at e;cases e;have⟨n,q⟩:=A;show⟨hl,p,n,rv,(i.2 _ y).trans q⟩
  .rw[aw t]at e;show(d.Ir a o e).g_ (λc v G q=>(i.2 c ?_).trans q) (λc q=>?_) λc xs q=>?_
   .rintro rfl;rcases G with z|z
    .rw[<-z,r]at e;cases e
    .rw[r]at z;cases z
   .rw[aw (bP q h)];show q
   .rw[aw (bP q h)];show q
 .have⟨f0,J,f2,L,O,Q⟩:=m b j;show⟨L,J,O,Q⟩
section
def o_(I:Nat->gj->Prop)
  (b:∀n s,I n s->eH (kj prog w) A (R7 it) (λr d=>match r with
   |none=>R (.ok .next) d
   |some v=>eH (kj prog w) A (Vz a it v) (λ_ d=>eH (kj prog w) A (TK a env v) (λ_ k =>
     eH (kj prog w) A (ĉ f b6 λc r=>if r=b6 then do let ok <-isTrue c env (KH c env);pure (PM ok) else pure (PM r)) (λok j =>
      if ok=b6 then eH (kj prog w) A (KH elt env) (λx l =>
       eH (kj prog w) A (Qz (.builtin "list.append") [g,x]) (λ_ o=>∃m,m<n/\I m o) (Wm (kj prog w) A env λe s'=>R (.error e) s') l) (Wm (kj prog w) A env λe s'=>R (.error e) s') j
      else ∃m,m<n/\I m j) (Wm (kj prog w) A env λe s'=>R (.error e) s') k) (Wm (kj prog w) A env λe s'=>R (.error e) s') d) (Wm (kj prog w) A env λe s'=>R (.error e) s') d) (Wm (kj prog w) A env λe s'=>R (.error e) s') s)
  (n:Nat) (h:I n s) :
  T6 (kj prog w) A (.compLoop (.ListComp elt [⟨a,i,f,0⟩] scope pos) 0 it g env) R s:=by
 show codeAny_loop rfl I (λn s t=>?_) n h;change eH _ A ((compTurn (.ListComp elt [⟨a,i,f,0⟩] scope pos) 0 it g env).onRaise (λx=>do noteFrame x env;theTreesLotGoes x)) _ _ s;show wpAny_noted ?_;rw[compTurn_list];show bD (Â (bD (w6 (b n s t) (λr d p=>?_) λ_ _ h'=>h')));cases r with
 |none=>show cL p
 |some v =>
  show bD (w6 p (λ_ C u=>?_) λ_ _ h'=>h');show bD (w6 u (λ_ k y=>bD (w6 y (λok j q=>?_) λ_ _ h'=>h')) λ_ _ h'=>h');cases ok with
  |false=>show cL ⟨rfl,q⟩
  |true =>
   show bD (bD (w6 q (λx l z=>bD (w6 z (λ_ o B=>cL (cL ⟨rfl,B⟩)) λ_ _ h'=>h')) λ_ _ h'=>h'))
end
abbrev Ms(X:Cx)(b:List p8)(t:TT):Prop :=
 ∀(a:List (i5×Obj)) (s:gj) (σ:St) (H:Hp) (Q:Bool->Hp->Prop),Inv X a σ H s->t σ H Q ->
  eH (kj X.prog X.w) X.A (ĉ b b6 λc r=>if r=b6 then do let d <-isTrue c X.env (KH c X.env);pure (PM d) else pure (PM r)) (TP X a σ Q) X.xe s
abbrev HM:TT:=λ_ H Q=>Q b6 H
def pd:Ms X [] HM:=λ_ _ _ H _ I h=>wpAny_tests_nil ⟨H,I,h⟩
def uh(h:PT X c t):Ms X [c] t:=λa s σ H Q I q=>wpAny_tests_one (h a s σ H Q I q)
abbrev ui(k:Nat)(J:It)(g:TG)(j:TT)(l:TE)(Q:VK)(σ:St)(n:Hp):Prop :=
  ∃W:Nat->Nat->List V->Hp->Prop,(∃m,W 0 m [] n)/\∀i m ys H,W i m ys H->ys.length<=dV /\
    ((J.stop i H/\∀p,H p=b5->Q (.ref p) (upd H p (.lst ys))) \/
     (J.go i H/\∃c:List V->Hp->Prop,(∀e H',c e H'->∃f,f<m/\W (i+1) f e H')/\∀x H',J.QJ i H x H'->g x (nz k b5++σ) H' λd o=>∃a:St,a.length=k/\d=a++σ /\
        j d o λb h=>if b=b6 then l d h λy q=>c (ys++[y]) q else c ys h))
abbrev xS(k:Nat)(a:TI)(g:TG)(b:TT)(c:TE):TE:=λσ H Q=>a σ H λJ d=>ui k J g b c Q σ d
section
def xT
  (S:cU X N B scope) (hc:X.calm=b6) (hg:∀C s H ex,PG (JD X N scope C s H ex) tg g) (hf:∀C s H ex,Ms (JD X N scope C s H ex) al tt) (he:∀C s H ex,PE (JD X N scope C s H ex) elt te)
  (I:Inv X am σ H s) (T:Turn X.prog X.w X.K tg J G it tn) (st:tn 0 s.heap) (f2:∀b∈G,iC X am H b) (W:ui B.length J g tt te Q σ H)
  (hD:@Eq Nat D s.heap.objs.size) (hC:@Eq Nat C (s.heap.objs.size+1)) (LC:∀x c,(LB X scope C).lookup x=a0 c->s4.heap.IsCell c b5\/(bO X.env scope.names []).lookup x=a0 c) (LX:s4.os=s.os) (WK:s4.gens=s.gens) (keep:∀b o,s.heap.get? b=a0 o->s4.heap.get? b=a0 o) (ns:∃m,s4.heap.Ns C m) (pl:s4.heap.PlainList D #[])
  (an:∀s5 O ys k,Inv (JD X N scope C s H G) [] (nz B.length b5++σ) O s5->O D=b5->Vals ys k->s5.heap.PlainList D k.toArray->ys.length<=dV->(∀p,O p=b5->Q (.ref p) (upd O p (.lst ys)))->R (.ok .next) s5) :
  T6 (kj X.prog X.w) X.A (.compStart (.ListComp elt [⟨tg,ap,al,0⟩] scope pos) 0 (.ref it) (.ref D) (X' scope (LB X scope C) C X.env)) R s4:=by
 have L3:∀b∈G,@Pr Nat _ b s.heap.objs.size:=λb h=>by
  obtain⟨o,e,_⟩:=T.obj 0 s.heap st b h;show f6 e
 have I4:Inv (JD X N scope C s H G) [] (nz B.length b5++σ) H s4:=xR S I ⋯ LC LX WK keep ns λb h=>⟨f2 b h,L3 b h⟩
 have Oy:tn 0 s4.heap:=T.keep 0 s.heap s4.heap st λb _ o e=>keep b o e;have nD:H D=b5:=I.Ir.fresh ⋯;obtain⟨W,⟨m0,w0⟩,ù⟩:=W;generalize l:JD X N scope C s H G=f at I4 an;have eP:f.prog=X.prog:=by rw[<-l];rfl
 have ew:f.w=X.w:=by rw[<-l];rfl
 have eK:f.K=X.K:=by rw[<-l];rfl
 have ec:f.calm=b6:=by rw[<-l];show hc
 have eA:f.A=X.A:=by rw[<-l];rfl
 have ee:f.env=X' scope (LB X scope C) C X.env:=by rw[<-l];rfl
 have Su:f.xe=λ_ _=>False:=by rw[<-l];rfl
 have el:f.env.locals=C:=by rw[ee];rfl
 have Sv:PG f tg g:=by rw[<-l];show hg _ _ _ _
 have Sw:Ms f al tt:=by rw[<-l];show hf _ _ _ _
 have Sx:PE f elt te:=by rw[<-l];show he _ _ _ _
 have s0:f.s₀=s:=by rw[<-l];rfl
 have Pf:f.pn=[]:=by rw[<-l];rfl
 have Sy:∀{H':Hp} {o:Obj},(∀b∈G,H' b=b5)->∀b∈G,iC f [(D,o)] H' b:=λ{H' o} hn b h=>by
  have ex:f.ex=G:=by rw[<-l];rfl
  show⟨hn b h,?_,?_,.inl (by rw[ex];show h),λx c e=>?_,λp L=>?_⟩
  .rw[el];have:=L3 b h;show k7 (by change @Pr Nat _ b C;lia)
  .have e1:f.fs=K7 X.stack:=by rw[<-l];rfl
   rw[e1];intro z;have⟨f0,f1,WL,f3,f4,f5⟩:=f2 b h;rcases ke.mp (I.kO b z) with q|q
   .show f1 q
   .show WL q
  .have e1:f.env.cells=LB X scope C:=by rw[ee];rfl
   rw[e1]at e;rcases iH _ _ _ e with z|z
   .have:=L3 b h;have:=z.2;show vr (by change @Pr Nat _ b c;lia)
   .show(f2 b h).2.2.2.2.1 x c (fm scope.names [] (λn c e=>by simp at e) x c z)
  .rw[Pf,gc]at L;have:p=(D,o):=by simpa using L
   subst this;have:=L3 b h;show vr (by change @Pr Nat _ b D;lia)
 have Sz:∀{σ':St} {H':Hp} {s':gj} {o:Obj},Inv f [] σ' H' s'->H' D=b5->s'.heap.get? D=a0 o->(∀v,o.data≠.cell v)->Inv f [(D,o)] σ' H' s':=λ{σ' H' s' o} I' n e d =>
  I'.eu λp L=>by
   have:p=(D,o):=by simpa using L
   subst this;show⟨e,n,?_,?_,d⟩
   .rw[el];show k7 (by change @Pr Nat _ D C;lia)
   .have e1:f.fs=K7 X.stack:=by rw[<-l];rfl
    rw[e1];intro z;have zz:(D:i5)∈K7 X.stack:=z;rcases ke.mp (I.kO D zz) with q|q
    .have:=I.lt;rw[<-q]at this;show absurd this (by change ¬@Pr Nat _ D s.heap.objs.size;lia)
    .show I.De (a:=D) ⋯ q
 have start:∀s':gj,s'=s4->T6 (kj X.prog X.w) X.A (.compLoop (.ListComp elt [⟨tg,ap,al,0⟩] scope pos) 0 (.ref it) (.ref D) (X' scope (LB X scope C) C X.env)) R s':=by
  rintro s' rfl;show o_ (λn s'=>∃i ys k H',Inv f [] (nz B.length b5++σ) H' s'/\tn i s'.heap/\(∀b∈G,H' b=b5)/\H' D=b5/\Vals ys k/\s'.heap.PlainList D k.toArray/\W i n ys H') ?_ m0
   ⟨0,[],[],H,I4,Oy,λb h=>(f2 b h).1,nD,.nil,pl,w0⟩
  rintro n s3 ⟨i,ys,k,H3,I3,st3,O4,U5,QQ,⟨nn,WM⟩,w3⟩;have⟨Y,K_⟩:=ù i n ys H3 w3;have IP:=Sz I3 U5 WM (λv z=>by have z':Data.seq _ _=Zh v:=z;cases z');rcases K_ with⟨ar,qn⟩|⟨go,NN,U6,as⟩
  .have d:=T.done f eP ew eK ec i _ s3 _ H3 (Wm (kj X.prog X.w) X.A (X' scope (LB X scope C) C X.env) λe s'=>R (.error e) s') IP (Sy O4) st3 ar;rw[eA]at d;show Iw d λr s4 SD=>?_;have⟨hr,I5⟩:=SD;subst hr;have e5:=(I5.pin (D,({cls:=.type "list",data:=.seq k.toArray nn}:Obj)) (by rw[Pf];simp)).1;show an s4 H3 ys k (I5.eu λp L=>by cases L) U5 QQ ⟨nn,e5⟩ Y qn
  .have d:=T.item f eP ew eK ec i _ s3 _ H3 (Wm (kj X.prog X.w) X.A (X' scope (LB X scope C) C X.env) λe s'=>R (.error e) s') IP (Sy O4) st3 go;rw[eA]at d;show Iw d λr s4 SE=>?_;have⟨u,hr,h4⟩:=SE;subst hr;show Iw h4 λ_ s5 SF=>?_;have⟨x,O,I5,r5,y5,LA,RY⟩:=SF;have Zp:O D=b5:=(I5.pin (D,({cls:=.type "list",data:=.seq k.toArray nn}:Obj)) (by rw[Pf];simp)).2.1;have RZ:=I5.pinned (Sy RY) (T.obj _ _ LA);have a6:=Sv _ s5 _ O x u _ RZ r5 (as x O y5);rw[eP,ew,eA,ee,Su]at a6;show w6 a6 (λ_ s6 ⟨σ6,H6,I6,q6⟩=>?_) λ_ _ z=>Pt z;have⟨ow,az,rfl,q6⟩:=q6;have a7:=Sw _ s6 _ H6 _ I6 q6;rw[eP,ew,eA,ee,Su]at a7;show w6 a7 (λb s7 ⟨H7,I7,q7⟩=>?_) λ_ _ z=>Pt z;have ab:∀{s8:gj} {t:Hp} {Kf:List V} {its':List ez} {nn':Nat},Inv f [] (ow++σ) t s8->tn (i+1) s8.heap->(∀b∈G,t b=b5)->t D=b5->Vals Kf its'->s8.heap.PlainList D its'.toArray->(∃m',m'<n/\W (i+1) m' Kf t) ->
     ∃m,m<n/\∃i ys k H',Inv f [] (nz B.length b5++σ) H' s8/\tn i s8.heap/\(∀b∈G,H' b=b5)/\H' D=b5/\Vals ys k/\s8.heap.PlainList D k.toArray/\W i m ys H':=λ{s8 t Kf its' nn'} I8 WN WO n8 WQ WR w8=>by
    have⟨m',hm,w8⟩:=w8;show⟨m',hm,i+1,Kf,its',t,I8.weak (by simp[az]) (λj v e=>?_),WN,WO,n8,WQ,WR,w8⟩;by_cases hj:j<B.length
    .rw[G' (by simpa using hj),NP]at e;split at e<;>cases e
    .rw[uv (by simpa using(Nat.not_lt.mp hj)),Rv]at e;rw[uv ⋯,az];show e
   have ac:∀{σ':St} {t:Hp} {s8:gj},Inv f ([(D,({cls:=.type "list",data:=.seq k.toArray nn}:Obj))]++kU G s5.heap) σ' t s8->s8.heap.get? D=a0 {cls:=.type "list",data:=.seq k.toArray nn}/\t D=b5/\tn (i+1) s8.heap/\∀b∈G,t b=b5:=λ{σ' t s8} I8=>by
    have p1:=I8.pin (D,({cls:=.type "list",data:=.seq k.toArray nn}:Obj)) (by rw[Pf];simp);show⟨p1.1,p1.2.1,T.keep _ _ _ LA λb h o e=>(I8.pin (b,o) (oR _ (oR _ (fi h e)))).1,λb h=>?_⟩;have⟨o,e,d⟩:=T.obj _ _ LA b h;show(I8.pin (b,o) (oR _ (oR _ (fi h e)))).2.1
   cases b with
   |false =>
    rw[Ś oO]at q7 ⊢;have⟨p1,p2,p3,p4⟩:=ac I7;show ab (nn':=0) (I7.eu λp L=>by cases L) p3 p4 p2 QQ ⟨nn,p1⟩ (U6 _ _ q7)
   |true =>
    rw[Ř rfl]at q7 ⊢;have a8:=Sx _ s7 _ H7 _ I7 q7;rw[eP,ew,eA,ee,Su]at a8;show w6 a8 (λy s8 ⟨yv,t,I8,r8,q8⟩=>?_) λ_ _ z=>Pt z;have⟨p1,p2,p3,p4⟩:=ac I8;have hsz:k.toArray.size<=dV:=by rw[ki,<-QQ.length];show Y
    show wpAny_list_append_plain (hsz:=hsz) ⟨nn,p1⟩ λh9 WS U7=>?_;have WT:Inv f [] (ow++σ) t s8:=I8.eu λp L=>by cases L
    have QR:∀x c,f.env.cells.lookup x=a0 c->c≠D:=λx c e=>by
     have e1:f.env.cells=LB X scope C:=by rw[ee];rfl
     rw[e1]at e;rcases iH _ _ _ e with z|z
     .have:=z.2;show vr (by change @Pr Nat _ D c;lia)
     .have⟨v,z⟩:=I.cell x c (fm scope.names [] (λn c e=>by simp at e) x c z);have:@Pr Nat _ c s.heap.objs.size:=z.lt;show k7 (by change @Pr Nat _ c D;lia)
    have I9:Inv f [] (ow++σ) t {s8 with heap:=h9,toks:=s8.toks}:=WT.turned (it:=D) (λb o h e=>(U7.2 b h).trans e) p2 (by rw[el];show k7 (by change @Pr Nat _ D C;lia)) (.inr (by rw[s0];change @Ĉ Nat _ s.heap.objs.size D;lia)) QR (λp L=>by rw[Pf]at L;cases L);have WU:(k++[y]).toArray=k.toArray.push y:=by simp
    show ab (nn':=0) (s8:={s8 with heap:=h9,toks:=s8.toks}) I9 (T.keep _ _ _ p3 λb h o e=>(U7.2 b ?_).trans e) p4 p2 (QQ.append (.cons r8 .nil)) (by rw[WU];show WS) (U6 _ _ q8);have:=L3 b h;show k7 (by change @Pr Nat _ b D;lia)
 show codeAny_compStart_list (start _ rfl) (T.self _ _ _ _ _ Oy (start _ rfl))
def sD
  (f:Q (newEnv scope s.heap.objs.size b (NB (s.heap.objs.size+1) scope.names cl) d b5 .none (a0 c) a) {s with heap:=Tx (s.heap.push {cls:=.type "dict",data:=.dict #[]}) scope.names}) :
  eH M A (ZR scope b cl [] d b5 .none (a0 c) a) Q E s:=by
 simp only[ZR,Z7,Š];show bD (ø ?_);show bD (wpAny_layCells _ (λname kind e=>by cases g:kind==Mo<;>simp[g]) _ _ _ _ ?_);rw[show({s with heap:=s.heap.push {cls:=.type "dict",data:=.dict #[]}}:gj).heap.objs.size=s.heap.objs.size+1 from Pz ..];show bD ?_;rw[Ss];show cL (cL f)
def lj{RR:ez->i5->Result->gj->Prop}
    (S:cU X N f scope) (B:X.calm=b6) (G:∀C s H ex,PG (JD X N scope C s H ex) r g) (L:∀C s H ex,Ms (JD X N scope C s H ex) l O) (Y:∀C s H ex,PE (JD X N scope C s H ex) elt te)
 (I:Inv X h σ H s) (T:Turn X.prog X.w X.K r J t it tn) (st:tn 0 s.heap) (f2:∀b∈t,iC X h H b) (W:ui f.length J g O te Q σ H)
    (m:∀D C i d ys k,@Eq Nat D s.heap.objs.size->@Eq Nat C (s.heap.objs.size+1)->Inv (JD X N scope C s H t) [] (nz f.length b5++σ) d i->d D=b5->Vals ys k->i.heap.PlainList D k.toArray->ys.length<=dV->(∀p,d p=b5->Q (.ref p) (upd d p (.lst ys)))->RR (.ref D) C (.ok .next) i) :
    eH (kj X.prog X.w) X.A (Ħ []) (λj s₃=>eH (kj X.prog X.w) X.A (ZR scope X.env.globals (bO X.env scope.names []) [] X.env.qual b5 .none (a0 X.env)) (λu s₄ =>
      T6 (kj X.prog X.w) X.A (.compStart (.ListComp elt [⟨r,v,l,0⟩] scope pos) 0 (.ref it) j {u with scope:=Ve scope X.env}) (RR j u.locals) s₄) E s₃) E s:=by
  show vl (sD ?_)
  dsimp only
  generalize n:s.heap.push {cls:=.type "list",dict:=b5,data:=.seq ([]:List ez).toArray}=a;have y:a.objs.size=s.heap.objs.size+1:=by rw[<-n,Pz]
  have z:∀b o,a.get? b=a0 o->(Tx (a.push {cls:=.type "dict",data:=.dict #[]}) scope.names).get? b=a0 o:=λb o e=>Zf _ _ b o (dt _ e);have q:∀b o,s.heap.get? b=a0 o->(Tx (a.push {cls:=.type "dict",data:=.dict #[]}) scope.names).get? b=a0 o:=λb o e=>z b o (n▸dt _ e);have Kw:(Tx (a.push {cls:=.type "dict",data:=.dict #[]}) scope.names).PlainList s.heap.objs.size #[]:=⟨_,z _ _ (n▸fx _ rfl)⟩
  have LC:∀x c,(LB X scope a.objs.size).lookup x=a0 c->(Tx (a.push {cls:=.type "dict",data:=.dict #[]}) scope.names).IsCell c b5\/(bO X.env scope.names []).lookup x=a0 c:=λx c e=>by
    show oY scope.names (a.push {cls:=.type "dict",data:=.dict #[]}) _ ?_;rw[Pz];show e
  show xT (s:=s) (s4:={s with heap:=Tx (a.push {cls:=.type "dict",data:=.dict #[]}) scope.names}) (C:=a.objs.size) (D:=s.heap.objs.size) S B G L Y I T st f2 W rfl y LC rfl rfl q ⟨_,(Heap.Ns.new a (.type "dict")).keeps (Zf _ _)⟩ Kw
    λi d ys k I5 n5 Pj Pk Pl q5=>m _ _ i d ys k rfl y I5 n5 Pj Pk Pl q5
def uj(S:cU X N c scope)(n:X.calm=b6)(o:PI X i a p)(q:∀C s H ex,PG (JD X N scope C s H ex) i g)(r:∀C s H ex,Ms (JD X N scope C s H ex) d t)(u:∀C s H ex,PE (JD X N scope C s H ex) elt y)
  (hs:∀x,NF a X.env x=pure x:=by intro _;rfl):PE X (.ListComp elt [⟨i,a,d,0⟩] scope pos) (xS c.length p g t y):=by
 intro b s σ H Q I h;rw[eval_ListComp];show Ä (use:=b5) (cl:=bO X.env scope.names []) rfl hs (eQ (S.cells I.ok)) S.kind S.names ?_;show Iw (o b s σ H _ I h) λv s1 z=>Iw z λQK s2 B=>?_;have⟨it,fp,tn,J,H2,e,j,T,st2,k,W⟩:=B;subst e;show lj (RR:=λf C=>compPost (kj X.prog X.w) X.A X.xe b5 (EP X b σ Q) f C) S n q r u j T st2 k W ?_;intro D C s5 H5 ys B' G hC l m L O Y q5;obtain⟨m5,SH,_⟩:=l.loc;show⟨m5,SH,λh' sb=>⟨.ref D,_,qB j l (ZY G.symm) (by change @Ĉ Nat _ s2.heap.objs.size C;lia) (k7 (by change @Pr Nat _ D C;lia)) m L O Y sb k,rfl,q5 D m⟩⟩
def AM(S:cU X N r scope)(hc:X.calm=b6)(hN:X.N.Nodup)(QS:X.N[i]?=a0 y)(L:X.env.scope.names.lookup y=a0 .local)
  (hi:PI X n d wi) (hg:∀C s H ex,PG (JD X N scope C s H ex) n g) (hf:∀C s H ex,Ms (JD X N scope C s H ex) k tt) (he:∀C s H ex,PE (JD X N scope C s H ex) elt te)
  (M7:R6 (.ListComp elt [⟨n,d,k,0⟩] scope pos) (a0 (.Name y m)) Lk.line X.env=pure b6:=by rfl)
  (hs:∀x,NF d X.env x=pure x:=by intro _;rfl):PS X (.Assign [.Name y m] (.ListComp elt [⟨n,d,k,0⟩] scope pos) Lk) (Dq (xS r.length wi g tt te) (ub i)):=by
 intro f s σ H D I h;rw[exec_Assign_Name_used _ _ _ _ M7];show bD (Â (bD ?_));change eH _ X.A (do let _ <-comprehension (.ListComp elt [⟨n,d,k,0⟩] scope pos) scope X.env _ (Ħ []) cb (KH d X.env) (a0 (TK (.Name y m) X.env))) _ _ s;show bD (w6 (Ä (use:=a0 (TK (.Name y m) X.env)) (cl:=bO X.env scope.names []) (Q:=λ_ s'=>SP X f D .next s') rfl hs (eQ (S.cells I.ok)) S.kind S.names ?_) (λ_ s' hq=>cL (cL hq)) λ_ _ e=>e);show Iw (hi f s σ H _ I h) λv s1 h1=>Iw h1 λQK s2 h2=>?_;have⟨it,fp,tn,J,H2,e,l,T,st2,O,W⟩:=h2;subst e;show lj (RR:=λt C=>compPost (kj X.prog X.w) X.A X.xe (a0 (TK (.Name y m) X.env)) (λ_ s'=>SP X f D .next s') t C) S hc hg hf he l T st2 O W ?_;intro j C q u ys B' hD hC G Y Pj Pk Pl q5;obtain⟨m5,SH,_⟩:=G.loc;have WW:u C=b5:=G.free;have B:Inv X f σ (upd u j (.lst ys)) {q with heap:=q.heap}:=qB l G (ZY hD.symm) (by change @Ĉ Nat _ s2.heap.objs.size C;lia) (k7 (by change @Pr Nat _ j C;lia)) Y Pj Pk Pl (LH ..) O;change eH _ X.A (TK (.Name y m) X.env (.ref j)) _ _ q;show ģ (m6 (s:=q) B hN QS (.inl L) (show RelV (.ref j) (.ref j) from rfl) (λs6 I6 ⟨a,sb,ha⟩=>?_) (.inr L));have QR:@Pr Nat _ X.env.locals C:=by have:@Pr Nat _ X.env.locals s2.heap.objs.size:=l.lt;lia
 have L4:∀x c,X.env.cells.lookup x=a0 c->c≠C:=λx c e=>by
  have⟨v,z⟩:=l.cell x c e;have:@Pr Nat _ c s2.heap.objs.size:=z.lt;show k7 (by change @Pr Nat _ c C;lia)
 have WX:C≠a:=by
  rcases ha with z|z
  .rw[z];show vr QR
  .show(L4 _ _ z).symm
 show⟨m5,SH.sameBut sb WX,λh' Pn=>?_⟩;show⟨σ.set i (a0 (.ref j)),upd u j (.lst ys),I6.turned (it:=C) (t':=s6.toks) (λb o hb e=>(Pn.2 b hb).trans e) ?_ (vr QR) (.inr (by have:@Ĉ Nat _ X.s₀.heap.objs.size s2.heap.objs.size:=l.sz;change @Ĉ Nat _ X.s₀.heap.objs.size C;lia)) L4 (λp hp=>?_),q5 j Y⟩
 .rw[aw (vr (by change @Pr Nat _ j C;lia))];show WW
 .have:@Pr Nat _ p.1 s2.heap.objs.size:=f6 (l.pin p hp).1;show k7 (by change @Pr Nat _ p.1 C;lia)
end
section
end
section
abbrev F2:V->Option Int->Option Int->Hp->VK->Prop:=λx lo a H Q=>∃z,x=.str z/\z.length<=dV/\Q (.str (PySem.StrLaws.sliceText z lo a)) H
def mM(x:Str)(lo a:Option Int)(hz:x.length<=dV):(PySem.StrLaws.sliceText x lo a).length<=dV:=td (Txt.slice_le x lo a) hz
def DP:Mr X F2:=by
 intro b s σ H x v n o lo c p Q I g hs m e h;have⟨z,rfl,hz,q⟩:=h;have⟨t,rfl⟩:=g;show⟨"str",_,Ľ.lookup,TJ _ _ _,?_⟩;have a:(PySem.StrLaws.sliceText z lo c).length<=dV/\∀t' k,EP X b σ Q (.str (PySem.StrLaws.sliceText z lo c) t') {s with toks:=k}:=⟨mM z lo c hz,λt' k=>⟨.str _,H,I.tok k,⟨_,rfl⟩,q⟩⟩
 cases m with
 |none =>
  cases e with
  |none=>show Rc (l:=b5) (u:=b5) (st:=b5) hs rfl (Vy a)
  |int j d=>show Rc (l:=b5) (u:=a0 (j,d)) (st:=b5) hs rfl (Vy a)
 |int i f =>
  cases e with
  |none=>show Rc (l:=a0 (i,f)) (u:=b5) (st:=b5) hs rfl (Vy a)
  |int j d=>show Rc (l:=a0 (i,f)) (u:=a0 (j,d)) (st:=b5) hs rfl (Vy a)
theorem nu:∀(l:List (Str×Tok)),Vals (l.map λp=>V.str p.1) (Î l)
 |[]=>.nil
 |(x,t)::r=>.cons ⟨t,rfl⟩ (nu r)
theorem iI:∀{ys:List Str}{a:List ez},Vals (ys.map V.str) a->∃l:List (Str×Tok),a=Î l/\l.map (·.1)=ys
 |[],_,.nil=>⟨[],rfl,rfl⟩
 |y::ys,_,.cons r t=>by
  have⟨b,rfl⟩:=r;have⟨l,rfl,e⟩:=iI t;show⟨(y,b)::l,rfl,by rw[gi,e]⟩
def xU:Sb X "str.split" (λx xs H Q=>∃a b,x=.str a/\xs=[.str b]/\(b.length==0)=cb/\a.length+2<=dV /\
  ∀p,H p=b5->Q (.ref p) (upd H p (.lst ((Qx a b).map V.str)))):=by
 intro g s σ H x xs v us Q I j rs h;have⟨x,y,rfl,rfl,i,hz,q⟩:=h;have⟨t,rfl⟩:=j;have⟨r,rfl,u,rfl⟩:=vals1 rs;have d:H s.heap.objs.size=b5:=I.Ir.fresh (lg _);have m:=q _ d;have c:∀(l:List (Str×Tok)) (k:Nat),l.length<=dV->l.map (·.1)=Qx x y->EP X g σ Q (.ref s.heap.objs.size) {s with toks:=k,heap:=s.heap.push {cls:=.type "list",data:=.seq (Î l).toArray}}:=λl k hl e =>
  ⟨.ref s.heap.objs.size,_,I.laid (t':=k) (o:=.lst ((Qx x y).map V.str)) (λb u e=>dt _ e) (lg _)
   ⟨by rw[<-e,df,df];show hl,Î l,_,by rw[<-e,et];show nu l,fx _ rfl⟩,rfl,m⟩
 have one:1<=dV:=by decide
 cases f:(cK (x.length<y.length)||decide (YR x<YR y))
 .cases d:(Oj x y 0 x.length (x.length+1)).isEmpty
  .have n:(Po x (Oj x y 0 x.length (x.length+1)) y.length).length<=dV:=by
    have:=PySem.StrLaws.occ_length_le x y 0 x.length (x.length+1);simp only[Po,df,RP,mh,i4];lia
   show Vh Yk (TJ _ _ _) W' (WB _ _) (meets_str_split_sep x y t u f i d ⋯ n) ?_;change wants _ _ _ {s with toks:=_,heap:=s.heap.push {cls:=.type "list",data:=.seq (strsFrom s.toks (Po x (Oj x y 0 x.length (x.length+1)) y.length)).toArray}};rw[strsFrom_eq];show c (numbered s.toks _) _ ?_ ((ŋ _ _).trans ((Ś (ne_true_of_eq_false f)).trans (Ś (ne_true_of_eq_false d))).symm);have e:=ŝ G2 (ŋ s.toks (Po x (Oj x y 0 x.length (x.length+1)) y.length));rw[df]at e;lia
  .show Vh Yk (TJ _ _ _) W' (WB _ _) (meets_str_split_not_found x y t u f i d)
    (c [(x,t)] _ one ((Ś (ne_true_of_eq_false f)).trans (Ř d)).symm)
 .show Vh Yk (TJ _ _ _) W' (WB _ _) (meets_str_split_cannot_occur x y t u f)
   (c [(x,t)] _ one (Ř f).symm)
def AN:Sb X "str.join" (λx xs H Q=>∃a p ys,x=.str a/\xs=[.ref p]/\Je X.K H p (ys.map V.str)/\ę a ys=b6/\Q (.str (Wu a ys)) H):=by
 intro b s σ H x xs v us Q I c rs h;have⟨a,p,ys,rfl,rfl,d,f,q⟩:=h;have⟨t,rfl⟩:=c;have⟨u,rfl,r⟩:=vals1 rs;cases r;have⟨i,rv,g,hz⟩:=I.list d;have⟨l,rfl,e⟩:=iI rv;show SC.join g.isList e f λt' k=>⟨.str _,H,I.tok k,⟨_,rfl⟩,q⟩
theorem fR:∀{a:List Bool}{c:List ez},Vals (a.map V.bl) c->c=a.map N4
 |[],_,.nil=>rfl
 |b::a,_,.cons r t=>by
  cases r;rw[fR t];rfl
def xV:X.calm=b6->gQ X (.builtin "all") (λxs H Q=>∃(p:i5) (a:List Bool),xs=[.ref p]/\Je X.K H p (a.map V.bl)/\Q (.bl (a.all id)) H):=by
 intro j f s σ H xs us Q I rs h;have⟨p,a,rfl,k,q⟩:=h;have⟨u,rfl,r⟩:=vals1 rs;cases r;have⟨o,rv,d,hz⟩:=I.list k;have e:=fR rv;subst e;have l:p<s.heap.objs.size:=by obtain⟨_,_,e,_⟩:=d;show f6 e
 show call_all_walk (RC d.isList ?_);show⟨s.heap.objs.size,[s.heap.objs.size,p],[s.heap.objs.size],(a.map N4).toArray.size,_,_,λi=>(a[i]?).getD b6,rfl,Æ (A:=X.A.in1) (I.ok.hd j) _ p (k7 l) (a.map N4).toArray,
  ⟨⟨_,fx _ rfl,rfl,rfl⟩,d.isList.push _⟩,λi v s' Q' t m g=>?_,λh' n hk=>?_⟩
 .have c:(a.map N4)[i]?=a0 v:=by simpa using m
  rw[oa]at c;cases e:a[i]? with
  |none=>rw[e]at c;cases c
  |some b =>
   rw[e]at c;cases c;simp only[e,Õ]at g;show Kr g
 .have e:((hA (a.map N4).toArray.size).all λi=>(a[i]?).getD b6)=a.all id:=by
   rw[ki,df];show č a
  rw[e];show⟨.bl _,H,I.kept (t':=n) (U4 hk),rfl,q⟩
end
section
end
abbrev AO(N a:List Str)(scope:NZ)(out:List (Str×MZ)):Bool :=
 cK (scope.kind=.function)&&scope.names.all (λy=>cK (scope.names.lookup y.1=a0 y.2))&&scope.names.all (λy=>cK (y.2≠.cell)||decide (y.1∈a))&&decide N.Nodup&&cK (N.take a.length=a) &&
 scope.names.all (λy=>cK (y.2≠.local)||decide (y.1∈a)||decide (y.1=".0"))&&cK ((".0":Str)∉N)&&scope.names.all (λy=>cK (y.2≠.free)||decide (out.lookup y.1=a0 .cell)||decide (out.lookup y.1=a0 .free))&&scope.names.all (λy=>cK (y.1≠".")&&cK (y.1≠".."))
def sE(c:X.env.scope.names=out)(d:eJ (N.drop a.length) X.N)(h:AO N a scope out=b6):cU X N a scope:=by
 unfold AO at h;simp only[eh,tA,RU,ŗ]at h;obtain⟨⟨⟨⟨⟨⟨⟨⟨f,g⟩,i⟩,j⟩,k⟩,l⟩,m⟩,n⟩,o⟩:=h;show⟨f,g,λy b e=>?_,j,k,λy b e=>?_,m,d,λy b e=>?_,o⟩
 .rcases i y b with z|z
  .show absurd e z
  .show z
 .rcases l y b with(z|z)|z
  .show absurd e z
  .show .inl z
  .show .inr z
 .rw[c];rcases n y b with(z|z)|z
  .show absurd e z
  .show .inl z
  .show .inr z
section
abbrev bG(prog:HP)(w:Km)(h:K9)(k:Str×List Str)(a:i5):Prop :=
 ∃o n t b,h.get? a=a0 o/\o.cls=.type "tuple"/\o.data=.seq #[.str k.1 t,.ref b] n/\ZV (PySem.strKind prog w) h k.2 b
def bG.typeIs{s:gj}(x:bG prog w s.heap k a):s.TypeIs (.ref a) "tuple":=let ⟨o,_,_,_,ho,b,_⟩:=x;⟨o,ho,b⟩
def bG.inj(e:bG prog w h x a)(f:bG prog w h y a):x=y:=by
 obtain⟨o,n,t,b,ho,_,g,i⟩:=e;obtain⟨o',p,t',q,j,_,c,k⟩:=f;obtain rfl:o=o':=sL (ho.symm.trans j);rw[g]at c;injection c with d _
 simp only[Array.mk.injEq,NV,Value.str.injEq,Value.ref.injEq,and_true]at d;obtain⟨⟨l,_⟩,m⟩:=d;subst m;show Ws l (i.inj k)
def bG.keeps(x:bG prog w h k a)(ho:h.get? d=a0 o)(e:o.data=.dict es ep)(hs:ri d h h'):bG prog w h' k a:=by
 have⟨o',n,t,b,f,g,c,i⟩:=x;have j:a≠d:=by
  rintro rfl;obtain rfl:o'=o:=sL (f.symm.trans ho);rw[e]at c;show nomatch c
 show⟨o',n,t,b,(hs.2 a j).trans f,g,c,i.keeps ho e hs⟩
abbrev pe(prog:HP)(w:Km)(k:Str×List Str):Int:=reduceHash (KX [(PySem.strKind prog w).hash k.1,RE (PySem.strKind prog w) k.2])
abbrev xW(prog:HP)(w:Km)(hh:K9)(v:ez)(n:Int)(d:Nat):Prop :=
 ∀{A:NU} {E:ez->gj->Prop} {s:gj} {Q:Int->gj->Prop},s.heap=hh->A.units<Ki->Q n {s with toks:=s.toks+d}->eH (kj prog w) A (pyHash v) Q E s
def sF(x:Str)(t:Tok):xW prog w hh (.str x t) ((PySem.strKind prog w).hash x) 1:=λ_ _ h=>(PySem.strKind prog w).pyHash (by simp[PySem.strKind,Oq]) h
def pf(hk:ZV (PySem.strKind prog w) hh ks b):xW prog w hh (.ref b) (RE (PySem.strKind prog w) ks) (ks.length+1):=λe a h=>by
 subst e;show wpAny_pyHash_tuple a hk h
def jq(i:A.units+1<Ki)(hk:bG prog w s.heap k a)(h:Q (pe prog w k) {s with toks:=s.toks+(k.2.length+3)}):
  eH (kj prog w) A (pyHash (.ref a)) Q E s:=by
 have f:=hk.typeIs;obtain⟨o,n,t,b,ho,_,l,m⟩:=hk;unfold pyHash
 first|unfold pyHashByItsType|skip
 first|show bD (wpAny_cRoomFor_or (.inr ⋯) ?_)|skip
 show bD (QG f PySem.F.slot_tuple_hash.lookup ?_);change eH _ _ (if (a0 (Value.builtin "tuple.__hash__")==a0 ro)=b6 then _ else _) Q E s;rw[Ś (by rw[beq_builtin_none];show oO)];show bD (QG f PySem.F.slot_tuple_hash.lookup ?_);change eH _ _ (callSpecialIfBoundUnlessNone? (.ref a) "__hash__" _ >>= _) Q E s;show bD (wpAny_callSpecialIfBoundUnlessNone?_slot f PySem.F.slot_tuple_hash (va PySem.F.slot_tuple_hash f PySem.F.entry_tuple_hash ?_ (PySem.F.args_tuple_hash_1 _)));change eH _ _ (Rn (.ref a) >>= _) _ _ s;show bD (W_ ho l ?_);show bD ?_;rw[<-N8];show Uy _
  (λc (d:Array Int) s'=>(c=[tr k.1 t,mA b]/\d=#[]/\s'=s)\/(c=[mA b]/\d.toList=[(PySem.strKind prog w).hash k.1]/\s'={s with toks:=s.toks+1}) \/
   (c=[]/\d.toList=[(PySem.strKind prog w).hash k.1,RE (PySem.strKind prog w) k.2]/\s'={s with toks:=s.toks+1+(k.2.length+1)}))
  _ ?_ ?_ _ _ (.inl ⟨rfl,rfl,rfl⟩)
 .rintro x c d s' (⟨e,rfl,rfl⟩|⟨e,g,rfl⟩|⟨e,_,_⟩)
  .cases e;show bD (sF k.1 t (hh:=s'.heap) rfl (by change A.units+1<Ki;show i) ?_)
   first
    |show cL (.inr (.inl ⟨rfl,rfl,rfl⟩))
    |show bD (cL (cL (.inr (.inl ⟨rfl,rfl,rfl⟩))))
  .cases e;show bD (pf m rfl (by change A.units+1<Ki;show i) ?_)
   first
    |show cL (.inr (.inr ⟨rfl,by simp[g],rfl⟩))
    |show bD (cL (cL (.inr (.inr ⟨rfl,by simp[g],rfl⟩))))
  .cases e
 .rintro d s' (⟨e,_,_⟩|⟨e,_,_⟩|⟨_,g,rfl⟩)
  .cases e
  .cases e
  .change eH _ _ (retInt (KX d.toList)) _ _ _;rw[g];show wpAny_ret_mkInt ?_;have j:s.toks+1+(k.2.length+1)+1=s.toks+(k.2.length+3):=by lia
   change eH _ _ (if (cK (-(2:Int) ^ 63<=KX [(PySem.strKind prog w).hash k.1,RE (PySem.strKind prog w) k.2])&&cK (KX [(PySem.strKind prog w).hash k.1,RE (PySem.strKind prog w) k.2]<2 ^ 63))=b6 then _ else _) Q E _;unfold pe reduceHash at h;by_cases hr:(cK (-(2:Int) ^ 63<=KX [(PySem.strKind prog w).hash k.1,RE (PySem.strKind prog w) k.2])&&cK (KX [(PySem.strKind prog w).hash k.1,RE (PySem.strKind prog w) k.2]<2 ^ 63))=b6
   .rw[Ř hr];rw[Ř hr]at h;show cL (by rw[j];show h)
   .rw[Ś hr];rw[Ś hr]at h;show bD (L5 (cL (by rw[j];show h)))
def qC(i:A.units<Ki)(j:bG prog w s.heap x a)(d:bG prog w s.heap y b)(h:P (.done (.ret (.bool (cK (x=y))))) s):
  eH (kj prog w) A (O5.«tuple.__eq__» ⟨[.ref a,.ref b],[]⟩) P E s:=by
 have k:=d.typeIs;obtain⟨D,G,l,f,m,_,n,o⟩:=j;obtain⟨H,I,p,g,q,_,t,B⟩:=d;change eH _ _ (ė (.ref b) (.type "tuple") >>= _) _ _ s;show bD (K2 k VC ?_);simp only[MX,ti,ş];show bD (W_ m n ?_);show bD (W_ q t ?_);show bD ?_;show Uy _
  (λc r s'=>r.1=b5/\s'=s/\((c=[(tr x.1 l,tr y.1 p),(mA f,mA g)])\/(c=[(mA f,mA g)]/\x.1=y.1)\/(c=[]/\x=y)))
  _ ?_ ?_ _ _ ⟨rfl,rfl,.inl rfl⟩
 .rintro⟨u,v⟩ c r s' ⟨hr,rfl,(e|⟨e,C⟩|⟨e,_⟩)⟩
  .cases e;show bD ((PySem.strKind prog w).eqBool (a:=x.1) (b:=y.1) (by simp[PySem.strKind,Oq]) (by simp[PySem.strKind,Oq]) ?_);by_cases hk:x.1=y.1
   .rw[ś hk];simp only[MX,ti,ş];show cL ⟨rfl,rfl,.inr (.inl ⟨by first|rfl|trivial,hk⟩)⟩
   .rw[ř hk];simp only[ď,Š];rw[ř (λz=>hk (by rw[z]))]at h;show bD (cL (cL (cL h)))
  .cases e;show bD (wpAny_eqBool_tuple i o B ?_);by_cases hk:x.2=y.2
   .rw[ś hk];simp only[MX,ti,ş];show cL ⟨rfl,rfl,.inr (.inr ⟨by first|rfl|trivial,Ws C hk⟩)⟩
   .rw[ř hk];simp only[ď,Š];rw[ř (λz=>hk (by rw[z]))]at h;show bD (cL (cL (cL h)))
  .cases e
 .rintro⟨J,L⟩ s' ⟨hr,rfl,(e|⟨e,_⟩|⟨_,rfl⟩)⟩
  .cases e
  .cases e
  .simp only at hr;subst hr;show cL ?_;rw[ś rfl]at h;show h
def jr(g:A.units+2<Ki)(c:bG prog w s.heap x a)(d:bG prog w s.heap y b)(h:Q (cK (x=y)) s):
  eH (kj prog w) A (eqBool (.ref a) (.ref b)) Q E s:=by
 unfold eqBool
 try with_reducible show uk ?_
 change eH _ _ (if (mA a==mA b)=b6 then _ else _) Q E s;by_cases f:(mA a==mA b)=b6
 .rw[Ř f];have e:a=b:=by have:=Û f;injection this
  subst e;obtain rfl:=c.inj d;show bD (L5 (cL (by simpa using h)))
 .rw[Ś f];show bD (wpAny_richCompare_same_room (op:=.Eq) c.typeIs d.typeIs PySem.F.slot_tuple_eq
   (va PySem.F.slot_tuple_eq c.typeIs PySem.F.entry_tuple_eq (qC (by first|(change A.units+1<Ki;lia)|(change A.units<Ki;lia)|(change A.units+1+1<Ki;lia)) c d ⟨_,rfl,(λe=>nomatch e),Kr h⟩) (PySem.F.args_tuple_eq_2 _ _)) ⋯)
def iJ(hk:ZV (PySem.strKind prog w) s.heap ks a)(h:Q b6 s):eH (kj prog w) A (Ð (n+1) (.ref a)) Q E s:=by
 have d:=hk.typeIs;obtain⟨o,c,j,ho,_,f,g⟩:=hk;unfold Ð;show bD (QG d PySem.F.slot_tuple_eq.lookup ?_);change eH _ _ (ė (.ref a) (.type "tuple") >>= _) _ _ s;show bD (K2 d VC ?_);simp only[MX,ti,ş];show bD (Lf ho f ?_);show bD ?_;change eH _ _ (ĉ c _ _) _ _ s;rw[<-N8];show Uy _ (λb r s'=>r.1=b5/\s'=s/\∀v∈b,carriedByValue v=b6) _ ?_ ?_ _ _ ⟨rfl,rfl,g.byValue⟩
 .rintro v b r s' ⟨hr,rfl,e⟩;rw[ħ _ (e v oT)];show bD (cL ?_);simp only[MX,ti,ş];show cL ⟨rfl,rfl,λu i=>e u (oW _ i)⟩
 .rintro⟨k,l⟩ s' ⟨hr,rfl,_⟩;simp only at hr;subst hr;show cL h
def j9(hk:bG prog w s.heap k a)(h:Q b6 s):eH (kj prog w) A (Ð 8 (.ref a)) Q E s:=by
 have d:=hk.typeIs;obtain⟨o,n,t,b,ho,_,f,g⟩:=hk;unfold Ð;show bD (QG d PySem.F.slot_tuple_eq.lookup ?_);change eH _ _ (ė (.ref a) (.type "tuple") >>= _) _ _ s;show bD (K2 d VC ?_);simp only[MX,ti,ş];show bD (Lf ho f ?_);show bD ?_;rw[<-N8];show Uy _ (λc r s'=>r.1=b5/\s'=s/\(c=[tr k.1 t,mA b]\/c=[mA b]\/c=[])) _ ?_ ?_ _ _ ⟨rfl,rfl,.inl rfl⟩
 .rintro v c r s' ⟨hr,rfl,(e|e|e)⟩
  .cases e;rw[ħ _ rfl];show bD (cL ?_);simp only[MX,ti,ş];show cL ⟨rfl,rfl,.inr (.inl (by first|rfl|trivial))⟩
  .cases e;show bD (iJ g ?_);simp only[MX,ti,ş];show cL ⟨rfl,rfl,.inr (.inr (by first|rfl|trivial))⟩
  .cases e
 .rintro⟨i,j⟩ s' ⟨hr,rfl,_⟩;simp only at hr;subst hr;show cL h
end
abbrev iK(prog:HP)(w:Km):HeapKind prog w (Str×List Str) where
 is:=bG prog w
 hash:=pe prog w
 draws:=λk=>k.2.length+3
 room:=λA=>A.units+2<Ki
 inj:=λa b=>a.inj b
 keeps:=λx ho d hs=>x.keeps ho d hs
 pyHash:=λc hk h=>jq ⋯ hk h
 eqBool:=λc a b h=>jr c a b h
 quiet:=λhk h=>j9 hk h
@[reducible]def mN:=Str×List Str
abbrev fS(K:PySem.W.Frag)(H:Hp)(v:V)(k:mN):Prop:=∃a b,v=.ref a/\IX K H a [.str k.1,.ref b]/\IX K H b (k.2.map V.str)
abbrev jO(P:HP)(w:Km)(d:i5)(xs:List (mN×i5×ez)):HO:=.ext λh=>(d==K1)=cb/\∃o es ep,h.get? d=a0 o/\o.ExactDict/\o.data=.dict es ep/\es.toList=xs.map (entryOfKey (iK P w))/\(xs.map (·.1)).Nodup
abbrev fH(P:HP)(w:Km)(K:PySem.W.Frag)(H:Hp)(d:i5)(ks:List mN):Prop:=∃xs,H d=a0 (jO P w d xs)/\xs.map (·.1)=ks/\∀x∈xs,fS K H (.ref x.2.1) x.1
theorem ll:∀{ks:List Str}{a:List ez},Vals (ks.map V.str) a->ItemsAre (PySem.strKind P w) ks a
 |[],_,.nil=>.nil
 |k::ks,_,.cons r t=>by
  have⟨b,rfl⟩:=r;show .cons (by simp[PySem.strKind,Oq]) (ll t)
def AQ(I:Inv X a σ H s)(e:IX X.K H b (ks.map V.str)):ZV (PySem.strKind X.prog X.w) s.heap ks b:=by
 obtain⟨c,r,⟨o,d,f,n,g⟩,_⟩:=I.tuple e;show⟨o,c.toArray,n,d,f,g,by simpa using ll r⟩
def ku(I:Inv X d σ H s)(e:fS X.K H (.ref a) k):bG X.prog X.w s.heap k a:=by
 have⟨a',b,q,f,g⟩:=e;cases q;obtain⟨p,r,⟨o,h,i,n,j⟩,_⟩:=I.tuple f;cases r with
 |cons l c =>
  cases c with
  |cons c m =>
   cases m;have⟨t,rfl⟩:=l;cases c;show⟨o,n,t,b,h,i,j,AQ I g⟩
section
def Inv.HN(I:Inv X a σ H s):K1<s.heap.objs.size:=by
 obtain⟨o,es,ep,ho,_⟩:=I.mod.glob;have b:@Pr Nat _ J8 s.heap.objs.size:=f6 (I.bk _ _ ho);obtain⟨e,⟨o',f,g,c,_⟩,_⟩:=I.mod.blt;have d:@Pr Nat _ Vi s.heap.objs.size:=f6 (I.bk _ _ c);revert b d;change @Pr Nat _ J8 s.heap.objs.size->@Pr Nat _ Vi s.heap.objs.size->@Pr Nat _ K1 s.heap.objs.size;unfold J8 Vi K1;lia
def lp(I:Inv X a σ H s)(h:H d=a0 (jO X.prog X.w d xs))(hk:∀x∈xs,fS X.K H (.ref x.2.1) x.1):(d==K1)=cb/\s.heap.DictOfH (iK X.prog X.w) d xs:=by
 obtain⟨⟨b,o,es,ep,c,e,f,g,i⟩,_⟩:=I.Ir d _ h;show⟨b,o,es,ep,c,e,f,g,λx j=>ku I (hk x j),i⟩
def CA(b:(d==K1)=cb)(x:h.DictOfH (iK P w) d xs):bL P w H' h d (jO P w d xs):=by
 obtain⟨o,es,ep,a,c,e,f,_,g⟩:=x;show⟨⟨b,o,es,ep,a,c,e,f,g⟩,⟨o,a⟩,λq a ⟨i,o,es,ep,j,l,m,n,p⟩ k=>⟨i,o,es,ep,k _ j,l,m,n,p⟩⟩
def AR:PE X (.Dict [] [] pos) (λ_ H Q=>∀p,H p=b5->Q (.ref p) (upd H p (jO X.prog X.w p []))):=λb s σ H Q I h =>
 Ĵ ⟨.ref s.heap.objs.size,_,I.laid (a:=s.heap.objs.size) (o:=jO X.prog X.w s.heap.objs.size []) (t':=s.toks) (λ_ _ q=>dt _ q) (lg _)
  (CA (Ş.mpr (vu (k7 I.HN))) (ł s.heap)),rfl,h _ (I.Ir.fresh (lg _))⟩
def h_(k:mN):(Wa xs k).isSome=cK (k∈xs.map (·.1)):=by
 unfold Wa;rw[SA,JM,List.find?_isSome,ŗ,gs];constructor
 .rintro⟨x,a,e⟩;show⟨x,a,Ŝ e⟩
 .rintro⟨x,a,e⟩;show⟨x,a,ś e⟩
def v8(o:X.A.units+3<Ki):J0 X (MO .NotIn) (λx y H Q=>∃k d ks,fS X.K H x k/\y=.ref d/\fH X.prog X.w X.K H d ks/\Q (.bl (!cK (k∈ks))) H):=by
 intro c s σ H x y v u Q I f g h;obtain⟨k,d,ks,e,rfl,⟨xs,i,j,l⟩,q⟩:=h;cases g;have⟨a,b,rfl,p,r⟩:=id e;cases f;have⟨m,n⟩:=lp I i l;show ļ (knd:=iK X.prog X.w) (k:=k) (by change X.A.units+1+2<Ki;lia) (ku I e) m n ?_;rw[h_,j];show⟨.bl _,H,I.tok _,rfl,q⟩
def AS(hu:X.A.units+3<Ki):kS X (λo i v H Q=>∃d k ks,o=.ref d/\fS X.K H i k/\fH X.prog X.w X.K H d ks/\k∉ks/\ks.length<=1000/\∀H',fH X.prog X.w X.K H' d (ks++[k])->(∀b,b≠d->H' b=H b)->Q H'):=by
 intro n s σ H o i v ov iv u Q I r t rv h;obtain⟨d,k,ks,rfl,f,⟨xs,c,g,p⟩,B,hl,q⟩:=h;cases r;have⟨a,b,rfl,e1,e2⟩:=id f;cases t;have⟨C,D⟩:=lp I c p;have G:xs.length<=dV:=by
  have:=ŝ G2 g;rw[df]at this;rw[this];show Nv (vY hl)
 show đ (hsz:=G) (knd:=iK X.prog X.w) (k:=k) (by change X.A.units+1+2<Ki;lia) (ku I f) D λh' j J=>?_;have L:Wa xs k=b5:=by
  have:=h_ (xs:=xs) k;rw[g,ř B]at this;cases e:Wa xs k with
  |none=>rfl
  |some _=>rw[e]at this;cases this
 rw[storedH_new L]at j;obtain⟨o',Il,LU,N,_⟩:=id j;show⟨upd H d (jO X.prog X.w d (xs++[(k,a,u)])),I.write (x:=d) (e:=d) (by rw[c];show VW) (.inl rfl) (λb q l z=>(J.2 b l).trans z) ⟨o',N⟩ (CA C j),q _ ⟨_,aI,by rw[my,g];rfl,λx O=>?_⟩ λb l=>aw l⟩;have kT:∀{a':i5} {ys:List V},IX X.K H a' ys->IX X.K (upd H d (jO X.prog X.w d (xs++[(k,a,u)]))) a' ys:=λ{a' ys} z=>by
  rcases z with(z|⟨o,z⟩)|z
  .show .inl (.inl (by rw[aw (xj z c (λz=>nomatch z))];show z))
  .show .inl (.inr ⟨o,by rw[aw (xj z c (λz=>nomatch z))];show z⟩)
  .show .inr z
 have keep:∀{y:V} {k':mN},fS X.K H y k'->fS X.K (upd H d (jO X.prog X.w d (xs++[(k,a,u)]))) y k':=λ{y k'} ⟨a',T,Y,z2,z3⟩=>⟨a',T,Y,kT z2,kT z3⟩
 rcases ko.mp O with m|m
 .show keep (p x m)
 .have:x=(k,a,u):=by simpa using m
  subst this;show keep f
end
abbrev Kq(a b:Str):Bool:=!cK (b.cps.toList<a.cps.toList)
def kA(a b:Str):Kq a b=b6↔a.cps.toList<=b.cps.toList:=by
 simp only[Kq,G1,decide_eq_false_iff_not];show List.not_lt
def nv(a b c:Str)(d:Kq a b=b6)(e:Kq b c=b6):Kq a c=b6:=by
 rw[kA]at d e ⊢;show List.le_trans d e
def v9(a b:Str):(Kq a b||Kq b a)=b6:=by
 rw[RU,kA,kA];show List.le_total _ _
def xX{x y:Str}(h:x.cps.toList=y.cps.toList):x=y:=by
 cases x;cases y;congr
 show ì.mp h
def ph(c:Kq a b=b6)(d:Kq b a=b6):a=b:=by
 rw[kA]at c d;show xX (List.le_antisymm c d)
abbrev aH(l:List Str):List Str:=l.mergeSort Kq
def bh(l:List Str):(aH l).Perm l:=List.mergeSort_perm l Kq
def bU(l:List Str):(aH l).Pairwise (λa b=>Kq a b=b6):=List.pairwise_mergeSort nv v9 l
theorem iL:∀(l:List Str) (p:Str),risingS p l=b6->(p::l).Pairwise (λa b=>Kq a b=b6)
 |[],p,_=>by simp
 |x::r,p,h=>by
  have h':(!ltCps x.cps.toList p.cps.toList&&risingS x r)=b6:=h;have⟨c,g⟩:=KR.mp h';have d:=iL r x g;have f:Kq p x=b6:=by rw[ltCps_eq]at c;show c
  show Sr.mpr ⟨λy i=>?_,d⟩;rcases ke.mp i with e|e
  .rw[e];show f
  .show nv _ _ _ f ((Sr.mp d).1 y e)
def pj(h:sortedS l=b6):l.Pairwise (λa b=>Kq a b=b6):=by
 cases l with
 |nil=>show .nil
 |cons x r=>show iL r x h
theorem eR:∀{l m:List Str},l.Perm m->l.Pairwise (λa b=>Kq a b=b6)->m.Pairwise (λa b=>Kq a b=b6)->l=m
 |[],m,c,_,_=>(List.Perm.nil_eq c)
 |x::l,m,c,d,f=>by
  cases m with
  |nil=>show absurd c.length_eq (by simp)
  |cons y m =>
   have⟨g,h⟩:=Sr.mp d;have⟨b1,i⟩:=Sr.mp f;have j:x=y:=by
    have m1:x∈y::m:=c.mem_iff.mp oT;have m2:y∈x::l:=c.mem_iff.mpr oT;rcases ke.mp m1 with e|e
    .show e
    .rcases ke.mp m2 with e'|e'
     .show e'.symm
     .show ph (g y e') (b1 x e)
   subst j;rw[eR (List.Perm.cons_inv c) h i]
def xY(a:l.Perm m)(hs:sortedS l=b6):l=aH m:=eR (a.trans (bh m).symm) (pj hs) (bU m)
def fT(a:l.Perm m):aH l=aH m:=eR ((bh l).trans (a.trans (bh m).symm)) (bU l) (bU m)
def cc(l:List Str):(aH l).length=l.length:=(bh l).length_eq
section
theorem cV:∀{ys:List Str}{a:List ez},Vals (ys.map V.str) a->RG a ys
 |[],_,.nil=>.nil
 |y::ys,_,.cons r t=>by
  have⟨b,rfl⟩:=r;show .cons y b (cV t)
theorem dH:∀{a:List ez}{ys:List Str},RG a ys->Vals (ys.map V.str) a
 |_,_,.nil=>.nil
 |_,_,.cons x t h=>.cons ⟨t,rfl⟩ (dH h)
theorem fq(hc:eH (kj prog w) A.in1 (à x) (λvs s1=>∃ss,RG vs ss/\vs.length<64 /\
      ∀(h':K9) (Jp:List ez) (e:Nat),(∀b o,s1.heap.get? b=a0 o->h'.get? b=a0 o)->h'.get? s1.heap.objs.size=a0 (KN "list" Jp.toArray e)->RG Jp (aH ss)->Q (.ref s1.heap.objs.size) {s1 with heap:=h' }) E s) :
    eH (kj prog w) A (Qz (.builtin "sorted") [x]) Q E s:=by
  refine YQ kind_sorted plain_sorted entry_sorted (args_sorted1 _) ?_;unfold O5.«sorted»;refine bD (m:=checkCount "sorted" 1 1 _) (cL ?_);refine bD (w6 hc (λvs s1 h1=>?_) λ_ _ e=>e);obtain⟨ss,hS,KI,h⟩:=h1
  refine wpAny_bind (wpAny_newList ?_ (by have : (64 : Nat) ≤ sizeLine := by decide
                                          lia))
  have MH:(s1.heap.push (KN "list" vs.toArray 0)).get? s1.heap.objs.size=a0 (KN "list" vs.toArray 0):=fx _ rfl;show eH _ _ _ _ _ {s1 with heap:=s1.heap.push (KN "list" vs.toArray 0)};refine bD (uk (va œ ⟨_,MH,rfl⟩ Ņ (list_sort_treeK strKind_oneLt MH hS.keysOf (λv₁ v₂ rest e=>keyKind_strs (by rw[<-e];exact hS)) KI λst' a1 a2=>⟨_,rfl,?_⟩) (Ŗ _)));obtain⟨KO,b1,b2,b3⟩:=sorted_out_str hS a1 a2;obtain⟨e,he⟩:=sortedHeap_at (out:=(arrOf st').map (·.2)) MH;rw[xY b2 b3]at b1;refine cL ⟨_,rfl,h _ ((arrOf st').map (·.2)).toList e (λb o q=>?_) (by rw[Array.toArray_toList];exact he) b1⟩;have IT:b<s1.heap.objs.size:=f6 q;show(Ě (s1.heap.push (KN "list" vs.toArray 0)) s1.heap.objs.size vs ((arrOf st').map (·.2))).get? b=a0 o;rw[Œ (k7 IT) (by rw[Nd];exact O9 IT)];exact dt _ q
def mO(hl:Ă s.heap l vs.toArray)
  (h:Q vs {s with heap:=(s.heap.push (KN "list" #[] 0)).update s.heap.objs.size (tj (·++vs.toArray))}) (hsz:vs.length<=dV) :
  eH (kj prog w) A (à (.ref l)) Q E s:=by
 have⟨o,ho,b,n,c⟩:=id hl;unfold à;show bD (ZE (NA entry_proto_collect' ?_));change eH _ _ (do Ő (.builtin "list.__iadd__" ⟨[<-Ħ [],.ref l],[]⟩)) _ _ s;show bD (Ã (cL ⟨Ô _ (by decide +kernel),NA entry_list_iadd' ?_⟩));change eH _ _ (NT (.ref s.heap.objs.size) (.ref l) (.ref s.heap.objs.size)) _ _ {s with heap:=s.heap.push (KN "list" #[] 0)};unfold NT;have a:(s.heap.push (KN "list" #[] 0)).get? l=a0 o:=dt _ ho;show bD (Tf (T:="tuple") ⟨o,a,b⟩ ?_);have d:(y2 "tuple"==y2 "tuple")=b6:=by rfl
 rw[Ř (by rw[d];simp)];show bD (é a c ?_);show bD (é (xs:=#[]) (n:=0) (fx _ rfl) rfl ?_);rw[Ś (by simp)];show bD (WZ (xs:=#[]) (n:=0) (fx _ rfl) rfl ?_ (mu _) (by change(#[]++vs.toArray).size<=dV+1;simp only[Wj,ki,Xr];lia));show cL ?_;change eH (kj prog w) A (do
   let o <-load s.heap.objs.size
   match o.data with
   |.seq xs _=>pure xs.toList
   |_=>Y7 "internal:collect") Q E {s with heap:=(s.heap.push (KN "list" #[] 0)).update s.heap.objs.size (tj (·++vs.toArray))}
 show bD (Ē (ń (fx _ rfl) _) ?_);change eH _ _ (pure ((#[]:Array ez)++vs.toArray).toList) Q E _;rw[show((#[]:Array ez)++vs.toArray).toList=vs by simp];show cL h
end
section
def mP{h:K9}{vs:List ez}(e:h.get? b=a0 o):((h.push (KN "list" #[] 0)).update h.objs.size (tj (·++vs.toArray))).get? b=a0 o:=by
 rw[PQ _ _ _ _ (k7 (f6 e))];show dt _ e
def qD(I:Inv X a σ H s)(k1:∀b o,s.heap.get? b=a0 o->s1.heap.get? b=a0 o)(h:∃d c,s1={s with heap:=d,toks:=c})
  (hk:∀b o,s1.heap.get? b=a0 o->h'.get? b=a0 o) (i:h'.get? s1.heap.objs.size=a0 (KN "list" f.toArray e)) (j:RG f (aH ss)) (hsz:s.heap.objs.size<=s1.heap.objs.size) (hl:ss.length<=dV)
  (q:∀p,H p=b5->Q (.ref p) (upd H p (.lst ((aH ss).map V.str)))):EP X a σ Q (.ref s1.heap.objs.size) {s1 with heap:=h' }:=by
 have⟨d,c,rfl⟩:=h;have g:Inv X a σ H {s with heap:=d,toks:=c}:=I.kept (t':=c) k1;show⟨.ref d.objs.size,_,g.laid (t':=c) (o:=.lst ((aH ss).map V.str)) hk (lg _) ⟨by rw[df,cc];show hl,f,e,dH j,i⟩,rfl,q _ (g.Ir.fresh (lg _))⟩
def jP:gQ X (.builtin "sorted") (λxs H Q=>∃(p:i5) (ys:List Str),xs=[.ref p]/\(Je X.K H p (ys.map V.str)\/IX X.K H p (ys.map V.str))/\ys.length<64/\∀q,H q=b5->Q (.ref q) (upd H q (.lst ((aH ys).map V.str)))):=by
 intro d s σ H xs us Q I rs h;have⟨p,ys,rfl,hq,k,q⟩:=h;have⟨u,rfl,r⟩:=vals1 rs;cases r;have hl:ys.length<=dV:=Nv (nc k (by decide));have f:∀(a:List ez),Vals (ys.map V.str) a->∀(h':K9) (c:List ez) (e:Nat),(∀b o,((s.heap.push (KN "list" #[] 0)).update s.heap.objs.size (tj (·++a.toArray))).get? b=a0 o->h'.get? b=a0 o) ->
   h'.get? ((s.heap.push (KN "list" #[] 0)).update s.heap.objs.size (tj (·++a.toArray))).objs.size=a0 (KN "list" c.toArray e)->RG c (aH ys) ->
   EP X d σ Q (.ref ((s.heap.push (KN "list" #[] 0)).update s.heap.objs.size (tj (·++a.toArray))).objs.size) {s with heap:=h' }:=λa rv h' c e hk g i =>
  qD (s1:={s with heap:=(s.heap.push (KN "list" #[] 0)).update s.heap.objs.size (tj (·++a.toArray))}) I (λb o z=>mP z) ⟨_,s.toks,rfl⟩ hk g i (by change s.heap.objs.size<=((s.heap.push (KN "list" #[] 0)).update s.heap.objs.size (tj (·++a.toArray))).objs.size;rw[Heap.size_update,Nd];show Qy _) hl q
 rcases hq with hq|hq
 .have⟨a,rv,j,hz⟩:=I.list hq;have l:a.length=ys.length:=by rw[<-rv.length,df]
  show fq (collect_list j.isList ⟨ys,cV rv,⋯,λh' c e hk g i=>f a rv h' c e hk g i⟩ ⋯)
 .have⟨a,rv,j,hz⟩:=I.tuple hq;have l:a.length=ys.length:=by rw[<-rv.length,df]
  show fq (mO j ⟨ys,cV rv,⋯,λh' c e hk g i=>f a rv h' c e hk g i⟩ ⋯)
end
@[reducible]def sK(P:HP)(w:Km):=PySem.strKind P w
abbrev aY(P:HP)(w:Km)(h:K9)(a:i5)(led:Bool)(D:List Str):Prop :=
 ∃(L:List (Str×Tok)) (es:Array (Int×ez)) (ep:Nat) (t:P0),h.get? a=a0 {cls:=.type "set",dict:=b5,data:=.set es ep t}/\es.toList=L.map (λp=>((sK P w).hash p.1,tr p.1 p.2)) /\
  (L.map (·.1)).Perm D/\D.Nodup/\t.fits es.size=b6/\es.size<K4/\t.led=led/\(es.size=0\/t.plain=cb)
section
def lq{L:List (Str×Tok)}:ElemsOf (sK prog w) (L.map λp=>((sK prog w).hash p.1,tr p.1 p.2)):=by
 intro e a;obtain⟨p,_,rfl⟩:=gs.mp a;show⟨⟨p.1,by simp[PySem.strKind,Oq],rfl⟩,rfl⟩
def gS(x y:Str)(t:Tok):(sK prog w).is x (.str y t)=cK (x=y):=by
 rw[JM];simp[PySem.strKind,Oq];show⟨λh=>h.symm,λh=>h.symm⟩
def sG(t:P0)(es:Array (Int×ez))(h:Int)(x:ez):(layNew t es h x).2.1.led=t.led:=by
 unfold layNew;split
 .change(Zt (t.put _).1 _).led=t.led;unfold Zt;split<;>rfl
 .rfl
def pk(t:P0)(es:Array (Int×ez))(n:Nat):(ZN t es n).2.1.led=t.led:=by
 unfold ZN;split
 .rename_i t' b a;have:t'.led=t.led:=by
   unfold Wq UL at a;cases c:Sl (MS n - 1) (es.map (·.1)) with
   |none=>rw[c]at a;cases a
   |some o=>rw[c]at a;cases a;rfl
  dsimp only
  split
  .show this
  .rfl
 .rfl
def lr(t:P0)(es:Array (Int×ez))(n:Nat)(h:t.plain=cb):(ZN t es n).2.1.plain=cb:=by
 unfold ZN;split
 .rename_i t' b a;have:t'.plain=t.plain:=by
   unfold Wq UL at a;cases c:Sl (MS n - 1) (es.map (·.1)) with
   |none=>rw[c]at a;cases a
   |some o=>rw[c]at a;cases a;rfl
  dsimp only
  split
  .rw[this];show h
  .rfl
 .rfl
def dg(h:l.Perm (L.map λp=>((sK prog w).hash p.1,tr p.1 p.2))):∃L':List (Str×Tok),l=L'.map (λp=>((sK prog w).hash p.1,tr p.1 p.2))/\L'.Perm L:=by
 have all:∀e∈l,∃p:Str×Tok,e=((sK prog w).hash p.1,tr p.1 p.2):=λe a=>by
  obtain⟨p,_,rfl⟩:=gs.mp (h.mem_iff.mp a);show⟨p,rfl⟩
 have ex:∀l:List (Int×ez),(∀e∈l,∃p:Str×Tok,e=((sK prog w).hash p.1,tr p.1 p.2))->∃L':List (Str×Tok),l=L'.map (λp=>((sK prog w).hash p.1,tr p.1 p.2)):=by
  intro l;induction l with
  |nil=>intro _;show⟨[],rfl⟩
  |cons e l c =>
   intro b;have⟨p,rfl⟩:=b e oT;have⟨L',rfl⟩:=c λe a=>b e (oW _ a);show⟨p::L',rfl⟩
 have⟨L',rfl⟩:=ex l all;show⟨L',rfl,?_⟩;have g:(L'.map λp=>((sK prog w).hash p.1,tr p.1 p.2)).map (λe=>match e.2 with|.str x t=>(x,t)|_=>(G0,0))=L':=by
  rw[et];show Z' _
 have d:(L.map λp=>((sK prog w).hash p.1,tr p.1 p.2)).map (λe=>match e.2 with|.str x t=>(x,t)|_=>(G0,0))=L:=by
  rw[et];show Z' _
 have:=h.map (λe=>match e.2 with|.str x t=>(x,t)|_=>(G0,0));rw[g,d]at this;show this
theorem lu(hS:aY prog w s.heap a led D)(M9:D.length+1<K4)
    (h:∀h',ri a s.heap h'->aY prog w h' a led (if x∈D then D else D++[x])->Q (cK (x∉D)) {s with heap:=h' }) :
    eH (kj prog w) A (setAddHashed a (.str x tk) ((sK prog w).hash x)) Q E s:=by
  obtain⟨L,es,ep,t,ho,Jq,Iu,II,hf,hb,Jv,Jo⟩:=hS;have NJ:(sK prog w).is x (.str x tk)=b6:=by rw[gS];simp
  have Pp:ElemsOf (sK prog w) es.toList:=by rw[Jq];exact lq
  have hlen:es.size=D.length:=by rw[<-lx,Jq,df,<-df (f:=Ď) (as:=L),Iu.length_eq]
  unfold setAddHashed setAddHashedIn;refine uk (bD (pb ho rfl hf ?_))
  dsimp only
  rw[byScan_of (knd:=sK prog w) rfl hb Pp];simp only[↓reduceIte];unfold setAddByScan;refine bD ?_;refine bD (L5 ?_);refine bD (İ (knd:=sK prog w) NJ ho rfl hf Pp ?_);have mem_iff:(∃e∈es.toList,(sK prog w).is x e.2=b6)↔x∈D:=by
    rw[Jq,<-Iu.mem_iff,gs];constructor
    · rintro⟨e,he,hi⟩
      obtain⟨p,hp,rfl⟩:=gs.mp he;rw[gS,ŗ]at hi;exact⟨p,hp,hi.symm⟩
    · rintro⟨p,hp,e⟩
      exact⟨_,gs.mpr ⟨p,hp,rfl⟩,by rw[gS];simp[e]⟩
  cases hr:Za (λe=>(sK prog w).is x e.2) es.toList with
  | some j =>
    dsimp only
    obtain⟨hj,QU,_⟩:=Wg.mp hr;have hx:x∈D:=mem_iff.mp ⟨es.toList[j],NI hj,QU⟩;refine cL (cL ?_);have e:s={s with heap:=s.heap}:=by cases s;rfl
    have:=h s.heap (LH a s.heap) (by rw[Ř hx];exact⟨L,es,ep,t,ho,Jq,Iu,II,hf,hb,Jv,Jo⟩);rw[ř (λz=>z hx)]at this;rw[e];exact this
  | none =>
    dsimp only
    have hx:x∉D:=λhx=>by
      obtain⟨e,he,hp⟩:=mem_iff.mpr hx;have:=Y4.mp hr e he;rw[hp]at this;exact Bool.noConfusion this
    have W5:∀(b:Bool) {s₁:gj} {Q':Unit->gj->Prop},Q' () s₁->eH (kj prog w) A (match b with|true=>ķ "set.scan.the-table-gave-way"|false=>pure ()) Q' E s₁ :=
      λb s₁ Q' hq=>by cases b<;>first|exact cL hq|exact L5 hq
    have OA:=layNew_perm t es ((sK prog w).hash x) (.str x tk);have Lb:=layNew_fits t es ((sK prog w).hash x) (.str x tk);have Kx:=sG t es ((sK prog w).hash x) (.str x tk);generalize hL:layNew t es ((sK prog w).hash x) (.str x tk)=NL at OA Lb Kx ⊢;obtain⟨Jj,t1,L6,W6⟩:=NL
    dsimp only at OA Lb Kx ⊢
    rw[Ü,Jq,show [((sK prog w).hash x,tr x tk)]=[(x,tk)].map (λp=>((sK prog w).hash p.1,tr p.1 p.2)) from rfl,<-my]at OA;obtain⟨L1,e1,W7⟩:=dg OA;have NK:Jj.size=D.length+1:=by rw[<-lx,OA.length_eq,df,i4,<-hlen,<-lx,Jq,df];rfl
    have U9:Jj.size<K4:=by lia
    have M_:(L1.map (·.1)).Perm (D++[x]):=(W7.map _).trans (by rw[my];exact Iu.append_right _);have U_:(D++[x]).Nodup:=by
      rw[rr]
      exact ⟨II, by simp, fun y hy z hz => by have : z = x := by simpa using hz
                                              subst this;rintro rfl;exact hx hy⟩
    refine bD (W5 _ ?_);have J7:∀h',ri a s.heap h'->aY prog w h' a led (D++[x])->Q b6 {s with heap:=h' }:=λh' sb hs=>by
      have:=h h' sb (by rw[Ś hx];exact hs);rw[ś hx]at this;exact this
    have tail:∀(g:Bool->Sem Unit),(∀(b:Bool) (s₁:gj) (Q':Unit->gj->Prop),Q' () s₁->eH (kj prog w) A (g b) Q' E s₁)->∀(R:Option Bool->gj->Prop),(∀h',ri a s.heap h'->aY prog w h' a led (D++[x])->R (a0 b6) {s with heap:=h' })->∀t2:P0,t2.fits Jj.size=b6->t2.led=led->t2.plain=cb->eH (kj prog w) A (do
        storeSet a Jj t2
        if (!L6&&t2.tooFull)=true then do
            g (relayAll t2 Jj (SetTable.grown Jj.size)).2.2
            storeSet a (relayAll t2 Jj (SetTable.grown Jj.size)).1 (relayAll t2 Jj (SetTable.grown Jj.size)).2.1
            pure (some true)
          else pure (a0 b6)) R E s:=by
      intro g hg R hR t2 W8 Lm ML;refine bD (Xz ho rfl ?_ (X1 U9));have Mt:(s.heap.update a (Qr Jj t2)).get? a=a0 {cls:=.type "set",dict:=b5,data:=.set Jj (ep+1) t2}:=by
        have:=Jx (Qr Jj t2) ho rfl;exact this
      have Pq:=KJ s.heap a (Qr Jj t2);split
      · have hp:=relayAll_perm t2 Jj (OT Jj.size)
        have Mu:=relayAll_fits t2 Jj (OT Jj.size);have SJ:=pk t2 Jj (OT Jj.size);have OB:=lr t2 Jj (OT Jj.size) ML;generalize SM:ZN t2 Jj (OT Jj.size)=Rl at hp Mu SJ OB ⊢;obtain⟨MM,t3,U'⟩:=Rl
        dsimp only at hp Mu SJ OB ⊢
        rw[e1]at hp;obtain⟨L2,e2,W9⟩:=dg hp;have hsz:MM.size=Jj.size:=by rw[<-lx,hp.length_eq,<-e1,lx]
        refine bD (hg _ _ _ ?_);refine bD (Xz Mt rfl ?_ (X1 ⋯));have M':((s.heap.update a (Qr Jj t2)).update a (Qr MM t3)).get? a=a0 {cls:=.type "set",dict:=b5,data:=.set MM (ep+1+1) t3}:=Jx (Qr MM t3) Mt rfl;refine cL (hR _ (Pq.trans (KJ _ a _)) ⟨L2,MM,_,t3,M',e2,(W9.map _).trans M_,U_,Mu,⋯,SJ.trans Lm,.inr OB⟩)
      · exact cL (hR _ Pq ⟨L1,Jj,_,t2,Mt,e1,M_,U_,W8,U9,Lm,.inr ML⟩)
    split
    · rename_i hp
      refine bD ?_;rw[hashByValue_scannable 8 rfl];refine cL ?_;have ep:(if plainKind (tr x tk)=b6 then t1 else {t1 with plain:=cb})={t1 with plain:=cb}:=rfl;rw[ep];refine tail _ ?_ _ ?_ {t1 with plain:=cb} (SetTable.fits_plain_off Lb) (Kx.trans Jv) rfl
      · intro b s₁ Q' hq;cases b<;>first|exact cL hq|exact L5 hq
      · intro h' MN LD;dsimp only;exact cL (J7 h' MN LD)
    · rename_i hp
      refine bD (cL ?_);simp only[↓reduceIte];refine tail _ ?_ _ ?_ t1 Lb (Kx.trans Jv) (Bool.eq_false_iff.mpr hp)
      · intro b s₁ Q' hq;cases b<;>first|exact cL hq|exact L5 hq
      · intro h' MN LD;dsimp only;exact cL (J7 h' MN LD)
end
abbrev j_(D:List Str)(x:Str):List Str:=if x∈D then D else D++[x]
abbrev ax(l:List Str):List Str:=l.foldl j_ []
theorem sH(h:D.Nodup):(j_ D x).Nodup:=by
  unfold j_;split
  · exact h
  · rename_i hx
    rw[rr]
    exact ⟨h, by simp, fun y hy z hz => by have : z = x := by simpa using hz
                                           subst this;rintro rfl;exact hx hy⟩
theorem ft:∀(l D:List Str),D.Nodup->(l.foldl j_ D).Nodup/\(∀x,x∈l.foldl j_ D↔x∈D\/x∈l)/\(l.foldl j_ D).length<=D.length+l.length
 |[],D,h=>⟨h,by simp,by simp⟩
 |y::l,D,h=>by
  have⟨a,b,f⟩:=ft l (j_ D y) (sH h);have c:∀x,x∈j_ D y↔x∈D\/x=y:=λx=>by
   unfold j_;split
   .rename_i d;show⟨.inl,λz=>z.elim id (λe=>e▸d)⟩
   .simp
  have hl:(j_ D y).length<=D.length+1:=by
   unfold j_;split
   .lia
   .simp
  show⟨a,λx=>?_,by rw[Ua,mh];lia⟩;rw[Ua,b,c,ke,or_assoc]
def aQ(l:List Str):(ax l).Nodup:=(ft l [] U8).1
def aP(l:List Str)(x:Str):x∈ax l↔x∈l:=by rw[ax,(ft l [] U8).2.1];simp
def ia(l:List Str):(ax l).length<=l.length:=by have:=(ft l [] U8).2.2;simpa[ax] using this
def qE(l:List Str)(x:Str):ax (l++[x])=j_ (ax l) x:=by unfold ax;rw[List.foldl_append];rfl
section
variable{prog:HP}{w:Km}{A:NU}{R:Result->gj->Prop}{I:i5}{fp wr:List i5}{G:Array GenState->Array GenState->Prop}{n:Nat}{P:Nat->ez->Prop}{St:Nat->gj->Prop}
def js(W:WalksS prog w A.in1 I fp wr G n P St)(S:i5)(l:S∉fp)(led:Bool)
  (ys:List Str) (hn:ys.length=n) (u:∀i v,P i v->∃x t,ys[i]?=a0 x/\v=.str x t) (c:n+1<K4) :
  ∀(k i:Nat) (s:gj),n - i=k->i<=n->St i s->aY prog w s.heap S led (ax (ys.take i)) ->
   (∀s',Moved (S::wr) G s s'->aY prog w s'.heap S led (ax ys)->R (.ok (.ret .none)) s') ->
   T6 (kj prog w) A (.builtin "set.update.loop" ⟨[.ref S,.ref I],[]⟩) R s:=by
 have m:S∉wr:=λh=>l (W.sub _ h);have p:∀b∈wr,b∈S::wr:=λb c=>oW _ c;intro k;induction k with
 |zero =>
  intro i s hk y g f j;have z:i=n:=by lia
  subst z;show NA Tz ?_;rw[O8 OJ _];change eH _ A.in1 (R7 (.ref I) >>= _) _ _ s;show bD (W.done s _ _ g λs' d=>?_);change eH _ A.in1 (ret ro) _ _ s';rw[N' ⋯]at f;show cL (j s' (d.mono p) (by
   have⟨L,es,ep,t,ho,a⟩:=f;show⟨L,es,ep,t,d.heap S _ m ho,a⟩))
 |succ k B =>
  intro i s hk y g f j;have q:i<n:=by lia
  show NA Tz ?_;rw[O8 OJ _];change eH _ A.in1 (R7 (.ref I) >>= _) _ _ s;show bD (W.item i s _ _ q g λv s' C D d=>?_);have⟨x,t,H,rfl⟩:=u i v C;have J:aY prog w s'.heap S led (ax (ys.take i)):=by
   have⟨L,es,ep,N,ho,a⟩:=f;show⟨L,es,ep,N,d.heap S _ m ho,a⟩
  change eH _ A.in1 (N_ [tr x t] (setAdd S (.str x t)) >>= _) _ _ s';show bD (uk ?_);unfold setAdd;show uk ?_;show bD ((sK prog w).pyHash (k:=x) (by rw[gS];simp) ?_);have O:(ax (ys.take i)).length+1<K4:=by have:=ia (ys.take i);rw[KP]at this;lia
  show lu (s:={s' with toks:=s'.toks+1}) J O λh' r Q=>?_;have T:aY prog w h' S led (ax (ys.take (i+1))):=by
   rw[List.take_add_one,H];change aY prog w h' S led (ax (ys.take i++[x]));rw[qE];show Q
  show cL ⟨WJ OJ _,B (i+1) _ ⋯ q (W.frame _ s' _ _ D (Qy _) λb c o e=>?_) T λY SO SQ=>?_⟩
  .rw[r.2 b (λh:b=S=>l (by rw[<-h];show c))];show e
  .show j Y (Moved.trans W.gtrans ((d.mono p).then_heap (Qy _) λb o c e=>?_) SO) SQ;rw[r.2 b (λh:b=S=>c (by rw[h];show oT))];show e
end
section
def mQ(a:ez)
  (h:Q₁ (.ref s.heap.objs.size) {s with heap:=s.heap.push {cls:=.type "set",dict:=b5,data:=.set #[] 0 (.fresh 0 0 (!w.params.followText "set-order"))}}) :
  T6 (kj prog w) A (.call (.builtin "set.__new__") ⟨[.type "set",a],[]⟩) (wants Q₁ E) s:=by
 show ŀ ?_;change eH _ A.in1 (do checkBuiltinCall "set.__new__" ⟨[.type "set",a],[]⟩;Ő (.builtin "set.__new__" ⟨[.type "set",a],[]⟩)) _ _ s;show bD (Y6 (PySem.F.newCall_set_1 a) (cL ⟨WJ PySem.F.plain_set_new _,NA PySem.F.entry_set_new ?_⟩));rw[O8 PySem.F.plain_set_new _];unfold O5.«set.__new__» Ā;have b:=XS;have⟨c,g,d,e,os⟩:=s
 dsimp only
 wp_walk
 show R4 (cL ?_)
 dsimp only
 simp only[newObj];show bD (ø (cL ?_));show cL h
def ib(b:h.get? a=a0 {cls:=.type "set",dict:=b5,data:=.set #[] 0 (.fresh 0 0 led)}):aY prog w h a led [] :=
 ⟨[],#[],0,_,b,rfl,.nil,U8,rfl,by unfold K4;decide,rfl,.inl rfl⟩
end
def sub_tuple_set:R8 (.type "tuple") (.type "set")=pure cb:=by rw[Mm];kernel_rfl
def sub_tuple_frozenset:R8 (.type "tuple") (.type "frozenset")=pure cb:=by rw[Mm];kernel_rfl
section
@[reducible]def aN(w:Km):Bool:=!w.params.followText "set-order"
@[reducible]def sI(led:Bool):Obj:={cls:=.type "set",dict:=b5,data:=.set #[] 0 (.fresh 0 0 led)}
def iM
  (H:s.TypeIs (.ref l) T) (Xa:R8 (.type T) (.type "set")=pure cb) (Xb:R8 (.type T) (.type "frozenset")=pure cb) (IZ:(y2 T==y2 "dict")=cb)
  (J:ys.length+1<K4)
  (j:∀(s1:gj) (B:NU) (Q':ez->gj->Prop),B.handled=A.handled->(∀b o,s.heap.get? b=a0 o->s1.heap.get? b=a0 o)->s.heap.objs.size<s1.heap.objs.size ->
   (∀I k m G P St a,WalksS prog w B.in1 I k m G ys.length P St->(∀g g',G g g'->g'=g)->s.heap.objs.size∉k->(∀b∈m,s.heap.objs.size<b)->(∀i v,P i v->∃x t,ys[i]?=a0 x/\v=.str x t)->St 0 {s1 with heap:=a}->(∀b o,s1.heap.get? b=a0 o->a.get? b=a0 o)->Q' (.ref I) {s1 with heap:=a})->eH (kj prog w) B (ZQ (.ref l)) Q' E s1)
  (h:∀(h':K9) (d:Nat),aY prog w h' s.heap.objs.size (aN w) (ax ys)->(∀b o,b<s.heap.objs.size->s.heap.get? b=a0 o->h'.get? b=a0 o)->Q (.ref s.heap.objs.size) {s with heap:=h',toks:=d}) :
  eH (kj prog w) A (Qz (.type "set") [.ref l]) Q E s:=by
 have⟨c,tl,Xc⟩:=PySem.F.called_set.mro;have Lc:=PySem.F.called_set.made;have Lo:=PySem.F.called_set.sub;show wpAny_call (ŀ ?_);change eH _ _ (callAny (.type "set") _) _ _ _;show cL ⟨Ô _ (by decide +kernel),NA PySem.F.entry_type_call ?_⟩;rw[Around.under_plain (weight_type_call_type "set" [.ref l] []) rfl];have a:=PySem.F.called_set.notType;have h2:=PySem.F.called_set.canCreate;have Zq:=PySem.F.typeCall_set_1 (.ref l)
 repeat (any_goals (first|assumption|wp_step))
 show Vf (mQ (.ref l) (E:=E) (Q₁:=λobj u=>obj=.ref s.heap.objs.size/\u={s with heap:=s.heap.push (sI (aN w))}) ⟨rfl,rfl⟩) λr u hr=>?_;cases r with
 |error e=>show hr
 |ok L =>
  cases L with
  |ret obj =>
   have⟨rfl,rfl⟩:=hr;have y:(s.heap.push (sI (aN w))).get? s.heap.objs.size=a0 (sI (aN w)):=fx _ rfl;have N:SV {s with heap:=s.heap.push (sI (aN w))} (.ref s.heap.objs.size) "set":=⟨_,y,rfl⟩
   have Zr:=PySem.F.called_set.init.lookup;have SR:=PySem.F.called_set.init.bind (.ref s.heap.objs.size)
   repeat (any_goals (first|assumption|wp_step))
   show Vf (codeAny_call_builtin (R:=wants (λr C=>r=.none/\∃h' d,C={s with heap:=h',toks:=d} /\
     aY prog w h' s.heap.objs.size (aN w) (ax ys) /\
     (∀b o,b<s.heap.objs.size->s.heap.get? b=a0 o->h'.get? b=a0 o)) E) PySem.F.called_set.init.plain PySem.F.entry_set_init (check_set_init_1 N ?_)) λO C n=>?_
   .have⟨Y,Pu,D⟩:=H;have⟨Xd,Pw,Px,NO⟩:=Y;simp only at D;subst D;have SU:(s.heap.push (sI (aN w))).get? l=a0 {cls:=.type T,dict:=Pw,data:=Px,slots:=NO}:=dt _ Pu;have Vb:SV {s with heap:=s.heap.push (sI (aN w))} (.ref l) T:=⟨_,SU,rfl⟩
    unfold O5.«set.__init__» noKeywords þ;generalize Xe:ZQ=PI
    wp_walk
    subst Xe;show j {s with heap:=s.heap.push (sI (aN w))} _ _ rfl (λb o e=>dt _ e) (by rw[Nd];show T3 _) λI k m G P St a W hG hf Xf NM IB hk=>?_;show bD (ZE ?_);show js W s.heap.objs.size hf (aN w) ys rfl NM J (ys.length - 0) 0 _ ⋯ (mu _) IB (ib (hk _ _ y)) ?_;intro s' f p;have⟨h',g',d',Xg,R5⟩:=s';have eg:g'=s.gens:=hG _ _ f.gens;have ed:d'=s.drawn:=f.drawn;have eo:R5=s.os:=f.os;subst eg;subst ed;subst eo;change eH _ _ _ _ _ _;show cL ?_;change eH _ _ (ret ro) _ _ _;show cL ⟨rfl,h',Xg,rfl,p,λb o q e=>?_⟩;show f.heap b o (λz=>by
     rcases ke.mp z with z|z
     .rw[z]at q;show wk _ q
     .show absurd (Xf b z) (Nat.not_lt_of_lt q)) (hk _ _ (dt _ e))
   .cases O with
    |error e=>show n
    |ok Xh =>
     cases Xh with
     |ret r =>
      have⟨rfl,h',d,rfl,p,JN⟩:=n
      repeat (any_goals (first|assumption|wp_step))
      show h _ _ p JN
     |_=>show n.elim
  |_=>show hr.elim
end
section
theorem pq:∀{vs:List ez}{ss:List Str},RG vs ss->∀(i:Nat) (v:ez),vs[i]?=a0 v->∃x t,ss[i]?=a0 x/\v=.str x t
 |_,_,.nil,i,v,h=>by simp at h
 |_,_,.cons x t h,0,v,e=>by simp at e;show⟨x,t,rfl,e.symm⟩
 |_,_,.cons x t h,i+1,v,e=>by rw[TQ]at e;rw[TQ];show pq h i v e
theorem iN:∀{vs:List ez}{ss:List Str},RG vs ss->vs.length=ss.length
 |_,_,.nil=>rfl
 |_,_,.cons x t h=>by simp[iN h]
def um(a:n≠S)(b:n≠l):n∉[S,l]:=by simp[a,b]
def fU(hh:A.handled=b5)(hl:s.heap.IsList l vs.toArray)(d:RG vs ys)(a:ys.length+1<K4)
  (h:∀(h':K9) (g:Nat),aY prog w h' s.heap.objs.size (aN w) (ax ys)->(∀b o,b<s.heap.objs.size->s.heap.get? b=a0 o->h'.get? b=a0 o)->Q (.ref s.heap.objs.size) {s with heap:=h',toks:=g}) :
  eH (kj prog w) A (Qz (.type "set") [.ref l]) Q E s:=by
 have f:l<s.heap.objs.size:=let ⟨o,ho,_⟩:=hl;f6 ho;show iM hl.typeIs PySem.F.sub_list_set PySem.F.sub_list_frozenset (by decide) a (λs1 B Q' j hk c k=>?_) h;have Kx:s1.heap.IsList l vs.toArray:=let ⟨o,ho,r⟩:=hl;⟨o,hk _ _ ho,r⟩;show RC Kx ?_;have m:l≠s1.heap.objs.size:=k7 (T' f c);have W:=(Æ (prog:=prog) (w:=w) (A:=B.in1) (by simp[j,hh]) s1.heap.objs.size l m vs.toArray).toS;have n:vs.toArray.size=ys.length:=by simp[iN d]
 rw[n]at W;show k _ _ _ _ _ _ _ W (λ_ _ e=>e) (um (k7 c) (vr f)) (λb a=>by rw[ix.mp a];show c) (λi v p=>pq d i v (by simpa using p)) ⟨⟨_,fx _ rfl,rfl,rfl⟩,Kx.push _⟩ λb o e=>dt _ e
def gT(hh:A.handled=b5)(hl:s.heap.IsTuple l vs.toArray)(d:RG vs ys)(a:ys.length+1<K4)
  (h:∀(h':K9) (g:Nat),aY prog w h' s.heap.objs.size (aN w) (ax ys)->(∀b o,b<s.heap.objs.size->s.heap.get? b=a0 o->h'.get? b=a0 o)->Q (.ref s.heap.objs.size) {s with heap:=h',toks:=g}) :
  eH (kj prog w) A (Qz (.type "set") [.ref l]) Q E s:=by
 have f:l<s.heap.objs.size:=let ⟨o,ho,_⟩:=hl;f6 ho;show iM hl.typeIs sub_tuple_set sub_tuple_frozenset (by decide) a (λs1 B Q' j hk c k=>?_) h;have Kx:s1.heap.IsTuple l vs.toArray:=let ⟨o,ho,r⟩:=hl;⟨o,hk _ _ ho,r⟩;show OX Kx ?_;have m:l≠s1.heap.objs.size:=k7 (T' f c);have W:=(Walks.tuple (prog:=prog) (w:=w) (A:=B.in1) (by simp[j,hh]) s1.heap.objs.size l m vs.toArray).toS;have n:vs.toArray.size=ys.length:=by simp[iN d]
 rw[n]at W;show k _ _ _ _ _ _ _ W (λ_ _ e=>e) (um (k7 c) (vr f)) (λb a=>by rw[ix.mp a];show c) (λi v p=>pq d i v (by simpa using p)) ⟨⟨_,fx _ rfl,rfl,rfl⟩,let ⟨o,ho,r⟩:=Kx;⟨o,dt _ ho,r⟩⟩ λb o e=>dt _ e
def pw(a:n≠0)(h:∀i<n,Q i {s with drawn:=s.drawn.bump src}):eH M A (choose src n) Q E s:=λΓ p b=>by
 change Sem.wp M Γ (.choose src n .pure) _ _ p s;rw[Sem.wp_choose];show⟨a,h _ (T7 _ (Nat.pos_of_ne_zero a))⟩
theorem ic:∀{xs:List α}{i:Nat}{x:α},xs[i]?=a0 x->(x::xs.eraseIdx i).Perm xs
 |[],i,x,h=>by simp at h
 |y::ys,0,x,h=>by simp at h;subst h;show .refl _
 |y::ys,i+1,x,h=>by
  rw[TQ]at h;rw[Zi];show(Ë y x _).trans ((ic h).cons y)
theorem gU:∀(n:Nat) (xs:List α) (s:gj) (Q:List α->gj->Prop),xs.length=n->(∀ys d,ys.Perm xs->Q ys {s with drawn:=d})->eH M A (drawOrder n xs) Q E s
 |0,xs,s,Q,a,h=>by
  have:xs=[]:=TN.mp a;subst this;show cL (h [] s.drawn (.refl _))
 |n+1,[],s,Q,a,h=>by simp at a
 |n+1,y::ys,s,Q,a,h=>by
  change eH M A (choose .order (y::ys).length >>= _) Q E s;show bD (pw (by simp) λi b=>?_);have e:(y::ys)[i]?=a0 ((y::ys)[i]'b):=IV b;have c:=ic e;generalize (y::ys)[i]'b=x at e c;simp only[e];show bD (gU n _ _ _ (by have:=c.length_eq;simp at this a ⊢;lia) λf d hz=>?_);show cL (h (x::f) d ((hz.cons x).trans c))
theorem jQ(next:Nat->Nat):∀(fuel k:Nat) (left:List α) (out:Array α),left.length=fuel->(X0 next fuel k left out).toList.Perm (out.toList++left)
 |0,k,left,out,hl=>by
  have:left=[]:=TN.mp hl;subst this;simp[X0]
 |fuel+1,k,left,out,hl=>by
  unfold X0;have a:next k % left.length<left.length:=T7 _ ⋯;have e:left[next k % left.length]?=a0 (left[next k % left.length]'a):=IV a;have b:=ic e;generalize left[next k % left.length]'a=x at e b;simp only[e];show(jQ next fuel _ _ _ (by have:=b.length_eq;simp at this;lia)).trans ?_;rw[Ü,Tw];show(b.append_left _)
def dW(next:Nat->Nat)(xs:Array α):(YT next xs).toList.Perm xs.toList:=by
 have:=jQ next xs.size 0 xs.toList #[] (by simp);simpa[YT] using this
end
namespace SI
def qF:Manifest.owners.lookup (String.ofList ['r','o','t','a','r','e','t','i','_','t','e','s'].reverse)=a0 Manifest.sig_set_iterator:=by kernel_rfl
def slot_next:Slot "set_iterator" "__next__" "set_iterator.__next__" :=
 .of (owner:="set_iterator") (n:="__next__") (by rw[Ze,VF];kernel_rfl) (by decide +kernel) (by decide +kernel) (by decide +kernel)
  (by first|show .inl (by decide +kernel)|show .inr (by decide +kernel)) (by rw[Mm];kernel_rfl)
def entry_next:û table "set_iterator.__next__"=a0 O5.«set_iterator.__next__»:=entryFor_of_tree (by kernel_rfl)
def args_next(a:ez):ŏ "set_iterator.__next__" ⟨[a],[]⟩:=by
 unfold ŏ;rw[signature?_of (id:="set_iterator.__next__") (n:=['_','_','t','x','e','n','_','_']) (o:=['r','o','t','a','r','e','t','i','_','t','e','s']) (by kernel_rfl) qF];kernel_rfl
def ny:Slot "set_iterator" "__iter__" "set_iterator.__iter__" :=
 .of (owner:="set_iterator") (n:="__iter__") (by rw[Ze,VF];kernel_rfl) (by decide +kernel) (by decide +kernel) (by decide +kernel)
  (by first|show .inl (by decide +kernel)|show .inr (by decide +kernel)) (by rw[Mm];kernel_rfl)
def v_(a:ez):ŏ "set_iterator.__iter__" ⟨[a],[]⟩:=by
 unfold ŏ;rw[signature?_of (id:="set_iterator.__iter__") (n:=['_','_','r','e','t','i','_','_']) (o:=['r','o','t','a','r','e','t','i','_','t','e','s']) (by kernel_rfl) qF];kernel_rfl
def sJ:û table "set_iterator.__iter__"=a0 O5.«dict_keyiterator.__iter__» :=
 ZU (id':="dict_keyiterator.__iter__") (by kernel_rfl) (by first|rfl|decide +kernel|(unfold String.splitOn;simp +decide [String.splitOnAux])) (by decide +kernel) (by kernel_rfl)
def ly:û table "set.__iter__"=a0 O5.«frozenset.__iter__» :=
 ZU (id':="frozenset.__iter__") (by kernel_rfl) rfl (by decide +kernel) (by kernel_rfl)
end SI
section
variable{prog:HP}{w:Km}{A:NU}{E:ez->gj->Prop}{s:gj}
abbrev ie(h:K9)(I:i5)(first:ez)(i:Nat)(S:i5)(n ep:Nat):Prop:=∃o,h.get? I=a0 o/\o.cls=.type "set_iterator"/\o.data=.fields #[first,H8 i,.ref S,H8 n,H8 ep]
def ie.typeIs(x:ie s.heap I f i S n ep):s.TypeIs (.ref I) "set_iterator":=let ⟨o,ho,a,_⟩:=x;⟨o,ho,a⟩
def AU(a:ie s.heap I f i S n ep)(h:Q (.ref I) s):eH (kj prog w) A (ZQ (.ref I)) Q E s:=by
 show Ģ a.typeIs SI.ny (va SI.ny a.typeIs SI.sJ ?_ (SI.v_ _));change eH _ _ (ret (.ref I)) _ _ s;show cL ⟨_,rfl,"set_iterator",_,a.typeIs,SI.slot_next.lookup,h⟩
def cW(h:Q (M.w.params.followText "set-order") s):eH M A Ė Q E s:=by
 unfold Ė;show bD (R4 (cL h))
end
end L2
namespace L2
open PySem PySem.Spec PyProof.Rows
section
variable{prog:HP}{w:Km}{A:NU}{E:ez->gj->Prop}{s:gj}
@[reducible]def pz(es:Array (Int×ez))(ep:Nat)(t:P0):Obj:={cls:=.type "set",dict:=b5,data:=.set es ep t}
def qG{I:i5}{B:NU}{Q:Option ez->gj->Prop}{c:K9}{k:ez->Sem (Option ez)}(hh:B.handled=b5)
  (d:∀h',(∀b o,c.get? b=a0 o->h'.get? b=a0 o)->∀e,SV {s with heap:=h' } e "StopIteration"->E e {s with heap:=h' }) {Q':Fin->gj->Prop} :
  eH (kj prog w) B (ß (.type "StopIteration") [] >>= λe=>(ZO e:Sem Fin)) Q' E {s with heap:=c}:=by
 show bD ?_;simp only[ß,Ō];show bD (vl ?_ (by size_fits));show bD (m:=V5 _ _) (Y6 (a:=ro) (by first|rfl|(simp only[V5];rfl)) ?_);show vl ?_ (by size_fits);simp only[ZO];show bD (wpAny_handled ?_);rw[hh];show bD (cL (wpAny_throw ?_));show d _ (λb o e=>dt _ (dt _ e)) _ ⟨_,fx _ rfl,rfl⟩
def uo{I S:i5}{first:ez}{i ep:Nat}{es:Array (Int×ez)}{t:P0}(d:ie s.heap I first i S es.size ep)(ho:s.heap.get? S=a0 (pz es ep t))(j:t.fits es.size=b6)
  (k:∀(Q':Fin->gj->Prop) (h:ez->gj->Prop) ,(∀v s',Q (a0 v) s'->Q' (.done (.ret v)) s')->(∀e s',s'.TypeIs e "StopIteration"->Q b5 s'->h e s') ->
   eH (kj prog w) A.in1 (if let .int slot _:=first then(do
     match <-XX S slot.toNat i ep with
     |some (x,next) =>
      XY (.ref I) 0 (H8 next)
      XY (.ref I) 1 (H8 ((i:Int)+1))
      ret x
     |none=>XY (.ref I) 2 .none;ZO (<-ß (.type "StopIteration") []))
    else(do
     let a0 c <-Ï first|unsupported "internal:set_iterator"
     match c[i]? with
     |some (.int f _) =>
      let x <-Þ S f.toNat ep
      XY (.ref I) 1 (H8 ((i:Int)+1))
      ret x
     |some _=>Y7 "internal:set_iterator"
     |none=>XY (.ref I) 0 (H8 0);XY (.ref I) 2 .none;ZO (<-ß (.type "StopIteration") []))) Q' h s):eH (kj prog w) A (R7 (.ref I)) Q E s:=by
 have⟨o,l,n,m⟩:=id d;unfold R7;show bD (WD (JS (name:=Og "__next__") d.typeIs SI.slot_next
  (va SI.slot_next d.typeIs SI.entry_next ?_ (SI.args_next _))))
 unfold O5.«set_iterator.__next__»;show bD (Y6 (a:=(mA I,[])) rfl ?_)
 try dsimp only
 show bD (wpAny_fieldsOf l m ?_)
 try dsimp only
 show bD (SS ho rfl j ?_);rw[Ś (by simp)];show w6 (k (λg s'=>∃r,g=.done (.ret r)/\Q (a0 r) s') (λe s'=>s'.TypeIs e "StopIteration"/\Q b5 s') (λv s' q=>⟨v,rfl,q⟩) λe s' z q=>⟨z,q⟩) ?_ ?_
 .rintro g s' ⟨r,rfl,q⟩;show⟨r,rfl,cL q⟩
 .rintro e s' ⟨z,q⟩;show bD (K2 (T:="StopIteration") (b:=b6) z V3 ?_);show cL q
end
section
def ur{I S:i5}{f f':ez}{i n ep:Nat}{h:K9}{o:Obj}(b:h.get? I=a0 o)(c:o.cls=.type "set_iterator")(a:o.data=.fields #[f,H8 i,.ref S,H8 n,H8 ep]):
  ie (h.update I (ī (·.setIfInBounds 1 (H8 ((i:Int)+1))))) I f (i+1) S n ep :=
 ⟨_,Jx _ b (UP (Oh a _)),(WA ..).trans c,by rw[Oh a];simp⟩
def qH{h:K9}(b:h.get? I=a0 o)(c:o.cls=.type "set_iterator")(a:o.data=.fields #[f,H8 i,.ref S,H8 n,H8 ep]):
  ∃o',(h.update I (ī (·.setIfInBounds 0 f'))).get? I=a0 o'/\o'.cls=.type "set_iterator"/\o'.data=.fields #[f',H8 i,.ref S,H8 n,H8 ep] :=
 ⟨_,Jx _ b (UP (Oh a _)),(WA ..).trans c,by rw[Oh a];simp⟩
def xZ{I S:i5}{slot i ep:Nat}{es:Array (Int×ez)}{t:P0}{Q:Option ez->gj->Prop}(a:ie s.heap I (H8 slot) i S es.size ep)(ho:s.heap.get? S=a0 (pz es ep t))(j:t.fits es.size=b6)(hh:A.handled=b5)
  {r:Option (ez×Nat)} (l:∀(B:NU) (f:ez->gj->Prop) (Q':Option (ez×Nat)->gj->Prop),Q' r s->eH (kj prog w) B (XX S slot i ep) Q' f s)
  (m:∀x nx,r=a0 (x,nx)->∀h',ie h' I (H8 nx) (i+1) S es.size ep->ri I s.heap h'->Q (a0 x) {s with heap:=h' })
  (n:r=b5->∀h',(∀b o,b≠I->s.heap.get? b=a0 o->h'.get? b=a0 o)->Q b5 {s with heap:=h' }):eH (kj prog w) A (R7 (.ref I)) Q E s:=by
 show uo a ho j λQ' f q u=>?_;have⟨o,c,v,d⟩:=id a;change eH _ _ (XX S slot i ep >>= _) _ _ s;show bD (l _ _ _ ?_);cases r with
 |some p =>
  have⟨x,nx⟩:=p
  dsimp only
  show bD (Oc c d (by simp) ?_);have⟨o',g,y,h⟩:=qH (f':=H8 nx) c v d;show bD (Oc (s:={s with heap:=_}) g h (by simp) ?_);show cL (q _ _ (m x nx rfl _ (ur (f':=H8 nx) g y h) ((KJ ..).trans (KJ ..))))
 |none =>
  dsimp only
  show bD (Oc c d (by simp) ?_);show qG (I:=I) (k:=λ_=>pure b5) (Q:=λ_ _=>True) (s:=s) (by simpa using hh) λh' hk e z=>u e _ z (n rfl h' λb C D G=>hk b C ?_);rw[PQ _ _ _ _ D];show G
def DQ{I S T:i5}{i ep:Nat}{es:Array (Int×ez)}{t:P0}{a:List Nat}{Q:Option ez->gj->Prop}(c:ie s.heap I (.ref T) i S es.size ep)(ho:s.heap.get? S=a0 (pz es ep t))(m:t.fits es.size=b6)(hh:A.handled=b5)
  (r:s.heap.IsTuple T ((a.map λ(j:Nat)=>H8 j).toArray))
  (u:∀(j:Nat) (e:Int×ez),a[i]?=a0 j->es[j]?=a0 e->∀h',ie h' I (.ref T) (i+1) S es.size ep->ri I s.heap h'->Q (a0 e.2) {s with heap:=h' })
  (v:∀j∈a,j<es.size)
  (x:a[i]?=b5->∀h',(∀b o,b≠I->s.heap.get? b=a0 o->h'.get? b=a0 o)->Q b5 {s with heap:=h' }):eH (kj prog w) A (R7 (.ref I)) Q E s:=by
 show uo c ho m λQ' N y z=>?_;have⟨o,d,n,f⟩:=id c;have⟨O,B,Y,nT,C⟩:=r;change eH _ _ (Ï (.ref T) >>= _) _ _ s;show bD (Lf B C ?_);cases e:a[i]? with
 |some j =>
  have g:(a.map λ(j:Nat)=>H8 j).toArray[i]?=a0 (H8 j):=by simp[e]
  simp only[g];have h:j<es.size:=v j (qs e);have l:es[j]?=a0 (es[j]'h):=by simp[h]
  change eH _ _ (Þ S (j:Int).toNat ep >>= _) _ _ s;unfold Þ;rw[L7];show bD (bD (pb ho rfl m ?_))
  dsimp only
  rw[Ś (by simp)];generalize es[j]'h=p at l;simp only[l];show cL ?_;show bD (Oc d f (by simp) ?_);show cL (y _ _ (u j p e l _ (ur (f':=.ref T) d n f) (KJ ..)))
 |none =>
  have g:(a.map λ(j:Nat)=>H8 j).toArray[i]?=b5:=by simp at e ⊢;show e
  simp only[g];show bD (Oc d f (by simp) ?_);have⟨o',D,e2,G⟩:=qH (f':=H8 0) d n f;show bD (Oc (s:={s with heap:=_}) D G (by simp) ?_);show qG (I:=I) (k:=λ_=>pure b5) (Q:=λ_ _=>True) (s:=s) (by simpa using hh) λh' hk ex H=>z ex _ H (x e h' λb J q L=>hk b J ?_);rw[PQ _ _ _ _ q,PQ _ _ _ _ q];show L
end
section
def ie.at(x:ie h I f i S n ep)(e:∀o,h.get? I=a0 o->h'.get? I=a0 o):ie h' I f i S n ep:=let ⟨o,ho,r⟩:=x;⟨o,e _ ho,r⟩
def lz(hh:A.handled=b5)(n:S≠I)(r:t.fits es.size=b6)(T:i5)(p:T≠I)(c:List ez)(k:c.length=es.size)
  (first:Nat->ez) (a:K9->Prop) (l:∀h h',a h->(∀o,h.get? T=a0 o->h'.get? T=a0 o)->a h')
  (m:∀(s:gj) (i:Nat) (E:ez->gj->Prop) (Q:Option ez->gj->Prop),i<=es.size->a s.heap->ie s.heap I (first i) i S es.size ep->s.heap.get? S=a0 (pz es ep t) ->
   (∀x,c[i]?=a0 x->∀h',ie h' I (first (i+1)) (i+1) S es.size ep->ri I s.heap h'->Q (a0 x) {s with heap:=h' }) ->
   (c[i]?=b5->∀h',(∀b o,b≠I->s.heap.get? b=a0 o->h'.get? b=a0 o)->Q b5 {s with heap:=h' })->eH (kj prog w) A (R7 (.ref I)) Q E s) :
  Walks prog w A I [I,S,T] [I] es.size (λi v=>c[i]?=a0 v) (λi h=>i<=es.size/\ie h I (first i) i S es.size ep/\h.get? S=a0 (pz es ep t)/\a h) where
 sub:=λb d=>by rw[ix.mp d];simp
 frame:=λi h h' x hk=>⟨x.1,x.2.1.at λo e=>hk I (by simp) o e,hk S (by simp) _ x.2.2.1,l h h' x.2.2.2 λo e=>hk T (by simp) o e⟩
 item:=λi s Q E q x f=>by
  show m s i E Q x.1 x.2.2.2 x.2.1 x.2.2.1 (λv g h' j hs=>?_) λz=>absurd z (by simp;lia);show f v h' s.toks g ⟨q,j,?_,l _ h' x.2.2.2 λo e=>?_⟩ λb o d e=>?_
  .rw[hs.2 S n];show x.2.2.1
  .rw[hs.2 T p];show e
  .rw[hs.2 b λz=>d (by simp[z])];show e
 done:=λs Q E x f=>by
  show m s es.size E Q x.1 x.2.2.2 x.2.1 x.2.2.1 (λv g=>absurd g (by rw[ZZ ⋯];simp)) λ_ h' hk=>f h' s.toks λb o d e=>hk b o (λz=>d (by simp[z])) e
 self:=λi s Q E x f=>AU x.2.1 f
def pA(ho:s.heap.get? S=a0 (pz es ep t))(a:t.fits es.size=b6)(h:Q (!w.params.followText "set-order"&&(!t.plain&&cK (es.size>1))) s):eH (kj prog w) A (setDrawn S) Q E s:=by
 unfold setDrawn;show bD (pb ho rfl a ?_)
 dsimp only
 show bD (cW (cL h))
def pB(a:w.params.followText "set-order"=b6)(ho:s.heap.get? S=a0 (pz es ep t))(b:t.fits es.size=b6)
  (h:Q ((YT (w.params.setOrder S ep) es)[i]?.map λe=>(e.2,0)) s):eH (kj prog w) A (XX S 0 i ep) Q E s:=by
 unfold XX;show bD (pb ho rfl b ?_)
 dsimp only
 show bD (cW ?_);change eH _ _ (if (w.params.followText "set-order")=b6 then _ else _) _ _ s;rw[Ř a];rw[Ś (by simp)];unfold setWalk;show bD (bD (pb ho rfl b ?_))
 dsimp only
 show bD (cW ?_);change eH _ _ (if (w.params.followText "set-order")=b6 then _ else _) _ _ s;rw[Ř a];show bD (R4 (cL ?_));show cL h
theorem qI(hw:w.params.followText "set-order"=cb)(ho:s.heap.get? S=a0 (pz es ep t))(hf:t.fits es.size=b6)(hl:t.led=b6)(h1:es.size<=1)
    (h:Q (match es[Nz t.place slot]?,t.place[Nz t.place slot]? with|some (_,x),a0 j=>a0 (x,j+1)|_,_=>b5) s):eH (kj prog w) A (XX S slot i ep) Q E s:=by
  unfold XX;refine bD (pb ho rfl hf ?_)
  dsimp only
  refine bD (cW ?_);show eH _ _ (if (w.params.followText "set-order")=b6 then _ else _) _ _ s;rw[Ś (by rw[hw];simp)];show eH _ _ (if (!t.plain&&cK (es.size>1))=b6 then _ else _) _ _ s
  rw [if_neg (by have : decide (es.size > 1) = false := decide_eq_false (by lia)
                 rw[this];simp)]
  show eH _ _ ((if (!t.led&&!es.isEmpty)=b6 then _ else _) >>= _) _ _ s;rw[Ś (by rw[hl];simp)];exact bD (cL (cL h))
def qJ(es:Array (Int×ez))(a:Array Nat)(i:Nat)(c:es.size<=1)(d:a.size=es.size)(b:i<=es.size):
  (match es[Nz a (if i=0 then 0 else(a[0]?).getD 0+1)]?,a[Nz a (if i=0 then 0 else(a[0]?).getD 0+1)]? with|some (_,x),a0 j=>a0 (x,j+1)|_,_=>b5)=es[i]?.map λe=>(e.2,(a[0]?).getD 0+1):=by
 have⟨es⟩:=es;have⟨a⟩:=a
 match es,a,c,d,b with
 |[],[],_,_,b=>simp
 |[e],[p],_,_,b =>
  match i,b with
  |0,_ =>
   have:Nz #[p] 0=0:=by simp[Nz,Yj]
   simp[this]
  |1,_ =>
   have:Nz #[p] (p+1)=1:=by simp[Nz,Yj]
   simp[this]
  |n+2,h=>simp at h
 |[],_::_,_,h,_=>simp at h
 |[_],[],_,h,_=>simp at h
 |[_],_::_::_,_,h,_=>simp at h
 |_::_::_,_,h,_,_=>simp at h
def x6(hh:B.handled=b5)(hS:aY prog w s.heap S (aN w) D)
  (h:∀(I:i5) (fp:List i5) (n:Nat) (P:Nat->ez->Prop) (St:Nat->K9->Prop) (ys:List Str) (h':K9) (d':Drawn),Walks prog w B I fp [I] n P St->ys.Perm D->n=ys.length->(∀i v,P i v->∃x O,ys[i]?=a0 x/\v=.str x O)->s.heap.objs.size<=I->(∀b∈fp,b=S\/s.heap.objs.size<=b)->St 0 h' ->
   (∀b o,s.heap.get? b=a0 o->h'.get? b=a0 o)->Q (.ref I) {s with heap:=h',drawn:=d' }):eH (kj prog w) A (ZQ (.ref S)) Q E s:=by
 have⟨L,es,ep,t,ho,Jq,T,II,a,c,Jv,Jo⟩:=hS;have Vc:s.TypeIs (.ref S) "set":=⟨_,ho,rfl⟩
 have Y:S<s.heap.objs.size:=f6 ho;show Ģ Vc PySem.F.slot_set_iter (va PySem.F.slot_set_iter Vc SI.ly ?_ (PySem.F.args_set_iter_1 _));unfold O5.«frozenset.__iter__» ÿ slotArgs;simp only[List.isEmpty_nil,MX,ti,↓reduceIte,bind_assoc,Xr,bne_self_eq_false];unfold Vm Rq;show bD (cL ?_)
 try dsimp only
 show bD (cL ?_);show bD (bD (SS ho rfl a (cL ?_)));have Xk:D.length=es.size:=by rw[<-T.length_eq,df,<-lx,Jq,df]
 have d:∀(l:List (Int×ez)),l.Perm es.toList->∃ys:List Str,ys.Perm D/\ys.length=es.size/\∀(i:Nat) (v:ez),(l.map (·.2))[i]?=a0 v->∃(x:Str) (O:Tok),ys[i]?=a0 x/\v=tr x O:=by
  intro l hl;rw[Jq]at hl;have⟨L',e',p'⟩:=dg hl;show⟨L'.map (·.1),(p'.map _).trans T,by rw[((p'.map _).trans T).length_eq,Xk],λi v C=>?_⟩;subst e';rw[et,oa]at C;rw[oa];cases q:L'[i]? with
  |none=>rw[q]at C;simp at C
  |some p=>rw[q]at C;simp at C;show⟨p.1,p.2,rfl,C.symm⟩
 show bD (pA ho a ?_);cases hw:w.params.followText "set-order" with
 |true =>
  simp only[MX,Đ,ti,↓reduceIte];show bD (cL ?_);show bD (bD (pb ho rfl a (cL ?_)));show bD (vl ?_);have m:S≠s.heap.objs.size:=k7 Y;have⟨ys,G,H,J⟩:=d (YT (w.params.setOrder S ep) es).toList (dW _ _);have W:=lz (prog:=prog) (w:=w) (A:=B) (I:=s.heap.objs.size) (S:=S) (es:=es) (ep:=ep) (t:=t) hh m a S m ((YT (w.params.setOrder S ep) es).toList.map (·.2)) (by rw[df,(dW _ _).length_eq,lx]) (λ_=>H8 0) (λ_=>True) (λ_ _ _ _=>trivial)
   (λs i E Q _ _ f u k1 k2=>xZ (slot:=0) f u a hh (λB E' Q' q=>pB hw u a q) (λx nx e h' N hs=>by
    rw[hZ]at e;have⟨p,y,e2⟩:=e;cases e2;show k1 _ (by rw[oa,Ji,y];rfl) h' N hs) (λe=>k2 (by rw[oa,Ji,TL];rwa [TL]at e)))
  show cL ⟨_,rfl,"set_iterator",_,⟨_,fx _ rfl,rfl⟩,SI.slot_next.lookup,?_⟩;show h _ _ _ _ _ ys _ s.drawn W G H.symm J (lg _) (λb c=>by
   simp only[ke,D',or_false]at c;rcases c with rfl|rfl|rfl
   .show .inr (lg _)
   .show .inl rfl
   .show .inl rfl) ⟨mu _,⟨_,fx _ rfl,rfl,rfl⟩,dt _ ho,trivial⟩ λb o e=>dt _ e
 |false =>
  by_cases hsz:es.size>1
  .have JC:t.plain=cb:=by
    rcases Jo with z|z
    .lia
    .show z
   have y:(!cb&&(!t.plain&&cK (es.size>1)))=b6:=by rw[JC,ś hsz];rfl
   rw[y];simp only[↓reduceIte];show bD (gU _ _ _ _ QW λg d' hp=>?_);simp only[Ō];have ML:∀j∈g,j<es.size:=λj hj=>by have:=hp.mem_iff.mp hj;simpa using this
   have PB:g.length=es.size:=by rw[hp.length_eq];simp
   show bD (vl ?_ (by
    change(g.map λ(j:Nat)=>H8 j).toArray.size<=_;have:es.size<4096:=c;simp only[ki,df,PB];have:(4096:Nat)<=dV:=by decide
    lia))
   have KQ:(s.heap.push {cls:=.type "tuple",data:=.seq (g.map λ(j:Nat)=>H8 j).toArray}).get? S=a0 (pz es ep t):=dt _ ho;show bD (bD (pb (s:={s with heap:=_,drawn:=d' }) KQ rfl a (cL ?_)));show bD (vl ?_);have Xl:s.heap.objs.size≠(s.heap.push {cls:=.type "tuple",data:=.seq (g.map λ(j:Nat)=>H8 j).toArray}).objs.size:=by rw[Nd];show k7 (T3 _)
   have m:S≠(s.heap.push {cls:=.type "tuple",data:=.seq (g.map λ(j:Nat)=>H8 j).toArray}).objs.size:=by rw[Nd];show k7 (O9 Y)
   have NQ:(g.map λj=>(es[j]?).getD (0,ro)).Perm es.toList:=by
    show(hp.map _).trans ?_;have:(hA es.size).map (λj=>(es[j]?).getD (0,ro))=es.toList:=by
     apply NR
     .simp
     .intro i h1 h2;simp at h1 ⊢;simp[h1]
    rw[this]
   have⟨ys,G,H,J⟩:=d _ NQ;have W:=lz (prog:=prog) (w:=w) (A:=B) (I:=(s.heap.push {cls:=.type "tuple",data:=.seq (g.map λ(j:Nat)=>H8 j).toArray}).objs.size) (S:=S) (es:=es) (ep:=ep) (t:=t) hh m a s.heap.objs.size Xl ((g.map λj=>(es[j]?).getD (0,ro)).map (·.2)) (by simp[PB]) (λ_=>.ref s.heap.objs.size) (λh=>h.IsTuple s.heap.objs.size (g.map λ(j:Nat)=>H8 j).toArray) (λh h' ⟨o,ho,r⟩ k=>⟨o,k _ ho,r⟩)
    (λs' i E Q _ Le f u k1 k2=>DQ f u a hh Le (λj e ej ee h' N hs=>k1 _ (by rw[oa,oa,ej];simp[ee]) h' N hs) ML (λe=>k2 (by rw[oa,oa,e];rfl)))
   show cL ⟨_,rfl,"set_iterator",_,⟨_,fx _ rfl,rfl⟩,SI.slot_next.lookup,?_⟩;show h _ _ _ _ _ ys _ d' W G H.symm J (by rw[Nd];show Qy _) (λb c=>?_) ⟨mu _,⟨_,fx _ rfl,rfl,rfl⟩,dt _ KQ,⟨_,dt _ (fx _ rfl),rfl,_,rfl⟩⟩ λb o e=>dt _ (dt _ e);rw[Nd]at c;simp only[ke,D',or_false]at c;rcases c with rfl|rfl|rfl
   .show .inr (Qy _)
   .show .inl rfl
   .show .inr (lg _)
  .have y:(!cb&&(!t.plain&&cK (es.size>1)))=cb:=by rw[ř hsz];simp
   rw[y];simp only[ti,↓reduceIte];show bD (cL ?_);show bD (bD (pb ho rfl a (cL ?_)));show bD (vl ?_);have m:S≠s.heap.objs.size:=k7 Y;have Xm:t.led=b6:=by rw[Jv];change(!w.params.followText "set-order")=b6;rw[hw];rfl
   have⟨ys,G,H,J⟩:=d es.toList (.refl _);have Mw:t.place.size=es.size:=by
    unfold So at a;simp only[eh,beq_iff_eq]at a;show a.1
   have W:=lz (prog:=prog) (w:=w) (A:=B) (I:=s.heap.objs.size) (S:=S) (es:=es) (ep:=ep) (t:=t) hh m a S m (es.toList.map (·.2)) (by simp) (λi=>H8 ((if i=0 then 0 else(t.place[0]?).getD 0+1:Nat):Nat)) (λ_=>True) (λ_ _ _ _=>trivial)
    (λs' i E Q hi _ f u k1 k2=>xZ (slot:=if i=0 then 0 else(t.place[0]?).getD 0+1) f u a hh (λB E' Q' q=>qI hw u a Xm ⋯ q) (λx nx e h' N hs=>by
     rw[qJ es t.place i ⋯ Mw hi,hZ]at e;have⟨p,y,e2⟩:=e;cases e2;show k1 _ (by rw[oa,Ji,y];rfl) h' ?_ hs;rw[Ś (Nat.succ_ne_zero i)];show N) (λe=>by
     rw[qJ es t.place i ⋯ Mw hi,TL]at e;show k2 (by rw[oa,Ji,e];rfl)))
   show cL ⟨_,rfl,"set_iterator",_,⟨_,fx _ rfl,rfl⟩,SI.slot_next.lookup,?_⟩;show h _ _ _ _ _ ys _ s.drawn W G H.symm J (lg _) (λb c=>by
    simp only[ke,D',or_false]at c;rcases c with rfl|rfl|rfl
    .show .inr (lg _)
    .show .inl rfl
    .show .inl rfl) ⟨mu _,⟨_,fx _ rfl,rfl,rfl⟩,dt _ ho,trivial⟩ λb o e=>dt _ e
end
def qK:ĕ (.type "set") "__len__"=pure (a0 (.builtin "set.__len__")):=by rw[Ze,VF];kernel_rfl
section
theorem lA:∀{vs:List ez}{ys:List Str},vs.length=ys.length->(∀(i:Nat) (v:ez),vs[i]?=a0 v->∃x t,ys[i]?=a0 x/\v=.str x t)->RG vs ys
 |[],[],_,_=>.nil
 |[],_::_,h,_=>by simp at h
 |_::_,[],h,_=>by simp at h
 |v::vs,y::ys,h,k=>by
  have⟨x,t,a,b⟩:=k 0 v rfl;cases a;subst b;show .cons y t (lA (by simpa using h) λi w c=>k (i+1) w c)
def qL(hh:A.handled=b5)(J:aY prog w s.heap S (aN w) D)(N:D.length<=dV)
  (O:∀(vs:List ez) (ys:List Str) (h':K9) (d':Drawn) (h:Nat),ys.Perm D->RG vs ys->s.heap.objs.size<=h'.objs.size->s.toks<=h->(∀b o,s.heap.get? b=a0 o->h'.get? b=a0 o)->Q vs {s with heap:=h',drawn:=d',toks:=h}) :
  eH (kj prog w) A (à (.ref S)) Q E s:=by
 have⟨L,es,ep,t,ho,c⟩:=id J;have T:S<s.heap.objs.size:=f6 ho;unfold à;show bD (ZE (NA PySem.F.entry_proto_collect ?_));rw[O8 PySem.F.plain_proto_collect _];change eH _ A.in1 (Ħ [] >>= λl=>Ő (.builtin "list.__iadd__" ⟨[l,.ref S],[]⟩)) _ _ s;show bD (vl ?_);show cL ⟨WJ PySem.F.plain_list_iadd _,NA PySem.F.entry_list_iadd ?_⟩;rw[O8 PySem.F.plain_list_iadd _];have f:(s.heap.push {cls:=.type "list",data:=.seq ([]:List ez).toArray}).get? S=a0 {cls:=.type "set",dict:=b5,data:=.set es ep t}:=dt _ ho;have Y:SV {s with heap:=s.heap.push {cls:=.type "list",data:=.seq ([]:List ez).toArray}} (.ref S) "set":=⟨_,f,rfl⟩
 change eH _ A.in1 (NT (.ref s.heap.objs.size) (.ref S) (.ref s.heap.objs.size)) _ _ _;unfold NT;show bD (Tf Y ?_);have j:s.heap.objs.size≠S:=vr T;have h1:Wr (.ref s.heap.objs.size) (.ref S)=cb:=by simp[Wr,j]
 have h2:(y2 "set"==y2 "list")=cb:=by decide
 have h3:(y2 "set"==y2 "tuple")=cb:=by decide
 simp only[h1,h2,h3,ğ,ti,ş];show bD (x6 (B:=A.in1) (by simpa using hh) ⟨L,es,ep,t,f,c⟩ ?_);intro I fp n P St ys h' d' W k m hP p Xn IB hk;have g:SV {s with heap:=h',drawn:=d' } (.ref S) "set":=⟨_,hk _ _ f,rfl⟩
 show bD (uk ?_);unfold Ń;show bD (QG g qK ?_);have Kp:splitId "set.__len__"=a0 ("set","__len__"):=by decide +kernel
 dsimp only
 rw[Kp]
 dsimp only
 show bD (K2 g XS ?_);rw[Ś (by decide)];rw[Ř (by decide +kernel)];show bD (Tf g ?_);show cL ?_;rw[Ř (by decide +kernel)];have q:s.heap.objs.size∉fp:=λa=>by
  rcases Xn _ a with z|z
  .show j z
  .rw[Nd]at z;show absurd z (Nat.not_succ_le_self _)
 have r:h'.get? s.heap.objs.size=a0 {cls:=.type "list",data:=.seq ([]:List ez).toArray}:=hk _ _ (fx _ rfl);show bD (L5 ?_);show bD ?_;change eH _ A.in1 (updateSeq s.heap.objs.size (·.push .none) >>= λ_=>updateSeq s.heap.objs.size (·.pop)) _ _ _;show bD (Vt r rfl ?_);have u:=Jx (tj (·.push ro)) r rfl;show Vt u rfl ?_;have Xo:=Jx (tj (·.pop)) u rfl;have x:∀b o,b≠s.heap.objs.size->h'.get? b=a0 o->((h'.update s.heap.objs.size (tj (·.push ro))).update s.heap.objs.size (tj (·.pop))).get? b=a0 o :=
  λb o d e=>(QT _ _ (vu d)).trans ((QT _ _ (vu d)).trans e)
 show cL ⟨WJ PySem.F.plain_extend_loop _,codeAny_extend_loopS W.toS (by rw[m,k.length_eq];show N) _ q _ n 0 _ _ _ rfl (mu _) (W.frame 0 h' _ IB λb d o e=>x b o (λz=>q (z▸d)) e) Xo (ItemsOf.nil P) λs' PD c' a y C=>?_⟩;change eH _ A (load s.heap.objs.size >>= _) _ _ s';show bD (Ē y ?_);have⟨M8,g2,G,SW,Xp⟩:=s';have eg:g2=s.gens:=a.gens;have ed:G=d':=a.drawn;have eo:Xp=s.os:=a.os;subst eg;subst ed;subst eo;show cL (O _ ys M8 G SW k (lA (by rw[lx,C.1,m]) λi v hv=>hP i v (C.2 i v (by rwa [Ji]at hv))) (Nv (f6 y)) a.toks λb o e=>?_);have H:b≠s.heap.objs.size:=λz=>by rw[z]at e;show absurd (f6 e) (wk _)
 show a.heap b o (λz=>?_) (x b o H (hk _ _ (dt _ e)));rcases ke.mp z with z|z
 .show H z
 .rw[ix.mp z]at e;have:=f6 e;rw[Nd]at p;show absurd (nc this (td (Qy _) p)) (wk _)
end
section
def Inv.drawn(I:Inv X a σ H s)(d:Drawn):Inv X a σ H {s with drawn:=d}:=⟨I.ok,I.os,I.bare,I.base,I.loc,I.cell,I.free,I.Jn,I.pin,I.Ir,I.len⟩
def iO(i:X.calm=b6)(I:Inv X c σ H s)(hq:Je X.K H p (ys.map V.str)\/IX X.K H p (ys.map V.str))(g:ys.length+1<K4)
  (h:∀(S:i5) (h':K9) (a:Nat),aY X.prog X.w h' S (aN X.w) (ax ys)->Inv X c σ H {s with heap:=h',toks:=a}->Q (.ref S) {s with heap:=h',toks:=a}) :
  eH (kj X.prog X.w) X.A (Qz (.type "set") [.ref p]) Q X.xe s:=by
 have hh:X.A.handled=b5:=I.ok.hd i;rcases hq with hq|hq
 .have⟨j,rv,d,hz⟩:=I.list hq;show fU hh d.isList (cV rv) g λh' a f k=>h _ h' a f (I.kept λb o e=>k b o (f6 e) e)
 .have⟨j,rv,d,hz⟩:=I.tuple hq;show gT hh d (cV rv) g λh' a f k=>h _ h' a f (I.kept λb o e=>k b o (f6 e) e)
def gV(i:X.calm=b6)(I:Inv X a σ H s)(j:aY X.prog X.w s.heap S (aN X.w) D)(d:D.length<64)
  (q:∀p,H p=b5->Q (.ref p) (upd H p (.lst ((aH D).map V.str)))):eH (kj X.prog X.w) X.A (Qz (.builtin "sorted") [.ref S]) (EP X a σ Q) X.xe s:=by
 have hh:X.A.handled=b5:=I.ok.hd i;have hl:D.length<=dV:=Nv (nc d (by decide));show fq (qL (A:=X.A.in1) (by simpa using hh) j hl λvs ys h' d' b f g hsz m hk=>⟨ys,g,by rw[iN g,f.length_eq];show d,λn k e k2 c s2=>?_⟩);rw[fT f]at s2;have l:Inv X a σ H {s with heap:=h',toks:=b}:=I.kept (t':=b) hk;have h:Inv X a σ H {s with heap:=h',drawn:=d',toks:=b}:=l.drawn d';show⟨.ref h'.objs.size,_,h.laid (t':=b) (o:=.lst ((aH D).map V.str)) k2 (lg _) ⟨by rw[df,cc];show hl,k,e,dH s2,c⟩,rfl,q _ (h.Ir.fresh (lg _))⟩
def lB(I:Inv X a σ H s)(c:aY X.prog X.w s.heap S (aN X.w) D)
  (q:Q (.int D.length) H):eH (kj X.prog X.w) X.A (Qz (.builtin "len") [.ref S]) (EP X a σ Q) X.xe s:=by
 have⟨L,es,ep,t,ho,d,g,j,h,i,k,l⟩:=c;have b:es.size=D.length:=by rw[<-lx,d,df,<-df (f:=Ď) (as:=L),g.length_eq]
 have m:es.size<4096:=i;show call_len_set ho ⟨rfl,rfl,rfl⟩ rfl h ⋯ ?_;show⟨.int es.size,_,I.kept (t':=s.toks+1+1) (λ_ _ e=>e),⟨_,rfl⟩,by rw[b];show q⟩
end
end L2
namespace L2
open PySem
abbrev dX(mask:Nat):Nat->Nat×Nat->Nat×Nat
 |0,q=>q
 |t+1,q=>dX mask t (â mask q.1 q.2)
theorem nA(mask:Nat):∀(a b:Nat) (q:Nat×Nat),dX mask (a+b) q=dX mask b (dX mask a q)
 |0,b,q=>by rw[Sm];rfl
 |a+1,b,q=>by rw[show a+1+b=(a+b)+1 by lia];show nA mask a b _
theorem nB(mask:Nat):∀(t:Nat) (q:Nat×Nat),(dX mask t q).2=q.2 / 32 ^ t
 |0,q=>by simp[dX]
 |t+1,q=>by
  change(dX mask t (â mask q.1 q.2)).2=_;rw[nB mask t];change q.2 / 32 / 32 ^ t=_;rw[Nat.div_div_eq_div_mul,ZX,Nat.mul_comm]
theorem qM(mask:Nat):∀(t:Nat) (q:Nat×Nat),q.1<mask+1->(dX mask t q).1<mask+1
 |0,q,h=>h
 |t+1,q,h=>qM mask t _ (T7 _ (ZW _))
abbrev L9(m:Nat):Nat->Nat->Nat
 |0,i=>i
 |t+1,i=>L9 m t ((i * 5+1) % m)
theorem nE(mask:Nat):∀(t i:Nat),dX mask t (i,0)=(L9 (mask+1) t i,0)
 |0,i=>rfl
 |t+1,i=>by
  change dX mask t ((i * 5+1+0 / 32) % (mask+1),0 / 32)=(L9 (mask+1) t ((i * 5+1) % (mask+1)),0)
  rw[Nat.zero_div,ľ];show nE mask t _
theorem kB(m:Nat):∀(a b i:Nat),L9 m (a+b) i=L9 m b (L9 m a i)
 |0,b,i=>by rw[Sm];rfl
 |a+1,b,i=>by rw[show a+1+b=(a+b)+1 by lia];show kB m a b _
abbrev wa(m:Nat):Nat->Nat->List Nat
 |0,_=>[]
 |t+1,i=>i::wa m t ((i * 5+1) % m)
theorem uu(m:Nat):∀(n i t:Nat),t<n->(wa m n i)[t]?=a0 (L9 m t i)
 |0,_,_,h=>by lia
 |n+1,i,0,_=>rfl
 |n+1,i,t+1,h=>by
  change(wa m n ((i * 5+1) % m))[t]?=_;show uu m n _ t ⋯
theorem qN(m:Nat):∀(n i:Nat),(wa m n i).length=n
 |0,_=>rfl
 |n+1,i=>by change(wa m n _).length+1=_;rw[qN m n]
abbrev Full(m:Nat):Bool:=(hA m).all (λj=>(wa m m 0).contains j)&&(L9 m m 0==0)
def CB:Full 8=b6:=by decide +kernel
def x8:Full 16=b6:=by decide +kernel
def x9:Full 32=b6:=by decide +kernel
def x_:Full 64=b6:=by decide +kernel
def uw:Full 128=b6:=by decide +kernel
def wb(h:Full m=b6)(l:i<m)(n:j<m):∃t,t<m/\L9 m t i=j:=by
 unfold Full at h;rw[eh,tA]at h;have⟨o,d⟩:=h;have d:L9 m m 0=0:=by simpa using d
 have get:∀k,k<m->∃a,a<m/\L9 m a 0=k:=λk hk=>by
  have:=o k (L0.mpr hk);rw[List.contains_iff_mem]at this;have⟨a,c⟩:=Uo.mp this;have e:a<m:=by have:=(eW.mp c).1;rw[qN]at this;show this
  rw[uu m m 0 a e]at c;show⟨a,e,by simpa using c⟩
 have⟨a,c,f⟩:=get i l;have⟨b,p,g⟩:=get j n;by_cases q:a<=b
 .show⟨b - a,⋯,by rw[<-f,<-kB,show a+(b - a)=b by lia,g]⟩
 .show⟨m - a+b,⋯,?_⟩;rw[<-f,<-kB,show a+(m - a+b)=m+b by lia,kB,d,g]
theorem nF:∀(f i p:Nat),Jd mask owner f i p=b5->∀t,t<f->(owner.getD (dX mask t (i,p)).1 (a0 0)).isNone=cb
 |0,_,_,_,t,h=>by lia
 |f+1,i,p,h,t,b=>by
  unfold Jd at h;cases a:(hA (Wn mask i+1 - i)).find? (λk=>(owner.getD (i+k) (a0 0)).isNone) with
  |some k=>rw[a]at h;cases h
  |none =>
   rw[a]at h;cases t with
   |zero =>
    have:=List.find?_eq_none.mp a 0 (L0.mpr (by unfold Wn;split<;>lia));rw[ľ]at this;change(owner.getD i (a0 0)).isNone=cb;cases e:(owner.getD i (a0 0)).isNone with
    |false=>rfl
    |true=>show absurd e this
   |succ t=>show nF f _ _ h t ⋯
theorem nG:∀(f i p j:Nat),Jd mask owner f i p=a0 j->owner[j]?=a0 b5
 |0,_,_,_,h=>by cases h
 |f+1,i,p,j,h=>by
  unfold Jd at h;cases b:(hA (Wn mask i+1 - i)).find? (λk=>(owner.getD (i+k) (a0 0)).isNone) with
  |some k =>
   rw[b]at h;cases h;have a:=List.find?_some b;have c:i+k<owner.size:=by
    show oZ λz=>?_;have:owner.getD (i+k) (a0 0)=a0 0:=by simp[VM,z]
    rw[this]at a;cases a
   have d:owner.getD (i+k) (a0 0)=owner[i+k]:=by simp[VM,c]
   rw[d]at a;rw[SN c];cases e:owner[i+k] with
   |none=>rfl
   |some _=>rw[e]at a;cases a
  |none =>
   rw[b]at h;show nG f _ _ j h
def AV(c:Full (mask+1)=b6){j0:Nat}(a:owner[j0]?=a0 b5)(hsz:owner.size=mask+1)(d:i<mask+1)(f:p<2 ^ 64):∃j,Jd mask owner (RK mask) i p=a0 j/\owner[j]?=a0 b5:=by
 cases e:Jd mask owner (RK mask) i p with
 |some j=>show⟨j,rfl,nG _ _ _ _ e⟩
 |none =>
  have g:j0<mask+1:=by rw[<-hsz];show(Array.getElem?_eq_some_iff.mp a).1
  have h:(dX mask 13 (i,p)).2=0:=by
   rw[nB];show Nat.div_eq_of_lt (T' f (by decide))
  have⟨t,n,k⟩:=wb c (qM mask 13 (i,p) d) g;have l:dX mask (13+t) (i,p)=(j0,0):=by
   rw[nA,show dX mask 13 (i,p)=((dX mask 13 (i,p)).1,0) from Ws rfl h,nE,k]
  have:=nF _ _ _ e (13+t) (by unfold RK;lia);rw[l]at this;have m:owner.getD j0 (a0 0)=b5:=by
   have b:j0<owner.size:=by lia
   rw[SN b]at a;simp[VM,b];show sL a
  rw[m]at this;cases this
abbrev vals(L:List (Option Nat)):List Nat:=L.filterMap id
theorem qO:∀{L:List (Option Nat)}{j:Nat},L[j]?=a0 b5->(vals (L.set j (a0 k))).Perm (k::vals L)
 |[],j,h=>by simp at h
 |x::L,0,h=>by
  have:x=b5:=by simpa using h
  subst this;show MI _
 |x::L,j+1,h=>by
  have a:=qO (k:=k) (L:=L) (j:=j) (by simpa using h);cases x with
  |none=>show a
  |some y =>
   change(y::vals (L.set j (a0 k))).Perm (k::y::vals L);show(Ì y a).trans (Ë k y _)
theorem nI:∀{L:List (Option Nat)},(vals L).length<L.length->∃j:Nat,L[j]?=a0 b5
 |[],h=>by simp at h
 |none::L,_=>⟨0,rfl⟩
 |some y::L,h=>by
  have⟨j,a⟩:=nI (L:=L) (by
   have:(vals L).length+1<L.length+1:=h;lia)
  show⟨j+1,by simpa using a⟩
theorem ya(f:Full (mask+1)=b6):∀(hs:List Int) (owner:Array (Option Nat)) (k:Nat),owner.size=mask+1->(vals owner.toList).Perm (hA k)->k+hs.length<=mask ->
  ∃c,hs.foldl (λd h=>do
   let (owner,k) <-d
   let j <-Jd mask owner (RK mask) (PH h % (mask+1)) (PH h)
   pure (owner.setIfInBounds j (a0 k),k+1)) (a0 (owner,k))=a0 (c,k+hs.length)/\c.size=mask+1/\(vals c.toList).Perm (hA (k+hs.length))
 |[],owner,k,a,b,_=>⟨owner,rfl,a,b⟩
 |h::hs,owner,k,a,b,g=>by
  rw[mh]at g;have⟨j0,l⟩:=nI (L:=owner.toList) (by rw[b.length_eq,QW,lx];lia);have⟨j,e,m⟩:=AV f (owner:=owner) (j0:=j0) (by rw[<-Ji];show l) a (i:=PH h % (mask+1)) (p:=PH h) (T7 _ (ZW _)) (by unfold PH;lia);have n:owner.toList[j]?=a0 b5:=by rw[Ji];show m
  have o:(vals (owner.setIfInBounds j (a0 k)).toList).Perm (hA (k+1)):=by
   rw[Array.toList_setIfInBounds,Ć];show(qO n).trans ((Ì k b).trans (List.perm_append_singleton k _).symm)
  have⟨o',q,r,s⟩:=ya f hs (owner.setIfInBounds j (a0 k)) (k+1) (by rw[Array.size_setIfInBounds];show a) o ⋯;show⟨o',?_,r,by rw[show k+(h::hs).length=k+1+hs.length by simp;lia];show s⟩;rw[Ua,show k+(h::hs).length=k+1+hs.length by simp;lia,<-q];congr 1
  change(Jd mask owner (RK mask) (PH h % (mask+1)) (PH h)).bind _=_;rw[e];rfl
def sM(L:List (Option Nat)):(hA L.length).filterMap (λj=>L.getD j b5)=vals L:=by
 have h:(hA L.length).map (λj=>L.getD j b5)=L:=by
  apply NR
  .simp
  .intro i b a;simp[Rx,a]
 have a:vals ((hA L.length).map (λj=>L.getD j b5))=vals L:=ŝ vals h;unfold vals at a;rw[Ú]at a;show a
def uA{led plain:Bool}(e:Full (mask+1)=b6)(f:hs.size<=mask):∃t a,UL mask finger moves led plain hs=a0 (t,a)/\t.fits hs.size=b6/\t.led=led/\t.plain=plain/\t.mask=mask/\t.dummies=#[]/\a.toList.Perm (hA hs.size):=by
 have⟨owner,c,g,b⟩:=ya e hs.toList (Array.replicate (mask+1) b5) 0 (by simp) (by
  have:∀n:Nat,vals (nz n b5)=[]:=λn=>by
   induction n with
   |zero=>rfl
   |succ n h=>rw[List.replicate_succ];show h
  rw[Array.toList_replicate,this];show MI _) (by rw[lx];lia)
 rw[Sm,lx]at c b;have i:Sl mask hs=a0 owner:=by
  unfold Sl;rw[<-Array.foldl_toList];rw[c];rfl
 have k:((hA (mask+1)).filterMap λj=>owner.getD j b5)=vals owner.toList:=by
  rw[<-sM,lx,g];congr 1
  funext j
  simp only[Array.getD_eq_getD_getElem?,List.getD_eq_getElem?_getD,Ji]
 have d:(((hA (mask+1)).filterMap λj=>(owner.getD j b5).map (j,·)).map (·.2))=vals owner.toList:=by
  rw[<-k,List.map_filterMap];congr 1
  funext j
  cases owner.getD j b5<;>rfl
 have hl:((hA (mask+1)).filterMap λj=>(owner.getD j b5).map (j,·)).length=hs.size:=by
  have:=ŝ G2 d;rw[df,b.length_eq,QW]at this;show this
 show⟨_,_,by unfold UL;rw[i];rfl,?_,rfl,rfl,rfl,rfl,?_⟩
 .unfold So Xj;simp only[ki,df,hl];simp;show f
 .change(((hA (mask+1)).filterMap λj=>(owner.getD j b5).map (j,·)).map (·.2)).Perm _;rw[d];show b
end L2
namespace L2
open PySem PySem.Spec PyProof.Rows
abbrev DR(P:HP)(w:Km)(p:Str×Tok):Int×ez:=((sK P w).hash p.1,tr p.1 p.2)
section
def aY.perm(b:aY prog w h a led D)(p:D.Perm c):aY prog w h a led c :=
 let ⟨L,es,ep,t,d,e,f,g,i⟩:=b;⟨L,es,ep,t,d,e,f.trans p,p.nodup_iff.mp g,i⟩
def aY.at(b:aY prog w h a led D)(k:∀o,h.get? a=a0 o->h'.get? a=a0 o):aY prog w h' a led D :=
 let ⟨L,es,ep,t,c,d⟩:=b;⟨L,es,ep,t,k _ c,d⟩
def aY.sz{h:K9}{a:i5}{led:Bool}{D:List Str}{L:List (Str×Tok)}{es:Array (Int×ez)}(b:es.toList=L.map (λp=>((sK prog w).hash p.1,tr p.1 p.2)))(c:(L.map (·.1)).Perm D):es.size=D.length:=by
 rw[<-lx,b,df,<-c.length_eq,df]
def aY.of(g:aY prog w h a led D):h.SetOf (sK prog w) a (λx=>cK (x∈D)) D.length:=by
 have⟨L,es,ep,t,ho,b,d,l,i,j,m,n⟩:=g;show⟨_,es,ep,t,ho,⟨rfl,rfl,rfl⟩,rfl,by rw[b];show lq,λx=>?_,j,i,aY.sz (h:=h) (a:=a) (led:=led) b d⟩;rw[ŗ,b,<-d.mem_iff,gs];constructor
 .rintro⟨p,c,e⟩;show⟨_,gs.mpr ⟨p,c,rfl⟩,by rw[gS];simp[e]⟩
 .rintro⟨e,k,f⟩;have⟨p,c,rfl⟩:=gs.mp k;rw[gS,ŗ]at f;show⟨p,c,f.symm⟩
def qP(b:aY prog w s.heap a led D)(h:∀r:Option Nat,r.isSome=cK (x∈D)->Q r s):
  eH (kj prog w) A (setFind a (.str x c) ((sK prog w).hash x)) Q E s :=
 wpAny_setFind_of (knd:=sK prog w) (by rw[gS];simp) rfl b.of h
def eS{L':List (Str×Tok)}(ho:s.heap.get? a=a0 {cls:=.type "set",dict:=b5,data:=.set es ep t})(f:b.toList=L'.map (λp=>((sK prog w).hash p.1,tr p.1 p.2)))(g:(L'.map (·.1)).Perm c)(i:c.Nodup)
  (j:t'.fits b.size=b6) (d:b.size<K4) (hl:t'.led=led) (k:b.size=0\/t'.plain=cb) (h:∀h',ri a s.heap h'->h'.get? a=a0 {cls:=.type "set",dict:=b5,data:=.set b (ep+1) t' }->aY prog w h' a led c->Q () {s with heap:=h' }) :
  eH (kj prog w) A (storeSet a b t') Q E s:=by
 show Xz ho rfl ?_ (X1 d);have e:(s.heap.update a (Qr b t')).get? a=a0 {cls:=.type "set",dict:=b5,data:=.set b (ep+1) t' }:=Jx (Qr b t') ho rfl;show h _ (KJ s.heap a (Qr b t')) e ⟨L',b,ep+1,t',e,f,g,i,j,d,hl,k⟩
def fu(xs:Array α)(i:Nat):(QO xs i).toList=xs.toList.eraseIdx i:=by
 unfold QO;rw[R0,Z2,Z2,List.eraseIdx_eq_take_drop_succ];simp[List.extract];rw[N' (by simp)]
def wc{t:P0}(h:t.fits n=b6)(e:i<n):(t.drop i).fits (n - 1)=b6:=by
 simp only[So,eh,beq_iff_eq,ŗ]at h;have⟨f,b⟩:=h;have a:i<t.place.size:=by lia
 have c:(QO t.place i).size=t.place.size - 1:=by
  rw[<-lx,fu,À,Ř (by simpa using a),lx]
 have d:∀p x,(SetTable.insertAt t.dummies p x).size=t.dummies.size+1:=λp x=>by
  have:=(SetTable.insertAt_perm t.dummies p x).length_eq;rw[lx,lx,Array.size_push]at this;show this
 unfold ã;rw[SN a];simp only[So,Xj,eh,beq_iff_eq,ŗ,c,d]at b ⊢;constructor<;>lia
def yb(t:P0)(i:Nat):(t.drop i).led=t.led/\(t.drop i).plain=t.plain:=by
 unfold ã;split<;>show⟨rfl,rfl⟩
theorem erase_filter:∀{l:List Str}{j:Nat}{x:Str},l.Nodup->l[j]?=a0 x->l.eraseIdx j=l.filter λy=>cK (y≠x)
 |[],j,x,_,h=>by simp at h
 |y::l,0,x,a,h=>by
  have⟨b,c⟩:=qe.mp a;have:y=x:=by simpa using h
  subst this;rw[List.eraseIdx_cons_zero,Qw (by simp)];show(PX.mpr λz hz=>by
   have:z≠y:=λe=>b (e▸hz);simpa using this).symm
 |y::l,j+1,x,a,h=>by
  have⟨b,c⟩:=qe.mp a;have d:l[j]?=a0 x:=by simpa using h
  have:y≠x:=λe=>b (e▸qs d);rw[Zi,erase_filter c d,Qt (by simpa using this)]
theorem fV(f:α->β):∀(l:List α) (j:Nat),(l.map f).eraseIdx j=(l.eraseIdx j).map f
 |[],_=>rfl
 |x::l,0=>rfl
 |x::l,j+1=>by
  change f x::(l.map f).eraseIdx j=f x::(l.eraseIdx j).map f;rw[fV f l j]
def qQ{a:i5}{led:Bool}{D:List Str}{x:Str}{k:Tok}{Q:Bool->gj->Prop}(l:aY prog w s.heap a led D)(h:∀b h',ri a s.heap h'->aY prog w h' a led (D.filter λy=>cK (y≠x))->Q b {s with heap:=h' }):
  eH (kj prog w) A (Ķ a (.str x k) ((sK prog w).hash x)) Q E s:=by
 have r:=l;have⟨L,es,ep,t,ho,c,d,m,f,u,v,B⟩:=l;have C:(sK prog w).is x (.str x k)=b6:=by rw[gS];simp
 have n:ElemsOf (sK prog w) es.toList:=by rw[c];show lq
 have hsz:=aY.sz (h:=s.heap) (a:=a) (led:=led) c d;unfold Ķ setFind setFindIn;show bD (bD (pb ho rfl f ?_))
 dsimp only
 rw[byScan_of (knd:=sK prog w) rfl u n];simp only[↓reduceIte];show bD (L5 ?_);show bD (İ (knd:=sK prog w) C ho rfl f n ?_);cases hr:Za (λe=>(sK prog w).is x e.2) es.toList with
 |none =>
  dsimp only
  show cL (cL ?_);have g:x∉D:=λg=>by
   rw[<-d.mem_iff,gs]at g;have⟨p,G,e⟩:=g;have H:((sK prog w).hash p.1,tr p.1 p.2)∈es.toList:=by rw[c];show gs.mpr ⟨p,G,rfl⟩
   have:=Y4.mp hr _ H;rw[gS,decide_eq_false_iff_not]at this;show this e.symm
  have e:D.filter (λy=>cK (y≠x))=D:=PX.mpr λz hz=>by
   have:z≠x:=λe=>g (e▸hz);simpa using this
  have I:s={s with heap:=s.heap}:=by cases s;rfl
  rw[I];show h cb s.heap (LH a s.heap) (by rw[e];show r)
 |some j =>
  dsimp only
  obtain⟨i,o,_⟩:=Wg.mp hr;rw[Sm];show cL ?_
  dsimp only
  show bD (pb ho rfl f ?_)
  dsimp only
  have J:j<L.length:=by rw[c,df]at i;show i
  have N:j<es.size:=by simpa using i
  have O:L[j].1=x:=by
   have e:es.toList[j]=((sK prog w).hash L[j].1,tr L[j].1 L[j].2):=by simp[c]
   rw[e,gS,ŗ]at o;show o.symm
  have T:(L.map (·.1)).Nodup:=d.nodup_iff.mpr m;have Y:(L.eraseIdx j).map (·.1)=(L.map (·.1)).filter λy=>cK (y≠x):=by
   rw[<-erase_filter T (j:=j) (by simp[J,O]),fV]
  have S3:(QO es j).toList=(L.eraseIdx j).map (λp=>((sK prog w).hash p.1,tr p.1 p.2)):=by
   rw[fu,c,fV]
  have q:(QO es j).size=es.size - 1:=by rw[<-lx,fu,À,Ř i,lx]
  have⟨d1,d2⟩:=yb t j;show bD (eS (t':=t.drop j) (led:=led) ho S3 (by rw[Y];show d.filter _) (Zb r3 m) (by rw[q];show wc f N) (by rw[q];lia) (d1.trans v) (.inr (d2.trans (B.resolve_left ⋯))) λh' sb hg JR=>?_);show bD (wpAny_point ?_);show cL (h b6 h' sb JR)
end
def AW:Full 256=b6:=by decide +kernel
section
def iP{es:Array (Int×ez)}{a:Array Nat}(h:a.toList.Perm (hA es.size)):(a.filterMap (es[·]?)).toList.Perm es.toList:=by
 rw[Array.toList_filterMap];show(h.filterMap _).trans (by rw[filterMap_getElem?_range])
def nJ{L:List (Str×Tok)}(ho:s.heap.get? a=a0 {cls:=.type "set",dict:=b5,data:=.set es ep t})(n:es.toList=L.map (λp=>((sK prog w).hash p.1,tr p.1 p.2)))(o:(L.map (·.1)).Perm D)(q:D.Nodup)
  (r:t.fits es.size=b6) (u:es.size<K4) (i:t.led=led) (v:es.size=0\/t.plain=cb) (j:MS c=m+1) (x:Full (m+1)=b6) (y:es.size<=m) (Y:m<1000)
  (h:∀h' (d:Array (Int×ez)) (t':P0) (z:Nat),ri a s.heap h'->h'.get? a=a0 {cls:=.type "set",dict:=b5,data:=.set d z t' }->aY prog w h' a led D->t'.fits d.size=b6->t'.mask=m->t'.dummies=#[]->t'.led=led->d.size=es.size->Q () {s with heap:=h' }) :
  eH (kj prog w) A (setRelay a c) Q E s:=by
 have B:(2000:Nat)<=dV:=by decide
 have⟨t',b,C,f,k,G,H,I,l⟩:=uA (mask:=m) (finger:=t.finger) (moves:=t.movedTo m) (led:=t.led) (plain:=t.plain) (hs:=es.map (·.1)) x (by rw[Sn];show y);rw[Sn]at f l;have e:t.relaid (es.map (·.1)) c=a0 (t',b):=by
  unfold Wq;rw[j,Nat.add_sub_cancel];show C
 unfold setRelay;show bD (pb ho rfl r ?_)
 dsimp only
 rw[Ś (by rw[j];lia)];show bD ?_;rw[e];change eH (kj prog w) A (if ((b.filterMap (es[·]?)).size != es.size)=b6 then((Y7 "internal:set-table-lost-an-element":Sem Unit) >>= λ_=>pure (b.filterMap (es[·]?),t')) else pure (b.filterMap (es[·]?),t')) _ E s;have g:=iP l;have hsz:(b.filterMap (es[·]?)).size=es.size:=by rw[<-lx,g.length_eq,lx]
 rw[Ś (by rw[hsz];simp)];show cL ?_;rw[n]at g;have⟨L',J,N⟩:=dg g;show eS (led:=led) ho J ((N.map _).trans o) q (by rw[hsz];show f) (by rw[hsz];show u) (k.trans i) (by rw[hsz,G];show v) λh' O T hs=>h h' _ t' _ O T hs (by rw[hsz];show f) H I (k.trans i) hsz
def yc(b:5<=n)(a:n<64):∃m,MS (2 * n)=m+1/\Full (m+1)=b6/\n<=m/\m<1000:=by
 have:∀n:_root_.Fin 64,MS (2 * n.val)=(if n.val<4 then 8 else if n.val<8 then 16 else if n.val<16 then 32 else if n.val<32 then 64 else 128):=by decide +kernel
 have e:=this ⟨n,a⟩
 dsimp only at e
 rw[e,Ś ⋯];split
 .show⟨15,rfl,x8,⋯,⋯⟩
 .split
  .show⟨31,rfl,x9,⋯,⋯⟩
  .split
   .show⟨63,rfl,x_,⋯,⋯⟩
   .show⟨127,rfl,uw,⋯,⋯⟩
def we(a:n<64):∃m,MS (OT n)=m+1/\Full (m+1)=b6/\n<=m/\m<1000:=by
 have:∀n:_root_.Fin 64,MS (OT n.val)=(if n.val<2 then 8 else if n.val<4 then 16 else if n.val<8 then 32 else if n.val<16 then 64 else if n.val<32 then 128 else 256):=by decide +kernel
 have e:=this ⟨n,a⟩
 dsimp only at e
 rw[e];split
 .show⟨7,rfl,CB,⋯,⋯⟩
 .split
  .show⟨15,rfl,x8,⋯,⋯⟩
  .split
   .show⟨31,rfl,x9,⋯,⋯⟩
   .split
    .show⟨63,rfl,x_,⋯,⋯⟩
    .split
     .show⟨127,rfl,uw,⋯,⋯⟩
     .show⟨255,rfl,AW,⋯,⋯⟩
def yd{a:i5}{led:Bool}{D:List Str}{Q:Unit->gj->Prop}(b:aY prog w s.heap a led D)(p:D.length<64)(h:∀h',ri a s.heap h'->aY prog w h' a led D->Q () {s with heap:=h' }):
  eH (kj prog w) A (setTidy a) Q E s:=by
 have f:=b;have⟨L,es,ep,t,ho,c,d,g,e,i,j,k⟩:=b;have hsz:=aY.sz (h:=s.heap) (a:=a) (led:=led) c d;unfold setTidy;show bD (pb ho rfl e ?_)
 dsimp only
 split
 .have⟨m,m1,m2,m3,m4⟩:=we (n:=es.size) ⋯;show nJ ho c d g e i j k m1 m2 m3 m4 λh' _ _ _ l _ hs _ _ _ _ _=>h h' l hs
 .have o:s={s with heap:=s.heap}:=by cases s;rfl
  show cL ?_;rw[o];show h s.heap (LH a s.heap) f
def wg{a b:i5}{es:Array (Int×ez)}{D:List Str}{Q:Unit->gj->Prop}(v:a≠b)(ho:s.heap.get? a=a0 {cls:=.type "set",dict:=b5,data:=.set #[] 0 (.fresh 0 0 (aN w))})(x:aY prog w s.heap b (aN w) D)(KI:D.length<64)
  (h:∀h',ri a s.heap h'->aY prog w h' a (aN w) D->Q () {s with heap:=h' }):eH (kj prog w) A (setMerge a b) Q E s:=by
 have OD:=x;have⟨L,d,Xv,f,y,l,n,B,C,G,PJ,S4⟩:=x;have hsz:=aY.sz (h:=s.heap) (a:=b) (led:=aN w) l n;have o:(Ó 0 0 (aN w)).fits (#[]:Array (Int×ez)).size=b6:=rfl;unfold setMerge;rw[Ś (by simpa using v)];show bD (pb y rfl C ?_)
 dsimp only
 split
 .rename_i S5;have hD:D=[]:=by
   have:d.size=0:=by simpa using S5
   show Xi ⋯
  subst hD;have p:s={s with heap:=s.heap}:=by cases s;rfl
  show cL ?_;rw[p];show h s.heap (LH a s.heap) (ib ho)
 .rename_i IZ;have S6:d.size≠0:=λz=>IZ (by simpa using z);show bD ?_;unfold setRoomFor;show bD (pb ho rfl o ?_)
  dsimp only
  show w6 (Q:=λ_ s1=>∃(g:K9) (ts:P0) (H:Nat) (k:Array (Int×ez)),s1={s with heap:=g}/\k.size=0/\ri a s.heap g/\g.get? a=a0 {cls:=.type "set",dict:=b5,data:=.set k H ts}/\ts.fits k.size=b6/\Full (ts.mask+1)=b6/\d.size<=ts.mask/\ts.dummies=#[]/\ts.led=aN w) ?_ (λ_ s1 ⟨g,ts,H,k,e,z,i,j,I,hF,q,S7,hl⟩=>?_) λ_ _ e=>e
  .unfold SetTable.roomFor;by_cases h5:5<=d.size
   .rw[Ř (by change(0+d.size) * 5 >= 7 * 3;lia)]
    dsimp only
    have⟨m,m1,m2,m3,m4⟩:=yc h5 ⋯;have ew:((Ó 0 0 (aN w)).place.size+d.size) * 2=2 * d.size:=by change(0+d.size) * 2=_;lia
    rw[ew];show nJ (L:=[]) (D:=[]) (led:=aN w) ho rfl (MI _) .nil o (by decide) rfl (.inl rfl) m1 m2 (by change 0<=m;lia) m4 λh' Il t' LU i j _ Sw J hd hl hz=>⟨h',t',LU,Il,rfl,hz,i,j,Sw,by rw[J];show m2,by rw[J];show m3,hd,hl⟩
   .rw[Ś (by change ¬(0+d.size) * 5 >= 7 * 3;lia)]
    dsimp only
    have p:s={s with heap:=s.heap}:=by cases s;rfl
    show cL ⟨s.heap,_,0,#[],p,rfl,LH a s.heap,ho,o,CB,by change d.size<=7;lia,rfl,rfl⟩
  .subst e;show bD (pb j rfl I ?_)
   dsimp only
   have S8:ts.place.size=0:=by
    simp only[So,eh,beq_iff_eq]at I;lia
   have PL:ts.road f=if ts.mask==f.mask&&f.dummies.isEmpty then .slotForSlot else .clean:=by
    unfold SetTable.road Xj;rw[S8,S7];rfl
   have Xw:g.get? b=a0 {cls:=.type "set",dict:=b5,data:=.set d Xv f}:=(i.2 b (vu v)).trans y;have N:(ts.plain&&f.plain)=cb:=by rw[S4.resolve_left S6,Va]
   have O:(ts.led&&f.led)=aN w:=by rw[hl,PJ,Ġ]
   rw[PL];by_cases T:(ts.mask==f.mask&&f.dummies.isEmpty)=b6
   .rw[Ř T]
    dsimp only
    show eS (s:={s with heap:=g}) (led:=aN w) (L':=L) (t':={f with finger:=ts.finger,led:=ts.led&&f.led,moves:=ts.moves,plain:=ts.plain&&f.plain}) j l n B C G O (.inr N) λh' r _ hs=>h h' (i.trans r) hs
   .rw[Ś T]
    dsimp only
    have⟨t',c,q1,Y,q3,q4,q5,q6,q7⟩:=uA (mask:=ts.mask) (finger:=ts.finger) (moves:=ts.moves) (led:=ts.led&&f.led) (plain:=ts.plain&&f.plain) (hs:=d.map (·.1)) hF (by rw[Sn];show q);rw[Sn]at Y q7;show bD ?_;rw[q1];change eH (kj prog w) A (if ((c.filterMap (d[·]?)).size != d.size)=b6 then((Y7 "internal:set-table-lost-an-element":Sem Unit) >>= λ_=>pure (c.filterMap (d[·]?),t')) else pure (c.filterMap (d[·]?),t')) _ E _;have t:=iP q7;have u:(c.filterMap (d[·]?)).size=d.size:=by rw[<-lx,t.length_eq,lx]
    rw[Ś (by rw[u];simp)];show cL ?_;rw[l]at t;have⟨L',e',p'⟩:=dg t;show eS (s:={s with heap:=g}) (led:=aN w) j e' ((p'.map _).trans n) B (by rw[u];show Y) (by rw[u];show G) (q3.trans O) (.inr (q4.trans N)) λh' r _ hs=>h h' (i.trans r) hs
end
section
theorem ig:∀{l:List α},(∀x∈l,∀Q':ForInStep β->gj->Prop,Q' (.yield b) s->eH M A (body x b) Q' E s)->Q b s->eH M A (ĉ l b body) Q E s
 |[],_,h=>by rw[Ss];show cL h
 |x::l,a,h=>by
  rw[RT];show bD (a x (by simp) _ (ig (λy c=>a y (by simp[c])) h))
def wj(hs:∀b∈sets,∃led D,aY prog w s.heap b led D)(h:Q b6 s):eH (kj prog w) A (setsQuiet sets) Q E s:=by
 unfold setsQuiet;show bD (ig (λb c Q' d=>?_) (cL h));have⟨led,D,L,es,ep,t,f,g,k,l,i,m,n,o⟩:=hs b c;show bD (SS f rfl i ?_);rw[<-N8];show bD (ig (λe a q j=>?_) (cL d));rw[g]at a;obtain⟨p,_,rfl⟩:=gs.mp a;show cL j
def qR(l:aY prog w s.heap a (aN w) D)(ho:∀b∈others,∃led B,aY prog w s.heap b led B)(m:∀r,f=a0 r->aY prog w s.heap r (aN w) [])
  (h:∀(es:Array (Int×ez)) (L:List (Str×Tok)) (h':K9),es.toList=L.map (DR prog w)->(L.map (·.1)).Perm D->(f=b5->h'=s.heap)->(∀r,f=a0 r->ri r s.heap h'/\aY prog w h' r (aN w) [])->Q es {s with heap:=h' }) :
  eH (kj prog w) A (setWalkUnseen a others f) Q E s:=by
 have C:=l;have⟨L,es,ep,t,j,n,o,II,k,hb,G,H⟩:=l;have I:s={s with heap:=s.heap}:=by cases s;rfl
 have c:∀(d:Array (Int×ez)),d.toList.Perm es.toList->Q d s:=λd p=>by
  rw[n]at p;have⟨L',J,N⟩:=dg p;rw[I];show h d L' s.heap J ((N.map _).trans o) (λ_=>rfl) λr e=>⟨LH r s.heap,m r e⟩
 unfold setWalkUnseen;show bD (pb j rfl k ?_)
 dsimp only
 show bD (cW ?_);cases g:w.params.followText "set-order" with
 |true =>
  rw[Ř (by change(w.params.followText "set-order"||t.led&&t.plain||decide (es.size<=1))=b6;rw[g];rfl)];unfold setWalk;show bD (pb j rfl k ?_)
  dsimp only
  show bD (cW ?_);rw[Ř (by show g)];show bD (R4 ?_);show cL (c _ (dW _ _))
 |false =>
  by_cases q:es.size<=1
  .rw[Ř (by rw[ś q];simp)];unfold setWalk;show bD (pb j rfl k ?_)
   dsimp only
   show bD (cW ?_);rw[Ś (by change ¬w.params.followText "set-order"=b6;rw[g];simp)];change eH _ _ (if (!t.plain&&cK (es.size>1))=b6 then _ else _) _ _ s;rw[Ś (by rw[ř (show ¬es.size>1 by lia)];simp)];change eH _ _ ((if (!t.led&&cK (es.size>1))=b6 then _ else _) >>= _) _ _ s;rw[Ś (by rw[ř (show ¬es.size>1 by lia)];simp)];show bD (cL (cL (c es (MI _))))
  .have O:t.plain=cb:=H.resolve_left ⋯;rw[Ś (by change ¬(w.params.followText "set-order"||t.led&&t.plain||decide (es.size<=1))=b6;rw[g,O,ř q];simp)];show bD (wj (λb J2=>by
    rcases ke.mp J2 with rfl|J2
    .show⟨_,_,C⟩
    .show ho b J2) ?_)
   rw[Ś (by simp)];show bD (L5 ?_);cases f with
   |none=>show cL (c es (MI _))
   |some r =>
    dsimp only
    have⟨Lr,T,Zu,i,u,v,x,Y,y,Xx,PN,Xy⟩:=m r rfl;show bD (pb u rfl y ?_)
    dsimp only
    have OE:T.size=0:=by
     have:=aY.sz (h:=s.heap) (a:=r) (led:=aN w) v x;simpa using this
    split
    .show bD (eS (t':={i with led:=i.led&&t.led,plain:=i.plain&&t.plain}) (led:=aN w) u v x Y y Xx (by change(i.led&&t.led)=_;rw[PN,G,Ġ]) (.inl OE) λh' sb _ hs=>?_);show cL (h es L h' n o (λz=>nomatch z) λr' e=>by cases e;show⟨sb,hs⟩)
    .show cL (c es (MI _))
end
section
variable{prog:HP}{w:Km}{A:NU}{E:ez->gj->Prop}{s:gj}
theorem jt(J:List (Str×Tok)->gj->Prop)(a:∀d p r s,d++p::r=L->J d s->∀Q':ForInStep PUnit->gj->Prop,(∀s',J (d++[p]) s'->Q' (.yield ⟨⟩) s')->eH M A (body (DR prog w p) ⟨⟩) Q' E s)(b:∀s',J L s'->Q ⟨⟩ s'):
  ∀(r d:List (Str×Tok)) (s:gj),d++r=L->J d s->eH M A (ĉ (r.map (DR prog w)) ⟨⟩ body) Q E s
 |[],d,s,e,h=>by
  rw[sx]at e;subst e;rw[MT,Ss];show cL (b s h)
 |p::r,d,s,e,h=>by
  rw[gi,RT];show bD (a d p r s e h _ λs' h'=>jt J a b r (d++[p]) s' (by rw[<-e];simp) h')
def aY.ty(h:aY prog w s.heap a led D):s.TypeIs (.ref a) "set":=let ⟨_,_,_,_,ho,_⟩:=h;⟨_,ho,rfl⟩
def gu(b:aY prog w s.heap a led D)(h:Q b6 s):eH (kj prog w) A (LW (.ref a)) Q E s:=by
 unfold LW;show bD (K2 b.ty XS ?_);show cL h
def iQ{a:i5}{led:Bool}{D:List Str}{Q:Nat->gj->Prop}(b:aY prog w s.heap a led D)(h:Q D.length s):eH (kj prog w) A (Rq a) Q E s:=by
 obtain⟨L,es,ep,t,ho,c,d,f,e,_⟩:=b;unfold Rq;show bD (SS ho rfl e (cL ?_));rw[aY.sz (h:=s.heap) (a:=a) (led:=led) c d];show h
def qS(b:aY prog w s.heap a led D)(h:Q (.type "set") s):eH (kj prog w) A (Vk a) Q E s:=by
 unfold Vk;show bD (K2 b.ty XS ?_);show cL h
def uB(h:Q (.ref s.heap.objs.size) {s with heap:=s.heap.push {cls:=.type "set",dict:=b5,data:=.set #[] 0 (.fresh 0 0 (aN w))}}):eH (kj prog w) A (newSet (.type "set")) Q E s:=by
 unfold newSet Ė;show bD (bD (R4 (cL ?_)))
 dsimp only
 simp only[newObj];show bD (ø (cL h))
def ye{a:i5}{D:List Str}{Q:ez->gj->Prop}(b:aY prog w s.heap a (aN w) D)(c:D.length<64)(h:∀h',ri s.heap.objs.size (s.heap.push {cls:=.type "set",dict:=b5,data:=.set #[] 0 (.fresh 0 0 (aN w))}) h'->aY prog w h' s.heap.objs.size (aN w) D->Q (.ref s.heap.objs.size) {s with heap:=h' }):
  eH (kj prog w) A (Vj a) Q E s:=by
 unfold Vj;show bD (qS b (bD (uB ?_)));show bD (cL ?_);have d:s.heap.objs.size≠a:=λe=>by obtain⟨_,_,_,_,ho,_⟩:=b;show wk _ (e▸f6 ho)
 show bD (wg (es:=#[]) (s:={s with heap:=s.heap.push {cls:=.type "set",dict:=b5,data:=.set #[] 0 (.fresh 0 0 (aN w))}}) d (fx _ rfl) (b.at λo e=>dt _ e) c λh' f hs=>?_);show cL (h h' f hs)
def lC{id:String}(ho:s.heap.get? a=a0 {cls:=.type "set",dict:=b5,data:=.set es ep t})(b:t.fits es.size=b6)(h:Q () s):eH (kj prog w) A (Um id a ep) Q E s:=by
 unfold Um;show bD (XH ho rfl b ?_);rw[Ś (by simp)];show cL h
def yf{id:String}(v:a≠b)(o:aY prog w s.heap a (aN w) g)(j:aY prog w s.heap b (aN w) q)(B:g.length<64)(i:q.length<=g.length)
  (h:∀h',ri a s.heap h'->aY prog w h' a (aN w) (g.filter λx=>cK (x∉q))->Q () {s with heap:=h' }):eH (kj prog w) A (To id a (.ref b)) Q E s:=by
 unfold To;rw[Ś (by simpa using vu v)];show bD (gu j ?_);rw[Ř rfl];show bD (cL ?_);show bD (iQ j (bD (iQ o ?_)));rw[Ś ⋯];have⟨L2,I,J,N,y,O,T,Y,z,U1,Vl,XA⟩:=_root_.id j;show bD (XH y rfl z ?_);show bD (uk ?_);show bD (qR j (others:=[a]) (f:=b5) (λc C=>by rw[ix.mp C];show⟨_,_,o⟩) (λr e=>nomatch e) λes L h0 D G t _=>?_);have t:=t rfl;subst t;rw[<-N8,D];show bD (jt (prog:=prog) (w:=w) (L:=L) (λd s'=>∃h',s'={s with heap:=h' }/\ri a s.heap h'/\aY prog w h' a (aN w) (g.filter λx=>cK (x∉d.map (·.1)))) (λd p r s' ed ⟨h',u,k,l⟩ Q' H=>?_) (λs' ⟨h',u,k,l⟩=>?_) L [] _ rfl ⟨s.heap,by cases s;rfl,LH a s.heap,by rw[PX.mpr λx _=>by simp];show o⟩)
 .subst u;show bD (uk (qQ (s:={s with heap:=h' }) l λb' i m n=>?_));show bD (lC (s:={s with heap:=i}) (((k.trans m).2 b (vu v)).trans y) z ?_);show cL (H _ ⟨i,rfl,k.trans m,?_⟩);rw[Ù]at n;have e:(g.filter λx=>cK (x≠p.1)&&cK (x∉d.map (·.1)))=g.filter λx=>cK (x∉(d++[p]).map (·.1)):=by
   show Q0 λx _=>?_;rw[JM];simp[not_or,and_comm]
  rw[<-e];show n
 .subst u;show cL ?_;have e:(g.filter λx=>cK (x∉L.map (·.1)))=g.filter λx=>cK (x∉q):=by
   show Q0 λx _=>?_;rw[JM];simp only[ŗ];rw[G.mem_iff]
  rw[e]at l;show yd (s:={s with heap:=h' }) l (Wf (nC _ _) B) λi m n=>h i (k.trans m) n
def yg{id:String}(JF:a≠b)(l:aY prog w s.heap a (aN w) m)(j:aY prog w s.heap b (aN w) g)(D:m.length<64)(k:g.length<64)
  (h:∀h',(∀c o,s.heap.get? c=a0 o->h'.get? c=a0 o)->aY prog w h' s.heap.objs.size (aN w) (m.filter λx=>cK (x∉g))->Q (.ref s.heap.objs.size) {s with heap:=h' }):eH (kj prog w) A (Qk id a (.ref b)) Q E s:=by
 have keep:∀h',ri s.heap.objs.size (s.heap.push {cls:=.type "set",dict:=b5,data:=.set #[] 0 (.fresh 0 0 (aN w))}) h'->∀c o,s.heap.get? c=a0 o->h'.get? c=a0 o:=λh' i c o e =>
  (i.2 c (k7 (f6 e))).trans (dt _ e)
 have G:a<s.heap.objs.size:=by obtain⟨_,_,_,_,ho,_⟩:=l;show f6 ho
 have v:b<s.heap.objs.size:=by obtain⟨_,_,_,_,ho,_⟩:=j;show f6 ho
 unfold Qk
 dsimp only
 show bD (gu j ?_);rw[Ś (by simp)];show bD (cL ?_);rw[Ś (by simp),Ř rfl];show bD (iQ j (bD (iQ l ?_)));by_cases H:m.length / 4>g.length
 .rw[Ř H];show bD (L5 ?_);show bD (ye l D λh' i hs=>?_);show bD (cL ?_);show bD (uk (yf (s:={s with heap:=h' }) (vr v) hs (j.at λo e=>keep h' i b o e) D ⋯ λk n t=>?_));show cL (h k (keep k (i.trans n)) t)
 .rw[Ś H];show bD (qS l (bD (uB ?_)));show bD (cL ?_);have I:=l.at (h':=s.heap.push {cls:=.type "set",dict:=b5,data:=.set #[] 0 (.fresh 0 0 (aN w))}) λo e=>dt _ e;have Vb:=j.at (h':=s.heap.push {cls:=.type "set",dict:=b5,data:=.set #[] 0 (.fresh 0 0 (aN w))}) λo e=>dt _ e;have J:aY prog w (s.heap.push {cls:=.type "set",dict:=b5,data:=.set #[] 0 (.fresh 0 0 (aN w))}) s.heap.objs.size (aN w) []:=ib (fx _ rfl);have⟨La,ea,XB,ta,N,Vn,Zy,S_,y,Zz,Vo,XC⟩:=_root_.id I;show bD (XH N rfl y ?_);show bD (uk ?_);rw[Ř rfl];show bD (qR (s:={s with heap:=s.heap.push {cls:=.type "set",dict:=b5,data:=.set #[] 0 (.fresh 0 0 (aN w))}}) I (others:=[b,s.heap.objs.size]) (f:=a0 s.heap.objs.size) (λc hc=>by
   rcases ke.mp hc with rfl|hc
   .show⟨_,_,Vb⟩
   .rw[ix.mp hc];show⟨_,_,J⟩) (λr e=>by cases e;show J) λes L h0 he B _ e0=>?_)
  have⟨XD,QX⟩:=e0 _ rfl;rw[<-N8,he];have XE:L.length=m.length:=by rw[<-B.length_eq,df]
  show bD (jt (prog:=prog) (w:=w) (L:=L) (λd s'=>∃h',s'={s with heap:=h' }/\ri s.heap.objs.size (s.heap.push {cls:=.type "set",dict:=b5,data:=.set #[] 0 (.fresh 0 0 (aN w))}) h'/\aY prog w h' s.heap.objs.size (aN w) ((d.map (·.1)).filter λx=>cK (x∉g))) (λd p r s' O ⟨h',C,i,u⟩ Q' T=>?_) (λs' ⟨h',C,i,u⟩=>?_) L [] _ rfl ⟨h0,rfl,XD,QX⟩)
  .subst C;have Y:(L.map (·.1)).Nodup:=B.nodup_iff.mpr S_;have XF:p.1∉d.map (·.1):=λz=>by
    rw[<-O,my,rr]at Y;show Y.2.2 p.1 z p.1 (by simp) rfl
   have XG:aY prog w h' b (aN w) g:=j.at λo e=>keep h' i b o e;have Vp:h'.get? a=a0 {cls:=.type "set",dict:=b5,data:=.set ea XB ta}:=(i.2 a (k7 G)).trans N;have Kk:d.length<64:=by have:=ŝ G2 O;simp at this;lia
   show bD (uk ?_);rw[Ř rfl];show bD (qP (s:={s with heap:=h' }) XG λr hr=>?_);show bD (cL ?_);have em:((d++[p]).map (·.1)).filter (λx=>cK (x∉g))=(d.map (·.1)).filter (λx=>cK (x∉g))++if p.1∈g then [] else [p.1]:=by
    rw[my,LV];congr 1
    by_cases z:p.1∈g<;>simp[z]
   by_cases z:p.1∈g
   .rw[Ś (by rw[hr,ś z];simp)];show cL ?_;show bD (lC (s:={s with heap:=h' }) Vp y ?_);show cL (T _ ⟨h',rfl,i,?_⟩);rw[em,Ř z,sx];show u
   .rw[Ř (by rw[hr,ř z];rfl)];show bD (lu (s:={s with heap:=h' }) u (by
     have:((d.map (·.1)).filter λx=>cK (x∉g)).length<=d.length:=td (nC _ _) (by simp);have MN:K4=4096:=rfl;lia) λk n t=>?_)
    show cL ?_;show bD (lC (s:={s with heap:=k}) ((n.2 a (k7 G)).trans Vp) y ?_);show cL (T _ ⟨k,rfl,i.trans n,?_⟩);rw[em,Ś z];rw[Ś (λq=>XF (hY.mp q).1)]at t;show t
  .subst C;show cL ?_;show cL (h h' (keep h' i) (u.perm ?_));show B.filter _
end
def mR:û table "set.__sub__"=a0 O5.«frozenset.__sub__» :=
 ZU (id':="frozenset.__sub__") (by kernel_rfl) rfl (by decide +kernel) (by kernel_rfl)
section
def kC(n:a≠b)(g:aY prog w s.heap a (aN w) j)(i:aY prog w s.heap b (aN w) k)(p:j.length<64)(q:k.length<64)
  (h:∀h',(∀c o,s.heap.get? c=a0 o->h'.get? c=a0 o)->aY prog w h' s.heap.objs.size (aN w) (j.filter λx=>cK (x∉k))->Q (.ref s.heap.objs.size) {s with heap:=h' }):eH (kj prog w) A (PZ .Sub (.ref a) (.ref b)) Q E s:=by
 show wpAny_binaryOp_same (T:="set") g.ty i.ty PySem.F.fills_set_sub PySem.F.slot_set_sub (va PySem.F.slot_set_sub g.ty mR ?_ (PySem.F.args_set_sub_2 _ _));unfold O5.«frozenset.__sub__»;change eH (kj prog w) _ (do
  let x <-VB "__sub__" ⟨[.ref a,.ref b],[]⟩
  match x with
  |(self,f) =>
   match if cb=b6 then(f,self) else(self,f) with
   |(l,r)=>do
    let c <-LW l <&&> LW r
    if (!c)=b6 then do
      ķ (Uu "frozenset."++Uu "__sub__"++Uu ".declined")
      ret Value.notImplemented
     else do
      let d <-Vm l
      let e <-Qk (Uu "frozenset."++Uu "__sub__") d r
      ret e) _ _ _
 show bD (m:=VB "__sub__" ⟨[.ref a,.ref b],[]⟩) (cL (a:=(mA a,mA b)) ?_)
 dsimp only
 show bD (bD (gu g ?_));change eH _ _ (LW (.ref b)) _ _ _;show gu i ?_;rw[Ś (by simp)];show bD (cL ?_);show bD (yg n g i p q λh' hk hs=>?_);show cL ⟨_,rfl,(λz=>by cases z),h h' hk hs⟩
end
section
def sN(l:X.calm=b6)(I:Inv X a σ H s)(hq:Je X.K H p (ys.map V.str)\/IX X.K H p (ys.map V.str))(i:ys.length+1<K4)
  (h:∀(S:i5) (o:Obj) (s1:gj),s.heap.objs.size<=S->s1.heap.get? S=a0 o->aY X.prog X.w s1.heap S (aN X.w) (ax ys)->Inv X ((S,o)::a) σ H s1->Q (.ref S) s1) :
  eH (kj X.prog X.w) X.A (Qz (.type "set") [.ref p]) Q X.xe s:=by
 have hh:X.A.handled=b5:=I.ok.hd l;have f:∀(h':K9) (c:Nat),aY X.prog X.w h' s.heap.objs.size (aN X.w) (ax ys)->(∀b o,b<s.heap.objs.size->s.heap.get? b=a0 o->h'.get? b=a0 o)->Q (.ref s.heap.objs.size) {s with heap:=h',toks:=c}:=λh' c d k=>by
  have⟨L,es,ep,t,ho,r⟩:=_root_.id d;have j:Inv X a σ H {s with heap:=h',toks:=c}:=I.kept λb o e=>k b o (f6 e) e;show h _ _ _ (lg _) ho d (j.eu λq hq=>?_);rcases ke.mp hq with rfl|hq
  .show⟨ho,I.Ir.fresh (lg _),vr I.lt,I.De (lg _),λv z=>nomatch z⟩
  .show j.pin q (oR _ hq)
 rcases hq with hq|hq
 .have⟨m,rv,g,hz⟩:=I.list hq;show fU hh g.isList (cV rv) i λh' c d k=>f h' c d k
 .have⟨m,rv,g,hz⟩:=I.tuple hq;show gT hh g (cV rv) i λh' c d k=>f h' c d k
end
section
def iR(a:s.heap.IsTupleIter it l i)
  (hl:s.heap.IsTuple l b) (d:b[i]?=a0 x)
  (e:∀h',h'.IsTupleIter it l (i+1)->ri it s.heap h'->Q x {s with heap:=h' }) :
  eH (kj prog w) A (rz (.ref it)) Q E s:=by
 have⟨o,ho,f,c⟩:=id a;obtain⟨j,g,_,k,h⟩:=hl;unfold rz;show bD (JS (name:=Og "__next__") a.typeIs PySem.F.slot_tuple_iterator_next
  (va PySem.F.slot_tuple_iterator_next a.typeIs PySem.F.entry_tuple_iterator_next ?_ (PySem.F.args_tuple_iterator_next_1 _)))
 change eH _ _ (ZT (.ref it) 0 >>= _) _ _ s;show bD (Kv ho c (x:=.ref l) rfl ?_);change eH _ _ (if (mA l==ro)=b6 then _ else _) _ _ s;rw[Ś (show ¬((mA l==ro)=b6) from oO)];change eH _ _ (ZT (.ref it) 1 >>= _) _ _ s;show bD (Kv ho c (x:=.int i 0) rfl ?_);change eH _ _ (Ï (.ref l) >>= _) _ _ s;show bD (Lf g h ?_);simp only[L7,d];show bD (Oc ho c (by simp) (cL ⟨x,rfl,cL (e _ ?_ (KJ ..))⟩));show⟨_,Jx _ ho (UP (Oh c _)),(WA ..).trans f,by
  rw[Oh c];simp[H8]⟩
def dh(hh:A.handled=b5)
  (b:s.heap.IsTupleIter it l i) (hl:s.heap.IsTuple l c) (f:c[i]?=b5)
  (g:∀h' e,Z4 it s.heap h'->(∃o,h'.get? e=a0 o/\o.cls=.type "StopIteration")->E (.ref e) {s with heap:=h' }) :
  eH (kj prog w) A (rz (.ref it)) Q E s:=by
 have⟨o,ho,k,d⟩:=id b;obtain⟨n,h,_,p,j⟩:=hl;unfold rz;show bD (JS (name:=Og "__next__") b.typeIs PySem.F.slot_tuple_iterator_next
  (va PySem.F.slot_tuple_iterator_next b.typeIs PySem.F.entry_tuple_iterator_next ?_ (PySem.F.args_tuple_iterator_next_1 _)))
 change eH _ _ (ZT (.ref it) 0 >>= _) _ _ s;show bD (Kv ho d (x:=.ref l) rfl ?_);change eH _ _ (if (mA l==ro)=b6 then _ else _) _ _ s;rw[Ś (show ¬((mA l==ro)=b6) from oO)];change eH _ _ (ZT (.ref it) 1 >>= _) _ _ s;show bD (Kv ho d (x:=.int i 0) rfl ?_);change eH _ _ (Ï (.ref l) >>= _) _ _ s;show bD (Lf h j ?_);simp only[L7,f];show bD (L5 (bD (Oc ho d (by simp) ?_)));change eH _ _ (ß (.type "StopIteration") [] >>= _) _ _ _;show bD ?_;simp only[ß,Ō];show bD (vl ?_ (by size_fits));show bD (m:=V5 _ _) (Y6 (a:=ro) (by first|rfl|(simp only[V5];rfl)) ?_);show vl ?_ (by size_fits);simp only[ZO];show bD (wpAny_handled ?_)
 first|rw[show A.in1.handled=b5 from hh]|rw[hh]
 show bD (cL (wpAny_throw ?_));show g _ _ (((KJ ..).extBut.push _).push _) ⟨_,fx _ rfl,rfl⟩
end
def fW(hh:A.handled=b5)(it l:i5)(d:l≠it)(a:Array ez):
  Į prog w A it [it,l] a.size (λi v=>a[i]?=a0 v) (λi h=>h.IsTupleIter it l i/\h.IsTuple l a) where
 live:=λ_ _ st=>let ⟨o,ho,_⟩:=st.1;⟨o,ho⟩
 frame:=λ_ _ _ st hk=>⟨st.1.at λo e=>hk it (by simp) o e,let ⟨o,ho,r⟩:=st.2;⟨o,hk l (by simp) o ho,r⟩⟩
 item:=λi s Q E b st f=>by
  show iR st.1 st.2 (x:=a[i]) (by simp[b]) λh' g c=>?_;show f _ h' s.toks (by simp[b]) ⟨g,let ⟨o,ho,r⟩:=st.2;⟨o,(c.2 l d).trans ho,r⟩⟩ c
 done:=λs Q E st j=>dh hh st.1 st.2 (by simp) j
open AutoSeq1 (wpAny_loadPart') in
def lD(l:i5)(a:Array ez)(n:Nat)(e:Option i5)(f:Array (Option ez)):
  Meets (O5.«enumerate.__new__» ⟨[.type "enumerate",.ref l],[]⟩) (λ_ R s=>s.heap.get? l=a0 {cls:=.type "tuple",dict:=e,data:=.seq a n,slots:=f} /\
   R (.ok (.ret (.ref (s.heap.push {cls:=.type "tuple_iterator",data:=.fields #[.ref l,.int 0 0]}).objs.size)))
    {s with heap:=(s.heap.push {cls:=.type "tuple_iterator",data:=.fields #[.ref l,.int 0 0]}).push {cls:=.type "enumerate",data:=.fields #[.none,.bool cb,.ref s.heap.objs.size,H8 0,.none,.none]}}) :=
 .of_wp λprog w A R s h=>by
  have⟨i,g,d,j,os⟩:=s;have⟨hl,h⟩:=h;have k:=sub_enumerate;have b:Ĭ (Zs ⟨i,g,d,j,os⟩) l a:=⟨_,hl,rfl,n,rfl⟩
  wp_walk using Vx hl
  show wpAny_stack_any λst=>cL ?_;split
  .rename_i c _ _ _ _ _;cases(c==y2 "enumerate")
   .wp_walk using Vx hl,OX b
    show⟨_,rfl,h⟩
   .wp_walk using Vx hl,OX b
    show⟨_,rfl,h⟩
  .wp_walk using Vx hl,OX b
   show⟨_,rfl,h⟩
section
def fX(g:s.heap.IsTuple l a)
  (h:∀h',å h' (s.heap.objs.size+1) s.heap.objs.size 0 .none->h'.IsTupleIter s.heap.objs.size l 0->h'.objs.size=s.heap.objs.size+2 ->
   (∀b o,s.heap.get? b=a0 o->h'.get? b=a0 o)->Q (.ref (s.heap.objs.size+1)) {s with heap:=h' }) :
  eH (kj prog w) A (Qz (.type "enumerate") [.ref l]) Q E s:=by
 obtain⟨⟨c,i,j,k⟩,hl,d,n,e⟩:=g
 replace d:c=.type "tuple":=d
 replace e:j=.seq a n:=e
 subst d e;show callType_new PySem.F.called_enumerate (by decide) (PySem.F.typeCall_enumerate_1 _) (PySem.F.newCall_enumerate_1 _) (λobj=>PySem.F.args_object_init_2 obj _) PySem.F.entry_enumerate_new
  (lD l a n i k) ⟨hl,?_⟩
 have hz:(s.heap.push {cls:=.type "tuple_iterator",data:=.fields #[.ref l,.int 0 0]}).objs.size=s.heap.objs.size+1:=Pz ..;change _/\_;rw[hz];have f:å ((s.heap.push {cls:=.type "tuple_iterator",data:=.fields #[.ref l,.int 0 0]}).push
   {cls:=.type "enumerate",data:=.fields #[.none,.bool cb,.ref s.heap.objs.size,H8 0,.none,.none]}) (s.heap.objs.size+1) s.heap.objs.size 0 .none:=by
  have:=fx (s.heap.push {cls:=.type "tuple_iterator",data:=.fields #[.ref l,.int 0 0]})
   (o:={cls:=.type "enumerate",data:=.fields #[.none,.bool cb,.ref s.heap.objs.size,H8 0,.none,.none]}) rfl
  rw[hz]at this;show this
 show⟨⟨_,f,rfl⟩,h _ f ⟨_,dt _ (fx _ rfl),rfl,rfl⟩ (by rw[Pz,hz]) λb o x=>dt _ (dt _ x)⟩
end
end L2
namespace L2
open PySem PySem.Spec PyProof.Rows
section
def Inv.kD{ch:List i5}(I:Inv X a σ H s)(f:∀b∈ch,iC X a H b)(k:∀b o,b∉ch->s.heap.get? b=a0 o->h'.get? b=a0 o):Inv X a σ H {s with heap:=h',toks:=t' }:=by
 have g:∀b u,H b=a0 u->b∉ch:=λb u e z=>by rw[(f b z).1]at e;cases e
 show I.step (g':=s.gens) (d':=s.drawn) (ch:=ch) (λb h=>?_) (λb o _ _ d e _=>k b o d e) (λb o _ _ d e _=>⟨o.slots,k b o d e⟩) (λ_ _ _ _ n=>n)
  (λb o d e=>⟨o,k b o d e⟩) (λ_ _ e=>e) (λ_ _ _ e=>e) (λb ps e=>⟨#[],by rw[e];simp⟩) (λm i=>?_) (λb u e=>?_) I.bare
 .have⟨w,j,x,l,p,t⟩:=f b h;show⟨l,j,p,t⟩
 .have⟨o,es,ep,ho,r⟩:=i;show⟨o,es,ep,k _ o (λz=>(f _ z).2.1 rfl) ho,r⟩
 .show(I.Ir b u e).g_ (λc v d q=>k c v ?_ q) (λ_ q=>q) λ_ _ q=>q;rcases d with z|z
  .rw[z];show g b u e
  .show g c _ z
def Inv.ij{ch:List i5}(I:Inv X a σ H s)(h:∀b∈ch,iC X a H b)(k:∀b o,b∉ch->s.heap.get? b=a0 o->h'.get? b=a0 o)(i:s.heap.objs.size<=T)(new:bL X.prog X.w (upd H T o) h' T o):
  Inv X a σ (upd H T o) {s with heap:=h',toks:=t' }:=by
 have j:Inv X a σ H {s with heap:=h',toks:=t' }:=I.kD h k;have l:H T=b5:=I.Ir.fresh i;have p:∀b o,s.heap.get? b=a0 o->b≠T:=λb o e z=>by rw[z]at e;show absurd (nc (f6 e) i) (wk _)
 have d:∀b u,H b=a0 u->b≠T:=λb u e z=>by rw[z,l]at e;cases e
 show I.step (g':=s.gens) (d':=s.drawn) (ch:=ch) (λb g=>?_) (λb o _ _ f e _=>k b o f e) (λb o _ _ f e _=>⟨o.slots,k b o f e⟩) (λb o _ e n=>by rw[aw (p b o e)];show n)
  (λb o f e=>⟨o,k b o f e⟩) (λb _ e=>by rw[aw (d b _ e)];show e) (λb _ _ e=>by rw[aw (d b _ e)];show e) (λb ps e=>⟨#[],by rw[aw (d b _ e),e];simp⟩) (λm t=>?_) (λb u e=>?_) I.bare
 .have⟨C,x,D,y,A,B⟩:=h b g;show⟨y,x,A,B⟩
 .have⟨o,es,ep,ho,r⟩:=t;show⟨o,es,ep,k _ o (λz=>(h _ z).2.1 rfl) ho,r⟩
 .by_cases g:b=T
  .subst g;rw[aI]at e;cases e;show new
  .rw[aw g]at e;show(j.Ir b u e).g_ (λc v _ q=>q) (λc q=>by rw[aw (d c _ q)];show q) λc xs q=>by rw[aw (d c _ q)];show q
end
abbrev OF(a:Hp->List V->Prop):It :=
 ⟨λi H=>∃xs x,a H xs/\xs[i]?=a0 x,λi H x H'=>∃p,H p=b5/\x=.ref p/\∀xs v,a H xs->xs[i]?=a0 v->H'=upd H p (.tup [.int i,v]),λi H=>∃xs,a H xs/\xs.length<=i⟩
def nK{K:PySem.W.Frag}(r:Hp->List V->Prop)(a e it:i5)(N:e≠it)(At:Nat->K9->Prop)(t:K9->Array ez->Prop)
  (JQ:∀i h h',At i h->(∀o,h.get? it=a0 o->h'.get? it=a0 o)->At i h') (Vq:∀i h,At i h->∃o,h.get? it=a0 o/\∀v,o.data≠.cell v)
  (OG:∀(X:Cx) (d:List (i5×Obj)) (s:gj) (σ:St) (H:Hp) (xs:List V),X.K=K->Inv X d σ H s->r H xs->∃l:List ez,Vals xs l/\t s.heap l.toArray)
  (Tb:∀(X:Cx) (d:List (i5×Obj)) (s:gj) (σ:St) (H:Hp) (xs ys:List V),X.K=K->Inv X d σ H s->r H xs->r H ys->xs=ys)
  (Vn:∀h c i f,t h c->å h e it i f->e≠a)
  (hD:∀(A:NU) (c:Array ez),A.handled=b5->Į P w A it [it,a] c.size (λi v=>c[i]?=a0 v) (λi h=>At i h/\t h c))
  (J7:∀(A:NU) (s:gj) (i:Nat) (c:Array ez) (Q:ez->gj->Prop) (E:ez->gj->Prop),A.handled=b5->At i s.heap->t s.heap c->c[i]?=b5 ->
   (∀h' x,Z4 it s.heap h'->(∃o,h'.get? x=a0 o/\o.cls=.type "StopIteration")->E (.ref x) {s with heap:=h' })->eH (kj P w) A (rz (.ref it)) Q E s) :
  Turn P w K (.Tuple es kx ps) (OF r) [e,it] e (λi h=>(∃f,å h e it i f)/\At i h) where
 mem:=by simp
 obj:=λi h st b g=>by
  obtain⟨⟨f,j⟩,hl⟩:=st;rcases ke.mp g with z|z
  .rw[z];show⟨_,j,λv z=>by
    have z':Z5 _=Zh v:=z;cases z'⟩
  .rw[ix.mp z];show Vq i h hl
 keep:=λi h h' ⟨⟨f,j⟩,hl⟩ k=>⟨⟨f,k e (by simp) _ j⟩,JQ i h h' hl λo q=>k it (by simp) o q⟩
 item:=by
  intro X O Y B hc i d s σ H E I C ⟨⟨f,j⟩,hl⟩ hg;subst O Y;have⟨xs,x,G,hx⟩:=hg;have⟨l,rv,p⟩:=OG X d s σ H xs B I G;have⟨u,hu,ru⟩:=rv.get hx;have IT:i<l.toArray.size:=by simpa using(eW.mp hu).1
  have D:=hD X.A.in1 l.toArray (by simpa using I.ok.hd hc);have Tc:=Vn _ _ _ _ p j;show wpAny_pyNext_enum_itemD D j ⟨hl,p⟩ IT N (by simp[N,Tc]) λy h1 m J ho st1 L hsz hk=>?_;have ey:y=u:=by
   have:l.toArray[i]?=a0 u:=by simpa using hu
   rw[this]at J;cases J;rfl
  subst ey;show⟨_,rfl,wpAny_letOwnedTupleGo_enum (s:={s with heap:=h1,toks:=m+1}) ho λn QY Jy=>?_⟩;have Vr:e<s.heap.objs.size:=f6 j;have PR:n.get? s.heap.objs.size=a0 {cls:=.type "tuple",data:=.seq #[.int i m,y]}:=(Jy.2 _ (vr Vr)).trans L;have k2:∀b o,b∉[e,it]->s.heap.get? b=a0 o->n.get? b=a0 o:=λb o g q=>by
   simp only[ke,D',or_false,not_or]at g;show(Jy.2 b g.1).trans (hk b o g.1 g.2 q)
  have I2:Inv X d σ (upd H s.heap.objs.size (.tup [.int i,x])) {s with heap:=n,toks:=m+1}:=I.ij C k2 (lg _)
   (show bL X.prog X.w _ n _ (.tup [.int i,x]) from⟨by change 2<=dV;decide,[.int i m,y],.cons ⟨m,rfl⟩ (.cons ru .nil),⟨_,PR,rfl,_,rfl⟩⟩)
  show⟨.ref s.heap.objs.size,_,I2,rfl,⟨_,I.Ir.fresh (lg _),rfl,λys v J hv=>?_⟩,⟨⟨_,QY⟩,JQ (i+1) h1 n st1.1 λo q=>(Jy.2 it (vu N)).trans q⟩,λb g=>?_⟩
  .have:=Tb X d s σ H ys xs B I J G;subst this;rw[hx]at hv;cases hv;rfl
  .have J2:b≠s.heap.objs.size:=by
    rcases ke.mp g with z|z
    .rw[z];show k7 Vr
    .rw[ix.mp z];obtain⟨o,q,_⟩:=Vq i _ hl;show k7 (f6 q)
   rw[aw J2];show(C b g).1
 done:=by
  intro X O Y B hc i d s σ H E I C ⟨⟨f,j⟩,hl⟩ hg;subst O Y;have⟨xs,G,hx⟩:=hg;have⟨l,rv,p⟩:=OG X d s σ H xs B I G;have ab:=rv.length;have L:s.TypeIs (.ref e) "enumerate":=⟨_,j,rfl⟩
  unfold R7;show bD (WD (JS (name:=Og "__next__") L PySem.F.slot_enumerate_next
   (va PySem.F.slot_enumerate_next L PySem.F.entry_enumerate_next ?_ (PySem.F.args_enumerate_next_1 _))))
  change eH _ _ (ZT (.ref e) 2 >>= _) _ _ _;show bD (Kv j rfl (x:=.ref it) rfl ?_);show bD (J7 _ _ i l.toArray _ _ (by simpa using I.ok.hd hc) hl p (by simp;lia) λh' x Sx Pd=>?_);have⟨o,ho,LC⟩:=Pd;show bD (K2 (T:="StopIteration") (b:=b6) ⟨o,ho,LC⟩ V3 ?_);show cL ⟨rfl,I.kD (t':=s.toks) (ch:=[it]) (λb g=>C b (oW _ g)) λb o g q=>Sx b o (λz=>g (by simp[z])) q⟩
 self:=λA i s Q E ⟨⟨f,j⟩,hl⟩ h=>XJ j h
section
variable{X:Cx}{es:List p8}{kx:Nat}{ps p pos:Pos}
def wm:IL "enumerate"=a0 (.type "enumerate"):=by decide +kernel
abbrev HQ(K:PySem.W.Frag)(c:TA):TI:=λσ H R=>c σ H λvs b=>∃a,vs=[.ref a]/\((∃xs,Je K b a xs)/\R (OF λH xs=>Je K H a xs) b\/(∃xs,IX K b a xs)/\R (OF λH xs=>IX K H a xs) b)
def DS(a e it:i5)(n:e≠it)(q:a≠it):Turn X.prog X.w X.K (.Tuple es kx ps) (OF λH xs=>Je X.K H a xs) [e,it] e (λi h=>(∃c,å h e it i c)/\h.IsListIter it a i):=by
 show nK _ a e it n (λi h=>h.IsListIter it a i) (λh b=>h.IsList a b) (λi h h' x k=>x.at k) (λi h ⟨o,ho,j,r⟩=>⟨o,ho,λv z=>by rw[r]at z;cases z⟩)
  (λY d s σ H xs g I l=>?_) (λY d s σ H xs ys g I f m=>?_) (λh b i c ⟨o,ho,j,_⟩ t z=>?_) (λA b hh=>È hh it a q b) (λA s i b Q E hh hl u f y=>í hh hl u f y)
 .rw[<-g]at l;have⟨B,rv,p,hz⟩:=I.list l;show⟨B,rv,p.isList⟩
 .rw[<-g]at f m;show I.kR f m
 .rw[<-z,t]at ho;cases ho;have C:y2 "enumerate"=y2 "list":=j;show absurd C (by decide)
def DT(a e it:i5)(n:e≠it)(q:a≠it):Turn X.prog X.w X.K (.Tuple es kx ps) (OF λH xs=>IX X.K H a xs) [e,it] e (λi h=>(∃c,å h e it i c)/\h.IsTupleIter it a i):=by
 show nK _ a e it n (λi h=>h.IsTupleIter it a i) (λh b=>h.IsTuple a b) (λi h h' x k=>x.at k) (λi h ⟨o,ho,j,r⟩=>⟨o,ho,λv z=>by rw[r]at z;cases z⟩)
  (λY d s σ H xs g I l=>?_) (λY d s σ H xs ys g I f m=>?_) (λh b i c ⟨o,ho,j,_⟩ t z=>?_) (λA b hh=>fW hh it a q b) (λA s i b Q E hh hl u f y=>dh hh hl u f y)
 .rw[<-g]at l;have⟨B,rv,p,hz⟩:=I.tuple l;show⟨B,rv,p⟩
 .rw[<-g]at f m;show I.jm f m
 .rw[<-z,t]at ho;cases ho;have C:y2 "enumerate"=y2 "tuple":=j;show absurd C (by decide)
def AX(n:Gl X "enumerate")(t:X.mg "enumerate"=b5)(v:PA X [a] w)(hs:mx [a] X.env=[(cb,KH a X.env)]):PI X (.Tuple es kx ps) (.Call (.Name "enumerate" p) [a] [] pos) (HQ X.K w):=by
 intro c s σ H R I h;show Call_ (dc I n t wm (LY (Iw (v pos c s σ H _ I h) λus s1 ⟨vs,j,d,x,y⟩=>?_) hs rfl));have⟨a',e,q⟩:=y;subst e;have⟨u,rfl,r⟩:=vals1 x;cases r;have f:s1.heap.objs.size+1≠s1.heap.objs.size:=Nat.succ_ne_self _;have g:∀(h':K9),(∀b∈[s1.heap.objs.size+1,s1.heap.objs.size],iC X c j b):=λh' b A=>by
  have m:s1.heap.objs.size<=b:=by
   rcases ke.mp A with z|z
   .rw[z];show Qy _
   .rw[ix.mp z];show lg _
  show d.vR m (d.Ir.fresh m)
 rcases q with⟨⟨xs,k⟩,q⟩|⟨⟨xs,k⟩,q⟩
 .have⟨B,rv,p,hz⟩:=d.list k;have l:a'<s1.heap.objs.size:=let ⟨o,ho,_⟩:=p.isList;f6 ho;show call_enumerate_list p.isList λh' i hl hsz hk=>?_;show XJ i ⟨_,[s1.heap.objs.size+1,s1.heap.objs.size],_,_,j,rfl,d.kept (t':=s1.toks) hk,DS a' _ _ f (k7 l),⟨⟨_,i⟩,hl⟩,g h',q⟩
 .have⟨B,rv,p,hz⟩:=d.tuple k;have l:a'<s1.heap.objs.size:=let ⟨o,ho,_⟩:=p;f6 ho;show fX p λh' i hl hsz hk=>?_;show XJ i ⟨_,[s1.heap.objs.size+1,s1.heap.objs.size],_,_,j,rfl,d.kept (t':=s1.toks) hk,DT a' _ _ f (k7 l),⟨⟨_,i⟩,hl⟩,g h',q⟩
end
def wo(l:i5)(a:Array ez)(n:Nat)(b:i5)(c:Array ez)(e:Nat)(dd:Option i5)(f:Array (Option ez))(o:¬(!a.isEmpty&&M4 (a.size+c.size))=b6)(i:a.size<=dV)(j:a.size+c.size<=dV+1):
  Meets (O5.«list.extend» ⟨[.ref l,.ref b],[]⟩) (λ_ R s=>s.heap.get? l=a0 {cls:=.type "list",dict:=b5,data:=.seq a n,slots:=#[]}/\s.heap.get? b=a0 {cls:=.type "list",dict:=dd,data:=.seq c e,slots:=f}/\R (.ok (.ret ro)) {s with heap:=s.heap.update l (tj λx=>x++c),toks:=s.toks}) :=
 .of_wp λprog w A R s h=>by
  have⟨p,g,d,q,os⟩:=s;have⟨hl,k,h⟩:=h;have r:=Z6;have t:=Xq;have u:=YS;have v:=YI;have y:=YJ;
  have m:(a++c).size<=dV+1:=by rw[Wj];show j
  wp_walk using(Vt hl rfl (hz:=i) (_hz':=m)),PK hl,PK k;show⟨_,rfl,h⟩
def wq(l:i5)(a:Array ez)(n:Nat)(b:i5)(c:Array ez)(e:Nat)(dd:Option i5)(f:Array (Option ez))(o:¬(!a.isEmpty&&M4 (a.size+c.size))=b6)(i:a.size<=dV)(j:a.size+c.size<=dV+1):
  Meets (O5.«list.extend» ⟨[.ref l,.ref b],[]⟩) (λ_ R s=>s.heap.get? l=a0 {cls:=.type "list",dict:=b5,data:=.seq a n,slots:=#[]}/\s.heap.get? b=a0 {cls:=.type "tuple",dict:=dd,data:=.seq c e,slots:=f}/\R (.ok (.ret ro)) {s with heap:=s.heap.update l (tj λx=>x++c),toks:=s.toks}) :=
 .of_wp λprog w A R s h=>by
  have⟨p,g,d,q,os⟩:=s;have⟨hl,k,h⟩:=h;have r:=Z6;have t:=Xq;have u:=YS;have v:=YI;have y:=YJ;
  have m:(a++c).size<=dV+1:=by rw[Wj];show j
  wp_walk using(Vt hl rfl (hz:=i) (_hz':=m)),PK hl,PK k;show⟨_,rfl,h⟩
section
def sO:UZ X "list.extend" (λx vs H Q=>∃l b xs c,x=.ref l/\vs=[.ref b]/\H l=a0 (.lst xs)/\(Je X.K H b c\/IX X.K H b c)/\xs.length+c.length<=dV/\Q .Iy (upd H l (.lst (xs++c)))):=by
 intro g s σ H x vs v us Q I A rv h;have⟨l,b,xs,c,rfl,rfl,w,hB,hz,q⟩:=h;cases A;have⟨u,rfl,B⟩:=rv.one;cases B;have⟨z,f,n,r,hl,e⟩:=I.FX w;have i:∀a:List ez,Vals c a->EP X g σ Q ro {s with heap:=s.heap.update l (tj λx=>x++a.toArray),toks:=s.toks}:=λa d=>by
  show⟨.Iy,_,I.la (its':=f++a) w e (by simp) (r.append d) ?_,rfl,q⟩;rw[i4];lia
 have m:∀a:List ez,c.length=a.length->f.toArray.size+a.toArray.size<=dV:=λa h=>by rw[ki,ki];lia
 have y:∀a:List ez,c.length=a.length->¬(!f.toArray.isEmpty&&M4 (f.toArray.size+a.toArray.size))=b6:=λa h=>by
  rw[xI (m a h),Va];show oO
 rcases hB with hB|hB
 .obtain⟨a,d,o,_⟩:=I.list hB;obtain⟨⟨cls,dd,data,p⟩,ho,j,t,k⟩:=o.isList;simp only at j k;subst j k;have Lm:=d.length;have C:=m a Lm;show Vh ý ⟨_,e,rfl⟩ ï (æ _ _) (wo l f.toArray n b a.toArray t dd p (y a Lm) ⋯ ⋯) ⟨e,ho,i a d⟩
 .obtain⟨a,d,o,_⟩:=I.tuple hB;obtain⟨⟨cls,dd,data,p⟩,ho,j,t,k⟩:=o;simp only at j k;subst j k;have Lm:=d.length;have C:=m a Lm;show Vh ý ⟨_,e,rfl⟩ ï (æ _ _) (wq l f.toArray n b a.toArray t dd p (y a Lm) ⋯ ⋯) ⟨e,ho,i a d⟩
end
end L2
namespace L2
open PySem PySem.W PyProof.Rows
section
def wt{vs:List (Key×ez)}(hk:vs.map (·.1)=ks.map p6)(hl:a.length=vs.length)(h:∀(j:Nat) (v:ez),a[j]?=a0 v->∃k x,vs[j]?=a0 (k,x)/\(aZ P w).is k v=b6):RG a ks:=by
 induction a generalizing ks vs with
 |nil =>
  cases vs with
  |nil=>cases ks with
   |nil=>show .nil
   |cons _ _=>cases hk
  |cons _ _=>cases hl
 |cons v a c =>
  cases vs with
  |nil=>cases hl
  |cons p vs =>
   cases ks with
   |nil=>cases hk
   |cons k ks =>
    simp only[gi,NV]at hk;have⟨k',x,b,d⟩:=h 0 v rfl;simp only[List.getElem?_cons_zero,UY]at b;subst b;have f:k'=p6 k:=hk.1;subst f;rcases bx (show jJ (p6 k) v=b6 from d) with⟨i,t,e,rfl⟩|⟨y,t,e,rfl⟩
    .cases e
    .cases e;show .cons _ _ (c hk.2 (by simpa using hl) λj u g=>h (j+1) u (by simpa using g))
def ju:X.calm=b6->gQ X (.builtin "sorted") (λxs H Q=>∃(d:i5) (kvs:List (Key×V)) (ks:List Str),xs=[.ref d]/\H d=a0 (.dK kvs)/\kvs.map (·.1)=ks.map p6/\ks.length<64/\∀q,H q=b5->Q (.ref q) (upd H q (.lst ((aH ks).map V.str)))):=by
 intro l a s σ H xs us Q I rs h;have⟨d,kvs,ks,rfl,e,hk,G,q⟩:=h;have⟨u,rfl,r⟩:=vals1 rs;cases r;have⟨hz,lo,vs,kv,dd⟩:=xM I.Ir e;have b:vs.length=kvs.length:=(Paired.length kv).symm;have m:kvs.length=ks.length:=by rw[<-df (f:=(·.1)),hk,df]
 have n:vs.map (·.1)=ks.map p6:=by
  rw[<-hk];clear dd b hk m e q hz;induction kv with
  |nil=>rfl
  |cons r _ p=>rw[gi,gi,p,r.1]
 have⟨o,es,ep,t⟩:=id dd;have x:(64:Nat)<=dV:=by decide
 show fq (kdu_collect (A:=X.A.in1) (kdl_dict (knd:=aZ X.prog X.w) (kvs:=vs) (ep:=ep) lo) (I.ok.hd l) ⟨o,es,t⟩ ⋯ λh' c y z g=>⟨ks,wt n (by rw[lx];show g.1) (λj v B=>g.2 j v (by rw[<-Ji];show B)),by rw[lx,g.1];lia,λJ C D k2 i s2=>?_⟩);have k:Inv X a σ H {s with heap:=h',toks:=c}:=I.kept (t':=c) z;show⟨.ref h'.objs.size,_,k.laid (t':=c) (o:=.lst ((aH ks).map V.str)) k2 (lg _) ⟨by rw[df,cc];lia,C,D,dH s2,i⟩,rfl,q _ (k.Ir.fresh (lg _))⟩
end
abbrev il{α:Type}(lt:Nat->Nat->Bool):KasT α->α
 |.ret x=>x
 |.ask i j k=>il lt (k (lt i j))
def JO{α:Type}(n:Nat)(P:α->Prop):KasT α->Prop
 |.ret x=>P x
 |.ask i j k=>i<n/\j<n/\∀b,JO n P (k b)
theorem JO.OH{P:α->Prop}{Q:β->Prop}{f:α->KasT β}(a:∀x,P x->JO n Q (f x)):∀{t:KasT α},JO n P t->JO n Q (t.bind f)
 |.ret x,h=>a x h
 |.ask i j k,h=>⟨h.1,h.2.1,λb=>JO.OH a (h.2.2 b)⟩
theorem JO.got:∀{t:KasT α},JO n P t->P (il lt t)
 |.ret _,h=>h
 |.ask i j k,h=>JO.got (t:=k (lt i j)) (h.2.2 _)
theorem JO.wp(b:∀i j,i<n->j<n->∀C:Bool->gj->Prop,C (lt i j) s->a i j C s):
  ∀{t:KasT α},JO n P t->Q (il lt t) s->t.kasWp a Q s
 |.ret _,_,q=>q
 |.ask i j k,h,q=>b i j h.1 h.2.1 _ (JO.wp b (t:=k (lt i j)) (h.2.2 _) q)
abbrev Pm(n:Nat)(p:Array Nat):Prop:=p.toList.Perm (hA n)
section
variable{n:Nat}(hn:0<n)
include hn
def Pm.at(h:Pm n p)(i:Nat):p.getD i 0<n:=by
 by_cases a:i<p.size
 .have:p.getD i 0=p[i]:=by simp[VM,a]
  rw[this];have b:p[i]∈p.toList:=by simp
  show L0.mp (h.mem_iff.mp b)
 .have:p.getD i 0=0:=by simp[VM,a]
  rw[this];show hn
omit hn in
def Pm.rev(h:Pm n p)(i j:Nat):Pm n (kas_rev p i j):=(mirror_perm p i j _).toList.trans h
omit hn in
def Pm.XI(h:Pm n p)(i j:Nat):Pm n (bubble p i j):=(bubble_perm p i j).toList.trans h
theorem sP(h:Pm n p):∀(f m:Nat),JO n (λ_=>True) (kas_asc p f m)
 |0,m=>trivial
 |f+1,m=>⟨h.at hn _,h.at hn _,λb=>by
  cases b
  .show sP h f (m+1)
  .show trivial⟩
theorem kF:∀(f:Nat) (p:Array Nat) (m q:Nat),Pm n p->JO n (λr=>Pm n r.1) (kas_desc f p m q)
 |0,p,m,q,h=>h
 |f+1,p,m,q,h=>⟨h.at hn _,h.at hn _,λb=>by
  cases b
  .show⟨h.at hn _,h.at hn _,λb=>by
    cases b
    .show kF f p (m+1) (q+1) h
    .show h⟩
  .change JO n _ (if q>0 then _ else _);split
   .show kF f _ _ _ (h.rev _ _)
   .show kF f _ _ _ h⟩
def uC(h:Pm n p)(m r:Nat):JO n (λx=>Pm n x.2) (kas_tail3 m r p):=by
 unfold kas_tail3;show JO.OH (λx _=>?_) (sP hn (h.rev _ _) _ _);show h.rev _ _
def uD(h:Pm n p)(m r:Nat):JO n (λx=>Pm n x.2) (kas_descPart m r p):=by
 unfold kas_descPart;show JO.OH (λx a=>?_) (kF hn _ _ _ _ h);split
 .show uC hn (a.rev _ _) _ _
 .show uC hn a _ _
def yh(h:Pm n p)(r:Nat):JO n (λx=>Pm n x.2) (kas_count r p):=by
 unfold kas_count;show JO.OH (λm _=>?_) (sP hn h _ _);split
 .show h
 .split
  .show⟨h.at hn _,h.at hn _,λb=>by
    cases b
    .show uD hn (h.rev _ _) _ _
    .show h⟩
  .show uD hn h _ _
theorem lE(h:Pm n p)(k:Nat):∀(f l r:Nat),JO n (λ_=>True) (kas_place p k f l r)
 |0,l,r=>trivial
 |f+1,l,r=>by
  unfold kas_place;split
  .show trivial
  .show⟨h.at hn _,h.at hn _,λb=>by
    cases b
    .show lE h k f _ _
    .show lE h k f _ _⟩
theorem yi:∀(f:Nat) (p:Array Nat) (k:Nat),Pm n p->JO n (Pm n) (kas_bin f p k)
 |0,p,k,h=>h
 |f+1,p,k,h=>JO.OH (λl _=>yi f _ _ (h.XI _ _)) (lE hn h _ _ _ _)
def uE:JO n (Pm n) (O' n):=by
 unfold O';show JO.OH (λx a=>?_) (yh hn (p:=List.toArray (hA n)) (by unfold Pm;simp) n);split
 .show yi hn _ _ _ a
 .show a
end
def lF(lt:Nat->Nat->Bool)(n:Nat):(il lt (O' n)).toList.Perm (hA n):=by
 cases n with
 |zero=>show MI _
 |succ n=>show(uE (ZW n)).got
section
def wu(ho:s.heap.get? a=a0 (KN "list" vs.toArray n))(l:vs.length<64)
  (m:2<=vs.length->∀s1:gj,(∀b o,b≠a->s.heap.get? b=a0 o->s1.heap.get? b=a0 o)->eH (kj prog w) A (keyKind' vs.toArray) (λκ s'=>s'=s1/\∀i j,i<vs.length->j<vs.length->∀C:Bool->gj->Prop,C (lt i j) s1->Ĩ prog w A κ vs i j C s1) (λ_ _=>False) s1)
  (h:P (.done (.ret .none)) {s with heap:=Ě s.heap a vs (((il lt (O' vs.length)).toList.map λi=>vs.getD i ro).toArray)}) :
  eH (kj prog w) A (O5.«list.sort» ⟨[.ref a],[]⟩) P E s:=by
 have N:a<s.heap.objs.size:=f6 ho;have u:(64:Nat)<=dV:=by decide
 rw[list_sort_plain];show bD (é ho rfl (bD (WZ ho rfl ?_ (by rw[ki];lia) (mu _))));obtain⟨k,q⟩:∃k,(s.heap.update a (tj λ_=>(#[]:Array ez))).get? a=a0 (KN "list" #[] k):=⟨_,ń ho λ_=>#[]⟩
 show bD (ā q rfl (bD (Ň (bD (Ã (uk ?_) (mu _))) (by change vs.length<=_;lia))));have d:(((s.heap.update a (tj λ_=>(#[]:Array ez))).push (KN "tuple" vs.toArray 0)).push (KN "list" #[] 0)).get? a=a0 (KN "list" #[] k):=dt _ (dt _ q);have f:∀b o,b≠a->s.heap.get? b=a0 o->(((s.heap.update a (tj λ_=>(#[]:Array ez))).push (KN "tuple" vs.toArray 0)).push (KN "list" #[] 0)).get? b=a0 o:=λb o y e =>
  dt _ (dt _ (by rw[PQ _ _ _ _ y];show e))
 change eH (kj prog w) A _ P E {s with heap:=((s.heap.update a (tj λ_=>(#[]:Array ez))).push (KN "tuple" vs.toArray 0)).push (KN "list" #[] 0)}
 dsimp only
 have r:((il lt (O' vs.length)).toList.map λi=>vs.getD i ro).length=vs.length:=by rw[df,(lF lt _).length_eq,QW]
 by_cases c:vs.toArray.size<2
 .rw[Ř c,Ř c];show bD (cL ?_);rw[StateT.run_pure];show bD (cL ?_);have z:((il lt (O' vs.length)).toList.map λi=>vs.getD i ro).toArray=(vs.toArray.zip vs.toArray).map (·.2):=by
   have g:=lF lt vs.length;clear h m r f d ho l
   match vs,c,g with
   |[],_,g=>rw[show(il lt (O' ([]:List ez).length)).toList=[] from List.perm_nil.mp g];simp
   |[v],_,g=>rw[show(il lt (O' [v].length)).toList=[0] from List.perm_singleton.mp g];simp
   |_::_::_,c,_=>simp at c;lia
  rw[z]at h
  dsimp only
  show bD (ā d rfl (bD (WZ d rfl ?_ (mu _) (by rw[Sn];change(pairsOf vs).size<=_;rw[pairsOf_size];lia))));simp only[bne_self_eq_false,ti,ş];show cL h
 .rw[Ś c,Ś c];have t:2<=vs.length:=by rw[ki]at c;lia
  show bD (w6 (m t _ f) (λκ O hk=>?_) λ_ _ x=>x.elim);have⟨rfl,hk⟩:=hk;show bD (w6 (kat_run (κ:=κ) (ks:=vs) (vs:=vs) (G:=λp s'=>p=il lt (O' vs.length)/\s'={s with heap:=((s.heap.update a (tj λ_=>(#[]:Array ez))).push (KN "tuple" vs.toArray 0)).push (KN "list" #[] 0)})
   (Q:=λst' s'=>∃p:Array Nat,arrOf st'=p.map (kas_item (vs.toArray.zip vs.toArray))/\failedOf st'=b5/\p=il lt (O' vs.length)/\s'={s with heap:=((s.heap.update a (tj λ_=>(#[]:Array ez))).push (KN "tuple" vs.toArray 0)).push (KN "list" #[] 0)})
   rfl t l (λp st' s' T B D H=>⟨p,B,D,H⟩) (JO.wp hk (uE ⋯) ⟨rfl,rfl⟩)) ?_ λ_ _ e=>e)
  rintro⟨⟨⟩,st'⟩ s' ⟨p,I,J,rfl,rfl⟩
  dsimp only
  have L:=kat_snds rfl I;rw[L,J];show bD (ā d rfl (bD (WZ d rfl ?_ (mu _) (by rw[ki,r];lia))));simp only[bne_self_eq_false,ti,ş];show cL h
end
@[reducible]def AY:=Str×Int
abbrev Nc(ks:List Str)(i j:Nat):Bool:=cK ((ks.getD i G0).cps.toList<(ks.getD j G0).cps.toList)
abbrev kb(ks:List Str):List Nat:=(il (Nc ks) (O' ks.length)).toList
def gw(ks:List Str):(kb ks).Perm (hA ks.length):=lF _ _
abbrev F3(x:Str)(n:Int)(t u:Tok):Obj:={cls:=.type "tuple",data:=.seq #[.str x t,.int n u]}
abbrev fI(h:K9)(as:List i5)(ps:List AY):Prop:=as.length=ps.length/\∀(j:Nat) (a:i5),as[j]?=a0 a->∃p t u,ps[j]?=a0 p/\h.get? a=a0 (F3 p.1 p.2 t u)
def fI.keeps(x:fI h as ps)(k:∀b o,b∈as->h.get? b=a0 o->h'.get? b=a0 o):fI h' as ps :=
 ⟨x.1,λj a e=>let ⟨p,t,u,c,d⟩:=x.2 j a e;⟨p,t,u,c,k a _ (qs e) d⟩⟩
def fI.tail(x:fI h (a::as) (p::ps)):fI h as ps :=
 ⟨by have:=x.1;simpa using this,λj b e=>by
  have⟨q,t,u,c,d⟩:=x.2 (j+1) b (by simpa using e);show⟨q,t,u,by simpa using c,d⟩⟩
theorem fI.kf:∀{as:List i5}{ps:List AY},fI h as ps->∃b:List ez,KatTups h (as.map mA) b/\b.length=as.length/\∀v∈b,∃x t,v=tr x t
 |[],_,_=>⟨[],KatTups.nil,rfl,by simp⟩
 |a::as,[],x=>by have:=x.1;simp at this
 |a::as,p::ps,x=>by
  have⟨b,c,d,e⟩:=fI.kf x.tail;have⟨q,t,u,g,f⟩:=x.2 0 a rfl;show⟨.str q.1 t::b,KatTups.cons f rfl rfl rfl c,by simp[d],λv hv=>?_⟩;rcases ke.mp hv with rfl|hv
  .show⟨_,_,rfl⟩
  .show e v hv
theorem nL:∀{l:List α}{m:List β}{i:Nat}{x:α},Paired F l m->l[i]?=a0 x->∃y,m[i]?=a0 y/\F x y
 |_,_,_,_,.nil,e=>by simp at e
 |_,_,0,_,.cons r _,e=>by simp at e;subst e;show⟨_,rfl,r⟩
 |_,_,i+1,x,.cons _ t,e=>by
  have⟨u,a,b⟩:=nL (i:=i) (x:=x) t (by simpa using e);show⟨u,by simpa using a,b⟩
section
def DU(x:fI s.heap as ps)(g:(ps.map (·.1)).Nodup)(e:i<as.length)(f:j<as.length)(q:C (Nc (ps.map (·.1)) i j) s):
  Ĩ prog w A (tuples' b6) (as.map mA) i j C s:=by
 have⟨p,t,u,d,k⟩:=x.2 i as[i] (by simp[e]);have⟨a,t',u',c,l⟩:=x.2 j as[j] (by simp[f]);have hl:=x.1;have m:i<ps.length:=by lia
 have n:j<ps.length:=by lia
 have o:(as.map mA).getD i ro=.ref as[i]:=by simp[Rx,e]
 have r:(as.map mA).getD j ro=.ref as[j]:=by simp[Rx,f]
 have v:(ps.map (·.1)).getD i G0=p.1:=by simp[Rx,d]
 have y:(ps.map (·.1)).getD j G0=a.1:=by simp[Rx,c]
 unfold Ĩ;rw[o,r];show kat_lt (b:=b6) k rfl l rfl ?_;unfold Nc at q;rw[v,y]at q;change KatLex prog w A b6 (cK (2<2)) C [(.str p.1 t,.str a.1 t'),(.int p.2 u,.int a.2 u')] 0 s;show kat_cons (Ĳ ?_);by_cases h:p.1=a.1
 .have z:i=j:=by
   have B:(ps.map (·.1))[i]'(by simpa using m)=(ps.map (·.1))[j]'(by simpa using n):=by
    obtain⟨_,D⟩:=eW.mp d;obtain⟨_,G⟩:=eW.mp c;simp[D,G,h]
   show(ò g).mp B
  subst z;rw[d]at c;cases c;rw[ś rfl];show kat_yes (kat_cons (ĳ ?_));rw[show(p.2==p.2)=b6 by simp];show kat_yes (kat_nil ?_);have:cK (p.1.cps.toList<p.1.cps.toList)=cb:=ř (List.lt_irrefl _);rw[this]at q;show q
 .rw[ř h];show kat_no (oneLt_str q)
def DV(x:fI s.heap as ps)(c:(ps.map (·.1)).Nodup)(g:2<=as.length):
  eH (kj prog w) A (keyKind' (as.map mA).toArray) (λκ s'=>s'=s/\∀i j,i<(as.map mA).length->j<(as.map mA).length->∀C:Bool->gj->Prop,C (Nc (ps.map (·.1)) i j) s->Ĩ prog w A κ (as.map mA) i j C s) (λ_ _=>False) s:=by
 have⟨h,d,k,e⟩:=x.kf;show kat_kind (T:=.type "str") d ⋯ (λv f=>?_) rfl ⟨rfl,λi j a b C q=>?_⟩
 .have⟨y,t,rfl⟩:=e v f;show Looks.of_pure rfl
 .rw[df]at a b;show DU x c a b q
end
abbrev kg(H:Hp):List (i5×List V)->Hp
 |[]=>H
 |(a,vs)::r=>upd (kg H r) a (.tup vs)
theorem lG:∀{l:List (i5×List V)}{b:i5}{o:HO},kg H l b=a0 o->(∃vs,(b,vs)∈l/\o=.tup vs)\/H b=a0 o
 |[],b,o,h=>.inr h
 |(a,vs)::r,b,o,h=>by
  by_cases c:b=a
  .subst c;rw[kg,aI]at h;cases h;show .inl ⟨vs,by simp,rfl⟩
  .rw[kg,aw c]at h;rcases lG h with⟨ws,d,e⟩|q
   .show .inl ⟨ws,by simp[d],e⟩
   .show .inr q
theorem lH:∀{l:List (i5×List V)}{b:i5},(∀p∈l,p.1≠b)->kg H l b=H b
 |[],b,_=>rfl
 |(a,vs)::r,b,h=>by
  rw[kg,aw (vu (h _ oT))];show lH λp c=>h p (by simp[c])
theorem uF:∀{l:List (i5×List V)}{b:i5}{vs:List V},(l.map (·.1)).Nodup->(b,vs)∈l->kg H l b=a0 (.tup vs)
 |(a,ws)::r,b,vs,d,h=>by
  have c:a∉r.map (·.1)/\(r.map (·.1)).Nodup:=by simpa using d
  rcases ke.mp h with h|h
  .cases h;show aI
  .have:b≠a:=λz=>c.1 (by rw[<-z];show gs.mpr ⟨_,h,rfl⟩);rw[kg,aw this];show uF c.2 h
section
def Inv.many(I:Inv X a σ H s)(k:∀b u,s.heap.get? b=a0 u->h'.get? b=a0 u)(d:∀b o,H b=a0 o->H' b=a0 o)
  (f:∀b o,H' b=a0 o->H b=a0 o\/(s.heap.objs.size<=b/\bL X.prog X.w H' h' b o)):Inv X a σ H' {s with heap:=h',toks:=t' }:=by
 show I.un ⟨λb u q _ _ _=>k b u q,λb u q _ _ _=>⟨u.slots,k b u q⟩,λb u q n _=>?_,λb u q _=>⟨u,k b u q⟩,λb xs q=>d b _ q,λb u xs q=>d b _ q,λb ps q=>⟨#[],by rw[d b _ q];simp⟩⟩ λb o e=>?_
 .cases e:H' b with
  |none=>rfl
  |some o =>
   rcases f b o e with z|⟨z,_⟩
   .rw[n]at z;cases z
   .show absurd (nc (f6 q) z) (wk _)
 .rcases f b o e with z|⟨_,z⟩
  .show(I.Ir b o z).g_ (λc v _ q=>k c v q) (λc q=>d c _ q) λc xs q=>d c _ q
  .show z
abbrev My(p:AY):List V:=[.str p.1,.int p.2]
def pC{ps:List AY}(hc:X.calm=b6)(I:Inv X g σ H s)(e:H d=a0 (.dK (ps.map λp=>((p6 p.1:Key),V.int p.2))))(II:(ps.map (·.1)).Nodup)(KI:ps.length<64)
  (q:∀(as:List i5) (L:i5),as.length=ps.length->as.Nodup->(∀a∈L::as,H a=b5)->L∉as->Q (.ref L) (upd (kg H (as.zip (ps.map My))) L (.lst ((kb (ps.map (·.1))).map λi=>V.ref (as.getD i 0))))) :
  eH (kj X.prog X.w) X.A (Qz (.builtin "dict.items") [.ref d]) (λv s1=>eH (kj X.prog X.w) X.A (Qz (.builtin "sorted") [v]) (EP X g σ Q) X.xe s1) X.xe s:=by
 have ab:(64:Nat)<=dV:=by decide
 have⟨hz,lo,vs,kv,dd⟩:=xM I.Ir e;have C:vs.length=ps.length:=by
  have:=Paired.length kv;simpa using this.symm
 have⟨o,es,ep,r⟩:=id dd;show Yf PySem.F.slot_dict_items (show s.TypeIs (.ref d) "dict" from⟨o,r.1,r.2.1.1⟩) PySem.F.entry_dict_items (PySem.F.args_dict_items_1 _) (ĸ (aZ X.prog X.w) d lo) ⟨⟨vs,dd⟩,?_⟩;change eH (kj X.prog X.w) X.A (Qz (.builtin "sorted") [.ref s.heap.objs.size]) (EP X g σ Q) X.xe {s with heap:=s.heap.push {cls:=.type "dict_items",data:=.fields #[.ref d]}};have k1:∀b u,s.heap.get? b=a0 u->(s.heap.push {cls:=.type "dict_items",data:=.fields #[.ref d]}).get? b=a0 u:=λb u z=>dt _ z;have ZA:(s.heap.push {cls:=.type "dict_items",data:=.fields #[.ref d]}).DictOf (aZ X.prog X.w) d vs:=⟨o,es,ep,k1 _ _ r.1,r.2⟩
 have JQ:(s.heap.push {cls:=.type "dict_items",data:=.fields #[.ref d]}).DictAt (aZ X.prog X.w) d vs ep:=⟨o,es,k1 _ _ r.1,r.2⟩
 show YQ kind_sorted plain_sorted entry_sorted (args_sorted1 _) ?_;unfold O5.«sorted»;show bD (m:=checkCount "sorted" 1 1 _) (cL ?_);show bD (kdx_collect (A:=X.A.in1) (knd:=aZ X.prog X.w) (kvs:=vs) (ep:=ep) (I.ok.hd hc) ⟨_,fx _ rfl,rfl,rfl⟩ JQ ⋯ λc tk as hk hl D=>?_);have G:as.length=ps.length:=hl.trans C;have f:∀a∈as,s.heap.objs.size<=a:=λa ha=>by
  have:=D.above a ha;have z:(s.heap.push {cls:=.type "dict_items",data:=.fields #[.ref d]}).objs.size=s.heap.objs.size+1:=Nd ..;have Vu:(s.heap.push {cls:=.type "dict_items",data:=.fields #[.ref d]}).objs.size<a:=this;lia
 have pa:fI c as ps:=⟨G,λj a ea=>by
  have⟨N,k,x,O,T,e3⟩:=D.pairs j a ea;have B:j<ps.length:=by rw[<-G];show(eW.mp ea).1
  have⟨y,ey,r1,r2⟩:=nL kv (i:=j) (x:=((p6 ps[j].1:Key),V.int ps[j].2)) (by simp[B]);rw[O]at ey;cases ey;obtain⟨tx,rfl⟩:∃t,x=.int ps[j].2 t:=r2;have XM:k=p6 ps[j].1:=r1.symm;subst XM;have⟨t,rfl⟩:=Z3 (x:=ps[j].1) (v:=N) T;show⟨ps[j],t,tx,by simp[B],e3⟩⟩
 have nd:as.Nodup:=D.rise.imp λh=>k7 h;show bD (Ã ?_ (by rw[df];lia));have Y:(c.push (KN "list" (as.map mA).toArray 0)).get? c.objs.size=a0 (KN "list" (as.map mA).toArray 0):=fx _ rfl;change eH _ _ _ _ _ {s with heap:=c.push (KN "list" (as.map mA).toArray 0),toks:=tk};have Vv:∀a∈as,a<c.objs.size:=λa ha=>D.there ha;show bD (uk (va œ ⟨_,Y,rfl⟩ Ņ (wu (lt:=Nc (ps.map (·.1))) Y (by rw[df];lia) (λh2 s1 ks=>?_) ⟨_,rfl,?_⟩) (Ŗ _)))
 .show DV (pa.keeps λb o J z=>ks b o (k7 (Vv b J)) (dt _ z)) II (by rw[df]at h2;show h2)
 .have⟨ee,he⟩:=sortedHeap_at (out:=((il (Nc (ps.map (·.1))) (O' (as.map mA).length)).toList.map λi=>(as.map mA).getD i ro).toArray) Y;have n:∀b o,c.get? b=a0 o->(Ě (c.push (KN "list" (as.map mA).toArray 0)) c.objs.size (as.map mA) ((il (Nc (ps.map (·.1))) (O' (as.map mA).length)).toList.map λi=>(as.map mA).getD i ro).toArray).get? b=a0 o:=λb o z=>by
   have IT:b<c.objs.size:=f6 z;rw[Œ (k7 IT) (by rw[Nd];show O9 IT)];show dt _ z
  have NK:s.heap.objs.size<=c.objs.size:=Nv (f6 (hk _ _ (fx _ rfl)));have eP:((il (Nc (ps.map (·.1))) (O' (as.map mA).length)).toList)=kb (ps.map (·.1)):=by
   unfold kb;rw[df,df,G]
  have OI:H c.objs.size=b5:=I.Ir.fresh NK;have XN:c.objs.size∉as:=λz=>wk _ (Vv _ z);have Vw:∀a∈as,H a=b5:=λa ha=>I.Ir.fresh (f a ha);have Th:∀{b:i5} {ws:List V},(b,ws)∈as.zip (ps.map My)->b∈as:=λz=>(RL z).1;show cL ⟨_,rfl,.ref c.objs.size,upd (kg H (as.zip (ps.map My))) c.objs.size (.lst ((kb (ps.map (·.1))).map λi=>V.ref (as.getD i 0))),?_,rfl,q as _ G nd (λa ha=>?_) XN⟩
  .show I.many (λb u z=>n b u (hk b u (k1 b u z))) (λb o z=>?_) λb o z=>?_
   .have n1:b≠c.objs.size:=λy=>by rw[y,OI]at z;cases z
    rw[aw n1,lH λp hp y=>?_]
    .show z
    .have:=Vw p.1 (Th (b:=p.1) (ws:=p.2) hp);rw[y,z]at this;cases this
   .by_cases J:b=c.objs.size
    .subst J;rw[aI]at z;cases z;show .inr ⟨NK,by rw[df,(gw _).length_eq,QW,df];lia,(kb (ps.map (·.1))).map λi=>(as.map mA).getD i ro,ee,?_,?_⟩
     .have Jr:∀i∈kb (ps.map (·.1)),i<as.length:=λi hi=>by
       have:=L0.mp ((gw _).mem_iff.mp hi);rw[df]at this;lia
      generalize kb (ps.map (·.1))=l at Jr;induction l with
      |nil=>show .nil
      |cons i l ih =>
       show .cons ?_ (ih λj B=>Jr j (by simp[B]));have hi:=Jr i (by simp);change RelV (.ref (as.getD i 0)) ((as.map mA).getD i ro);have:(as.map mA).getD i ro=.ref (as.getD i 0):=by simp[Rx,hi]
       rw[this];rfl
     .rw[<-eP];show he
    .rw[aw J]at z;rcases lG z with⟨ws,z1,rfl⟩|z1
     .have⟨j,B,ej⟩:=Z9.mp z1;have Ti:j<as.length:=by simp at B;lia
      have Tg:j<ps.length:=by lia
      have XO:as[j]=b/\My ps[j]=ws:=by simpa using ej
      have⟨rfl,rfl⟩:=XO;have⟨p,t,u,O,T⟩:=pa.2 j as[j] (by simp[Ti]);have:p=ps[j]:=by simpa[Tg] using O.symm
      subst this;show .inr ⟨f _ (by simp),by change 2<=dV;lia,[.str ps[j].1 t,.int ps[j].2 u],.cons ⟨t,rfl⟩ (.cons ⟨u,rfl⟩ .nil),_,n _ _ T,rfl,0,rfl⟩
     .show .inl z1
  .rcases ke.mp ha with rfl|ha
   .show OI
   .show Vw a ha
end
section
end
section
def yj:X.calm=b6->gQ X (.builtin "any") (λxs H Q=>∃(p:i5) (a:List Bool),xs=[.ref p]/\Je X.K H p (a.map V.bl)/\Q (.bl (a.any id)) H):=by
 intro j f s σ H xs us Q I rs h;have⟨p,a,rfl,k,q⟩:=h;have⟨u,rfl,r⟩:=vals1 rs;cases r;have⟨o,rv,d,hz⟩:=I.list k;have e:=fR rv;subst e;have l:p<s.heap.objs.size:=by obtain⟨_,_,e,_⟩:=d;show f6 e
 show call_any_walk (RC d.isList ?_);show⟨s.heap.objs.size,[s.heap.objs.size,p],[s.heap.objs.size],(a.map N4).toArray.size,_,_,λi=>(a[i]?).getD cb,rfl,Æ (A:=X.A.in1) (I.ok.hd j) _ p (k7 l) (a.map N4).toArray,
  ⟨⟨_,fx _ rfl,rfl,rfl⟩,d.isList.push _⟩,λi v s' Q' t m g=>?_,λh' n hk=>?_⟩
 .have c:(a.map N4)[i]?=a0 v:=by simpa using m
  rw[oa]at c;cases e:a[i]? with
  |none=>rw[e]at c;cases c
  |some b =>
   rw[e]at c;cases c;simp only[e,Õ]at g;show Kr g
 .have e:((hA (a.map N4).toArray.size).any λi=>(a[i]?).getD cb)=a.any id:=by
   rw[ki,df];show Č a
  rw[e];show⟨.bl _,H,I.kept (t':=n) (U4 hk),rfl,q⟩
end
end L2
namespace L2
open PySem PySem.Spec PyProof.Rows
structure PY(z TI TO i1 i2:i5)(f1 f2:List i5):Prop where
 Iz:TI≠z
 Oz:TO≠z
 az:i1≠z
 bz:i2≠z
 IO:TI≠TO
 Ia:TI≠i1
 Ib:TI≠i2
 Oa:TO≠i1
 Ob:TO≠i2
 ab:i1≠i2
 z1:z∉f1
 z2:z∉f2
 O1:TO∉f1
 O2:TO∉f2
 b1:i2∉f1
 a2:i1∉f2
abbrev CC(prog:HP)(w:Km)(A:NU)(it:i5)(St:K9->Prop):Prop:=∀(s:gj) (Q:ez->gj->Prop) (E:ez->gj->Prop),St s.heap->(∀h' e,Z4 it s.heap h'->(∃o,h'.get? e=a0 o/\o.cls=.type "StopIteration")->E (.ref e) {s with heap:=h' })->eH (kj prog w) A (rz (.ref it)) Q E s
section
variable{prog:HP}{w:Km}{A:NU}{E:ez->gj->Prop}{s:gj}{z TI TO i1 i2:i5}{f1 f2:List i5}{n1 n2 i:Nat}{P1 P2:Nat->ez->Prop}{S1 S2:Nat->K9->Prop}
def yk(m:Į prog w A.in1 i1 f1 n1 P1 S1)(n:Į prog w A.in1 i2 f2 n2 P2 S2)(Z:PY z TI TO i1 i2 f1 f2)(hz:Wb s.heap z TI TO .none)(Lq:Q5 s.heap TI (.ref i1) (.ref i2))(LF:Q5 s.heap TO a b)
  (t1:S1 i s.heap) (t2:S2 i s.heap) (l1:i<n1) (l2:i<n2)
  (hQ:∀x y h' tk,P1 i x->P2 i y->Wb h' z TI TO (H8 s.heap.objs.size)->Q5 h' TO x y->S1 (i+1) h'->S2 (i+1) h'->Q5 h' s.heap.objs.size x y ->
   (∀c o,c≠z->c≠TO->c≠i1->c≠i2->s.heap.get? c=a0 o->h'.get? c=a0 o)->Q (a0 (.ref s.heap.objs.size)) {s with heap:=h',toks:=tk}):eH (kj prog w) A (R7 (.ref z)) Q E s:=by
 have H:s.TypeIs (.ref z) "zip":=⟨_,hz,rfl⟩
 have h:∀{f:List i5} {c:i5},c∉f->∀b∈f,b≠c:=λhc b d e=>hc (e▸d);unfold R7;show bD (WD (JS (name:=Og "__next__") H PySem.F.slot_zip_next (va PySem.F.slot_zip_next H PySem.F.entry_zip_next ?_ (PySem.F.args_zip_next_1 _))));change eH _ _ (ZT (.ref z) 2 >>= _) _ _ _;show bD (Kv hz rfl (x:=.bool cb) rfl ?_);change eH _ _ (ZT (.ref z) 3 >>= _) _ _ _;show bD (Kv hz rfl (x:=.ref TI) rfl (bD (Lf Lq rfl ?_)));change eH _ _ (LN (.ref z) >>= _) _ _ _;show bD ?_;unfold LN;show bD (Kv hz rfl (x:=.none) rfl (cL ?_));simp only[Š];show bD (L5 (bD (Kv hz rfl (x:=.ref TO) rfl (bD (OV hz (by simp) λg1 v k1=>bD ?_)))))
 replace v:Wb g1 z TI TO .ellipsis:=v
 simp only[W0,Ą,RT,Ss];show bD (bD (WC ?_));change eH _ _ (rz (.ref i1) >>= _) _ _ _;show bD (m.item i _ _ _ l1 (m.frame i _ _ t1 λb d o e=>k1.extBut b o (h Z.z1 b d) e) λx g2 SW px u1 k2=>cL ?_);have I:Q5 g2 TO a b:=k2.extBut _ _ Z.Oa (k1.extBut _ _ Z.Oz LF);show bD (Lf I rfl (bD (VX I λg3 B j=>bD (ö (cL ?_)))))
 replace B:Q5 g3 TO x b:=B
 show bD (bD (WC ?_));change eH _ _ (rz (.ref i2) >>= _) _ _ _;show bD (n.item i _ _ _ l2 (n.frame i _ _ t2 λb d o e=>j.extBut b o (h Z.O2 b d) (k2.extBut b o (h Z.a2 b d) (k1.extBut b o (h Z.z2 b d) e))) λy g4 ZC py u2 k=>cL ?_);have J:Q5 g4 TO x b:=k.extBut _ _ Z.Ob B;show bD (Lf J rfl (bD (VX J λg p l=>bD (ö (cL (cL ?_))))))
 replace p:Q5 g TO x y:=p
 show bD (Lf p rfl (bD (Ň ?_)));have hsz:g.objs.size=s.heap.objs.size:=by rw[l.1,k.1,j.1,k2.1,k1.1]
 have L:Wb g z TI TO .ellipsis:=l.extBut _ _ Z.Oz.symm (k.extBut _ _ Z.bz.symm (j.extBut _ _ Z.Oz.symm (k2.extBut _ _ Z.az.symm v)));have kk:∀c o,c≠z->c≠TO->c≠i1->c≠i2->s.heap.get? c=a0 o->g.get? c=a0 o:=λc o c1 q C D e =>
  l.extBut _ _ q (k.extBut _ _ D (j.extBut _ _ q (k2.extBut _ _ C (k1.extBut _ _ c1 e))))
 have v1:S1 (i+1) g:=m.frame _ _ _ u1 λb d o e=>l.extBut b o (h Z.O1 b d) (k.extBut b o (h Z.b1 b d) (j.extBut b o (h Z.O1 b d) e));have v2:S2 (i+1) g:=n.frame _ _ _ u2 λb d o e=>l.extBut b o (h Z.O2 b d) e;have N:z<g.objs.size:=f6 L;change eH _ _ (Sq (.ref z) (.ref g.objs.size) >>= _) _ _ _;show bD ?_;unfold Sq;have XQ:Wb (g.push {cls:=.type "tuple",data:=.seq #[x,y]}) z TI TO .ellipsis:=dt _ L;show bD (OV XQ (by simp) λg7 G O=>?_)
 replace G:Wb g7 z TI TO (H8 g.objs.size):=G
 show OV G (by simp) λr t T=>?_
 replace t:Wb r z TI TO (H8 g.objs.size):=t
 have u:∀c o,c≠z->g.get? c=a0 o->r.get? c=a0 o:=λc o c1 e=>T.extBut _ _ c1 (O.extBut _ _ c1 (dt _ e));have Y:Q5 r g.objs.size x y:=T.extBut _ _ (vr N) (O.extBut _ _ (vr N) (fx _ rfl));rw[hsz]at t Y;show cL ⟨_,rfl,?_⟩;change eH _ _ (pure (a0 (mA g.objs.size))) _ _ _;rw[hsz];show cL (hQ x y r _ px py t (u _ _ Z.Oz p) (m.frame _ _ _ v1 λb d o e=>u b o (h Z.z1 b d) e) (n.frame _ _ _ v2 λb d o e=>u b o (h Z.z2 b d) e) Y λc o c1 q C D e=>u c o c1 (kk c o c1 q C D e))
def yl(hh:A.handled=b5)(q:Į prog w A.in1 i1 f1 n1 P1 S1)(G:Į prog w A.in1 i2 f2 n2 P2 S2)(Z:PY z TI TO i1 i2 f1 f2)(hz:Wb s.heap z TI TO .none)(H:Q5 s.heap TI (.ref i1) (.ref i2))(I:Q5 s.heap TO a b)
  (J:S1 i s.heap) (L:S2 i s.heap) (N:CC prog w A.in1 i1 (S1 i)\/i<n1/\CC prog w A.in1 i2 (S2 i))
  (r:∀h' O,(∀c o,c≠z->c≠TO->c≠i1->c≠i2->s.heap.get? c=a0 o->h'.get? c=a0 o)->Q b5 {s with heap:=h',toks:=O}):eH (kj prog w) A (R7 (.ref z)) Q E s:=by
 have t:s.TypeIs (.ref z) "zip":=⟨_,hz,rfl⟩
 have k:∀{f:List i5} {c:i5},c∉f->∀b∈f,b≠c:=λY b d e=>Y (e▸d);unfold R7;show bD (WD (JS (name:=Og "__next__") t PySem.F.slot_zip_next (va PySem.F.slot_zip_next t PySem.F.entry_zip_next ?_ (PySem.F.args_zip_next_1 _))));change eH _ _ (ZT (.ref z) 2 >>= _) _ _ _;show bD (Kv hz rfl (x:=.bool cb) rfl ?_);change eH _ _ (ZT (.ref z) 3 >>= _) _ _ _;show bD (Kv hz rfl (x:=.ref TI) rfl (bD (Lf H rfl ?_)));change eH _ _ (LN (.ref z) >>= _) _ _ _;show bD ?_;unfold LN;show bD (Kv hz rfl (x:=.none) rfl (cL ?_));simp only[Š];show bD (L5 (bD (Kv hz rfl (x:=.ref TO) rfl (bD (OV hz (by simp) λg1 l k1=>bD ?_)))))
 replace l:Wb g1 z TI TO .ellipsis:=l
 simp only[W0,Ą,RT,Ss];show bD (bD (WC ?_));change eH _ _ (rz (.ref i1) >>= _) _ _ _;have u:=q.frame i _ _ J λb d o e=>k1.extBut b o (k Z.z1 b d) e;rcases N with e1|⟨l1,e2⟩
 .show bD (e1 _ _ _ u λm e k2 Tn=>?_);have⟨oe,g,j⟩:=Tn;have v:Wb m z TI TO .ellipsis:=k2 _ _ Z.az.symm l;have n:e≠z:=λx=>by subst x;rw[v]at g;cases g;simp at j
  show OV v (by simp) λg3 _ h=>?_;show bD (K2 (T:="StopIteration") (b:=b6) ⟨oe,h.extBut _ _ n g,j⟩ V3 ?_);show cL (r _ _ λc o c1 _ p _ x=>h.extBut _ _ c1 (k2 _ _ p (k1.extBut _ _ c1 x)))
 .show bD (q.item i _ _ _ l1 u λx m SW px u1 k2=>cL ?_);have y:Q5 m TO a b:=k2.extBut _ _ Z.Oa (k1.extBut _ _ Z.Oz I);show bD (Lf y rfl (bD (VX y λg3 QZ h=>bD (ö (cL ?_)))));show bD (bD (WC ?_));change eH _ _ (rz (.ref i2) >>= _) _ _ _;show bD (e2 _ _ _ (G.frame i _ _ L λb d o e=>h.extBut b o (k Z.O2 b d) (k2.extBut b o (k Z.a2 b d) (k1.extBut b o (k Z.z2 b d) e))) λg4 e B Tq=>?_);have⟨oe,g,j⟩:=Tq;have C:Wb g4 z TI TO .ellipsis:=B _ _ Z.bz.symm (h.extBut _ _ Z.Oz.symm (k2.extBut _ _ Z.az.symm l));have n:e≠z:=λx=>by subst x;rw[C]at g;cases g;simp at j
  show OV C (by simp) λg5 _ D=>?_;show bD (K2 (T:="StopIteration") (b:=b6) ⟨oe,D.extBut _ _ n g,j⟩ V3 ?_);show cL (r _ _ λc o c1 c2 p c4 x=>D.extBut _ _ c1 (B _ _ c4 (h.extBut _ _ c2 (k2.extBut _ _ p (k1.extBut _ _ c1 x)))))
end
abbrev Tr(a SB:Hp->List V->Prop):It :=
 ⟨λi H=>∃xs ys x y,a H xs/\SB H ys/\xs[i]?=a0 x/\ys[i]?=a0 y,λi H v H'=>∃p,H p=b5/\v=.ref p/\∀xs ys x y,a H xs->SB H ys->xs[i]?=a0 x->ys[i]?=a0 y->H'=upd H p (.tup [x,y]),λi H=>∃xs ys,a H xs/\SB H ys/\(xs.length<=i\/i<xs.length/\ys.length<=i)⟩
section
def ym{K:PySem.W.Frag}{a b z TI TO f j:i5}(Z:PY z TI TO f j [f,a] [j,b])(VD:a≠f)(SR:b≠j):Turn P w K (.Tuple es kx ps) (Tr (λH xs=>Je K H a xs) λH ys=>IX K H b ys) [z,TI,TO,f,j] z
  (λi h=>Wb h z TI TO .none/\Q5 h TI (.ref f) (.ref j)/\(∃u v,Q5 h TO u v)/\h.IsListIter f a i/\h.IsTupleIter j b i) where
 mem:=by simp
 obj:=λi h ⟨hz,l,⟨u,v,m⟩,⟨o1,KQ,_,Ts⟩,⟨o2,KG,_,T⟩⟩ c d=>by
  simp only[ke,D',or_false]at d;rcases d with rfl|rfl|rfl|rfl|rfl
  .show⟨_,hz,λv e=>by cases e⟩
  .show⟨_,l,λv e=>by cases e⟩
  .show⟨_,m,λv e=>by cases e⟩
  .show⟨_,KQ,λv e=>by rw[Ts]at e;cases e⟩
  .show⟨_,KG,λv e=>by rw[T]at e;cases e⟩
 keep:=λi h h' ⟨hz,l,⟨u,v,m⟩,q,r⟩ k=>⟨k z (by simp) _ hz,k TI (by simp) _ l,⟨u,v,k TO (by simp) _ m⟩,q.at λo e=>k f (by simp) o e,r.at λo e=>k j (by simp) o e⟩
 item:=by
  intro Y hP hw J d i n s σ H E I L ⟨hz,l,⟨u,v,m⟩,q,r⟩ ⟨xs,ys,x,y,t,B,hx,hy⟩;rw[<-J]at t B;obtain⟨D,r1,p1,_⟩:=I.list t;obtain⟨G,r2,p2,_⟩:=I.tuple B;have⟨x0,Mz,rx⟩:=r1.get hx;have⟨y0,Q4,ry⟩:=r2.get hy;have l1:i<D.toArray.size:=by simpa using(eW.mp Mz).1
  have l2:i<G.toArray.size:=by simpa using(eW.mp Q4).1
  have p:Y.A.handled=b5:=I.ok.hd d;subst hP hw;show yk (È (A:=Y.A.in1) p f a VD D.toArray) (fW (A:=Y.A.in1) p j b SR G.toArray) Z hz l m ⟨q,p1.isList⟩ ⟨r,p2⟩ l1 l2 λx1 y1 g N px py PU Tt t1 t2 hT k=>?_;have ex:x1=x0:=by
   have:D.toArray[i]?=a0 x0:=by simpa using Mz
   rw[this]at px;cases px;rfl
  have ey:y1=y0:=by
   have:G.toArray[i]?=a0 y0:=by simpa using Q4
   rw[this]at py;cases py;rfl
  subst ex ey;show⟨_,rfl,wpAny_letOwnedTupleGo_zip (s:={s with heap:=g,toks:=N}) PU λO Q3 C=>?_⟩;have lt:∀{c:i5} {o:Obj},s.heap.get? c=a0 o->c≠s.heap.objs.size:=λe=>k7 (f6 e);have Tu:Q5 g TI (.ref f) (.ref j):=k _ _ Z.Iz Z.IO Z.Ia Z.Ib l;have PR:O.get? s.heap.objs.size=a0 {cls:=.type "tuple",data:=.seq #[x1,y1]}:=(C.2 _ (lt hz).symm).trans hT;have k2:∀c o,c∉[z,TI,TO,f,j]->s.heap.get? c=a0 o->O.get? c=a0 o:=λc o d e=>by
   simp only[ke,D',or_false,not_or]at d;show(C.2 c d.1).trans (k c o d.1 d.2.2.1 d.2.2.2.1 d.2.2.2.2 e)
  have I2:Inv Y n σ (upd H s.heap.objs.size (.tup [x,y])) {s with heap:=O,toks:=N}:=I.ij L k2 (lg _)
   (show bL Y.prog Y.w _ O _ (.tup [x,y]) from⟨by change 2<=dV;decide,[x1,y1],.cons rx (.cons ry .nil),⟨_,PR,rfl,_,rfl⟩⟩)
  show⟨.ref s.heap.objs.size,_,I2,rfl,⟨_,I.Ir.fresh (lg _),rfl,λZD Kf x' y' a1 a2 a3 a4=>?_⟩,⟨Q3,(C.2 _ Z.Iz).trans Tu,⟨_,_,(C.2 _ Z.Oz).trans Tt⟩,t1.1.at λo e=>(C.2 _ Z.az).trans e,t2.1.at λo e=>(C.2 _ Z.bz).trans e⟩,λc d=>?_⟩
  .rw[<-J]at a1 a2;have:=I.kR a1 t;subst this;have:=I.jm a2 B;subst this;rw[hx]at a3;rw[hy]at a4;cases a3;cases a4;rfl
  .have IZ:c≠s.heap.objs.size:=by
    simp only[ke,D',or_false]at d;rcases d with rfl|rfl|rfl|rfl|rfl
    .show lt hz
    .show lt l
    .show lt m
    .obtain⟨o,e,_⟩:=q;show lt e
    .obtain⟨o,e,_⟩:=r;show lt e
   rw[aw IZ];show(L c d).1
 done:=by
  intro Y hP hw J d i n s σ H E I L ⟨hz,l,⟨u,v,m⟩,q,r⟩ ⟨xs,ys,t,B,J7⟩;rw[<-J]at t B;obtain⟨D,r1,p1,_⟩:=I.list t;obtain⟨G,r2,p2,_⟩:=I.tuple B;have e1:=r1.length;have e2:=r2.length;have p:Y.A.handled=b5:=I.ok.hd d;subst hP hw;show yl p (È (A:=Y.A.in1) p f a VD D.toArray) (fW (A:=Y.A.in1) p j b SR G.toArray) Z hz l m ⟨q,p1.isList⟩ ⟨r,p2⟩ ?_ λg N k=>?_
  .rcases J7 with h|⟨h,h'⟩
   .show .inl λs Q E st hE=>í p st.1 st.2 (by simp;lia) hE
   .show .inr ⟨by simp;lia,λs Q E st hE=>dh p st.1 st.2 (by simp;lia) hE⟩
  .show⟨rfl,I.kD (t':=N) (ch:=[z,TI,TO,f,j]) L λc o d e=>by
    simp only[ke,D',or_false,not_or]at d;show k c o d.1 d.2.2.1 d.2.2.2.1 d.2.2.2.2 e⟩
 self:=λA i s Q E ⟨hz,_⟩ h=>ı hz h
def boot_zip:IL "zip"=a0 (.type "zip"):=by decide +kernel
abbrev HR(K:PySem.W.Frag)(d:TA):TI:=λσ H R=>d σ H λvs c=>∃a b,vs=[.ref a,.ref b]/\(∃xs,Je K c a xs)/\(∃ys,IX K c b ys)/\R (Tr (λH xs=>Je K H a xs) λH ys=>IX K H b ys) c
def AZ(a b:i5)(xs ys:Array ez):
  Meets (O5.«zip.__new__» ⟨[.type "zip",.ref a,.ref b],[]⟩) (λ_ R s=>s.heap.IsList a xs/\s.heap.IsTuple b ys /\
   R (.ok (.ret (.ref (s.heap.objs.size+4)))) {s with heap:=((((s.heap.push {cls:=.type "list_iterator",data:=.fields #[.ref a,.int 0 0]}).push {cls:=.type "tuple_iterator",data:=.fields #[.ref b,.int 0 0]}).push {cls:=.type "tuple",data:=.seq #[.ref s.heap.objs.size,.ref (s.heap.objs.size+1)]}).push {cls:=.type "tuple",data:=.seq #[.none,.none]}).push {cls:=.type "zip",data:=.fields #[.none,.bool cb,.bool cb,.ref (s.heap.objs.size+2),.ref (s.heap.objs.size+3)]}}) :=
 .of_wp λprog w A R s h=>by
  have⟨c,g,d,e,os⟩:=s;have⟨Kx,Lm,h⟩:=h;have j:=sub_zip;have f:Heap.IsList (Zs ⟨c,g,d,e,os⟩) a xs:=Kx;have i:Ĭ (Zs ⟨c.push {cls:=.type "list_iterator",data:=.fields #[.ref a,.int 0 0]},g,d,e,os⟩) b ys:=let ⟨o,ho,r⟩:=Lm;⟨o,dt _ ho,r⟩
  wp_walk using RC f,OX i
  simp only[Pz];show⟨_,rfl,h⟩
def gx{c x y:Nat}(a:x<c\/c<x)(b:y<c):c∉[x,y]:=λh=>by
 rcases ke.mp h with e|h
 .lia
 .have:=ix.mp h;lia
def A0{n a b:Nat}(c:a<n)(d:b<n):PY (n+4) (n+2) (n+3) n (n+1) [n,a] [n+1,b] :=
 ⟨k7 ⋯,k7 ⋯,k7 ⋯,k7 ⋯,k7 ⋯,vr ⋯,vr ⋯,vr ⋯,vr ⋯,k7 ⋯,
  gx ⋯ ⋯,gx ⋯ ⋯,gx ⋯ ⋯,gx ⋯ ⋯,gx ⋯ ⋯,gx ⋯ ⋯⟩
def A1(h:b∈[n+4,n+2,n+3,n,n+1]):n<=b:=by
 simp only[ke,D',or_false]at h;lia
def DW(y:Gl X "zip")(z:X.mg "zip"=b5)(A:PA X [a,b] B)(C:mx (a::[b]) X.env=(cb,KH a X.env)::mx [b] X.env)(D:(Ll pos (mx [b] X.env)).any (·.1)=cb):PI X (.Tuple es kx ps) (.Call (.Name "zip" p) [a,b] [] pos) (HR X.K B):=by
 intro j s σ H R I h;show Call_ (dc I y z boot_zip (LY (Iw (A pos j s σ H _ I h) λus s1 ⟨vs,G,k,J,L⟩=>?_) C D));obtain⟨l,m,rfl,⟨xs,N⟩,⟨ys,O⟩,q⟩:=L;have⟨u1,u2,rfl,Q,T⟩:=vals2 J;cases Q;cases T;obtain⟨Y,v1,u,_⟩:=k.list N;obtain⟨NW,v2,p2,_⟩:=k.tuple O;have v:l<s1.heap.objs.size:=let ⟨o,ho,_⟩:=u.isList;f6 ho;have w:m<s1.heap.objs.size:=let ⟨o,ho,_⟩:=p2;f6 ho;show callType_new PySem.F.called_zip (by decide) (PySem.F.typeCall_zip_2 _ _) (PySem.F.newCall_zip_2 _ _) (λobj=>PySem.F.args_object_init_3 obj _ _) PySem.F.entry_zip_new (AZ l m Y.toArray NW.toArray) ⟨u.isList,p2,?_⟩;generalize i:((((s1.heap.push {cls:=.type "list_iterator",data:=.fields #[.ref l,.int 0 0]}).push {cls:=.type "tuple_iterator",data:=.fields #[.ref m,.int 0 0]}).push {cls:=.type "tuple",data:=.seq #[.ref s1.heap.objs.size,.ref (s1.heap.objs.size+1)]}).push {cls:=.type "tuple",data:=.seq #[.none,.none]}).push {cls:=.type "zip",data:=.fields #[.none,.bool cb,.bool cb,.ref (s1.heap.objs.size+2),.ref (s1.heap.objs.size+3)]}=g;have r:∀(h:K9) (o:Obj),(h.push o).objs.size=h.objs.size+1:=λh o=>Nd ..;have d:∀(h:K9) (o:Obj) (n:Nat),h.objs.size=n->o.isFreed=cb->(h.push o).get? n=a0 o:=λh o n e f=>by subst e;show fx _ f
 have t:Wb g (s1.heap.objs.size+4) (s1.heap.objs.size+2) (s1.heap.objs.size+3) .none:=by subst i;show d _ _ _ (by simp[r]) rfl
 have g4:Q5 g (s1.heap.objs.size+3) .none .none:=by subst i;show dt _ (d _ _ _ (by simp[r]) rfl)
 have g3:Q5 g (s1.heap.objs.size+2) (.ref s1.heap.objs.size) (.ref (s1.heap.objs.size+1)):=by subst i;show dt _ (dt _ (d _ _ _ (by simp[r]) rfl))
 have g2:g.IsTupleIter (s1.heap.objs.size+1) m 0:=by subst i;show⟨_,dt _ (dt _ (dt _ (d _ _ _ (by simp[r]) rfl))),rfl,rfl⟩
 have g1:g.IsListIter s1.heap.objs.size l 0:=by subst i;show⟨_,dt _ (dt _ (dt _ (dt _ (d _ _ _ rfl rfl)))),rfl,rfl⟩
 have kk:∀c o,s1.heap.get? c=a0 o->g.get? c=a0 o:=λc o e=>by subst i;show dt _ (dt _ (dt _ (dt _ (dt _ e))))
 have Z:PY (s1.heap.objs.size+4) (s1.heap.objs.size+2) (s1.heap.objs.size+3) s1.heap.objs.size (s1.heap.objs.size+1) [s1.heap.objs.size,l] [s1.heap.objs.size+1,m]:=A0 v w;show⟨⟨_,t,rfl⟩,ı t ⟨_,[s1.heap.objs.size+4,s1.heap.objs.size+2,s1.heap.objs.size+3,s1.heap.objs.size,s1.heap.objs.size+1],_,_,G,rfl,k.kept (t':=s1.toks) kk,ym Z (k7 v) (k7 (O9 w)),⟨t,g3,⟨_,_,g4⟩,g1,g2⟩,λb hb=>?_,q⟩⟩;have x:s1.heap.objs.size<=b:=A1 hb;show k.vR x (k.Ir.fresh x)
end
end L2
namespace L2
open PySem PySem.W PyProof.Rows
section
def Inv.freeze(I:Inv X a σ H s)(hr:H r=a0 (.dK kvs))(ho:s.heap.get? r=a0 o):Inv X a σ (upd H r (.Jw o (.dK kvs))) s:=by
 have c:∀b u,H b=a0 u->u≠.dK kvs->b≠r:=λb u e n z=>by subst z;rw[hr]at e;cases e;show n rfl
 show I.write (t':=s.toks) (x:=r) (e:=r) (by rw[hr];trivial) (.inl rfl) (λb u _ q=>q) ⟨o,ho⟩ ⟨ho,(I.Ir r _ hr).g_ (λ_ _ _ q=>q) (λb q=>by rw[aw (c b _ q (λz=>by cases z))];show q) λb xs q=>by rw[aw (c b _ q (λz=>by cases z))];show q⟩
def DX(h:PE X e b):PE X e (λσ H Q=>∃r kvs,H r=a0 (.dK kvs)/\∀o,b σ (upd H r (.Jw o (.dK kvs))) Q):=by
 intro a s σ H Q I ⟨r,kvs,hr,c⟩;obtain⟨_,_,vs,_,o,es,ep,ho,_⟩:=(show bL X.prog X.w H s.heap r (.dK kvs) from I.Ir r _ hr)
 show h a s σ _ Q (I.freeze hr ho) (c o)
end
abbrev Tv(r:i5)(o:Obj)(kvs:List (Key×V)):It :=
 ⟨λi H=>H r=a0 (.Jw o (.dK kvs))/\i<kvs.length,λi H x H'=>∃p,H p=b5/\x=.ref p/\∀k v,kvs[i]?=a0 (k,v)->H'=upd H p (.tup [kV k,v]),λi H=>H r=a0 (.Jw o (.dK kvs))/\kvs.length<=i⟩
def DY(h:(aZ P w).is k u=b6):RelV (kV k) u:=by
 rcases bx (show jJ k u=b6 from h) with⟨i,t,rfl,rfl⟩|⟨y,t,rfl,rfl⟩
 .show⟨t,rfl⟩
 .show⟨t,rfl⟩
theorem CD:∀{kvs:List (Key×V)}{vs:List (Key×ez)},KV kvs vs->∀(i:Nat) (h:i<kvs.length) (h':i<vs.length),kvs[i].1=vs[i].1/\RelV kvs[i].2 vs[i].2
 |_,_,.cons a _,0,_,_=>a
 |_,_,.cons _ b,i+1,h,h'=>CD b i (by simpa using h) (by simpa using h')
def sQ{K:PySem.W.Frag}(l:o.data=.dict J ep):
  Turn P w K (.Tuple es kx ps) (Tv r o kvs) [it] it (λi h=>∃d e,IsItemIter h it r i kvs.length ep d e) where
 mem:=by simp
 obj:=λi h ⟨d,e,st⟩ b a=>by
  rw[ix.mp a];show⟨_,st,λv z=>by
    have z':Z5 _=Zh v:=z;cases z'⟩
 keep:=λi h h' ⟨d,e,st⟩ k=>⟨d,e,k it (by simp) _ st⟩
 item:=by
  intro X t u hK L i c s σ H E I m ⟨d,e,st⟩ x;subst t u;have⟨hr,y⟩:=x;have⟨ho,z1,z2,vs,kv,o',XT,LU,f,B,g,C⟩:=(show bL X.prog X.w H s.heap r (.Jw o (.dK kvs)) from I.Ir r _ hr)
  rw[ho]at f;cases f;rw[l]at g;cases g;have hl:vs.length=kvs.length:=(Paired.length kv).symm;have D:s.heap.DictAt (aZ X.prog X.w) r vs ep:=⟨o,J,ho,B,l,C⟩
  obtain⟨q,hq,e1,e2⟩:∃q,vs[i]?=a0 q/\kvs[i].1=q.1/\RelV kvs[i].2 q.2:=by
   have N:i<vs.length:=by lia
   show⟨vs[i],by simp[N],?_⟩;show CD kv i y N
  rw[<-hl]at st;show wpAny_pyNext_items_item st D (k:=q.1) (v:=q.2) hq λj h1 hk G hT hsz P4=>⟨_,rfl,wpAny_letOwnedTupleGo_items (s:={s with heap:=h1}) G λn O T=>?_⟩
  have Y:it<s.heap.objs.size:=f6 st;have PR:n.get? s.heap.objs.size=a0 {cls:=.type "tuple",data:=.seq #[j,q.2]}:=(T.2 _ (vr Y)).trans hT;have k2:∀b o,b∉[it]->s.heap.get? b=a0 o->n.get? b=a0 o:=λb o a q=>by
   have p:b≠it:=λz=>a (by simp[z]);show(T.2 b p).trans (P4 b o p q)
  have I2:Inv X c σ (upd H s.heap.objs.size (.tup [kV kvs[i].1,kvs[i].2])) {s with heap:=n,toks:=s.toks}:=I.ij m k2 (lg _)
   (show bL X.prog X.w _ n _ (.tup [kV kvs[i].1,kvs[i].2]) from⟨by change 2<=dV;decide,[j,q.2],.cons (by rw[e1];show DY hk) (.cons e2 .nil),⟨_,PR,rfl,_,rfl⟩⟩)
  show⟨.ref s.heap.objs.size,_,I2,rfl,⟨_,I.Ir.fresh (lg _),rfl,λk v Q6=>?_⟩,⟨_,_,by rw[hl]at O;show O⟩,λb a=>?_⟩
  .rw[IV y]at Q6;rw[sL Q6]
  .have p:b≠s.heap.objs.size:=by rw[ix.mp a];show k7 Y
   rw[aw p];show(m b a).1
 done:=by
  intro X t u hK L i c s σ H E I m ⟨d,e,st⟩ x;subst t u;have⟨hr,y⟩:=x;have⟨ho,z1,z2,vs,kv,o',XT,LU,f,B,g,C⟩:=(show bL X.prog X.w H s.heap r (.Jw o (.dK kvs)) from I.Ir r _ hr)
  rw[ho]at f;cases f;rw[l]at g;cases g;have hl:vs.length=kvs.length:=(Paired.length kv).symm;have D:s.heap.DictAt (aZ X.prog X.w) r vs ep:=⟨o,J,ho,B,l,C⟩
  rw[<-hl]at st;show wpAny_pyNext_items_end (by simpa using I.ok.hd L) st D (ZZ ⋯) λh' Pd=>⟨rfl,I.kD (t':=s.toks) m λb o a q=>Pd b o (λz=>a (by simp[z])) q⟩
 self:=λA i s Q E ⟨d,e,st⟩ h=>kcp_self st h
section
abbrev HS(i:Nat):TI:=λσ H R=>∃r o kvs,σ[i]?=a0 (a0 (.ref r))/\H r=a0 (.Jw o (.dK kvs))/\R (Tv r o kvs) H
def yn(t:X.N[i]?=a0 x)(y:Ko X.env.scope x)(A:(x==("__debug__":Str))=cb)(B:(x==("__classdict__":Str))=cb)(C:(c.endLine==D.line)=b6):
  PI X (.Tuple es kx ps) (.Call (.Attribute (.Name x px) "items" c) [] [] D) (HS i):=by
 intro d s σ H R I ⟨r,o,kvs,hs,hr,G⟩;show Í rfl C (Iw (cT t y A B d s σ H (λv g=>v=.ref r/\g=H) I ⟨_,hs,rfl,rfl⟩) λv s1 J=>?_);have⟨x1,g,h,L,m,O⟩:=J;subst m O;cases(show v=mA r from L);have⟨ho,m,lo,vs,kv,o',k,ep,n,f,j,l⟩:=(show bL X.prog X.w g s1.heap r (.Jw o (.dK kvs)) from h.Ir r _ hr)
 rw[ho]at n;cases n;have hl:vs.length=kvs.length:=(Paired.length kv).symm;have hm:s1.heap.DictAt (aZ X.prog X.w) r vs ep:=⟨o,k,ho,f,j,l⟩
 have p:s1.TypeIs (.ref r) "dict":=⟨o,ho,f.1⟩
 show⟨"dict","dict.items",PySem.F.plainAttrs_dict,PySem.F.slot_dict_items,PySem.F.type_dict_items,p,λa e=>⟨o,by cases e;show ho,f.2.1⟩,Mx rfl (PySem.evalArgs_none (Yf PySem.F.slot_dict_items p PySem.F.entry_dict_items (PySem.F.args_dict_items_1 _) (ĸ (aZ X.prog X.w) r lo) ⟨⟨vs,o,k,ep,ho,f,j,l⟩,?_⟩))⟩;have k1:∀b u,s1.heap.get? b=a0 u->(s1.heap.push {cls:=.type "dict_items",data:=.fields #[.ref r]}).get? b=a0 u:=λb u z=>dt _ z;have Q:(s1.heap.push {cls:=.type "dict_items",data:=.fields #[.ref r]}).DictAt (aZ X.prog X.w) r vs ep:=⟨o,k,k1 _ _ ho,f,j,l⟩
 show wpAny_pyIter_items (s:={s1 with heap:=s1.heap.push {cls:=.type "dict_items",data:=.fields #[.ref r]}}) ⟨_,fx _ rfl,rfl,rfl⟩ Q ?_;have hsz:(s1.heap.push {cls:=.type "dict_items",data:=.fields #[.ref r]}).objs.size=s1.heap.objs.size+1:=Nd ..;have T:=h.kept (t':=s1.toks) (h':=(s1.heap.push {cls:=.type "dict_items",data:=.fields #[.ref r]}).push {cls:=.type "dict_itemiterator",data:=.fields #[.none,.bool cb,.ref r,.int 0 0,.int vs.length 0,.int ep 0,.none,.none]}) λb u z=>dt _ (k1 b u z);show⟨_,[_],_,_,g,rfl,T,sQ (kvs:=kvs) j,⟨.none,.none,by rw[<-hl];show fx _ rfl⟩,λb Y=>?_,G⟩;rw[ix.mp Y];have q:s1.heap.objs.size<=(s1.heap.push {cls:=.type "dict_items",data:=.fields #[.ref r]}).objs.size:=by rw[hsz];show Qy _
 show h.vR q (h.Ir.fresh q)
end
end L2
namespace TM
open PySem L2
inductive U where
 |Iy|bl (b:Bool)|int (i:Int)|str (x:Str)
 |tup (xs:List U)|lst (xs:List U)
 |Ip (ks:List Str) (vs:List U)|JE (ks:List mN)
mutual
noncomputable def IY:U->Bool
 |.tup xs=>gL xs
 |.lst _=>cb
 |.Ip _ _=>cb
 |.JE _=>cb
 |.Iy=>b6|.bl _=>b6|.int _=>b6|.str _=>b6
noncomputable def gL:List U->Bool
 |[]=>b6
 |u::us=>IY u&&gL us
end
inductive Kd where|own|io|loc|any|bor (j:Nat)|F'
deriving DecidableEq
abbrev Kd.root:Kd->Bool
 |.own=>b6
 |.io=>b6
 |_=>cb
@[reducible]def aA:=List (Option (Kd×U))
structure Ct where
 P:HP
 w:Km
 K:PySem.W.Frag
 H₀:Hp
 L_:i5->Prop
 IO:i5->Prop
abbrev KL(K:PySem.W.Frag)(a:i5)(xs:List V):Prop :=
 ∃(o:Obj) (b:Array ez) (n:Nat),K.lookup a=a0 o/\o.cls=.type "list"/\o.dict=b5/\o.data=.seq b n/\b.size<=dV/\Vals xs b.toList
abbrev P5(K:PySem.W.Frag)(S:i5->Prop)(H:Hp)(a:i5)(vs:List V):Prop:=(S a/\Rd H a (.lst vs))\/KL K a vs
def P5.sq(h:P5 K S H a vs):Je K H a vs:=h.elim (λz=>.inl z.2) .inr
abbrev Ng(H:Hp)(R:List V->Prop)(a:i5)(ks:List Str):Prop:=∃kvs:List (Key×V),H a=a0 (.dK kvs)/\kvs.map (·.1)=ks.map p6/\R (kvs.map (·.2))
section
variable(C:Ct)(S:i5->Prop)(H:Hp)
mutual
def Rep:U->V->Prop
 |.Iy,v=>v=.Iy
 |.bl b,v=>v=.bl b
 |.int i,v=>v=.int i
 |.str x,v=>v=.str x
 |.tup us,v=>∃a vs,v=.ref a/\IX C.K H a vs/\ao us vs
 |.lst us,v=>∃a vs,v=.ref a/\P5 C.K S H a vs/\ao us vs
 |.Ip ks us,v=>∃a,v=.ref a/\S a/\Ng H (ao us) a ks
 |.JE ks,v=>∃a,v=.ref a/\S a/\fH C.P C.w C.K H a ks
def ao:List U->List V->Prop
 |[],vs=>vs=[]
 |u::us,vs=>∃v r,vs=v::r/\Rep u v/\ao us r
end
end
def Tp:HO->Prop
 |.tup _=>True
 |.Jw _ (.tup _)=>True
 |_=>False
structure Mv(S:i5->Prop)(H:Hp)(S':i5->Prop)(H':Hp):Prop where
 sub:∀a,S a->S' a
 P6:∀a o,H a=a0 o->Tp o->H' a=a0 o
 Q7:∀a o,S a->H a=a0 o->H' a=a0 o
def Mv.TB(m:Mv S H S' H')(h:IX K H a vs):IX K H' a vs:=by
 rcases h with(h|⟨o,h⟩)|h
 .show .inl (.inl (m.P6 a _ h trivial))
 .show .inl (.inr ⟨o,m.P6 a _ h trivial⟩)
 .show .inr h
def Mv.XU(m:Mv S H S' H')(h:P5 K S H a vs):P5 K S' H' a vs:=by
 rcases h with⟨s,h|⟨o,h⟩⟩|h
 .show .inl ⟨m.sub a s,.inl (m.Q7 a _ s h)⟩
 .show .inl ⟨m.sub a s,.inr ⟨o,m.Q7 a _ s h⟩⟩
 .show .inr h
def Mv.row(m:Mv S H S' H')(h:fS K H v r):fS K H' v r :=
 let ⟨a,b,e,c,d⟩:=h;⟨a,b,e,m.TB c,m.TB d⟩
def Ng.mv(b:∀o,H a=a0 o->H' a=a0 o)(c:∀vs,R vs->d vs)(h:Ng H R a ks):Ng H' d a ks :=
 let ⟨kvs,e,f,g⟩:=h;⟨kvs,b _ e,f,c _ g⟩
def Mv.uG(m:Mv S H S' H')(b:∀o,H a=a0 o->H' a=a0 o)(h:fH P w K H a ks):fH P w K H' a ks :=
 let ⟨xs,c,d,e⟩:=h;⟨xs,b _ c,d,λx f=>m.row (e x f)⟩
section
mutual
theorem Rep.Nh(m:Mv S H S' H'):∀(u:U) (v:V),Rep C S H u v->Rep C S' H' u v
 |.Iy,_,h=>h
 |.bl _,_,h=>h
 |.int _,_,h=>h
 |.str _,_,h=>h
 |.tup us,v,h=>by
  have⟨a,vs,e,b,c⟩:=h;show⟨a,vs,e,m.TB b,ao.Nh m us vs c⟩
 |.lst us,v,h=>by
  have⟨a,vs,e,b,c⟩:=h;show⟨a,vs,e,m.XU b,ao.Nh m us vs c⟩
 |.Ip ks us,v,h=>by
  have⟨a,e,b,c⟩:=h;show⟨a,e,m.sub a b,c.mv (λo q=>m.Q7 a o b q) λvs q=>ao.Nh m us vs q⟩
 |.JE ks,v,h=>by
  have⟨a,e,b,c⟩:=h;show⟨a,e,m.sub a b,m.uG (λo q=>m.Q7 a o b q) c⟩
theorem ao.Nh(m:Mv S H S' H'):∀(us:List U) (vs:List V),ao C S H us vs->ao C S' H' us vs
 |[],_,h=>h
 |u::us,vs,h=>by
  have⟨v,r,e,a,b⟩:=h;show⟨v,r,e,Rep.Nh m u v a,ao.Nh m us r b⟩
end
mutual
theorem Rep.wx:∀(u:U) (v:V),IY u=b6->Rep C S H u v->Rep C S' H u v
 |.Iy,_,_,h=>h
 |.bl _,_,_,h=>h
 |.int _,_,_,h=>h
 |.str _,_,_,h=>h
 |.tup us,v,i,h=>by
  have⟨a,vs,e,b,c⟩:=h;show⟨a,vs,e,b,ao.wx us vs (by simpa[TM.IY] using i) c⟩
 |.lst us,v,i,h=>by simp[TM.IY]at i
 |.Ip ks us,v,i,h=>by simp[TM.IY]at i
 |.JE ks,v,i,h=>by simp[TM.IY]at i
theorem ao.wx:∀(us:List U) (vs:List V),gL us=b6->ao C S H us vs->ao C S' H us vs
 |[],_,_,h=>h
 |u::us,vs,i,h=>by
  have⟨v,r,e,b,c⟩:=h;have a:TM.IY u=b6/\gL us=b6:=by simpa[gL] using i
  show⟨v,r,e,Rep.wx u v a.1 b,ao.wx us r a.2 c⟩
end
def Rep.mv(m:Mv S H S' H')(h:Rep C S H u v):Rep C S' H' u v:=Rep.Nh m u v h
def ao.mv(m:Mv S H S' H')(h:ao C S H us vs):ao C S' H' us vs:=ao.Nh m us vs h
def Rep.IY(i:TM.IY u=b6)(h:Rep C S H u v):Rep C S' H u v:=Rep.wx u v i h
def ao.IY(i:gL us=b6)(h:ao C S H us vs):ao C S' H us vs:=ao.wx us vs i h
def Mv.up(sub:∀a,S a->S' a):Mv S H S' H:=⟨sub,λ_ _ h _=>h,λ_ _ _ h=>h⟩
theorem ao.len:∀{us:List U}{vs:List V},ao C S H us vs->us.length=vs.length
 |[],_,h=>by cases h;rfl
 |u::us,vs,h=>by
  obtain⟨v,r,rfl,_,a⟩:=h;rw[mh,mh,ao.len a]
theorem ao.get:∀{us:List U}{vs:List V}{i:Nat}{u:U},ao C S H us vs->us[i]?=a0 u->∃v,vs[i]?=a0 v/\Rep C S H u v
 |[],_,_,_,_,e=>by simp at e
 |u::us,vs,0,w,h,e=>by
  obtain⟨v,r,rfl,a,_⟩:=h;simp at e;subst e;show⟨v,rfl,a⟩
 |u::us,vs,i+1,w,h,e=>by
  obtain⟨v,r,rfl,_,b⟩:=h;have⟨c,d,h'⟩:=ao.get (i:=i) (u:=w) b (by simpa using e);show⟨c,by simpa using d,h'⟩
theorem ao.append:∀{us ws:List U}{vs ys:List V},ao C S H us vs->ao C S H ws ys->ao C S H (us++ws) (vs++ys)
 |[],_,_,_,h,h'=>by cases h;show h'
 |u::us,ws,vs,ys,h,h'=>by
  have⟨v,r,rfl,a,b⟩:=h;show⟨v,r++ys,rfl,a,b.append h'⟩
theorem ao.take:∀{us:List U}{vs:List V} (n:Nat),ao C S H us vs->ao C S H (us.take n) (vs.take n)
 |_,_,0,_=>by simp[ao]
 |[],_,n+1,h=>by cases h;simp[ao]
 |u::us,vs,n+1,h=>by
  have⟨v,r,rfl,a,b⟩:=h;show⟨v,r.take n,rfl,a,b.take n⟩
theorem ao.drop:∀{us:List U}{vs:List V} (n:Nat),ao C S H us vs->ao C S H (us.drop n) (vs.drop n)
 |_,_,0,h=>h
 |[],_,n+1,h=>by cases h;simp[ao]
 |u::us,vs,n+1,h=>by
  have⟨v,r,rfl,b,a⟩:=h;show a.drop n
theorem ao.set:∀{us:List U}{vs:List V} (n:Nat) {u:U}{v:V},ao C S H us vs->Rep C S H u v->ao C S H (us.set n u) (vs.set n v)
 |[],_,n,_,_,h,_=>by cases h;simp[ao]
 |u::us,vs,0,_,_,h,h'=>by
  have⟨v,r,rfl,b,a⟩:=h;show⟨_,r,rfl,h',a⟩
 |u::us,vs,n+1,_,_,h,h'=>by
  have⟨v,r,rfl,b,a⟩:=h;show⟨v,_,rfl,b,a.set n h'⟩
def ao.snoc(h:ao C S H us vs)(h':Rep C S H u v):ao C S H (us++[u]) (vs++[v]):=h.append ⟨v,[],rfl,h',rfl⟩
theorem ao.strs:∀{xs:List Str}{vs:List V},ao C S H (xs.map .str) vs↔vs=xs.map V.str
 |[],vs=>by simp[ao]
 |x::xs,vs=>by
  constructor
  .rintro⟨v,r,rfl,a,b⟩;rw[ao.strs.mp b];have:v=.str x:=a;rw[this];rfl
  .rintro rfl;show⟨_,_,rfl,rfl,ao.strs.mpr rfl⟩
end
structure Ct.Eqv(C C':Ct):Prop where
 P:C.P=C'.P
 w:C.w=C'.w
 K:C.K=C'.K
section
mutual
theorem Rep.Ni(q:C.Eqv d):∀(u:U) (v:V),Rep C S H u v->Rep d S H u v
 |.Iy,_,h=>h
 |.bl _,_,h=>h
 |.int _,_,h=>h
 |.str _,_,h=>h
 |.tup us,v,h=>by
  have⟨a,vs,e,b,c⟩:=h;show⟨a,vs,e,q.K▸b,ao.Ni q us vs c⟩
 |.lst us,v,h=>by
  have⟨a,vs,e,b,c⟩:=h;show⟨a,vs,e,q.K▸b,ao.Ni q us vs c⟩
 |.Ip ks us,v,h=>by
  have⟨a,e,b,c⟩:=h;show⟨a,e,b,c.mv (λ_ q=>q) λvs z=>ao.Ni q us vs z⟩
 |.JE ks,v,h=>by
  have⟨a,e,b,c⟩:=h;show⟨a,e,b,by rw[<-q.P,<-q.w,<-q.K];show c⟩
theorem ao.Ni(q:C.Eqv a):∀(us:List U) (vs:List V),ao C S H us vs->ao a S H us vs
 |[],_,h=>h
 |u::us,vs,h=>by
  have⟨v,r,e,b,c⟩:=h;show⟨v,r,e,Rep.Ni q u v b,ao.Ni q us r c⟩
end
def Rep.cg(q:C.Eqv a)(h:Rep C S H u v):Rep a S H u v:=Rep.Ni q u v h
def ao.cg(q:C.Eqv a)(h:ao C S H us vs):ao a S H us vs:=ao.Ni q us vs h
end
def dY(C:Ct)(S:i5->Prop)(H:Hp)(r:i5):U->Prop
 |.lst us=>∃vs,H r=a0 (.lst vs)/\ao C S H us vs
 |.Ip ks us=>Ng H (ao C S H us) r ks
 |.JE ks=>fH C.P C.w C.K H r ks
 |_=>False
def dY.mv(m:Mv S H S' H')(hr:∀o,H r=a0 o->H' r=a0 o)(h:dY C S H r u):dY C S' H' r u:=by
 cases u with
 |lst us=>have⟨vs,a,b⟩:=h;show⟨vs,hr _ a,b.mv m⟩
 |Ip ks us=>show Ng.mv hr (λvs q=>q.mv m) h
 |JE ks=>show m.uG hr h
 |_=>show h
def dY.rep(hs:∀a,S a->S' a)(hr:S' r)(h:dY C S H r u):Rep C S' H u (.ref r):=by
 cases u with
 |lst us=>have⟨vs,b,c⟩:=h;show⟨r,vs,rfl,.inl ⟨hr,.inl b⟩,c.mv (.up hs)⟩
 |Ip ks us=>show⟨r,rfl,hr,Ng.mv (λ_ q=>q) (λvs q=>q.mv (.up hs)) h⟩
 |JE ks=>show⟨r,rfl,hr,h⟩
 |_=>show h.elim
def dY.cg(q:C.Eqv a)(h:dY C S H r u):dY a S H r u:=by
 cases u with
 |lst us=>have⟨vs,b,c⟩:=h;show⟨vs,b,c.cg q⟩
 |Ip ks us=>show Ng.mv (λ_ q=>q) (λvs z=>z.cg q) h
 |JE ks=>change fH _ _ _ _ _ _;rw[<-q.P,<-q.w,<-q.K];show h
 |_=>show h
def dY.some(h:dY C S H r u):∃o,H r=a0 o/\¬Tp o:=by
 cases u with
 |lst us=>obtain⟨vs,a,_⟩:=h;show⟨_,a,λz=>z⟩
 |Ip ks us=>obtain⟨kvs,a,_⟩:=h;show⟨_,a,λz=>z⟩
 |JE ks=>obtain⟨xs,a,_⟩:=h;show⟨_,a,λz=>z⟩
 |_=>show h.elim
structure Cf where
 S:i5->Prop
 H:Hp
 σ:St
 st:aA
 kid:Nat->List i5
abbrev Cf.R1(c:Cf)(a:i5):Prop:=∃(j:Nat) (k:Kd) (u:U),k.root=b6/\c.st[j]?=a0 (a0 (k,u))/\c.σ[j]?=a0 (a0 (.ref a))
abbrev Cf.RD(c:Cf)(j:Nat)(a:i5):Prop:=∃(u:U) (r:i5),c.st[j]?=a0 (a0 (.F',u))/\c.σ[j]?=a0 (a0 (.ref r))/\(a=r\/a∈c.kid j)
abbrev Cf.R(c:Cf)(a:i5):Prop:=c.R1 a\/∃j,c.RD j a
abbrev PS(C:Ct)(S:i5->Prop):i5->Prop:=λa=>C.L_ a\/S a
def fY(C:Ct)(S:i5->Prop)(H:Hp):Kd->U->V->Prop
 |.own,u,v=>∃r,v=.ref r/\¬S r/\¬C.L_ r/\C.H₀ r=b5/\dY C S H r u
 |.io,u,v=>∃r,v=.ref r/\¬S r/\¬C.L_ r/\C.IO r/\dY C S H r u
 |.loc,u,v=>Rep C S H u v
 |.any,u,v=>Rep C (PS C S) H u v
 |.bor _,_,_=>False
 |.F',_,v=>∃r,v=.ref r
def dz(C:Ct)(S:i5->Prop)(H:Hp):List U->List i5->Prop
 |[],as=>as=[]
 |u::us,as=>∃a as' ys vs,as=a::as'/\u=.lst ys/\H a=a0 (.lst vs)/\ao C S H ys vs/\dz C S H us as'
def cG(C:Ct)(S:i5->Prop)(H:Hp)(r:i5)(as:List i5):U->Prop
 |.Ip ks us=>∃kvs:List (Key×V),H r=a0 (.dK kvs)/\kvs.map (·.1)=ks.map p6/\kvs.map (·.2)=as.map V.ref/\(r::as).Nodup/\(∀a∈r::as,¬S a/\¬C.L_ a/\C.H₀ a=b5)/\dz C S H us as
 |_=>False
structure LG(C:Ct)(c:Cf):Prop where
 kd:∀(j:Nat) (u:U) (r:i5),c.st[j]?=a0 (a0 (.F',u))->c.σ[j]?=a0 (a0 (.ref r))->cG C c.S c.H r (c.kid j) u
 dj:∀(i j:Nat) (a:i5),c.RD i a->c.RD j a->i=j
 d1:∀(j:Nat) (a:i5),c.RD j a->¬c.R1 a
structure Ok(C:Ct)(c:Cf):Prop where
 same:∀a o,C.H₀ a=a0 o->¬C.IO a->c.H a=a0 o
 Ku:∀a,c.S a->C.H₀ a=b5/\∃o,c.H a=a0 o
 par:∀a,C.L_ a->(∃o,C.H₀ a=a0 o)/\¬C.IO a
 io:∀a,C.IO a->(∃o,C.H₀ a=a0 o)/\∃o,c.H a=a0 o
 len:c.st.length=c.σ.length
 sl:∀(i:Nat) (k:Kd) (u:U),c.st[i]?=a0 (a0 (k,u))->∃v,c.σ[i]?=a0 (a0 v)/\fY C c.S c.H k u v
 inj:∀(i j:Nat) (k k':Kd) (u u':U) (r:i5),k.root=b6->k'.root=b6->c.st[i]?=a0 (a0 (k,u))->c.st[j]?=a0 (a0 (k',u'))->c.σ[i]?=a0 (a0 (.ref r))->c.σ[j]?=a0 (a0 (.ref r))->i=j
 dd:LG C c
structure Ns(c c':Cf):Prop where
 keep:∀a o,c.H a=a0 o->¬c.R a->c'.H a=a0 o
 there:∀a o,c.H a=a0 o->∃o',c'.H a=a0 o'
 roots:∀a,c'.R a->c.R a\/c.H a=b5
 sub:∀a,c.S a->c'.S a
 new:∀a,c'.S a->c.S a\/c.R a\/c.H a=b5
section
def Ns.refl(c:Cf):Ns c c:=⟨λ_ _ h _=>h,λ_ o h=>⟨o,h⟩,λ_ h=>.inl h,λ_ h=>h,λ_ h=>.inl h⟩
def Ns.none(n:Ns c b)(h:b.H a=.none):c.H a=.none:=by
 cases e:c.H a with
 |none=>rfl
 |some o=>have⟨o',q⟩:=n.there a o e;rw[h]at q;cases q
def Ns.trans(m:Ns c b)(n:Ns b d):Ns c d where
 keep:=λa o h hr=>by
  show n.keep a o (m.keep a o h hr) λz=>?_;rcases m.roots a z with z|z
  .show hr z
  .rw[h]at z;cases z
 there:=λa o h=>let ⟨o',h'⟩:=m.there a o h;n.there a o' h'
 roots:=λa h=>by
  rcases n.roots a h with z|z
  .show m.roots a z
  .show .inr (m.none z)
 sub:=λa h=>n.sub a (m.sub a h)
 new:=λa h=>by
  rcases n.new a h with z|z|z
  .show m.new a z
  .rcases m.roots a z with z|z
   .show .inr (.inl z)
   .show .inr (.inr z)
  .show .inr (.inr (m.none z))
def fY.rt(hk:k.root=b6)(h:fY C S H k u v):∃r,v=.ref r/\¬S r/\¬C.L_ r/\(C.H₀ r=b5\/C.IO r)/\dY C S H r u:=by
 cases k with
 |own=>have⟨r,a,b,c,d,e⟩:=h;show⟨r,a,b,c,.inl d,e⟩
 |io=>have⟨r,a,b,c,d,e⟩:=h;show⟨r,a,b,c,.inr d,e⟩
 |_=>cases hk
theorem dz.mem:∀{us:List U}{as:List i5}{a:i5},dz C S H us as->a∈as->∃vs,H a=a0 (.lst vs)
 |[],as,a,h,ha=>by cases h;cases ha
 |u::us,as,a,h,ha=>by
  obtain⟨a',as',ys,vs,rfl,_,b,_,c⟩:=h;rcases ke.mp ha with rfl|ha
  .show⟨vs,b⟩
  .show dz.mem c ha
theorem dz.mv(m:Mv S H S' H'):∀{us:List U}{as:List i5},(∀a∈as,∀o,H a=a0 o->H' a=a0 o)->dz C S H us as->dz C S' H' us as
 |[],as,_,h=>h
 |u::us,as,b,h=>by
  have⟨a,as',ys,vs,rfl,e,c,d,f⟩:=h;show⟨a,as',ys,vs,rfl,e,b a (by simp) _ c,d.mv m,dz.mv m (λa g=>b a (by simp[g])) f⟩
def cG.fr(h:cG C S H r as u):∀a∈r::as,¬S a/\¬C.L_ a/\C.H₀ a=b5:=by
 cases u<;>first|show h.elim|(obtain⟨kvs,_,_,_,_,b,_⟩:=h;show b)
def cG.there(h:cG C S H r as u):∀a∈r::as,∃o,H a=a0 o/\¬Tp o:=by
 cases u<;>first|show h.elim|skip
 obtain⟨kvs,b,_,_,_,_,c⟩:=h;intro a ha;rcases ke.mp ha with rfl|ha
 .show⟨_,b,λz=>z⟩
 .have⟨vs,e⟩:=c.mem ha;show⟨_,e,λz=>z⟩
def cG.mv(m:Mv S H S' H')(c:∀a∈r::as,¬S' a/\∀o,H a=a0 o->H' a=a0 o)(h:cG C S H r as u):cG C S' H' r as u:=by
 cases u<;>first|show h.elim|skip
 have⟨kvs,d,e,f,g,i,j⟩:=h;show⟨kvs,(c r (by simp)).2 _ d,e,f,g,λa b=>⟨(c a b).1,(i a b).2⟩,j.mv m λa b=>(c a (by simp[b])).2⟩
def LG.of(d:LG C c)(hk:e.kid=c.kid)(p:∀(j:Nat) (u:U),e.st[j]?=a0 (a0 (.F',u))->c.st[j]?=a0 (a0 (.F',u))/\e.σ[j]?=c.σ[j]?)(s:∀a,e.R1 a->c.R1 a\/∀j,¬c.RD j a)
  (m:Mv c.S c.H e.S e.H) (t:∀j a,c.RD j a->¬e.S a/\∀o,c.H a=a0 o->e.H a=a0 o):LG C e:=by
 have b:∀j a,e.RD j a->c.RD j a:=λj a v=>by
  have⟨u,r,k,f,q⟩:=v;have⟨g,l⟩:=p j u k;rw[l]at f;rw[hk]at q;show⟨u,r,g,f,q⟩
 show⟨λj u r k f=>?_,λi j a h n=>d.dj i j a (b i a h) (b j a n),λj a h n=>?_⟩
 .have⟨g,l⟩:=p j u k;rw[l]at f;rw[hk];show cG.mv m (λa w=>t j a ⟨u,r,g,f,ke.mp w⟩) (d.kd j u r g f)
 .rcases s a n with z|z
  .show d.d1 j a (b j a h) z
  .show z j (b j a h)
def LG.hs(d:LG C c)(m:Mv c.S c.H S' H')(b:∀j a,c.RD j a->¬S' a/\∀o,c.H a=a0 o->H' a=a0 o):LG C {c with H:=H',S:=S' } :=
 d.of rfl (λ_ _ e=>⟨e,rfl⟩) (λ_ z=>.inl z) m b
def Ok.root(f:Ok C c)(h:c.R r):¬c.S r/\¬C.L_ r/\(C.H₀ r=b5\/C.IO r)/\∃o,c.H r=a0 o/\¬Tp o:=by
 rcases h with⟨j,k,u,hk,b,d⟩|⟨j,u,g,b,d,a⟩
 .have⟨v,e,hs⟩:=f.sl j _ _ b;have⟨g,ev,a,l,m,n⟩:=hs.rt hk;rw[d]at e;cases e;cases ev;show⟨a,l,m,n.some⟩
 .have i:=f.dd.kd j u g b d;have⟨p,q,s⟩:=cG.fr i r (ke.mpr a);show⟨p,q,.inl s,cG.there i r (ke.mpr a)⟩
def Ok.mv(b:Ok C c)(n:Ns c d):Mv c.S c.H d.S d.H:=⟨n.sub,λa o h t=>n.keep a o h λz=>by
  obtain⟨_,_,_,o',h',e⟩:=b.root z;rw[h]at h';cases h';show e t,λa o s h=>n.keep a o h λz=>(b.root z).1 s⟩
def Ok.MA(b:Ok C c)(n:Ns c d):Mv (PS C c.S) c.H (PS C d.S) d.H:=⟨λa h=>h.imp id (n.sub a),(b.mv n).P6,λa o s h=>n.keep a o h λz=>by
  rcases s with s|s
  .show(b.root z).2.1 s
  .show(b.root z).1 s⟩
def Ok.lI(a:Ok C c)(h:c.H p=b5):C.H₀ p=b5/\¬c.S p/\¬C.L_ p/\¬C.IO p/\¬c.R p:=by
 have b:¬C.IO p:=λz=>by obtain⟨_,o,q⟩:=a.io p z;rw[h]at q;cases q
 have d:C.H₀ p=b5:=by
  cases e:C.H₀ p with
  |none=>rfl
  |some o=>have:=a.same p o e b;rw[h]at this;cases this
 show⟨d,λz=>?_,λz=>?_,b,λz=>?_⟩
 .obtain⟨_,o,q⟩:=a.Ku p z;rw[h]at q;cases q
 .obtain⟨⟨o,q⟩,_⟩:=a.par p z;rw[d]at q;cases q
 .obtain⟨_,_,_,o,q,_⟩:=a.root z;rw[h]at q;cases q
def fY.mv(m:Mv S H S' H')(g:Mv (PS C S) H (PS C S') H')(hr:k.root=b6->∀r,v=.ref r->¬S' r/\∀o,H r=a0 o->H' r=a0 o)(h:fY C S H k u v):fY C S' H' k u v:=by
 cases k with
 |own =>
  have⟨r,e,i,a,b,c⟩:=h;have⟨d,f⟩:=hr rfl r e;show⟨r,e,d,a,b,c.mv m f⟩
 |io =>
  have⟨r,e,i,a,b,c⟩:=h;have⟨d,f⟩:=hr rfl r e;show⟨r,e,d,a,b,c.mv m f⟩
 |loc=>show Rep.mv m h
 |any=>show Rep.mv g h
 |bor j=>show h.elim
 |F'=>show h
structure Nx(c c':Cf):Prop extends Ns c c' where
 all:∀a o,c.H a=a0 o->c'.H a=a0 o
instance {c a:Cf}:Coe (Nx c a) (Ns c a):=⟨Nx.toNs⟩
def Nx.refl(c:Cf):Nx c c:=⟨.refl c,λ_ _ h=>h⟩
def Nx.trans(m:Nx c b)(n:Nx b d):Nx c d:=⟨m.toNs.trans n.toNs,λa o h=>n.all a o (m.all a o h)⟩
def Nx.none(n:Nx c b)(h:b.H a=.none):c.H a=.none:=n.toNs.none h
def Ok.lay(b:Ok C c)(h:c.H p=b5):Ok C {c with H:=upd c.H p o}/\Nx c {c with H:=upd c.H p o}:=by
 have l:∀{a:i5} {o':HO},c.H a=a0 o'->a≠p:=λe z=>by subst z;rw[h]at e;cases e
 have d:∀a o',c.H a=a0 o'->(upd c.H p o) a=a0 o':=λa o' e=>by rw[aw (l e)];show e
 have nx:Nx c {c with H:=upd c.H p o}:=⟨⟨λa o' e _=>d a o' e,λa o' e=>⟨o',d a o' e⟩,λa z=>.inl z,λ_ z=>z,λ_ z=>.inl z⟩,d⟩
 show⟨⟨λa o' e z=>d a o' (b.same a o' e z),λa z=>⟨(b.Ku a z).1,let ⟨o',q⟩:=(b.Ku a z).2;⟨o',d a o' q⟩⟩,b.par,λa z=>⟨(b.io a z).1,let ⟨o',q⟩:=(b.io a z).2;⟨o',d a o' q⟩⟩,b.len,λi k u e=>?_,b.inj,b.dd.hs (b.mv nx.toNs) λj a z=>⟨(b.root (.inr ⟨j,z⟩)).1,λo' e=>d a o' e⟩⟩,nx⟩;have⟨v,m,f⟩:=b.sl i k u e;show⟨v,m,f.mv (b.mv nx.toNs) (b.MA nx.toNs) λhk r n=>?_⟩;obtain⟨t,g,s,_⟩:=f.rt hk;rw[n]at g;cases g;show⟨s,λo' e=>d r o' e⟩
def Ok.grow(b:Ok C c)(hs:DG c.H H')(g:∀a,S' a->c.S a\/(c.H a=b5/\∃o,H' a=a0 o))(p:∀a,c.S a->S' a):Ok C {c with H:=H',S:=S' }/\Nx c {c with H:=H',S:=S' }:=by
 have nx:Nx c {c with H:=H',S:=S' }:=⟨⟨λa o' e _=>hs a o' e,λa o' e=>⟨o',hs a o' e⟩,λa z=>.inl z,p,λa z=>(g a z).imp id λq=>.inr q.1⟩,hs⟩
 show⟨⟨λa o' e z=>hs a o' (b.same a o' e z),λa z=>?_,b.par,λa z=>⟨(b.io a z).1,let ⟨o',q⟩:=(b.io a z).2;⟨o',hs a o' q⟩⟩,b.len,λi k u e=>?_,b.inj,b.dd.hs (b.mv nx.toNs) λj a z=>⟨λd=>?_,λo' e=>hs a o' e⟩⟩,nx⟩
 rotate_left 2
 .obtain⟨f,_,_,o,h,_⟩:=b.root (.inr ⟨j,z⟩);rcases g a d with d|⟨d,_⟩
  .show f d
  .rw[h]at d;cases d
 .rcases g a z with q|⟨f,l⟩
  .show⟨(b.Ku a q).1,let ⟨o',q⟩:=(b.Ku a q).2;⟨o',hs a o' q⟩⟩
  .show⟨(b.lI f).1,l⟩
 .have⟨v,s,m⟩:=b.sl i k u e;show⟨v,s,m.mv (b.mv nx.toNs) (b.MA nx.toNs) λhk r t=>?_⟩;have⟨w,n,f,l,x,h⟩:=m.rt hk;rw[t]at n;cases n;obtain⟨o,ho,_⟩:=h.some;show⟨λz=>?_,λo' e=>hs r o' e⟩;rcases g r z with z|⟨z,_⟩
  .show f z
  .rw[z]at ho;cases ho
def aT(C:Ct)(c0 c:Cf):Kd->U->V->Prop
 |.own,u,v=>∃r,v=.ref r/\c0.H r=b5/\¬c.S r/\¬c.R r/\dY C c.S c.H r u
 |.loc,u,v=>Rep C c.S c.H u v
 |.any,u,v=>Rep C (PS C c.S) c.H u v
 |.bor j,u,v=>(∃k:Kd,k.root=b6/\c.st[j]?=a0 (a0 (k,u)))/\c.σ[j]?=a0 (a0 v)
 |.io,_,_=>False
 |.F',_,_=>False
def fZ(C:Ct)(c0 c:Cf):Kd->U->V->Prop
 |.own,u,v=>∃r,v=.ref r/\c0.H r=b5/\¬c.S r/\¬c.R r/\dY C c.S c.H r u
 |.loc,u,v=>Rep C c.S c.H u v
 |.any,u,v=>Rep C (PS C c.S) c.H u v
 |.bor j,u,v=>c.σ[j]?=a0 (a0 v)
 |.io,_,_=>False
 |.F',_,_=>False
def aT.w(h:aT C c0 c k u v):fZ C c0 c k u v:=by
 cases k with
 |bor j=>show h.2
 |_=>show h
def fZ.VE(a:Ok C c)(n:Ns c b)(g:∀j,k=.bor j->b.σ[j]?=c.σ[j]?)(h:fZ C c0 c k u v):fZ C c0 b k u v:=by
 cases k with
 |own =>
  have⟨r,e,i,l,d,f⟩:=h;obtain⟨o,ho,_⟩:=f.some;show⟨r,e,i,λz=>?_,λz=>?_,f.mv (a.mv n) λo q=>n.keep r o q d⟩
  .rcases n.new r z with z|z|z
   .show l z
   .show d z
   .rw[z]at ho;cases ho
  .rcases n.roots r z with z|z
   .show d z
   .rw[z]at ho;cases ho
 |loc=>show Rep.mv (a.mv n) h
 |any=>show Rep.mv (a.MA n) h
 |bor j=>change b.σ[j]?=_;rw[g j rfl];show h
 |_=>show h
def fZ.on(b:Ok C c)(n:Ns c a)(d:a.σ=c.σ)(h:fZ C c0 c k u v):fZ C c0 a k u v:=h.VE b n λj _=>by rw[d]
def fZ.from(n:Ns c0 c1)(h:fZ C c1 c k u v):fZ C c0 c k u v:=by
 cases k with
 |own=>have⟨r,e,a,b⟩:=h;show⟨r,e,n.none a,b⟩
 |_=>show h
def aT.from(n:Ns c0 c1)(h:aT C c1 c k u v):aT C c0 c k u v:=by
 cases k with
 |own=>have⟨r,e,a,b⟩:=h;show⟨r,e,n.none a,b⟩
 |_=>show h
def SK(C:Ct)(c:Cf):Kd->i5->Prop
 |.any=>PS C c.S
 |_=>c.S
abbrev kE:Kd->Kd
 |.any=>.any
 |_=>.loc
def Ok.rootOf(b:Ok C c){j:Nat}(h:∃k:Kd,k.root=b6/\c.st[j]?=a0 (a0 (k,u)))(e:c.σ[j]?=a0 (a0 v)):∃r,v=.ref r/\¬c.S r/\¬C.L_ r/\(C.H₀ r=b5\/C.IO r)/\dY C c.S c.H r u:=by
 have⟨k,hk,h⟩:=h;have⟨f,a,d⟩:=b.sl j _ _ h;rw[e]at a;cases a;show d.rt hk
def aT.list(f:Ok C c)(h:aT C c0 c k (.lst us) v):∃a vs,v=.ref a/\Je C.K c.H a vs/\ao C (SK C c k) c.H us vs:=by
 cases k with
 |own=>obtain⟨r,e,_,_,_,vs,b,d⟩:=h;show⟨r,vs,e,Je.of b,d⟩
 |bor j=>obtain⟨r,e,_,_,_,vs,b,d⟩:=f.rootOf h.1 h.2;show⟨r,vs,e,Je.of b,d⟩
 |io=>show h.elim
 |F'=>show h.elim
 |_=>have⟨a,vs,e,b,d⟩:=h;show⟨a,vs,e,b.sq,d⟩
def aT.tuple(b:Ok C c)(h:aT C c0 c k (.tup us) v):∃a vs,v=.ref a/\IX C.K c.H a vs/\ao C (SK C c k) c.H us vs:=by
 cases k with
 |own=>obtain⟨r,e,_,_,_,h⟩:=h;show h.elim
 |bor j=>obtain⟨r,e,_,_,_,h⟩:=b.rootOf h.1 h.2;show h.elim
 |io=>show h.elim
 |F'=>show h.elim
 |_=>have⟨a,vs,e,d,f⟩:=h;show⟨a,vs,e,d,f⟩
def aT.flat(b:Ok C c)(a:IY u=b6)(h:aT C c0 c k u v):Rep C c.S c.H u v:=by
 cases k with
 |own=>obtain⟨r,e,_,_,_,h⟩:=h;cases u<;>simp[IY]at a<;>show h.elim
 |loc=>show h
 |any=>show Rep.IY a h
 |bor j=>obtain⟨r,e,_,_,_,h⟩:=b.rootOf h.1 h.2;cases u<;>simp[IY]at a<;>show h.elim
 |_=>show h.elim
def aT.int(a:Ok C c)(h:aT C c0 c k (.int i) v):v=.int i:=h.flat a rfl
def aT.str(a:Ok C c)(h:aT C c0 c k (.str x) v):v=.str x:=h.flat a rfl
def aT.bl(a:Ok C c)(h:aT C c0 c k (.bl b) v):v=.bl b:=h.flat a rfl
def aT.Iy(a:Ok C c)(h:aT C c0 c k .Iy v):v=.Iy:=h.flat a rfl
def aT.item(h:Rep C (SK C c k) c.H u v):aT C c0 c (kE k) u v:=by
 cases k<;>show h
abbrev LJ(H:Hp):i5->Prop:=λa=>∃o,H a=a0 o
def Ok.A2(b:Ok C c):∀a,c.S a->LJ c.H a:=λa h=>(b.Ku a h).2
def Ok.HU(b:Ok C c):∀a,PS C c.S a->LJ c.H a:=λa h=>by
 rcases h with h|h
 .obtain⟨⟨o,e⟩,n⟩:=b.par a h;show⟨o,b.same a o e n⟩
 .show b.A2 a h
def aT.read(a:Ok C c)(h:aT C c0 c k u v):Rep C (LJ c.H) c.H u v:=by
 cases k with
 |own =>
  obtain⟨r,e,_,_,_,b⟩:=h;rw[e];obtain⟨o,ho,_⟩:=b.some;show b.rep a.A2 ⟨o,ho⟩
 |loc=>show Rep.mv (.up a.A2) h
 |any=>show Rep.mv (.up a.HU) h
 |bor j =>
  obtain⟨r,e,_,_,_,b⟩:=a.rootOf h.1 h.2;rw[e];obtain⟨o,ho,_⟩:=b.some;show b.rep a.A2 ⟨o,ho⟩
 |_=>show h.elim
def Ok.newList(a:Ok C c)(n:Nx c0 c)(h:c.H p=b5)(hr:ao C c.S c.H us vs):
  Ok C {c with H:=upd c.H p (.lst vs)}/\Nx c0 {c with H:=upd c.H p (.lst vs)}/\aT C c0 {c with H:=upd c.H p (.lst vs)} .own (.lst us) (.ref p):=by
 have⟨d,b⟩:=a.lay (o:=.lst vs) h;have⟨g,e,i,j,f⟩:=a.lI h;show⟨d,n.trans b,p,rfl,n.none h,e,f,vs,aI,hr.mv (a.mv b.toNs)⟩
def Ok.DZ(a:Ok C c)(n:Nx c0 c)(h:c.H p=b5)(hr:ao C c.S c.H us vs):
  Ok C {c with H:=upd c.H p (.tup vs)}/\Nx c0 {c with H:=upd c.H p (.tup vs)}/\aT C c0 {c with H:=upd c.H p (.tup vs)} .loc (.tup us) (.ref p):=by
 have⟨d,b⟩:=a.lay (o:=.tup vs) h;show⟨d,n.trans b,p,vs,rfl,IX.of aI,hr.mv (a.mv b.toNs)⟩
end
inductive Ex(α:Type) where|ok (a:α)|exc (c:Str)
abbrev M(α:Type):=aA->Option (Ex α×aA)
namespace M
abbrev pure(a:α):M α:=λst=>a0 (.ok a,st)
abbrev fail:M α:=λ_=>b5
abbrev bind(m:M α)(f:α->M β):M β:=λst=>match m st with
 |none=>b5
 |some (.ok a,st')=>f a st'
 |some (.exc c,st')=>a0 (.exc c,st')
abbrev IQ(o:Option α):M α:=λst=>match o with
 |none=>b5
 |some a=>a0 (.ok a,st)
end M
noncomputable instance:Monad M:={pure:=M.pure,bind:=M.bind}
abbrev W{α:Type}(m:M α)(st:aA)(Q:α->aA->Prop):Prop:=∃a st',m st=a0 (.ok a,st')/\Q a st'
section
def aj:W (pure a) st Q↔Q a st:=by
 constructor
 .rintro⟨b,st',e,h⟩;cases e;show h
 .intro h;show⟨a,st,rfl,h⟩
def ah:W (m >>= f) st Q↔W m st λa st'=>W (f a) st' Q:=by
 constructor
 .rintro⟨b,st',e,h⟩;have d:M.bind m f st=a0 (.ok b,st'):=e;unfold M.bind at d;cases q:m st with
  |none=>rw[q]at d;cases d
  |some r =>
   have⟨r,s1⟩:=r;rw[q]at d;cases r with
   |ok a=>show⟨a,s1,q,b,st',d,h⟩
   |exc c=>cases d
 .rintro⟨a,s1,q,b,st',e,h⟩;show⟨b,st',?_,h⟩;change M.bind m f st=_;unfold M.bind;rw[q];show e
def cw:W (M.IQ o) st Q↔∃a,o=a0 a/\Q a st:=by
 cases o with
 |none=>show⟨λ⟨_,_,e,_⟩=>(by cases e),λ⟨_,e,_⟩=>(by cases e)⟩
 |some a=>show⟨λ⟨_,_,e,h⟩=>(by cases e;show⟨a,rfl,h⟩),λ⟨_,e,h⟩=>(by cases e;show⟨a,st,rfl,h⟩)⟩
def bA:W (M.fail:M α) st Q↔False:=⟨λ⟨_,_,e,_⟩=>(by cases e),Pt⟩
def W.mono(h:W m st Q)(i:∀a s,Q a s->Q' a s):W m st Q':=let ⟨a,s,e,q⟩:=h;⟨a,s,e,i a s q⟩
end
inductive Q9 where|add|sub|mul|KS|mod|pow
deriving DecidableEq
inductive P7 where|eq|ne|lt|le|gt|ge|isin|Im|is|J9
deriving DecidableEq
inductive Bf where|len|sorted|list|tuple|str|int|repr|max|min|all|any
deriving DecidableEq
inductive B2 where|Ma|Mb|sset|la
deriving DecidableEq
inductive Mf where|split|join|partition|endswith
deriving DecidableEq
inductive Ky where|str|list|tuple|int|bool
deriving DecidableEq
inductive Ik where|seq|Jl|XW|MP|zip|rev
deriving DecidableEq
inductive E where
 |var (i:Nat)
 |cst (u:U)
 |NX (x:Str) (u:U)
 |bin (op:Q9) (a b:E)
 |cmp (op:P7) (a b:E)
 |Mc (o1 o2:P7) (a b c:E)
 |and (es:List E)|or (es:List E)|not (a:E)
 |ite (c a b:E)
 |tup (es:List E)|lst (es:List E)|J_ (r:Bool)
 |idx (a b:E)
 |MB (a:E) (lo hi:List E)
 |bi (f:Bf) (es:List E)
 |Lg (f:B2) (es:List E)
 |Md (m:Mf) (a:E) (es:List E)
 |call (f:Str) (es:List E)
 |comp (k:Nat) (t:Bool) (ik:Ik) (src:List E) (cond:List E) (e:E)
 |neg (a:E)|bad|LK (a:E) (T:Ky)|fst (es:List E)|inD (neg:Bool) (a:E) (i:Nat)|OK (i:Nat)|KU (i:Nat) (k d:E)|OL (i:Nat)|Mg (ln:Bool) (a b:E)
 |Jw (a:E)|Kz (f:Str) (es:List E)
inductive S where
 |set (i:Nat) (e:E)
 |Kl (is:List Nat) (e:E)
 |put (i:Nat) (k v:E)
 |app (i:Nat) (e:E)|ext (i:Nat) (e:E)|bad|newD (i:Nat)|putD (i:Nat) (k v:E)|J' (i:Nat) (k v:E)|aug (sub:Bool) (i:Nat) (k v:E)|Q_ (i:Nat)
 |exp (e:E)
 |ret (e:E)|MQ
 |KW (i:Nat) (e:E)
 |ite (c:E) (a b:List S)
 |IF (t:Bool) (is:List Nat) (ik:Ik) (src:List E) (body:List S)
 |MC (c:E) (body:List S)
 |brk|cnt|Ra
 |inc (i:Nat) (n:Int)
abbrev isAny:Kd->Bool
 |.any=>b6
 |_=>cb
abbrev fy(k:Kd)(xs:List U):Bool:=!isAny k||gL xs
abbrev kT(k k':Kd):Kd:=if isAny k||isAny k' then .any else .loc
abbrev cut{α:Type}(xs:List α)(lo a:Option Int):List α:=(xs.drop (HT.IG xs.length 0 lo)).take (HT.IG xs.length xs.length a - HT.IG xs.length 0 lo)
abbrev wy:Kd×U->Kd×U->Option (Kd×U)
 |(_,.int i),(_,.int j)=>a0 (.loc,.int (i+j))
 |(_,.str x),(_,.str y)=>if x.length+y.length<=dV then a0 (.loc,.str (x++y)) else b5
 |(k,.lst xs),(k',.lst ys)=>if xs.length+ys.length<=dV/\fy k xs=b6/\fy k' ys=b6 then a0 (.own,.lst (xs++ys)) else b5
 |(k,.tup xs),(k',.tup ys)=>if xs.length+ys.length<=dV then a0 (kT k k',.tup (xs++ys)) else b5
 |_,_=>b5
abbrev sR(f:Int->Int->Option Int):U->U->Option (Kd×U)
 |.int i,.int j=>(f i j).map λn=>(.loc,.int n)
 |_,_=>b5
abbrev A3(i j:Int):Option Int:=if ((-(2 ^ 64)<i/\i<2 ^ 64)\/(-(2 ^ 64)<j/\j<2 ^ 64)) then a0 (i * j) else b5
abbrev A4(i j:Int):Option Int:=if 0<j/\j<1073741824 then a0 (i / j) else b5
abbrev A5(i j:Int):Option Int:=if 0<j then a0 (i % j) else b5
abbrev A6(i j:Int):Option Int:=if 0<=j/\j<=1000000/\i.natAbs<2 ^ 64 then a0 (i ^ j.toNat) else b5
abbrev Kg(op:Q9)(x y:Kd×U):Option (Kd×U):=match op with
 |.add=>wy x y
 |.sub=>sR (λi j=>a0 (i - j)) x.2 y.2
 |.mul=>sR A3 x.2 y.2
 |.KS=>sR A4 x.2 y.2
 |.mod=>sR A5 x.2 y.2
 |.pow=>sR A6 x.2 y.2
mutual
noncomputable def JL:Nat->U->Bool
 |_,.Ip _ _=>cb
 |_,.JE _=>cb
 |0,.tup _=>cb
 |0,.lst _=>cb
 |n+1,.tup xs=>cy n xs
 |n+1,.lst xs=>cy n xs
 |_,.Iy=>b6|_,.bl _=>b6|_,.int _=>b6|_,.str _=>b6
noncomputable def cy:Nat->List U->Bool
 |_,[]=>b6
 |n,u::us=>JL n u&&cy n us
end
mutual
noncomputable def cz:U->U->Bool
 |.Iy,.Iy=>b6
 |.bl a,.bl b=>a==b
 |.bl a,.int b=>(if a then 1 else 0)==b
 |.int a,.bl b=>a==(if b then 1 else 0)
 |.int a,.int b=>a==b
 |.str a,.str b=>a==b
 |.tup xs,.tup ys=>cP xs ys
 |.lst xs,.lst ys=>cP xs ys
 |_,_=>cb
noncomputable def cP:List U->List U->Bool
 |[],[]=>b6
 |u::us,w::ws=>cz u w&&cP us ws
 |_,_=>cb
end
abbrev MR(x:U)(ys:List U):Option Bool:=if JL 50 x=b6/\cy 50 ys=b6 then a0 (ys.any λy=>cz y x) else b5
abbrev strsOf:List U->Option (List Str)
 |[]=>a0 []
 |.str x::us=>(strsOf us).map (x::·)
 |_::_=>b5
abbrev rowOf:U->Option mN
 |.tup [.str x,.tup ys]=>(strsOf ys).map λss=>(x,ss)
 |_=>b5
abbrev wz:U->U->Option Bool
 |x,.lst ys=>MR x ys
 |x,.tup ys=>MR x ys
 |.str x,.Ip ks _=>a0 (cK (x∈ks))
 |x,.JE ks=>(rowOf x).map λr=>cK (r∈ks)
 |_,_=>b5
abbrev dI:List Str->List U->Str->Option U
 |y::ks,u::us,x=>if y=x then a0 u else dI ks us x
 |_,_,_=>b5
abbrev dput(ks:List Str)(us:List U)(x:Str)(u:U):List Str×List U :=
 if x∈ks then(ks,(ks.zip us).map λp=>if p.1=x then u else p.2) else(ks++[x],us++[u])
abbrev nM:U->Bool
 |.Iy=>b6
 |_=>cb
abbrev bw:P7->U->U->Option Bool
 |.eq,a,b=>if JL 50 a=b6/\JL 50 b=b6 then a0 (cz a b) else b5
 |.ne,a,b=>if JL 50 a=b6/\JL 50 b=b6 then a0 (!cz a b) else b5
 |.lt,.int i,.int j=>a0 (cK (i<j))
 |.gt,.int i,.int j=>a0 (cK (j<i))
 |.ge,.int i,.int j=>a0 (cK (j<=i))
 |.isin,x,y=>wz x y
 |.Im,x,y=>(wz x y).map (!·)
 |.is,x,.Iy=>a0 (nM x)
 |.J9,x,.Iy=>a0 (!nM x)
 |.is,.bl x,.bl y=>a0 (x==y)
 |.J9,.bl x,.bl y=>a0 (!(x==y))
 |_,_,_=>b5
abbrev f7:List U->Option (List Bool)
 |[]=>a0 []
 |.bl x::us=>(f7 us).map (x::·)
 |_::_=>b5
abbrev ip:Kd×U->U->Option (Kd×U)
 |(k,.lst xs),.int i=>(Jb xs i).map λu=>(kE k,u)
 |(k,.tup xs),.int i=>(Jb xs i).map λu=>(kE k,u)
 |(_,.str x),.int i=>if x.length<=dV then(Jb x.cps.toList i).map λc=>(.loc,.str ⟨#[c]⟩) else b5
 |_,_=>b5
abbrev mS:Kd×U->Option Int->Option Int->Option (Kd×U)
 |(k,.lst xs),lo,a=>if fy k xs=b6 then a0 (.own,.lst (cut xs lo a)) else b5
 |(k,.tup xs),lo,a=>a0 (kE k,.tup (cut xs lo a))
 |(_,.str x),lo,a=>if x.length<=dV then a0 (.loc,.str (PySem.StrLaws.sliceText x lo a)) else b5
 |_,_,_=>b5
abbrev D0:U->Option Nat
 |.lst xs=>a0 xs.length
 |.tup xs=>a0 xs.length
 |.str x=>if x.length<=dV then a0 x.length else b5
 |_=>b5
abbrev iq{β:Type}(f:Kd×U->Option β):List (Kd×U)->Option β
 |[x]=>f x
 |_=>b5
abbrev intsOf:List U->Option (List Int)
 |[]=>a0 []
 |.int x::us=>(intsOf us).map (x::·)
 |_::_=>b5
abbrev D3:Kd×U->Option (Kd×U)
 |(_,.lst xs)=>(strsOf xs).bind λss=>if ss.length<64 then a0 (.own,.lst ((aH ss).map .str)) else b5
 |(_,.Ip ks _)=>if ks.length<64 then a0 (.own,.lst ((aH ks).map .str)) else b5
 |(_,.tup xs)=>(strsOf xs).bind λss=>if ss.length<64 then a0 (.own,.lst ((aH ss).map .str)) else b5
 |_=>b5
abbrev D4:Kd×U->Option (Kd×U)
 |(k,.lst xs)=>if fy k xs=b6 then a0 (.own,.lst xs) else b5
 |(k,.tup xs)=>if fy k xs=b6 then a0 (.own,.lst xs) else b5
 |_=>b5
abbrev D5:Kd×U->Option (Kd×U)
 |(k,.lst xs)=>a0 (kE k,.tup xs)
 |(k,.tup xs)=>a0 (kE k,.tup xs)
 |_=>b5
abbrev A7:Kd×U->Option (Kd×U)
 |(_,.int i)=>if i.natAbs.log2<1920 then a0 (.loc,.str (Uu i)) else b5
 |_=>b5
abbrev D6:Kd×U->Option (Kd×U)
 |(_,.lst xs)=>(f7 xs).map λa=>(.loc,.bl (a.all id))
 |_=>b5
abbrev D7:Kd×U->Option (Kd×U)
 |(_,.lst xs)=>(f7 xs).map λa=>(.loc,.bl (a.any id))
 |_=>b5
abbrev JW(f:Bf)(rs:List (Kd×U)):Option (Kd×U):=match f with
 |.len=>iq (λx=>(D0 x.2).map λ(n:Nat)=>(Kd.loc,U.int (n:Int))) rs
 |.sorted=>iq D3 rs
 |.list=>iq D4 rs
 |.tuple=>iq D5 rs
 |.str=>iq A7 rs
 |.all=>iq D6 rs
 |.any=>iq D7 rs
 |_=>b5
abbrev fN:U->Option (List Str)
 |.lst xs=>(strsOf xs).bind λss=>if ss.length+1<K4 then a0 (ax ss) else b5
 |.tup xs=>(strsOf xs).bind λss=>if ss.length+1<K4 then a0 (ax ss) else b5
 |_=>b5
abbrev sT(f:B2)(rs:List (Kd×U)):Option (Kd×U):=match f with
 |.Ma=>b5
 |.Mb=>b5
 |.sset=>iq (λx=>(fN x.2).bind λss=>if ss.length<64 then a0 (.own,.lst ((aH ss).map .str)) else b5) rs
 |.la=>iq (λx=>(fN x.2).map λss=>(.loc,.int ss.length)) rs
abbrev lJ:Mf->U->List (Kd×U)->Option (Kd×U)
 |.split,.str a,[(_,.str b)]=>if (b.length==0)=cb/\a.length+2<=dV then a0 (.own,.lst ((Qx a b).map .str)) else b5
 |.join,.str a,[(_,.lst xs)]=>(strsOf xs).bind λss=>if ę a ss=b6 then a0 (.loc,.str (Wu a ss)) else b5
 |_,_,_=>b5
abbrev HV:Kd×U->Option (List (Kd×U))
 |(k,.lst xs)=>a0 (xs.map λu=>(kE k,u))
 |(k,.tup xs)=>a0 (xs.map λu=>(kE k,u))
 |_=>b5
abbrev wA:Kd×U->Option (List (Kd×U))
 |(_,.int n)=>if n<2 ^ 62/\-(2 ^ 62)<n then a0 ((hA n.toNat).map λi:Nat=>(Kd.loc,U.int (0+(i:Int)))) else b5
 |_=>b5
abbrev D8:Kd×U->Option (List (Kd×U))
 |(k,.lst xs)=>a0 (xs.zipIdx.map λp=>(kE k,.tup [.int p.2,p.1]))
 |(k,.tup xs)=>a0 (xs.zipIdx.map λp=>(kE k,.tup [.int p.2,p.1]))
 |_=>b5
abbrev D9:List (Kd×U)->Option (List (Kd×U))
 |[(k,.lst xs),(k',.tup ys)]=>a0 ((xs.zip ys).map λp=>(kT k k',.tup [p.1,p.2]))
 |_=>b5
abbrev pD(d:List Str×List U):List (Kd×U):=(d.1.zip d.2).map λp=>(Kd.loc,U.tup [.str p.1,p.2])
abbrev JX(ik:Ik)(rs:List (Kd×U)):Option (List (Kd×U)):=match ik with
 |.seq=>iq HV rs
 |.Jl=>iq wA rs
 |.MP=>iq D8 rs
 |.zip=>D9 rs
 |_=>b5
abbrev A8(ps:List (Str×Int)):List (Str×Int):=(kb (ps.map (·.1))).map λi=>ps.getD i (G0,0)
abbrev wB(p:Str×Int):U:=.tup [.str p.1,.int p.2]
abbrev yo:U->Option (Kd×U)
 |.Ip ks us=>(intsOf us).bind λns=>if ks.length<64/\ks.Nodup/\ks.length=ns.length then a0 (.own,.lst ((A8 (ks.zip ns)).map wB)) else b5
 |_=>b5
abbrev mT(ln:Bool)(a b:List Str):Option (Kd×U):=if a.length<64/\b.length<64 then a0 (if ln=b6 then(.loc,.int ((a.filter λx=>cK (x∉b)).length:Nat)) else(.own,.lst ((aH (a.filter λx=>cK (x∉b))).map .str))) else b5
abbrev wC:U->Option Bool
 |.bl b=>a0 b
 |.lst xs=>a0 !xs.isEmpty
 |.tup xs=>a0 !xs.isEmpty
 |.str x=>if x.length<=dV then a0 ((x.length:Int) != 0) else b5
 |_=>b5
abbrev lift:Kd×U->M U
 |(.own,u)=>pure u
 |(.loc,u)=>pure u
 |(.any,u)=>if IY u=b6 then pure u else M.fail
 |(.bor j,_)=>λst=>match st[j]? with
  |some (a0 (.own,u))=>a0 (.ok u,st.set j (a0 (.loc,u)))
  |_=>b5
 |(.io,_)=>M.fail
 |(.F',_)=>M.fail
abbrev dA:List (Kd×U)->M (List U)
 |[]=>pure []
 |r::rs=>do let u <-lift r;let us <-dA rs;pure (u::us)
abbrev dJ(i:Nat):Kd×U->M Unit
 |(.bor j,_)=>λst=>match st[j]? with
  |some (a0 (.own,u))=>a0 (.ok (),(st.set j (a0 (.loc,u))).set i (a0 (.loc,u)))
  |_=>b5
 |(.io,_)=>M.fail
 |(.F',_)=>M.fail
 |(k,u)=>λst=>a0 (.ok (),st.set i (a0 (k,u)))
def bq:List (Kd×U)->aA->Prop
 |[],_=>True
 |(.bor j,u)::rs,st=>(∃k:Kd,k.root=b6/\st[j]?=a0 (a0 (k,u)))/\bq rs st
 |_::rs,st=>bq rs st
open Classical in
abbrev aO(rs:List (Kd×U)):M Unit:=λst=>if bq rs st then a0 (.ok (),st) else b5
@[reducible]def Tab:=Str->List U->Option (Ex (Kd×U))
abbrev lK(Γ:Tab)(f:Str)(us:List U):M (Kd×U):=λst=>match Γ f us with
 |some (.ok (.any,_))=>b5
 |none=>b5
 |some r=>a0 (r,st)
abbrev qT(Γ:Tab)(f:Str)(rs:List (Kd×U)):M (Kd×U):=λst=>if rs.all (λr=>cK (r.1=.loc))=b6 then match Γ f (rs.map (·.2)) with
 |some (.ok (k,u))=>a0 (.ok (if k=.any then .loc else k,u),st)
 |_=>b5
 else b5
abbrev dM(i:Nat):M (Kd×U):=λst=>match st[i]? with
 |some (a0 (.F',_))=>b5
 |some (a0 (k,u))=>a0 (.ok (if k.root=b6 then .bor i else k,u),st)
 |_=>b5
abbrev gM(i:Nat):M (List Str×List U):=λst=>match st[i]? with
 |some (a0 (.F',.Ip ks us))=>a0 (.ok (ks,us),st)
 |_=>b5
abbrev iS(x:Kd×U):M Str:=match x.2 with
 |.str y=>pure y
 |_=>M.fail
abbrev P8(neg:Bool)(y:Str)(ks:List Str):Bool:=if neg=b6 then !cK (y∈ks) else cK (y∈ks)
abbrev yp(i:Nat):M (Kd×U):=λst=>match st[i]? with
 |some (a0 (.F',u))=>a0 (.ok (.bor i,u),st.set i (a0 (.own,u)))
 |_=>dM i st
abbrev qU(i:Nat):M (List Str×List U):=λst=>match st[i]? with
 |some (a0 (.F',.Ip ks us))=>a0 (.ok (ks,us),st.set i b5)
 |_=>b5
abbrev CF(i:Nat):M Unit:=λst=>a0 (.ok (),st.set i (a0 (.F',.Ip [] [])))
abbrev lL(i:Nat)(y:Str):Kd×U->M Unit
 |(.own,.lst us)=>λst=>match st[i]? with
  |some (a0 (.F',.Ip ks vs))=>if y∉ks/\ks.length<dV then a0 (.ok (),st.set i (a0 (.F',.Ip (ks++[y]) (vs++[.lst us])))) else b5
  |_=>b5
 |_=>M.fail
abbrev jv:List Str->List U->Str->U->List U
 |k::ks,v::vs,y,u=>if k=y then u::vs else v::jv ks vs y u
 |_,vs,_,_=>vs
abbrev lM(i:Nat)(y:Str)(u:U):M Unit:=λst=>match st[i]? with
 |some (a0 (.F',.Ip ks vs))=>match dI ks vs y with
  |some (.lst xs)=>if xs.length<dV then a0 (.ok (),st.set i (a0 (.F',.Ip ks (jv ks vs y (.lst (xs++[u])))))) else b5
  |_=>b5
 |_=>b5
abbrev TC:U->M Unit
 |.Ip _ _=>pure ()
 |_=>M.fail
abbrev A9(x:Kd×U)(y:Str)(u:U):Option (Kd×U):=match x with
 |(k,.Ip ks us)=>a0 (match dI ks us y with|some v=>(kE k,v)|none=>(.loc,u))
 |_=>b5
abbrev qV(i:Nat):M (List U):=λst=>match st[i]? with
 |some (a0 (k,.lst us))=>if k.root=b6 then a0 (.ok us,st) else b5
 |_=>b5
abbrev pE(x:Kd×U):M Int:=match x.2 with
 |.int j=>pure j
 |_=>M.fail
abbrev qW(us:List U)(j:Int):Option Int:=if 0<=j then(match us[j.toNat]? with|some (.int o)=>a0 o|_=>b5) else b5
abbrev wD(sub:Bool)(o w:Int):Int:=if sub=b6 then o - w else o+w
abbrev HW:U->Option U
 |.lst us=>a0 (.lst us.reverse)
 |_=>b5
abbrev sets:List Nat->List (Kd×U)->M Unit
 |[],[]=>pure ()
 |i::is,r::rs=>do dJ i r;sets is rs
 |_,_=>M.fail
abbrev dB(t:Bool)(is:List Nat)(r:Kd×U):M Unit:=match t,is,r with
 |false,[i],r=>dJ i r
 |true,is,(k,.tup xs)=>sets is (xs.map λu=>(kE k,u))
 |_,_,_=>M.fail
abbrev inScope{α:Type}(k:Nat)(m:M α):M α:=λst=>match m (nz k b5++st) with
 |none=>b5
 |some (r,st')=>a0 (r,st'.drop k)
abbrev bN(k:Nat)(t:Bool)(cond:M Bool)(elt:M (Kd×U))(src:List (Kd×U)):List (Kd×U)->List U->M (List U)
 |[],a=>do aO src;pure a
 |x::xs,a=>do
  aO src
  let r <-inScope k (dB t (hA k) x >>= λ_=>cond >>= λb=>if b=b6 then(elt >>= λr=>lift r >>= λu=>pure (a0 u)) else pure b5)
  match r with
  |some u=>if a.length<dV then bN k t cond elt src xs (a++[u]) else M.fail
  |none=>bN k t cond elt src xs a
abbrev qX:U->Ky->Option Bool
 |.str _,T=>a0 (cK (T=.str))
 |.int _,T=>a0 (cK (T=.int))
 |.bl _,.bool=>a0 b6
 |.bl _,.int=>a0 b6
 |.lst _,T=>a0 (cK (T=.list))
 |.tup _,T=>a0 (cK (T=.tuple))
 |_,_=>b5
abbrev HX:Kd×U->Option (Kd×U)
 |(_,.int i)=>a0 (.loc,.int (-i))
 |_=>b5
abbrev D_(x:Kd×U):M (Option Int):=match x.2 with
 |.int i=>pure (a0 i)
 |_=>M.fail
abbrev OM:U->M Unit
 |.lst _=>pure ()
 |_=>M.fail
section
variable(Γ:Tab)
mutual
noncomputable def ev:E->M (Kd×U)
 |.var i=>dM i
 |.cst u=>pure (.loc,u)
 |.NX _ u=>pure (.loc,u)
 |.bin op a b=>do
  let x <-ev a
  let y <-ev b
  aO [x,y]
  M.IQ (Kg op x y)
 |.cmp op a b=>do
  let x <-ev a
  let y <-ev b
  aO [x,y]
  let c <-M.IQ (bw op x.2 y.2)
  pure (.loc,.bl c)
 |.Mc o1 o2 a b c=>do
  let x <-ev a
  let y <-ev b
  aO [x,y]
  let p <-M.IQ (bw o1 x.2 y.2)
  if p=b6 then do
   let z <-ev c
   aO [y,z]
   let q <-M.IQ (bw o2 y.2 z.2)
   pure (.loc,.bl q)
  else pure (.loc,.bl cb)
 |.and es=>yq es
 |.or es=>Ea es
 |.not a=>do
  let x <-ev a
  match x.2 with
  |.bl c=>pure (.loc,.bl !c)
  |_=>M.fail
 |.ite c a b=>do
  let p <-IU c
  if p=b6 then ev a else ev b
 |.tup es=>do
  let rs <-cf es
  aO rs
  let us <-dA rs
  if us.length<=dV then pure (.loc,.tup us) else M.fail
 |.lst es=>do
  let rs <-cf es
  aO rs
  let us <-dA rs
  if us.length<=dV then pure (.own,.lst us) else M.fail
 |.J_ r=>pure (.own,if r=b6 then .JE [] else .Ip [] [])
 |.idx a b=>do
  let x <-ev a
  let y <-ev b
  aO [x,y]
  M.IQ (ip x y.2)
 |.MB a lo g=>do
  let x <-ev a
  let l <-NY lo
  let h <-NY g
  aO [x]
  M.IQ (mS x l h)
 |.bi f es=>do
  let rs <-cf es
  aO rs
  M.IQ (JW f rs)
 |.Lg f es=>do
  let rs <-cf es
  aO rs
  M.IQ (sT f rs)
 |.Md m a es=>do
  let x <-ev a
  let rs <-cf es
  aO (x::rs)
  M.IQ (lJ m x.2 rs)
 |.call f es=>do
  let rs <-cf es
  aO rs
  lK Γ f (rs.map (·.2))
 |.comp k t ik src cond e=>do
  let rs <-cf src
  aO rs
  let xs <-M.IQ (JX ik rs)
  let us <-bN k t (aJ cond) (ev e) rs xs []
  pure (.own,.lst us)
 |.neg a=>do
  let x <-ev a
  M.IQ (HX x)
 |.bad=>M.fail
 |.inD neg a i=>do
  let x <-ev a
  let y <-iS x
  let d <-gM i
  pure (.loc,.bl (P8 neg y d.1))
 |.OK i=>yp i
 |.KU i k d=>do
  let x <-dM i
  TC x.2
  let y <-ev k
  let y <-iS y
  let z <-ev d
  let u <-lift z
  let x <-dM i
  M.IQ (A9 x y u)
 |.OL i=>do
  let x <-dM i
  M.IQ (yo x.2)
 |.Jw a=>do
  let r <-ev a
  let u <-lift r
  pure (.loc,u)
 |.Kz f es=>do
  let rs <-cf es
  aO rs
  qT Γ f rs
 |.Mg ln a b=>do
  let x <-ev a
  let j <-M.IQ (fN x.2)
  let y <-ev b
  let n <-M.IQ (fN y.2)
  M.IQ (mT ln j n)
 |.fst es=>M.fail
 |.LK a T=>do
  let x <-ev a
  let b <-M.IQ (qX x.2 T)
  pure (.loc,.bl b)
noncomputable def cf:List E->M (List (Kd×U))
 |[]=>pure []
 |e::es=>do let r <-ev e;let rs <-cf es;pure (r::rs)
noncomputable def NY:List E->M (Option Int)
 |[]=>pure b5
 |[e]=>do let x <-ev e;D_ x
 |_=>M.fail
noncomputable def yq:List E->M (Kd×U)
 |[]=>M.fail
 |[e]=>ev e
 |e::es=>do
  let x <-ev e
  match x.2 with
  |.bl b6=>yq es
  |.bl cb=>pure (.loc,.bl cb)
  |_=>M.fail
noncomputable def Ea:List E->M (Kd×U)
 |[]=>M.fail
 |[e]=>ev e
 |e::es=>do
  let x <-ev e
  match x.2 with
  |.bl b6=>pure (.loc,.bl b6)
  |.bl cb=>Ea es
  |_=>M.fail
noncomputable def IU:E->M Bool
 |.and es=>aJ es
 |.or es=>jR es
 |.not a=>do let b <-IU a;pure !b
 |.cmp op a b=>do
  let x <-ev a
  let y <-ev b
  aO [x,y]
  M.IQ (bw op x.2 y.2)
 |.var i=>do let x <-dM i;M.IQ (wC x.2)
 |.bi f es=>do
  let rs <-cf es
  aO rs
  let r <-M.IQ (JW f rs)
  M.IQ (wC r.2)
 |.call f es=>do
  let rs <-cf es
  aO rs
  let r <-lK Γ f (rs.map (·.2))
  M.IQ (wC r.2)
 |.Mc o1 o2 a b c=>do
  let x <-ev a
  let y <-ev b
  aO [x,y]
  let p <-M.IQ (bw o1 x.2 y.2)
  if p=b6 then do
   let z <-ev c
   aO [y,z]
   M.IQ (bw o2 y.2 z.2)
  else pure cb
 |.inD neg a i=>do
  let x <-ev a
  let y <-iS x
  let d <-gM i
  pure (P8 neg y d.1)
 |.LK a T=>do
  let x <-ev a
  M.IQ (qX x.2 T)
 |_=>M.fail
noncomputable def aJ:List E->M Bool
 |[]=>pure b6
 |[e]=>IU e
 |e::es=>do let b <-IU e;if b=b6 then aJ es else pure cb
noncomputable def jR:List E->M Bool
 |[]=>pure cb
 |[e]=>IU e
 |e::es=>do let b <-IU e;if b=b6 then pure b6 else jR es
end
inductive Fl where|nx|rt (k:Kd) (u:U)|bk|ct
abbrev retS:Kd×U->M Fl
 |(.own,u)=>pure (.rt .own u)
 |(.loc,u)=>pure (.rt .loc u)
 |(.any,u)=>if IY u=b6 then pure (.rt .loc u) else pure (.rt .any u)
 |(.bor j,_)=>λst=>match st[j]? with
  |some (a0 (.own,u))=>a0 (.ok (.rt .own u),st.set j b5)
  |_=>b5
 |(.io,_)=>M.fail
 |(.F',_)=>M.fail
abbrev forM(t:Bool)(is:List Nat)(body:M Fl)(src:List (Kd×U)):List (Kd×U)->M Fl
 |[]=>do aO src;pure .nx
 |x::xs=>do
  aO src
  dB t is x
  let f <-body
  match f with
  |.nx=>forM t is body src xs
  |.ct=>forM t is body src xs
  |.bk=>pure .nx
  |.rt k u=>pure (.rt k u)
abbrev fO(c:M Bool)(body:M Fl):Nat->M Fl
 |0=>M.fail
 |n+1=>do
  let b <-c
  if b=b6 then do
   let f <-body
   match f with
   |.nx=>fO c body n
   |.ct=>fO c body n
   |.bk=>pure .nx
   |.rt k u=>pure (.rt k u)
  else pure .nx
abbrev modS(i:Nat)(f:U->Option U):M Unit:=λst=>match st[i]? with
 |some (a0 (k,u))=>if k.root=b6 then match f u with
   |some u'=>a0 (.ok (),st.set i (a0 (k,u')))
   |none=>b5
  else b5
 |_=>b5
abbrev yr(u:U):U->Option U
 |.lst xs=>if xs.length<dV then a0 (.lst (xs++[u])) else b5
 |_=>b5
abbrev lN:Kd×U->U->Option U
 |(k,.lst ys),.lst xs=>if xs.length+ys.length<=dV/\fy k ys=b6 then a0 (.lst (xs++ys)) else b5
 |(k,.tup ys),.lst xs=>if xs.length+ys.length<=dV/\fy k ys=b6 then a0 (.lst (xs++ys)) else b5
 |_,_=>b5
abbrev dZ(x u:U):U->Option U
 |.Ip ks vs=>match x with
  |.str y=>if ks.length<dV then a0 (.Ip (dput ks vs y u).1 (dput ks vs y u).2) else b5
  |_=>b5
 |.JE ks=>match rowOf x,u with
  |some r,.bl b6=>if r∉ks/\ks.length<=1000 then a0 (.JE (ks++[r])) else b5
  |_,_=>b5
 |.lst xs=>match x with
  |.int i=>(LZ xs.length i).map λj=>.lst (xs.set j u)
  |_=>b5
 |_=>b5
abbrev uH:List U->U->Option U
 |[u,x]=>dZ x u
 |_=>λ_=>b5
abbrev fuel:Nat:=1000000000000
mutual
noncomputable def Rb:S->Nat->Bool
 |.set i _,j=>cK (j≠i)
 |.Kl is _,j=>cK (j∉is)
 |.ite _ a b,j=>KA a j&&KA b j
 |.IF _ is _ _ body,j=>cK (j∉is)&&KA body j
 |.MC _ body,j=>KA body j
 |.put _ _ _,_=>b6
 |.app _ _,_=>b6
 |.ext _ _,_=>b6
 |.bad,_=>b6
 |.newD i,j=>cK (j≠i)
 |.putD _ _ _,_=>b6
 |.J' _ _ _,_=>b6
 |.aug _ _ _ _,_=>b6
 |.Q_ _,_=>b6
 |.exp _,_=>b6
 |.ret _,_=>b6
 |.KW _ _,_=>b6
 |.MQ,_=>b6
 |.brk,_=>b6
 |.cnt,_=>b6
 |.Ra,_=>b6
 |.inc i _,j=>cK (j≠i)
noncomputable def KA:List S->Nat->Bool
 |[],_=>b6
 |s::ss,j=>Rb s j&&KA ss j
end
abbrev uI(rs:List (Kd×U))(is:List Nat)(body:List S):Bool:=rs.all λr=>match r.1 with
 |.bor j=>cK (j∉is)&&KA body j
 |_=>b6
mutual
noncomputable def exec:S->M Fl
 |.set i e=>do let r <-ev Γ e;dJ i r;pure .nx
 |.Kl is e=>do let r <-ev Γ e;dB b6 is r;pure .nx
 |.put i k v=>do
  let r <-ev Γ v
  let _ <-dM i
  let x <-ev Γ k
  let us <-dA [r,x]
  modS i (uH us)
  pure .nx
 |.app i e=>do
  let x <-dM i
  OM x.2
  let r <-ev Γ e
  let u <-lift r
  modS i (yr u)
  pure .nx
 |.ext i e=>do
  let x <-dM i
  OM x.2
  let r <-ev Γ e
  modS i (lN r)
  pure .nx
 |.bad=>M.fail
 |.newD i=>do CF i;pure .nx
 |.putD i k v=>do
  let r <-ev Γ v
  let d <-gM i
  let x <-ev Γ k
  let y <-iS x
  lL i y r
  pure .nx
 |.J' i k v=>do
  let _ <-gM i
  let x <-ev Γ k
  let y <-iS x
  let d <-gM i
  if y∈d.1 then do
   let r <-ev Γ v
   let u <-lift r
   lM i y u
   pure .nx
  else M.fail
 |.aug sub i k v=>do
  let _ <-qV i
  let y <-ev Γ k
  let j <-pE y
  let us <-qV i
  let o <-M.IQ (qW us j)
  let z <-ev Γ v
  let w <-pE z
  modS i (dZ (.int j) (.int (wD sub o w)))
  pure .nx
 |.Q_ i=>do
  modS i HW
  pure .nx
 |.exp e=>do let _ <-ev Γ e;pure .nx
 |.ret e=>do let r <-ev Γ e;retS r
 |.KW i e=>do
  let d <-qU i
  let us <-bN 2 b6 (pure b6) (ev Γ e) [] (pD d) []
  retS (.own,.lst us)
 |.MQ=>pure (.rt .loc .Iy)
 |.ite c a b=>do let p <-IU Γ c;if p=b6 then execs a else execs b
 |.IF t is ik src body=>do
  let rs <-cf Γ src
  aO rs
  let xs <-M.IQ (JX ik rs)
  if uI rs is body=b6 then forM t is (execs body) rs xs else M.fail
 |.MC c body=>fO (IU Γ c) (execs body) fuel
 |.brk=>pure .bk
 |.cnt=>pure .ct
 |.Ra=>pure .nx
 |.inc i n=>dM i >>= λr=>pE r >>= λm=>dJ i (.loc,.int (m+n)) >>= λ_=>pure .nx
noncomputable def execs:List S->M Fl
 |[]=>pure .nx
 |s::ss=>do
  let f <-exec s
  match f with
  |.nx=>execs ss
  |f=>pure f
end
end
structure Fn where
 name:Str
 np:Nat
 ns:Nat
 body:List S
abbrev start(us:List U)(n:Nat):aA:=us.map (λu=>a0 (if IY u=b6 then Kd.loc else Kd.any,u))++nz (n - us.length) b5
abbrev bT(Γ:Tab)(fn:Fn)(us:List U):Option (Ex (Kd×U)):=if us.length=fn.np then match execs Γ fn.body (start us fn.ns) with
  |some (.ok (.rt .own u),_)=>a0 (.ok (.own,u))
  |some (.ok (.rt .loc u),_)=>a0 (.ok (.loc,u))
  |some (.ok (.rt .any u),_)=>a0 (.ok (.any,u))
  |some (.ok .nx,_)=>a0 (.ok (.loc,.Iy))
  |some (.exc c,_)=>a0 (.exc c)
  |_=>b5
 else b5
abbrev Io(P:List Fn):Nat->Tab
 |0=>λ_ _=>b5
 |d+1=>λf us=>match P.find? λfn=>cK (fn.name=f) with
  |some fn=>bT (Io P d) fn us
  |none=>b5
end TM
namespace TM
open PySem L2
section
variable{X:Cx}{pins:List (i5×Obj)}{σ:St}{H:Hp}{s:gj}{C:Ct}{S:i5->Prop}
def uJ(I:Inv X pins σ H s)(h:Je X.K H a vs):∃b:List ez,Vals vs b/\s.heap.IsList a b.toArray/\vs.length<=dV:=by
 have⟨b,r,p,z⟩:=I.list h;show⟨b,r,p.isList,z⟩
inductive Jm(s:gj):Nat->U->ez->Prop where
 |Iy {n:Nat}:Jm s n .Iy .none
 |bl {n:Nat} {b:Bool}:Jm s n (.bl b) (.bool b)
 |int {n:Nat} {i:Int} {t:Tok}:Jm s n (.int i) (.int i t)
 |str {n:Nat} {y:Str} {t:Tok}:Jm s n (.str y) (.str y t)
 |tup {n:Nat} {us:List U} {B':List ez} {a:i5}:us.length=B'.length->(∀j (hj:j<B'.length),Jm s n (us.getD j .Iy) B'[j])->cP us us=b6->s.heap.IsTuple a B'.toArray->Jm s (n+1) (.tup us) (.ref a)
 |lst {n:Nat} {us:List U} {B':List ez} {a:i5}:us.length=B'.length->(∀j (hj:j<B'.length),Jm s n (us.getD j .Iy) B'[j])->cP us us=b6->s.heap.IsList a B'.toArray->Jm s (n+1) (.lst us) (.ref a)
def Jm.self(h:Jm s n u x):cz u u=b6:=by
 cases h<;>first|assumption|simp[cz]
theorem Jm.wF(f:∀u v x,JL n u=b6->Rep C S H u v->RelV v x->Jm s n u x):∀{us:List U}{vs:List V}{a:List ez},cy n us=b6->ao C S H us vs->Vals vs a->us.length=a.length/\(∀j (b:j<a.length),Jm s n (us.getD j .Iy) a[j])/\cP us us=b6
 |[],_,_,_,h,r=>by cases h;cases r;show⟨rfl,λj b=>(nomatch b),rfl⟩
 |u::us,_,_,e,h,r=>by
  have⟨v,vs,rfl,c,g⟩:=h;simp only[cy,eh]at e;cases r with
  |cons d i =>
   have⟨l,k,y⟩:=Jm.wF f e.2 g i;show⟨by simp[l],λj b=>?_,by rw[cP,(f _ _ _ e.1 c d).self,y];rfl⟩;cases j with
   |zero=>show f _ _ _ e.1 c d
   |succ j=>show k j (by simpa using b)
def Jm.of(I:Inv X pins σ H s)(d:C.K=X.K):∀(n:Nat) (u:U) (v:V) (x:ez),JL n u=b6->Rep C S H u v->RelV v x->Jm s n u x:=by
 intro n;induction n with
 |zero=>intro u v x e h r;cases u<;>first|(simp[JL]at e;done)|(simp only[Rep]at h;subst h;first|(cases r;constructor)|(have⟨t,rfl⟩:=r;constructor))
 |succ n f =>
  intro u v x e h r;cases u with
  |tup us =>
   have⟨a,vs,rfl,b,c⟩:=h;cases r;obtain⟨g,rv,p,_⟩:=I.tuple (d▸b);have⟨l,k,y⟩:=Jm.wF f (by simpa[JL] using e) c rv;show .tup l k y p
  |lst us =>
   have⟨a,vs,rfl,b,c⟩:=h;cases r;obtain⟨g,rv,p,_⟩:=uJ I (d▸b.sq);have⟨l,k,y⟩:=Jm.wF f (by simpa[JL] using e) c rv;show .lst l k y p
  |_=>first|(simp[JL]at e;done)|(simp only[Rep]at h;subst h;first|(cases r;constructor)|(have⟨t,rfl⟩:=r;constructor))
def Jm.inj:∀{n:Nat}{u w:U}{x:ez},Jm s n u x->Jm s n w x->u=w:=by
 intro n;induction n with
 |zero=>intro u w x h h';cases h<;>cases h'<;>rfl
 |succ n r =>
  have go:∀{us ws:List U} {c its':List ez} {a:i5} {o o':Obj} {m i:Nat},us.length=c.length->(∀j (t:j<c.length),Jm s n (us.getD j .Iy) c[j])->ws.length=its'.length->(∀j (t:j<its'.length),Jm s n (ws.getD j .Iy) its'[j])->s.heap.get? a=a0 o->o.data=.seq c.toArray m->s.heap.get? a=a0 o'->o'.data=.seq its'.toArray i->us=ws:=by
   intro us ws c its' a o o' m i l k f k' e d g d';rw[e]at g;cases g;rw[d]at d';injection d' with v _
   have:c=its':=by simpa using ŝ Zn v
   subst this;show NR ⋯ λj z A=>?_;have:=r (k j ⋯) (k' j ⋯);simpa[z,A] using this
  intro u w x h h';cases h with
  |tup l k y p =>
   cases h' with
   |tup f k' q b=>obtain⟨o,e,_,m,d⟩:=p;obtain⟨o',g,_,i,d'⟩:=b;rw[go l k f k' e d g d']
   |lst f k' q b=>show absurd rfl (Zg b p)
  |lst l k y p =>
   cases h' with
   |lst f k' q b=>obtain⟨o,e,_,m,d⟩:=p;obtain⟨o',g,_,i,d'⟩:=b;rw[go l k f k' e d g d']
   |tup f k' q b=>show absurd rfl (Zg p b)
  |_=>cases h';rfl
theorem jw:∀{us ws:List U},us.length≠ws.length->cP us ws=cb
 |[],[],h=>absurd rfl h
 |[],_::_,_=>rfl
 |_::_,[],_=>rfl
 |u::us,w::ws,h=>by
  rw[cP,jw (us:=us) (ws:=ws) (λe=>h (by simp[e])),Va]
theorem f9:∀{us ws:List U},us.length=ws.length->cP us ws=(hA us.length).all λj=>cz (us.getD j .Iy) (ws.getD j .Iy)
 |[],[],_=>rfl
 |[],_::_,h=>by simp at h
 |_::_,[],h=>by simp at h
 |u::us,w::ws,h=>by
  have h':us.length=ws.length:=by simpa using h
  rw[cP,f9 h',mh,List.range_succ_eq_map,Ğ,Se];rfl
def F4{a its':List ez}(c:us.length=a.length)(d:ws.length=its'.length):cP us ws=((hA (min a.toArray.size its'.toArray.size)).all (λj=>cz (us.getD j .Iy) (ws.getD j .Iy))&&a.toArray.size==its'.toArray.size):=by
 simp only[ki];by_cases b:us.length=ws.length
 .rw[f9 b,show min a.length its'.length=us.length by lia,show(a.length==its'.length)=b6 by simp;lia,Zc]
 .rw[jw b,show(a.length==its'.length)=cb by simp;lia,Va]
def uK(b:Jm s n u y)(h:Ç A s y x k)(hs:y=x->k=b6):TR A s y x k:=λprog w E Q a=>by
 unfold eqBool;show uk ?_;show wpAny_ite_split (λc=>?_) (λ_=>?_)
 .rw[hs (Û c)]at a;show bD (L5 (cL a))
 .cases b<;>show bD (h prog w E _ (Kr a))
def TF(r:∀m,m+1=n->∀{u w:U}{x f:ez}{A:NU},Jm s m u x->Jm s m w f->A.units+m<Ki->TR A s x f (cz u w))(h:Jm s n u x)(h':Jm s n w f)(v:A.units+n<Ki):Ç A s x f (cz u w)/\Ę A s x f (!cz u w):=by
 have a:A.units<Ki:=by lia
 have go:∀{m:Nat} {us ws:List U} {g its':List ez},m+1=n->(∀j (t:j<g.length),Jm s m (us.getD j .Iy) g[j])->(∀j (t:j<its'.length),Jm s m (ws.getD j .Iy) its'[j])->∀j (i:j<g.toArray.size) (o:j<its'.toArray.size),TR A.in1 s g.toArray[j] its'.toArray[j] (cz (us.getD j .Iy) (ws.getD j .Iy)):=λ{m us ws g its'} e k k' j i o=>r m e (k j i) (k' j o) (by change A.units+1+m < _;lia);cases h with
 |Iy =>
  cases h' with
  |Iy=>show⟨.none_none,.none_none⟩
  |bl=>show⟨.none_bool _,.none_bool _⟩
  |int=>show⟨.none_int _ _,.none_int _ _⟩
  |str=>show⟨.none_str _ _,.none_str _ _⟩
  |tup c k' d b=>show⟨.none_tuple b a,.none_tuple b a⟩
  |lst c k' d b=>show⟨.none_list b a,.none_list b a⟩
 |bl =>
  cases h' with
  |Iy=>show⟨.bool_none _,.bool_none _⟩
  |bl=>show⟨.bool_bool _ _,.bool_bool _ _⟩
  |int=>show⟨.bool_int _ _ _,.bool_int _ _ _⟩
  |str=>show⟨.bool_str _ _ _,.bool_str _ _ _⟩
  |tup c k' d b=>show⟨.bool_tuple _ b a,.bool_tuple _ b a⟩
  |lst c k' d b=>show⟨.bool_list _ b a,.bool_list _ b a⟩
 |int =>
  cases h' with
  |Iy=>show⟨.int_none _ _,.int_none _ _⟩
  |bl=>show⟨.int_bool _ _ _,.int_bool _ _ _⟩
  |int=>show⟨.int_int _ _ _ _,.int_int _ _ _ _⟩
  |str=>show⟨.int_str _ _ _ _,.int_str _ _ _ _⟩
  |tup c k' d b=>show⟨.int_tuple _ _ b a,.int_tuple _ _ b a⟩
  |lst c k' d b=>show⟨.int_list _ _ b a,.int_list _ _ b a⟩
 |str =>
  cases h' with
  |Iy=>show⟨.str_none _ _,.str_none _ _⟩
  |bl=>show⟨.str_bool _ _ _,.str_bool _ _ _⟩
  |int=>show⟨.str_int _ _ _ _,.str_int _ _ _ _⟩
  |str=>show⟨.str_str _ _ _ _,.str_str _ _ _ _⟩
  |tup c k' d b=>show⟨.str_tuple _ _ b a,.str_tuple _ _ b a⟩
  |lst c k' d b=>show⟨.str_list _ _ b a,.str_list _ _ b a⟩
 |tup l k y p =>
  cases h' with
  |Iy=>show⟨.tuple_none p a,.tuple_none p a⟩
  |bl=>show⟨.tuple_bool _ p a,.tuple_bool _ p a⟩
  |int=>show⟨.tuple_int _ _ p a,.tuple_int _ _ p a⟩
  |str=>show⟨.tuple_str _ _ p a,.tuple_str _ _ p a⟩
  |tup c k' d b=>rw[show cz (.tup _) (.tup _)=_ from F4 l c];show⟨.tuples p b a (go rfl k k'),.tuples p b a (go rfl k k')⟩
  |lst c k' d b=>show⟨.tuple_list p b a,.tuple_list p b a⟩
 |lst l k y p =>
  cases h' with
  |Iy=>show⟨.list_none p a,.list_none p a⟩
  |bl=>show⟨.list_bool _ p a,.list_bool _ p a⟩
  |int=>show⟨.list_int _ _ p a,.list_int _ _ p a⟩
  |str=>show⟨.list_str _ _ p a,.list_str _ _ p a⟩
  |tup c k' d b=>show⟨.list_tuple p b a,.list_tuple p b a⟩
  |lst c k' d b =>
   rename_i us _ _ ws _ _;by_cases q:us.length=ws.length
   .rw[show cz (.lst us) (.lst ws)=_ from f9 q,l,<-ki];show⟨.lists p b (by simp;lia) a (go rfl k k'),.lists p b (by simp;lia) a (go rfl k k')⟩
   .rw[show cz (.lst us) (.lst ws)=cb from jw q];show⟨.lists_lengths p b (by simp;lia) a,.lists_lengths p b (by simp;lia) a⟩
def F5:∀{n:Nat}{u w:U}{x a:ez}{A:NU},Jm s n u x->Jm s n w a->A.units+n<Ki->TR A s x a (cz u w):=by
 intro n;induction n with
 |zero=>intro u w x a A h h' b;show uK h (TF (λm e=>by cases e) h h' b).1 λe=>by subst e;rw[h.inj h'];show h'.self
 |succ n c=>intro u w x a A h h' b;show uK h (TF (λm e=>by cases e;show c) h h' b).1 λe=>by subst e;rw[h.inj h'];show h'.self
def F6(h:Jm s n u x)(h':Jm s n w a)(b:A.units+n<Ki):Ç A s x a (cz u w)/\Ę A s x a (!cz u w):=TF (λm e=>by cases e;show F5) h h' b
end
end TM
namespace TM
open PySem L2 PyProof.Rows
abbrev Iv(C:Ct)(m:M (Kd×U)):TE:=λσ H Q=>∃c0:Cf,c0.σ=σ/\c0.H=H/\Ok C c0/\W m c0.st λr st'=>∀c v,c.σ=σ->c.st=st'->Ok C c->Nx c0 c->aT C c0 c r.1 r.2 v->Q v c.H
abbrev JP(C:Ct)(m:M Bool):TT:=λσ H Q=>∃c0:Cf,c0.σ=σ/\c0.H=H/\Ok C c0/\W m c0.st λb st'=>∀c,c.σ=σ->c.st=st'->Ok C c->Nx c0 c->Q b c.H
def c6(C:Ct)(c0 c:Cf):List (Kd×U)->List V->Prop
 |[],vs=>vs=[]
 |r::rs,vs=>∃v t,vs=v::t/\fZ C c0 c r.1 r.2 v/\c6 C c0 c rs t/\(r.1=.own->∀(i:Nat) a b,rs[i]?=a0 a->t[i]?=a0 b->a.1=.own->b≠v)
abbrev JY(C:Ct)(m:M (List (Kd×U))):TA:=λσ H Q=>∃c0:Cf,c0.σ=σ/\c0.H=H/\Ok C c0/\W m c0.st λrs st'=>∀c vs,c.σ=σ->c.st=st'->Ok C c->Nx c0 c->c6 C c0 c rs vs->Q vs c.H
section
def PE.weak(h:PE X e t)(i:∀σ H Q,t' σ H Q->t σ H Q):PE X e t':=λa s σ H Q I q=>h a s σ H Q I (i σ H Q q)
def PT.weak(h:PT X e t)(i:∀σ H Q,t' σ H Q->t σ H Q):PT X e t':=λa s σ H Q I q=>h a s σ H Q I (i σ H Q q)
def cR{st:aA}:W (aO rs) st Q↔bq rs st/\Q () st:=by
 constructor
 .rintro⟨a,st',e,h⟩;unfold aO at e;split at e
  .cases e;show⟨by assumption,h⟩
  .cases e
 .rintro⟨b,c⟩;show⟨(),st,by unfold aO;rw[Ř b],c⟩
def gy{st:aA}:bq (r::rs) st↔bq [r] st/\bq rs st:=by
 have⟨k,u⟩:=r;cases k<;>simp[bq]
def fZ.t(h:fZ C c0 c k u v)(s:bq [(k,u)] c.st):aT C c0 c k u v:=by
 cases k with
 |bor j=>show⟨s.1,h⟩
 |_=>show h
structure P9(C:Ct)(c0 c:Cf)(x y:Kd×U)(vx vy:V):Prop where
 hσ:c.σ=c0.σ
 ok:Ok C c
 nx:Nx c0 c
 rx:aT C c0 c x.1 x.2 vx
 ry:aT C c0 c y.1 y.2 vy
 ne:x.1=.own->y.1=.own->vy≠vx
def pF(h:fZ C c0 c1 k u v)(h':fZ C c1 c k' u' b):k=.own->k'=.own->b≠v:=by
 rintro rfl rfl e;obtain⟨r,d,_,_,_,f⟩:=h;obtain⟨i,g,a,_⟩:=h';obtain⟨o,ho,_⟩:=f.some;subst d;rw[g]at e;cases e;rw[ho]at a;cases a
def two{k:Kd×U->Kd×U->M β}{m:β->aA->Prop}{f:ez->ez->Sem α}{Q':ez->ez->α->gj->Prop}(N:PE X a (Iv C O))(Q:PE X b (Iv C z))(I:Inv X d c0.σ c0.H s)(T:Ok C c0)
  (h:W (O >>= λx=>z >>= λy=>aO [x,y] >>= λ_=>k x y) c0.st m)
  (Y:∀x y c e i v u s2,P9 C c0 c x y e i->Inv X d c.σ c.H s2->RelV e v->RelV i u->W (k x y) c.st m->eH (kj X.prog X.w) X.A (f v u) (Q' v u) X.xe s2) :
  eH (kj X.prog X.w) X.A (KH a X.env) (λv s₁=>eH (kj X.prog X.w) X.A (KH b X.env) (λu s₂=>eH (kj X.prog X.w) X.A (f v u) (Q' v u) X.xe s₂) X.xe s₁) X.xe s:=by
 rw[ah]at h;show Iw (N d s c0.σ c0.H (λe B=>∃x c1,c1.H=B/\c1.σ=c0.σ/\Ok C c1/\Nx c0 c1/\aT C c0 c1 x.1 x.2 e/\W (z >>= λy=>aO [x,y] >>= λ_=>k x y) c1.st m) I ⟨c0,rfl,rfl,T,h.mono λx st1 n c1 e o e2 p q r=>⟨x,c1,rfl,o,p,q,r,by rw[e2];show n⟩⟩) ?_;rintro v s1 ⟨e,B,I1,rv,x,c1,rfl,o,p,q,r,n⟩;rw[ah]at n;show Iw (Q d s1 c0.σ c1.H (λi D=>∃y g,g.H=D/\P9 C c0 g x y e i/\W (k x y) g.st m) I1 ⟨c1,o,rfl,p,n.mono λy st2 j g i G e4 Ja J L=>?_⟩) ?_
 .rw[ah,cR]at j;subst e4;rw[gy]at j;show⟨y,g,rfl,⟨G,Ja,q.trans J,(r.w.on p J (G.trans o.symm)).t j.1.1,(L.from q),pF r.w L.w⟩,j.2⟩
 .rintro u s2 ⟨i,D,I2,ru,y,g,rfl,l,j⟩;have hs:g.σ=c0.σ:=l.hσ;show Y x y g e i v u s2 l (by rw[hs];show I2) rv ru j
structure Nj(C:Ct)(c0 c:Cf)(x:Kd×U)(vx:V):Prop where
 hσ:c.σ=c0.σ
 ok:Ok C c
 nx:Nx c0 c
 rx:aT C c0 c x.1 x.2 vx
def one{k:Kd×U->M β}{e:β->aA->Prop}{f:ez->Sem α}{Q':α->gj->Prop}(l:PE X a (Iv C m))(I:Inv X b c0.σ c0.H s)(n:Ok C c0)
  (h:W (m >>= λx=>k x) c0.st e)
  (o:∀x c d v s2,Nj C c0 c x d->Inv X b c.σ c.H s2->RelV d v->W (k x) c.st e->eH (kj X.prog X.w) X.A (f v) Q' X.xe s2) :
  eH (kj X.prog X.w) X.A (KH a X.env) (λv p=>eH (kj X.prog X.w) X.A (f v) Q' X.xe p) X.xe s:=by
 rw[ah]at h;show Iw (l b s c0.σ c0.H (λd i=>∃x c1,c1.H=i/\Nj C c0 c1 x d/\W (k x) c1.st e) I ⟨c0,rfl,rfl,n,h.mono λx st1 g c1 d q r t u y=>⟨x,c1,rfl,⟨q,t,u,y⟩,by rw[r];show g⟩⟩) ?_;rintro v s1 ⟨d,i,z,rv,x,c1,rfl,j,g⟩;show o x c1 d v s1 j (by rw[j.hσ];show z) rv g
abbrev cD(C:Ct)(c0:Cf)(Q:VK)(r:Kd×U)(st':aA):Prop:=∀c v,c.σ=c0.σ->c.st=st'->Ok C c->Nx c0 c->aT C c0 c r.1 r.2 v->Q v c.H
section
def cD.flat(h:cD C c0 Q (.loc,u) c.st)(a:c.σ=c0.σ)(b:Ok C c)(n:Nx c0 c)(r:Rep C c.S c.H u v):Q v c.H:=h c v a rfl b n r
def cD.list(h:cD C c0 Q (.own,.lst us) c.st)(a:c.σ=c0.σ)(b:Ok C c)(n:Nx c0 c)(r:ao C c.S c.H us vs)(p:i5)(d:c.H p=b5):Q (.ref p) (upd c.H p (.lst vs)):=by
 have⟨e,f,g⟩:=b.newList n d r;show h {c with H:=upd c.H p (.lst vs)} _ a rfl e f g
def cD.tup(h:cD C c0 Q (.loc,.tup us) c.st)(a:c.σ=c0.σ)(b:Ok C c)(n:Nx c0 c)(r:ao C c.S c.H us vs)(p:i5)(d:c.H p=b5):Q (.ref p) (upd c.H p (.tup vs)):=by
 have⟨e,f,g⟩:=b.DZ n d r;show h {c with H:=upd c.H p (.tup vs)} _ a rfl e f g
def cD.tupK(h:cD C c0 Q (kE k,.tup us) c.st)(d:c.σ=c0.σ)(a:Ok C c)(n:Nx c0 c)(r:ao C (SK C c k) c.H us vs)(p:i5)(e:c.H p=b5):Q (.ref p) (upd c.H p (.tup vs)):=by
 have⟨f,b⟩:=a.lay (o:=.tup vs) e;show h {c with H:=upd c.H p (.tup vs)} _ d rfl f (n.trans b) (aT.item ?_);cases k<;>show⟨p,vs,rfl,IX.of aI,by first|show r.mv (a.MA b)|show r.mv (a.mv b)⟩
def d0(h:fy k us=b6)(r:ao C (SK C c k) c.H us vs):ao C c.S c.H us vs:=by
 cases k with
 |any=>show r.IY (by simpa[fy,isAny] using h)
 |_=>show r
end
def yt(k k':Kd):∀a,SK C c k a->SK C c (kT k k') a:=by
 intro a h;cases k<;>cases k'<;>first|show h|show .inr h
def uL(k k':Kd):∀a,SK C c k' a->SK C c (kT k k') a:=by
 intro a h;cases k<;>cases k'<;>first|show h|show .inr h
def CG(k k':Kd):kE (kT k k')=kT k k':=by cases k<;>cases k'<;>rfl
def A_:J0 X (PZ .Add) (λx y H Q=>∃l b xs c,x=.ref l/\y=.ref b/\Je X.K H l xs/\Je X.K H b c/\xs.length+c.length<=dV/\∀p,H p=b5->Q (.ref p) (upd H p (.lst (xs++c)))):=by
 intro f s σ H x y v u Q I o t h;have⟨l,b,xs,c,rfl,rfl,w,A,hz,q⟩:=h;cases o;cases t;have⟨d,r,B,z⟩:=I.list w;have⟨e,g,C,O⟩:=I.list A;have hl:=r.length;have Lm:=g.length;obtain⟨⟨cls,dd,data,D⟩,ho,i,n,j⟩:=B.isList;obtain⟨⟨T,G,data2,J⟩,k,m,L,a⟩:=C.isList;simp only at i j m a;subst i j m a;show X2 ⟨_,ho,rfl⟩ ⟨_,k,rfl⟩ noFill_list_add seq_list_add PySem.F.slot_list_add PySem.F.entry_list_add (PySem.F.args_list_add_2 _ _)
   (list_addW l b d.toArray e.toArray n L dd G D J (by rw[ki,ki];lia)) ⟨ho,k,?_⟩
 have N:d.toArray++e.toArray=(d++e).toArray:=by simp
 rw[N];show⟨.ref _,_,I.HK (t':=s.toks) (r.append g) (by rw[i4];lia),rfl,q _ I.fresh⟩
end
section
variable{X:Cx}{C:Ct}{pins:List (i5×Obj)}{s:gj}{c0 c:Cf}{Q:VK}
def yu:J0 X (PZ .Add) (λx y H Q=>∃a b ys,x=.ref a/\y=.ref b/\IX X.K H a []/\IX X.K H b ys/\Q (.ref b) H):=by
 intro pins s σ H x y v u Q I j k h;have⟨a,b,ys,rfl,rfl,l,m,q⟩:=h;cases j;cases k;obtain⟨B,o,p,_⟩:=I.tuple l;obtain⟨r,D,p2,_⟩:=I.tuple m;cases o;obtain⟨⟨cls,dd,data,t⟩,ho,e,n,f⟩:=id p;obtain⟨⟨G,w,data2,z⟩,g,i,A,d⟩:=id p2;simp only at e f i d;subst e f i d;show X2 ⟨_,ho,rfl⟩ ⟨_,g,rfl⟩ YV Å PySem.F.slot_tuple_add PySem.F.entry_tuple_add (PySem.F.args_tuple_add_2 _ _)
   (tuple_addW0 a b _ r.toArray n A dd w t z (by rfl)) ⟨ho,g,.ref b,H,I,rfl,q⟩
abbrev Q9.op:Q9->ü
 |.add=>.Add|.sub=>.Sub|.mul=>.Mult|.KS=>.FloorDiv|.mod=>.Mod|.pow=>.Pow
def eT(h:sR f a b=a0 r):∃i j o,a=.int i/\b=.int j/\f i j=a0 o/\r=(.loc,.int o):=by
 unfold sR at h;split at h
 .rw[hZ]at h;have⟨o,e,rfl⟩:=h;show⟨_,_,o,rfl,rfl,e,rfl⟩
 .cases h
def Eb(T:C.K=X.K)(t:P9 C c0 c x y g l)(I:Inv X pins c.σ c.H s)(z:RelV g v)(B:RelV l u)(h:Kg op x y=a0 r)(q:cD C c0 Q r c.st):
  eH (kj X.prog X.w) X.A (PZ op.op v u) (EP X pins c.σ Q) X.xe s:=by
 obtain⟨m,d,n,D,G,_⟩:=t;cases op with
 |add =>
  have h:wy x y=a0 r:=h;unfold wy at h;split at h
  .have ex:=D.int d;have e:=G.int d;cases h;show hJ pins s c.σ c.H g l v u Q I z B ⟨_,_,ex,e,q.flat m d n rfl⟩
  .have ex:=D.str d;have e:=G.str d;split at h
   .cases h;show sk pins s c.σ c.H g l v u Q I z B ⟨_,_,ex,e,by assumption,q.flat m d n rfl⟩
   .cases h
  .have⟨a,vs,ex,N,J⟩:=D.list d;have⟨b,ws,e,O,L⟩:=G.list d;split at h
   .rename_i hh;cases h;show A_ pins s c.σ c.H g l v u Q I z B ⟨a,b,vs,ws,ex,e,T▸N,T▸O,by rw[<-J.len,<-L.len];show hh.1,λp Y=>q.list m d n ((d0 hh.2.1 J).append (d0 hh.2.2 L)) p Y⟩
   .cases h
  .rename_i k xs k' ys _ _;have⟨a,vs,ex,N,J⟩:=D.tuple d;have⟨b,ws,e,O,L⟩:=G.tuple d;have Ls:=N;have Ox:=O;rw[T]at Ls Ox;split at h
   .rename_i hh;cases h;have m1:ao C (SK C c (kT k k')) c.H xs vs:=J.mv (.up (yt k k'));have m2:ao C (SK C c (kT k k')) c.H ys ws:=L.mv (.up (uL k k'));have q':cD C c0 Q (kE (kT k k'),.tup (xs++ys)) c.st:=by rw[CG];show q
    by_cases e1:vs=[]
    .subst e1;show yu pins s c.σ c.H g l v u Q I z B ⟨a,b,ws,ex,e,Ls,Ox,?_⟩;show q' c (.ref b) m rfl d n (aT.item ⟨b,ws,rfl,O,?_⟩);have:xs=[]:=by have:=m1.len;simpa using this
     rw[this];show m2
    .show AD pins s c.σ c.H g l v u Q I z B ⟨a,b,vs,ws,ex,e,Ls,Ox,e1,by rw[<-J.len,<-L.len];show hh,λe2=>?_,λ_ p Y=>q'.tupK m d n (m1.append m2) p Y⟩;subst e2;show q' c (.ref a) m rfl d n (aT.item ⟨a,vs,rfl,N,?_⟩);have:ys=[]:=by have:=m2.len;simpa using this
     rw[this,sx];show m1
   .cases h
  .cases h
 |sub =>
  have⟨i,j,o,ex,e,f,rfl⟩:=eT h;have ex:=(ex▸D).int d;have e:=(e▸G).int d;cases f;show fj pins s c.σ c.H g l v u Q I z B ⟨_,_,ex,e,q.flat m d n rfl⟩
 |mul =>
  have⟨i,j,o,ex,e,f,rfl⟩:=eT h;have ex:=(ex▸D).int d;have e:=(e▸G).int d;unfold A3 at f;split at f
  .cases f;show oH pins s c.σ c.H g l v u Q I z B ⟨_,_,ex,e,by assumption,q.flat m d n rfl⟩
  .cases f
 |KS =>
  have⟨i,j,o,ex,e,f,rfl⟩:=eT h;have ex:=(ex▸D).int d;have e:=(e▸G).int d;unfold A4 at f;split at f
  .cases f;show Au pins s c.σ c.H g l v u Q I z B ⟨_,_,ex,e,by assumption,q.flat m d n rfl⟩
  .cases f
 |mod =>
  have⟨i,j,o,ex,e,f,rfl⟩:=eT h;have ex:=(ex▸D).int d;have e:=(e▸G).int d;unfold A5 at f;split at f
  .cases f;show cZ pins s c.σ c.H g l v u Q I z B ⟨_,_,ex,e,by assumption,q.flat m d n rfl⟩
  .cases f
 |pow =>
  have⟨i,j,o,ex,e,f,rfl⟩:=eT h;have ex:=(ex▸D).int d;have e:=(e▸G).int d;unfold A6 at f;split at f
  .cases f;show oI pins s c.σ c.H g l v u Q I z B ⟨_,_,ex,e,by assumption,q.flat m d n rfl⟩
  .cases f
def Ba(d:C.K=X.K)(f:PE X a (Iv C g))(i:PE X b (Iv C j)):PE X (.BinOp a op.op b pos) (Iv C (g >>= λx=>j >>= λy=>aO [x,y] >>= λ_=>M.IQ (Kg op x y))):=by
 rintro pins s σ H Q I ⟨c0,rfl,rfl,k,h⟩;show wpAny_BinOp (two f i I k h λx y c o p v u s2 t l m n w=>?_);have⟨r,e,q⟩:=cw.mp w;show Iw (Eb d t l m n e q) λ_ _ z=>by rw[t.hσ]at z;show z
abbrev P7.op:P7->CmpOp
 |.eq=>.Eq|.ne=>.NotEq|.lt=>.Lt|.le=>.LtE|.gt=>.Gt|.ge=>.GtE|.isin=>.In|.Im=>.NotIn|.is=>.Is|.J9=>.IsNot
def F7{neg:Bool}(I:Inv X pins c.σ c.H s)(i:C.K=X.K)(L:X.A.units+60<Ki){S:i5->Prop}(n:Rep C S c.H x m)(o:RelV m v)(r:ao C S c.H ys vs)
  (ha:Je C.K c.H a vs\/IX C.K c.H a vs) (t:JL 50 x=b6) (u:cy 50 ys=b6) {Q:ez->gj->Prop} (q:Q (.bool (if neg then !(ys.any λy=>cz y x) else ys.any λy=>cz y x)) s) :
  eH (kj X.prog X.w) X.A (MO (if neg then .NotIn else .In) v (.ref a)) Q X.xe s:=by
 have z:=Jm.of I i 50 x m v t n o;have go:∀d:List ez,Vals vs d->∃e:ez->Bool,(∀y,y∈d.toArray->TR X.A.in1 s y v (e y))/\d.toArray.any e=ys.any λy=>cz y x:=by
  intro d rv;obtain⟨l,k,_⟩:=Jm.wF (Jm.of I i 50) u r rv
  classical
  have q:∀j (b:j<d.length),cK (∃w,Jm s 50 w d[j]/\cz w x=b6)=cz (ys.getD j .Iy) x:=λj b=>by
   rw[JM,decide_eq_true_iff];show⟨λ⟨w,f,g⟩=>by rw[<-f.inj (k j b)];show g,λh=>⟨_,k j b,h⟩⟩
  show⟨λy=>cK (∃w,Jm s 50 w y/\cz w x=b6),λy B=>?_,?_⟩
  .have⟨j,b,e⟩:=R9 (show y∈d by simpa using B);subst e;change TR _ _ _ _ (decide _);rw[q j b];show F5 (k j b) z (by change X.A.units+1+50 < _;lia)
  .rw[JM];simp only[List.any_toArray,W4];constructor
   .rintro⟨y,D,h⟩;have⟨j,b,rfl⟩:=R9 D;rw[q j b]at h;show⟨_,NI (l▸b),by simpa[l▸b] using h⟩
   .rintro⟨w,G,J⟩;have⟨j,b,rfl⟩:=R9 G;show⟨_,NI (l▸b),by rw[q j (l▸b)];simpa[b] using J⟩
 rcases ha with ha|ha
 .obtain⟨d,rv,p,_⟩:=uJ I (i▸ha);have⟨e,f,g⟩:=go d rv;cases neg with
  |false=>show SeqAt.in_listAt e p f (by rw[g];show q)
  |true=>show SeqAt.notIn_listAt e p f (by rw[g];show q)
 .rw[i]at ha;obtain⟨d,rv,p,_⟩:=I.tuple ha;have⟨e,f,g⟩:=go d rv;cases neg with
  |false=>show SeqAt.in_tupleAt e p f (by rw[g];show q)
  |true=>show SeqAt.notIn_tupleAt e p f (by rw[g];show q)
end
section
theorem cA:∀{us:List U}{ss:List Str},strsOf us=a0 ss->us=ss.map .str
 |[],ss,h=>by cases h;rfl
 |.str x::us,ss,h=>by
  simp only[strsOf,hZ]at h;have⟨t,a,rfl⟩:=h;rw[cA a];rfl
 |.Iy::_,_,h=>by cases h
 |.bl _::_,_,h=>by cases h
 |.int _::_,_,h=>by cases h
 |.tup _::_,_,h=>by cases h
 |.lst _::_,_,h=>by cases h
 |.Ip _ _::_,_,h=>by cases h
 |.JE _::_,_,h=>by cases h
theorem jS:∀{us:List U}{ns:List Int},intsOf us=a0 ns->us=ns.map .int
 |[],ns,h=>by cases h;rfl
 |u::us,ns,h=>by
  cases u<;>first|(cases h;done)|skip
  rename_i x;have h':(intsOf us).map (x::·)=a0 ns:=h;rw[hZ]at h';have⟨ms,e,rfl⟩:=h';rw[jS e];rfl
theorem ao.ints{S:i5->Prop}:∀{ns:List Int}{vs:List V},ao C S H (ns.map .int) vs->vs=ns.map V.int
 |[],vs,h=>h
 |n::ns,vs,h=>by
  have⟨v,r,rfl,a,b⟩:=h;rw[ao.ints b];have:v=.int n:=a;rw[this];rfl
theorem ir:∀{us:List U}{ss:List Bool},f7 us=a0 ss->us=ss.map .bl
 |[],ss,h=>by cases h;rfl
 |.bl x::us,ss,h=>by
  simp only[f7,hZ]at h;have⟨t,a,rfl⟩:=h;rw[ir a];rfl
 |.Iy::_,_,h=>by cases h
 |.str _::_,_,h=>by cases h
 |.int _::_,_,h=>by cases h
 |.tup _::_,_,h=>by cases h
 |.lst _::_,_,h=>by cases h
 |.Ip _ _::_,_,h=>by cases h
 |.JE _::_,_,h=>by cases h
theorem ao.TH{S:i5->Prop}:∀{xs:List Bool}{vs:List V},ao C S H (xs.map .bl) vs->vs=xs.map V.bl
 |[],vs,h=>h
 |x::xs,vs,h=>by
  have⟨v,r,rfl,a,b⟩:=h;rw[ao.TH b];have:v=.bl x:=a;rw[this];rfl
abbrev F8(r:mN):U:=.tup [.str r.1,.tup (r.2.map .str)]
def lO(h:rowOf u=a0 r):u=F8 r:=by
 unfold rowOf at h;split at h
 .rw[hZ]at h;have⟨ss,a,rfl⟩:=h;rw[cA a];rfl
 .cases h
abbrev Ec(X:Cx)(a:List (i5×Obj))(c:Cf)(b:Bool)(v:ez)(s':gj):Prop:=v=.bool b/\Inv X a c.σ c.H s'
def dN(o:J0 X f r)(I:Inv X a c.σ c.H s)(g:RelV d v)(i:RelV e u)(h:r d e c.H λx H'=>x=.bl b/\H'=c.H):
  eH (kj X.prog X.w) X.A (f v u) (Ec X a c b) X.xe s :=
 Iw (o a s c.σ c.H d e v u _ I g i h) λw s' j=>by
  have⟨z,H',k,r,l,m⟩:=j;subst l m;show⟨r,k⟩
def aT.dict(g:Ok C c)(h:aT C c0 c k (.Ip ks us) v):∃a kvs,v=.ref a/\c.H a=a0 (.dK kvs)/\kvs.map (·.1)=ks.map p6/\ao C (SK C c k) c.H us (kvs.map (·.2)):=by
 cases k with
 |own=>obtain⟨r,e,_,_,_,kvs,b,d,f⟩:=h;show⟨r,kvs,e,b,d,f⟩
 |bor j=>obtain⟨r,e,_,_,_,kvs,b,d,f⟩:=g.rootOf h.1 h.2;show⟨r,kvs,e,b,d,f⟩
 |io=>show h.elim
 |F'=>show h.elim
 |_=>obtain⟨a,e,_,kvs,b,d,f⟩:=h;show⟨a,kvs,e,b,d,f⟩
def aT.uG(b:Ok C c)(h:aT C c0 c k (.JE ks) v):∃a,v=.ref a/\fH C.P C.w C.K c.H a ks:=by
 cases k with
 |own=>obtain⟨r,e,_,_,_,h⟩:=h;show⟨r,e,h⟩
 |bor j=>obtain⟨r,e,_,_,_,h⟩:=b.rootOf h.1 h.2;show⟨r,e,h⟩
 |io=>show h.elim
 |F'=>show h.elim
 |_=>obtain⟨a,e,_,h⟩:=h;show⟨a,e,h⟩
theorem dR{S:i5->Prop}:∀{ks:List Str}{us:List U}{kvs:List (Key×V)},kvs.map (·.1)=ks.map p6->ao C S H us (kvs.map (·.2)) ->
  (∀u,dI ks us x=a0 u->∃v,dG kvs (p6 x)=a0 v/\Rep C S H u v)/\(dG kvs (p6 x)).isSome=cK (x∈ks)
 |[],us,kvs,a,b=>by
  have:kvs=[]:=by simpa using a
  subst this;show⟨λu h=>by cases us<;>simp[dI]at h,by simp[dG]⟩
 |k::ks,us,[],a,b=>by simp at a
 |k::ks,[],p::kvs,a,b=>by simp[ao]at b
 |k::ks,j::us,p::kvs,a,b=>by
  have⟨v,r,e,d,f⟩:=b;rw[gi]at e;cases e;rw[gi,gi,NV]at a;have⟨g,i⟩:=dR (x:=x) a.2 f;by_cases hk:k=x
  .subst hk;show⟨λu h=>?_,?_⟩
   .simp[dI]at h;subst h;show⟨p.2,eM a.1,d⟩
   .rw[eM a.1];simp
  .have c:¬p.1=p6 x:=by rw[a.1];intro z;show hk (Wk z)
   show⟨λu h=>?_,?_⟩
   .simp[dI,hk]at h;have⟨v,e,q⟩:=g u h;show⟨v,by rw[eN c];show e,q⟩
   .rw[eN c,i];simp[vu hk]
def Ed(e:X.A.units+3<Ki):J0 X (MO .In) (λx y H Q=>∃k d ks,fS X.K H x k/\y=.ref d/\fH X.prog X.w X.K H d ks/\Q (.bl (cK (k∈ks))) H):=by
 intro c s σ H x y v u Q I f g h;obtain⟨k,d,ks,⟨a,b,rfl,i,j⟩,rfl,⟨xs,l,m,n⟩,q⟩:=h;cases f;cases g;have⟨o,dd⟩:=lp I l n;show wpAny_in_heap e (ku I ⟨a,b,rfl,i,j⟩) o dd ?_;show⟨.bl (cK (k∈ks)),H,I.tok _,by rw[h_,m];rfl,q⟩
def Rep.row{S:i5->Prop}(h:Rep C S H (F8 r) v):fS C.K H v r:=by
 have⟨a,vs,e,d,f,p,g,i,q,s,j,k,l⟩:=h;cases l;have m:f=.str r.1:=i;have⟨b,ws,n,o,c⟩:=k;rw[ao.strs]at c;subst g j m n c;show⟨a,b,e,d,o⟩
def Rep.nM{S:i5->Prop}(h:Rep C S H u v):cK (v=.Iy)=nM u:=by
 cases u with
 |Iy=>have:v=.Iy:=h;subst this;rfl
 |bl b=>have:v=.bl b:=h;subst this;rfl
 |int b=>have:v=.int b:=h;subst this;rfl
 |str b=>have:v=.str b:=h;subst this;rfl
 |Ip ks us=>obtain⟨a,rfl,_⟩:=h;rfl
 |JE ks=>obtain⟨a,rfl,_⟩:=h;rfl
 |_=>obtain⟨a,vs,rfl,_⟩:=h;rfl
def yw:J0 X (MO .Is) (λx y H Q=>∃i j,x=.bl i/\y=.bl j/\Q (.bl (i==j)) H):=by
 intro a s σ H x y v u Q I b c h;have⟨i,j,rfl,rfl,q⟩:=h;cases b;cases c;cases i<;>cases j<;>show cL (oJ I q rfl)
def sU:J0 X (MO .IsNot) (λx y H Q=>∃i j,x=.bl i/\y=.bl j/\Q (.bl (!(i==j))) H):=by
 intro a s σ H x y v u Q I b c h;have⟨i,j,rfl,rfl,q⟩:=h;cases b;cases c;cases i<;>cases j<;>show cL (oJ I q rfl)
def yx(T:C.P=X.prog)(Y:C.w=X.w)(o:C.K=X.K)(L:X.A.units+60<Ki)(t:P9 C c0 c x y N vy)(I:Inv X m c.σ c.H s)(f:RelV N v)(g:RelV vy u)(h:bw op x.2 y.2=a0 b):
  eH (kj X.prog X.w) X.A (MO op.op v u) (Ec X m c b) X.xe s:=by
 obtain⟨hσ,d,n,j,i,_⟩:=t;have⟨kx,ux⟩:=x;have⟨ky,uy⟩:=y
 dsimp only at h j i
 have D:∀neg:Bool,∀q,wz ux uy=a0 q->eH (kj X.prog X.w) X.A (MO (if neg then .NotIn else .In) v u) (Ec X m c (if neg then !q else q)) X.xe s:=by
  intro neg q h;have G:=j.read d;have O:=i.read d;unfold wz at h;split at h
  .have⟨a,vs,rfl,l,p⟩:=O;cases g;unfold MR at h;split at h
   .rename_i hh;cases h;show F7 I o L G f p (.inl l.sq) hh.1 hh.2 ⟨by cases neg<;>rfl,I⟩
   .cases h
  .have⟨a,vs,rfl,l,p⟩:=O;cases g;unfold MR at h;split at h
   .rename_i hh;cases h;show F7 I o L G f p (.inr l) hh.1 hh.2 ⟨by cases neg<;>rfl,I⟩
   .cases h
  .cases h;have ex:N=_:=G;have⟨a,kvs,rfl,l,p,B⟩:=i.dict d;cases g;subst ex;have hs:=λz:Str=>(dR (x:=z) p B).2;cases neg with
   |false=>show FZ ⋯ I (eI.k (k:=p6 _) l) f λs' J=>⟨by rw[hs];rfl,J⟩
   |true=>show uf ⋯ I (eI.k (k:=p6 _) l) f λs' J=>⟨by rw[hs];rfl,J⟩
  .rw[hZ]at h;have⟨r,l,p⟩:=h;have e:=lO l;subst e;have hr:=G.row;have⟨a,Q,B⟩:=i.uG d;rw[o]at hr B;rw[T,Y]at B;subst p;cases neg with
   |false=>show dN (Ed ⋯) I f g ⟨r,a,_,hr,Q,B,rfl,rfl⟩
   |true=>show dN (v8 ⋯) I f g ⟨r,a,_,hr,Q,B,rfl,rfl⟩
  .cases h
 unfold bw at h;split at h
 .split at h
  .rename_i hh;cases h;show(F6 (n:=50) (.of I o _ _ _ _ hh.1 (j.read d) f) (.of I o _ _ _ _ hh.2 (i.read d) g) ⋯).1 _ _ _ _ ⟨rfl,I⟩
  .cases h
 .split at h
  .rename_i hh;cases h;show(F6 (n:=50) (.of I o _ _ _ _ hh.1 (j.read d) f) (.of I o _ _ _ _ hh.2 (i.read d) g) ⋯).2 _ _ _ _ ⟨rfl,I⟩
  .cases h
 .cases h;show dN FK I f g ⟨_,_,j.int d,i.int d,rfl,rfl⟩
 .cases h;show dN FL I f g ⟨_,_,j.int d,i.int d,rfl,rfl⟩
 .cases h;show dN FN I f g ⟨_,_,j.int d,i.int d,rfl,rfl⟩
 .show D cb b h
 .rw[hZ]at h;have⟨q,l,rfl⟩:=h;show D b6 q l
 .cases h;have e:=i.Iy d;show dN Dy I f g ⟨e,by rw[(j.read d).nM],rfl⟩
 .cases h;have e:=i.Iy d;show dN Av I f g ⟨e,by rw[(j.read d).nM],rfl⟩
 .cases h;show dN yw I f g ⟨_,_,j.bl d,i.bl d,rfl,rfl⟩
 .cases h;show dN sU I f g ⟨_,_,j.bl d,i.bl d,rfl,rfl⟩
 .cases h
def Bb(f:C.P=X.prog)(g:C.w=X.w)(i:C.K=X.K)(j:X.A.units+60<Ki)(k:PE X a (Iv C l))(m:PE X b (Iv C n))(o:Py op.op b=cb):
  PE X (.Compare a [op.op] [b] pos) (Iv C (l >>= λx=>n >>= λy=>aO [x,y] >>= λ_=>M.IQ (bw op x.2 y.2) >>= λc=>pure (.loc,.bl c))):=by
 rintro d s σ H Q I ⟨c0,rfl,rfl,p,h⟩;show ň (two k m I p h λx y c N O v u s2 t B D G w=>?_) o;rw[ah]at w;have⟨r,e,q⟩:=cw.mp w;rw[aj]at q;show Iw (yx f g i j t B D G e) λz s' J=>?_;have⟨e,L⟩:=J;subst e;show⟨.bl r,c.H,by rw[<-t.hσ];show L,rfl,q c (.bl r) t.hσ rfl t.ok t.nx rfl⟩
def Bc(g:C.P=X.prog)(i:C.w=X.w)(j:C.K=X.K)(k:X.A.units+60<Ki)(l:PE X a (Iv C m))(n:PE X b (Iv C o))(p:Py op.op b=cb):
  PT X (.Compare a [op.op] [b] pos) (JP C (m >>= λx=>o >>= λy=>aO [x,y] >>= λ_=>M.IQ (bw op x.2 y.2))):=by
 rintro d s σ H Q I ⟨c0,rfl,rfl,B,h⟩;show î (two (f:=λv u=>MO op.op v u) (Q':=λ_ _ c s=>eH (kj X.prog X.w) X.A (ŉ c) (TP X d c0.σ Q) X.xe s) l n I B h λx y c O T v u s2 t D G J w=>?_) p;have⟨r,e,q⟩:=cw.mp w;show Iw (yx g i j k t D G J e) λz s' L=>?_;have⟨e,N⟩:=L;subst e;show Kr ⟨c.H,by rw[<-t.hσ];show N,q c t.hσ rfl t.ok t.nx⟩
end
section
abbrev F9(C:Ct)(c0:Cf)(Q:Bool->Hp->Prop)(b:Bool)(st':aA):Prop:=∀c,c.σ=c0.σ->c.st=st'->Ok C c->Nx c0 c->Q b c.H
def pG(a:c1.σ=c0.σ)(b:Ok C c1)(n:Nx c0 c1)(h:W m c1.st (cD C c0 Q)):Iv C m c0.σ c1.H Q :=
 ⟨c1,a,rfl,b,h.mono λr st c d v e f g i j=>c d v e f g (n.trans i) (j.from n)⟩
def yy(a:c1.σ=c0.σ)(b:Ok C c1)(n:Nx c0 c1)(h:W m c1.st (F9 C c0 Q)):JP C m c0.σ c1.H Q :=
 ⟨c1,a,rfl,b,h.mono λr st c d e f g i=>c d e f g (n.trans i)⟩
def aW(a:Ok C c0)(h:W (b >>= k) c0.st d)
  (hz:∀x c v,Nj C c0 c x v->W (k x) c.st d->Z v c.H):Iv C b c0.σ c0.H Z:=by
 rw[ah]at h;show⟨c0,rfl,rfl,a,h.mono λx st1 e c1 f g i j l m=>hz x c1 f ⟨g,j,l,m⟩ (by rw[i];show e)⟩
def eU(a:Ok C c0)(h:W (d >>= k) c0.st e)
  (hz:∀b c,c.σ=c0.σ->Ok C c->Nx c0 c->W (k b) c.st e->Z b c.H):JP C d c0.σ c0.H Z:=by
 rw[ah]at h;show⟨c0,rfl,rfl,a,h.mono λx st1 f c1 g i j l=>hz x c1 g j l (by rw[i];show f)⟩
abbrev F_(m:M (Kd×U))(x:Kd×U):M (Kd×U):=match x.2 with
 |.bl b6=>m
 |.bl cb=>pure (.loc,.bl cb)
 |_=>M.fail
abbrev VG(m:M (Kd×U))(x:Kd×U):M (Kd×U):=match x.2 with
 |.bl b6=>pure (.loc,.bl b6)
 |.bl cb=>m
 |_=>M.fail
abbrev Ga(x:Kd×U):M (Kd×U):=match x.2 with
 |.bl c=>pure (.loc,.bl !c)
 |_=>M.fail
def snd_and(i:PE X a (Iv C j))(l:PE X (.BoolOp .And (b::d) pos) (Iv C m)):PE X (.BoolOp .And (a::b::d) pos) (Iv C (j >>= F_ m)):=by
 show PE.weak (Dk i l) ?_;rintro σ H Q ⟨c0,rfl,rfl,o,h⟩;show aW o h λx c v t w=>?_;have⟨k,u⟩:=x;have⟨g,f,n,r⟩:=t;unfold F_ at w;split at w
 .rename_i e
  dsimp only at e r
  subst e;show⟨b6,r.bl f,by rw[Ř rfl];show pG g f n w⟩
 .rename_i e
  dsimp only at e r
  subst e;rw[aj]at w;show⟨cb,r.bl f,by rw[Ś oO];show w c (.bl cb) g rfl f n rfl⟩
 .show(bA.mp w).elim
def Ee(i:PE X a (Iv C j))(l:PE X (.BoolOp .Or (b::d) pos) (Iv C m)):PE X (.BoolOp .Or (a::b::d) pos) (Iv C (j >>= VG m)):=by
 show PE.weak (Fy i l) ?_;rintro σ H Q ⟨c0,rfl,rfl,o,h⟩;show aW o h λx c v t w=>?_;have⟨k,u⟩:=x;have⟨g,f,n,r⟩:=t;unfold VG at w;split at w
 .rename_i e
  dsimp only at e r
  subst e;rw[aj]at w;show⟨b6,r.bl f,by rw[Ř rfl];show w c (.bl b6) g rfl f n rfl⟩
 .rename_i e
  dsimp only at e r
  subst e;show⟨cb,r.bl f,by rw[Ś oO];show pG g f n w⟩
 .show(bA.mp w).elim
def Bd(d:PE X a (Iv C f)):PE X (.UnaryOp .Not a pos) (Iv C (f >>= Ga)):=by
 show PE.weak (Dl d) ?_;rintro σ H Q ⟨c0,rfl,rfl,g,h⟩;show aW g h λx c v t w=>?_;have⟨k,u⟩:=x;have⟨i,b,n,r⟩:=t;unfold Ga at w;split at w
 .rename_i e
  dsimp only at e r
  subst e;rw[aj]at w;show⟨_,r.bl b,w c (.bl _) i rfl b n rfl⟩
 .show(bA.mp w).elim
def Be(g:PT X d (JP C i))(j:PE X a (Iv C k))(l:PE X b (Iv C m)):PE X (.IfExp d a b pos) (Iv C (i >>= λp=>if p=b6 then k else m)):=by
 show PE.weak (xp g j l) ?_;rintro σ H Q ⟨c0,rfl,rfl,o,h⟩;show eU o h λp c e f n w=>?_;cases p with
 |true=>rw[Ř rfl]at w ⊢;show pG e f n w
 |false=>rw[Ś oO]at w ⊢;show pG e f n w
def Bg(d:PT X a (JP C e)):PT X (.UnaryOp .Not a pos) (JP C (e >>= λb=>pure !b)):=by
 show PT.weak (Dj d) ?_;rintro σ H Q ⟨c0,rfl,rfl,f,h⟩;show eU f h λp c g i n w=>?_;rw[aj]at w;show w c g rfl i n
def Bh(i:PT X a (JP C j))(k:PW X (.BoolOp .And (b::d) pos) (JP C l)):PW X (.BoolOp .And (a::b::d) pos) (JP C (j >>= λp=>if p=b6 then l else pure cb)):=by
 have m:=Di i k;rintro o e s σ H Q I ⟨c0,rfl,rfl,q,h⟩;show m o e s c0.σ c0.H Q I (eU q h λp c f g n w=>?_);cases p with
 |true=>rw[Ř rfl]at w ⊢;show yy f g n w
 |false=>rw[Ś oO]at w ⊢;rw[aj]at w;show w c f rfl g n
def Ef(i:PT X a (JP C j))(k:PW X (.BoolOp .Or (b::d) pos) (JP C l)):PW X (.BoolOp .Or (a::b::d) pos) (JP C (j >>= λp=>if p=b6 then pure b6 else l)):=by
 have m:=Fv i k;rintro o e s σ H Q I ⟨c0,rfl,rfl,q,h⟩;show m o e s c0.σ c0.H Q I (eU q h λp c f g n w=>?_);cases p with
 |true=>rw[Ř rfl]at w ⊢;rw[aj]at w;show w c f rfl g n
 |false=>rw[Ś oO]at w ⊢;show yy f g n w
def uM{us:List α}{vs:List β}(h:us.length=vs.length):(!us.isEmpty)=!vs.isEmpty:=by
 cases us<;>cases vs<;>simp_all
def kG(j:PE X a (Iv C l))(i:C.K=X.K)(m:∀b,isTrue a X.env b=(do let v <-b;Zo a.pos;N_ [v] (ŉ v))):PT X a (JP C (l >>= λx=>M.IQ (wC x.2))):=by
 show PT.weak (xD j m) ?_;rintro σ H Q ⟨c0,rfl,rfl,o,h⟩;show aW o h λx c v t w=>?_;have⟨k,u⟩:=x;have⟨s,d,n,r⟩:=t;have⟨p,e,q⟩:=cw.mp w
 dsimp only at e r
 show⟨p,?_,q c s rfl d n⟩;unfold wC at e;split at e
 .cases e;rw[r.bl d];rfl
 .cases e;have⟨a,vs,rfl,f,g⟩:=r.list d;show .inl ⟨vs,i▸f,uM g.len⟩
 .cases e;have⟨a,vs,rfl,f,g⟩:=r.tuple d;rw[i]at f;show .inr (.inl ⟨vs,f,uM g.len⟩)
 .split at e
  .cases e;rw[r.str d];show⟨by assumption,rfl⟩
  .cases e
 .cases e
end
section
def c6.from(n:Nx c0 c1):c6 C c1 c rs vs->c6 C c0 c rs vs:=by
 intro h;induction rs generalizing vs with
 |nil=>show h
 |cons r rs a=>have⟨v,t,e,b,d,f⟩:=h;show⟨v,t,e,b.from n,a d,f⟩
def c6.get{i:Nat}(h:c6 C c0 c rs vs)(e:rs[i]?=a0 r)(a:vs[i]?=a0 v):fZ C c0 c r.1 r.2 v:=by
 induction rs generalizing vs i with
 |nil=>simp at e
 |cons g rs b =>
  have⟨j,t,rfl,d,f,k⟩:=h;cases i with
  |zero=>simp at e a;subst e a;show d
  |succ i=>show b f (by simpa using e) (by simpa using a)
def Bi:PA X [] (JY C (pure [])):=by
 rintro pos a s σ H Q I ⟨c0,rfl,rfl,b,h⟩;rw[aj]at h;show kZ pos a s c0.σ c0.H Q I (h c0 [] rfl rfl b (Nx.refl c0) rfl)
def yz(g:PE X e (Iv C m))(hr:PA X es (JY C ms))(hs:mx (e::es) X.env=(cb,KH e X.env)::mx es X.env):PA X (e::es) (JY C (m >>= λr=>ms >>= λrs=>pure (r::rs))):=by
 rintro pos a s σ H Q I ⟨c0,rfl,rfl,j,h⟩;show gq g hr hs pos a s c0.σ c0.H Q I (aW j h λr c1 v t w=>?_);rw[ah]at w;show⟨c1,t.hσ,rfl,t.ok,w.mono λrs st2 b k vs c l n d f=>?_⟩;rw[aj]at b;show b k (v::vs) c l n (t.nx.trans d) ⟨v,vs,rfl,t.rx.w.on t.ok d (c.trans t.hσ.symm),f.from t.nx,λhk i u x o p q=>?_⟩;show pF t.rx.w (f.get o p) hk q
structure Lu(C:Ct)(c0 c:Cf)(rs:List (Kd×U))(vs:List V):Prop where
 hσ:c.σ=c0.σ
 ok:Ok C c
 nx:Nx c0 c
 rep:c6 C c0 c rs vs
 Nk:bq rs c.st
def args{k:List (Kd×U)->M β}{b:β->aA->Prop}(f:PA X es (JY C ms))(I:Inv X a c0.σ c0.H s)(g:Ok C c0)(h:W (ms >>= λrs=>aO rs >>= λ_=>k rs) c0.st b)(pos:Pos):
  eH (kj X.prog X.w) X.A (Ĥ (Ll pos (mx es X.env))) (λus s1=>∃rs c vs,Lu C c0 c rs vs/\Inv X a c.σ c.H s1/\Vals vs us/\W (k rs) c.st b) X.xe s:=by
 rw[ah]at h;show Iw (f pos a s c0.σ c0.H (λvs e=>∃rs c,c.H=e/\Lu C c0 c rs vs/\W (k rs) c.st b) I ⟨c0,rfl,rfl,g,h.mono λrs st1 d c1 vs i j l m n=>?_⟩) ?_
 .rw[ah,cR]at d;subst j;show⟨rs,c1,rfl,⟨i,l,m,n,d.1⟩,d.2⟩
 .rintro us s1 ⟨vs,e,o,rv,rs,c1,rfl,t,w⟩;show⟨rs,c1,vs,t,by rw[t.hσ];show o,rv,w⟩
def Lu.one(t:Lu C c0 c [r] vs):∃v,vs=[v]/\aT C c0 c r.1 r.2 v:=by
 obtain⟨v,t',rfl,a,b,_⟩:=t.rep;cases b;show⟨v,rfl,a.t t.Nk⟩
def Lu.two(t:Lu C c0 c [r,b] vs):∃v a,vs=[v,a]/\aT C c0 c r.1 r.2 v/\aT C c0 c b.1 b.2 a:=by
 obtain⟨v,t',rfl,d,⟨a,g,rfl,e,f,_⟩,_⟩:=t.rep;cases f;have hs:=gy.mp t.Nk;show⟨v,a,rfl,d.t hs.1,e.t hs.2⟩
def Ok.share(b:Ok C c)(g:C.H₀ r=b5)(h:∃o,c.H r=a0 o)(hl:st'.length=c.st.length)
  (d:∀(i:Nat) k u,st'[i]?=a0 (a0 (k,u))->(∃v,c.σ[i]?=a0 (a0 v)/\fY C (λa=>c.S a\/a=r) c.H k u v)/\(k.root=b6->c.st[i]?=a0 (a0 (k,u)))) (l:LG C {c with S:=λa=>c.S a\/a=r,st:=st' }) :
  Ok C {c with S:=λa=>c.S a\/a=r,st:=st' }:=by
 show⟨b.same,λa z=>?_,b.par,b.io,by rw[show({c with S:=λa=>c.S a\/a=r,st:=st' }:Cf).st.length=st'.length from rfl,hl];show b.len,λi k u e=>(d i k u e).1,λi j k k' u u' m hk f n p q s=>?_,l⟩
 .rcases z with z|rfl
  .show b.Ku a z
  .show⟨g,h⟩
 .show b.inj i j k k' u u' m hk f ((d i k u n).2 hk) ((d j k' u' p).2 f) q s
def Ok.Eg(p:Ok C c0)(b:Ok C c)(n:Nx c0 c)(d:c0.H r=b5)(f:¬c.R r)(hr:dY C c.S c.H r u):
  Ok C {c with S:=λa=>c.S a\/a=r}/\Nx c0 {c with S:=λa=>c.S a\/a=r}:=by
 obtain⟨o,ho,_⟩:=hr.some;show⟨b.share (st':=c.st) (p.lI d).1 ⟨o,ho⟩ rfl (λi k u e=>⟨?_,λ_=>e⟩) (b.dd.hs (.up λa=>.inl) λj a z=>⟨λq=>q.elim (b.root (.inr ⟨j,z⟩)).1 λe=>f (.inr ⟨j,e▸z⟩),λo q=>q⟩),⟨⟨n.keep,n.there,n.roots,λa z=>.inl (n.sub a z),λa z=>?_⟩,n.all⟩⟩
 .have⟨v,g,h⟩:=b.sl i k u e;have s:Mv c.S c.H (λa=>c.S a\/a=r) c.H:=.up λa=>.inl;show⟨v,g,h.mv s (.up λa z=>z.imp id .inl) λhk w l=>⟨?_,λo q=>q⟩⟩;obtain⟨x,m,t,_⟩:=h.rt hk;rw[l]at m;cases m;rintro(z|rfl)
  .show t z
  .show f (.inl ⟨i,k,u,hk,e,by rw[g,l]⟩)
 .rcases z with z|rfl
  .show n.new a z
  .show .inr (.inr d)
def Ok.yA(d:Ok C c)(n:Nx c0 c)(g:c.st[j]?=a0 (a0 (.own,u)))(h:c.σ[j]?=a0 (a0 (.ref r))):
  Ok C {c with S:=λa=>c.S a\/a=r,st:=c.st.set j (a0 (.loc,u))}/\Nx c0 {c with S:=λa=>c.S a\/a=r,st:=c.st.set j (a0 (.loc,u))}/\Rep C (λa=>c.S a\/a=r) c.H u (.ref r):=by
 have⟨T,f,l,m,Y,q2,D,x⟩:=d.sl j _ _ g;rw[h]at f;cases f;cases m;have y:Rep C (λa=>c.S a\/a=r) c.H u (.ref r):=x.rep (λa=>.inl) (.inr rfl);obtain⟨o,ho,_⟩:=x.some;have s:j<c.st.length:=(eW.mp g).1;have t:∀(i:Nat) k u',(c.st.set j (a0 (.loc,u)))[i]?=a0 (a0 (k,u'))->i≠j->c.st[i]?=a0 (a0 (k,u')):=λi k u' e G=>by rw[nH (vu G)]at e;show e
 have I:c.R1 r:=⟨j,.own,u,rfl,g,h⟩
 have A:∀(i:Nat) (u':U),(c.st.set j (a0 (.loc,u)))[i]?=a0 (a0 (.F',u'))->c.st[i]?=a0 (a0 (.F',u')):=λi u' e=>by
  by_cases b:i=j
  .subst b;rw[hU s]at e;cases e
  .show t i .F' u' e b
 have b1:∀a,({c with S:=λa=>c.S a\/a=r,st:=c.st.set j (a0 (.loc,u))}:Cf).R1 a->c.R1 a:=λa J=>by
  have⟨i,k,u',hk,e,L⟩:=J;by_cases b:i=j
  .subst b;rw[hU s]at e;cases e;cases hk
  .show⟨i,k,u',hk,t i k u' e b,L⟩
 have N:LG C {c with S:=λa=>c.S a\/a=r,st:=c.st.set j (a0 (.loc,u))}:=d.dd.of rfl (λi u' e=>⟨A i u' e,rfl⟩) (λa z=>.inl (b1 a z)) (.up λa=>.inl) λi a z=>⟨λq=>q.elim (d.root (.inr ⟨i,z⟩)).1 λe=>d.dd.d1 i a z (e▸I),λo q=>q⟩
 show⟨d.share (st':=c.st.set j (a0 (.loc,u))) D ⟨o,ho⟩ (by simp) (λi k u' e=>?_) N,⟨⟨n.keep,n.there,λa z=>?_,λa z=>.inl (n.sub a z),λa z=>?_⟩,n.all⟩,y⟩
 .by_cases b:i=j
  .subst b;rw[hU s]at e;cases e;show⟨⟨.ref r,h,y⟩,λz=>nomatch z⟩
  .have w:=t i k u' e b;have⟨v,f,p⟩:=d.sl i k u' w;show⟨⟨v,f,p.mv (.up λa=>.inl) (.up λa z=>z.imp id .inl) λhk l m=>⟨?_,λo q=>q⟩⟩,λ_=>w⟩;obtain⟨P_,B,O,_⟩:=p.rt hk;rw[m]at B;cases B;rintro(z|rfl)
   .show O z
   .show b (d.inj i j k .own u' u l hk rfl w g (by rw[f,m]) h)
 .rcases z with z|⟨i,u',l,f,p,Q⟩
  .show n.roots a (.inl (b1 a z))
  .show n.roots a (.inr ⟨i,u',l,A i u' f,p,Q⟩)
 .rcases z with z|rfl
  .show n.new a z
  .rcases n.roots a (.inl ⟨j,.own,u,rfl,g,h⟩) with z|z
   .show .inr (.inl z)
   .show .inr (.inr z)
def gz(y:Ok C c0)(b:Ok C c)(n:Nx c0 c)(hr:fZ C c0 c r.1 r.2 v)(h:W (lift r) c.st A):
  ∃(S':i5->Prop) (st':aA) (u:U),(∀a,c.S a->S' a)/\Ok C {c with S:=S',st:=st' }/\Nx c0 {c with S:=S',st:=st' }/\Rep C S' c.H u v/\A u st' /\
   (∀a,S' a->c.S a\/v=.ref a/\(r.1=.own\/c.R a))/\∀a,({c with S:=S',st:=st' }:Cf).R a->c.R a:=by
 have⟨k,u⟩:=r;cases k with
 |own =>
  rw[show lift (.own,u)=pure u from rfl,aj]at h;have⟨r,e,B,N,D,s⟩:=hr;have⟨g,l⟩:=Ok.Eg y b n B D s;show⟨_,c.st,u,λa=>.inl,g,l,by rw[e];show s.rep (λa=>.inl) (.inr rfl),h,λa z=>?_,λa z=>z⟩;rcases z with z|rfl
  .show .inl z
  .show .inr ⟨e,.inl rfl⟩
 |loc =>
  rw[show lift (.loc,u)=pure u from rfl,aj]at h;show⟨c.S,c.st,u,λa=>id,b,n,hr,h,λa z=>.inl z,λa z=>z⟩
 |any =>
  rw[show lift (.any,u)=if IY u=b6 then pure u else M.fail from rfl]at h;split at h
  .rw[aj]at h;show⟨c.S,c.st,u,λa=>id,b,n,Rep.IY (by assumption) hr,h,λa z=>.inl z,λa z=>z⟩
  .show(bA.mp h).elim
 |bor j =>
  have⟨x,st',e,G⟩:=h;rw[show lift (.bor j,u) c.st=match c.st[j]? with|some (a0 (.own,u))=>a0 (Ex.ok u,c.st.set j (a0 (.loc,u)))|_=>b5 from rfl]at e;split at e
  .rename_i w d;cases e;obtain⟨O,t,r,I,_⟩:=b.sl j _ _ d;have m:c.σ[j]?=a0 (a0 v):=hr;rw[m]at t;cases t;subst I;have⟨g,l,o⟩:=b.yA n d m;show⟨_,_,_,λa=>.inl,g,l,o,G,λa z=>?_,λa z=>?_⟩
   .rcases z with z|rfl
    .show .inl z
    .show .inr ⟨rfl,.inr (.inl ⟨j,.own,_,rfl,d,m⟩)⟩
   .rcases z with⟨i,k,u',hk,e,p⟩|⟨i,u',J,e,p,L⟩
    rotate_left 1
    .by_cases f:i=j
     .subst f;have q:i<c.st.length:=(eW.mp d).1;rw[hU q]at e;cases e
     .rw[nH (vu f)]at e;show .inr ⟨i,u',J,e,p,L⟩
    by_cases f:i=j
    .subst f;have q:i<c.st.length:=(eW.mp d).1;rw[hU q]at e;cases e;cases hk
    .rw[nH (vu f)]at e;show .inl ⟨i,k,u',hk,e,p⟩
  .cases e
 |_=>show hr.elim
theorem iT:∀{rs:List (Kd×U)}{vs:List V}{c:Cf}{f:List U->aA->Prop},Ok C c0->Ok C c->Nx c0 c->c6 C c0 c rs vs->W (dA rs) c.st f ->
  ∃(S':i5->Prop) (st':aA) (us:List U),(∀a,c.S a->S' a)/\Ok C {c with S:=S',st:=st' }/\Nx c0 {c with S:=S',st:=st' }/\ao C S' c.H us vs/\f us st'
 |[],vs,c,f,m,p,n,hr,h=>by
  rw[show dA []=pure [] from rfl,aj]at h;show⟨c.S,c.st,[],λa=>id,p,n,hr,h⟩
 |r::rs,vs,c,f,m,p,n,hr,h=>by
  have⟨v,t,rfl,J,L,N⟩:=hr;rw[show dA (r::rs)=lift r >>= λu=>dA rs >>= λus=>pure (u::us) from rfl,ah]at h;have⟨s,st1,u,s1,O,Q,b,x,T,Y⟩:=gz m p n J h;rw[ah]at x;have P':c6 C c0 {c with S:=s,st:=st1} rs t:=by
   clear h x;have y:∀(l:List (Kd×U)) (w:List V),c6 C c0 c l w->(r.1=.own->∀(i:Nat) g j,l[i]?=a0 g->w[i]?=a0 j->g.1=.own->j≠v)->c6 C c0 {c with S:=s,st:=st1} l w:=by
    intro l;induction l with
    |nil=>intro w q _;show q
    |cons r2 l ih =>
     intro w q A;have⟨B,D,rfl,k,q2,q3⟩:=q;show⟨B,D,rfl,?_,ih D q2 (λhk i g j e1 e2 JN=>A hk (i+1) g j (by simpa using e1) (by simpa using e2) JN),q3⟩;have⟨k2,u2⟩:=r2;cases k2 with
     |own =>
      have⟨a,e,p1,p2,G,p4⟩:=k;show⟨a,e,p1,λz=>?_,λz=>G (Y a z),p4.mv (.up s1) λo q=>q⟩;rcases T a z with z|⟨z,z'|z'⟩
      .show p2 z
      .show A z' 0 _ B rfl rfl rfl (e.trans z.symm)
      .show G z'
     |loc=>show Rep.mv (.up s1) k
     |any=>show Rep.mv (.up λa z=>z.imp id (s1 a)) k
     |_=>show k
   show y rs t L N
  have⟨S2,st2,us,s2,Ja,n2,d,I⟩:=iT (c:={c with S:=s,st:=st1}) m O Q P' x;rw[aj]at I;show⟨S2,st2,u::us,λa z=>s2 a (s1 a z),Ja,n2,⟨v,t,rfl,b.mv (.up s2),d⟩,I⟩
def Bj(j:PA X es (JY C ms)):PE X (.Tuple es p pos) (Iv C (ms >>= λrs=>aO rs >>= λ_=>dA rs >>= λus=>if us.length<=dV then pure (.loc,.tup us) else M.fail)):=by
 rintro a s σ H Q I ⟨c0,rfl,rfl,g,h⟩;show wpAny_Tuple_spliced (Iw (args j I g h pos) λus s1 k=>?_);have⟨rs,c,vs,t,i,rv,w⟩:=k;rw[ah]at w;have⟨S',st',ws,q,l,m,d,f⟩:=iT g t.ok t.nx t.rep w;split at f
 .rename_i hz;rw[aj]at f;have hl:vs.length<=dV:=by rw[<-d.len];show hz
  show⟨by rw[<-rv.length];show hl,?_⟩;have n:c.H s1.heap.objs.size=b5:=i.Ir.fresh (lg _);have o:Inv X a c0.σ c.H s1:=by rw[<-t.hσ];show i
  show⟨.ref s1.heap.objs.size,upd c.H s1.heap.objs.size (.tup vs),o.laid (t':=s1.toks) (λb u e=>dt _ e) (lg _) ⟨hl,us,rv,Y9 _ _⟩,rfl,?_⟩;show cD.tup (c:={c with S:=S',st:=st' }) f t.hσ l m d _ n
 .show(bA.mp f).elim
def Bk(j:PA X es (JY C ms)):PE X (.List es pos) (Iv C (ms >>= λrs=>aO rs >>= λ_=>dA rs >>= λus=>if us.length<=dV then pure (.own,.lst us) else M.fail)):=by
 rintro a s σ H Q I ⟨c0,rfl,rfl,g,h⟩;show wpAny_List_spliced (Iw (args j I g h pos) λus s1 k=>?_);have⟨rs,c,vs,t,i,rv,w⟩:=k;rw[ah]at w;have⟨S',st',ws,p,l,m,d,f⟩:=iT g t.ok t.nx t.rep w;split at f
 .rename_i hz;rw[aj]at f;have hl:vs.length<=dV:=by rw[<-d.len];show hz
  show⟨by rw[<-rv.length];show hl,?_⟩;have n:c.H s1.heap.objs.size=b5:=i.Ir.fresh (lg _);have o:Inv X a c0.σ c.H s1:=by rw[<-t.hσ];show i
  show⟨.ref s1.heap.objs.size,upd c.H s1.heap.objs.size (.lst vs),o.laid (t':=s1.toks) (λb u e=>dt _ e) (lg _) ⟨hl,us,0,rv,fx _ rfl⟩,rfl,?_⟩;show cD.list (c:={c with S:=S',st:=st' }) f t.hσ l m d _ n
 .show(bA.mp f).elim
end
section
def pH(d:X.N[i]?=a0 x)(f:Ko X.env.scope x)(g:(x==("__debug__":Str))=cb)(l:(x==("__classdict__":Str))=cb):PE X (.Name x pos) (Iv C (dM i)):=by
 show PE.weak (cT d f g l) ?_;rintro σ H Q ⟨c0,rfl,rfl,b,r,st',e,h⟩;unfold dM at e;split at e
 .cases e
 .rename_i k u m hs;cases e;have⟨v,c,a⟩:=b.sl i k u hs;show⟨v,c,h c0 v rfl rfl b (Nx.refl c0) ?_⟩;by_cases hk:k.root=b6
  .rw[Ř hk];show⟨⟨k,hk,hs⟩,c⟩
  .rw[Ś hk];cases k with
   |loc=>show a
   |any=>show a
   |bor j=>show a.elim
   |F'=>show(m rfl).elim
   |_=>show absurd rfl hk
 .cases e
def iU(h:PE X e (tC v))(r:∀S H,Rep C S H u v):PE X e (Iv C (pure (.loc,u))):=by
 show PE.weak h ?_;rintro σ H Q ⟨c0,rfl,rfl,a,h⟩;rw[aj]at h;show h c0 v rfl rfl a (Nx.refl c0) (r _ _)
def cD.root(h:cD C c0 Q (.own,u) c.st)(d:c.σ=c0.σ)(b:Ok C c)(n:Nx c0 c)(p:i5)(a:c.H p=b5)(r:dY C c.S (upd c.H p o) p u):Q (.ref p) (upd c.H p o):=by
 have⟨e,f⟩:=b.lay (o:=o) a;have⟨j,g,k,l,i⟩:=b.lI a;show h {c with H:=upd c.H p o} _ d rfl e (n.trans f) ⟨p,rfl,n.none a,g,i,r⟩
def yB(c:C.P=X.prog)(d:C.w=X.w)(r:Bool):PE X (.Dict [] [] pos) (Iv C (pure (.own,if r=b6 then .JE [] else .Ip [] []))):=by
 cases r with
 |false =>
  show PE.weak qy ?_;rintro σ H Q ⟨c0,rfl,rfl,a,h⟩ p b;rw[aj,Ś oO]at h;show cD.root h rfl a (Nx.refl c0) p b ⟨[],aI,rfl,rfl⟩
 |true =>
  show PE.weak AR ?_;rintro σ H Q ⟨c0,rfl,rfl,a,h⟩ p b;rw[aj,Ř rfl]at h;show cD.root h rfl a (Nx.refl c0) p b ⟨[],?_,rfl,λx e=>by cases e⟩;rw[c,d];show aI
def ao.Jb{S:i5->Prop}(h:ao C S H us vs)(e:Jb us i=a0 u):∃v,L2.Jb vs i=a0 v/\Rep C S H u v:=by
 unfold L2.Jb at e ⊢;rw[h.len]at e;cases q:LZ vs.length i with
 |none=>rw[q]at e;cases e
 |some j =>
  rw[q]at e;show h.get e
def Eh(L:C.K=X.K)(N:X.A.units+60<Ki)(hs:oQ b)(t:P9 C c0 c x y g j)(I:Inv X d c.σ c.H s)(o:RelV g v)(p:RelV j u)(h:ip x y.2=a0 r)(q:cD C c0 Q r c.st):
  eH (kj X.prog X.w) X.A (WY a b v u) (EP X d c.σ Q) X.xe s:=by
 obtain⟨z,f,n,B,l,-⟩:=t;have⟨O,T⟩:=y
 dsimp only at h l
 unfold ip at h;split at h
 .rename_i k xs i;rw[hZ]at h;have⟨w,e,rfl⟩:=h;have⟨a',vs,ex,m,D⟩:=B.list f;have⟨vw,G,J⟩:=D.Jb e;show AE a b d s c.σ c.H g j v u Q I o p ⟨a',vs,i,vw,ex,l.int f,L▸m,G,q c vw z rfl f n (aT.item J)⟩ (hs _ _)
 .rename_i k xs i;rw[hZ]at h;have⟨w,e,rfl⟩:=h;have⟨a',vs,ex,m,D⟩:=B.tuple f;have⟨vw,G,J⟩:=D.Jb e;rw[L]at m;show b9 a b d s c.σ c.H g j v u Q I o p ⟨a',vs,i,vw,ex,l.int f,m,G,q c vw z rfl f n (aT.item J)⟩ (hs _ _)
 .split at h
  .rw[hZ]at h;have⟨w,e,rfl⟩:=h;show k_ a b d s c.σ c.H g j v u Q I o p ⟨_,_,w,B.str f,l.int f,by assumption,e,q c _ z rfl f n rfl⟩ (hs _ _)
  .cases h
 .cases h
def Bl(f:C.K=X.K)(g:X.A.units+60<Ki)(hs:oQ b)(i:PE X a (Iv C j))(k:PE X b (Iv C l)):PE X (.Subscript a b pos) (Iv C (j >>= λx=>l >>= λy=>aO [x,y] >>= λ_=>M.IQ (ip x y.2))):=by
 rintro d s σ H Q I ⟨c0,rfl,rfl,m,h⟩;show Ĝ (two i k I m h λx y c B D v u s2 t n o p w=>?_);have⟨r,e,q⟩:=cw.mp w;show Iw (Eh f g hs t n o p e q) λ_ _ z=>by rw[t.hσ]at z;show z
def ao.cut{S:i5->Prop}(h:ao C S H us vs)(lo a:Option Int):ao C S H (TM.cut us lo a) (qv vs lo a):=by
 unfold TM.cut qv;rw[h.len];show(h.drop _).take _
def wG{lo a:Option Int}(h:HT.IG xs.length 0 lo=0/\HT.IG xs.length xs.length a=xs.length):cut xs lo a=xs:=by
 unfold cut;rw[h.1,h.2];simp
end
section
variable{prog:HP}{w:Km}{A:NU}{E:ez->gj->Prop}{s:gj}
def gN{lo c:Option Int}(b:Ă s.heap t a)(hs:s.heap.IsSliceOf d f g .none)(i:Wc f lo)(j:Wc g c)
  (e:HT.IG a.size 0 lo=0/\HT.IG a.size a.size c=a.size) (h:Q (.ref t) s):eH (kj prog w) A (Tj (.ref t) (.ref d)) Q E s:=by
 have⟨os,k,l,o⟩:=id hs;have m:s.TypeIs (.ref d) "slice":=⟨os,k,l⟩
 unfold Tj
 try with_reducible show uk ?_
 first|show bD (cL ?_)|skip
 show bD (ġ b.typeIs (by decide) ?_);show bD (JS (name:=Og "__getitem__") b.typeIs y3
  (va y3 b.typeIs ċ ?_ (ě _ _)))
 change eH _ _ (Rn (.ref t) >>= _) _ _ s;show bD (tupleItemsOf_ b ?_);show bD (Tf m ?_);rw[Ř (by decide)];show bD (HT.eL hs i j ?_);have n:(((HT.IG a.size 0 lo:Nat):Int)==0&&(1:Int)==1&&(HT.IG a.size a.size c - HT.IG a.size 0 lo)==a.size)=b6:=by
  rw[e.1,e.2];simp
 change eH _ _ (if (((HT.IG a.size 0 lo:Nat):Int)==0&&(1:Int)==1&&(HT.IG a.size a.size c - HT.IG a.size 0 lo)==a.size)=b6 then _ else _) _ _ s;rw[Ř n];change eH (kj prog w) A.in1 ((Ĕ (mA t) >>= λx=>pure (x==.type "tuple")) >>= _) _ _ s;show bD (bD (Tf b.typeIs (cL ?_)));rw[Ř (by decide)];show bD (L5 (cL ⟨_,rfl,cL h⟩))
end
section
variable{X:Cx}{C:Ct}{pins:List (i5×Obj)}{s:gj}{c0 c c1:Cf}
variable{a b d e:p8}{es:List p8}{m ma mb md:M (Kd×U)}{ms:M (List (Kd×U))}{ta tb:M Bool}{pos p p2:Pos}
def Bm:Mr X (λx lo g H Q=>∃a xs,x=.ref a/\IX X.K H a xs/\(HT.IG xs.length 0 lo=0/\HT.IG xs.length xs.length g=xs.length)/\Q (.ref a) H):=by
 intro pins s σ H x v u w lo g y Q I j hs k l h;have⟨a,xs,rfl,n,o,q⟩:=h;cases j;have⟨t,r,i,hz⟩:=I.tuple n;have f:t.toArray.size=xs.length:=by rw[ki];show r.length.symm
 show⟨"tuple",_,y3.lookup,i.typeIs,gN i hs k l (by rw[f];show o) ⟨.ref a,H,I,rfl,q⟩⟩
abbrev tO(C:Ct)(m:M (Option Int)):TO:=λσ H Q=>∃c0:Cf,c0.σ=σ/\c0.H=H/\Ok C c0/\W m c0.st λi st'=>∀c,c.σ=σ->c.st=st'->Ok C c->Nx c0 c->Q i c.H
def wH:PO X b5 (tO C (pure b5)):=by
 rintro pins s σ H Q I ⟨c0,rfl,rfl,f,h⟩;rw[aj]at h;show AA pins s c0.σ c0.H Q I (h c0 rfl rfl f (Nx.refl c0))
def wI(f:PE X a (Iv C ma)):PO X (a0 a) (tO C (ma >>= D_)):=by
 rintro pins s σ H Q I ⟨c0,rfl,rfl,g,h⟩;show AB f pins s c0.σ c0.H Q I (aW g h λx c v t w=>?_);have⟨k,u⟩:=x;unfold D_ at w;split at w
 .rename_i i e
  dsimp only at e
  subst e;rw[aj]at w;show⟨i,t.rx.int t.ok,w c t.hσ rfl t.ok t.nx⟩
 .show(bA.mp w).elim
def Ei{lo f:Option Int}(w:C.K=X.K)(j:c.σ=c0.σ)(g:Ok C c)(n:Nx c0 c)(o:aT C c0 c x.1 x.2 k)(h:mS x lo f=a0 r)(q:cD C c0 Q r c.st):
  ((FW X.K k lo f c.H Q\/FT X.K k lo f c.H Q)\/(∃a xs,k=.ref a/\IX X.K c.H a xs/\(HT.IG xs.length 0 lo=0/\HT.IG xs.length xs.length f=xs.length)/\Q (.ref a) c.H))\/F2 k lo f c.H Q:=by
 unfold mS at h;split at h
 .split at h
  .rename_i hh;cases h;have⟨a',vs,ex,l,i⟩:=o.list g;show .inl (.inl (.inl ⟨a',vs,ex,w▸l,λp t=>q.list j g n ((d0 hh i).cut lo f) p t⟩))
  .cases h
 .cases h;have⟨a',vs,ex,l,i⟩:=o.tuple g;have u:=l;rw[w]at u;by_cases v:HT.IG vs.length 0 lo=0/\HT.IG vs.length vs.length f=vs.length
  .show .inl (.inr ⟨a',vs,ex,u,v,?_⟩);show q c (.ref a') j rfl g n (aT.item ⟨a',vs,rfl,l,?_⟩);rw[wG (by rw[i.len];show v)];show i
  .show .inl (.inl (.inr ⟨a',vs,ex,u,v,λp t=>q.tupK j g n (i.cut lo f) p t⟩))
 .split at h
  .cases h;show .inr ⟨_,o.str g,by assumption,q.flat j g n rfl⟩
  .cases h
 .cases h
def Bn{lo g:Option p8}(n:C.K=X.K)(o:PE X a (Iv C ma))(hl:PO X lo (tO C ml))(hh:PO X g (tO C u)):
  PE X (.Subscript a (.Slice lo g b5 p2) pos) (Iv C (ma >>= λx=>ml >>= λl=>u >>= λh=>aO [x] >>= λ_=>M.IQ (mS x l h))):=by
 show PE.weak (xG (((Mr.or AF DB).or Bm).or DP) o hl hh) ?_;rintro σ H Q ⟨c0,rfl,rfl,y,h⟩;show aW y h λx c v t w=>?_;rw[ah]at w;show⟨c,t.hσ,rfl,t.ok,w.mono λl st2 i z A B D G=>?_⟩;subst B;rw[ah]at i;show⟨z,A,rfl,D,i.mono λO st3 f I j J L N=>?_⟩;subst J;rw[ah,cR]at f;have⟨r,e,q⟩:=cw.mp f.2;have k:Nx c I:=G.trans N;show Ei n j L (t.nx.trans k) ((t.rx.w.on t.ok k (j.trans t.hσ.symm)).t f.1) e q
end
section
variable{X:Cx}{C:Ct}{pins:List (i5×Obj)}{s:gj}{c0 c c1:Cf}
variable{a b d e:p8}{es:List p8}{m ma mb md:M (Kd×U)}{ms:M (List (Kd×U))}{ta tb:M Bool}{pos p p2:Pos}
abbrev Bf.val:Bf->ez
 |.len=>.builtin "len"|.sorted=>.builtin "sorted"|.repr=>.builtin "repr"|.max=>.builtin "max"|.min=>.builtin "min"|.all=>.builtin "all"|.any=>.builtin "any"
 |.list=>.type "list"|.tuple=>.type "tuple"|.str=>.type "str"|.int=>.type "int"
abbrev Bf.name:Bf->Str
 |.len=>"len"|.sorted=>"sorted"|.repr=>"repr"|.max=>"max"|.min=>"min"|.all=>"all"|.any=>"any"
 |.list=>"list"|.tuple=>"tuple"|.str=>"str"|.int=>"int"
def call_of(g:gQ X f r)(I:Inv X pins c.σ c.H s)(rv:Vals vs us)(h:r vs c.H Q):eH (kj X.prog X.w) X.A (Qz f us) (EP X pins c.σ Q) X.xe s:=g pins s c.σ c.H vs us Q I rv h
def bV(h:iq f rs=a0 r):∃x,rs=[x]/\f x=a0 r:=by
 unfold iq at h;split at h
 .show⟨_,rfl,h⟩
 .cases h
def CH(D:X.calm=b6)(z:C.K=X.K)(N:X.A.guards=a0 [])(O:X.A.units+60<Ki)(t:Lu C c0 c rs vs)(I:Inv X pins c.σ c.H s)(rv:Vals vs us)(h:JW f rs=a0 r)(q:cD C c0 Q r c.st):
  eH (kj X.prog X.w) X.A (Qz f.val us) (EP X pins c.σ Q) X.xe s:=by
 have o:=t.hσ;have g:=t.ok;have n:=t.nx;cases f with
 |len =>
  have⟨x,rfl,hz⟩:=bV (f:=λx=>(D0 x.2).map λ(n:Nat)=>(Kd.loc,U.int (n:Int))) h;clear h;have h:=hz;clear hz;rw[hZ]at h;have⟨k,e,rfl⟩:=h;have⟨v,rfl,l⟩:=t.one;have⟨T,G⟩:=x;unfold D0 at e;split at e
  .rename_i xs u;have u:G=.lst xs:=u;subst u;cases e;have⟨a',ws,ex,i,j⟩:=l.list g;rw[j.len]at q;show call_of iE I rv ⟨a',ws,by rw[ex],.inl (z▸i),q.flat o g n rfl⟩
  .rename_i xs u;have u:G=.tup xs:=u;subst u;cases e;have⟨a',ws,ex,i,j⟩:=l.tuple g;rw[z]at i;rw[j.len]at q;show call_of iE I rv ⟨a',ws,by rw[ex],.inr i,q.flat o g n rfl⟩
  .rename_i xs u;have u:G=.str xs:=u;subst u;split at e
   .cases e;show call_of oU I rv ⟨_,by rw[l.str g],by assumption,q.flat o g n rfl⟩
   .cases e
  .cases e
 |sorted =>
  have⟨x,rfl,hz⟩:=bV (f:=D3) h;clear h;have h:=hz;clear hz;have⟨v,rfl,l⟩:=t.one;unfold D3 at h;split at h
  .rw[ve]at h;have⟨ss,e,h⟩:=h;have B:=cA e;subst B;have⟨a',ws,ex,i,j⟩:=l.list g;rw[ao.strs]at j;subst j;split at h
   .cases h;show call_of jP I rv ⟨a',ss,by rw[ex],.inl (z▸i),by assumption,λp y=>q.list o g n (ao.strs.mpr rfl) p y⟩
   .cases h
  .obtain⟨a',kvs,ex,i,j,_⟩:=l.dict g;split at h
   .cases h;show call_of (ju D) I rv ⟨a',kvs,_,by rw[ex],i,j,by assumption,λp y=>q.list o g n (ao.strs.mpr rfl) p y⟩
   .cases h
  .rw[ve]at h;have⟨ss,e,h⟩:=h;have B:=cA e;subst B;have⟨a',ws,ex,i,j⟩:=l.tuple g;rw[z]at i;rw[ao.strs]at j;subst j;split at h
   .cases h;show call_of jP I rv ⟨a',ss,by rw[ex],.inr i,by assumption,λp y=>q.list o g n (ao.strs.mpr rfl) p y⟩
   .cases h
  .cases h
 |list =>
  have⟨x,rfl,hz⟩:=bV (f:=D4) h;clear h;have h:=hz;clear hz;have⟨v,rfl,l⟩:=t.one;unfold D4 at h;split at h
  .have⟨a',ws,ex,i,j⟩:=l.list g;split at h
   .cases h;show call_of iF I rv ⟨a',ws,by rw[ex],.inl (z▸i),λp y=>q.list o g n (d0 (by assumption) j) p y⟩
   .cases h
  .have⟨a',ws,ex,i,j⟩:=l.tuple g;rw[z]at i;split at h
   .cases h;show call_of iF I rv ⟨a',ws,by rw[ex],.inr i,λp y=>q.list o g n (d0 (by assumption) j) p y⟩
   .cases h
  .cases h
 |tuple =>
  have⟨x,rfl,hz⟩:=bV (f:=D5) h;clear h;have h:=hz;clear hz;have⟨v,rfl,l⟩:=t.one;unfold D5 at h;split at h
  .have⟨a',ws,ex,i,j⟩:=l.list g;cases h;show call_of gR I rv ⟨a',ws,by rw[ex],.inl ⟨z▸i,λp y=>q.tupK o g n j p y⟩⟩
  .have⟨a',ws,ex,i,j⟩:=l.tuple g;have L:=i;rw[z]at L;cases h;show call_of gR I rv ⟨a',ws,by rw[ex],.inr ⟨L,q c (.ref a') o rfl g n (aT.item ⟨a',ws,rfl,i,j⟩)⟩⟩
  .cases h
 |str =>
  have⟨x,rfl,hz⟩:=bV (f:=A7) h;clear h;have h:=hz;clear hz;have⟨v,rfl,l⟩:=t.one;unfold A7 at h;split at h
  .split at h
   .cases h;show call_of oK I rv ⟨_,by rw[l.int g],by assumption,q.flat o g n rfl⟩
   .cases h
  .cases h
 |all =>
  have⟨x,rfl,hz⟩:=bV (f:=D6) h;clear h;have h:=hz;clear hz;have⟨v,rfl,l⟩:=t.one;unfold D6 at h;split at h
  .rw[hZ]at h;have⟨J,e,rfl⟩:=h;have B:=ir e;subst B;have⟨a',ws,ex,i,j⟩:=l.list g;have:=j.TH;subst this;show call_of (xV D) I rv ⟨a',J,by rw[ex],z▸i,q.flat o g n rfl⟩
  .cases h
 |any =>
  have⟨x,rfl,hz⟩:=bV (f:=D7) h;clear h;have h:=hz;clear hz;have⟨v,rfl,l⟩:=t.one;unfold D7 at h;split at h
  .rw[hZ]at h;have⟨J,e,rfl⟩:=h;have B:=ir e;subst B;have⟨a',ws,ex,i,j⟩:=l.list g;have:=j.TH;subst this;show call_of (yj D) I rv ⟨a',J,by rw[ex],z▸i,q.flat o g n rfl⟩
  .cases h
 |_=>cases h
def Bo{id:String}(g:X.calm=b6)(i:C.K=X.K)(j:X.A.guards=a0 [])(k:X.A.units+60<Ki)(l:f.val=.builtin id)(n:Gl X x)(o:X.mg x=b5)(u:IL x=a0 (.builtin id))(v:x≠"__name__")(y:(x==("__debug__":Str))=cb)
  (B:PA X (e::es) (JY C ms)) (D:mx (e::es) X.env=(cb,KH e X.env)::mx es X.env) (G:(Ll pos (mx es X.env)).any (·.1)=cb) :
  PE X (.Call (.Name x p) (e::es) [] pos) (Iv C (ms >>= λrs=>aO rs >>= λ_=>M.IQ (JW f rs))):=by
 rintro pins s σ H Q I ⟨c0,rfl,rfl,J,h⟩;show IC (dc I n o u ?_ v y);show U2 (Iw (args B I J h pos) λus s1 ⟨rs,c,vs,t,L,rv,w⟩=>?_) D G;have⟨r,e,q⟩:=cw.mp w;have z:=CH g i j k t L rv e q;rw[l,t.hσ]at z;show z
def Bp(g:X.calm=b6)(i:C.K=X.K)(j:X.A.guards=a0 [])(k:X.A.units+60<Ki)(l:f.val=.type T)(n:Gl X x)(o:X.mg x=b5)(u:IL x=a0 (.type T))(v:x≠"__name__")(y:(x==("__debug__":Str))=cb)
  (B:PA X (e::es) (JY C ms)) (D:mx (e::es) X.env=(cb,KH e X.env)::mx es X.env) (G:(Ll pos (mx es X.env)).any (·.1)=cb) :
  PE X (.Call (.Name x p) (e::es) [] pos) (Iv C (ms >>= λrs=>aO rs >>= λ_=>M.IQ (JW f rs))):=by
 rintro pins s σ H Q I ⟨c0,rfl,rfl,J,h⟩;show IC (dc I n o u ?_ v y);show LY (Iw (args B I J h pos) λus s1 ⟨rs,c,vs,t,L,rv,w⟩=>?_) D G;have⟨r,e,q⟩:=cw.mp w;have z:=CH g i j k t L rv e q;rw[l,t.hσ]at z;show z
abbrev Ky.name:Ky->Str
 |.str=>"str"|.list=>"list"|.tuple=>"tuple"|.int=>"int"|.bool=>"bool"
abbrev Ky.nm:Ky->String
 |.str=>"str"|.list=>"list"|.tuple=>"tuple"|.int=>"int"|.bool=>"bool"
def Bq(T:Ky):IL T.name=a0 (.type T.nm)/\T.name≠"__name__"/\(T.name==("__debug__":Str))=cb:=by
 cases T<;>show⟨by decide +kernel,by decide +kernel,by decide +kernel⟩
def iV(T:Ky):Ĕ (.type T.nm)=pure (.type "type"):=by cases T<;>kernel_rfl
def kC(T:Ky):R8 (.type "str") (.type T.nm)=pure (cK (T=.str)):=by cases T<;>(rw[Mm];kernel_rfl)
def sub_int(T:Ky):R8 (.type "int") (.type T.nm)=pure (cK (T=.int)):=by cases T<;>(rw[Mm];kernel_rfl)
def ne_str{T:Ky}(h:¬T=.str):(y2 "str"==y2 T.nm)=cb:=by cases T<;>first|show absurd rfl h|decide
def ne_int{T:Ky}(h:¬T=.int):(y2 "int"==y2 T.nm)=cb:=by cases T<;>first|show absurd rfl h|decide
def qY(T:Ky):R8 (.type "list") (.type T.nm)=pure (cK (T=.list)):=by cases T<;>(rw[Mm];kernel_rfl)
def uN(T:Ky):R8 (.type "tuple") (.type T.nm)=pure (cK (T=.tuple)):=by cases T<;>(rw[Mm];kernel_rfl)
def Br{T:Ky}(h:¬T=.list):(y2 "list"==y2 T.nm)=cb:=by cases T<;>first|show absurd rfl h|decide
def Ej{T:Ky}(h:¬T=.tuple):(y2 "tuple"==y2 T.nm)=cb:=by cases T<;>first|show absurd rfl h|decide
def Ek{b:Bool}(B:C.K=X.K)(t:Nj C c0 c x v)(I:Inv X pins c.σ c.H s)(rv:RelV v i)(h:qX x.2 T=a0 b)(q:∀l,Q (.bool b) {s with toks:=l}):
  eH (kj X.prog X.w) X.A (Qz (.builtin "isinstance") [i,.type T.nm]) Q X.xe s:=by
 have⟨k,u⟩:=x;have⟨Y,j,n,r⟩:=t;have G:Q (.bool b) s:=q s.toks
 dsimp only at h r
 have g:∀{D:String},b=b6->s.TypeIs i D->R8 (.type D) (.type T.nm)=pure b6->eH (kj X.prog X.w) X.A (Qz (.builtin "isinstance") [i,.type T.nm]) Q X.xe s:=λe J hs=>by
  subst e;show ņ J (iV T) hs G
 unfold qX at h;split at h
 .cases h;have e:v=_:=r.str j;subst e;have⟨l,rfl⟩:=rv;by_cases f:T=.str
  .subst f;show g (by simp) (TJ s _ l) (kC .str)
  .rw[ř f]at q;show VA (isinstance_false_str (ne_str f) (iV T) (by rw[kC,ř f])) (q _)
 .cases h;have e:v=_:=r.int j;subst e;have⟨l,rfl⟩:=rv;by_cases f:T=.int
  .subst f;show g (by simp) (typeIs_int s _ l) (sub_int .int)
  .rw[ř f]at q;show VA (isinstance_false_int (ne_int f) (iV T) (by rw[sub_int,ř f])) (q _)
 .cases h;have e:v=_:=r.bl j;subst e;cases rv;show g rfl (PySem.typeIs_bool s _) (by rw[Mm];kernel_rfl)
 .cases h;have e:v=_:=r.bl j;subst e;cases rv;show g rfl (PySem.typeIs_bool s _) (by rw[Mm];kernel_rfl)
 .cases h;have⟨a',ws,rfl,y,L⟩:=r.list j;cases rv;rw[B]at y;obtain⟨N,_,O,_⟩:=I.list y;obtain⟨o,ho,z,_⟩:=O.isList;by_cases f:T=.list
  .subst f;show g (by simp) ⟨o,ho,z⟩ (qY .list)
  .rw[ř f]at q;show VA (isinstance_false_list (Br f) (iV T) (by rw[qY,ř f])) ⟨⟨o,ho,z⟩,q _⟩
 .cases h;have⟨a',ws,rfl,y,L⟩:=r.tuple j;cases rv;rw[B]at y;obtain⟨N,_,⟨o,ho,z,_⟩,_⟩:=I.tuple y;by_cases f:T=.tuple
  .subst f;show g (by simp) ⟨o,ho,z⟩ (uN .tuple)
  .rw[ř f]at q;show VA (isinstance_false_tuple (Ej f) (iV T) (by rw[uN,ř f])) ⟨⟨o,ho,z⟩,q _⟩
 .cases h
def uO(g:C.K=X.K)(i:Gl X "isinstance")(j:X.mg "isinstance"=b5)(k:Gl X T.name)(l:X.mg T.name=b5)(n:PE X a (Iv C ma))(hs:mx [a,.Name T.name p2] X.env=(cb,KH a X.env)::mx [.Name T.name p2] X.env):
  PE X (.Call (.Name "isinstance" p) [a,.Name T.name p2] [] pos) (Iv C (ma >>= λx=>M.IQ (qX x.2 T) >>= λb=>pure (.loc,.bl b))):=by
 rintro pins s σ H Q I ⟨c0,rfl,rfl,o,h⟩;have⟨q,r,u⟩:=Bq T;show IC (dc I i j (show IL "isinstance"=a0 (.builtin "isinstance") by decide +kernel) ?_ (by decide +kernel) (by decide +kernel));show U2 (Iw (gq n (gq (Al (v:=.ty T.nm) k l q rfl r u) kZ) hs pos pins s c0.σ c0.H (λvs H'=>∃x c v b,Nj C c0 c x v/\c.H=H'/\vs=[v,.ty T.nm]/\qX x.2 T=a0 b/\cD C c0 Q (.loc,.bl b) c.st) I ?_) λus s1 ⟨vs,N,f,y,x,c,v,b,t,e,A,B,w⟩=>?_) hs (by rfl)
 .show aW o h λx c v t w=>?_;rw[ah]at w;have⟨b,e,w⟩:=cw.mp w;rw[aj]at w;show⟨x,c,v,b,t,rfl,rfl,e,w⟩
 .subst e A;have⟨O,Y,rfl,D,G⟩:=vals2 y;cases G;have J:Inv X pins c.σ c.H s1:=by rw[t.hσ];show f
  have z:=Ek (Q:=EP X pins c0.σ Q) g t J D B λL=>⟨.bl b,c.H,f.tok L,rfl,w c (.bl b) t.hσ rfl t.ok t.nx rfl⟩
  show z
@[reducible]def LL(P:HP)(w:Km)(K:PySem.W.Frag)(H:Hp)(f:i5->Prop):Ct:=⟨P,w,K,H,f,λ_=>False⟩
structure Back(C:Ct)(H H':Hp)(S':i5->Prop)(k:Kd)(u:U)(v:V):Prop where
 same:DG H H'
 new:∀a,S' a->H a=b5/\∃o,H' a=a0 o
 own:k=.own->∃r,v=.ref r/\H r=b5/\¬S' r/\dY C S' H' r u
 loc:k=.loc->Rep C S' H' u v
 any:k=.any->Rep C (PS C S') H' u v
abbrev spT(P:HP)(w:Km)(K:PySem.W.Frag)(F:List U->Option (Ex (Kd×U)))(g:Nat):Sp:=λvs H Q _=>vs.length=g/\∃us k u f,F us=a0 (.ok (k,u))/\(k=.own\/k=.loc\/k=.any)/\(∀a,f a->LJ H a) /\
 ao (LL P w K H f) f H us vs/\∀v H' S',Back (LL P w K H f) H H' S' k u v->Q v H'
def Lu.read(t:Lu C c0 c rs vs):ao C (LJ c.H) c.H (rs.map (·.2)) vs:=by
 have f:∀(l:List (Kd×U)) (w:List V),c6 C c0 c l w->bq l c.st->ao C (LJ c.H) c.H (l.map (·.2)) w:=by
  intro l;induction l with
  |nil=>intro w h _;show h
  |cons r l g =>
   intro w h hs;obtain⟨v,t',rfl,i,j,_⟩:=h;rw[gy]at hs;show⟨v,t',rfl,(i.t hs.1).read t.ok,g t' j hs.2⟩
 show f rs vs t.rep t.Nk
def Back.here(hk:k=.own\/k=.loc)(i:c.σ=c0.σ)(f:Ok C c)(n:Nx c0 c)(q:j.Eqv C)(h:Back j c.H H' S' k u v)(w:cD C c0 Q (k,u) c.st):Q v H':=by
 have⟨l,t⟩:=f.grow (S':=λa=>c.S a\/S' a) h.same (λa z=>z.imp id λz=>h.new a z) λa=>.inl;have x:=n.trans t;show w {c with H:=H',S:=λa=>c.S a\/S' a} v i rfl l x ?_;rcases hk with rfl|rfl
 .have⟨r,e,g,y,A⟩:=h.own rfl;have⟨G,B,I,J,D⟩:=f.lI g;show⟨r,e,n.none g,λz=>z.elim B y,D,(A.cg q).mv (.up λa=>.inr) λo q=>q⟩
 .show((h.loc rfl).cg q).mv (.up λa=>.inr)
def yC(o:C.P=X.prog)(x:C.w=X.w)(y:C.K=X.K)(N:Γ f=F)(hk:∀us k u,F us=a0 (.ok (k,u))->(k=.own\/k=.loc\/k=.any)/\us.length=B)
  (G:oM X.prog X.w X.K X.mg X.base MJ k fa O ps (spT X.prog X.w X.K F B)) (hr:gK k X.A) (T:Gl X f) (Y:X.mg f=a0 (.ref fa)) (P4:PySem.W.keepIn X.K (.ref fa)=b6) (j:Binds X.K O ps [])
  (MK:(f==("__debug__":Str))=cb) (ha:PA X (e::es) (JY C ms)) (he:mx (e::es) X.env=(cb,KH e X.env)::mx es X.env) (Jo:(Ll pos (mx es X.env)).any (·.1)=cb) :
  PE X (.Call (.Name f p) (e::es) [] pos) (Iv C (ms >>= λrs=>aO rs >>= λ_=>lK Γ f (rs.map (·.2)))):=by
 rintro pins s σ H Q I ⟨c0,rfl,rfl,ok,h⟩;show IC (oG I T Y ?_ MK);show PySem.W.callWith_K (h₀:=X.base) I.ok.mod.QE P4 (Iw (args ha I ok h pos) λus s1 ⟨rs,c,vs,t,D,rv,w⟩=>⟨D.Nw,?_⟩) he Jo;have⟨r,st',g,q⟩:=w;unfold lK at g;rw[N]at g;cases i:F (rs.map (·.2)) with
 |none=>rw[i]at g;cases g
 |some r' =>
  rw[i]at g;split at g
  .cases g
  .rename_i z;cases z
  rename_i TU e3;cases e3;cases g;have⟨l,u⟩:=r;have⟨J,k2⟩:=hk _ _ _ i;have k1:l=.own\/l=.loc:=by
   rcases J with z|z|z
   .show .inl z
   .show .inr z
   .subst z;show(TU u rfl).elim
  have n:C.Eqv (LL X.prog X.w X.K c.H (LJ c.H)):=⟨o,x,y⟩
  have Mh:(LL X.prog X.w X.K c.H (LJ c.H)).Eqv C:=⟨o.symm,x.symm,y.symm⟩
  have L:=t.read;have Kp:spT X.prog X.w X.K F B vs c.H (λv H'=>Q v H') E0:=⟨by rw[<-L.len];show k2,rs.map (·.2),l,u,LJ c.H,i,J,λ_ z=>z,L.cg n,λv H' S' j=>j.here k1 t.hσ t.ok t.nx Mh q⟩
  have z:=xE (Q:=Q) G hr j .nil Cw D rv (by rw[sx];show Kp);rw[t.hσ]at z;show z
theorem c6.here:∀{rs:List (Kd×U)}{vs:List V},c6 C c0 c rs vs->rs.all (λr=>cK (r.1=.loc))=b6->ao C c.S c.H (rs.map (·.2)) vs
 |[],_,h,_=>h
 |(k,u)::rs,vs,h,q=>by
  obtain⟨v,t,rfl,f,g,_⟩:=h;rw[Ğ,eh,ŗ]at q;show⟨v,t,rfl,?_,c6.here g q.2⟩;obtain⟨i,_⟩:=q;cases i;show f
def yD(n:C.P=X.prog)(o:C.w=X.w)(x:C.K=X.K)(L:Γ f=F)(hk:∀us k u,F us=a0 (.ok (k,u))->(k=.own\/k=.loc\/k=.any)/\us.length=y)
  (G:oM X.prog X.w X.K X.mg X.base MJ k fa N ps (spT X.prog X.w X.K F y)) (hr:gK k X.A) (O:Gl X f) (T:X.mg f=a0 (.ref fa)) (Y:PySem.W.keepIn X.K (.ref fa)=b6) (g:Binds X.K N ps [])
  (MK:(f==("__debug__":Str))=cb) (ha:PA X (e::es) (JY C ms)) (he:mx (e::es) X.env=(cb,KH e X.env)::mx es X.env) (Jo:(Ll pos (mx es X.env)).any (·.1)=cb) :
  PE X (.Call (.Name f p) (e::es) [] pos) (Iv C (ms >>= λrs=>aO rs >>= λ_=>qT Γ f rs)):=by
 rintro pins s σ H Q I ⟨c0,rfl,rfl,ok,h⟩;show IC (oG I O T ?_ MK);show PySem.W.callWith_K (h₀:=X.base) I.ok.mod.QE Y (Iw (args ha I ok h pos) λus s1 ⟨rs,c,vs,t,B,rv,w⟩=>⟨B.Nw,?_⟩) he Jo;have⟨r,st',i,q⟩:=w;unfold qT at i;rw[L]at i;split at i
 case isFalse=>cases i
 rename_i Ju;split at i
 case h_2=>cases i
 rename_i kd u D;cases i;have⟨k1,k2⟩:=hk _ _ _ D;have j:C.Eqv (LL X.prog X.w X.K c.H c.S):=⟨n,o,x⟩
 have l:(LL X.prog X.w X.K c.H c.S).Eqv C:=⟨n.symm,o.symm,x.symm⟩
 have J:=c6.here t.rep Ju;have Kp:spT X.prog X.w X.K F y vs c.H (λv H'=>Q v H') E0:=⟨by rw[<-J.len];show k2,rs.map (·.2),kd,u,c.S,D,k1,λa z=>(t.ok.Ku a z).2,J.cg j,λv H' S' g=>by
  rcases k1 with z|z|z
  .subst z;show g.here (.inl rfl) t.hσ t.ok t.nx l q
  .subst z;show g.here (.inr rfl) t.hσ t.ok t.nx l q
  .have⟨IH,n'⟩:=t.ok.grow (S':=λa=>c.S a\/S' a) g.same (λa z=>z.imp id λz=>g.new a z) λa=>.inl;subst z;show q {c with H:=H',S:=λa=>c.S a\/S' a} v t.hσ rfl IH (t.nx.trans n') ((g.any rfl).cg l)⟩
 have z:=xE (Q:=Q) G hr g .nil Cw B rv (by rw[sx];show Kp);rw[t.hσ]at z;show z
def Bs(j:PE X a (Iv C ma)):PE X a (Iv C (ma >>= λr=>lift r >>= λu=>pure (.loc,u))):=by
 show PE.weak j ?_;rintro σ H Q ⟨c0,rfl,rfl,g,h⟩;show aW g h λx c v t w=>?_;rw[ah]at w;obtain⟨S',st',u,s1,k,l,f,i,_⟩:=gz g t.ok t.nx t.rx.w w;rw[aj]at i;show i {c with S:=S',st:=st' } v t.hσ rfl k l f
end
section
abbrev Mf.id:Mf->String
 |.split=>"str.split"|.join=>"str.join"|.partition=>"str.partition"|.endswith=>"str.endswith"
abbrev Mf.name:Mf->Str
 |.split=>"split"|.join=>"join"|.partition=>"partition"|.endswith=>"endswith"
def yE(h:lJ f u rs=a0 r):∃x,u=.str x:=by
 unfold lJ at h;split at h
 .show⟨_,rfl⟩
 .show⟨_,rfl⟩
 .cases h
def El(u:C.K=X.K)(t:Lu C c0 c (x::rs) (d::vs))(I:Inv X a c.σ c.H s)(k:RelV d v)(rv:Vals vs us)(h:lJ f x.2 rs=a0 r)(q:cD C c0 Q r c.st):
  eH (kj X.prog X.w) X.A (Qz (.builtin f.id) (v::us)) (EP X a c.σ Q) X.xe s:=by
 have l:=t.hσ;have b:=t.ok;have n:=t.nx;have⟨y,z⟩:=x;have hs:=gy.mp t.Nk;obtain⟨L,N,B,i,g,-⟩:=t.rep;cases B;have m:aT C c0 c y z d:=i.t hs.1;have one:∀{r:Kd×U},c6 C c0 c [r] vs->bq [r] c.st->∃v,vs=[v]/\aT C c0 c r.1 r.2 v:=λ{r} h s=>by
  obtain⟨v,t',rfl,i,g,_⟩:=h;cases g;show⟨v,rfl,i.t s⟩
 dsimp only at h
 unfold lJ at h;split at h
 .have⟨w,rfl,j⟩:=one g hs.2;split at h
  .rename_i hh;cases h;show xU a s c.σ c.H d [w] v us Q I k rv ⟨_,_,m.str b,by rw[j.str b],hh.1,hh.2,λp D=>q.list l b n (ao.strs.mpr rfl) p D⟩
  .cases h
 .rw[ve]at h;have⟨ss,e,h⟩:=h;have G:=cA e;subst G;have⟨w,rfl,j⟩:=one g hs.2;have⟨a',ws,ex,J,o⟩:=j.list b;rw[ao.strs]at o;subst o;split at h
  .cases h;show AN a s c.σ c.H d [w] v us Q I k rv ⟨_,a',ss,m.str b,by rw[ex],u▸J,by assumption,q.flat l b n rfl⟩
  .cases h
 .cases h
def Bt(L:C.K=X.K)(slot:Slot "str" name f.id)(N:Ĕ (.builtin f.id)=pure (.type "method_descriptor"))(ho:PE X o (Iv C m))(O:PA X (e::es) (JY C ms))
  (T:WV o name X.env (KH o X.env)=KH o X.env)
  (Y:((Ll b (mx (e::es) X.env)).all (λx=>!x.1)&&(Sg b (OR [] X.env)).all (λx=>x.1.isSome)
   && cK ((e::es).length+([]:List QP).length+(if ([]:List QP).isEmpty then 0 else 1)<30))=b6)
  (Jc:(g.endLine==b.line)=b6) (hs:mx (e::es) X.env=(cb,KH e X.env)::mx es X.env) (JC:(Ll b (mx es X.env)).any (·.1)=cb) :
  PE X (.Call (.Attribute o name g) (e::es) [] b) (Iv C (m >>= λx=>ms >>= λrs=>aO (x::rs) >>= λ_=>M.IQ (lJ f x.2 rs))):=by
 rintro a s σ H Q I ⟨c0,rfl,rfl,ok,h⟩;show Ý T Y Jc rfl (Iw (ho a s c0.σ c0.H (λj p=>∃x c1,c1.H=p/\Nj C c0 c1 x j/\W (ms >>= λrs=>aO (x::rs) >>= λ_=>M.IQ (lJ f x.2 rs)) c1.st (cD C c0 Q)) I (aW ok h λx c v t w=>⟨x,c,rfl,t,w⟩)) ?_);rintro v s1 ⟨j,p,u,y,x,c1,rfl,t,w⟩;have N1:∃z,x.2=.str z:=by
  rw[ah]at w;obtain⟨rs,st2,_,w⟩:=w;rw[ah]at w;obtain⟨_,st3,_,w⟩:=w;obtain⟨r,e,_⟩:=cw.mp w;show yE e
 have⟨z,hz⟩:=N1;have A:=t.rx;rw[hz]at A;have ev:=A.str t.ok;have ty:Sd X.K "str" j c1.H:=by rw[ev];rfl
 have⟨h1,h2⟩:=sy u y ty;show⟨"str",f.id,PySem.F.plainAttrs_str,slot,N,h1,h2,?_⟩;rw[ah]at w;have B:=O b a s1 c0.σ c1.H (λvs D=>∃rs d,d.H=D/\Lu C c0 d (x::rs) (j::vs)/\W (M.IQ (lJ f x.2 rs)) d.st (cD C c0 Q)) u ⟨c1,t.hσ,rfl,t.ok,w.mono λrs st2 l d vs G e4 Ja J k=>by
  rw[ah,cR]at l;subst e4;show⟨rs,d,rfl,⟨G,Ja,t.nx.trans J,⟨j,vs,rfl,t.rx.w.on t.ok J (G.trans t.hσ.symm),k.from t.nx,λhk i r' v' e5 e6 JN=>pF t.rx.w (k.get e5 e6) hk JN⟩,l.1⟩,l.2⟩⟩
 rw[hs]at B ⊢;show Mx (by change(cb||(Ll b (mx es X.env)).any (·.1))=cb;rw[JC]<;>rfl) (Ph ?_);show Iw B ?_;rintro us s2 ⟨vs,D,I2,k,rs,d,rfl,n,w2⟩;have⟨r,e,q⟩:=cw.mp w2;have z:=El L n (by rw[n.hσ];show I2) y k e q;rw[n.hσ]at z;show z
end
section
variable{X:Cx}{C:Ct}{pins:List (i5×Obj)}{s:gj}{c0 c c1:Cf}
variable{e:p8}{es:List p8}{ms:M (List (Kd×U))}{pos p p2 pos2:Pos}
abbrev B2.out:B2->ez
 |.Ma=>.type "tuple"|.Mb=>.type "list"|.sset=>.builtin "sorted"|.la=>.builtin "len"
abbrev B2.Rg:B2->ez
 |.Ma=>.type "reversed"|.Mb=>.type "reversed"|.sset=>.type "set"|.la=>.type "set"
abbrev B2.pI:B2->Str
 |.Ma=>"tuple"|.Mb=>"list"|.sset=>"sorted"|.la=>"len"
abbrev B2.iW:B2->Str
 |.Ma=>"reversed"|.Mb=>"reversed"|.sset=>"set"|.la=>"set"
def jx(g:C.K=X.K)(i:Ok C c)(j:aT C c0 c k u v)(h:fN u=a0 ss):∃a ys,v=.ref a/\(Je X.K c.H a (ys.map V.str)\/IX X.K c.H a (ys.map V.str))/\ys.length+1<K4/\ss=ax ys:=by
 unfold fN at h;split at h
 .rw[ve]at h;have⟨ys,e,h⟩:=h;have f:=cA e;subst f;have⟨a',ws,ex,d,b⟩:=j.list i;rw[ao.strs]at b;subst b;split at h
  .cases h;show⟨a',ys,ex,.inl (g▸d),by assumption,rfl⟩
  .cases h
 .rw[ve]at h;have⟨ys,e,h⟩:=h;have f:=cA e;subst f;have⟨a',ws,ex,d,b⟩:=j.tuple i;rw[ao.strs]at b;subst b;rw[g]at d;split at h
  .cases h;show⟨a',ys,ex,.inr d,by assumption,rfl⟩
  .cases h
 .cases h
def Em(b:X.calm=b6)(o:C.K=X.K)(t:Lu C c0 c rs vs)(I:Inv X pins c.σ c.H s)(rv:Vals vs us)(h:sT f rs=a0 r)(q:cD C c0 Q r c.st):
  eH (kj X.prog X.w) X.A (Qz f.Rg us) (λv s1=>eH (kj X.prog X.w) X.A (Qz f.out [v]) (EP X pins c.σ Q) X.xe s1) X.xe s:=by
 have y:=t.hσ;have a:=t.ok;have n:=t.nx;cases f with
 |sset =>
  have⟨x,rfl,hz⟩:=bV (f:=λx=>(fN x.2).bind λss=>if ss.length<64 then a0 (Kd.own,U.lst ((aH ss).map .str)) else b5) h;clear h;have h:=hz;clear hz;have⟨ss,e,h⟩:=ve.mp h;have⟨v,rfl,d⟩:=t.one;have⟨a',ys,rfl,g,i,rfl⟩:=jx o a d e;have⟨u,rfl,j⟩:=vals1 rv;cases j;split at h
  .cases h;show iO b I g i λS h' z k m=>gV b m k (by assumption) λl hl=>q.list y a n (ao.strs.mpr rfl) l hl
  .cases h
 |la =>
  have⟨x,rfl,hz⟩:=bV (f:=λx:Kd×U=>(fN x.2).map λss:List Str=>(Kd.loc,U.int (ss.length:Int))) h;clear h;have h:=hz;clear hz;have⟨ss,e,rfl⟩:=hZ.mp h;have⟨v,rfl,d⟩:=t.one;have⟨a',ys,rfl,g,i,rfl⟩:=jx o a d e;have⟨u,rfl,j⟩:=vals1 rv;cases j;show iO b I g i λS h' z k m=>lB m k (q.flat y a n rfl)
 |_=>cases h
def uP:∀f:B2,IL f.pI=a0 f.out/\IL f.iW=a0 f.Rg/\f.pI≠"__name__"/\f.iW≠"__name__"/\(f.pI==("__debug__":Str))=cb/\(f.iW==("__debug__":Str))=cb:=by
 intro f;cases f<;>show⟨by decide +kernel,by decide +kernel,by decide +kernel,by decide +kernel,by decide +kernel,by decide +kernel⟩
def En(f:B2):∃T,f.Rg=.type T:=by cases f<;>show⟨_,rfl⟩
def Eo(f:B2):(∃T,f.out=.type T)\/∃T,f.out=.builtin T:=by cases f<;>first|show .inl ⟨_,rfl⟩|show .inr ⟨_,rfl⟩
def uQ{M:Model}{E:ez->gj->Prop}(h:eH M A t (λv a=>eH M A (Qz (.type T) [v]) Q E a) E s):eH M A (callWith pos (.type T) [] [(cb,t)] []) Q E s :=
 PySem.callWith_type rfl (Ph (Qj (w6 h (λ_ _ b=>SX b) λ_ _ e=>e)))
def pJ{M:Model}{E:ez->gj->Prop}(h:eH M A t (λv a=>eH M A (Qz (.builtin T) [v]) Q E a) E s):eH M A (callWith pos (.builtin T) [] [(cb,t)] []) Q E s :=
 Mx rfl (Ph (Qj (w6 h (λ_ _ b=>SX b) λ_ _ e=>e)))
def yF(b:X.calm=b6)(d:C.K=X.K)(g:Gl X f.iW)(i:X.mg f.iW=b5)
  (j:PA X (e::es) (JY C ms)) (k:mx (e::es) X.env=(cb,KH e X.env)::mx es X.env) (l:(Ll pos2 (mx es X.env)).any (·.1)=cb)
  (I:Inv X pins c0.σ c0.H s) (m:Ok C c0) (h:W (ms >>= λrs=>aO rs >>= λ_=>M.IQ (sT f rs)) c0.st (cD C c0 Q)) :
  eH (kj X.prog X.w) X.A (KH (.Call (.Name f.iW p2) (e::es) [] pos2) X.env) (λv s1=>eH (kj X.prog X.w) X.A (Qz f.out [v]) (EP X pins c0.σ Q) X.xe s1) X.xe s:=by
 have⟨b1,n,b3,b4,B,o⟩:=uP f;show IC (dc I g i n ?_ b4 o);have a:eH (kj X.prog X.w) X.A (Ĥ (Ll pos2 (mx (e::es) X.env))) (λus s1=>eH (kj X.prog X.w) X.A (Qz f.Rg us) (λv s1=>eH (kj X.prog X.w) X.A (Qz f.out [v]) (EP X pins c0.σ Q) X.xe s1) X.xe s1) X.xe s :=
  Iw (args j I m h pos2) λus s1 u=>by
   have⟨rs,c,vs,t,x,rv,w⟩:=u;have⟨r,e,q⟩:=cw.mp w;have z:=Em b d t x rv e q;rw[t.hσ]at z;show z
 have⟨T,y⟩:=En f;rw[y]at a ⊢;show LY a k l
def Bu(d:X.calm=b6)(g:C.K=X.K)(i:Gl X f.pI)(j:X.mg f.pI=b5)(k:Gl X f.iW)(l:X.mg f.iW=b5)
  (m:PA X (e::es) (JY C ms)) (n:mx (e::es) X.env=(cb,KH e X.env)::mx es X.env) (o:(Ll pos2 (mx es X.env)).any (·.1)=cb) :
  PE X (.Call (.Name f.pI p) [.Call (.Name f.iW p2) (e::es) [] pos2] [] pos) (Iv C (ms >>= λrs=>aO rs >>= λ_=>M.IQ (sT f rs))):=by
 rintro pins s σ H Q I ⟨c0,rfl,rfl,q,h⟩;have⟨b1,v,b3,b4,r,w⟩:=uP f;show IC (dc I i j b1 ?_ b3 r);have a:=yF (p2:=p2) (pos2:=pos2) d g k l m n o I q h;have t:Ll pos (mx [.Call (.Name f.iW p2) (e::es) [] pos2] X.env)=[(cb,KH (.Call (.Name f.iW p2) (e::es) [] pos2) X.env)]:=rfl;have u:Sg pos (OR [] X.env)=[]:=rfl;rw[t,u];rcases Eo f with⟨T,b⟩|⟨T,b⟩
 .rw[b]at a ⊢;show uQ a
 .rw[b]at a ⊢;show pJ a
end
section
variable{X:Cx}{C:Ct}{pins:List (i5×Obj)}{s:gj}{c0 c c1:Cf}
variable{a b d e o tg:p8}{es:List p8}{m ma mb md:M (Kd×U)}{ms:M (List (Kd×U))}{ta tb:M Bool}{pos p p2 apos Ij:Pos}
abbrev jT(rs:List (Kd×U))(c f:Cf):Prop:=∀j u,(Kd.bor j,u)∈rs->f.σ[j]?=c.σ[j]?
abbrev Walk(C:Ct)(c:Cf)(rs:List (Kd×U))(xs:List (Kd×U))(J:It):Prop:=∀f,Ok C f->Ns c f->jT rs c f->bq rs f.st ->
 (∀(i:Nat) r,xs[i]?=a0 r->(r.1=.loc\/r.1=.any)/\J.go i f.H/\∀x H',J.QJ i f.H x H'->∃g:Cf,g.H=H'/\g.σ=f.σ/\g.st=f.st/\Ok C g/\Nx f g/\aT C f g r.1 r.2 x) /\
 ∀i:Nat,xs.length<=i->J.stop i f.H
abbrev Mi(C:Ct)(ik:Ik)(ms:M (List (Kd×U))):TI:=λσ H R=>∃c0:Cf,c0.σ=σ/\c0.H=H/\Ok C c0/\W (ms >>= λrs=>aO rs >>= λ_=>M.IQ (JX ik rs) >>= λxs=>pure (rs,xs)) c0.st λq st' =>
 ∀c J,c.σ=σ->c.st=st'->Ok C c->Nx c0 c->bq q.1 c.st->Walk C c q.1 q.2 J->R J c.H
def aT.walk(g:Ok C c)(n:Ns c f)(i:jT [r] c f)(hs:bq [r] f.st)(h:aT C c0 c r.1 r.2 v):aT C c0 f r.1 r.2 v :=
 (h.w.VE g n λj e=>i j r.2 (by rw[<-e];simp)).t hs
def yG(k:Kd):kE k=.loc\/kE k=.any:=by cases k<;>simp[kE]
def wJ(y:C.K=X.K)(z:Ok C c)(h:aT C c0 c k (.lst us) (.ref a')):Walk C c [(k,.lst us)] (us.map λu=>(kE k,u)) (RQ X.K a'):=by
 intro l q n A hs;have h':=aT.walk (r:=(k,.lst us)) z n A hs h;have⟨G,vs,e,f,t⟩:=h'.list q;cases e;rw[y]at f;show⟨λi r hr=>?_,λi B=>⟨vs,f,by rw[<-t.len];simpa using B⟩⟩;rw[oa,hZ]at hr;have⟨u,D,rfl⟩:=hr;have⟨v,w,g⟩:=t.get D;show⟨yG k,⟨vs,v,f,w⟩,λx H' j=>?_⟩;have⟨e,j⟩:=j;subst e;have:=j vs f;rw[w]at this;cases this;show⟨l,rfl,rfl,rfl,q,Nx.refl l,aT.item g⟩
def sV(y:C.K=X.K)(z:Ok C c)(h:aT C c0 c k (.tup us) (.ref a')):Walk C c [(k,.tup us)] (us.map λu=>(kE k,u)) (RS X.K a'):=by
 intro l q n A hs;have h':=aT.walk (r:=(k,.tup us)) z n A hs h;have⟨G,vs,e,f,t⟩:=h'.tuple q;cases e;rw[y]at f;show⟨λi r hr=>?_,λi B=>⟨vs,f,by rw[<-t.len];simpa using B⟩⟩;rw[oa,hZ]at hr;have⟨u,D,rfl⟩:=hr;have⟨v,w,g⟩:=t.get D;show⟨yG k,⟨vs,v,f,w⟩,λx H' j=>?_⟩;have⟨e,j⟩:=j;subst e;have:=j vs f;rw[w]at this;cases this;show⟨l,rfl,rfl,rfl,q,Nx.refl l,aT.item g⟩
def sW{lo:Int}:Walk C c rs ((hA n).map λi:Nat=>(Kd.loc,U.int (lo+(i:Int)))) (QL lo n):=by
 intro h k nx q hs;show⟨λi r hr=>?_,λi f=>by change n<=i;simpa using f⟩;rw[oa,hZ]at hr;have⟨j,g,rfl⟩:=hr;have f:i<n:=by simpa using(eW.mp g).1
 rw[Ê f]at g;cases g;show⟨.inl rfl,f,λy H' l=>?_⟩;have⟨e,rfl⟩:=l;subst e;show⟨h,rfl,rfl,rfl,k,Nx.refl h,rfl⟩
def Ep(i:C.K=X.K)(t:PE X a (Iv C ma)):PI X tg a (Mi C .seq (ma >>= λr=>pure [] >>= λrs=>pure (r::rs))):=by
 rintro pins s σ H R I ⟨c0,rfl,rfl,w,h⟩;rw[ah,ah]at h;have⟨r,st1,x,h⟩:=h;rw[ah,aj,aj,ah,cR,ah]at h;have⟨y,h⟩:=h;have⟨xs,j,h⟩:=cw.mp h;rw[aj]at h;have⟨k,u⟩:=r;cases u with
 |lst us =>
  cases j;show As t pins s c0.σ c0.H R I ⟨c0,rfl,rfl,w,_,st1,x,λc v l hs g n f=>?_⟩;have⟨a',vs,rfl,q,A⟩:=f.list g;subst hs;show⟨a',rfl,⟨vs,i▸q⟩,h c _ l rfl g n y (wJ i g f)⟩
 |tup us =>
  cases j;show Du t pins s c0.σ c0.H R I ⟨c0,rfl,rfl,w,_,st1,x,λc v l hs g n f=>?_⟩;have⟨a',vs,rfl,q,A⟩:=f.tuple g;subst hs;have z:=q;rw[i]at z;show⟨a',rfl,⟨vs,z⟩,h c _ l rfl g n y (sV i g f)⟩
 |_=>cases j
def sX{k:List (Kd×U)->M β}{g:β->aA->Prop}(i:Ok C c0)(h:W (ms >>= λrs=>aO rs >>= λ_=>k rs) c0.st g)
  (hz:∀rs c vs,Lu C c0 c rs vs->W (k rs) c.st g->Z vs c.H):JY C ms c0.σ c0.H Z:=by
 rw[ah]at h;show⟨c0,rfl,rfl,i,h.mono λrs st1 f c1 vs j l n q r=>?_⟩;rw[ah,cR]at f;subst l;show hz rs c1 vs ⟨j,n,q,r,f.1⟩ f.2
def Bx(i:Gl X "range")(j:X.mg "range"=b5)(hs:mx [a] X.env=[(cb,KH a X.env)])(k:PA X [a] (JY C ms)):PI X tg (.Call (.Name "range" p) [a] [] pos) (Mi C .Jl ms):=by
 rintro pins s σ H R I ⟨c0,rfl,rfl,l,h⟩;show vT i j k hs pins s c0.σ c0.H R I (sX l h λrs c vs t w=>?_);rw[ah]at w;have⟨xs,g,w⟩:=cw.mp w;rw[aj]at w;have⟨x,rfl,hz⟩:=bV (f:=wA) g;clear g;have g:=hz;clear hz;have⟨v,rfl,n⟩:=t.one;unfold wA at g;split at g
 .split at g
  .rename_i hh;cases g;show⟨_,by rw[n.int t.ok],⋯,⋯,w c _ t.hσ rfl t.ok t.nx t.Nk sW⟩
  .cases g
 .cases g
def qZ{k:Kd}{us:List U}{h:U}{a':i5}{w:Hp->List V->Prop}(D:∀f,Ok C f->Ns c f->jT [(k,h)] c f->bq [(k,h)] f.st->∃vs,w f.H vs/\ao C (SK C f k) f.H us vs):Walk C c [(k,h)] (us.zipIdx.map λp=>(kE k,.tup [.int p.2,p.1])) (OF w):=by
 intro f g n G hs;have⟨vs,j,y⟩:=D f g n G hs;show⟨λi r hr=>?_,λi I=>⟨vs,j,by rw[<-y.len];simpa using I⟩⟩;rw[oa,hZ]at hr;have⟨p,z,rfl⟩:=hr;rw[Á,hZ]at z;have⟨u,J,rfl⟩:=z;have⟨v,A,l⟩:=y.get J;show⟨yG k,⟨vs,v,j,A⟩,λx H' q=>?_⟩;have⟨p,L,rfl,q⟩:=q;have N:=q vs v j A;subst N;have⟨O,t⟩:=g.lay (o:=.tup [.int i,v]) L;show⟨{f with H:=upd f.H p (.tup [.int i,v])},rfl,rfl,rfl,O,t,aT.item ?_⟩;have B:ao C (SK C f k) f.H [.int ((0+i:Nat):Int),u] [.int (i:Int),v]:=by
  rw[Sm];show⟨_,_,rfl,rfl,_,_,rfl,l,rfl⟩
 cases k<;>show⟨p,_,rfl,IX.of aI,by first|show B.mv (g.MA t)|show B.mv (g.mv t)⟩
def Er{es:List p8}{z:Nat}{ps:Pos}(k:C.K=X.K)(A:Gl X "enumerate")(B:X.mg "enumerate"=b5)(hs:mx [a] X.env=[(cb,KH a X.env)])(D:PA X [a] (JY C ms)):PI X (.Tuple es z ps) (.Call (.Name "enumerate" p) [a] [] pos) (Mi C .MP ms):=by
 rintro pins s σ H R I ⟨c0,rfl,rfl,G,h⟩;show AX A B D hs pins s c0.σ c0.H R I (sX G h λrs c vs t w=>?_);rw[ah]at w;have⟨xs,i,w⟩:=cw.mp w;rw[aj]at w;have⟨x,rfl,hz⟩:=bV (f:=D8) i;clear i;have i:=hz;clear hz;have⟨v,rfl,l⟩:=t.one;unfold D8 at i;split at i
 .cases i;have⟨a',ws,q,g,j⟩:=l.list t.ok;subst q;show⟨a',rfl,.inl ⟨⟨ws,k▸g⟩,w c _ t.hσ rfl t.ok t.nx t.Nk ?_⟩⟩;show qZ (a':=a') λJ r n u y=>?_;have⟨L,vs,e,g,j⟩:=(aT.walk t.ok n u y l).list r;cases e;show⟨vs,k▸g,j⟩
 .cases i;have⟨a',ws,q,g,j⟩:=l.tuple t.ok;subst q;rw[k]at g;show⟨a',rfl,.inr ⟨⟨ws,g⟩,w c _ t.hσ rfl t.ok t.nx t.Nk ?_⟩⟩;show qZ (a':=a') λJ r n u y=>?_;have⟨L,vs,e,g,j⟩:=(aT.walk t.ok n u y l).tuple r;cases e;rw[k]at g;show⟨vs,g,j⟩
 .cases i
def yH(D:∀f,Ok C f->Ns c f->jT [(k,.lst us),(k',.tup ws)] c f->bq [(k,.lst us),(k',.tup ws)] f.st->∃vs xs,Je X.K f.H a' vs/\IX X.K f.H G xs/\ao C (SK C f k) f.H us vs/\ao C (SK C f k') f.H ws xs):
  Walk C c [(k,.lst us),(k',.tup ws)] ((us.zip ws).map λp=>(kT k k',.tup [p.1,p.2])) (Tr (λH xs=>Je X.K H a' xs) λH ys=>IX X.K H G ys):=by
 intro f j n I hs;have⟨vs,xs,s1,s2,u,y⟩:=D f j n I hs;show⟨λi r hr=>?_,λi J=>⟨vs,xs,s1,s2,?_⟩⟩
 .rw[oa,hZ]at hr;have⟨p,L,rfl⟩:=hr;have⟨N,O⟩:=Y3.mp L;have⟨v,A,g⟩:=u.get N;have⟨w,B,h⟩:=y.get O;show⟨by cases k<;>cases k'<;>simp[kT,isAny],⟨vs,xs,v,w,s1,s2,A,B⟩,λx H' l=>?_⟩;have⟨q,Q,rfl,l⟩:=l;have T:=l vs xs v w s1 s2 A B;subst T;have⟨Y,t⟩:=j.lay (o:=.tup [v,w]) Q;show⟨{f with H:=upd f.H q (.tup [v,w])},rfl,rfl,rfl,Y,t,?_⟩;have a1:ao C (SK C f k) f.H [p.1] [v]:=⟨_,_,rfl,g,rfl⟩
  have a2:ao C (SK C f k') f.H [p.2] [w]:=⟨_,_,rfl,h,rfl⟩
  have m:ao C (SK C f (kT k k')) f.H [p.1,p.2] [v,w]:=(a1.mv (.up (yt k k'))).append (a2.mv (.up (uL k k')));have z:aT C f {f with H:=upd f.H q (.tup [v,w])} (kE (kT k k')) (.tup [p.1,p.2]) (.ref q):=aT.item (by
   generalize kT k k'=k0 at m;cases k0<;>show⟨q,_,rfl,IX.of aI,by first|show m.mv (j.MA t)|show m.mv (j.mv t)⟩)
  rw[CG]at z;show z
 .have e1:=u.len;have e2:=y.len;rw[df,RP]at J;lia
def q9{st:aA}(h:bq [x,y] st):bq [x] st/\bq [y] st:=by
 have⟨k,u⟩:=x;have⟨k',u'⟩:=y;cases k<;>cases k'<;>first|show⟨h.1,h.2⟩|show⟨⟨h.1,trivial⟩,h.2⟩|show⟨trivial,h⟩|show⟨⟨h.1,trivial⟩,trivial⟩
def Es(i:C.K=X.K)(A:Gl X "zip")(B:X.mg "zip"=b5)(D:mx (a::[b]) X.env=(cb,KH a X.env)::mx [b] X.env)(G:(Ll pos (mx [b] X.env)).any (·.1)=cb)(J:PA X [a,b] (JY C ms)):PI X (.Tuple es kx ps) (.Call (.Name "zip" p) [a,b] [] pos) (Mi C .zip ms):=by
 rintro pins s σ H R I ⟨c0,rfl,rfl,L,h⟩;show DW A B J D G pins s c0.σ c0.H R I (sX L h λrs c vs t w=>?_);rw[ah]at w;have⟨xs,f,w⟩:=cw.mp w;rw[aj]at w;have f:D9 rs=a0 xs:=f;unfold D9 at f;split at f
 .cases f;have⟨v,v',rfl,k,l⟩:=t.two;have⟨a',N,O,Q,h2⟩:=k.list t.ok;have⟨T,Y,e3,q,h4⟩:=l.tuple t.ok;subst O e3;rw[i]at q;show⟨a',T,rfl,⟨N,i▸Q⟩,⟨Y,q⟩,w c _ t.hσ rfl t.ok t.nx t.Nk ?_⟩;show yH λc' r n x y=>?_;have⟨a2,vs,e,g1,g2⟩:=(aT.walk t.ok n (λj u g=>x j u (by simp at g ⊢;show .inl g)) (q9 y).1 k).list r;cases e;have⟨a3,Jp,e,z,g4⟩:=(aT.walk t.ok n (λj u g=>x j u (by simp at g ⊢;show .inr g)) (q9 y).2 l).tuple r;cases e;rw[i]at z;show⟨vs,Jp,i▸g1,z,g2,g4⟩
 .cases f
def Ok.put(t:Ok C c)(n:Nx c0 c)(O:i<c.σ.length)(hk:k=.own\/k=.loc\/k=.any)(J4:Ok C c0)(h:aT C c0 c k u v):
  Ok C {c with σ:=c.σ.set i (a0 v),st:=c.st.set i (a0 (k,u))}/\Nx c0 {c with σ:=c.σ.set i (a0 v),st:=c.st.set i (a0 (k,u))}:=by
 have Q:i<c.st.length:=by rw[t.len];show O
 have T:∀(j:Nat) k' u',(c.st.set i (a0 (k,u)))[j]?=a0 (a0 (k',u'))->j≠i->c.st[j]?=a0 (a0 (k',u')):=λj k' u' e Y=>by rw[nH (vu Y)]at e;show e
 have KC:∀(j:Nat) B,(c.σ.set i (a0 v))[j]?=a0 (a0 B)->j≠i->c.σ[j]?=a0 (a0 B):=λj B e Y=>by rw[nH (vu Y)]at e;show e
 have sl:fY C c.S c.H k u v:=by
  rcases hk with rfl|rfl|rfl
  .have⟨r,e,D,I,y,J⟩:=h;have⟨z0,z1,L,z3,z4⟩:=J4.lI D;show⟨r,e,I,L,z0,J⟩
  .show h
  .show h
 have N2:∀(j:Nat) k' u' r,k'.root=b6->(c.st.set i (a0 (k,u)))[j]?=a0 (a0 (k',u'))->(c.σ.set i (a0 v))[j]?=a0 (a0 (.ref r))->j=i/\k=.own/\v=.ref r\/j≠i/\c.st[j]?=a0 (a0 (k',u'))/\c.σ[j]?=a0 (a0 (.ref r)):=λj k' u' r hr g l=>by
  by_cases f:j=i
  .subst f;rw[hU Q]at g;rw[hU O]at l;cases g;cases l;rcases hk with rfl|rfl|rfl
   .show .inl ⟨rfl,rfl,rfl⟩
   .cases hr
   .cases hr
  .show .inr ⟨f,T j k' u' g f,KC j _ l f⟩
 have dD:∀(j:Nat) (u':U),(c.st.set i (a0 (k,u)))[j]?=a0 (a0 (.F',u'))->c.st[j]?=a0 (a0 (.F',u'))/\(c.σ.set i (a0 v))[j]?=c.σ[j]?:=λj u' e=>by
  by_cases f:j=i
  .subst f;rw[hU Q]at e;cases e;rcases hk with hk|hk|hk<;>cases hk
  .show⟨T j .F' u' e f,nH (vu f)⟩
 have b1:∀a,({c with σ:=c.σ.set i (a0 v),st:=c.st.set i (a0 (k,u))}:Cf).R1 a->c.R1 a\/k=.own/\v=.ref a:=λa ID=>by
  have⟨j,k',u',hr,g,l⟩:=ID;rcases N2 j k' u' a hr g l with⟨N,w,x⟩|⟨N,w,x⟩
  .show .inr ⟨w,x⟩
  .show .inl ⟨j,k',u',hr,w,x⟩
 have Lv:LG C {c with σ:=c.σ.set i (a0 v),st:=c.st.set i (a0 (k,u))}:=t.dd.of rfl dD (λa z=>(b1 a z).imp id λ⟨q1,q2⟩ j z'=>by
  subst q1;obtain⟨G,e,_,_,y,_⟩:=h;rw[q2]at e;cases e;show y (.inr ⟨j,z'⟩)) (.up λ_ z=>z) λj a z=>⟨(t.root (.inr ⟨j,z⟩)).1,λo q=>q⟩
 show⟨⟨t.same,t.Ku,t.par,t.io,by simp[t.len],λj k' u' e=>?_,λj1 j2 k1 k2 u1 u2 r N3 P' g l e3 e4=>?_,Lv⟩,⟨⟨n.keep,n.there,λa z=>?_,n.sub,n.new⟩,n.all⟩⟩
 .by_cases f:j=i
  .subst f;rw[hU Q]at e;cases e;show⟨v,by rw[hU O],sl⟩
  .have⟨B,g,l⟩:=t.sl j k' u' (T j k' u' e f);show⟨B,by rw[nH (vu f)];show g,l⟩
 .have z1:=N2 j1 k1 u1 r N3 g e3;have L:=N2 j2 k2 u2 r P' l e4;rcases z1 with⟨N,w,x⟩|⟨N,w,x⟩
  .rcases L with⟨b1,A,b3⟩|⟨b1,A,b3⟩
   .show N.trans b1.symm
   .subst w;have⟨G,e,D,I,y,J⟩:=h;rw[x]at e;cases e;show(y (.inl ⟨j2,k2,u2,P',A,b3⟩)).elim
  .rcases L with⟨b1,A,b3⟩|⟨b1,A,b3⟩
   .subst A;have⟨G,e,D,I,y,J⟩:=h;rw[b3]at e;cases e;show(y (.inl ⟨j1,k1,u1,N3,w,x⟩)).elim
   .show t.inj j1 j2 k1 k2 u1 u2 r N3 P' w A x b3
 .rcases z with z|⟨j,u',G,g,l,e3⟩
  .rcases b1 a z with z|⟨w,x⟩
   .show n.roots a (.inl z)
   .subst w;have⟨G,e,D,I,y,J⟩:=h;rw[x]at e;cases e;show .inr D
  .have⟨q1,q2⟩:=dD j u' g;show n.roots a (.inr ⟨j,u',G,q1,q2▸l,e3⟩)
def uR(y:Ok C c0)(q:Ok C c)(n:Nx c0 c)(z:i<c.σ.length)(hr:aT C c0 c r.1 r.2 v)(h:W (dJ i r) c.st I):
  ∃t,t.σ=c.σ.set i (a0 v)/\t.H=c.H/\Ok C t/\Nx c0 t/\I () t.st:=by
 have⟨k,u⟩:=r;cases k with
 |own =>
  have⟨x,st',e,f⟩:=h;cases e;have⟨g,l⟩:=q.put n z (.inl rfl) y hr;show⟨{c with σ:=c.σ.set i (a0 v),st:=c.st.set i (a0 (.own,u))},rfl,rfl,g,l,f⟩
 |loc =>
  have⟨x,st',e,f⟩:=h;cases e;have⟨g,l⟩:=q.put n z (.inr (.inl rfl)) y hr;show⟨{c with σ:=c.σ.set i (a0 v),st:=c.st.set i (a0 (.loc,u))},rfl,rfl,g,l,f⟩
 |any =>
  have⟨x,st',e,f⟩:=h;cases e;have⟨g,l⟩:=q.put n z (.inr (.inr rfl)) y hr;show⟨{c with σ:=c.σ.set i (a0 v),st:=c.st.set i (a0 (.any,u))},rfl,rfl,g,l,f⟩
 |bor j =>
  have⟨x,st',e,f⟩:=h;rw[show dJ i (.bor j,u) c.st=match c.st[j]? with|some (a0 (.own,u))=>a0 (Ex.ok (),(c.st.set j (a0 (.loc,u))).set i (a0 (.loc,u)))|_=>b5 from rfl]at e;split at e
  .rename_i w B;cases e;obtain⟨O,D,r,J,_⟩:=q.sl j _ _ B;have G:c.σ[j]?=a0 (a0 v):=hr.2;rw[G]at D;cases D;subst J;have⟨L,N,A⟩:=q.yA n B G;have⟨g,l⟩:=Ok.put (c:={c with S:=λa=>c.S a\/a=r,st:=c.st.set j (a0 (.loc,w))}) L N (k:=.loc) (u:=w) (v:=.ref r) z (.inr (.inl rfl)) y A;show⟨{S:=λa=>c.S a\/a=r,H:=c.H,σ:=c.σ.set i (a0 (.ref r)),st:=(c.st.set j (a0 (.loc,w))).set i (a0 (.loc,w)),kid:=c.kid},rfl,rfl,g,l,f⟩
  .cases e
 |_=>show hr.elim
end
section
abbrev tG(C:Ct)(t:Bool)(is:List Nat):TG:=λv σ H Q=>∃c0 c r,c.σ=σ/\c.H=H/\Ok C c0/\Ok C c/\Nx c0 c/\aT C c0 c r.1 r.2 v/\W (dB t is r) c.st λ_ st' =>
 ∀a,a.st=st'->Ok C a->Nx c0 a->(∀j,j∉is->a.σ[j]?=c.σ[j]?)->a.σ.length=c.σ.length->Q a.σ a.H
structure sY(X:Cx)(e:p8)(i:Nat):Prop where
 is:∃x pos,e=.Name x pos/\X.N[i]?=a0 x/\Loc X.env.scope x/\(X.fn x=b6\/X.env.scope.names.lookup x=a0 .local)
def Et(g:X.N.Nodup)(h:sY X e i):PG X e (tG C cb [i]):=by
 have⟨x,pos,rfl,f,k,l⟩:=h.is;rintro a s σ H v u Q I rv ⟨c0,c,r,rfl,rfl,m,o,n,b,w⟩;have p:i<c.σ.length:=by rw[I.len];show(eW.mp f).1
 have⟨t,d,y,A,B,q⟩:=uR (r:=r) m o n p b w;show uc g f k l a s c.σ c.H v u Q I rv ?_;have z:=q t rfl A B (λj D=>by rw[d,nH (by intro z;show D (by simp[z]))]) (by rw[d];simp);rw[d,y]at z;show z
abbrev TX:List Nat->Ou
 |[]=>FE
 |i::is=>Cv (ub i) (TX is)
inductive fz(X:Cx):List p8->List Nat->Prop where
 |nil:fz X [] []
 |cons {e:p8} {es:List p8} {i:Nat} {is:List Nat} (h:sY X e i) (t:fz X es is):fz X (e::es) (i::is)
def wK(a:X.N.Nodup)(h:fz X es is):O0 X es (TX is):=by
 induction h with
 |nil=>show Aq
 |cons h t b =>
  have⟨x,pos,rfl,c,d,e⟩:=h.is;show xv (uc a c d e) b rfl
def sZ(h:fz X es is):(Q2 es X.env).length=is.length/\(Q2 es X.env).findIdx? (·.1)=b5:=by
 induction h with
 |nil=>show⟨rfl,rfl⟩
 |cons h t a =>
  have⟨x,pos,rfl,b,c,d⟩:=h.is;show⟨?_,?_⟩
  .change(_::_).length=_;simp[a.1]
  .change Za _ (_::_)=b5;rw[List.findIdx?_cons,Ś (by simp),a.2];rfl
theorem uS(hk:kE k=k)(h:Ok C c0):∀{is:List Nat}{us:List U}{vs:List V}{c:Cf}{d:Unit->aA->Prop}{Q:L2.St->Hp->Prop},Ok C c->Nx c0 c->(∀i∈is,i<c.σ.length)->ao C (SK C c k) c.H us vs->W (sets is (us.map λu=>(k,u))) c.st d ->
  (∀b,d () b.st->Ok C b->Nx c0 b->(∀j,j∉is->b.σ[j]?=c.σ[j]?)->b.σ.length=c.σ.length->Q b.σ b.H)->TX is vs c.σ c.H Q
 |[],[],vs,c,d,Q,ok,n,f,a,w,q=>by
  rw[show sets [] (RH (λu=>(k,u)) [])=pure () from rfl,aj]at w;show⟨a,q c w ok n (λ_ _=>rfl) rfl⟩
 |[],u::us,vs,c,d,Q,ok,n,f,a,w,q=>(bA.mp w).elim
 |i::is,[],vs,c,d,Q,ok,n,f,a,w,q=>(bA.mp w).elim
 |i::is,u::us,vs,c,d,Q,ok,n,f,a,w,q=>by
  rw[show sets (i::is) (RH (λu=>(k,u)) (u::us))=dJ i (k,u) >>= λ_=>sets is (us.map λu=>(k,u)) from rfl,ah]at w;have⟨v,r,rfl,l,m⟩:=a;have o:k=.own\/k=.loc\/k=.any:=by cases k<;>simp[kE]at hk<;>simp
  have D:k≠.own:=by cases k<;>simp[kE]at hk<;>simp
  have rt:aT C c0 c k u v:=by rw[<-hk];show aT.item l
  have⟨s,t⟩:=ok.put n (f i (by simp)) o h rt;have es:dJ i (k,u)=λst=>a0 (.ok (),st.set i (a0 (k,u))):=by cases k<;>simp[kE]at hk<;>rfl
  obtain⟨_,st',e,x⟩:=w;rw[es]at e;cases e;show⟨v,r,rfl,uS (c:={c with σ:=c.σ.set i (a0 v),st:=c.st.set i (a0 (k,u))}) hk h s t (λj g=>by simpa using f j (by simp[g])) (by cases k<;>show m) x λb p y A B hl=>?_⟩;show q b p y A (λj g=>?_) (by rw[hl];simp);rw[B j (λz=>g (by simp[z])),nH (λz=>g (by simp[z]))]
def Gb(m:X.calm=b6)(o:C.K=X.K)(q:X.N.Nodup)(h:fz X es is)(hl:∀i∈is,i<X.N.length):PG X (.Tuple es Y pos) (tG C b6 is):=by
 rintro a s σ H v u Q I rv ⟨c0,c,r,rfl,rfl,t,f,n,d,w⟩;have⟨y,z⟩:=sZ h;show Dp m (wK q h) y z a s c.σ c.H v u Q I rv ?_;have⟨k,A⟩:=r;cases A with
 |tup us =>
  rw[show dB b6 is (k,.tup us)=sets is (us.map λu=>(kE k,u)) from by cases is<;>rfl]at w;have⟨a',vs,rfl,g,j⟩:=d.tuple f;rw[o]at g;have b:us.length=is.length:=by
   have e:∀(is:List Nat) (l:List (Kd×U)) (st:aA) (P:Unit->aA->Prop),W (sets is l) st P->l.length=is.length:=by
    intro is;induction is with
    |nil=>intro l st P w;cases l with
     |nil=>rfl
     |cons _ _=>show(bA.mp w).elim
    |cons i is B=>intro l st P w;cases l with
     |nil=>show(bA.mp w).elim
     |cons x l =>
      rw[show sets (i::is) (x::l)=dJ i x >>= λ_=>sets is l from rfl,ah]at w;obtain⟨_,_,_,w⟩:=w;rw[mh,mh,B l _ _ w]
   simpa using e _ _ _ _ w
  show⟨a',vs,rfl,g,by rw[<-j.len,b],?_⟩;show uS (k:=kE k) (by cases k<;>rfl) t f n (λi D=>by rw[I.len];show hl i D) (by cases k<;>show j) w λG p J L O T=>p G rfl J L O T
 |_=>cases is<;>show(bA.mp w).elim
end
section
variable{X:Cx}{C:Ct}{pins:List (i5×Obj)}{s:gj}{c0 c c1:Cf}
variable{a b d e o tg iter elt:p8}{es ifs:List p8}{m ma mb md me:M (Kd×U)}{ms:M (List (Kd×U))}{ta tb tc:M Bool}{pos p p2 apos Ij:Pos}
def wL{m:M α}{st:aA}{Q:α->aA->Prop}:W (inScope k m) st Q↔W m (nz k b5++st) λa st'=>Q a (st'.drop k):=by
 constructor
 .rintro⟨a,st',e,h⟩;unfold inScope at e;cases q:m (nz k b5++st) with
  |none=>rw[q]at e;cases e
  |some r=>have⟨g,f⟩:=r;rw[q]at e;cases e;show⟨a,f,q,h⟩
 .rintro⟨a,st',e,h⟩;show⟨a,st'.drop k,by unfold inScope;rw[e],h⟩
abbrev Cf.ext(k:Nat)(c:Cf):Cf:={c with σ:=nz k b5++c.σ,st:=nz k b5++c.st,kid:=λj=>c.kid (j - k)}
abbrev Cf.cut(k:Nat)(c:Cf):Cf:={c with σ:=c.σ.drop k,st:=c.st.drop k,kid:=λj=>c.kid (k+j)}
def gA(h:(nz k b5++l)[j]?=a0 (a0 x)):∃i,j=k+i/\l[i]?=a0 (a0 x):=by
 by_cases f:j<k
 .rw[G' (by simpa using f)]at h;rw[NP]at h;rw[Ř f]at h;cases h
 .show⟨j - k,⋯,?_⟩;rw[uv (by simp;lia)]at h;simpa using h
def fA:(nz k b5++l)[k+i]?=l[i]?:=by
 rw[uv (by simp)];simp
def yI:(c.ext k).R1 r↔c.R1 r:=by
 constructor
 .rintro⟨j,g,u,h,l,f⟩;have⟨i,rfl,e⟩:=gA l;rw[Cf.ext,fA]at f;show⟨i,g,u,h,e,f⟩
 .rintro⟨i,g,u,h,l,f⟩;show⟨k+i,g,u,h,by rw[Cf.ext,fA];show l,by rw[Cf.ext,fA];show f⟩
def pK{a:i5}(h:(c.ext k).RD j a):∃i,j=k+i/\c.RD i a:=by
 have⟨u,r,l,f,g⟩:=h;have⟨i,rfl,e⟩:=gA l;rw[Cf.ext,fA]at f;show⟨i,rfl,u,r,e,f,?_⟩;have:(c.ext k).kid (k+i)=c.kid i:=by change c.kid (k+i - k)=_;rw[Zv]
 rw[this]at g;show g
def Ge(h:(c.ext k).R r):c.R r:=by
 rcases h with h|⟨j,h⟩
 .show .inl (yI.mp h)
 .obtain⟨i,_,h⟩:=pK h;show .inr ⟨i,h⟩
def Ok.ext(k:Nat)(f:Ok C c):Ok C (c.ext k)/\Nx c (c.ext k):=by
 show⟨⟨f.same,f.Ku,f.par,f.io,by simp[Cf.ext,f.len],λj A u e=>?_,λi j k1 k2 u u' r B D l g y z=>?_,⟨λj u r l g=>?_,λi j a n q=>?_,λj a n q=>?_⟩⟩,⟨⟨λ_ _ h _=>h,λ_ o h=>⟨o,h⟩,λa h=>.inl (Ge h),λ_ h=>h,λ_ h=>.inl h⟩,λ_ _ h=>h⟩⟩
 .have⟨i,rfl,G⟩:=gA e;have⟨v,l,g⟩:=f.sl i A u G;show⟨v,by rw[Cf.ext,fA];show l,g⟩
 .have⟨t,rfl,H⟩:=gA l;have⟨w,rfl,I⟩:=gA g;rw[Cf.ext,fA]at y z;rw[f.inj t w k1 k2 u u' r B D H I y z]
 .have⟨i,rfl,e⟩:=gA l;rw[Cf.ext,fA]at g;have:(c.ext k).kid (k+i)=c.kid i:=by change c.kid (k+i - k)=_;rw[Zv]
  rw[this];show f.dd.kd i u r e g
 .have⟨t,rfl,x⟩:=pK n;have⟨w,rfl,J⟩:=pK q;rw[f.dd.dj t w a x J]
 .have⟨i,rfl,x⟩:=pK n;show f.dd.d1 i a x (yI.mp q)
def yJ{a:i5}(h:(c.cut k).R1 a):c.R1 a:=by
 have⟨j,i,u,l,f,g⟩:=h;rw[Cf.cut,Na]at f g;show⟨k+j,i,u,l,f,g⟩
def pL{a:i5}(h:(c.cut k).RD j a):c.RD (k+j) a:=by
 have⟨u,r,f,g,i⟩:=h;rw[Cf.cut,Na]at f g;show⟨u,r,f,g,i⟩
def Ok.cut(k:Nat)(f:Ok C c):Ok C (c.cut k)/\Nx c (c.cut k):=by
 show⟨⟨f.same,f.Ku,f.par,f.io,by simp[Cf.cut,f.len],λj x u e=>?_,λi j k1 k2 u u' r y A g l t w=>?_,⟨λj u r g l=>?_,λi j a n q=>?_,λj a n q=>f.dd.d1 _ a (pL n) (yJ q)⟩⟩,⟨⟨λ_ _ h _=>h,λ_ o h=>⟨o,h⟩,λa h=>.inl (h.elim (λz=>.inl (yJ z)) λ⟨j,z⟩=>.inr ⟨k+j,pL z⟩),λ_ h=>h,λ_ h=>.inl h⟩,λ_ _ h=>h⟩⟩
 .rw[Cf.cut,Na]at e;have⟨v,g,l⟩:=f.sl _ x u e;show⟨v,by rw[Cf.cut,Na];show g,l⟩
 .rw[Cf.cut,Na]at g l t w;have:=f.inj _ _ k1 k2 u u' r y A g l t w;lia
 .rw[Cf.cut,Na]at g l;show f.dd.kd _ u r g l
 .have:=f.dd.dj _ _ a (pL n) (pL q);lia
def By(h:∀j,j∉hA k->g[j]?=(nz k b5++σ)[j]?)(hl:g.length=(nz k (b5:Option V)++σ).length):∃f:L2.St,f.length=k/\g=f++σ:=by
 show⟨g.take k,by rw[KP,hl];simp,?_⟩;apply List.ext_getElem?;intro j;by_cases i:j<k
 .rw[G' (by rw[KP,hl];simp;lia),List.getElem?_take,Ř i]
 .rw[h j (by simpa using i),uv (by simp;lia),uv (by rw[KP,hl];simp;lia)];congr 1
  rw[KP,hl];simp
def nN(e1:c1.σ=c0.σ)(IA:Ok C c1)(n1:Nx c0 c1)(hw:Walk C c1 rs xs J)(h3:W (bN k t tc me rs xs []) c1.st λus st'=>W (pure (Kd.own,U.lst us)) st' (cD C c0 Q)):
  ui k J (tG C t (hA k)) (JP C tc) (Iv C me) Q c0.σ c1.H:=by
 show⟨λi m ys H=>∃c f,c.H=H/\c.σ=c0.σ/\Ok C c/\Nx c1 c/\m=xs.length - i/\i<=xs.length/\ao C c.S c.H f ys/\f.length<=dV/\W (bN k t tc me rs (xs.drop i) f) c.st λus st'=>W (pure (Kd.own,U.lst us)) st' (cD C c0 Q),⟨xs.length,c1,[],rfl,e1,IA,Nx.refl c1,by simp,mu _,rfl,mu _,by simpa using h3⟩,?_⟩;rintro i m ys H ⟨c,f,rfl,G,y,A,rfl,hi,h,l,w⟩;show⟨by rw[<-h.len];show l,?_⟩;have g:jT rs c1 c:=λj u _=>by rw[G,e1]
 by_cases I:i<xs.length
 .right
  rw[Ta I]at w;rw[show bN k t tc me rs (xs[i]::xs.drop (i+1)) f=aO rs >>= λ_=>inScope k (dB t (hA k) xs[i] >>= λ_=>tc >>= λb=>if b=b6 then(me >>= λr=>lift r >>= λu=>pure (a0 u)) else pure b5) >>= λr=>match r with|some u=>if f.length<dV then bN k t tc me rs (xs.drop (i+1)) (f++[u]) else M.fail|none=>bN k t tc me rs (xs.drop (i+1)) f from rfl,ah,cR]at w;have⟨Mj,w⟩:=w;obtain⟨L,_⟩:=hw c y A g Mj;have⟨TY,OO,Ri⟩:=L i xs[i] (by simp[I]);show⟨OO,λKf H'=>∃c f,c.H=H'/\c.σ=c0.σ/\Ok C c/\Nx c1 c/\ao C c.S c.H f Kf/\f.length<=dV/\W (bN k t tc me rs (xs.drop (i+1)) f) c.st λus st'=>W (pure (Kd.own,U.lst us)) st' (cD C c0 Q),λKf H' ⟨c',PD,z1,z2,z3,z4,z5,z6,z7⟩=>⟨xs.length - (i+1),⋯,c',PD,z1,z2,z3,z4,rfl,I,z5,z6,z7⟩,λx H' hy=>?_⟩;have⟨n,rfl,e4,e5,Ja,n2,rt⟩:=Ri x H' hy;rw[ah,wL,ah]at w;have⟨VI,nx⟩:=Ja.ext k;have X3:aT C (n.ext k) (n.ext k) xs[i].1 xs[i].2 x:=by
   rcases TY with z|z
   .rw[z]at rt ⊢;show rt
   .rw[z]at rt ⊢;show rt
  have eσ:(n.ext k).σ=nz k b5++c0.σ:=by rw[Cf.ext];change nz k b5++n.σ=_;rw[e4,G]
  show⟨n.ext k,n.ext k,xs[i],eσ,rfl,VI,VI,Nx.refl _,X3,?_⟩;have TZ:(n.ext k).st=nz k b5++c.st:=by rw[Cf.ext];change nz k b5++n.st=_;rw[e5]
  rw[TZ];show w.mono λ_ st3 w3 c3 e6 KY n3 Qb KZ=>?_;subst e6;rw[eσ]at Qb KZ;have⟨N,O,T⟩:=By Qb KZ;show⟨N,O,T,?_⟩;have VJ:Nx c c3:=(n2.trans nx).trans n3;rw[ah]at w3;show⟨c3,rfl,rfl,KY,w3.mono λb Oy q D e7 e8 Y n4=>?_⟩;subst e8;cases b with
  |false =>
   rw[Ś oO]at q ⊢;rw[aj]at q;have⟨T1,nk⟩:=Y.cut k;have nn:Nx c (D.cut k):=(VJ.trans n4).trans nk;show⟨D.cut k,f,rfl,?_,T1,A.trans nn,h.mv (y.mv nn),l,q⟩;change D.σ.drop k=_;rw[e7,T,Xt O]
  |true =>
   rw[Ř rfl]at q ⊢;rw[ah]at q;show⟨D,e7,rfl,Y,q.mono λr LA w5 c5 v e9 X4 X5 n5 X6=>?_⟩;subst X4;rw[ah]at w5;obtain⟨S',st',u,sS,X7,n6,T2,B,_,_⟩:=gz Y X5 n5 X6.w w5;rw[aj]at B
   dsimp only at B
   split at B
   .rename_i hz;have⟨T1,nk⟩:=X7.cut k;have nn:Nx c (Cf.cut k {c5 with S:=S',st:=st' }):=((VJ.trans n4).trans n6).trans nk;show⟨Cf.cut k {c5 with S:=S',st:=st' },f++[u],rfl,?_,T1,A.trans nn,(h.mv (y.mv nn)).snoc T2,by rw[i4];show hz,B⟩;change c5.σ.drop k=_;rw[e9,T,Xt O]
   .show(bA.mp B).elim
 .left
  have J6:i=xs.length:=by lia
  subst J6;rw[ó,show bN k t tc me rs [] f=aO rs >>= λ_=>pure f from rfl,ah,cR,aj,aj]at w;obtain⟨_,L⟩:=hw c y A g w.1;show⟨L _ (lg _),λp hp=>cD.list w.2 G y (n1.trans A) h p hp⟩
def nO(l:Ok C c0)
  (h:W (ms >>= λrs=>aO rs >>= λ_=>M.IQ (JX ik rs) >>= λxs=>bN k t tc me rs xs [] >>= λus=>pure (Kd.own,U.lst us)) c0.st (cD C c0 Q)) :
  xS k (Mi C ik ms) (tG C t (hA k)) (JP C tc) (Iv C me) c0.σ c0.H Q:=by
 rw[ah]at h;show⟨c0,rfl,rfl,l,?_⟩;rw[ah];show h.mono λrs st1 f=>?_;rw[ah,cR]at f ⊢;show⟨f.1,?_⟩;have g:=f.2;rw[ah]at g ⊢;show g.mono λxs st2 i=>?_;rw[aj];intro c1 J n q r u v j;rw[ah]at i;subst q
 dsimp only at v j
 show nN n r u j i
def yK(S:cU X N own scope)(f:X.calm=b6)(g:PI X tg iter (Mi C ik ms))
  (i:∀D s H ex,PG (JD X N scope D s H ex) tg (tG C t (hA own.length))) (j:∀D s H ex,Ms (JD X N scope D s H ex) ifs (JP C tc)) (k:∀D s H ex,PE (JD X N scope D s H ex) elt (Iv C me))
  (hs:∀x,NF iter X.env x=pure x) :
  PE X (.ListComp elt [⟨tg,iter,ifs,0⟩] scope pos) (Iv C (ms >>= λrs=>aO rs >>= λ_=>M.IQ (JX ik rs) >>= λxs=>bN own.length t tc me rs xs [] >>= λus=>pure (.own,.lst us))):=by
 show PE.weak (uj S f g i j k hs) ?_;rintro σ H Q ⟨c0,rfl,rfl,l,h⟩;show nO l h
end
section
variable{a b d e o tg iter elt:p8}{es ifs:List p8}{m ma mb md me:M (Kd×U)}{ms:M (List (Kd×U))}{ta tb tc:M Bool}{pos p p2 apos Ij:Pos}{st:Pc}{rest body:List Pc}{f g mm:M Fl}{ns Rj:Nat->Bool}
def Gf(C:Ct)(c:Cf):Kd->U->V->Prop
 |.own,u,v=>∃r,v=.ref r/\C.H₀ r=b5/\¬c.S r/\¬c.R r/\dY C c.S c.H r u
 |.loc,u,v=>Rep C c.S c.H u v
 |.any,u,v=>Rep C (PS C c.S) c.H u v
 |_,_,_=>False
abbrev Fin(C:Ct)(D:Ends)(f:Fl)(c:Cf):Prop:=match f with
 |.nx=>D.nx c.σ c.H
 |.bk=>D.bk c.σ c.H
 |.ct=>D.ct c.σ c.H
 |.rt k u=>∀v,Gf C c k u v->D.rt v c.H
abbrev Kept(ns:Nat->Bool)(c h:Cf):Prop:=(∀j,ns j=b6->h.σ[j]?=c.σ[j]?)/\h.σ.length=c.σ.length
def Kept.refl:Kept ns c c:=⟨λ_ _=>rfl,rfl⟩
def Kept.trans(h:Kept ns c i)(h':Kept ns i k):Kept ns c k:=⟨λj z=>(h'.1 j z).trans (h.1 j z),h'.2.trans h.2⟩
def Kept.le(i:∀j,Rj j=b6->ns j=b6)(h:Kept ns c k):Kept Rj c k:=⟨λj z=>h.1 j (i j z),h.2⟩
def Kept.of(h:i.σ=c.σ):Kept ns c i:=⟨λj z=>by rw[h],by rw[h]⟩
abbrev jU(C:Ct)(c0:Cf)(ns:Nat->Bool)(D:Ends)(f:Fl)(st':aA):Prop:=∀c,c.st=st'->Ok C c->Ns c0 c->Kept ns c0 c->Fin C D f c
abbrev Js(C:Ct)(ns:Nat->Bool)(m:M Fl):TS:=λD σ H=>∃c0:Cf,c0.σ=σ/\c0.H=H/\Ok C c0/\W m c0.st (jU C c0 ns D)
def s9(c:Ok C c1)(n:Ns c0 c1)(k:Kept ns c0 c1)(h:W mm c1.st (jU C c0 ns D)):Js C ns mm D c1.σ c1.H :=
 ⟨c1,rfl,rfl,c,h.mono λf st i j e l q k2=>i j e l (n.trans q) (k.trans k2)⟩
def PS.weak(h:L2.PS X st t)(i:∀D σ H,t' D σ H->t D σ H):L2.PS X st t':=λc s σ H D I q=>h c s σ H D I (i D σ H q)
def JK.weak(h:JK X rest t)(i:∀D σ H,t' D σ H->t D σ H):JK X rest t':=λc s σ H D I q=>h c s σ H D I (i D σ H q)
def pM(i:∀j,Rj j=b6->ns j=b6)(h:Js C Rj mm D σ H):Js C ns mm D σ H :=
 let ⟨c0,c,k,l,w⟩:=h;⟨c0,c,k,l,w.mono λf st n q e r s k2=>n q e r s (k2.le i)⟩
def Gg:JK X [] (Js C ns (pure .nx)):=by
 show JK.weak An ?_;rintro D σ H ⟨c0,rfl,rfl,c,h⟩;rw[aj]at h;show h c0 rfl c (Ns.refl c0) Kept.refl
abbrev BA(m:M Fl)(f:Fl):M Fl:=match f with
 |.nx=>m
 |f=>pure f
def Eu(j:L2.PS X st (Js C ns f))(l:JK X rest (Js C ns g)):JK X (st::rest) (Js C ns (f >>= BA g)):=by
 show JK.weak (xq j l) ?_;rintro D σ H ⟨c0,rfl,rfl,n,h⟩;rw[ah]at h;show⟨c0,rfl,rfl,n,h.mono λq st1 w c1 e c i k1=>?_⟩;subst e;cases q with
 |nx=>show s9 c i k1 w
 |bk=>rw[show BA g .bk=pure .bk from rfl,aj]at w;show w c1 rfl c i k1
 |ct=>rw[show BA g .ct=pure .ct from rfl,aj]at w;show w c1 rfl c i k1
 |rt k u=>rw[show BA g (.rt k u)=pure (.rt k u) from rfl,aj]at w;show w c1 rfl c i k1
def Gh:L2.PS X (.Break pos) (Js C ns (pure .bk)):=by
 show PS.weak xr ?_;rintro D σ H ⟨c0,rfl,rfl,c,h⟩;rw[aj]at h;show h c0 rfl c (Ns.refl c0) Kept.refl
def Gi:L2.PS X (.Continue pos) (Js C ns (pure .ct)):=by
 show PS.weak qt ?_;rintro D σ H ⟨c0,rfl,rfl,c,h⟩;rw[aj]at h;show h c0 rfl c (Ns.refl c0) Kept.refl
def Gj:L2.PS X (.Pass pos) (Js C ns (pure .nx)):=by
 show PS.weak Ao ?_;rintro D σ H ⟨c0,rfl,rfl,c,h⟩;rw[aj]at h;show h c0 rfl c (Ns.refl c0) Kept.refl
def Gk(i:PE X a (Iv C ma))(hs:R6 a b5 pos.line X.env=pure cb):L2.PS X (.Expr a pos) (Js C ns (ma >>= λ_=>pure .nx)):=by
 show PS.weak (kr i hs) ?_;rintro D σ H ⟨c0,rfl,rfl,j,h⟩;show aW j h λx c v t w=>?_;rw[aj]at w;have:=w c rfl t.ok t.nx (Kept.of t.hσ);rw[<-t.hσ];show this
def Ew:L2.PS X (.Return b5 pos) (Js C ns (pure (.rt .loc .Iy))):=by
 show PS.weak Ap ?_;rintro D σ H ⟨c0,rfl,rfl,c,h⟩;rw[aj]at h;show h c0 rfl c (Ns.refl c0) Kept.refl .Iy rfl
def yL(ok:Ok C c0)(t:Nj C c0 c x v)(w:W (retS x) c.st (jU C c0 ns D)):D.rt v c.H:=by
 have⟨k,u⟩:=x;have⟨G,l,n,r⟩:=t;cases k with
 |own =>
  rw[show retS (.own,u)=pure (.rt .own u) from rfl,aj]at w;have⟨B,e,h1,h2,h3,h4⟩:=r;show w c rfl l n (Kept.of G) v ⟨B,e,(ok.lI h1).1,h2,h3,h4⟩
 |loc =>
  rw[show retS (.loc,u)=pure (.rt .loc u) from rfl,aj]at w;show w c rfl l n (Kept.of G) v r
 |any =>
  rw[show retS (.any,u)=if IY u=b6 then pure (.rt .loc u) else pure (.rt .any u) from rfl]at w;split at w
  .rw[aj]at w;show w c rfl l n (Kept.of G) v (Rep.IY (by assumption) r)
  .rw[aj]at w;show w c rfl l n (Kept.of G) v r
 |bor j =>
  have⟨fl,st',e,w⟩:=w;rw[show retS (.bor j,u) c.st=match c.st[j]? with|some (a0 (.own,u))=>a0 (Ex.ok (Fl.rt .own u),c.st.set j b5)|_=>b5 from rfl]at e;split at e
  .rename_i u' J;cases e;have Lw:j<c.st.length:=(eW.mp J).1;have A:∀(i:Nat) k u',(c.st.set j b5)[i]?=a0 (a0 (k,u'))->i≠j/\c.st[i]?=a0 (a0 (k,u')):=λi k u' e=>by
    by_cases L:i=j
    .subst L;rw[hU Lw]at e;cases e
    .rw[nH (vu L)]at e;show⟨L,e⟩
   have⟨v',s,B,er,q1,q2,q3,q4⟩:=l.sl j _ _ J;have N:c.σ[j]?=a0 (a0 v):=r.2;rw[N]at s;cases s;subst er;have Q:∀a,({c with st:=c.st.set j b5}:Cf).R1 a->c.R1 a:=λa ⟨i,k,h,hk,s,y⟩=>⟨i,k,h,hk,(A i k h s).2,y⟩
   have hR:∀a,({c with st:=c.st.set j b5}:Cf).R a->c.R a:=λa z=>z.elim (λz=>.inl (Q a z)) λ⟨i,h,O,s,y,I⟩=>.inr ⟨i,h,O,(A i .F' h s).2,y,I⟩;have Lv:LG C {c with st:=c.st.set j b5}:=l.dd.of rfl (λi h e=>⟨(A i .F' h e).2,rfl⟩) (λa z=>.inl (Q a z)) (.up λ_ z=>z) λi a z=>⟨(l.root (.inr ⟨i,z⟩)).1,λo q=>q⟩
   have X8:Ok C {c with st:=c.st.set j b5}:=⟨l.same,l.Ku,l.par,l.io,by simp[l.len],λi k h e=>l.sl i k h (A i k h e).2,λi T k k' Y h r hk JN s y I e4=>l.inj i T k k' Y h r hk JN (A i k Y s).2 (A T k' h y).2 I e4,Lv⟩
   have nn:Ns c0 {c with st:=c.st.set j b5}:=⟨n.keep,n.there,λa z=>n.roots a (hR a z),n.sub,n.new⟩
   show w {c with st:=c.st.set j b5} rfl X8 nn (Kept.of G) (.ref B) ⟨B,rfl,q3,q1,λz=>?_,q4⟩
   .rcases z with⟨i,k,h,hk,s,y⟩|⟨i,h,O,s,y,I⟩
    .have⟨ne,JA⟩:=A i k h s;show ne (l.inj i j k .own h _ B hk rfl JA J y N)
    .show l.dd.d1 i B ⟨h,O,(A i .F' h s).2,y,I⟩ ⟨j,.own,_,rfl,J,N⟩
  .cases e
 |_=>show r.elim
def Gm(j:PE X a (Iv C ma)):L2.PS X (.Return (a0 a) pos) (Js C ns (ma >>= retS)):=by
 show PS.weak (xu j) ?_;rintro D σ H ⟨c0,rfl,rfl,i,h⟩;show aW i h λx c v t w=>yL i t w
end
section
def lP(e:∀j,ns j=b6->j≠i)(f:Ok C c0)(t:Nj C c0 c r v)(g:i<c.σ.length)(w:W (dJ i r >>= λ_=>(pure .nx:M Fl)) c.st (jU C c0 ns D)):D.nx (c0.σ.set i (a0 v)) c.H:=by
 rw[ah]at w;have⟨a,b,h,k,l,q⟩:=uR (r:=r) f t.ok t.nx g t.rx w;rw[aj]at q;have z:=q a rfl k l ⟨λj m=>by rw[b,t.hσ,nH (vu (e j m))],by rw[b,t.hσ];simp⟩;have d:D.nx a.σ a.H:=z;rw[b,h,t.hσ]at d;show d
def CI(g:∀j,ns j=b6->j≠i)(k:X.N.Nodup)(e:X.N[i]?=a0 x)(l:Loc X.env.scope x)(m:X.fn x=b6\/X.env.scope.names.lookup x=a0 .local)(n:PE X a (Iv C o))
  (hs:R6 a (a0 (.Name x b)) pos.line X.env=pure cb):L2.PS X (.Assign [.Name x b] a pos) (Js C ns (o >>= λr=>dJ i r >>= λ_=>pure .nx)):=by
 rintro d s σ H D I ⟨c0,rfl,rfl,f,h⟩;have p:i<c0.σ.length:=by rw[I.len];show(eW.mp e).1
 show xx k e l n hs m d s c0.σ c0.H D I (aW f h λr c v t w=>lP g f t (by rw[t.hσ];show p) w)
def Ey(l:∀j,ns j=b6->j≠i)(S:cU X N own scope)(m:X.calm=b6)(o:X.N.Nodup)(f:X.N[i]?=a0 y)(p:X.env.scope.names.lookup y=a0 .local)
  (q:PI X e a (Mi C ik ms)) (u:∀D s H ex,PG (JD X N scope D s H ex) e (tG C t (hA own.length))) (z:∀D s H ex,Ms (JD X N scope D s H ex) b (JP C A)) (B:∀D s H ex,PE (JD X N scope D s H ex) elt (Iv C G))
  (J:R6 (.ListComp elt [⟨e,a,b,0⟩] scope pos) (a0 (.Name y L)) O.line X.env=pure b6) (hs:∀x,NF a X.env x=pure x) :
  L2.PS X (.Assign [.Name y L] (.ListComp elt [⟨e,a,b,0⟩] scope pos) O)
   (Js C ns ((ms >>= λrs=>aO rs >>= λ_=>M.IQ (JX ik rs) >>= λxs=>bN own.length t A G rs xs [] >>= λus=>pure (.own,.lst us)) >>= λr=>dJ i r >>= λ_=>pure .nx)):=by
 rintro d s σ H D I ⟨c0,rfl,rfl,g,h⟩;have Q:i<c0.σ.length:=by rw[I.len];show(eW.mp f).1
 show AM S m o f p q u z B J hs d s c0.σ c0.H D I ?_;rw[ah]at h;show nO g (h.mono λr st1 w c v k T Y n rt=>?_);subst T;show lP l g ⟨k,Y,n,rt⟩ (by rw[k];show Q) w
def Ez(g:∀j,ns j=b6->j∉is)(i:PE X a (Iv C k))(l:PG X b (tG C b6 is))(hs:R' [b] a pos.line X.env=pure cb)(m:WI [b] a X.env=pure b5)(n:(Q2 [b] X.env).map (·.2)=[TK b X.env]):
  L2.PS X (.Assign [b] a pos) (Js C ns (k >>= λr=>dB b6 is r >>= λ_=>pure .nx)):=by
 show PS.weak (se i l hs m n) ?_;rintro D σ H ⟨c0,rfl,rfl,d,h⟩;show aW d h λr c v t w=>?_;rw[ah]at w;show⟨c0,c,r,t.hσ,rfl,d,t.ok,t.nx,t.rx,w.mono λ_ st1 f o e p q s hl=>?_⟩;subst e;rw[aj]at f;show f o rfl p q ⟨λj u=>by rw[s j (g j u),t.hσ],by rw[hl,t.hσ]⟩
def Gn(i:PT X a (JP C j))(k:JK X l (Js C ns f))(m:JK X o (Js C ns g)):L2.PS X (.If a l o pos) (Js C ns (j >>= λp=>if p=b6 then f else g)):=by
 show PS.weak (FD i k m) ?_;rintro D σ H ⟨c0,rfl,rfl,q,h⟩;show eU q h λp c b d n w=>?_;have e:c0.σ=c.σ:=b.symm;rw[e];cases p with
 |true=>rw[Ř rfl]at w ⊢;show s9 d n (Kept.of b) w
 |false=>rw[Ś oO]at w ⊢;show s9 d n (Kept.of b) w
def Gp(J:Y2 (kj X.prog X.w) X.A X.env X.xe)(L:PT X a (JP C d))(N:JK X body (Js C ns f)):L2.PS X (.While a body [] pos) (Js C ns (fO d f n)):=by
 show PS.weak (xA J L N) ?_;rintro D σ H ⟨c0,rfl,rfl,O,h⟩;show⟨λm s H'=>∃c,c.H=H'/\c.σ=s/\Ok C c/\Ns c0 c/\Kept ns c0 c/\W (fO d f m) c.st (jU C c0 ns D),⟨n,c0,rfl,rfl,O,Ns.refl c0,Kept.refl,h⟩,?_⟩;rintro m s H' ⟨c,rfl,rfl,Q,t,v,w⟩;cases m with
 |zero=>show(bA.mp w).elim
 |succ m =>
  rw[show fO d f (m+1)=d >>= λb=>if b=b6 then(f >>= λf'=>match f' with|.nx=>fO d f m|.ct=>fO d f m|.bk=>pure .nx|.rt k u=>pure (.rt k u)) else pure .nx from rfl]at w;show eU Q w λp j x y B g=>?_;have k2:Kept ns c j:=Kept.of x;rw[<-x];cases p with
  |false =>
   rw[Ś oO]at g ⊢;rw[aj]at g;show g j rfl y (t.trans B) (v.trans k2)
  |true =>
   rw[Ř rfl]at g ⊢;show⟨λG I=>∃c,c.H=I/\c.σ=G/\Ok C c/\Ns c0 c/\Kept ns c0 c/\W (fO d f m) c.st (jU C c0 ns D),λG I z=>⟨m,T3 m,z⟩,?_⟩;rw[ah]at g;show⟨j,rfl,rfl,y,g.mono λT st3 i l e o Y k3=>?_⟩;subst e;have q:=(t.trans B).trans Y;have r:=(v.trans k2).trans k3;cases T with
   |nx=>show⟨l,rfl,rfl,o,q,r,i⟩
   |ct=>show⟨l,rfl,rfl,o,q,r,i⟩
   |_=>rw[aj]at i;show i l rfl o q r
def Gq(hp:Y2 (kj X.prog X.w) X.A X.env X.xe)(hc:X.calm=b6)(hi:PI X tg a (Mi C ik ms))(hg:PG X tg (tG C t is))(hb:JK X body (Js C (KA q) f))(hs:∀x,NF a X.env x=pure x)
  (J1:∀j,ns j=b6->j∉is/\KA q j=b6) :
  L2.PS X (.For tg a body [] pos) (Js C ns (ms >>= λrs=>aO rs >>= λ_=>M.IQ (JX ik rs) >>= λxs=>if uI rs is q=b6 then forM t is f rs xs else M.fail)):=by
 show PS.weak (Dv hp hc hi hg hb hs) ?_;rintro D σ H ⟨c0,rfl,rfl,ok,h⟩;rw[ah]at h;show⟨c0,rfl,rfl,ok,?_⟩;rw[ah];show h.mono λrs st1 r=>?_;rw[ah,cR]at r ⊢;show⟨r.1,?_⟩;have h2:=r.2;rw[ah]at h2 ⊢;show h2.mono λxs st2 s=>?_;rw[aj];intro c1 J e1 e2 IA n1 IB v;subst e2
 dsimp only at IB v
 split at s
 .rename_i N5;have T5:∀j u,(Kd.bor j,u)∈rs->j∉is/\KA q j=b6:=λj u l=>by
   have:=tA.mp N5 _ l;simpa using this
  show⟨λi m d H'=>∃c,c.H=H'/\c.σ=d/\Ok C c/\Ns c1 c/\Kept ns c0 c/\jT rs c1 c/\m=xs.length - i/\i<=xs.length/\W (forM t is f rs (xs.drop i)) c.st (jU C c0 ns D),
   ⟨xs.length,c1,rfl,e1,IA,Ns.refl c1,Kept.of e1,λ_ _ _=>rfl,by simp,mu _,by simpa using s⟩,?_⟩
  rintro i m d H' ⟨c,rfl,rfl,y,n,kc,B,rfl,J6,w⟩;by_cases G:i<xs.length
  .right
   rw[Ta G,show forM t is f rs (xs[i]::xs.drop (i+1))=aO rs >>= λ_=>dB t is xs[i] >>= λ_=>f >>= λf'=>match f' with|.nx=>forM t is f rs (xs.drop (i+1))|.ct=>forM t is f rs (xs.drop (i+1))|.bk=>pure .nx|.rt k u=>pure (.rt k u) from rfl,ah,cR]at w;have⟨Mj,w⟩:=w;obtain⟨I,_⟩:=v c y n B Mj;have⟨TY,OO,Ri⟩:=I i xs[i] (by simp[G]);show⟨OO,λd H'=>∃c,c.H=H'/\c.σ=d/\Ok C c/\Ns c1 c/\Kept ns c0 c/\jT rs c1 c/\W (forM t is f rs (xs.drop (i+1))) c.st (jU C c0 ns D),λd H' ⟨c',z1,z2,z3,z4,z5,z6,z7⟩=>⟨xs.length - (i+1),⋯,c',z1,z2,z3,z4,z5,z6,rfl,G,z7⟩,λx H' hy=>?_⟩;have⟨g,rfl,o,e5,Ja,n2,rt⟩:=Ri x H' hy;rw[ah]at w;have X9:aT C g g xs[i].1 xs[i].2 x:=by
    rcases TY with z|z
    .rw[z]at rt ⊢;show rt
    .rw[z]at rt ⊢;show rt
   show⟨g,g,xs[i],o,rfl,Ja,Ja,Nx.refl g,X9,?_⟩;rw[e5];show w.mono λ_ st3 w3 c3 e6 KY n3 VN KZ=>?_;subst e6;rw[ah]at w3;show⟨c3,rfl,rfl,KY,w3.mono λfl Oy p b e L n4 N=>?_⟩;subst e;have O:Ns c1 b:=((n.trans n2.toNs).trans n3.toNs).trans n4;have Q:Kept ns c0 b:=by
    show kc.trans ⟨λj hj=>?_,by rw[N.2,KZ,o]⟩;have⟨T,Y⟩:=J1 j hj;rw[N.1 j Y,VN j T,o]
   have VO:jT rs c1 b:=λj u l=>by
    have⟨T,Y⟩:=T5 j u l;rw[N.1 j Y,VN j T,o];show B j u l
   cases fl with
   |nx=>show⟨b,rfl,rfl,L,O,Q,VO,p⟩
   |ct=>show⟨b,rfl,rfl,L,O,Q,VO,p⟩
   |_=>rw[aj]at p;show p b rfl L (n1.toNs.trans O) Q
  .left
   have X_:i=xs.length:=by lia
   subst X_;rw[ó,show forM t is f rs []=aO rs >>= λ_=>pure .nx from rfl,ah,cR,aj]at w;obtain⟨_,I⟩:=v c y n B w.1;show⟨I _ (lg _),w.2 c rfl y (n1.toNs.trans n) kc⟩
 .show(bA.mp s).elim
end
section
def Ok.mod(b:Ok C c)(n:Ns c0 c)(hk:k.root=b6)(y:c.st[i]?=a0 (a0 (k,u)))(D:c.σ[i]?=a0 (a0 (.ref r)))(IZ:∀a,a≠r->H' a=c.H a)(hr:∃o,H' r=a0 o)
  (new:Mv c.S c.H c.S H'->dY C c.S H' r u'):Ok C {c with H:=H',st:=c.st.set i (a0 (k,u'))}/\Ns c0 {c with H:=H',st:=c.st.set i (a0 (k,u'))}:=by
 have Lp:c.R1 r:=⟨i,k,u,hk,y,D⟩
 have hR:c.R r:=.inl Lp;have⟨I,q2,q3,o,ho,Ya⟩:=b.root hR;have J:i<c.st.length:=(eW.mp y).1;have m:∀{a:i5} {o':HO},a≠r->c.H a=a0 o'->H' a=a0 o':=λL e=>by rw[IZ _ L];show e
 have G:Mv c.S c.H c.S H':=⟨λ_ z=>z,λa o' e t=>m (λz=>by subst z;rw[ho]at e;cases e;show Ya t) e,λa o' z e=>m (λd=>I (d▸z)) e⟩
 have MA:Mv (PS C c.S) c.H (PS C c.S) H':=⟨λ_ z=>z,G.P6,λa o' z e=>m (λd=>by subst d;show z.elim q2 I) e⟩
 have N:∀(j:Nat) k' w,(c.st.set i (a0 (k,u')))[j]?=a0 (a0 (k',w))->j≠i->c.st[j]?=a0 (a0 (k',w)):=λj k' w e L=>by rw[nH (vu L)]at e;show e
 have f:∀(j:Nat) k' w,k'.root=b6->(c.st.set i (a0 (k,u')))[j]?=a0 (a0 (k',w))->∃O,c.st[j]?=a0 (a0 (k',O)):=λj k' w _ e=>by
  by_cases p:j=i
  .subst p;rw[hU J]at e;cases e;show⟨u,y⟩
  .show⟨w,N j k' w e p⟩
 have b1:∀a,({c with H:=H',st:=c.st.set i (a0 (k,u'))}:Cf).R1 a->c.R1 a:=λa ID=>by
  have⟨j,k',w,g,h,l⟩:=ID;have⟨O,Q⟩:=f j k' w g h;show⟨j,k',O,g,Q,l⟩
 have dD:∀(j:Nat) (w:U),(c.st.set i (a0 (k,u')))[j]?=a0 (a0 (.F',w))->c.st[j]?=a0 (a0 (.F',w)):=λj w e=>by
  by_cases p:j=i
  .subst p;rw[hU J]at e;cases e;cases hk
  .show N j .F' w e p
 have Lv:LG C {c with H:=H',st:=c.st.set i (a0 (k,u'))}:=b.dd.of rfl (λj w e=>⟨dD j w e,rfl⟩) (λa z=>.inl (b1 a z)) G λj a z=>⟨(b.root (.inr ⟨j,z⟩)).1,λo' e=>m (λd=>b.dd.d1 j a z (d▸Lp)) e⟩
 show⟨⟨λa o' e z=>?_,λa z=>?_,b.par,λa z=>?_,by simp[b.len],λj k' w e=>?_,λj1 j2 k1 k2 w1 w2 q g s h l T e4=>?_,Lv⟩,n.trans ⟨λa o' e z=>m (λd=>z (d▸hR)) e,λa o' e=>?_,λa z=>?_,λ_ z=>z,λ_ z=>.inl z⟩⟩
 .have g:=b.same a o' e z;show m (λd=>?_) g;subst d;rcases q3 with q3|q3
  .rw[e]at q3;cases q3
  .show z q3
 .have⟨g,o',s⟩:=b.Ku a z;show⟨g,o',m (λd=>I (d▸z)) s⟩
 .have⟨g,o',s⟩:=b.io a z;show⟨g,?_⟩;by_cases A:a=r
  .subst A;show hr
  .show⟨o',m A s⟩
 .by_cases p:j=i
  .subst p;rw[hU J]at e;cases e;have⟨v,h,l⟩:=b.sl j _ _ y;rw[D]at h;cases h;show⟨.ref r,D,?_⟩;have nr:=new G;cases k with
   |own=>obtain⟨q,x,B,Y,z3,_⟩:=l;cases x;show⟨r,rfl,B,Y,z3,nr⟩
   |io=>obtain⟨q,x,B,Y,z3,_⟩:=l;cases x;show⟨r,rfl,B,Y,z3,nr⟩
   |_=>cases hk
  .have e0:=N j k' w e p;have⟨v,h,l⟩:=b.sl j k' w e0;show⟨v,h,l.mv G MA λJN q x=>?_⟩;obtain⟨P_,J3,B,_⟩:=l.rt JN;rw[x]at J3;cases J3;show⟨B,λo' e=>m (λz=>?_) e⟩;subst z;show p (b.inj j i k' k w u q JN hk e0 y (by rw[h,x]) D)
 .have⟨Rk,Q⟩:=f j1 k1 w1 g h;have⟨VP,a2⟩:=f j2 k2 w2 s l;show b.inj j1 j2 k1 k2 Rk VP q g s Q a2 T e4
 .by_cases A:a=r
  .subst A;show hr
  .show⟨o',m A e⟩
 .rcases z with z|⟨j,w,q,h,l,T⟩
  .show .inl (.inl (b1 a z))
  .show .inl (.inr ⟨j,w,q,dD j w h,l,T⟩)
def gB{f:U->Option U}{st:aA}(h:W (modS i f) st Q):∃k u u',k.root=b6/\st[i]?=a0 (a0 (k,u))/\f u=a0 u'/\Q () (st.set i (a0 (k,u'))):=by
 obtain⟨_,st',e,q⟩:=h;unfold modS at e;split at e
 .rename_i k u hs;split at e
  .rename_i hk;cases a:f u with
   |none=>rw[a]at e;cases e
   |some u'=>rw[a]at e;cases e;show⟨k,u,u',hk,hs,a,q⟩
  .cases e
 .cases e
def di{st:aA}(h:W (dM i) st Q):∃k u,k≠.F'/\st[i]?=a0 (a0 (k,u))/\Q (if k.root=b6 then .bor i else k,u) st:=by
 have⟨r,st',e,q⟩:=h;unfold dM at e;split at e
 .cases e
 .rename_i k u a hs;cases e;show⟨k,u,λz=>a z,hs,q⟩
 .cases e
def Gr(Y:C.K=X.K)(hN:X.N[i]?=a0 x)(hv:Ko X.env.scope x)(hd:(x==("__debug__":Str))=cb)(Jk:(x==("__classdict__":Str))=cb)(ha:PE X a (Iv C ma))
  (JB:((Ll m (mx [a] X.env)).all (λx=>!x.1)&&(Sg m (OR [] X.env)).all (λx=>x.1.isSome)
   && cK ([a].length+([]:List QP).length+(if ([]:List QP).isEmpty then 0 else 1)<30))=b6)
  (Jc:(d.endLine==m.line)=b6) (s:mx [a] X.env=[(cb,KH a X.env)]) :
  L2.PS X (.Expr (.Call (.Attribute (.Name x px) "append" d) [a] [] m) pos) (Js C ns (dM i >>= λx=>OM x.2 >>= λ_=>ma >>= λr=>lift r >>= λu=>modS i (yr u) >>= λ_=>pure .nx)):=by
 show PS.weak (kr (xH PySem.F.plainAttrs_list PySem.F.slot_list_append PySem.F.type_list_append ng (cT hN hv hd Jk) (gq ha kZ s) rfl JB Jc s rfl)) ?_;rintro D σ H ⟨c0,rfl,rfl,g,h⟩;rw[ah]at h;have⟨b,y,Ly,A,h⟩:=di h;have⟨B,n,o⟩:=g.sl i b y A;show⟨B,n,?_⟩;cases y with
 |lst G =>
  rw[ah,show OM (U.lst G)=pure () from rfl,aj]at h;have T8:aT C c0 c0 (if b.root=b6 then .bor i else b) (.lst G) B:=by
   by_cases hk:b.root=b6
   .rw[Ř hk];show⟨⟨b,hk,A⟩,n⟩
   .rw[Ś hk];cases b with
    |loc=>show o
    |any=>show o
    |bor j=>show o.elim
    |F'=>show(Ly rfl).elim
    |_=>show absurd rfl hk
  obtain⟨l,Rf,p,QN,_⟩:=T8.list g;show⟨by rw[p];show .inl ⟨rfl,Rf,Y▸QN⟩,?_⟩;show aW g h λr c v t w=>?_;rw[ah]at w;obtain⟨S',st',u,sS,I,n1,e,J,_,_⟩:=gz g t.ok t.nx t.rx.w w;rw[ah]at J;have⟨k,u1,u2,hk,hs,f,q⟩:=gB J;have L:c.σ[i]?=a0 (a0 (.ref l)):=by rw[t.hσ,n,p]
  cases u1 with
  |lst ys =>
   simp only[yr]at f;split at f
   .rename_i hz;cases f;have⟨v',e1,e2⟩:=I.sl i k (.lst ys) hs;have O:c.σ[i]?=a0 (a0 v'):=e1;rw[L]at O;cases O;obtain⟨r',er,_,_,_,ws,hw,Q⟩:=e2.rt hk;cases er;have Lx:c.H l=a0 (.lst ws):=hw;show⟨l,ws,v,p,rfl,Lx,by rw[<-Q.len];show hz,?_⟩;rw[aj]at q;have⟨Ja,n2⟩:=Ok.mod (c:={c with S:=S',st:=st' }) (H':=upd c.H l (.lst (ws++[v]))) (u':=.lst (ys++[u])) I n1.toNs hk hs L (λa ne=>aw ne) ⟨_,aI⟩ λT=>⟨ws++[v],aI,(Q.mv T).snoc (e.mv T)⟩
    have z:=q _ rfl Ja n2 (Kept.of t.hσ);rw[<-t.hσ];show z
   .cases f
  |_=>cases f
 |_=>rw[ah]at h;show(bA.mp h).elim
def Gu(G:C.K=X.K)(hN:X.N[i]?=a0 x)(hv:Ko X.env.scope x)(hd:(x==("__debug__":Str))=cb)(Jk:(x==("__classdict__":Str))=cb)(ha:PE X a (Iv C ma))
  (JB:((Ll l (mx [a] X.env)).all (λx=>!x.1)&&(Sg l (OR [] X.env)).all (λx=>x.1.isSome)
   && cK ([a].length+([]:List QP).length+(if ([]:List QP).isEmpty then 0 else 1)<30))=b6)
  (Jc:(g.endLine==l.line)=b6) (I:mx [a] X.env=[(cb,KH a X.env)]) :
  L2.PS X (.Expr (.Call (.Attribute (.Name x px) "extend" g) [a] [] l) pos) (Js C ns (dM i >>= λx=>OM x.2 >>= λ_=>ma >>= λr=>modS i (lN r) >>= λ_=>pure .nx)):=by
 show PS.weak (kr (xH PySem.F.plainAttrs_list PySem.F.slot_list_extend PySem.F.type_list_extend sO (cT hN hv hd Jk) (gq ha kZ I) rfl JB Jc I rfl)) ?_;rintro D σ H ⟨c0,rfl,rfl,m,h⟩;rw[ah]at h;have⟨f,J,Ly,L,h⟩:=di h;have⟨O,n,o⟩:=m.sl i f J L;show⟨O,n,?_⟩;cases J with
 |lst Q =>
  rw[ah,show OM (U.lst Q)=pure () from rfl,aj]at h;have T8:aT C c0 c0 (if f.root=b6 then .bor i else f) (.lst Q) O:=by
   by_cases hk:f.root=b6
   .rw[Ř hk];show⟨⟨f,hk,L⟩,n⟩
   .rw[Ś hk];cases f with
    |loc=>show o
    |any=>show o
    |bor j=>show o.elim
    |F'=>show(Ly rfl).elim
    |_=>show absurd rfl hk
  obtain⟨p,Rf,s,QN,_⟩:=T8.list m;show⟨by rw[s];show .inl ⟨rfl,Rf,G▸QN⟩,?_⟩;show aW m h λr c v t w=>?_;rw[ah]at w;have⟨k,u,u2,hk,hs,d,q⟩:=gB w;have T:c.σ[i]?=a0 (a0 (.ref p)):=by rw[t.hσ,n,s]
  have⟨rk,ru⟩:=r;have y:∃ys e b vs,u=.lst ys/\v=.ref b/\(Je C.K c.H b vs\/IX C.K c.H b vs)/\ao C c.S c.H e vs/\ys.length+e.length<=dV/\u2=.lst (ys++e):=by
   cases ru with
   |lst e =>
    cases u with
    |lst ys =>
     simp only[lN]at d;split at d
     .rename_i hz;cases d;have⟨b,vs,ev,A,B⟩:=t.rx.list t.ok;show⟨_,_,b,vs,rfl,ev,.inl A,d0 hz.2 B,hz.1,rfl⟩
     .cases d
    |_=>simp[lN]at d
   |tup e =>
    cases u with
    |lst ys =>
     simp only[lN]at d;split at d
     .rename_i hz;cases d;have⟨b,vs,ev,A,B⟩:=t.rx.tuple t.ok;show⟨_,_,b,vs,rfl,ev,.inr A,d0 hz.2 B,hz.1,rfl⟩
     .cases d
    |_=>simp[lN]at d
   |_=>simp[lN]at d
  have⟨ys,e,b,vs,rfl,rfl,hB,hz,hl,rfl⟩:=y;have⟨v',Y,e2⟩:=t.ok.sl i k (.lst ys) hs;rw[T]at Y;cases Y;obtain⟨r',er,_,_,_,ws,hw,Ka⟩:=e2.rt hk;cases er;show⟨p,b,ws,vs,s,rfl,hw,G▸hB,by rw[<-Ka.len,<-hz.len];show hl,?_⟩;rw[aj]at q;have⟨Ja,n2⟩:=Ok.mod (c:=c) (H':=upd c.H p (.lst (ws++vs))) (u':=.lst (ys++e)) t.ok t.nx.toNs hk hs T (λa ne=>aw ne) ⟨_,aI⟩ λmv=>⟨ws++vs,aI,(Ka.mv mv).append (hz.mv mv)⟩
  have z:=q _ rfl Ja n2 (Kept.of t.hσ);rw[<-t.hσ];show z
 |_=>rw[ah]at h;show(bA.mp h).elim
def kS.or(h:kS X t)(h':kS X t'):kS X (λo i v H Q=>t o i v H Q\/t' o i v H Q):=λa s σ H o i v b c u Q I d e f q =>
 q.elim (h a s σ H o i v b c u Q I d e f) (h' a s σ H o i v b c u Q I d e f)
def set_dict(c:X.A.units+1<Ki):kS X (λo i v H Q=>∃a H',o=.ref a/\vZ H a i v H'/\Q H'):=by
 rintro b s σ H o i v h j u Q I d e rv ⟨a,H',rfl,g,q⟩;cases d;show v5 c I g e rv λs' f=>⟨H',f,q⟩
def yM{S:i5->Prop}{kvs:List (Key×V)}(a:kvs.map (·.1)=ks.map p6)(c:ao C S H us (kvs.map (·.2)))(d:Rep C S H u v):
  (putK kvs (p6 y) v).map (·.1)=(dput ks us y u).1.map p6/\ao C S H (dput ks us y u).2 ((putK kvs (p6 y) v).map (·.2)):=by
 have e:(kvs.any λkv=>cK (kv.1=(p6 y:Key)))=cK (y∈ks):=by
  rw[iG];show(dR (x:=y) a c).2
 unfold putK dput;rw[e];by_cases b:y∈ks
 .rw[Ř (by simpa using b),Ř b];constructor
  .rw[et];rw[<-a];apply qk;intro p _;change(if p.1=p6 y then(p.1,v) else p).1=p.1;split<;>rfl
  .clear e b;induction kvs generalizing ks us with
   |nil =>
    have:ks=[]:=by simpa using a.symm
    subst this;simp[ao]
   |cons p kvs g =>
    cases ks with
    |nil=>simp at a
    |cons k ks =>
     cases us with
     |nil=>simp[ao]at c
     |cons j us =>
      rw[gi,gi,NV]at a;have⟨l,m,f,h,i⟩:=c;rw[gi]at f;cases f;rw[gi,Qm,gi,gi];show⟨_,_,rfl,?_,g a.2 i⟩;by_cases hk:k=y
      .rw[Ř (by show hk),Ř (by rw[a.1,hk])];show d
      .rw[Ś (by show hk),Ś (by rw[a.1];intro z;show hk (Wk z))];show h
 .rw[Ś (by simpa using b),Ś b];show⟨by rw[my,a,my];rfl,by rw[my];show c.snoc d⟩
def Gv(hP:C.P=X.prog)(hw:C.w=X.w)(Q:C.K=X.K)(hu:X.A.units+60<Ki)(hN:X.N[i]?=a0 x)(hv:Ko X.env.scope x)(hd:(x==("__debug__":Str))=cb)(Jk:(x==("__classdict__":Str))=cb)
  (ha:PE X a (Iv C ma)) (hb:PE X b (Iv C mb)) (hs:R' [.Subscript (.Name x I) b p] a pos.line X.env=pure cb) (MD:WI [.Subscript (.Name x I) b p] a X.env=pure b5)
  (T:∀v,TK (.Subscript (.Name x I) b p) X.env v=(do
   let J <-N_ [v] (KH (.Name x I) X.env)
   let Y <-N_ [v,J] (KH b X.env)
   Zo p
   N_ [v,J,Y] (Vd J Y v)
   XZ [v,J,Y] [])) :
  L2.PS X (.Assign [.Subscript (.Name x I) b p] a pos) (Js C ns (ma >>= λr=>dM i >>= λ_=>mb >>= λx=>dA [r,x] >>= λus=>modS i (uH us) >>= λ_=>pure .nx)):=by
 show PS.weak (se ha (xw (cT hN hv hd Jk) hb (kS.or (kS.or set_list (set_dict (X:=X) ⋯)) (AS (X:=X) ⋯)) T) hs MD rfl) ?_;rintro D σ H ⟨c0,rfl,rfl,ok,h⟩;show aW ok h λr c v t w=>?_;rw[ah]at w;have⟨k0,u0,Ly,JH,w⟩:=di w;have⟨v0,e0,Lh⟩:=t.ok.sl i k0 u0 JH;show⟨v0,by rw[<-t.hσ];show e0,?_⟩;rw[ah]at w;show⟨c,t.hσ,rfl,t.ok,w.mono λy st2 w2 g s L e4 Ja n2 r2=>?_⟩;subst e4;rw[ah]at w2;have T9:=t.nx.trans n2;have ab:c6 C c0 g [r,y] [v,s]:=⟨v,[s],rfl,t.rx.w.on t.ok n2 (L.trans t.hσ.symm),⟨s,[],rfl,(r2.w).from t.nx,rfl,λ_ i r' v' e _=>by simp at e⟩,λhk i r' v' e5 e6 JN=>by
  cases i with
  |zero=>simp at e5 e6;subst e5 e6;show pF t.rx.w r2.w hk JN
  |succ i=>simp at e5⟩
 have⟨S',st',us,sS,IA,n1,m,w1⟩:=iT ok Ja T9 ab w2;rw[ah]at w1;have⟨k,O,u2,hk,Kj,d,q⟩:=gB w1;rw[aj]at q;have hσ:g.σ[i]?=a0 (a0 v0):=by rw[L,<-t.hσ];show e0
 have⟨v',e1,e2⟩:=IA.sl i k O Kj;have JA:g.σ[i]?=a0 (a0 v'):=e1;rw[hσ]at JA;cases JA;have⟨l,er,z1,z2,z3,f⟩:=e2.rt hk;subst er;have Yb:({g with S:=S',st:=st' }:Cf).σ[i]?=a0 (a0 (.ref l)):=hσ;obtain⟨Rk,ws,ew,VQ,VP,ZF,ZG,T_,Yc⟩:∃u ws,us=[u,ws]/\Rep C S' g.H u v/\∃(_:Unit) (_:Unit),True/\Rep C S' g.H ws s/\True:=by
  cases us with
  |nil=>simp[ao]at m
  |cons u us =>
   obtain⟨_,_,e,q1,q2⟩:=m;cases e;cases us with
   |nil=>simp[ao]at q2
   |cons u' us =>
    obtain⟨_,_,e,q3,q4⟩:=q2;cases e;cases us with
    |nil=>show⟨u,u',rfl,q1,(),(),trivial,q3,trivial⟩
    |cons _ _=>obtain⟨_,_,e,_⟩:=q4;cases e
 subst ew;rw[show uH [Rk,ws] O=dZ ws Rk O from rfl]at d;have n:∀{H':Hp} ,(∀a,a≠l->H' a=g.H a)->(∃o,H' l=a0 o)->(Mv S' g.H S' H'->dY C S' H' l u2)->D.nx c0.σ H':=λ{H'} IZ hr new=>by
  have⟨KY,n3⟩:=Ok.mod (c:={g with S:=S',st:=st' }) (H':=H') (u':=u2) IA n1.toNs hk Kj Yb IZ hr new;have z:=q _ rfl KY n3 (Kept.of L);rw[<-L];show z
 cases O with
 |lst xs =>
  cases ws with
  |int j =>
   simp only[dZ,hZ]at d;have⟨j',hj,rfl⟩:=d;have⟨vs,h1,B⟩:=f;have ey:s=.int j:=T_;show .inl (.inl ⟨l,vs,j,j',rfl,ey,h1,by rw[<-B.len];show hj,?_⟩);show n (λa ne=>aw ne) ⟨_,aI⟩ λG=>⟨vs.set j' v,aI,(B.mv G).set j' (VQ.mv G)⟩
  |_=>simp[dZ]at d
 |Ip ks vs =>
  cases ws with
  |str y' =>
   simp only[dZ]at d;split at d
   .rename_i hz;cases d;have⟨kvs,h1,B,h3⟩:=f;have ey:s=.str y':=T_;subst ey;have hl:kvs.length=ks.length:=by have:=ŝ G2 B;simpa using this
    show .inl (.inr ⟨l,_,rfl,vZ.k (k:=p6 y') h1 (by rw[hl];show hz),?_⟩);show n (λa ne=>aw ne) ⟨_,aI⟩ λG=>?_;have⟨g1,g2⟩:=yM (y:=y') B h3 VQ;show⟨_,aI,g1,g2.mv G⟩
   .cases d
  |_=>simp[dZ]at d
 |JE ks =>
  simp only[dZ]at d;split at d
  .rename_i r0 OE;split at d
   .rename_i hh;cases d;have er:=lO OE;subst er;have Jg:=T_.row;have Nl:fH C.P C.w C.K g.H l ks:=f;rw[Q]at Jg;rw[hP,hw,Q]at Nl;show .inr ⟨l,r0,ks,rfl,Jg,Nl,hh.1,hh.2,λH' hR IZ=>?_⟩;obtain⟨xs,hx,_⟩:=id hR;show n IZ ⟨_,hx⟩ λG=>?_;change fH C.P C.w C.K H' l _;rw[hP,hw,Q];show hR
   .cases d
  .cases d
 |_=>simp[dZ]at d
def Ok.slot(d:Ok C c)(e:k≠.F')(hs:c.st[i]?=a0 (a0 (k,u))):∃v,c.σ[i]?=a0 (a0 v)/\aT C c c (if k.root=b6 then .bor i else k) u v:=by
 have⟨f,b,a⟩:=d.sl i k u hs;show⟨f,b,?_⟩;by_cases hk:k.root=b6
 .rw[Ř hk];show⟨⟨k,hk,hs⟩,b⟩
 .rw[Ś hk];cases k with
  |loc=>show a
  |any=>show a
  |bor j=>show a.elim
  |F'=>show(e rfl).elim
  |_=>show absurd rfl hk
def Gw(e:∀j,ns j=b6->j≠i)(f:X.N.Nodup)(c:X.N[i]?=a0 x)(g:Loc X.env.scope x)(l:X.fn x=b6\/X.env.scope.names.lookup x=a0 .local):
  L2.PS X (.AugAssign (.Name x d) .Add (.Constant (.int n) j q) pos) (Js C ns (dM i >>= λr=>pE r >>= λm=>dJ i (.loc,.int (m+n)) >>= λ_=>pure .nx)):=by
 rintro a s σ H D I ⟨c0,rfl,rfl,b,h⟩;have o:i<c0.σ.length:=by rw[I.len];show(eW.mp c).1
 rw[ah]at h;have⟨A,p,t,u,h⟩:=di h;have⟨w,y,z⟩:=b.slot t u;cases p with
 |int m =>
  rw[ah,show ∀k:Kd,pE (k,U.int m)=pure m from λ_=>rfl,aj]at h;have ev:w=.int m:=z.int b;subst ev;show Dr f c g xl xy l a s c0.σ c0.H D I ⟨.int m,y,m,n,rfl,rfl,lP (r:=(.loc,.int (m+n))) (v:=.int (m+n)) e b ⟨rfl,b,Nx.refl c0,rfl⟩ o h⟩
 |_=>rw[ah]at h;show(bA.mp h).elim
end
section
def Ok.Gy(d:Ok C c)(n:Ns c0 c)(O:c.st[i]?=a0 (a0 (.F',u)))(B:c.σ[i]?=a0 (a0 (.ref r)))(IZ:∀a,¬c.RD i a->H' a=c.H a)(Q:∀a o,c.H a=a0 o->∃o',H' a=a0 o')
  (new:Mv c.S c.H c.S H'->cG C c.S H' r as' u') (T:∀a∈as',a∈c.kid i\/(¬c.R a/\c0.H a=b5)) :
  Ok C {c with H:=H',st:=c.st.set i (a0 (.F',u')),kid:=λj=>if j=i then as' else c.kid j}/\Ns c0 {c with H:=H',st:=c.st.set i (a0 (.F',u')),kid:=λj=>if j=i then as' else c.kid j}:=by
 have Y:i<c.st.length:=(eW.mp O).1;have rt:∀{a},c.RD i a->¬c.S a/\¬C.L_ a/\(C.H₀ a=b5\/C.IO a)/\∃o,c.H a=a0 o/\¬Tp o:=λz=>d.root (.inr ⟨i,z⟩);have h0:∀{a},c.RD i a->C.H₀ a=b5:=λ⟨u1,r1,g,b,e3⟩=>(cG.fr (d.dd.kd i u1 r1 g b) _ (ke.mpr e3)).2.2;have q:∀{a:i5} {o:HO},¬c.RD i a->c.H a=a0 o->H' a=a0 o:=λz e=>by rw[IZ _ z];show e
 have N:Mv c.S c.H c.S H':=⟨λ_ z=>z,λa o e t=>q (λz=>by
  obtain⟨_,_,_,o',l,nt⟩:=rt z;rw[e]at l;cases l;show nt t) e,λa o z e=>q (λm=>(rt m).1 z) e⟩
 have MA:Mv (PS C c.S) c.H (PS C c.S) H':=⟨λ_ z=>z,N.P6,λa o z e=>q (λm=>z.elim (rt m).2.1 (rt m).1) e⟩
 have D:∀(j:Nat) k w,(c.st.set i (a0 (.F',u')))[j]?=a0 (a0 (k,w))->j≠i->c.st[j]?=a0 (a0 (k,w)):=λj k w e ne=>by rw[nH (vu ne)]at e;show e
 have N6:∀(j:Nat) k w,k.root=b6->(c.st.set i (a0 (.F',u')))[j]?=a0 (a0 (k,w))->c.st[j]?=a0 (a0 (k,w)):=λj k w hk e=>by
  by_cases f:j=i
  .subst f;rw[hU Y]at e;cases e;cases hk
  .show D j k w e f
 have b1:∀a,({c with H:=H',st:=c.st.set i (a0 (.F',u')),kid:=λj=>if j=i then as' else c.kid j}:Cf).R1 a->c.R1 a:=λa ⟨j,k,w,hk,g,b⟩=>⟨j,k,w,hk,N6 j k w hk g,b⟩
 have G:∀j a,({c with H:=H',st:=c.st.set i (a0 (.F',u')),kid:=λj=>if j=i then as' else c.kid j}:Cf).RD j a->c.RD j a\/(j=i/\¬c.R a/\c0.H a=b5):=λj a ID=>by
  have⟨w,h,g,b,e3⟩:=ID;by_cases f:j=i
  .subst f;have I:c.σ[j]?=a0 (a0 (.ref h)):=b;rw[B]at I;cases I;rcases e3 with rfl|e3
   .show .inl ⟨u,_,O,B,.inl rfl⟩
   .have Nm:a∈as':=by simpa using e3
    rcases T a Nm with z|z
    .show .inl ⟨u,_,O,B,.inr z⟩
    .show .inr ⟨rfl,z⟩
  .have Nm:a=h\/a∈c.kid j:=by simpa[f] using e3
   show .inl ⟨w,h,D j _ w g f,b,Nm⟩
 show⟨⟨λa o e z=>q (λm=>by rw[h0 m]at e;cases e) (d.same a o e z),λa z=>?_,d.par,λa z=>?_,by simp[d.len],λj k w e=>?_,λx s k1 k2 w1 w2 h h1 h2 g b e3 e4=>d.inj x s k1 k2 w1 w2 h h1 h2 (N6 x k1 w1 h1 g) (N6 s k2 w2 h2 b) e3 e4,⟨λj w h g b=>?_,λx s a J L=>?_,λj a J L=>?_⟩⟩,⟨λa o e z=>?_,λa o e=>?_,λa z=>?_,n.sub,n.new⟩⟩
 .have⟨q1,o,q2⟩:=d.Ku a z;show⟨q1,Q a o q2⟩
 .have⟨q1,o,q2⟩:=d.io a z;show⟨q1,Q a o q2⟩
 .by_cases f:j=i
  .subst f;rw[hU Y]at e;cases e;show⟨.ref r,B,r,rfl⟩
  .have⟨v,g,b⟩:=d.sl j k w (D j k w e f);show⟨v,g,b.mv N MA λhk h er=>?_⟩;obtain⟨P_,J3,J,_⟩:=b.rt hk;rw[er]at J3;cases J3;show⟨J,λo l=>q (λz=>d.dd.d1 i h z ⟨j,k,w,hk,D j k w e f,by rw[g,er]⟩) l⟩
 .by_cases f:j=i
  .subst f;rw[hU Y]at g;cases g;have I:c.σ[j]?=a0 (a0 (.ref h)):=b;rw[B]at I;cases I;have z:=new N;simpa using z
  .have JA:=D j _ w g f;have JN:(if j=i then as' else c.kid j)=c.kid j:=Ś f;change cG C c.S H' h (if j=i then as' else c.kid j) w;rw[JN];show cG.mv N (λa ha=>⟨(d.root (.inr ⟨j,w,h,JA,b,ke.mp ha⟩)).1,λo l=>q (λz=>f (d.dd.dj j i a ⟨w,h,JA,b,ke.mp ha⟩ z)) l⟩) (d.dd.kd j w h JA b)
 .rcases G x a J with p|⟨rfl,p,_⟩
  .rcases G s a L with A|⟨rfl,A,_⟩
   .show d.dd.dj x s a p A
   .show(A (.inr ⟨x,p⟩)).elim
  .rcases G s a L with A|⟨rfl,A,_⟩
   .show(p (.inr ⟨s,A⟩)).elim
   .rfl
 .rcases G j a J with p|⟨rfl,p,_⟩
  .show d.dd.d1 j a p (b1 a L)
  .show p (.inl (b1 a L))
 .show q (λm=>by
   rcases n.roots a (.inr ⟨i,m⟩) with y|y
   .show z y
   .rw[e]at y;cases y) (n.keep a o e z)
 .have⟨o',l⟩:=n.there a o e;show Q a o' l
 .rcases z with z|⟨j,z⟩
  .show n.roots a (.inl (b1 a z))
  .rcases G j a z with y|⟨_,_,y⟩
   .show n.roots a (.inr ⟨j,y⟩)
   .show .inr y
def Ok.newD(l:Ok C c)(B:c.H p=b5)(u:i<c.σ.length):
  Ok C {c with H:=upd c.H p (.dK []),σ:=c.σ.set i (a0 (.ref p)),st:=c.st.set i (a0 (.F',.Ip [] [])),kid:=λj=>if j=i then [] else c.kid j}/\Ns c {c with H:=upd c.H p (.dK []),σ:=c.σ.set i (a0 (.ref p)),st:=c.st.set i (a0 (.F',.Ip [] [])),kid:=λj=>if j=i then [] else c.kid j}:=by
 have⟨n,T⟩:=l.lay (o:=.dK []) B;have⟨q1,q2,q3,q4,D⟩:=l.lI B;have G:i<c.st.length:=by rw[l.len];show u
 have x:∀(j:Nat) k w,(c.st.set i (a0 (.F',.Ip [] [])))[j]?=a0 (a0 (k,w))->j≠i->c.st[j]?=a0 (a0 (k,w)):=λj k w e I=>by rw[nH (vu I)]at e;show e
 have q:∀(j:Nat),j≠i->(c.σ.set i (a0 (.ref p)))[j]?=c.σ[j]?:=λj I=>nH (vu I);have J:∀(j:Nat) k w,k.root=b6->(c.st.set i (a0 (.F',.Ip [] [])))[j]?=a0 (a0 (k,w))->j≠i/\c.st[j]?=a0 (a0 (k,w)):=λj k w hk e=>by
  by_cases b:j=i
  .subst b;rw[hU G]at e;cases e;cases hk
  .show⟨b,x j k w e b⟩
 have b1:∀a,({c with H:=upd c.H p (.dK []),σ:=c.σ.set i (a0 (.ref p)),st:=c.st.set i (a0 (.F',.Ip [] [])),kid:=λj=>if j=i then [] else c.kid j}:Cf).R1 a->c.R1 a:=λa L=>by
  have⟨j,k,w,hk,d,f⟩:=L;have⟨b,N⟩:=J j k w hk d;show⟨j,k,w,hk,N,by rw[<-q j b];show f⟩
 have r:∀j a,({c with H:=upd c.H p (.dK []),σ:=c.σ.set i (a0 (.ref p)),st:=c.st.set i (a0 (.F',.Ip [] [])),kid:=λj=>if j=i then [] else c.kid j}:Cf).RD j a->(j≠i/\c.RD j a)\/(j=i/\a=p):=λj a L=>by
  have⟨w,g,d,f,e3⟩:=L;by_cases b:j=i
  .subst b;have s:(c.σ.set j (a0 (.ref p)))[j]?=a0 (a0 (.ref g)):=f;rw[hU u]at s;cases s;rcases e3 with rfl|e3
   .show .inr ⟨rfl,rfl⟩
   .simp at e3
  .have Nm:a=g\/a∈c.kid j:=by simpa[b] using e3
   show .inl ⟨b,w,g,x j _ w d b,by rw[<-q j b];show f,Nm⟩
 show⟨⟨n.same,n.Ku,n.par,n.io,by simp[l.len],λj k w e=>?_,λm h k1 k2 Y w2 g h1 h2 d f e3 e4=>?_,⟨λj w g d f=>?_,λm h a O t=>?_,λj a O t=>?_⟩⟩,⟨T.keep,T.there,λa z=>?_,λ_ z=>z,λ_ z=>.inl z⟩⟩
 .by_cases b:j=i
  .subst b;rw[hU G]at e;cases e;show⟨.ref p,hU u,p,rfl⟩
  .have⟨v,d,f⟩:=n.sl j k w (x j k w e b);show⟨v,(q j b).trans d,f⟩
 .have⟨OP,a1⟩:=J m k1 Y h1 d;have⟨N7,a2⟩:=J h k2 w2 h2 f;show l.inj m h k1 k2 Y w2 g h1 h2 a1 a2 ((q m OP).symm.trans e3) ((q h N7).symm.trans e4)
 .by_cases b:j=i
  .subst b;rw[hU G]at d;cases d;have s:(c.σ.set j (a0 (.ref p)))[j]?=a0 (a0 (.ref g)):=f;rw[hU u]at s;cases s;change cG C c.S (upd c.H p (.dK [])) p (if j=j then [] else c.kid j) (.Ip [] []);rw[Ř rfl];show⟨[],aI,rfl,rfl,by simp,λa ha=>by rw[ix.mp ha];show⟨q2,q3,q1⟩,rfl⟩
  .have N:=x j _ w d b;have z:=n.dd.kd j w g N ((q j b).symm.trans f);change cG C c.S (upd c.H p (.dK [])) g (if j=i then [] else c.kid j) w;rw[Ś b];show z
 .rcases r m a O with⟨_,A⟩|⟨rfl,rfl⟩
  .rcases r h a t with⟨_,Q⟩|⟨rfl,rfl⟩
   .show l.dd.dj m h a A Q
   .show(D (.inr ⟨m,A⟩)).elim
  .rcases r h a t with⟨_,Q⟩|⟨rfl,_⟩
   .show(D (.inr ⟨h,Q⟩)).elim
   .rfl
 .rcases r j a O with⟨_,A⟩|⟨rfl,rfl⟩
  .show l.dd.d1 j a A (b1 a t)
  .show D (.inl (b1 a t))
 .rcases z with z|⟨j,z⟩
  .show .inl (.inl (b1 a z))
  .rcases r j a z with⟨_,y⟩|⟨_,rfl⟩
   .show .inl (.inr ⟨j,y⟩)
   .show .inr B
end
section
theorem dz.rep{S S':i5->Prop}(hs:∀a,S a->S' a):∀{us:List U}{as:List i5},(∀a∈as,S' a)->dz C S H us as->ao C S' H us (as.map V.ref)
 |[],as,_,h=>by cases h;show rfl
 |u::us,as,c,h=>by
  have⟨a,as',ys,vs,rfl,rfl,d,e,f⟩:=h;show⟨.ref a,as'.map V.ref,rfl,⟨a,vs,rfl,.inl ⟨c a (by simp),.inl d⟩,e.mv (.up hs)⟩,dz.rep hs (λb g=>c b (by simp[g])) f⟩
def Ok.Gz(b:Ok C c)(n:Nx c0 c)(Q:c.st[i]?=a0 (a0 (.F',u)))(s:c.σ[i]?=a0 (a0 (.ref r))):
  Ok C {c with S:=λa=>c.S a\/a∈c.kid i,st:=c.st.set i (a0 (.own,u))}/\Nx c0 {c with S:=λa=>c.S a\/a∈c.kid i,st:=c.st.set i (a0 (.own,u))}:=by
 have T:i<c.st.length:=(eW.mp Q).1;have B:=b.dd.kd i u r Q s;have fr:=cG.fr B;have mem:∀a,(a=r\/a∈c.kid i)->c.RD i a:=λa z=>⟨u,r,Q,s,z⟩
 have up:Mv c.S c.H (λa=>c.S a\/a∈c.kid i) c.H:=.up λa=>.inl;have Yd:Mv (PS C c.S) c.H (PS C λa=>c.S a\/a∈c.kid i) c.H:=.up λa z=>z.imp id .inl;have Rm:r∉c.kid i/\dY C (λa=>c.S a\/a∈c.kid i) c.H r u:=by
  cases u<;>first|show B.elim|skip
  have⟨kvs,D,G,h3,h4,h5,h6⟩:=B;show⟨(qe.mp h4).1,kvs,D,G,?_⟩;rw[h3];show h6.rep (λa=>.inl) λa I=>.inr I
 have p:∀(j:Nat) k w,(c.st.set i (a0 (.own,u)))[j]?=a0 (a0 (k,w))->j≠i->c.st[j]?=a0 (a0 (k,w)):=λj k w e ne=>by rw[nH (vu ne)]at e;show e
 have b1:∀a,({c with S:=λa=>c.S a\/a∈c.kid i,st:=c.st.set i (a0 (.own,u))}:Cf).R1 a->c.R1 a\/a=r:=λa Y=>by
  have⟨j,k,w,hk,f,g⟩:=Y;by_cases d:j=i
  .subst d;have Kt:c.σ[j]?=a0 (a0 (.ref a)):=g;rw[s]at Kt;cases Kt;show .inr rfl
  .show .inl ⟨j,k,w,hk,p j k w f d,g⟩
 have J:∀j a,({c with S:=λa=>c.S a\/a∈c.kid i,st:=c.st.set i (a0 (.own,u))}:Cf).RD j a->j≠i/\c.RD j a:=λj a Y=>by
  have⟨w,h,f,g,t⟩:=Y;by_cases d:j=i
  .subst d;rw[hU T]at f;cases f
  .show⟨d,w,h,p j _ w f d,g,t⟩
 show⟨⟨b.same,λa z=>?_,b.par,b.io,by simp[b.len],λj k w e=>?_,λm l k1 k2 L N h D G f g t e4=>?_,⟨λj w h f g=>?_,λm l a x z2=>b.dd.dj m l a (J m a x).2 (J l a z2).2,λj a x z2=>?_⟩⟩,⟨⟨n.keep,n.there,λa z=>?_,λa z=>.inl (n.sub a z),λa z=>?_⟩,n.all⟩⟩
 .rcases z with z|z
  .show b.Ku a z
  .obtain⟨o,ho,_⟩:=cG.there B a (oW _ z);show⟨(fr a (oW _ z)).2.2,o,ho⟩
 .by_cases d:j=i
  .subst d;rw[hU T]at e;cases e;have⟨q1,q2,q3⟩:=fr r (oT ..);show⟨.ref r,s,r,rfl,λz=>z.elim q1 Rm.1,q2,q3,Rm.2⟩
  .have⟨v,f,g⟩:=b.sl j k w (p j k w e d);show⟨v,f,g.mv up Yd λhk h er=>?_⟩;obtain⟨P_,J3,x,_⟩:=g.rt hk;rw[er]at J3;cases J3;show⟨λz=>z.elim x λz=>b.dd.d1 i h (mem h (.inr z)) ⟨j,k,w,hk,p j k w e d,by rw[f,er]⟩,λo q=>q⟩
 .by_cases O:m=i
  .by_cases A:l=i
   .rw[O,A]
   .subst O;have Nm:c.σ[m]?=a0 (a0 (.ref h)):=t;rw[s]at Nm;cases Nm;show(b.dd.d1 m r (mem r (.inl rfl)) ⟨l,k2,N,G,p l k2 N g A,e4⟩).elim
  .by_cases A:l=i
   .subst A;have VR:c.σ[l]?=a0 (a0 (.ref h)):=e4;rw[s]at VR;cases VR;show(b.dd.d1 l r (mem r (.inl rfl)) ⟨m,k1,L,D,p m k1 L f O,t⟩).elim
   .show b.inj m l k1 k2 L N h D G (p m k1 L f O) (p l k2 N g A) t e4
 .by_cases d:j=i
  .subst d;rw[hU T]at f;cases f
  .have JA:=p j _ w f d;show cG.mv up (λa I=>⟨λz=>z.elim (b.root (.inr ⟨j,w,h,JA,g,ke.mp I⟩)).1 λz=>d (b.dd.dj j i a ⟨w,h,JA,g,ke.mp I⟩ (mem a (.inr z))),λo q=>q⟩) (b.dd.kd j w h JA g)
 .have⟨d,y⟩:=J j a x;rcases b1 a z2 with z|z
  .show b.dd.d1 j a y z
  .subst z;show d (b.dd.dj j i a y (mem a (.inl rfl)))
 .rcases z with z|⟨j,z⟩
  .rcases b1 a z with z|rfl
   .show n.roots a (.inl z)
   .show n.roots a (.inr ⟨i,mem a (.inl rfl)⟩)
  .show n.roots a (.inr ⟨j,(J j a z).2⟩)
 .rcases z with z|z
  .show n.new a z
  .rcases n.roots a (.inr ⟨i,mem a (.inr z)⟩) with y|y
   .show .inr (.inl y)
   .show .inr (.inr y)
def BB(f:X.N[i]?=a0 x)(g:Ko X.env.scope x)(j:(x==("__debug__":Str))=cb)(k:(x==("__classdict__":Str))=cb):PE X (.Name x pos) (Iv C (yp i)):=by
 have m:=pH (C:=C) (pos:=pos) f g j k;rintro b s σ H Q I ⟨c0,rfl,rfl,c,r,st',e,h⟩;unfold yp at e;split at e
 .rename_i u hs;cases e;have⟨v,d,l,rfl⟩:=c.sl i _ _ hs;have⟨n,o⟩:=c.Gz (Nx.refl c0) hs d;have p:i<c0.st.length:=(eW.mp hs).1;show cT f g j k b s c0.σ c0.H Q I ⟨.ref l,d,h {c0 with S:=λa=>c0.S a\/a∈c0.kid i,st:=c0.st.set i (a0 (.own,u))} (.ref l) rfl rfl n o ⟨⟨.own,rfl,hU p⟩,d⟩⟩
 .show m b s c0.σ c0.H Q I ⟨c0,rfl,rfl,c,r,st',e,h⟩
end
section
def Ok.GA(b:Ok C c)(m:c.st[i]?=a0 (a0 (.own,u)))(p:c.σ[i]?=a0 (a0 (.ref r))):Ok C {c with H:=upd c.H r o',st:=c.st.set i b5}/\Ns c {c with H:=upd c.H r o',st:=c.st.set i b5}/\¬({c with H:=upd c.H r o',st:=c.st.set i b5}:Cf).R r:=by
 have JI:i<c.st.length:=(eW.mp m).1;have x:c.R1 r:=⟨i,.own,u,rfl,m,p⟩
 have⟨s,z2,z3,o,z4,z5⟩:=b.root (.inl x);have J:C.H₀ r=b5:=by
  obtain⟨v,f,h,t,_,_,q,_⟩:=b.sl i _ _ m;rw[p]at f;cases f;cases t;show q
 have l:∀(j:Nat) k w,(c.st.set i b5)[j]?=a0 (a0 (k,w))->j≠i/\c.st[j]?=a0 (a0 (k,w)):=λj k w e=>by
  by_cases A:j=i
  .subst A;rw[hU JI]at e;cases e
  .rw[nH (vu A)]at e;show⟨A,e⟩
 have b1:∀a,({c with H:=upd c.H r o',st:=c.st.set i b5}:Cf).R1 a->c.R1 a/\a≠r:=λa ID=>by
  have⟨j,k,w,hk,f,g⟩:=ID;have⟨B,L⟩:=l j k w f;show⟨⟨j,k,w,hk,L,g⟩,λz=>?_⟩;subst z;show B (b.inj j i k .own w u a hk rfl L m g p)
 have N:∀j a,({c with H:=upd c.H r o',st:=c.st.set i b5}:Cf).RD j a->c.RD j a:=λj a ⟨w,h,f,g,D⟩=>⟨w,h,(l j _ w f).2,g,D⟩
 have O:∀j a,c.RD j a->a≠r:=λj a z e=>by subst e;show b.dd.d1 j a z x
 have G:∀S:i5->Prop,¬S r->Mv S c.H S (upd c.H r o'):=λS hS=>⟨λa z=>z,λa d e tp=>by
  have:a≠r:=λz=>by subst z;rw[z4]at e;cases e;show z5 tp
  rw[aw this];show e,λa d z e=>by
  have:a≠r:=λy=>by subst y;show hS z
  rw[aw this];show e⟩
 have hP:¬PS C c.S r:=λz=>z.elim z2 s;show⟨⟨λa d e Q8=>?_,λa z=>?_,b.par,λa z=>?_,by simp[b.len],λj k w e=>?_,λj1 j2 k1 k2 w1 w2 h h1 h2 f g D e4=>b.inj j1 j2 k1 k2 w1 w2 h h1 h2 (l _ _ _ f).2 (l _ _ _ g).2 D e4,?_⟩,⟨λa d e hR=>?_,λa d e=>?_,λa z=>?_,λa z=>z,λa z=>.inl z⟩,λz=>?_⟩
 .have:a≠r:=λy=>by subst y;rw[J]at e;cases e
  change upd c.H r o' a=_;rw[aw this];show b.same a d e Q8
 .have⟨n,d,I⟩:=b.Ku a z;have:a≠r:=λy=>by subst y;show s z
  show⟨n,d,by change upd c.H r o' a=_;rw[aw this];show I⟩
 .obtain⟨⟨d,n⟩,Ye,I⟩:=b.io a z;have:a≠r:=λy=>by subst y;rw[J]at n;cases n
  show⟨⟨d,n⟩,Ye,by change upd c.H r o' a=_;rw[aw this];show I⟩
 .have⟨B,Q⟩:=l j k w e;have⟨v,f,g⟩:=b.sl j k w Q;show⟨v,f,g.mv (G _ s) (G _ hP) λhk h t=>?_⟩;obtain⟨P_,T,y1,_⟩:=g.rt hk;rw[t]at T;cases T;have:h≠r:=λy=>by subst y;show B (b.inj j i k .own w u h hk rfl Q m (by rw[f,t]) p)
  show⟨y1,λd q=>by change upd c.H r o' h=_;rw[aw this];show q⟩
 .show b.dd.of rfl (λj w e=>⟨(l j _ w e).2,rfl⟩) (λa z=>.inl (b1 a z).1) (G _ s) λj a z=>⟨(b.root (.inr ⟨j,z⟩)).1,λd q=>by change upd c.H r o' a=_;rw[aw (O j a z)];show q⟩
 .have:a≠r:=λy=>by subst y;show hR (.inl x)
  change upd c.H r o' a=_;rw[aw this];show e
 .by_cases Y:a=r
  .subst Y;show⟨o',aI⟩
  .show⟨d,by change upd c.H r o' a=_;rw[aw Y];show e⟩
 .rcases z with z|⟨j,z⟩
  .show .inl (.inl (b1 a z).1)
  .show .inl (.inr ⟨j,N j a z⟩)
 .rcases z with z|⟨j,z⟩
  .show(b1 r z).2 rfl
  .show O j r (N j r z) rfl
def yN(u:c.H r=a0 (.Jw o (.dK kvs)))(w:¬c.R r)(y:Ok C c)(hk:kvs.map (·.1)=ks.map p6)(hr:ao C c.S c.H us (kvs.map (·.2))):Walk C c [] (pD (ks,us)) (Tv r o kvs):=by
 intro b k n L hs;have l:=n.keep r _ u w;have m:=hr.mv (y.mv n);have N:kvs.length=ks.length:=by rw[<-df (f:=(·.1)),hk,df]
 have O:us.length=kvs.length:=by rw[m.len,df]
 have Q:(pD (ks,us)).length=kvs.length:=by
  unfold pD;rw[df,RP];change min ks.length us.length=_;lia
 show⟨λi q d=>?_,λi a=>⟨l,⋯⟩⟩;unfold pD at d;rw[oa,hZ]at d;have⟨p,z,rfl⟩:=d;have⟨s,A⟩:=Y3.mp z;have⟨v,e,g⟩:=m.get A;have a:i<kvs.length:=by
  have:i<ks.length:=(eW.mp s).1;lia
 have B:kvs[i]?=a0 (p6 p.1,v):=by
  rw[oa,IV a]at e;have h:(kvs.map (·.1))[i]?=(ks.map p6)[i]?:=by rw[hk]
  rw[oa,oa,IV a,s]at h;rw[IV a];simp only[TV,UY]at h e;rw[<-h,<-e]
 show⟨.inl rfl,⟨l,a⟩,λx H' j=>?_⟩;have⟨q,D,rfl,j⟩:=j;have G:=j _ _ B;subst G;have⟨I,t⟩:=k.lay (o:=.tup [kV (p6 p.1),v]) D;show⟨{b with H:=upd b.H q (.tup [kV (p6 p.1),v])},rfl,rfl,rfl,I,t,?_⟩;have J:ao C b.S b.H [.str p.1,p.2] [kV (p6 p.1),v]:=⟨_,_,rfl,rfl,_,_,rfl,g,rfl⟩
 show⟨q,_,rfl,IX.of aI,J.mv (k.mv t)⟩
def EA(A:X.N[i]?=a0 x)(B:Ko X.env.scope x)(G:(x==("__debug__":Str))=cb)(J:(x==("__classdict__":Str))=cb)(L:(g.endLine==O.line)=b6)
  (S:cU X N own scope) (T:X.calm=b6) (hl:own.length=2) (Y:∀D s H ex,PG (JD X N scope D s H ex) (.Tuple es kx ps) (tG C b6 (hA own.length))) (he:∀D s H ex,PE (JD X N scope D s H ex) elt (Iv C me)) :
  L2.PS X (.Return (a0 (.ListComp elt [⟨.Tuple es kx ps,.Call (.Attribute (.Name x px) "items" g) [] [] O,[],0⟩] scope pos)) Yg) (Js C ns (qU i >>= λd=>bN 2 b6 (pure b6) me [] (pD d) [] >>= λus=>retS (.own,.lst us))):=by
 show PS.weak (xu (DX (uj S T (yn A B G J L) Y (λD s H ex=>show Ms _ [] (JP C (pure b6)) from λj s σ H Q I ⟨c0,f,e2,k,w⟩=>pd j s σ H Q I (by subst f e2;rw[aj]at w;show w c0 rfl rfl k (Nx.refl c0))) he))) ?_;rintro D σ H ⟨c0,rfl,rfl,k,h⟩;rw[ah]at h;have⟨d,st',e,h⟩:=h;unfold qU at e;split at e
 rotate_left
 .cases e
 rename_i ks us l;cases e;have⟨v,f,r,er⟩:=k.sl i _ _ l;subst er;have⟨kvs,t,g2,g3,g4,g5,g6⟩:=k.dd.kd i _ r l f;show⟨r,kvs,t,λo=>?_⟩;have⟨IA,n1⟩:=Ok.Gz k (Nx.refl c0) l f;have JI:i<c0.st.length:=(eW.mp l).1;have⟨Ja,n2,nR⟩:=Ok.GA (o':=.Jw o (.dK kvs)) IA (i:=i) (u:=.Ip ks us) (r:=r) (by change(c0.st.set i _)[i]?=_;rw[hU JI]) f;let b:Cf:={S:=λa=>c0.S a\/a∈c0.kid i,H:=upd c0.H r (.Jw o (.dK kvs)),σ:=c0.σ,st:=c0.st.set i b5,kid:=c0.kid}
 have TZ:(c0.st.set i (a0 (Kd.own,U.Ip ks us))).set i b5=c0.st.set i b5:=by rw[List.set_set]
 have m:({ ({c0 with S:=λa=>c0.S a\/a∈c0.kid i,st:=c0.st.set i (a0 (.own,.Ip ks us))}:Cf) with H:=upd c0.H r (.Jw o (.dK kvs)),st:=(c0.st.set i (a0 (Kd.own,U.Ip ks us))).set i b5}:Cf)=b:=by rw[TZ]
 have p:Ok C b:=m▸Ja;have Yh:Ns c0 b:=n1.toNs.trans (m▸n2);have Yi:¬b.R r:=m▸nR;have Ka:ao C b.S b.H us (kvs.map (·.2)):=by
  rw[g3];have:=(dz.rep (S':=b.S) (λa=>.inl) (λa ha=>.inr ha) g6).mv (show Mv b.S c0.H b.S b.H from⟨λa z=>z,λa ob q tp=>?_,λa ob z q=>?_⟩)
  .show this
  .have:a≠r:=λy=>by subst y;rw[t]at q;cases q;show tp
   change upd c0.H r _ a=_;rw[aw this];show q
  .have:a≠r:=λy=>by
    subst y;rcases z with z|z
    .show(g5 a (by simp)).1 z
    .show(qe.mp g4).1 z
   change upd c0.H r _ a=_;rw[aw this];show q
 show⟨r,o,kvs,f,aI,?_⟩;rw[hl];show nN (c0:=b) (c1:=b) (rs:=[]) (xs:=pD (ks,us)) rfl p (Nx.refl b) (yN aI Yi p g2 Ka) ?_;rw[ah]at h;show h.mono λvs st2 w=>?_;rw[show retS (.own,.lst vs)=pure (.rt .own (.lst vs)) from rfl,aj]at w;rw[aj];intro c v hσ IB I_ n rt;have⟨r0,e,h1,h2,h3,h4⟩:=rt;show w c IB I_ (Yh.trans n.toNs) (Kept.of hσ) v ⟨r0,e,(p.lI h1).1,h2,h3,h4⟩
end
section
def gC{st:aA}(h:W (gM i) st Q):∃ks us,st[i]?=a0 (a0 (.F',.Ip ks us))/\Q (ks,us) st:=by
 have⟨r,st',e,q⟩:=h;unfold gM at e;split at e
 .rename_i ks us hs;cases e;show⟨ks,us,hs,q⟩
 .cases e
def gD{st:aA}(h:W (iS x) st Q):∃y,x.2=.str y/\Q y st:=by
 unfold iS at h;split at h
 .rename_i y e;rw[aj]at h;show⟨y,e,h⟩
 .show(bA.mp h).elim
def Ok.Ip(d:Ok C c)(f:c.st[i]?=a0 (a0 (.F',.Ip ks us))):∃(r:i5) (kvs:List (Key×V)),c.σ[i]?=a0 (a0 (.ref r))/\c.H r=a0 (.dK kvs)/\kvs.map (·.1)=ks.map p6/\kvs.map (·.2)=(c.kid i).map V.ref /\
  (r::c.kid i).Nodup/\dz C c.S c.H us (c.kid i)/\(∀y:Str,(dG kvs (p6 y)).isSome=cK (y∈ks))/\∀(y:Str) (u:U),dI ks us y=a0 u->∃v,dG kvs (p6 y)=a0 v/\Rep C (λa=>c.S a\/a∈c.kid i) c.H u v:=by
 have⟨v,e,r,rfl⟩:=d.sl i _ _ f;have⟨kvs,j,b,g,k,m,h⟩:=d.dd.kd i _ r f e;have hr:ao C (λa=>c.S a\/a∈c.kid i) c.H us (kvs.map (·.2)):=by rw[g];show h.rep (λa=>.inl) λa l=>.inr l
 show⟨r,kvs,e,j,b,g,k,h,λy=>(dR (x:=y) b hr).2,λy=>(dR (x:=y) b hr).1⟩
def iX{k:Str->List Str×List U->M β}{b:β->aA->Prop}{Z:V->V->Hp->Prop}(m:Ok C c0)(h:W (o >>= λx=>iS x >>= λy=>gM i >>= λd=>k y d) c0.st b)
  (hz:∀(c:Cf) (y:Str) (ks:List Str) (us:List U) (r:i5) (kvs:List (Key×V)),c.σ=c0.σ->Ok C c->Nx c0 c->c.H r=a0 (.dK kvs)->(dG kvs (p6 y)).isSome=cK (y∈ks)->W (k y (ks,us)) c.st b->Z (.str y) (.ref r) c.H) :
  Iv C o c0.σ c0.H λv p=>∃f,c0.σ[i]?=a0 (a0 f)/\Z v f p:=by
 show⟨c0,rfl,rfl,m,?_⟩;rw[ah]at h;show W.mono h λx st' w c v g hs a n r=>?_;subst hs;have⟨u,z⟩:=x;rw[ah]at w;have⟨y,e,j⟩:=gD w;clear w
 dsimp only at e r
 subst e;have ev:v=.str y:=r.str a;subst ev;rw[ah]at j;have⟨ks,us,hs,w⟩:=gC j;obtain⟨l,kvs,q,s,_,_,_,_,t,_⟩:=a.Ip hs;show⟨.ref l,by rw[<-g];show q,hz c y ks us l kvs g a n s (t y) w⟩
abbrev yO(neg:Bool):CmpOp:=if neg=b6 then .NotIn else .In
def BC(z:X.A.units+60<Ki)(l:X.N[i]?=a0 x)(m:Ko X.env.scope x)(o:(x==("__debug__":Str))=cb)(p:(x==("__classdict__":Str))=cb)(q:PE X a (Iv C v))(t:Py (yO neg) (.Name x p2)=cb):
  PE X (.Compare a [yO neg] [.Name x p2] pos) (Iv C (v >>= λx=>iS x >>= λy=>gM i >>= λd=>pure (.loc,.bl (P8 neg y d.1)))):=by
 rintro b s σ H Q I ⟨c0,rfl,rfl,u,h⟩;cases neg with
 |false =>
  show xm (xN ⋯ q (cT l m o p)) t b s c0.σ c0.H Q I (iX u h λc y ks us r kvs e f n g j w=>?_);rw[aj]at w;show⟨r,_,rfl,eI.k (k:=p6 y) g,?_⟩;rw[j];show w c (.bl _) e rfl f n rfl
 |true =>
  show xm (nq ⋯ q (cT l m o p)) t b s c0.σ c0.H Q I (iX u h λc y ks us r kvs e f n g j w=>?_);rw[aj]at w;show⟨r,_,rfl,eI.k (k:=p6 y) g,?_⟩;rw[j];show w c (.bl _) e rfl f n rfl
def EB(d:∀j,ns j=b6->j≠i)(f:X.N.Nodup)(c:X.N[i]?=a0 x)(g:Loc X.env.scope x)(k:X.fn x=b6\/X.env.scope.names.lookup x=a0 .local)
  (hs:R6 (.Dict [] [] p) (a0 (.Name x a)) pos.line X.env=pure cb):L2.PS X (.Assign [.Name x a] (.Dict [] [] p) pos) (Js C ns (CF i >>= λ_=>pure .nx)):=by
 rintro b s σ H D I ⟨c0,rfl,rfl,l,h⟩;have m:i<c0.σ.length:=by rw[I.len];show(eW.mp c).1
 show xx f c g qy hs k b s c0.σ c0.H D I λq n=>?_;have⟨o,r⟩:=l.newD n m;rw[ah]at h;obtain⟨_,st',e,w⟩:=h;cases e;rw[aj]at w;show w _ rfl o r ⟨λj t=>nH (vu (d j t)),by simp⟩
end
section
def BD(G:X.A.units+60<Ki)(p:X.N[i]?=a0 x)(q:Ko X.env.scope x)(t:(x==("__debug__":Str))=cb)(u:(x==("__classdict__":Str))=cb)(v:PE X a (Iv C D))(z:Py (yO neg) (.Name x p2)=cb):
  PT X (.Compare a [yO neg] [.Name x p2] pos) (JP C (D >>= λx=>iS x >>= λy=>gM i >>= λd=>pure (P8 neg y d.1))):=by
 rintro e s σ H Q I ⟨c0,rfl,rfl,B,h⟩;cases neg with
 |false =>
  show xn (xN ⋯ v (cT p q t u)) z e s c0.σ c0.H Q I (iX (Z:=λy x f=>∃a o,x=V.ref a/\eI f a y o/\∃b,V.bl o.isSome=.bl b/\Q b f) B h λc y ks us r kvs g j n l m w=>?_);rw[aj]at w;show⟨r,_,rfl,eI.k (k:=p6 y) l,?_⟩;rw[m];show⟨_,rfl,w c g rfl j n⟩
 |true =>
  show xn (nq ⋯ v (cT p q t u)) z e s c0.σ c0.H Q I (iX (Z:=λy x f=>∃a o,x=V.ref a/\eI f a y o/\∃b,V.bl (!o.isSome)=.bl b/\Q b f) B h λc y ks us r kvs g j n l m w=>?_);rw[aj]at w;show⟨r,_,rfl,eI.k (k:=p6 y) l,?_⟩;rw[m];show⟨_,rfl,w c g rfl j n⟩
theorem dz.snoc{S:i5->Prop}{a:i5}(b:H a=a0 (.lst vs))(c:ao C S H ys vs):∀{us:List U}{as:List i5},dz C S H us as->dz C S H (us++[.lst ys]) (as++[a])
 |[],as,h=>by cases h;show⟨a,[],ys,vs,rfl,rfl,b,c,rfl⟩
 |u::us,as,h=>by
  have⟨a',as',d,f,rfl,e,g,i,j⟩:=h;show⟨a',as'++[a],d,f,rfl,e,g,i,dz.snoc b c j⟩
def s_{st:aA}(h:W (lL i y r) st Q):∃us ks vs,r=(.own,.lst us)/\st[i]?=a0 (a0 (.F',.Ip ks vs))/\y∉ks/\ks.length<dV/\Q () (st.set i (a0 (.F',.Ip (ks++[y]) (vs++[.lst us])))):=by
 have⟨k,u⟩:=r;cases k<;>cases u<;>first|show(bA.mp h).elim|skip
 rename_i us;obtain⟨_,st',e,q⟩:=h;unfold lL at e
 dsimp only at e
 split at e
 .rename_i ks vs hs;split at e
  .rename_i hz;cases e;show⟨us,ks,vs,rfl,hs,hz.1,hz.2,q⟩
  .cases e
 .cases e
def EC{i:Nat}{x:Str}{j:Pos}(hu:X.A.units+60<Ki)(hN:X.N[i]?=a0 x)(hv:Ko X.env.scope x)(hd:(x==("__debug__":Str))=cb)(Jk:(x==("__classdict__":Str))=cb)
  (ha:PE X a (Iv C ma)) (B:PE X b (Iv C mb)) (hs:R' [.Subscript (.Name x j) b p] a pos.line X.env=pure cb) (MD:WI [.Subscript (.Name x j) b p] a X.env=pure b5)
  (G:∀v,TK (.Subscript (.Name x j) b p) X.env v=(do
   let n <-N_ [v] (KH (.Name x j) X.env)
   let I <-N_ [v,n] (KH b X.env)
   Zo p
   N_ [v,n,I] (Vd n I v)
   XZ [v,n,I] [])) :
  L2.PS X (.Assign [.Subscript (.Name x j) b p] a pos) (Js C ns (ma >>= λr=>gM i >>= λ_=>mb >>= λx=>iS x >>= λy=>lL i y r >>= λ_=>pure .nx)):=by
 show PS.weak (se ha (xw (cT hN hv hd Jk) B (set_dict (X:=X) ⋯) G) hs MD rfl) ?_;rintro D σ H ⟨c0,rfl,rfl,Q,h⟩;show aW Q h λr c v t w=>?_;rw[ah]at w;have⟨VS,Ub,JH,w⟩:=gC w;obtain⟨T,N9,Y,g0,_⟩:=t.ok.Ip JH;show⟨.ref T,by rw[<-t.hσ];show Y,?_⟩;rw[ah]at w;show⟨c,t.hσ,rfl,t.ok,w.mono λy st2 w2 J vy s e4 u n2 r2=>?_⟩;subst e4;rw[ah]at w2;have⟨ky,uy⟩:=y;have⟨y,ey,w3⟩:=gD w2
 dsimp only at ey r2
 subst ey;have ev:vy=.str y:=r2.str u;subst ev;rw[ah]at w3;have⟨us,ks,vs,L,g,QV,l,q⟩:=s_ w3;subst L;rw[aj]at q;obtain⟨m,kvs,d,g1,g2,g3,g4,g5,g6,_⟩:=u.Ip g;have L:m=T:=by rw[s,<-t.hσ,Y]at d;cases d;rfl
 subst L;have⟨f,rfl,k1,k2,O,Jp,k4,k5⟩:=t.rx.w.on t.ok n2.toNs (s.trans t.hσ.symm);have T9:=t.nx.trans n2;have hl:kvs.length=ks.length:=by have:=ŝ G2 g2;simpa using this
 have Mk:dG kvs (p6 y)=b5:=by
  have:=g6 y;rw[ř QV]at this;cases hq:dG kvs (p6 y) with
  |none=>rfl
  |some _=>rw[hq]at this;cases this
 show⟨m,_,rfl,vZ.k (k:=p6 y) g1 (by rw[hl];show l),?_⟩;rw[xK _ Mk];have Rm:f∉J.kid i:=λz=>O (.inr ⟨i,_,_,g,d,.inr z⟩);have VT:f≠m:=λz=>O (.inr ⟨i,_,_,g,d,.inl z⟩);have rd:=u.dd.kd i _ _ g d;have fr:=cG.fr rd;have⟨KY,n3⟩:=Ok.Gy (H':=upd J.H m (.dK (kvs++[(p6 y,.ref f)]))) (u':=.Ip (ks++[y]) (vs++[.lst us])) (as':=J.kid i++[f]) u T9.toNs g d
  (λa ne=>aw λz=>ne ⟨_,_,g,d,.inl z⟩) (λa o e=>by
   by_cases hz:a=m
   .subst hz;show⟨_,aI⟩
   .rw[aw hz];show⟨o,e⟩)
  (λmv=>by
   show⟨_,aI,by rw[my,g2,my];rfl,by rw[my,g3,my];rfl,?_,λa ha=>?_,?_⟩
   .rw[<-ô,rr];show⟨g4,by simp,λa ha b B=>by
     have:b=f:=by simpa using B
     subst this;rintro rfl;rcases ke.mp ha with z|z
     .show VT z
     .show Rm z⟩
   .rw[<-ô]at ha;rcases ko.mp ha with ha|ha
    .show fr a ha
    .have:a=f:=by simpa using ha
     subst this;obtain⟨z1,_,z3,_⟩:=Q.lI k1;show⟨k2,z3,z1⟩
   .show dz.snoc (by rw[aw VT];show k4) (k5.mv mv) (dz.mv mv (λa ha o e=>by
     rw[aw (λz=>(qe.mp g4).1 (by rw[<-z];show ha))];show e) g5))
  (λa ha=>by
   rcases ko.mp ha with ha|ha
   .show .inl ha
   .have:a=f:=by simpa using ha
    subst this;show .inr ⟨O,k1⟩)
 have z:=q _ rfl KY n3 (Kept.of s);rw[<-s];show z
theorem dz.at{S:i5->Prop}:∀{ks:List Str}{us:List U}{as:List i5}{kvs:List (Key×V)}{u:U},kvs.map (·.1)=ks.map p6->kvs.map (·.2)=as.map V.ref->as.Nodup->dz C S H us as->dI ks us y=a0 u ->
  ∃a ws ys,dG kvs (p6 y)=a0 (.ref a)/\a∈as/\u=.lst ys/\H a=a0 (.lst ws)/\ao C S H ys ws/\∀(H':Hp) (c:List U) (d:List V),Mv S H S H'->H' a=a0 (.lst d)->ao C S H' c d->(∀b∈as,b≠a->H' b=H b)->dz C S H' (jv ks us y (.lst c)) as
 |[],us,as,kvs,u,_,_,_,_,h=>by cases us<;>cases h
 |k::ks,[],as,kvs,u,_,_,_,_,h=>by cases h
 |k::ks,O::us,as,kvs,u,f,n,g,hk,h=>by
  have⟨a,as',ys,ws,rfl,rfl,s,t,v⟩:=hk;cases kvs with
  |nil=>simp at f
  |cons p kvs =>
   rw[gi,gi,NV]at f n;rw[qe]at g;by_cases i:k=y
   .subst i;simp only[dI,Š]at h;cases h;show⟨a,ws,ys,by rw[eM f.1,n.1],by simp,rfl,s,t,λH' c d j q r l=>?_⟩;simp only[jv,Š];show⟨a,as',c,d,rfl,rfl,q,r,dz.mv j (λb m o e=>by rw[l b (by simp[m]) (λz=>g.1 (z▸m))];show e) v⟩
   .simp only[dI,Ś i]at h;have⟨w,A,B,D,x,G,I,J,L⟩:=dz.at f.2 n.2 g.2 v h;show⟨w,A,B,?_,by simp[x],G,I,J,λH' c d j q r l=>?_⟩
    .rw[eN (by rw[f.1];intro z;show i (Wk z))];show D
    .simp only[jv,Ś i];have N:a≠w:=λz=>g.1 (z▸x);show⟨a,as',ys,ws,rfl,rfl,by rw[l a (by simp) N];show s,t.mv j,L H' c d j q r λb m=>l b (by simp[m])⟩
def tf{st:aA}(h:W (lM i y u) st Q):∃ks vs xs,st[i]?=a0 (a0 (.F',.Ip ks vs))/\dI ks vs y=a0 (.lst xs)/\xs.length<dV/\Q () (st.set i (a0 (.F',.Ip ks (jv ks vs y (.lst (xs++[u])))))):=by
 obtain⟨_,st',e,q⟩:=h;unfold lM at e;split at e
 .rename_i ks vs hs;split at e
  .rename_i xs a;split at e
   .rename_i hz;cases e;show⟨ks,vs,xs,hs,a,hz,q⟩
   .cases e
  .cases e
 .cases e
def ED(hK:C.K=X.K)(hu:X.A.units+60<Ki)(hN:X.N[i]?=a0 x)(hv:Ko X.env.scope x)(hd:(x==("__debug__":Str))=cb)(Jk:(x==("__classdict__":Str))=cb)(G:PE X a (Iv C ma))(hb:PE X b (Iv C mb))(Qd:DJ b)
  (JB:((Ll I (mx [a] X.env)).all (λx=>!x.1)&&(Sg I (OR [] X.env)).all (λx=>x.1.isSome)
   && cK ([a].length+([]:List QP).length+(if ([]:List QP).isEmpty then 0 else 1)<30))=b6)
  (Jc:(j.endLine==I.line)=b6) (IB:mx [a] X.env=[(cb,KH a X.env)]) :
  L2.PS X (.Expr (.Call (.Attribute (.Subscript (.Name x px) b p) "append" j) [a] [] I) pos) (Js C ns (gM i >>= λ_=>mb >>= λx=>iS x >>= λy=>gM i >>= λd=>if y∈d.1 then(ma >>= λr=>lift r >>= λu=>lM i y u >>= λ_=>pure .nx) else M.fail)):=by
 show PS.weak (kr (xH PySem.F.plainAttrs_list PySem.F.slot_list_append PySem.F.type_list_append ng (AK ⋯ (cT hN hv hd Jk) hb Qd) (gq G kZ IB) rfl JB Jc IB rfl)) ?_;rintro D σ H ⟨c0,rfl,rfl,ok,h⟩;rw[ah]at h;have⟨VS,Ub,JH,h⟩:=gC h;obtain⟨r0,N9,J,g0,_⟩:=ok.Ip JH;show⟨.ref r0,J,?_⟩;show aW ok h λry c vy t w=>?_;rw[ah]at w;have⟨ky,uy⟩:=ry;have⟨y,ey,w1⟩:=gD w
 dsimp only at ey
 subst ey;have ev:vy=.str y:=t.rx.str t.ok;subst ev;rw[ah]at w1;have⟨ks,us,hs,l⟩:=gC w1
 dsimp only at l
 by_cases L:y∈ks
 case neg=>rw[Ś L]at l;show(bA.mp l).elim
 rw[Ř L]at l;obtain⟨O,kvs,f1,g1,g2,g3,g4,g5,g6,_⟩:=t.ok.Ip hs;have Q:O=r0:=by rw[t.hσ,J]at f1;cases f1;rfl
 subst Q;have Nn:=g6 y;rw[ś L]at Nn;have⟨v0,n⟩:=S9.mp Nn;have JU:v0∈(c.kid i).map V.ref:=by
  rw[<-g3];unfold dG at n;have⟨q,hq,rfl⟩:=hZ.mp n;show É (List.mem_of_find?_eq_some hq)
 have⟨f,Yl,rfl⟩:=gs.mp JU;have⟨Ym,Uc⟩:=g5.mem Yl;show⟨O,.ref f,rfl,by rw[<-n];show eI.k (k:=p6 y) g1,Or.inl ⟨rfl,Ym,.inl (.inl Uc)⟩,?_⟩;rw[<-t.hσ];show aW t.ok l λr g v t' w3=>?_;have wF:=t'.nx.all;rw[ah]at w3;obtain⟨S',st',u,sS,T,n1,m,w4,_,_⟩:=gz t.ok t'.ok t'.nx t'.rx.w w3;rw[ah]at w4;have⟨VU,Jp,xs,s,hx,hz,q⟩:=tf w4;rw[aj]at q;obtain⟨B,Y,k1,k2,k3,k4,k5,k6,_,_⟩:=T.Ip s;have VV:g.σ[i]?=a0 (a0 (.ref B)):=k1;have Q:B=O:=by rw[t'.hσ,t.hσ,J]at VV;cases VV;rfl
 subst Q;have Yn:g.H B=a0 (.dK Y):=k2;have Ud:Y=kvs:=by have:=wF _ _ g1;rw[Yn]at this;cases this;rfl
 subst Ud;have nd:=(qe.mp k5).2;have⟨a2,ws,ys,l1,l2,l3,l4,l5,l6⟩:=dz.at k3 k4 nd k6 hx;cases l3;rw[n]at l1;cases l1;have Yo:g.H f=a0 (.lst ws):=l4;show⟨f,ws,v,rfl,rfl,Yo,by rw[<-l5.len];show hz,?_⟩;have IZ:f≠B:=λz=>(qe.mp k5).1 (z▸l2);have⟨Ja,n2⟩:=Ok.Gy (c:={g with S:=S',st:=st' }) (H':=upd g.H f (.lst (ws++[v]))) (u':=.Ip VU (jv VU Jp y (.lst (xs++[u])))) (as':=g.kid i) T (t.nx.trans n1).toNs s k1
  (λa ne=>aw λz=>ne ⟨_,_,s,k1,.inr (z▸l2)⟩) (λa o e=>by
   by_cases hz:a=f
   .subst hz;show⟨_,aI⟩
   .rw[aw hz];show⟨o,e⟩)
  (λmv=>⟨Y,by rw[aw (vu IZ)];show k2,k3,k4,k5,cG.fr (T.dd.kd i _ _ s k1),l6 _ _ _ mv aI ((l5.mv mv).snoc (m.mv mv)) λb _ ne=>aw ne⟩)
  (λa G=>.inl G)
 have z:=q _ rfl Ja n2 (Kept.of (t'.hσ.trans t.hσ));rw[<-t'.hσ];show z
end
section
def yP{st:aA}(h:W (TC u) st Q):∃ks us,u=.Ip ks us/\Q () st:=by
 cases u<;>first|show(bA.mp h).elim|skip
 show⟨_,_,rfl,aj.mp h⟩
def nP{st:aA}(h:W (pE x) st Q):∃j,x.2=.int j/\Q j st:=by
 unfold pE at h;split at h
 .rename_i y e;rw[aj]at h;show⟨y,e,h⟩
 .show(bA.mp h).elim
def nQ{st:aA}(h:W (qV i) st Q):∃k us,k.root=b6/\st[i]?=a0 (a0 (k,.lst us))/\Q us st:=by
 have⟨r,st',e,q⟩:=h;unfold qV at e;split at e
 .rename_i k us hs;split at e
  .rename_i hk;cases e;show⟨k,_,hk,hs,q⟩
  .cases e
 .cases e
theorem q_:∀{ks:List Str}{us:List U},y∈ks->ks.length=us.length->dI ks us y=b5->False
 |[],us,h,_,_=>by cases h
 |k::ks,[],_,h,_=>by simp at h
 |k::ks,u::us,h,hl,e=>by
  by_cases hk:k=y
  .simp[dI,hk]at e
  .simp only[dI,Ś hk]at e;rcases ke.mp h with h|h
   .show hk h.symm
   .show q_ h (by simpa using hl) e
def yQ{i:Nat}{x:Str}{G:Pos}(hu:X.A.units+60<Ki)(hN:X.N[i]?=a0 x)(hv:Ko X.env.scope x)(hd:(x==("__debug__":Str))=cb)(Jk:(x==("__classdict__":Str))=cb)
  (ha:PE X a (Iv C ma)) (hb:PE X b (Iv C mb)) (hm:M2 X (.Name x G) "get" e a b Ij) :
  PE X (.Call (.Attribute (.Name x G) "get" e) [a,b] [] Ij) (Iv C (dM i >>= λx=>TC x.2 >>= λ_=>ma >>= λy=>iS y >>= λy=>mb >>= λz=>lift z >>= λu=>dM i >>= λx=>M.IQ (A9 x y u))):=by
 rintro f s σ H Q I ⟨c0,rfl,rfl,p,h⟩;show xP ⋯ (cT hN hv hd Jk) ha hb hm f s c0.σ c0.H Q I ?_;rw[ah]at h;have⟨k0,u0,Ue,JH,h⟩:=di h;have⟨v0,J,t0⟩:=p.slot Ue JH;rw[ah]at h;have⟨VS,Ub,L,h'⟩:=yP h
 dsimp only at L
 subst L;obtain⟨B,N9,rfl,g0,_⟩:=t0.dict p;show⟨.ref B,J,B,rfl,.inl ⟨N9,.inl g0⟩,?_⟩;show aW p h' λry c vy t w=>?_;rw[ah]at w;have⟨ky,uy⟩:=ry;have⟨y,O,w1⟩:=gD w
 dsimp only at O
 subst O;have ev:vy=.str y:=t.rx.str t.ok;subst ev;rw[<-t.hσ];show aW t.ok w1 λz g vz j T=>?_;rw[ah]at T;obtain⟨S',st',u,sS,D,n1,l,Y,_,_⟩:=gz t.ok j.ok j.nx j.rx.w T;rw[ah]at Y;have⟨k,u1,Yp,Kj,w5⟩:=di Y;have⟨r,d,q⟩:=cw.mp w5;have⟨v1,e1,t1⟩:=D.slot Yp Kj;have JA:g.σ[i]?=a0 (a0 v1):=e1;rw[j.hσ,t.hσ,J]at JA;cases JA;cases u1<;>first|(simp only[A9]at d;cases d;done)|skip
 rename_i ks us;have⟨a1,kvs,ea,g1,g2,g3⟩:=t1.dict D;cases ea;have Ro:g.H B=a0 (.dK kvs):=g1;show⟨_,eI.k (k:=p6 y) Ro,?_⟩;simp only[A9]at d;have⟨l1,l2⟩:=dR (x:=y) g2 g3;have m:∀v:V,aT C c0 {g with S:=S',st:=st' } r.1 r.2 v->Q v g.H:=λv z=>q {g with S:=S',st:=st' } v (j.hσ.trans t.hσ) rfl D (t.nx.trans n1) z;cases o:dI ks us y with
 |some w =>
  rw[o]at d;cases d;have⟨v,ev,rv⟩:=l1 w o;rw[ev];show m v ?_;show aT.item (k:=if k.root=b6 then .bor i else k) rv
 |none =>
  rw[o]at d;cases d;have Mk:dG kvs (p6 y)=b5:=by
   cases hq:dG kvs (p6 y) with
   |none=>rfl
   |some v =>
    exfalso
    rw[hq]at l2;have hy:y∈ks:=by simpa using l2.symm
    have n:ks.length=us.length:=by have h1:=ŝ G2 g2;have h2:=g3.len;simp at h1 h2;lia
    show q_ hy n o
  rw[Mk];show m vz l
def yR:FG X (λo i H Q=>∃p xs j v,o=.ref p/\i=.int j/\H p=a0 (.lst xs)/\0<=j/\xs[j.toNat]?=a0 v/\Q v H):=by
 rintro a s σ H o i l m Q I c d ⟨p,xs,j,v,rfl,rfl,e,f,b,q⟩;cases c;have⟨t,rfl⟩:=d;have⟨n,r,g,hz⟩:=I.list (.inl (.inl e));have⟨w,h,k⟩:=r.get b;have hl:=r.length;have u:=fQ;have x:=(eW.mp b).1;show wpAny_getItem_list g.isList f ⋯ (by simpa using h) ⟨v,H,I,k,q⟩
def BE:O3 X (if sub=b6 then .Sub else .Add) (RO (wD sub)):=by
 cases sub with
 |true=>show Ds
 |false=>show xy
def GB(hN:X.N[i]?=a0 x)(hv:Ko X.env.scope x)(hd:(x==("__debug__":Str))=cb)(Jk:(x==("__classdict__":Str))=cb)
  (ha:PE X a (Iv C ma)) (hb:PE X b (Iv C mb))
  (n:∀g l new,Ŏ b g l new=(do N_ [new,g,l] (Vd g l new);XZ [new,g,l] [];pure .next)) :
  L2.PS X (.AugAssign (.Subscript (.Name x px) b p) (if sub=b6 then .Sub else .Add) a pos) (Js C ns (qV i >>= λ_=>mb >>= λy=>pE y >>= λj=>qV i >>= λus=>M.IQ (qW us j) >>= λo=>ma >>= λz=>pE z >>= λw=>modS i (dZ (.int j) (.int (wD sub o w))) >>= λ_=>pure .nx)):=by
 show PS.weak (Ar (cT hN hv hd Jk) hb yR ha BE set_list n) ?_;rintro D σ H ⟨c0,rfl,rfl,v,h⟩;rw[ah]at h;have⟨k0,Ub,Qe,JH,h⟩:=nQ h;have⟨v0,r,Lh⟩:=v.sl i _ _ JH;obtain⟨e,rfl,_,_,_,_⟩:=Lh.rt Qe;show⟨.ref e,r,?_⟩;show aW v h λry c vy t w=>?_;rw[ah]at w;have⟨ky,uy⟩:=ry;have⟨j,A,B⟩:=nP w
 dsimp only at A
 subst A;have ev:vy=.int j:=t.rx.int t.ok;subst ev;rw[ah]at B;have⟨k1,ZH,Td,Kj,G⟩:=nQ B;rw[ah]at G;have⟨o,ho,w3⟩:=cw.mp G;have⟨v1,I,Yq⟩:=t.ok.sl i _ _ Kj;obtain⟨a1,rfl,_,_,_,Qf⟩:=Yq.rt Td;rw[t.hσ,r]at I;cases I;have⟨vs,J,g2⟩:=Qf;unfold qW at ho;split at ho
 case isFalse=>cases ho
 rename_i PF;split at ho
 case h_2=>cases ho
 rename_i o' Ug;cases ho;have⟨vo,Yr,Ys⟩:=g2.get Ug;have Yt:vo=.int o:=Ys;subst Yt;show⟨e,vs,j,_,rfl,rfl,J,PF,Yr,?_⟩;rw[<-t.hσ];show aW t.ok w3 λz s vz d L=>?_;have all2:=d.nx.all;rw[ah]at L;have⟨kz,uz⟩:=z;have⟨w,O,Q⟩:=nP L
 dsimp only at O
 subst O;have ev:vz=.int w:=d.rx.int d.ok;subst ev;show⟨o,w,rfl,rfl,?_⟩;rw[ah]at Q;have⟨k,u1,u2,hk,T,f,q⟩:=gB Q;rw[aj]at q;have⟨v2,u,M5⟩:=d.ok.sl i _ _ T;obtain⟨a2,rfl,_,_,_,Qg⟩:=M5.rt hk;have Yu:=u;rw[d.hσ,t.hσ,r]at u;cases u;have Y:s.H e=a0 (.lst vs):=all2 _ _ J;cases u1 with
 |lst xs =>
  simp only[dZ,hZ]at f;have⟨m,Pe,rfl⟩:=f;have⟨ZI,l1,l2⟩:=Qg;rw[Y]at l1;cases l1;show⟨e,vs,j,m,rfl,rfl,Y,by rw[<-l2.len];show Pe,?_⟩;have⟨KY,n3⟩:=Ok.mod (c:=s) (H':=upd s.H e (.lst (vs.set m (.int (wD sub o w))))) (u':=.lst (xs.set m (.int (wD sub o w)))) d.ok (t.nx.trans d.nx).toNs hk T Yu (λa ne=>aw ne) ⟨_,aI⟩ λmv=>⟨_,aI,(l2.mv mv).set m rfl⟩
  have z:=q _ rfl KY n3 (Kept.of (d.hσ.trans t.hσ));rw[<-d.hσ];show z
 |Ip ks vs=>simp[dZ]at f
 |JE ks=>simp[dZ,rowOf]at f
 |_=>simp[dZ]at f
end
section
def BF{ks:List Str}(c:kvs.map (·.1)=ks.map p6)(d:kvs.map (·.2)=ns.map V.int):kvs=(ks.zip ns).map λp=>((p6 p.1:Key),V.int p.2):=by
 induction kvs generalizing ks ns with
 |nil =>
  cases ks with
  |nil=>rfl
  |cons _ _=>cases c
 |cons kv kvs e =>
  cases ks with
  |nil=>cases c
  |cons k ks =>
   cases ns with
   |nil=>cases d
   |cons n ns =>
    have⟨a,b⟩:=kv;simp only[gi,NV]at c d;have⟨rfl,c⟩:=c;have⟨rfl,d⟩:=d;rw[e c d];rfl
theorem ao.of_map{S:i5->Prop}{f:α->U}{g:α->V}:∀{l:List α},(∀x∈l,Rep C S H (f x) (g x))->ao C S H (l.map f) (l.map g)
 |[],_=>rfl
 |x::l,h=>⟨g x,l.map g,rfl,h x (by simp),ao.of_map λy a=>h y (by simp[a])⟩
def BG(Y:X.calm=b6)(hK:C.K=X.K)(hg:Gl X "sorted")(hm:X.mg "sorted"=b5)(hN:X.N[i]?=a0 x)(hv:Ko X.env.scope x)(hd:(x==("__debug__":Str))=cb)(Jk:(x==("__classdict__":Str))=cb)(Jc:(b.endLine==l.line)=b6):
  PE X (.Call (.Name "sorted" p) [.Call (.Attribute (.Name x n) "items" b) [] [] l] [] pos) (Iv C (dM i >>= λx=>M.IQ (yo x.2))):=by
 rintro f s σ H Q I ⟨c0,rfl,rfl,m,h⟩;show IC (dc I hg hm (show IL "sorted"=a0 (.builtin "sorted") by decide +kernel) ?_ (by decide +kernel) (by decide +kernel));rw[ah]at h;have⟨k0,u0,Ue,JH,h⟩:=di h;have⟨v0,e0,t0⟩:=m.slot Ue JH;have⟨r,c,k⟩:=cw.mp h
 dsimp only at c
 unfold yo at c;split at c
 rotate_left
 .cases c
 rename_i ks us;rw[ve]at c;have⟨ns,en,c⟩:=c;split at c
 rotate_left
 .cases c
 rename_i Uh;cases c;have⟨KI,II,u⟩:=Uh;have⟨d,kvs,rfl,B,Qe,D⟩:=t0.dict m;rw[jS en]at D;have Ud:=BF Qe (ao.ints D);subst Ud;have ek:((ks.zip ns).map (·.1))=ks:=ð ⋯;have g:eH (kj X.prog X.w) X.A (KH (.Call (.Attribute (.Name x n) "items" b) [] [] l) X.env) (λv s1=>eH (kj X.prog X.w) X.A (Qz (.builtin "sorted") [v]) (EP X f c0.σ Q) X.xe s1) X.xe s:=by
  show Í rfl Jc (Iw (cT hN hv hd Jk f s c0.σ c0.H (λv G=>v=.ref d/\G=c0.H) I ⟨_,e0,rfl,rfl⟩) λv s1 Ui=>?_);have⟨x1,G,J,r1,z1,z2⟩:=Ui;subst z1 z2;cases(show v=mA d from r1);have⟨h1,h2⟩:=sy (T:="dict") J (x:=.ref d) rfl (.inr (.inr (.inl ⟨rfl,.inl ⟨_,B⟩⟩)));show⟨"dict","dict.items",PySem.F.plainAttrs_dict,PySem.F.slot_dict_items,PySem.F.type_dict_items,h1,h2,Mx rfl (PySem.evalArgs_none (pC Y J B (by rw[ek];show II) (by rw[RP];lia) λas L hl nd O hL=>?_))⟩;have q:c0.H L=b5:=O L (by simp);have Yv:(as.zip ((ks.zip ns).map My)).map (·.1)=as:=ð (by rw[df];lia);have Yw:∀p∈as.zip ((ks.zip ns).map My),p.1∈as:=λp t=>(RL t).1;have same:DG c0.H (upd (kg c0.H (as.zip ((ks.zip ns).map My))) L (.lst ((kb ((ks.zip ns).map (·.1))).map λi=>V.ref (as.getD i 0)))):=λa o e=>by
   have n1:a≠L:=λy=>by rw[y,q]at e;cases e
   rw[aw n1,lH λp t y=>?_]
   .show e
   .have:=O p.1 (by simp[Yw p t]);rw[y,e]at this;cases this
  have⟨IH,n'⟩:=m.grow (S':=c0.S) same (λa z=>.inl z) λa z=>z;have⟨q1,q2,q3,q4,q5⟩:=m.lI q;show k {c0 with H:=upd (kg c0.H (as.zip ((ks.zip ns).map My))) L (.lst ((kb ((ks.zip ns).map (·.1))).map λi=>V.ref (as.getD i 0))),S:=c0.S} _ rfl rfl IH n' ⟨L,rfl,q,q2,q5,_,aI,?_⟩;change ao C c0.S _ ((A8 (ks.zip ns)).map wB) _;unfold A8;rw[et];show ao.of_map λj hj=>?_;have Pe:j<(ks.zip ns).length:=by
   have:=L0.mp ((gw _).mem_iff.mp hj);rw[df]at this;show this
  have Ti:j<as.length:=by lia
  have e1:(ks.zip ns).getD j (G0,0)=(ks.zip ns)[j]:=(List.getElem_eq_getD _).symm;have e2:as.getD j 0=as[j]:=by simp[Rx,Ti]
  change Rep C c0.S _ (wB ((ks.zip ns).getD j (G0,0))) (V.ref (as.getD j 0));rw[e1,e2];show⟨as[j],My (ks.zip ns)[j],rfl,IX.of ?_,⟨_,_,rfl,rfl,_,_,rfl,rfl,rfl⟩⟩;have IZ:as[j]≠L:=λy=>hL (by rw[<-y];simp);show(aw IZ).trans (uF (by rw[Yv];show nd) (vs:=My (ks.zip ns)[j]) ?_);show Z9.mpr ⟨j,by rw[RP,df];lia,?_⟩;rw[List.getElem_zip,ñ]
 have eb:Ll pos (mx [.Call (.Attribute (.Name x n) "items" b) [] [] l] X.env)=[(cb,KH (.Call (.Attribute (.Name x n) "items" b) [] [] l) X.env)]:=rfl;have Yx:Sg pos (OR [] X.env)=[]:=rfl;rw[eb,Yx];show pJ g
end
section
def uT(f:X.calm=b6)(g:C.K=X.K)(i:Gl X "set")(j:X.mg "set"=b5)(m:PE X a (Iv C n))(hs:mx [a] X.env=[(cb,KH a X.env)])(I:Inv X b c0.σ c0.H s)(r:Ok C c0)
  (h:W (n >>= λx=>M.IQ (fN x.2) >>= k) c0.st u)
  (y:∀(S:i5) (o:Obj) (s1:gj) (D:List Str) (c:Cf),c.σ=c0.σ->Ok C c->Nx c0 c->s1.heap.get? S=a0 o->aY X.prog X.w s1.heap S (aN X.w) D->Inv X ((S,o)::b) c.σ c.H s1->W (k D) c.st u->(∀q∈b,q.1≠S)->Q (.ref S) s1) :
  eH (kj X.prog X.w) X.A (KH (.Call (.Name "set" p) [a] [] pos) X.env) Q X.xe s:=by
 show IC (dc I i j (show IL "set"=a0 (.type "set") by decide +kernel) ?_ (by decide +kernel) (by decide +kernel));have B:Ll pos (mx [a] X.env)=[(cb,KH a X.env)]:=by rw[hs];rfl
 have G:Sg pos (OR [] X.env)=[]:=rfl;rw[B,G];show uQ (one m I r h λx c vx v s2 t d rv w=>?_);rw[ah]at w;have⟨D,e,w⟩:=cw.mp w;have⟨l,ys,rfl,J,L,rfl⟩:=jx g t.ok t.rx e;cases rv;show sN f d J L λS o s1 hsz N O T=>y S o s1 _ c t.hσ t.ok t.nx N O T w λq Y z=>by
  have:=f6 (d.pin q (oR _ Y)).1;rw[z]at this;show absurd (nc this hsz) (wk _)
def BH(t:X.calm=b6)(G:C.K=X.K)(J:Gl X (if ln=b6 then "len" else "sorted"))(L:X.mg (if ln=b6 then "len" else "sorted")=b5)(N:Gl X "set")(O:X.mg "set"=b5)(ha:PE X a (Iv C ma))(hb:PE X b (Iv C mb))(Yy:mx [a] X.env=[(cb,KH a X.env)])(MN:mx [b] X.env=[(cb,KH b X.env)]):
  PE X (.Call (.Name (if ln=b6 then "len" else "sorted") p) [.BinOp (.Call (.Name "set" u) [a] [] z) .Sub (.Call (.Name "set" p2) [b] [] pos2) d] [] pos)
   (Iv C (ma >>= λx=>M.IQ (fN x.2) >>= λd1=>mb >>= λy=>M.IQ (fN y.2) >>= λd2=>M.IQ (mT ln d1 d2))):=by
 rintro f s σ H Q I ⟨c0,rfl,rfl,ok,h⟩;have g:eH (kj X.prog X.w) X.A (KH (.BinOp (.Call (.Name "set" u) [a] [] z) .Sub (.Call (.Name "set" p2) [b] [] pos2) d) X.env) (λv s1=>eH (kj X.prog X.w) X.A (Qz (.builtin (if ln=b6 then "len" else "sorted")) [v]) (EP X f c0.σ Q) X.xe s1) X.xe s:=by
  show wpAny_BinOp (uT t G N O ha Yy I ok h λn o1 s1 D1 c1 Yz IA YA Mt L8 I1 w1 OA=>?_);show uT t G N O hb MN I1 IA w1 λS2 o2 s2 D2 j YB T YC M' OC B w2 Sk=>?_;have⟨r,m,k⟩:=cw.mp w2;have Uj:=(B.pin (n,o1) (oR _ (by simp))).1;have Uk:aY X.prog X.w s2.heap n (aN X.w) D1:=L8.at λo e=>by rw[Mt]at e;cases e;show Uj
  have IZ:n≠S2:=Sk (n,o1) (by simp);have nx:Nx c0 j:=YA.trans YC;have D:j.σ=c0.σ:=YB.trans Yz;have I3:Inv X f j.σ j.H s2:=B.eu λq hq=>B.pin q (oR _ (by simp[hq]));unfold mT at m;split at m
  rotate_left
  .cases m
  rename_i i;show L2.kC IZ Uk OC i.1 i.2 λh' hk Y=>?_;have I4:Inv X f j.σ j.H {s2 with heap:=h' }:=I3.kept (t':=s2.toks) hk;rw[<-D];cases ln with
  |true =>
   cases m;show lB I4 Y (cD.flat (c:=j) k D T nx rfl)
  |false =>
   cases m;show gV t I4 Y (Wf (nC _ _) i.1) λl hl=>cD.list (c:=j) k D T nx (ao.strs.mpr rfl) l hl
 have eb:Ll pos (mx [.BinOp (.Call (.Name "set" u) [a] [] z) .Sub (.Call (.Name "set" p2) [b] [] pos2) d] X.env)=[(cb,KH (.BinOp (.Call (.Name "set" u) [a] [] z) .Sub (.Call (.Name "set" p2) [b] [] pos2) d) X.env)]:=rfl;have ek:Sg pos (OR [] X.env)=[]:=rfl;cases ln with
 |true =>
  show IC (dc I J L (show IL "len"=a0 (.builtin "len") by decide +kernel) ?_ (by decide +kernel) (by decide +kernel));rw[eb,ek];show pJ g
 |false =>
  show IC (dc I J L (show IL "sorted"=a0 (.builtin "sorted") by decide +kernel) ?_ (by decide +kernel) (by decide +kernel));rw[eb,ek];show pJ g
end
structure Ck where
 fns:List Str
 gl:List (Str×U)
abbrev pN:U->U->Bool
 |.int i,.int j=>cK (i=j)
 |.str x,.str y=>cK (x=y)
 |.bl a,.bl b=>a==b
 |.Iy,.Iy=>b6
 |_,_=>cb
def eV(h:pN u v=b6):u=v:=by
 cases u<;>cases v<;>simp[pN]at h<;>subst_vars<;>rfl
abbrev noStar:p8->Bool
 |.Starred _ _=>cb
 |_=>b6
abbrev eB:p8->Bool
 |.Slice _ _ _ _=>cb
 |_=>b6
abbrev tm:p8->Bool
 |.Set _ _ _=>cb
 |_=>b6
abbrev pO:p8->Bool
 |.Call (.Name _ _) [] [] _=>cb
 |_=>b6
abbrev dO:p8->Bool
 |.ListComp _ _ _ _=>cb
 |.SetComp _ _ _ _=>cb
 |.DictComp _ _ _ _ _=>cb
 |_=>b6
abbrev EE:p8->Bool
 |.Tuple _ _ _=>cb
 |_=>b6
abbrev Kb(a:NZ)(x:Str):Bool:=cK (a.names.lookup x=a0 .globalImplicit)
abbrev iY(a:NZ)(x:Str):Bool:=cK (a.names.lookup x=a0 .local)||decide (a.names.lookup x=a0 .cell)||decide (a.names.lookup x=a0 .free)
abbrev mU(a:NZ)(x:Str):Bool:=cK (a.names.lookup x=a0 .local)||decide (a.names.lookup x=a0 .cell)
abbrev GC(a:NZ)(x:Str):Bool:=cK (a.names.lookup x=a0 .local)
abbrev cj(x:Str):Bool:=!(x==("__debug__":Str))&&!(x==("__classdict__":Str))
abbrev uU(N:List Str)(a:NZ)(fa:Str->Bool)(i:Nat):p8->Bool
 |.Name x _=>cK (N[i]?=a0 x)&&mU a x&&(fa x||GC a x)
 |_=>cb
abbrev pP(N:List Str)(a:NZ)(fa:Str->Bool):List Nat->List p8->Bool
 |[],[]=>b6
 |i::is,e::es=>uU N a fa i e&&pP N a fa is es
 |_,_=>cb
abbrev da:p8->List Str
 |.Name x _=>[x]
 |.Tuple es _ _=>es.filterMap fun|.Name x _=>a0 x|_=>b5
 |_=>[]
abbrev hide(a N:List Str):List Str:=match a.filter λx=>cK (x∈N) with
 |[]=>N
 |[x]=>N.set (N.idxOf x) "."
 |x::y::_=>(N.set (N.idxOf x) ".").set (N.idxOf y) ".."
abbrev Oe(t:Bool)(N:List Str)(a:NZ)(fa:Str->Bool)(is:List Nat):p8->Bool
 |.Name x p=>!t&&(match is with|[i]=>uU N a fa i (.Name x p)|_=>cb)
 |.Tuple es _ _=>t&&pP N a fa is es&&is.all λi=>cK (i<N.length)
 |_=>cb
abbrev isTup:p8->Bool
 |.Tuple _ _ _=>b6
 |_=>cb
abbrev lQ(e:p8):Option (Str×List p8):=match e with
 |.Call f as a _=>match f with
  |.Name x _=>if a.isEmpty=b6 then a0 (x,as) else b5
  |_=>b5
 |_=>b5
def f_(h:lQ e=a0 (x,as)):∃p q,e=.Call (.Name x p) as [] q:=by
 unfold lQ at h;split at h
 .split at h
  .split at h
   .rename_i hk;rw[LO]at hk;cases h;subst hk;show⟨_,_,rfl⟩
   .cases h
  .cases h
 .cases h
abbrev gb(a:NZ)(b:p8)(ik:Ik)(e:p8):Option (List p8):=match ik with
 |.seq=>a0 [e]
 |.Jl=>(lQ e).bind λp=>if p.1="range"/\Kb a p.1=b6/\p.2.length=1 then a0 p.2 else b5
 |.MP=>(lQ e).bind λp=>if p.1="enumerate"/\Kb a p.1=b6/\p.2.length=1/\isTup b=b6 then a0 p.2 else b5
 |.zip=>(lQ e).bind λp=>if p.1="zip"/\Kb a p.1=b6/\p.2.length=2/\isTup b=b6 then a0 p.2 else b5
 |_=>b5
abbrev simple:Bf->Bool:=λ_=>b6
abbrev yS(scope a:NZ):NZ:={scope with names:=scope.names.map λ(n,k)=>if (k==Mn&&a.kind==.function&&a.names.lookup n==a0 .cell)=b6 then(n,.cell) else(n,k)}
abbrev br(e:p8)(k:Str->Bool):Bool:=match e with|.Name x _=>k x|_=>cb
def au(h:br e k=b6):∃x p,e=.Name x p/\k x=b6:=by
 unfold br at h;split at h
 .show⟨_,_,rfl,h⟩
 .cases h
abbrev d4{α:Type}(l:List α)(k:α->Bool):Bool:=match l with|[a]=>k a|_=>cb
def bt(h:d4 l k=b6):∃a,l=[a]/\k a=b6:=by
 unfold d4 at h;split at h
 .show⟨_,rfl,h⟩
 .cases h
abbrev dk(e:p8)(k:p8->List p8->Pos->Bool):Bool:=match e with|.Call f as a p=>a.isEmpty&&k f as p|_=>cb
def a9(h:dk e k=b6):∃f as p,e=.Call f as [] p/\k f as p=b6:=by
 unfold dk at h;split at h
 .rename_i f as a p;rw[eh,LO]at h;have⟨rfl,h⟩:=h;show⟨_,_,_,rfl,h⟩
 .cases h
abbrev tq(e:p8)(k:p8->Str->Pos->Bool):Bool:=match e with|.Attribute o m p=>k o m p|_=>cb
def ra(h:tq e k=b6):∃o m p,e=.Attribute o m p/\k o m p=b6:=by
 unfold tq at h;split at h
 .show⟨_,_,_,rfl,h⟩
 .cases h
abbrev uV(e:p8)(k:p8->ü->p8->Bool):Bool:=match e with|.BinOp a op b _=>k a op b|_=>cb
def lR(h:uV e k=b6):∃a op b p,e=.BinOp a op b p/\k a op b=b6:=by
 unfold uV at h;split at h
 .show⟨_,_,_,_,rfl,h⟩
 .cases h
abbrev uW(e:p8)(k:p8->CmpOp->p8->Bool):Bool:=match e with|.Compare a ops c _=>d4 ops λop=>d4 c λb=>k a op b|_=>cb
def fB(h:uW e k=b6):∃a op b p,e=.Compare a [op] [b] p/\k a op b=b6:=by
 unfold uW at h;split at h
 .have⟨op,rfl,c⟩:=bt h;have⟨b,rfl,d⟩:=bt c;show⟨_,_,_,_,rfl,d⟩
 .cases h
abbrev gf(e:p8)(k:p8->Str->Pos->List p8->Pos->Bool):Bool:=dk e λf as b=>tq f λo m a=>k o m a as b
def cB(h:gf e k=b6):∃o m a as b,e=.Call (.Attribute o m a) as [] b/\k o m a as b=b6:=by
 have⟨f,as,p,rfl,h⟩:=a9 h;have⟨o,m,q,rfl,h⟩:=ra h;show⟨_,_,_,_,_,rfl,h⟩
abbrev jV(e:p8)(k:p8->p8->Bool):Bool:=match e with|.Subscript a b _=>k a b|_=>cb
def dm(h:jV e k=b6):∃a b p,e=.Subscript a b p/\k a b=b6:=by
 unfold jV at h;split at h
 .show⟨_,_,_,rfl,h⟩
 .cases h
abbrev uX{α:Type}(l:List α)(k:α->α->Bool):Bool:=match l with|[a,b]=>k a b|_=>cb
def iu(h:uX l k=b6):∃a b,l=[a,b]/\k a b=b6:=by
 unfold uX at h;split at h
 .show⟨_,_,rfl,h⟩
 .cases h
abbrev uY(e:p8)(k:Const->Bool):Bool:=match e with|.Constant c _ _=>k c|_=>cb
def lS(h:uY e k=b6):∃c q p,e=.Constant c q p/\k c=b6:=by
 unfold uY at h;split at h
 .show⟨_,_,_,rfl,h⟩
 .cases h
abbrev HY:Const->Option U
 |.int j=>a0 (.int j)
 |.str y=>a0 (.str y)
 |.bool y=>a0 (.bl y)
 |.none=>a0 .Iy
 |_=>b5
abbrev HZ(u:U)(c:Const):Bool:=match HY c with|some v=>pN u v|none=>cb
abbrev BI(e:p8)(op:BoolOp)(k:List p8->Bool):Bool:=match e with|.BoolOp o es _=>cK (o=op)&&k es|_=>cb
def gE(h:BI e op k=b6):∃es p,e=.BoolOp op es p/\k es=b6:=by
 unfold BI at h;split at h
 .rw[eh,ŗ]at h;have⟨rfl,h⟩:=h;show⟨_,_,rfl,h⟩
 .cases h
abbrev EF(e:p8)(op:UnaryOp)(k:p8->Bool):Bool:=match e with|.UnaryOp o a _=>cK (o=op)&&k a|_=>cb
def nS(h:EF e op k=b6):∃a p,e=.UnaryOp op a p/\k a=b6:=by
 unfold EF at h;split at h
 .rw[eh,ŗ]at h;have⟨rfl,h⟩:=h;show⟨_,_,rfl,h⟩
 .cases h
abbrev EG(e:p8)(k:p8->p8->p8->Bool):Bool:=match e with|.IfExp c a b _=>k c a b|_=>cb
def wM(h:EG e k=b6):∃c a b p,e=.IfExp c a b p/\k c a b=b6:=by
 unfold EG at h;split at h
 .show⟨_,_,_,_,rfl,h⟩
 .cases h
abbrev uZ(e:p8)(k:List p8->Bool):Bool:=match e with|.Tuple l _ _=>k l|_=>cb
def lT(h:uZ e k=b6):∃l q p,e=.Tuple l q p/\k l=b6:=by
 unfold uZ at h;split at h
 .show⟨_,_,_,rfl,h⟩
 .cases h
abbrev yT(e:p8)(k:List p8->Bool):Bool:=match e with|.List l _=>k l|_=>cb
def tu(h:yT e k=b6):∃l p,e=.List l p/\k l=b6:=by
 unfold yT at h;split at h
 .show⟨_,_,rfl,h⟩
 .cases h
abbrev BJ(e:p8):Bool:=match e with|.Dict a b _=>a.isEmpty&&b.isEmpty|_=>cb
def nU(h:BJ e=b6):∃p,e=.Dict [] [] p:=by
 unfold BJ at h;split at h
 .rw[eh,LO,LO]at h;have⟨rfl,rfl⟩:=h;show⟨_,rfl⟩
 .cases h
abbrev yU(e:p8)(k:Option p8->Option p8->Bool):Bool:=match e with|.Slice a b c _=>c.isNone&&k a b|_=>cb
def tv(h:yU e k=b6):∃a b p,e=.Slice a b b5 p/\k a b=b6:=by
 unfold yU at h;split at h
 .rw[eh,YO]at h;have⟨rfl,h⟩:=h;show⟨_,_,_,rfl,h⟩
 .cases h
abbrev EH(e:p8)(k:p8->p8->p8->List p8->NZ->Bool):Bool:=match e with|.ListComp elt a b _=>d4 a λg=>cK (g.is_async=0)&&k elt g.target g.iter g.ifs b|_=>cb
def jy(h:EH e k=b6):∃elt d a b f p,e=.ListComp elt [⟨d,a,b,0⟩] f p/\k elt d a b f=b6:=by
 unfold EH at h;split at h
 .obtain⟨⟨d,a,b,z⟩,rfl,c⟩:=bt h;rw[eh,ŗ]at c;have⟨rfl,c⟩:=c;show⟨_,_,_,_,_,_,rfl,c⟩
 .cases h
mutual
noncomputable def bJ(k:Ck):E->List Str->NZ->p8->Bool
 |.var i,N,g,h=>br h λx=>cK (N[i]?=a0 x)&&iY g x&&cj x
 |.cst u,N,g,h=>uY h λc=>HZ u c
 |.NX x u,N,g,h=>br h λy=>cK (x=y)&&Kb g x&&cj x&&k.gl.any λp=>cK (p.1=x)&&pN p.2 u
 |.bin op a b,N,g,h=>uV h λa' z q=>cK (op.op=z)&&bJ k a N g a'&&bJ k b N g q
 |.cmp op a b,N,g,h=>uW h λa' z q=>cK (op.op=z)&&!Py z q&&bJ k a N g a'&&bJ k b N g q
 |.Mc _ _ _ _ _,_,_,_=>cb
 |.and es,N,g,h=>BI h .And λj=>aV k es N g j
 |.or es,N,g,h=>BI h .Or λj=>aV k es N g j
 |.not a,N,g,h=>EF h .Not λa'=>bJ k a N g a'
 |.ite c a b,N,g,h=>EG h λC a' q=>bJ k c N g C&&bJ k a N g a'&&bJ k b N g q
 |.neg _,_,_,_=>cb
 |.bad,_,_,_=>b6
 |.inD neg a i,N,g,h=>uW h λa' z q=>br q λx=>cK (yO neg=z)&&!Py z q&&cK (N[i]?=a0 x)&&iY g x&&cj x&&bJ k a N g a'
 |.OK i,N,g,h=>br h λx=>cK (N[i]?=a0 x)&&iY g x&&cj x
 |.KU i a b,N,g,h=>gf h λo m s as A=>br o λx=>uX as λa' q=>cK (m="get")&&cK (N[i]?=a0 x)&&iY g x&&cj x&&(s.endLine==A.line)&&noStar a'&&noStar q&&bJ k a N g a'&&bJ k b N g q
 |.OL i,N,g,h=>dk h λf' as _=>br f' λf=>d4 as λc=>gf c λo m s D A=>br o λx=>D.isEmpty&&cK (f="sorted")&&Kb g f&&cK (m="items")&&cK (N[i]?=a0 x)&&iY g x&&cj x&&(s.endLine==A.line)
 |.Mg ln a b,N,g,h=>dk h λf' as _=>br f' λf=>d4 as λd=>uV d λl op r=>dk l λG H _=>br G λI=>d4 H λa'=>dk r λJ L _=>br J λO=>d4 L λq =>
  cK (f=(if ln=b6 then("len":Str) else "sorted"))&&cK (I="set")&&cK (O="set")&&cK (op=.Sub)&&Kb g f&&Kb g "set"&&noStar a'&&noStar q&&bJ k a N g a'&&bJ k b N g q
 |.fst es,N,g,h=>cb
 |.LK a T,N,g,h=>dk h λf' as _=>br f' λx=>uX as λa' q=>br q λy=>cK (x="isinstance")&&cK (y=T.name)&&Kb g x&&Kb g y&&noStar a'&&bJ k a N g a'
 |.tup es,N,g,h=>uZ h λj=>aV k es N g j
 |.lst es,N,g,h=>yT h λj=>aV k es N g j
 |.J_ _,N,g,h=>BJ h
 |.idx a b,N,g,h=>jV h λa' q=>eB q&&bJ k a N g a'&&bJ k b N g q
 |.MB a lo Q,N,g,h=>jV h λa' q=>yU q λY J6=>bJ k a N g a'&&tw k lo N g Y&&tw k Q N g J6
 |.bi f es,N,g,h=>dk h λf' j _=>br f' λx=>cK (x=f.name)&&simple f&&Kb g x&&!j.isEmpty&&aV k es N g j
 |.Lg f es,N,g,h=>dk h λf' as _=>br f' λx=>d4 as λc=>dk c λg' j _=>br g' λy=>cK (x=f.pI)&&cK (y=f.iW)&&Kb g x&&Kb g y&&!j.isEmpty&&aV k es N g j
 |.Md m a es,N,g,h=>gf h λo name s j A=>cK (name=m.name)&&pO o&&(s.endLine==A.line)&&!j.isEmpty&&cK (j.length<20)&&bJ k a N g o&&aV k es N g j
 |.call f es,N,g,h=>dk h λf' j _=>br f' λx=>cK (x=f)&&cK (f∈k.fns)&&Kb g x&&cj x&&!j.isEmpty&&aV k es N g j
 |.Jw a,N,g,h=>bJ k a N g h
 |.Kz f es,N,g,h=>dk h λf' j _=>br f' λx=>cK (x=f)&&cK (f∈k.fns)&&Kb g x&&cj x&&!j.isEmpty&&aV k es N g j
 |.comp n t ik src cond e,N,g,h=>EH h λelt v w B scope =>
   cK ((da v).length=n)&&AO (da v++hide (da v) N) (da v) scope g.names&&Oe t (da v++hide (da v) N) (yS scope g) (λx=>cK (scope.names.lookup x=a0 .cell)) (hA n) v&&tm w &&
   (match gb g v ik w with
    |some as=>aV k src N g as
    |none=>cb) &&
   cK (B.length<=1)&&aV k cond (da v++hide (da v) N) (yS scope g) B&&bJ k e (da v++hide (da v) N) (yS scope g) elt
noncomputable def aV(k:Ck):List E->List Str->NZ->List p8->Bool
 |[],_,_,a=>a.isEmpty
 |e::es,N,b,a=>match a with
  |e'::a=>noStar e'&&bJ k e N b e'&&aV k es N b a
  |[]=>cb
noncomputable def tw(k:Ck):List E->List Str->NZ->Option p8->Bool
 |[],_,_,o=>o.isNone
 |[e],N,a,o=>match o with
  |some b=>bJ k e N a b
  |none=>cb
 |_::_::_,_,_,_=>cb
end
abbrev cp:List Str:=["len","sorted","repr","max","min","all","any","list","tuple","str","int","range","enumerate","zip","reversed","set","dict","sum","isinstance","bool"]
structure EI(P:HP)(w:Km)(K:PySem.W.Frag)(mg:Str->Option ez)(base:K9)(d:Nat)(F:List U->Option (Ex (Kd×U)))(f:Str):Prop where
 ex:∃(np:Nat) (fa:i5) (fd:US) (ps:List Str),oM P w K mg base MJ d fa fd ps (spT P w K F np)/\mg f=a0 (.ref fa)/\PySem.W.keepIn K (.ref fa)=b6/\Binds K fd ps []/\∀us k u,F us=a0 (.ok (k,u))->(k=.own\/k=.loc\/k=.any)/\us.length=np
structure Gd(ck:Ck)(Γ:Tab)(C:Ct)(d:Nat)(X:Cx):Prop where
 P:C.P=X.prog
 w:C.w=X.w
 K:C.K=X.K
 u:X.A.units+60<Ki
 calm:X.calm=b6
 room:gK d X.A
 blt:∀x∈cp,X.mg x=b5
 fns:∀f∈ck.fns,EI X.prog X.w X.K X.mg X.base d (Γ f) f
 MU:∀p∈ck.gl,∃val v,X.mg p.1=a0 val/\RelV v val/\∀S H,Rep C S H p.2 v
def Gd.cx(g:Gd ck Γ C d X)(N:List Str)(a:NZ)(D:i5)(s:gj)(H:Hp)(ex:List i5):Gd ck Γ C d (JD X N a D s H ex) :=
 ⟨g.P,g.w,g.K,g.u,g.calm,g.room,g.blt,g.fns,g.MU⟩
def c7(h:iY a x=b6):Ko a x:=by
 unfold iY at h;simp only[RU,ŗ]at h;rcases h with(h|h)|h
 .show .inl h
 .show .inr (.inl h)
 .show .inr (.inr h)
def ba(h:cj x=b6):(x==("__debug__":Str))=cb/\(x==("__classdict__":Str))=cb:=by
 unfold cj at h;simpa using h
def bC(h:noStar e=b6):mx (e::es) env=(cb,KH e env)::mx es env:=by
 cases e<;>first|rfl|cases h
def rb(h:eB e=b6):oQ e:=by
 intro o i;cases e<;>first|rfl|cases h
def tD(h:tm e=b6):∀x,NF e env x=pure x:=by
 intro x;cases e<;>first|rfl|cases h
def kH(h:pO o=b6):WV o name env a=a:=by
 cases o with
 |Call f as ks p =>
  cases f with
  |Name x q=>cases as with
   |nil=>cases ks with
    |nil=>cases h
    |cons _ _=>rfl
   |cons _ _=>rfl
  |_=>rfl
 |_=>rfl
def bQ(h:∀e∈es,noStar e=b6):(Ll pos (mx es env)).any (·.1)=cb/\(Ll pos (mx es env)).all (λx=>!x.1)=b6:=by
 induction es with
 |nil=>show⟨rfl,rfl⟩
 |cons e es a =>
  rw[bC (h e (by simp))];have:=a λb c=>h b (by simp[c]);constructor
  .change(cb||(Ll pos (mx es env)).any (·.1))=cb;rw[this.1];rfl
  .change(!cb&&(Ll pos (mx es env)).all (λx=>!x.1))=b6;rw[this.2];rfl
def dn(h:aV k es N c a=b6):∀e∈a,noStar e=b6:=by
 induction es generalizing a with
 |nil =>
  cases a with
  |nil=>intro e he;cases he
  |cons _ _=>simp[aV]at h
 |cons x es b =>
  cases a with
  |nil=>intro e he;cases he
  |cons d a =>
   simp only[aV,eh]at h;intro e he;rcases ke.mp he with rfl|he
   .show h.1.1
   .show b h.2 e he
def nV(a:∀x,fa x=b6->X.fn x=b6)(h:uU X.N X.env.scope fa i e=b6):sY X e i:=by
 cases e with
 |Name x p =>
  simp only[uU,eh,ŗ,mU,RU,GC]at h;show⟨x,p,rfl,h.1.1,?_,?_⟩
  .rcases h.1.2 with z|z
   .show .inl z
   .show .inr z
  .rcases h.2 with z|z
   .show .inl (a x z)
   .show .inr z
 |_=>cases h
theorem lU(a:∀x,fa x=b6->X.fn x=b6):∀{is:List Nat}{es:List p8},pP X.N X.env.scope fa is es=b6->fz X es is
 |[],[],_=>.nil
 |[],_::_,h=>by cases h
 |_::_,[],h=>by cases h
 |i::is,e::es,h=>by
  simp only[pP,eh]at h;show .cons (nV a h.1) (lU a h.2)
def rf(d:X.calm=b6)(e:C.K=X.K)(a:X.N.Nodup)(b:∀x,fa x=b6->X.fn x=b6)(h:Oe t X.N X.env.scope fa is c=b6):PG X c (tG C t is):=by
 cases c with
 |Name x p =>
  simp only[Oe,eh,G1]at h;have⟨rfl,h⟩:=h;cases is with
  |nil=>cases h
  |cons i is=>cases is with
   |nil=>show Et a (nV b h)
   |cons _ _=>cases h
 |Tuple es k p =>
  simp only[Oe,eh,tA,ŗ]at h;obtain⟨⟨rfl,f⟩,g⟩:=h;show Gb d e a (lU b f) g
 |_=>cases h
def jz(a N:List Str):eJ ((a++hide a N).drop a.length) N:=by
 rw[Xt rfl];unfold hide;split
 .show .refl N
 .show(eJ.refl N).set _ (.inl rfl)
 .show((eJ.refl N).set _ (.inl rfl)).set _ (.inr rfl)
abbrev Bf.ZJ:Bf->Bool
 |.len=>b6|.sorted=>b6|.repr=>b6|.max=>b6|.min=>b6|.all=>b6|.any=>b6|_=>cb
abbrev Bf.id:Bf->String
 |.len=>"len"|.sorted=>"sorted"|.repr=>"repr"|.max=>"max"|.min=>"min"|.all=>"all"|.any=>"any"
 |.list=>"list"|.tuple=>"tuple"|.str=>"str"|.int=>"int"
def BK:∀f:Bf,simple f=b6->IL f.name=a0 f.val/\f.name∈cp/\f.name≠"__name__"/\(f.name==("__debug__":Str))=cb:=by
 intro f h;cases f<;>first|show⟨by decide +kernel,by decide +kernel,by decide +kernel,by decide +kernel⟩|(cases h;done)
def EJ:∀f:Bf,simple f=b6->(f.val=.builtin f.id\/f.val=.type f.id):=by
 intro f h;cases f<;>first|show .inl rfl|show .inr rfl|(cases h;done)
def EK:∀f:B2,f.pI∈cp/\f.iW∈cp:=by
 intro f;cases f<;>show⟨by decide +kernel,by decide +kernel⟩
def BL:∀f:Mf,Slot "str" f.name f.id/\Ĕ (.builtin f.id)=pure (.type "method_descriptor"):=by
 intro f;cases f with
 |split=>show⟨PySem.F.slot_str_split,PySem.F.type_str_split⟩
 |join=>show⟨PySem.F.slot_str_join,PySem.F.type_str_join⟩
 |partition=>show⟨PySem.F.slot_str_partition,PySem.F.type_str_partition⟩
 |endswith=>show⟨PySem.F.slot_str_endswith,PySem.F.type_str_endswith⟩
section
def dC(h:Kb X.env.scope x=b6):Gl X x:=by
 unfold Kb at h;change X.env.kindOf x=a0 .globalImplicit;show Ŝ h
def BM:("enumerate":Str)∈cp:=by decide +kernel
def rg:("isinstance":Str)∈cp:=by decide +kernel
def yV(T:Ky):T.name∈cp:=by cases T<;>decide +kernel
def BN:("range":Str)∈cp:=by decide +kernel
def CJ(g:Gd ck Γ C d X)(h:gb X.env.scope n ik i=a0 as)(o:PA X as (JY C (cf Γ src)))(s:∀a,as=[a]->∃e,src=[e]/\PE X a (Iv C (ev Γ e)))(k:∀e∈as,noStar e=b6):PI X n i (Mi C ik (cf Γ src)):=by
 unfold gb at h;split at h
 .cases h;have⟨e,rfl,t⟩:=s _ rfl;show Ep g.K t
 .rw[ve]at h;obtain⟨⟨x,l⟩,j,h⟩:=h;split at h
  .rename_i hh;cases h;have⟨c,f,hl⟩:=hh
   dsimp only at c f hl
   subst c;have⟨p,q,rfl⟩:=f_ j;have⟨b,rfl⟩:=Zx.mp hl;show Bx (dC f) (g.blt _ BN) (bC (k _ (by simp))) o
  .cases h
 .rw[ve]at h;obtain⟨⟨x,l⟩,j,h⟩:=h;split at h
  .rename_i hh;cases h;have⟨c,f,hl,r⟩:=hh
   dsimp only at c f hl
   subst c;have⟨p,q,rfl⟩:=f_ j;have⟨b,rfl⟩:=Zx.mp hl;cases n with
   |Tuple es u ps=>show Er g.K (dC f) (g.blt _ BM) (bC (k _ (by simp))) o
   |_=>cases r
  .cases h
 .rw[ve]at h;obtain⟨⟨x,l⟩,j,h⟩:=h;split at h
  .rename_i hh;cases h;have⟨c,f,hl,r⟩:=hh
   dsimp only at c f hl
   subst c;have⟨p,q,rfl⟩:=f_ j;obtain⟨b,m,rfl⟩:∃b m,l=[b,m]:=by match l,hl with|[b,m],_=>show⟨b,m,rfl⟩
   have s1:=bC (env:=X.env) (es:=[]) (k _ (show _∈[_,_] from oW _ oT));cases n with
   |Tuple es u ps=>show Es g.K (dC f) (g.blt _ (by decide +kernel)) (bC (k _ oT)) (by rw[s1];rfl) o
   |_=>cases r
  .cases h
 .cases h
def CK{a:M α}{b:α->M β}{c:α->M γ}{g:γ->M δ}{st:aA}{Q:δ->aA->Prop}(w:W (a >>= λx=>b x >>= λ_=>c x >>= g) st Q):W ((a >>= λx=>b x >>= λ_=>c x) >>= g) st Q:=by
 simp only[ah]at w ⊢;show w
def bR:PT X e (JP C M.fail):=λa s σ H Q I ⟨_,_,_,_,w⟩=>(bA.mp w).elim
def pQ:PE X e (Iv C M.fail):=λa s σ H Q I ⟨_,_,_,_,w⟩=>(bA.mp w).elim
def PT.eqv(h:PT X e (JP C m))(i:∀st Q,W a st Q->W m st Q):PT X e (JP C a):=PT.weak h λσ H Q ⟨c0,b,c,d,w⟩=>⟨c0,b,c,d,i _ _ w⟩
def GD(g:Gd ck Γ C d X)(b:PA X a (JY C (cf Γ es)))
  (h:(cK (x=f.name)&&simple f&&Kb X.env.scope x&&!a.isEmpty&&aV ck es X.N X.env.scope a)=b6):PE X (.Call (.Name x p) a [] pos) (Iv C (ev Γ (.bi f es))):=by
 simp only[eh,ŗ,G1]at h;obtain⟨⟨⟨⟨rfl,c⟩,i⟩,n⟩,o⟩:=h;have⟨b1,j,b3,b4⟩:=BK f c;have k:=dn o;cases a with
 |nil=>cases n
 |cons q l =>
  have st:=bC (env:=X.env) (es:=l) (k q (by simp));have m:=(bQ (pos:=pos) (env:=X.env) (es:=l) λe r=>k e (by simp[r])).1;rcases EJ f c with hv|hv
  .show Bo g.calm g.K g.room.gd g.u hv (dC i) (g.blt _ j) (by rw[b1,hv]) b3 b4 b st m
  .show Bp g.calm g.K g.room.gd g.u hv (dC i) (g.blt _ j) (by rw[b1,hv]) b3 b4 b st m
def GF(g:Gd ck Γ C d X)(i:PA X a (JY C (cf Γ es)))
  (h:(cK (x=f.pI)&&cK (y=f.iW)&&Kb X.env.scope x&&Kb X.env.scope y&&!a.isEmpty&&aV ck es X.N X.env.scope a)=b6):PE X (.Call (.Name x p) [.Call (.Name y p2) a [] pos2] [] pos) (Iv C (ev Γ (.Lg f es))):=by
 simp only[eh,ŗ,G1]at h;obtain⟨⟨⟨⟨⟨rfl,rfl⟩,j⟩,k⟩,l⟩,m⟩:=h;have⟨b1,n⟩:=EK f;have b:=dn m;cases a with
 |nil=>cases l
 |cons o c =>
  have st:=bC (env:=X.env) (es:=c) (b o (by simp));have q:=(bQ (pos:=pos2) (env:=X.env) (es:=c) λe r=>b e (by simp[r])).1;show Bu g.calm g.K (dC j) (g.blt _ b1) (dC k) (g.blt _ n) i st q
def GG(g:Gd ck Γ C d X)(l:PE X o (Iv C (ev Γ a)))(n:PA X b (JY C (cf Γ es)))
  (h:(cK (name=m.name)&&pO o&&(c.endLine==i.line)&&!b.isEmpty&&cK (b.length<20)&&bJ ck a X.N X.env.scope o&&aV ck es X.N X.env.scope b)=b6):PE X (.Call (.Attribute o name c) b [] i) (Iv C (ev Γ (.Md m a es))):=by
 simp only[eh,ŗ,G1]at h;obtain⟨⟨⟨⟨⟨⟨rfl,p⟩,q⟩,r⟩,s⟩,x⟩,t⟩:=h;have j:=dn t;have⟨s1,s2⟩:=BL m;cases b with
 |nil=>cases r
 |cons k f =>
  have st:=bC (env:=X.env) (es:=f) (j k (by simp));have u:=(bQ (pos:=i) (env:=X.env) (es:=f) λe v=>j e (by simp[v])).1;have w:=(bQ (pos:=i) (env:=X.env) (es:=k::f) j).2;show Bt g.K s1 s2 l n (kH p) ?_ q st u;rw[w];have:(k::f).length+([]:List QP).length+(if ([]:List QP).isEmpty=b6 then 0 else 1)<30:=by simp at s ⊢;lia
  simp only[ś this];rfl
def yW(g:Gd ck Γ C d X)(i:PA X a (JY C (cf Γ es)))
  (h:(cK (x=f)&&cK (f∈ck.fns)&&Kb X.env.scope x&&cj x&&!a.isEmpty&&aV ck es X.N X.env.scope a)=b6):PE X (.Call (.Name x p) a [] pos) (Iv C (ev Γ (.call f es))):=by
 simp only[eh,ŗ,G1]at h;obtain⟨⟨⟨⟨⟨rfl,j⟩,k⟩,l⟩,m⟩,n⟩:=h;have b:=dn n;have⟨z,fa,A,ps,o,q,r,s,t⟩:=(g.fns _ j).ex;cases a with
 |nil=>cases m
 |cons u c =>
  have st:=bC (env:=X.env) (es:=c) (b u (by simp));have v:=(bQ (pos:=pos) (env:=X.env) (es:=c) λe y=>b e (by simp[y])).1;show yC g.P g.w g.K rfl t o g.room (dC k) q r s (ba l).1 i st v
def EL(g:Gd ck Γ C d X)(i:PA X a (JY C (cf Γ es)))
  (h:(cK (x=f)&&cK (f∈ck.fns)&&Kb X.env.scope x&&cj x&&!a.isEmpty&&aV ck es X.N X.env.scope a)=b6):PE X (.Call (.Name x p) a [] pos) (Iv C (ev Γ (.Kz f es))):=by
 simp only[eh,ŗ,G1]at h;obtain⟨⟨⟨⟨⟨rfl,j⟩,k⟩,l⟩,m⟩,n⟩:=h;have b:=dn n;have⟨z,fa,A,ps,o,q,r,s,t⟩:=(g.fns _ j).ex;cases a with
 |nil=>cases m
 |cons u c =>
  have st:=bC (env:=X.env) (es:=c) (b u (by simp));have v:=(bQ (pos:=pos) (env:=X.env) (es:=c) λe y=>b e (by simp[y])).1;show yD g.P g.w g.K rfl t o g.room (dC k) q r s (ba l).1 i st v
def d5(h:(b&&aV k es N a c)=b6):aV k es N a c=b6:=(KR.mp h).2
mutual
theorem bK:∀(e:E) (X:Cx) (q:p8),Gd ck Γ C d X->bJ ck e X.N X.env.scope q=b6->PE X q (Iv C (ev Γ e))
 |.var i,X,q,g,h=>by
  have⟨x,B,rfl,k⟩:=au h;clear h;have h:=k;simp only[eh,ŗ]at h;have⟨L,O⟩:=ba h.2;show pH h.1.1 (c7 h.1.2) L O
 |.cst u,X,q,g,h=>by
  have⟨c,q0,B,rfl,k⟩:=lS h;cases c with
  |int j=>have:=eV k;subst this;show iU xl λ_ _=>rfl
  |str y=>have:=eV k;subst this;show iU Dg λ_ _=>rfl
  |bool y=>have:=eV k;subst this;show iU Fu λ_ _=>rfl
  |none=>have:=eV k;subst this;show iU Df λ_ _=>rfl
  |_=>cases k
 |.NX x u,X,q,g,h=>by
  have⟨y,B,rfl,k⟩:=au h;clear h;have h:=k;simp only[eh,ŗ,W4]at h;obtain⟨⟨⟨rfl,J⟩,Y⟩,p,hp,e1,e2⟩:=h;have:=eV e2;subst this e1;have⟨ap,v,q1,q2,q3⟩:=g.MU p hp;show iU (Ak (dC J) q1 q2 (ba Y).1) q3
 |.bin op a b,X,q,g,h=>by
  have⟨a',LM,b',B,rfl,k⟩:=lR h;clear h;have h:=k;simp only[eh,ŗ]at h;obtain⟨⟨rfl,J⟩,Y⟩:=h;show Ba g.K (bK a X _ g J) (bK b X _ g Y)
 |.cmp op a b,X,q,g,h=>by
  have⟨a',LM,b',B,rfl,A⟩:=fB h;have h:=A;simp only[eh,ŗ,G1]at h;obtain⟨⟨⟨rfl,h0⟩,J⟩,Y⟩:=h;show Bb g.P g.w g.K g.u (bK a X _ g J) (bK b X _ g Y) h0
 |.Mc o1 o2 a b c,X,q,g,h=>absurd (show cb=b6 from h) oO
 |.and es,X,q,g,h=>by
  have⟨Il,B,rfl,k⟩:=gE h;clear h;have h:=k;show yX es X _ g h
 |.or es,X,q,g,h=>by
  have⟨Il,B,rfl,k⟩:=gE h;clear h;have h:=k;show CL es X _ g h
 |.not a,X,q,g,h=>by
  have⟨a',B,rfl,k⟩:=nS h;clear h;have h:=k;show Bd (bK a X _ g h)
 |.neg a,X,q,g,h=>absurd (show cb=b6 from h) oO
 |.bad,X,q,g,h=>pQ
 |.inD neg a i,X,q,g,h=>by
  have⟨a',LM,b',B,rfl,A⟩:=fB h;have⟨x,p1,rfl,G⟩:=au A;have h:=G;simp only[eh,ŗ,G1]at h;obtain⟨⟨⟨⟨⟨rfl,h0⟩,J⟩,Y⟩,L⟩,O⟩:=h;have⟨q1,q2⟩:=ba L;show BC g.u J (c7 Y) q1 q2 (bK a X _ g O) h0
 |.OK i,X,q,g,h=>by
  have⟨x,B,rfl,k⟩:=au h;clear h;have h:=k;simp only[eh,ŗ]at h;have⟨L,O⟩:=ba h.2;show BB h.1.1 (c7 h.1.2) L O
 |.KU i a b,X,q,g,h=>by
  have⟨o,m,ab,as,Ij,rfl,A⟩:=cB h;have⟨x,px,rfl,G⟩:=au A;have⟨a',b',rfl,z3⟩:=iu G;clear h A;have G:=z3;simp only[eh,ŗ]at G;obtain⟨⟨⟨⟨⟨⟨⟨⟨rfl,J⟩,Y⟩,L⟩,O⟩,h5⟩,h6⟩,h7⟩,h8⟩:=G;have⟨q1,q2⟩:=ba L;have sa:=bQ (pos:=Ij) (env:=X.env) (es:=[a',b']) λe he=>by
   rcases ke.mp he with rfl|he
   .show h5
   .simp at he;subst he;show h6
  show yQ g.u J (c7 Y) q1 q2 (bK a X _ g h7) (bK b X _ g h8) ⟨rfl,by rw[sa.2];rfl,O,by rw[bC h5,bC h6];rfl⟩
 |.OL i,X,q,g,h=>by
  obtain⟨f',as,_,rfl,A⟩:=a9 h;obtain⟨f,_,rfl,G⟩:=au A;have⟨c,rfl,z3⟩:=bt G;have⟨o,m,ab,bs,Ij,rfl,z4⟩:=cB z3;have⟨x,px,rfl,z5⟩:=au z4;simp only[eh,ŗ,LO]at z5;obtain⟨⟨⟨⟨⟨⟨⟨rfl,rfl⟩,J⟩,rfl⟩,L⟩,O⟩,h5⟩,h6⟩:=z5;have⟨q1,q2⟩:=ba h5;show BG g.calm g.K (dC J) (g.blt _ (by decide +kernel)) L (c7 O) q1 q2 h6
 |.Mg ln a b,X,q,g,h=>by
  obtain⟨_,_,_,rfl,k⟩:=a9 h;obtain⟨_,_,rfl,A⟩:=au k;obtain⟨_,rfl,G⟩:=bt A;obtain⟨_,_,_,_,rfl,z3⟩:=lR G;obtain⟨_,_,_,rfl,z4⟩:=a9 z3;obtain⟨_,_,rfl,z5⟩:=au z4;obtain⟨_,rfl,z6⟩:=bt z5;obtain⟨_,_,_,rfl,z7⟩:=a9 z6;obtain⟨_,_,rfl,z8⟩:=au z7;obtain⟨_,rfl,z9⟩:=bt z8;simp only[eh,ŗ]at z9;obtain⟨⟨⟨⟨⟨⟨⟨⟨⟨rfl,rfl⟩,rfl⟩,rfl⟩,J⟩,Y⟩,L⟩,O⟩,h5⟩,h6⟩:=z9;show BH (ln:=ln) g.calm g.K (dC J) (g.blt _ (by cases ln<;>decide +kernel)) (dC Y) (g.blt _ (by decide +kernel)) (bK a X _ g h5) (bK b X _ g h6) (bC L) (bC O)
 |.fst es,X,q,g,h=>pQ
 |.LK a T,X,q,g,h=>by
  have⟨f',as,B,rfl,A⟩:=a9 h;have⟨x,p1,rfl,G⟩:=au A;clear h A;have⟨a',b',rfl,z4⟩:=iu G;have⟨y,p2,rfl,z3⟩:=au z4;have h:=z3;simp only[eh,ŗ]at h;obtain⟨⟨⟨⟨⟨rfl,rfl⟩,J⟩,Y⟩,L⟩,O⟩:=h;show uO g.K (dC J) (g.blt _ rg) (dC Y) (g.blt _ (yV T)) (bK a X _ g O) (bC L)
 |.ite c a b,X,q,g,h=>by
  have⟨c',a',b',B,rfl,k⟩:=wM h;clear h;have h:=k;simp only[eh]at h;show Be (mV c X _ g h.1.1) (bK a X _ g h.1.2) (bK b X _ g h.2)
 |.tup es,X,q,g,h=>by
  have⟨l,q0,B,rfl,k⟩:=lT h;clear h;have h:=k;show Bj (kh es X _ g h)
 |.lst es,X,q,g,h=>by
  have⟨l,B,rfl,k⟩:=tu h;clear h;have h:=k;show Bk (kh es X _ g h)
 |.J_ r,X,q,g,h=>by
  have⟨B,rfl⟩:=nU h;show yB g.P g.w r
 |.idx a b,X,q,g,h=>by
  have⟨a',b',B,rfl,k⟩:=dm h;clear h;have h:=k;simp only[eh]at h;show Bl g.K g.u (rb h.1.1) (bK a X _ g h.1.2) (bK b X _ g h.2)
 |.MB a lo hi,X,q,g,h=>by
  have⟨a',b',B,rfl,A⟩:=dm h;have⟨VY,J6,p1,rfl,k⟩:=tv A;clear h A;simp only[eh]at k;show Bn g.K (bK a X _ g k.1.1) (GH lo X _ g k.1.2) (GH hi X _ g k.2)
 |.bi f es,X,q,g,h=>by
  have⟨f',as,B,rfl,A⟩:=a9 h;have⟨x,p1,rfl,G⟩:=au A;have h:=G;show GD g (kh es X _ g (d5 h)) h
 |.Lg f es,X,q,g,h=>by
  have⟨f',as,B,rfl,A⟩:=a9 h;have⟨x,p1,rfl,G⟩:=au A;have⟨c,rfl,z3⟩:=bt G;have⟨g',as',p2,rfl,z4⟩:=a9 z3;have⟨y,p3,rfl,z5⟩:=au z4;have h:=z5;show GF g (kh es X _ g (d5 h)) h
 |.Md m a es,X,q,g,h=>by
  have⟨o,name,ab,as,Ij,rfl,A⟩:=cB h;have h:=A;have h':=h;simp only[eh]at h';show GG g (bK a X _ g h'.1.2) (kh es X _ g (d5 h)) h
 |.call f es,X,q,g,h=>by
  have⟨f',as,B,rfl,A⟩:=a9 h;have⟨x,p1,rfl,G⟩:=au A;have h:=G;show yW g (kh es X _ g (d5 h)) h
 |.Kz f es,X,q,g,h=>by
  have⟨f',as,B,rfl,A⟩:=a9 h;have⟨x,p1,rfl,G⟩:=au A;have h:=G;show EL g (kh es X _ g (d5 h)) h
 |.Jw a,X,q,g,h=>by
  simp only[bJ]at h;show Bs (bK a X _ g h)
 |.comp n t ik src cond e,X,q,g,h=>by
  have⟨elt,tg,ac,am,scope,B,rfl,k⟩:=jy h;clear h;have h:=k;simp only[eh,ŗ]at h;obtain⟨⟨⟨⟨⟨⟨⟨J,Y⟩,L⟩,O⟩,h5⟩,h6⟩,h7⟩,h8⟩:=h;subst J;have S:=sE (X:=X) rfl (jz _ _) Y;split at h5
  .rename_i as an;have IB:=dn h5;have hI:PI X tg ac (Mi C ik (cf Γ src)):=CJ g an (kh src X _ g h5) (λa e=>by
    subst e;cases src with
    |nil=>simp[aV]at h5
    |cons e1 Jj =>
     cases Jj with
     |nil =>
      simp only[aV,eh]at h5;show⟨e1,rfl,bK e1 X _ g h5.1.2⟩
     |cons _ _=>simp[aV]at h5) IB
   show yK S g.calm hI (λD s H ex=>rf (fa:=λx=>cK (scope.names.lookup x=a0 .cell)) g.calm g.K S.nd (λ_ z=>z) L)
    (λD s H ex=>by
     cases am with
     |nil =>
      cases cond with
      |nil=>show λal s σ H Q I ⟨c0,e1,e2,ok,w⟩=>pd al s σ H Q I (by subst e1 e2;rw[show aJ Γ []=pure b6 from rfl,aj]at w;show w c0 rfl rfl ok (Nx.refl c0))
      |cons _ _=>simp[aV]at h7
     |cons c1 cs =>
      cases cs with
      |nil =>
       cases cond with
       |nil=>simp[aV]at h7
       |cons e1 Jj =>
        cases Jj with
        |nil =>
         simp only[aV,eh]at h7;show uh (mV e1 (JD X _ scope D s H ex) c1 (g.cx _ _ _ _ _ _) h7.1.2)
        |cons _ _=>simp[aV]at h7
      |cons _ _=>simp at h6)
    (λD s H ex=>bK e (JD X _ scope D s H ex) elt (g.cx _ _ _ _ _ _) h8) (tD O)
  .cases h5
theorem kh:∀(es:List E) (X:Cx) (a:List p8),Gd ck Γ C d X->aV ck es X.N X.env.scope a=b6->PA X a (JY C (cf Γ es))
 |[],X,a,g,h=>by
  cases a with
  |nil=>show Bi
  |cons _ _=>simp[aV]at h
 |e::es,X,a,g,h=>by
  cases a with
  |nil=>simp[aV]at h
  |cons b a =>
   simp only[aV,eh]at h;show yz (bK e X b g h.1.2) (kh es X a g h.2) (bC h.1.1)
theorem GH:∀(es:List E) (X:Cx) (o:Option p8),Gd ck Γ C d X->tw ck es X.N X.env.scope o=b6->PO X o (tO C (NY Γ es))
 |[],X,o,g,h=>by
  cases o with
  |none=>show wH
  |some _=>simp[tw]at h
 |[e],X,o,g,h=>by
  cases o with
  |none=>simp[tw]at h
  |some a=>simp only[tw]at h;show wI (bK e X a g h)
 |_::_::_,X,o,g,h=>by simp[tw]at h
theorem yX:∀(es:List E) (X:Cx) (a:List p8),Gd ck Γ C d X->aV ck es X.N X.env.scope a=b6->∀{pos},PE X (.BoolOp .And a pos) (Iv C (yq Γ es))
 |[],X,a,g,h,pos=>pQ
 |[e],X,a,g,h,pos=>by
  cases a with
  |nil=>simp[aV]at h
  |cons b a =>
   cases a with
   |nil=>simp only[aV,eh]at h;show xo (bK e X b g h.1.2)
   |cons _ _=>simp[aV]at h
 |e::c::es,X,a,g,h,pos=>by
  cases a with
  |nil=>simp[aV]at h
  |cons b a =>
   have h':noStar b=b6/\bJ ck e X.N X.env.scope b=b6/\aV ck (c::es) X.N X.env.scope a=b6:=by
    rw[aV]at h;simp only[eh]at h;show⟨h.1.1,h.1.2,h.2⟩
   cases a with
   |nil=>have:=h'.2.2;simp[aV]at this
   |cons f i=>show snd_and (bK e X b g h'.2.1) (yX (c::es) X _ g h'.2.2)
theorem CL:∀(es:List E) (X:Cx) (a:List p8),Gd ck Γ C d X->aV ck es X.N X.env.scope a=b6->∀{pos},PE X (.BoolOp .Or a pos) (Iv C (Ea Γ es))
 |[],X,a,g,h,pos=>pQ
 |[e],X,a,g,h,pos=>by
  cases a with
  |nil=>simp[aV]at h
  |cons b a =>
   cases a with
   |nil=>simp only[aV,eh]at h;show xo (bK e X b g h.1.2)
   |cons _ _=>simp[aV]at h
 |e::c::es,X,a,g,h,pos=>by
  cases a with
  |nil=>simp[aV]at h
  |cons b a =>
   have h':noStar b=b6/\bJ ck e X.N X.env.scope b=b6/\aV ck (c::es) X.N X.env.scope a=b6:=by
    rw[aV]at h;simp only[eh]at h;show⟨h.1.1,h.1.2,h.2⟩
   cases a with
   |nil=>have:=h'.2.2;simp[aV]at this
   |cons f i=>show Ee (bK e X b g h'.2.1) (CL (c::es) X _ g h'.2.2)
theorem mV:∀(e:E) (X:Cx) (j:p8),Gd ck Γ C d X->bJ ck e X.N X.env.scope j=b6->PT X j (JP C (IU Γ e))
 |.and es,X,j,g,h=>by
  have⟨G,o,rfl,k⟩:=gE h;clear h;have h:=k;show(u3 es X _ g h).pt
 |.or es,X,j,g,h=>by
  have⟨G,o,rfl,k⟩:=gE h;clear h;have h:=k;show(yY es X _ g h).pt
 |.not a,X,j,g,h=>by
  have⟨a',o,rfl,k⟩:=nS h;clear h;have h:=k;show Bg (mV a X _ g h)
 |.cmp op a b,X,j,g,h=>by
  have⟨a',H,D,o,rfl,l⟩:=fB h;have h:=l;simp only[eh,ŗ,G1]at h;obtain⟨⟨⟨rfl,A⟩,q⟩,s⟩:=h;show Bc g.P g.w g.K g.u (bK a X _ g q) (bK b X _ g s) A
 |.Mc o1 o2 a b c,X,j,g,h=>absurd (show cb=b6 from h) oO
 |.var i,X,j,g,h=>by
  have⟨x,o,rfl,k⟩:=au h;simp only[eh,ŗ]at k;have⟨v,z⟩:=ba k.2;show kG (pH k.1.1 (c7 k.1.2) v z) g.K λ_=>rfl
 |.idx a b,X,j,g,h=>bR
 |.bi f es,X,j,g,h=>by
  have⟨f',as,o,rfl,l⟩:=a9 h;have⟨x,B,rfl,p⟩:=au l;have h:=p;show PT.eqv (kG (GD g (kh es X _ g (d5 h)) h) g.K λ_=>rfl) λst Q w=>CK w
 |.Lg f es,X,j,g,h=>bR
 |.Md m a es,X,j,g,h=>bR
 |.call f es,X,j,g,h=>by
  have⟨f',as,o,rfl,l⟩:=a9 h;have⟨x,B,rfl,p⟩:=au l;have h:=p;show PT.eqv (kG (yW g (kh es X _ g (d5 h)) h) g.K λ_=>rfl) λst Q w=>CK w
 |.cst u,X,j,g,h=>bR
 |.fst es,X,j,g,h=>bR
 |.NX x u,X,j,g,h=>bR
 |.neg a,X,j,g,h=>bR
 |.LK a T,X,j,g,h=>by
  have⟨f',as,o,rfl,l⟩:=a9 h;have⟨x,B,rfl,p⟩:=au l;clear h l;have⟨a',D,rfl,I⟩:=iu p;have⟨y,p2,rfl,J⟩:=au I;have h:=J;simp only[eh,ŗ]at h;obtain⟨⟨⟨⟨⟨rfl,rfl⟩,q⟩,s⟩,v⟩,z⟩:=h;show PT.eqv (kG (uO g.K (dC q) (g.blt _ rg) (dC s) (g.blt _ (yV T)) (bK a X _ g z) (bC v)) g.K λ_=>rfl) λst Q w=>?_;have w:W (ev Γ a >>= λx=>M.IQ (qX x.2 T)) st Q:=w;simp only[ah]at w ⊢;show W.mono w λx s1 L=>?_;have⟨b,e,O⟩:=cw.mp L;show cw.mpr ⟨b,e,aj.mpr (cw.mpr ⟨b,rfl,O⟩)⟩
 |.bad,X,j,g,h=>bR
 |.inD neg a i,X,j,g,h=>by
  have⟨a',H,D,o,rfl,l⟩:=fB h;have⟨x,B,rfl,p⟩:=au l;have h:=p;simp only[eh,ŗ,G1]at h;obtain⟨⟨⟨⟨⟨rfl,A⟩,q⟩,s⟩,v⟩,z⟩:=h;have⟨Y,q2⟩:=ba v;show BD g.u q (c7 s) Y q2 (bK a X _ g z) A
 |.OK i,X,j,g,h=>bR
 |.Mg ln a b,X,j,g,h=>bR
 |.OL i,X,j,g,h=>bR
 |.Jw a,X,j,g,h=>bR
 |.Kz f es,X,j,g,h=>bR
 |.KU i a b,X,j,g,h=>bR
 |.bin op a b,X,j,g,h=>bR
 |.ite c a b,X,j,g,h=>bR
 |.tup es,X,j,g,h=>bR
 |.lst es,X,j,g,h=>bR
 |.J_ r,X,j,g,h=>bR
 |.MB a lo hi,X,j,g,h=>bR
 |.comp n t ik src cond e,X,j,g,h=>bR
theorem u3:∀(es:List E) (X:Cx) (a:List p8),Gd ck Γ C d X->aV ck es X.N X.env.scope a=b6->∀{pos},PW X (.BoolOp .And a pos) (JP C (aJ Γ es))
 |[],X,a,g,h,pos=>by
  cases a with
  |nil =>
   rintro j c s σ H Q I ⟨c0,rfl,rfl,i,w⟩;rw[show aJ Γ []=pure b6 from rfl,aj]at w;show ŕ ⟨c0.H,I,w c0 rfl rfl i (Nx.refl c0)⟩
  |cons _ _=>simp[aV]at h
 |[e],X,a,g,h,pos=>by
  cases a with
  |nil=>simp[aV]at h
  |cons b a =>
   cases a with
   |nil=>simp only[aV,eh]at h;show Am (mV e X b g h.1.2)
   |cons _ _=>simp[aV]at h
 |e::f::es,X,a,g,h,pos=>by
  cases a with
  |nil=>simp[aV]at h
  |cons b a =>
   have h':noStar b=b6/\bJ ck e X.N X.env.scope b=b6/\aV ck (f::es) X.N X.env.scope a=b6:=by
    rw[aV]at h;simp only[eh]at h;show⟨h.1.1,h.1.2,h.2⟩
   cases a with
   |nil=>have:=h'.2.2;simp[aV]at this
   |cons k l=>show Bh (mV e X b g h'.2.1) (u3 (f::es) X _ g h'.2.2)
theorem yY:∀(es:List E) (X:Cx) (a:List p8),Gd ck Γ C d X->aV ck es X.N X.env.scope a=b6->∀{pos},PW X (.BoolOp .Or a pos) (JP C (jR Γ es))
 |[],X,a,g,h,pos=>by
  cases a with
  |nil =>
   rintro j c s σ H Q I ⟨c0,rfl,rfl,i,w⟩;rw[show jR Γ []=pure cb from rfl,aj]at w;show isTrue_or_nil ⟨c0.H,I,w c0 rfl rfl i (Nx.refl c0)⟩
  |cons _ _=>simp[aV]at h
 |[e],X,a,g,h,pos=>by
  cases a with
  |nil=>simp[aV]at h
  |cons b a =>
   cases a with
   |nil=>simp only[aV,eh]at h;show Dh (mV e X b g h.1.2)
   |cons _ _=>simp[aV]at h
 |e::f::es,X,a,g,h,pos=>by
  cases a with
  |nil=>simp[aV]at h
  |cons b a =>
   have h':noStar b=b6/\bJ ck e X.N X.env.scope b=b6/\aV ck (f::es) X.N X.env.scope a=b6:=by
    rw[aV]at h;simp only[eh]at h;show⟨h.1.1,h.1.2,h.2⟩
   cases a with
   |nil=>have:=h'.2.2;simp[aV]at this
   |cons k l=>show Ef (mV e X b g h'.2.1) (yY (f::es) X _ g h'.2.2)
end
end
abbrev Qh(b:NZ)(x:Str)(a:Nat):p8->Bool
 |.ListComp elt gens s pos=>cK (b.names.lookup x=a0 .local)&&(a==pos.line)&&!(s.names.any λ(n,k)=>n==x&&(k==.local||k==.cell))
 |_=>cb
abbrev nW(s:Pc)(k:p8->Bool):Bool:=match s with|.Expr e _=>k e|_=>cb
def fC(h:nW s k=b6):∃e p,s=.Expr e p/\k e=b6:=by
 unfold nW at h;split at h
 .show⟨_,_,rfl,h⟩
 .cases h
abbrev lV(s:Pc)(k:p8->p8->Bool):Bool:=match s with|.Assign ts v _=>d4 ts λt=>k t v|_=>cb
def d6(h:lV s k=b6):∃t v p,s=.Assign [t] v p/\k t v=b6:=by
 unfold lV at h;split at h
 .have⟨t,rfl,a⟩:=bt h;show⟨_,_,_,rfl,h⟩
 .cases h
abbrev tE(e:p8)(k:p8->p8->p8->NZ->Bool):Bool:=match e with
 |.ListComp elt gens scope _=>d4 gens λg=>match g with
  |⟨b,a,[],0⟩=>k elt b a scope
  |_=>cb
 |_=>cb
def rh(h:tE e k=b6):∃elt c a scope p,e=.ListComp elt [⟨c,a,[],0⟩] scope p/\k elt c a scope=b6:=by
 unfold tE at h;split at h
 .have⟨g,rfl,b⟩:=bt h;split at b
  .show⟨_,_,_,_,_,rfl,b⟩
  .cases b
 .cases h
abbrev BO(e:p8)(k:Str->Pos->Bool):Bool:=match e with|.Name x p=>k x p|_=>cb
def nX(h:BO e k=b6):∃x p,e=.Name x p/\k x p=b6:=by
 unfold BO at h;split at h
 .show⟨_,_,rfl,h⟩
 .cases h
abbrev u4(s:Pc)(k:p8->ü->p8->Bool):Bool:=match s with|.AugAssign t op b _=>k t op b|_=>cb
def lW(h:u4 s k=b6):∃t op b p,s=.AugAssign t op b p/\k t op b=b6:=by
 unfold u4 at h;split at h
 .show⟨_,_,_,_,rfl,h⟩
 .cases h
abbrev rj(s:Pc)(k:Option p8->Bool):Bool:=match s with|.Return v _=>k v|_=>cb
def iw(h:rj s k=b6):∃v p,s=.Return v p/\k v=b6:=by
 unfold rj at h;split at h
 .show⟨_,_,rfl,h⟩
 .cases h
abbrev EM(v:Option p8)(k:p8->Bool):Bool:=match v with|some e=>k e|none=>cb
def nY(h:EM v k=b6):∃e,v=a0 e/\k e=b6:=by
 cases v with
 |none=>cases h
 |some e=>show⟨e,rfl,h⟩
abbrev yZ(s:Pc)(k:p8->List Pc->List Pc->Bool):Bool:=match s with|.If c a b _=>k c a b|_=>cb
def tF(h:yZ s k=b6):∃c a b p,s=.If c a b p/\k c a b=b6:=by
 unfold yZ at h;split at h
 .show⟨_,_,_,_,rfl,h⟩
 .cases h
abbrev y4(s:Pc)(k:p8->p8->List Pc->Bool):Bool:=match s with|.For t i b o _=>o.isEmpty&&k t i b|_=>cb
def tH(h:y4 s k=b6):∃t i b p,s=.For t i b [] p/\k t i b=b6:=by
 unfold y4 at h;split at h
 .rw[eh,LO]at h;have⟨rfl,h⟩:=h;show⟨_,_,_,_,rfl,h⟩
 .cases h
abbrev EN(s:Pc)(k:p8->List Pc->Bool):Bool:=match s with|.While c b o _=>o.isEmpty&&k c b|_=>cb
def wN(h:EN s k=b6):∃c b p,s=.While c b [] p/\k c b=b6:=by
 unfold EN at h;split at h
 .rw[eh,LO]at h;have⟨rfl,h⟩:=h;show⟨_,_,_,rfl,h⟩
 .cases h
abbrev rm(n:Nat)(s:Pc):Bool:=match s with|.Break _=>n==0|.Continue _=>n==1|.Pass _=>n==2|_=>cb
def iy(h:rm n s=b6):(n=0/\∃p,s=.Break p)\/(n=1/\∃p,s=.Continue p)\/(n=2/\∃p,s=.Pass p):=by
 unfold rm at h;split at h
 .show .inl ⟨by simpa using h,_,rfl⟩
 .show .inr (.inl ⟨by simpa using h,_,rfl⟩)
 .show .inr (.inr ⟨by simpa using h,_,rfl⟩)
 .cases h
mutual
noncomputable def EO(k:Ck):S->List Str->NZ->Pc->Bool
 |.set i e,N,d,s=>lV s λt v=>BO t λx p=>cK (N[i]?=a0 x)&&mU d x&&cK (d.kind=.function)&&bJ k e N d v&&(dO v||Qh d x p.line v||(match v with|.ListComp _ _ _ _=>b6|_=>cb))&&(match e with|.comp _ _ _ _ _ _=>b6|_=>dO v)
 |.Kl is e,N,d,s=>lV s λt v=>uZ t λ_=>Oe b6 N d (λ_=>b6) is t&&dO v&&EE v&&bJ k e N d v
 |.put i a b,N,d,s=>lV s λt j=>jV t λo a'=>br o λx=>cK (N[i]?=a0 x)&&iY d x&&cj x&&dO j&&eB a'&&bJ k a N d a'&&bJ k b N d j
 |.app i e,N,d,s=>nW s λc=>gf c λo m f as l=>br o λx=>d4 as λa=>cK (m="append")&&cK (N[i]?=a0 x)&&iY d x&&cj x&&(f.endLine==l.line)&&noStar a&&bJ k e N d a
 |.ext i e,N,d,s=>nW s λc=>gf c λo m f as l=>br o λx=>d4 as λa=>cK (m="extend")&&cK (N[i]?=a0 x)&&iY d x&&cj x&&(f.endLine==l.line)&&noStar a&&bJ k e N d a
 |.bad,_,_,_=>b6
 |.newD i,N,d,s=>lV s λt v=>br t λx=>BJ v&&cK (N[i]?=a0 x)&&mU d x
 |.putD i a b,N,d,s=>lV s λt j=>jV t λo a'=>br o λx=>cK (N[i]?=a0 x)&&iY d x&&cj x&&dO j&&eB a'&&bJ k a N d a'&&bJ k b N d j
 |.J' i a e,N,d,s=>nW s λc=>gf c λo m f as l=>jV o λo' a'=>br o' λx=>d4 as λb=>cK (m="append")&&cK (N[i]?=a0 x)&&iY d x&&cj x&&eB a'&&(f.endLine==l.line)&&noStar b&&bJ k a N d a'&&bJ k e N d b
 |.aug sub i a e,N,d,s=>u4 s λt op b=>jV t λo a'=>br o λx=>cK (op=if sub=b6 then .Sub else .Add)&&cK (N[i]?=a0 x)&&iY d x&&cj x&&eB a'&&bJ k a N d a'&&bJ k e N d b
 |.Q_ _,_,_,_=>cb
 |.exp e,N,d,s=>nW s λq=>dO q&&bJ k e N d q
 |.ret e,N,d,s=>rj s λv=>EM v λq=>bJ k e N d q
 |.KW i e,N,d,s=>rj s λw=>EM w λv=>tE v λelt h g scope=>gf g λo m f as l=>br o λx=>as.isEmpty&&cK (m="items")&&cK (N[i]?=a0 x)&&iY d x&&cj x&&(f.endLine==l.line)&&isTup h&&cK ((da h).length=2) &&
   AO (da h++hide (da h) N) (da h) scope d.names&&Oe b6 (da h++hide (da h) N) (yS scope d) (λ_=>cb) (hA 2) h&&bJ k e (da h++hide (da h) N) (yS scope d) elt
 |.inc i n,N,d,s=>u4 s λt op b=>BO t λx _=>uY b λc=>cK (op=.Add)&&cK (N[i]?=a0 x)&&mU d x&&cK (c=.int n)
 |.MQ,N,d,s=>rj s λv=>v.isNone
 |.ite c a b,N,d,s=>yZ s λr a' j=>bJ k c N d r&&eC k a N d a'&&eC k b N d j
 |.IF t is ik src body,N,d,s=>y4 s λh g u=>Oe t N d (λ_=>b6) is h&&tm g&&(match gb d h ik g with
    |some as=>aV k src N d as
    |none=>cb)&&eC k body N d u
 |.MC c body,N,d,s=>EN s λr u=>bJ k c N d r&&eC k body N d u
 |.brk,_,_,s=>rm 0 s
 |.cnt,_,_,s=>rm 1 s
 |.Ra,_,_,s=>rm 2 s
noncomputable def eC(k:Ck):List S->List Str->NZ->List Pc->Bool
 |[],_,_,a=>a.isEmpty
 |s::ss,N,b,a=>match a with
  |s'::a=>EO k s N b s'&&eC k ss N b a
  |[]=>cb
end
section
variable{ck:Ck}{Γ:Tab}{C:Ct}{d:Nat}{X:Cx}
def pR(h:mU a x=b6):Loc a x:=by
 unfold mU at h;simp only[RU,ŗ]at h;show h
def iZ(h:dO v=b6):R6 v t a env=pure cb:=by
 cases v<;>first|rfl|cases h
def pS(h:dO v=b6):R' [t] v a env=pure cb:=by
 rw[R'];show iZ h
def BP(h:eB i=b6):∀a b new,Ŏ i a b new=(do N_ [new,a,b] (Vd a b new);XZ [new,a,b] [];pure .next):=by
 intro a b new;cases i<;>first|rfl|cases h
def u5(h:eB i=b6):∀v,TK (.Subscript o i p) env v=(do
   let a <-N_ [v] (KH o env)
   let b <-N_ [v,a] (KH i env)
   Zo p
   N_ [v,a,b] (Vd a b v)
   XZ [v,a,b] []):=by
 intro v;cases i<;>first|rfl|cases h
structure Gs(ck:Ck)(Γ:Tab)(C:Ct)(d:Nat)(X:Cx):Prop where
 gd:Gd ck Γ C d X
 nd:X.N.Nodup
 fn:∀x,X.fn x=b6
 po:Y2 (kj X.prog X.w) X.A X.env X.xe
 kd:X.env.scope.kind=.function
def u6(g:Gd ck Γ C d X)(h:(match gb X.env.scope i ik b with|some as=>aV ck src X.N X.env.scope as|none=>cb)=b6):PI X i b (Mi C ik (cf Γ src)):=by
 split at h
 .rename_i as c;show CJ g c (kh src X _ g h) (λa e=>by
   subst e;cases src with
   |nil=>simp[aV]at h
   |cons f j =>
    cases j with
    |nil =>
     simp only[aV,eh]at h;show⟨f,rfl,bK f X _ g h.1.2⟩
    |cons _ _=>simp[aV]at h) (dn h)
 .cases h
def lX{pos p a:Pos}(hk:X.env.scope.kind=.function):R6 (.ListComp elt gens s pos) (a0 (.Name x p)) a.line X.env=pure (Qh X.env.scope x p.line (.ListComp elt gens s pos)):=by
 have b:X.env.blockKind=.function:=by
  unfold Env.blockKind;rw[hk];rfl
 change(pure (X.env.blockKind==.function&&X.env.kindOf x==a0 .local&&p.line==pos.line&&!(s.names.any λ(n,k)=>n==x&&(k==.local||k==.cell))):Sem Bool)=_;rw[b];unfold Qh;congr 1
 have:(X.env.kindOf x==a0 NameKind.local)=cK (X.env.scope.names.lookup x=a0 .local):=by
  unfold Env.kindOf;rw[JM];simp
 rw[this];rfl
def ER{src cond:List E}(G:Gs ck Γ C d X)(m:X.N[i]?=a0 x)(y:mU X.env.scope x=b6)
  (h:bJ ck (.comp n t ik src cond e) X.N X.env.scope (.ListComp elt [⟨o,a,b,0⟩] scope pos)=b6) (ns:Nat->Bool) (q:∀j,ns j=b6->j≠i) :
  L2.PS X (.Assign [.Name x p] (.ListComp elt [⟨o,a,b,0⟩] scope pos) Lk) (Js C ns (ev Γ (.comp n t ik src cond e) >>= λr=>dJ i r >>= λ_=>pure .nx)):=by
 have g:=G.gd;have u:=bK (.comp n t ik src cond e) X _ g h;cases k:Qh X.env.scope x p.line (.ListComp elt [⟨o,a,b,0⟩] scope pos) with
 |false=>show CI q G.nd m (pR y) (.inl (G.fn x)) u (by rw[lX G.kd,k])
 |true =>
  have hl:X.env.scope.names.lookup x=a0 .local:=by
   simp only[Qh,eh,ŗ]at k;show k.1.1
  have⟨YD,ZK,VZ,YE,Ul,p',A,v⟩:=jy h;cases A;clear h u;simp only[eh,ŗ]at v;obtain⟨⟨⟨⟨⟨⟨⟨B,J⟩,L⟩,O⟩,T⟩,Y⟩,c⟩,h8⟩:=v;subst B;have S:=sE (X:=X) rfl (jz _ _) J;show Ey q S g.calm G.nd m hl (u6 g T) (λD s H ex=>rf (fa:=λx=>cK (scope.names.lookup x=a0 .cell)) g.calm g.K S.nd (λ_ z=>z) L)
   (λD s H ex=>by
    cases b with
    |nil =>
     cases cond with
     |nil=>show λf s σ H Q I ⟨c0,l,e2,ok,w⟩=>pd f s σ H Q I (by subst l e2;rw[show aJ Γ []=pure b6 from rfl,aj]at w;show w c0 rfl rfl ok (Nx.refl c0))
     |cons _ _=>simp[aV]at c
    |cons c1 cs =>
     cases cs with
     |nil =>
      cases cond with
      |nil=>simp[aV]at c
      |cons l Jj =>
       cases Jj with
       |nil =>
        simp only[aV,eh]at c;show uh (mV l (JD X _ scope D s H ex) c1 (g.cx _ _ _ _ _ _) c.1.2)
       |cons _ _=>simp[aV]at c
     |cons _ _=>simp at Y)
   (λD s H ex=>bK e (JD X _ scope D s H ex) elt (g.cx _ _ _ _ _ _) h8) (by rw[lX G.kd,k]) (tD O)
def BQ(G:Gs ck Γ C d X)(h:EO ck (.inc i n) X.N X.env.scope s'=b6):L2.PS X s' (Js C (Rb (.inc i n)) (exec Γ (.inc i n))):=by
 have⟨t,op,b,p,rfl,e⟩:=lW h;have⟨x,m,rfl,f⟩:=nX e;have⟨c,o,q,rfl,a⟩:=lS f;simp only[eh,ŗ]at a;obtain⟨⟨⟨rfl,g⟩,k⟩,rfl⟩:=a;show Gw (λj l=>Ŝ (show cK (j≠i)=b6 from l)) G.nd g (pR k) (.inl (G.fn x))
mutual
theorem H0:∀(s:S) (X:Cx) (s':Pc),Gs ck Γ C d X->EO ck s X.N X.env.scope s'=b6->L2.PS X s' (Js C (Rb s) (exec Γ s))
 |.set i e,X,s',G,h=>by
  have⟨t,v,p1,rfl,f⟩:=d6 h;have⟨x,p,rfl,k⟩:=nX f;clear h f;have h:=k;simp only[eh,ŗ]at h;obtain⟨⟨⟨⟨⟨q,r⟩,A⟩,l⟩,B⟩,y⟩:=h;have J1:∀j,Rb (.set i e) j=b6->j≠i:=λj O=>Ŝ (show cK (j≠i)=b6 from O);by_cases hc:dO v=b6
  .show CI J1 G.nd q (pR r) (.inl (G.fn x)) (bK e X v G.gd l) (iZ hc)
  .cases e with
   |comp n t ik src cond e =>
    obtain⟨elt,tg,ab,al,scope,p3,rfl,_⟩:=jy l;show ER G q r l _ J1
   |_=>show absurd y hc
 |.Kl is e,X,s',G,h=>by
  have⟨t,v,p1,rfl,f⟩:=d6 h;have⟨es,kk,p,rfl,k⟩:=lT f;clear h f;have h:=k;simp only[eh]at h;obtain⟨⟨⟨q,r⟩,A⟩,l⟩:=h;show Ez (λj O=>Ŝ (show cK (j∉is)=b6 from O)) (bK e X v G.gd l) (rf (fa:=λ_=>b6) G.gd.calm G.gd.K G.nd (λx _=>G.fn x) q) (pS r) ?_ rfl;cases v<;>first|rfl|cases A
 |.put i a b,X,s',G,h=>by
  have⟨t,v,p,rfl,f⟩:=d6 h;have⟨o,a',p1,rfl,k⟩:=dm f;have⟨x,px,rfl,J⟩:=au k;simp only[eh,ŗ]at J;obtain⟨⟨⟨⟨⟨⟨q,r⟩,A⟩,l⟩,B⟩,y⟩,h7⟩:=J;have⟨Q,T⟩:=ba A;show Gv G.gd.P G.gd.w G.gd.K G.gd.u q (c7 r) Q T (bK b X _ G.gd h7) (bK a X _ G.gd y) (pS l) rfl (u5 B)
 |.app i e,X,s',G,h=>by
  have⟨c,p0,rfl,f⟩:=fC h;have⟨o,m,Y,as,Ij,rfl,k⟩:=cB f;have⟨x,px,rfl,J⟩:=au k;have⟨a,rfl,z4⟩:=bt J;simp only[eh,ŗ]at z4;obtain⟨⟨⟨⟨⟨⟨rfl,q⟩,r⟩,A⟩,l⟩,B⟩,y⟩:=z4;have⟨Q,T⟩:=ba A;have st:=bC (env:=X.env) (es:=[]) B;have sa:=(bQ (pos:=Ij) (env:=X.env) (es:=[a]) λe he=>by simp at he;subst he;show B).2;show Gr G.gd.K q (c7 r) Q T (bK e X _ G.gd y) ?_ l st;rw[sa];rfl
 |.ext i e,X,s',G,h=>by
  have⟨c,p0,rfl,f⟩:=fC h;have⟨o,m,Y,as,Ij,rfl,k⟩:=cB f;have⟨x,px,rfl,J⟩:=au k;have⟨a,rfl,z4⟩:=bt J;simp only[eh,ŗ]at z4;obtain⟨⟨⟨⟨⟨⟨rfl,q⟩,r⟩,A⟩,l⟩,B⟩,y⟩:=z4;have⟨Q,T⟩:=ba A;have st:=bC (env:=X.env) (es:=[]) B;have sa:=(bQ (pos:=Ij) (env:=X.env) (es:=[a]) λe he=>by simp at he;subst he;show B).2;show Gu G.gd.K q (c7 r) Q T (bK e X _ G.gd y) ?_ l st;rw[sa];rfl
 |.bad,X,s',G,h=>λac sh σ H D I ⟨_,_,_,_,w⟩=>(bA.mp w).elim
 |.newD i,X,s',G,h=>by
  have⟨t,v,p1,rfl,f⟩:=d6 h;have⟨x,p,rfl,k⟩:=au f;clear h f;have h:=k;simp only[eh,ŗ]at h;have⟨p2,rfl⟩:=nU h.1.1;show EB (λj O=>Ŝ (show cK (j≠i)=b6 from O)) G.nd h.1.2 (pR h.2) (.inl (G.fn _)) (iZ rfl)
 |.putD i a b,X,s',G,h=>by
  have⟨t,v,p,rfl,f⟩:=d6 h;have⟨o,a',p1,rfl,k⟩:=dm f;have⟨x,px,rfl,J⟩:=au k;simp only[eh,ŗ]at J;obtain⟨⟨⟨⟨⟨⟨q,r⟩,A⟩,l⟩,B⟩,y⟩,h7⟩:=J;have⟨Q,T⟩:=ba A;show EC G.gd.u q (c7 r) Q T (bK b X _ G.gd h7) (bK a X _ G.gd y) (pS l) rfl (u5 B)
 |.J' i a e,X,s',G,h=>by
  have⟨c,p0,rfl,f⟩:=fC h;have⟨o,m,Y,as,Ij,rfl,k⟩:=cB f;have⟨o',a',p1,rfl,J⟩:=dm k;have⟨x,px,rfl,z4⟩:=au J;have⟨b,rfl,z5⟩:=bt z4;simp only[eh,ŗ]at z5;obtain⟨⟨⟨⟨⟨⟨⟨⟨rfl,q⟩,r⟩,A⟩,l⟩,B⟩,y⟩,h7⟩,h8⟩:=z5;have ha:=bK e X _ G.gd h8;have⟨Q,T⟩:=ba A;have st:=bC (env:=X.env) (es:=[]) y;have sa:=(bQ (pos:=Ij) (env:=X.env) (es:=[b]) λe he=>by simp at he;subst he;show y).2;show ED G.gd.K G.gd.u q (c7 r) Q T ha (bK a X _ G.gd h7) (rb l) ?_ B st;rw[sa];rfl
 |.aug sub i a e,X,s',G,h=>by
  have⟨t,op,b,p,rfl,L⟩:=lW h;clear h;have h:=L;have⟨o,a',p1,rfl,f⟩:=dm h;have⟨x,px,rfl,k⟩:=au f;simp only[eh,ŗ]at k;obtain⟨⟨⟨⟨⟨⟨rfl,q⟩,r⟩,A⟩,l⟩,B⟩,y⟩:=k;have ha:=bK e X _ G.gd y;have⟨Q,T⟩:=ba A;show GB q (c7 r) Q T ha (bK a X _ G.gd B) (BP l)
 |.Q_ i,X,s',G,h=>absurd (show cb=b6 from h) oO
 |.exp e,X,s',G,h=>by
  have⟨e',p,rfl,L⟩:=fC h;clear h;have h:=L;simp only[eh]at h;show Gk (bK e X _ G.gd h.2) (iZ h.1)
 |.ret e,X,s',G,h=>by
  have⟨v,p,rfl,L⟩:=iw h;have⟨e',rfl,f⟩:=nY L;clear h L;have h:=f;show Gm (bK e X _ G.gd h)
 |.KW i e,X,s',G,h=>by
  have g:=G.gd;have⟨v0,p0,rfl,y0⟩:=iw h;have⟨v,rfl,y1⟩:=nY y0;clear h y0;have h:=y1;have⟨elt,tg,ab,scope,p,rfl,f⟩:=rh h;have⟨o,m,Y,as,Ij,rfl,k⟩:=cB f;have⟨x,px,rfl,J⟩:=au k;simp only[eh,ŗ,LO]at J;obtain⟨⟨⟨⟨⟨⟨⟨⟨⟨⟨rfl,rfl⟩,q⟩,r⟩,A⟩,l⟩,B⟩,y⟩,h7⟩,h8⟩,h9⟩:=J;cases tg with
  |Tuple es kx ps =>
   have⟨Q,T⟩:=ba A;have S:=sE (X:=X) rfl (jz _ _) h7;rw[<-y]at h8;show EA q (c7 r) Q T l S g.calm y (λD s H ex=>rf (fa:=λ_=>cb) g.calm g.K S.nd (λ_ z=>nomatch z) h8) (λD s H ex=>bK e _ _ (g.cx _ _ _ _ _ _) h9)
  |_=>cases B
 |.MQ,X,s',G,h=>by
  have⟨v,p,rfl,L⟩:=iw h;cases v with
  |none=>show Ew
  |some _=>cases L
 |.ite c a b,X,s',G,h=>by
  have⟨c',a',b',p,rfl,L⟩:=tF h;clear h;have h:=L;simp only[eh]at h;have ha:=nZ a X _ G h.1.2;have hb:=nZ b X _ G h.2;show Gn (mV c X _ G.gd h.1.1) (JK.weak ha λD σ H z=>pM (λj O=>(KR.mp (show(KA a j&&KA b j)=b6 from O)).1) z) (JK.weak hb λD σ H z=>pM (λj O=>(KR.mp (show(KA a j&&KA b j)=b6 from O)).2) z)
 |.IF t is ik src body,X,s',G,h=>by
  have⟨tg,ab,KD,p,rfl,L⟩:=tH h;clear h;have h:=L;rw[eh,eh,eh]at h;show Gq G.po G.gd.calm (u6 G.gd h.1.2) (rf (fa:=λ_=>b6) G.gd.calm G.gd.K G.nd (λx _=>G.fn x) h.1.1.1) (nZ body X _ G h.2) (tD h.1.1.2) λj O=>by have O:(cK (j∉is)&&KA body j)=b6:=O;simpa using O
 |.MC c body,X,s',G,h=>by
  have⟨c',KD,p,rfl,L⟩:=wN h;clear h;have h:=L;simp only[eh]at h;show Gp G.po (mV c X _ G.gd h.1) (nZ body X _ G h.2)
 |.brk,X,s',G,h=>by
  rcases iy h with⟨_,p,rfl⟩|⟨e,_⟩|⟨e,_⟩
  .show Gh
  .cases e
  .cases e
 |.cnt,X,s',G,h=>by
  rcases iy h with⟨e,_⟩|⟨_,p,rfl⟩|⟨e,_⟩
  .cases e
  .show Gi
  .cases e
 |.inc i n,X,s',G,h=>BQ G h
 |.Ra,X,s',G,h=>by
  rcases iy h with⟨e,_⟩|⟨e,_⟩|⟨_,p,rfl⟩
  .cases e
  .cases e
  .show Gj
theorem nZ:∀(ss:List S) (X:Cx) (a:List Pc),Gs ck Γ C d X->eC ck ss X.N X.env.scope a=b6->JK X a (Js C (KA ss) (execs Γ ss))
 |[],X,a,G,h=>by
  cases a with
  |nil=>show Gg
  |cons _ _=>simp[eC]at h
 |s::ss,X,a,G,h=>by
  cases a with
  |nil=>simp[eC]at h
  |cons s' a =>
   simp only[eC,eh]at h;have c:=H0 s X s' G h.1;have e:=nZ ss X a G h.2;show Eu (PS.weak c λD σ H z=>pM (λj b=>by simp only[KA,eh]at b;show b.1) z) (JK.weak e λD σ H z=>pM (λj b=>by simp only[KA,eh]at b;show b.2) z)
end
end
section
variable{ck:Ck}{Γ:Tab}{d:Nat}{P:HP}{w:Km}{K:PySem.W.Frag}{mg:Str->Option ez}{base:K9}
def jA{n i:Nat}(h:(start us n)[i]?=a0 (a0 (k,u))):us[i]?=a0 u/\k=if IY u=b6 then .loc else .any:=by
 unfold start at h;by_cases a:i<us.length
 .rw[G' (by simpa using a),oa]at h;rw[IV a]at h ⊢;simp only[TV,UY,Prod.mk.injEq]at h;have⟨b,c⟩:=h;subst c;show⟨rfl,b.symm⟩
 .rw[uv (by simp;lia),NP]at h;split at h<;>cases h
def tI{i:Nat}(h:vs[i]?=a0 v):(L2.start N vs)[i]?=a0 (a0 v):=by
 unfold L2.start;have a:i<vs.length:=(eW.mp h).1;rw[G' (by simpa using a),oa,h];rfl
def y6(p:∀a,c a->LJ H a)(h:ao (LL P w K H c) c H us vs)(q:N.length=n):Ok (LL P w K H c) ⟨λ_=>False,H,L2.start N vs,start us n,λ_=>[]⟩:=by
 have f:∀(j:Nat) (u:U),(start us n)[j]?≠a0 (a0 (.F',u)):=λj u e=>by
  have:=(jA e).2;split at this<;>cases this
 show⟨λa o e _=>e,λa z=>z.elim,λa z=>⟨p a z,λz=>z⟩,λa z=>z.elim,?_,λi k u e=>?_,λi j k k' u u' r hk t g m x y=>?_,⟨λj u r e _=>(f j u e).elim,λi j a ⟨u,_,e,_⟩=>(f i u e).elim,λj a ⟨u,_,e,_⟩=>(f j u e).elim⟩⟩
 .have:=h.len;simp[start,L2.start,q];lia
 .have⟨g,m⟩:=jA e;have⟨v,ev,b⟩:=h.get g;show⟨v,tI ev,?_⟩;subst m;by_cases l:IY u=b6
  .rw[Ř l];show Rep.IY l b
  .rw[Ś l];show Rep.mv (.up λa z=>.inl z) b
 .obtain⟨_,s⟩:=jA g;subst s;split at hk<;>cases hk
def pT(h:bT Γ fn us=a0 (.ok (k,u))):us.length=fn.np/\((k=.own\/k=.loc\/k=.any)/\(∃st',execs Γ fn.body (start us fn.ns)=a0 (.ok (.rt k u),st'))\/(k=.loc/\u=.Iy/\∃st',execs Γ fn.body (start us fn.ns)=a0 (.ok .nx,st'))):=by
 unfold bT at h;split at h
 .rename_i hl;show⟨hl,?_⟩;split at h
  .rename_i e;cases h;show .inl ⟨.inl rfl,_,e⟩
  .rename_i e;cases h;show .inl ⟨.inr (.inl rfl),_,e⟩
  .rename_i e;cases h;show .inl ⟨.inr (.inr rfl),_,e⟩
  .rename_i e;cases h;show .inr ⟨rfl,rfl,_,e⟩
  .cases h
  .cases h
 .cases h
def CM{st:Pc}(F:NH K fn.name i st f I)(S:fk N ps (bf st))(J:N.length=fn.ns)(L:ps.length=fn.np)
  (O:eC ck fn.body N (bf st) (dy st)=b6) (q:∀x∈cp,mg x=b5) (t:∀g∈ck.fns,EI P w K mg base d (Γ g) g)
  (T:∀p∈ck.gl,∃b v,mg p.1=a0 b/\RelV v b/\∀(C:Ct) S H,Rep C S H p.2 v):oM P w K mg base MJ (d+1) f I ps (spT P w K (bT Γ fn) fn.np):=by
 show F.ok S (λvs H Q E h=>h.1.trans L.symm) (λB A outer s H vs Q E hr h=>?_);have⟨hl,us,k,u,m,Y,hk,YF,y,j⟩:=h;have Qa:=hr.un;have G:Gs ck Γ (LL P w K H m) d (sm MJ P w K mg base N i (bf st) f B A outer s H E).OZ :=
  ⟨⟨rfl,rfl,rfl,by change(A.deeper (Wd i (bf st) s.heap.objs.size f B)).units+60<Ki;lia,rfl,hr,q,t,λp hp=>let ⟨b,v,q1,q2,q3⟩:=T p hp;⟨b,v,q1,q2,q3 _⟩⟩,S.nd,λ_=>rfl,PassesOwn.never,S.kind⟩
 show⟨_,nZ fn.body _ _ G O,⟨λ_=>False,H,L2.start N vs,start us fn.ns,λ_=>[]⟩,rfl,rfl,y6 YF y J,?_⟩;obtain⟨_,Up⟩:=pT Y;have D:∀(c:Cf),Ok (LL P w K H m) c->∀v,Gf (LL P w K H m) c k u v->Back (LL P w K H m) H c.H c.S k u v:=λc l v r=>by
  show⟨λa o e=>l.same a o e λz=>z,λa z=>l.Ku a z,λe=>?_,λe=>?_,λe=>?_⟩
  .subst e;have⟨r0,e,h1,h2,h3,h4⟩:=r;show⟨r0,e,h1,h2,h4⟩
  .subst e;show r
  .subst e;show r
 rcases Up with⟨_,st',e⟩|⟨rfl,rfl,st',e⟩
 .show⟨_,st',e,λc ec l n kp v r=>j v c.H c.S (D c l v r)⟩
 .show⟨_,st',e,λc ec l n kp=>j .Iy c.H c.S (D c l .Iy rfl)⟩
structure Ld(ck:Ck)(K:PySem.W.Frag)(mg:Str->Option ez)(fn:Fn):Prop where
 ex:∃(qual:Str) (st:Pc) (f:i5) (fd:US) (N ps:List Str),NH K fn.name qual st f fd/\mg fn.name=a0 (.ref f)/\Binds K fd ps []/\fk N ps (bf st)/\N.length=fn.ns/\ps.length=fn.np/\eC ck fn.body N (bf st) (dy st)=b6
def BR{Pg:List Fn}(a:(Pg.map (·.name)).Nodup)(h:fn∈Pg):Pg.find? (λg=>cK (g.name=fn.name))=a0 fn:=by
 induction Pg with
 |nil=>cases h
 |cons g Pg b =>
  rw[gi,qe]at a;rcases ke.mp h with rfl|h
  .simp
  .rw[OQ];have:cK (g.name=fn.name)=cb:=by
    apply ř;intro z;show a.1 (z▸É h)
   rw[this];show b a.2 h
def y7(a:(Pg.map (·.name)).Nodup)(h:fn∈Pg):Io Pg (d+1) fn.name=bT (Io Pg d) fn:=by
 funext us
 change(match Pg.find? λg=>cK (g.name=fn.name) with|some fn=>bT (Io Pg d) fn us|none=>b5)=_;rw[BR a h]
def BS(y:(Pg.map (·.name)).Nodup)(B:ck.fns=Pg.map (·.name))(i:∀x∈cp,mg x=b5)(D:∀p∈ck.gl,∃a v,mg p.1=a0 a/\RelV v a/\∀(C:Ct) S H,Rep C S H p.2 v)
  (ld:∀fn∈Pg,Ld ck K mg fn):∀d,∀fn∈Pg,EI P w K mg base d (Io Pg d fn.name) fn.name:=by
 intro d;induction d with
 |zero =>
  intro fn c;have⟨b,st,f,j,N,ps,F,l,m,S,q,n,r⟩:=(ld fn c).ex;show⟨fn.np,f,j,ps,⟨λvs H Q E h=>h.1.trans n.symm,λA outer s H args us vs Q E _ _ _ _ h=>by obtain⟨_,us,k,u,_,e,_⟩:=h;cases e⟩,l,F.kp,m,λus k u e=>by cases e⟩
 |succ d G =>
  intro fn c;have⟨b,st,f,j,N,ps,F,l,m,S,q,n,r⟩:=(ld fn c).ex;rw[y7 y c];show⟨fn.np,f,j,ps,CM F S q n r i (λg t=>?_) D,l,F.kp,m,λus k u e=>?_⟩
  .rw[B]at t;have⟨I,o,rfl⟩:=gs.mp t;show G I o
  .have⟨o,J⟩:=pT e;show⟨?_,o⟩;rcases J with⟨z,_⟩|⟨z,_⟩
   .show z
   .show .inr (.inl z)
end
abbrev tJ(ns:List Int):U:=.lst (ns.map .int)
theorem n9{S:i5->Prop}:∀(ns:List Int),ao C S H (ns.map .int) (ns.map V.int)
 |[]=>rfl
 |n::ns=>⟨_,_,rfl,rfl,n9 ns⟩
def tK(h:Je C.K H a (ns.map V.int)):Rep C (LJ H) H (tJ ns) (.ref a):=by
 show⟨a,_,rfl,?_,n9 ns⟩;rcases h with(h|⟨o,h⟩)|h
 .show .inl ⟨⟨_,h⟩,.inl h⟩
 .show .inl ⟨⟨_,h⟩,.inr ⟨o,h⟩⟩
 .show .inr h
theorem rn:∀{l:List α},(∀a∈l,f a=g a)->l.filterMap f=l.filterMap g
 |[],_=>rfl
 |a::l,h=>by rw[NG,NG,h a (by simp),rn λb c=>h b (by simp[c])]
theorem u7:∀(l:List Str) (us:List ez),l.Nodup->us.length=l.length->l.filterMap (λn=>((l.zip us).lookup n).map (n,·))=l.zip us
 |[],_,_,_=>rfl
 |a::l,[],_,h=>nomatch h
 |a::l,u::us,b,h=>by
  rw[qe]at b;have c:=u7 l us b.2 (by simpa using h);simp only[Qm,NG,p7,beq_self_eq_true,TV];congr 1
  conv=>rhs;rw[<-c]
  show rn λn d=>?_;have:(n==a)=cb:=by
   rw[Ş];rintro rfl;show b.1 d
  rw[this]
def y8(l:List Str)(us:List ez)(h:us.length=l.length):l.filter (λn=>((l.zip us).lookup n).isNone)=[]:=by
 rw[K5];intro n hn;induction l generalizing us with
 |nil=>cases hn
 |cons a l b =>
  cases us with
  |nil=>cases h
  |cons u us =>
   simp only[Qm,p7];cases e:n==a with
   |true=>simp
   |false =>
    rcases ke.mp hn with rfl|hn
    .simp at e
    .show b us (by simpa using h) hn
def y9{kV a b c ct:ez}(d:(as.map (·.arg)).Nodup)(hl:us.length=(as.map (·.arg)).length):
  ō (PySem.W.fnOf x q ⟨[],as,b5,[],[],b5,[]⟩ body scope .none kV a b m c ct) ⟨us,[]⟩=pure ((as.map (·.arg)).zip us):=by
 have e:=u7 _ us d hl;have f:=y8 _ us hl;change(if _ then _ else _)=_;rw[Ś (by simp[hl])];have g:∀k:Nat,¬(!(((as.map (·.arg)).take k).filter λn=>(((as.map (·.arg)).zip us).lookup n).isNone).isEmpty)=b6:=λk=>by
  rw[K5.mpr λn h=>K5.mp f n (Z8 h)];show oO
 show(Ś (g _)).trans ?_;have hz:∀(l:List Str) (i j:Nat),(l.drop i).zip ((b5.getD #[]:Array ez).toList.drop j)=[]:=λl i j=>by rw[show(b5.getD #[]:Array ez).toList=[] from rfl,List.drop_nil,List.zip_nil_right]
 show Eq.trans (ŝ (λz=>Bind.bind (ĉ z _ _) _) (hz _ _ _)) ?_;show ŝ (pure:List (Str×ez)->Sem (List (Str×ez))) ((ŝ (List.filterMap _) (sx _)).trans e)
structure Me where
 fn:Fn
 i:Nat
 N:List Str
 a:i5
 c:i5
 m:ez
 cr:Obj
abbrev Me.fd(top:Nat->Pc)(m:Me):US:=PySem.W.fnOf m.fn.name m.fn.name (gr (top m.i)) (dy (top m.i)) (bf (top m.i)) .none .none .none m.m b5 (.ref m.c) .none
abbrev Me.fo(top:Nat->Pc)(m:Me):Obj:=⟨.type "function",b5,.func (m.fd top),#[]⟩
@[reducible]def Gx:=Obj
abbrev adr(ms:List Me):List i5:=3::ms.flatMap λm=>[m.c,m.a]
abbrev K3(top:Nat->Pc)(g:Gx)(ms:List Me):PySem.W.Frag:=(3,g)::ms.flatMap λm=>[(m.c,m.cr),(m.a,m.fo top)]
def u9(top:Nat->Pc)(g:Gx)(ms:List Me):adr ms=(K3 top g ms).map (·.1):=by
 unfold adr K3;rw[gi,List.map_flatMap];rfl
abbrev ES(v:Option (Option ez))(a:i5):Bool:=match v with|some (a0 (.ref b))=>cK (b=a)|_=>cb
def BU(h:ES v a=b6):v=a0 (a0 (.ref a)):=by
 unfold ES at h;split at h
 .rw[Ŝ h]
 .cases h
abbrev nn(o:Option (Option ez)):Bool:=match o with|some b5=>b6|_=>cb
def GI(h:nn o=b6):o=a0 b5:=by
 unfold nn at h;split at h
 .rfl
 .cases h
abbrev GJ(p:Arguments)(ps:List Str):Bool:=p.posonlyargs.isEmpty&&p.vararg.isNone&&p.kwonlyargs.isEmpty&&p.kw_defaults.isEmpty&&p.kwarg.isNone&&p.defaults.isEmpty&&cK (p.args.map (·.arg)=ps)
abbrev V0(N:List Str)(b:Nat)(a:NZ):Bool:=cK (a.kind=.function)&&cK (a.isCoroutine=cb)&&cK (a.isGenerator=cb)&&decide N.Nodup&&(N.take b).all (mU a)&&a.names.all (λy=>cK (y.2≠.free))
abbrev V1(ck:Ck)(top:Nat->Pc)(K:PySem.W.Frag)(m:Me):Bool:=PySem.W.codeIn K (.ref m.c) m.fn.name&&PySem.W.keepIn K (.ref m.a)&&ES (PySem.W.nsIn K J8 m.fn.name) m.a&&GJ (gr (top m.i)) (m.N.take m.fn.np) &&
 V0 m.N m.fn.np (bf (top m.i))&&cK (m.N.length=m.fn.ns)&&cK (m.fn.np<=m.fn.ns)&&eC ck m.fn.body m.N (bf (top m.i)) (dy (top m.i))
abbrev V2(K:PySem.W.Frag)(p:Str×U):Bool:=match p.2,PySem.W.nsIn K J8 p.1 with
 |.int i,a0 (a0 (.int j _))=>cK (i=j)
 |.str i,a0 (a0 (.str j _))=>cK (i=j)
 |_,_=>cb
abbrev Np(ck:Ck)(top:Nat->Pc)(K:PySem.W.Frag)(ms:List Me):Bool:=ms.all (V1 ck top K)&&cp.all (λy=>nn (PySem.W.nsIn K J8 y))&&ck.gl.all (V2 K)&&cK (K.map (·.1)).Nodup
def GK{K:PySem.W.Frag}(b:(K.map (·.1)).Nodup)(h:(a,o)∈K):K.lookup a=a0 o:=by
 induction K with
 |nil=>cases h
 |cons p K c =>
  rw[gi,qe]at b;rw[p7];rcases ke.mp h with rfl|h
  .simp
  .have:(a==p.1)=cb:=by
    rw[Ş];rintro rfl;show b.1 (gs.mpr ⟨_,h,rfl⟩)
   rw[this];show c b.2 h
section
def CN(c:Np ck top (K3 top g ms) ms=b6)(h:m∈ms):NH (K3 top g ms) m.fn.name m.fn.name (top m.i) m.a (m.fd top)/\PySem.W.nsIn (K3 top g ms) J8 m.fn.name=a0 (a0 (.ref m.a)) /\
  (∀us:List ez,us.length=(m.N.take m.fn.np).length->ō (m.fd top) ⟨us,[]⟩=pure ((m.N.take m.fn.np).zip us))/\fk m.N (m.N.take m.fn.np) (bf (top m.i))/\m.N.length=m.fn.ns/\(m.N.take m.fn.np).length=m.fn.np/\eC ck m.fn.body m.N (bf (top m.i)) (dy (top m.i))=b6:=by
 simp only[Np,eh,ŗ]at c;have z:=tA.mp c.1.1.1 m h;simp only[V1,eh,ŗ]at z;obtain⟨⟨⟨⟨⟨⟨⟨j,k⟩,l⟩,b⟩,d⟩,n⟩,u⟩,o⟩:=z;simp only[V0,eh,ŗ]at d;obtain⟨⟨⟨⟨⟨s1,s2⟩,s3⟩,s4⟩,p⟩,q⟩:=d;have r:(K3 top g ms).lookup m.a=a0 (m.fo top):=GK c.2 (ke.mpr (.inr (List.mem_flatMap.mpr ⟨m,h,by simp⟩)));have hl:(m.N.take m.fn.np).length=m.fn.np:=by rw[KP];lia
 show⟨DF r j k,BU l,λus f=>?_,⟨s1,s2,s3,s4,by rw[hl],λx s=>?_,λy t=>?_⟩,n,hl,o⟩
 .unfold Me.fd;revert b;cases gr (top m.i) with
  |mk v as w A B C D =>
   intro b;simp only[GJ,eh,LO,YO,ŗ]at b;obtain⟨⟨⟨⟨⟨⟨rfl,rfl⟩,rfl⟩,rfl⟩,rfl⟩,rfl⟩,e⟩:=b;rw[<-e]at f ⊢;show y9 (by rw[e];show(ë _ _).nodup s4) f
 .have:=tA.mp p x s;simpa[mU] using this
 .have:=tA.mp q y t;simpa using this
def GL(i:Np ck top (K3 top g ms) ms=b6)(X:(K3 top g ms).In h)(G:h.Ns J8 mg)(j:m∈ms):Ld ck (K3 top g ms) mg m.fn :=
 let ⟨a,b,c,d,e,f,k⟩:=CN i j
 ⟨_,_,_,_,_,_,a,PySem.W.mg_of X G b,.all c,d,e,f,k⟩
def ET(d:Np ck top (K3 top g ms) ms=b6)(X:(K3 top g ms).In h)(G:h.Ns J8 mg):∀p∈ck.gl,∃a v,mg p.1=a0 a/\RelV v a/\∀(C:Ct) S H,Rep C S H p.2 v:=by
 intro p e;simp only[Np,eh,ŗ]at d;have z:=tA.mp d.1.2 p e;unfold V2 at z;split at z
 .rename_i i j k b c;obtain rfl:=Ŝ z;show⟨_,.int i,PySem.W.mg_of X G c,⟨_,rfl⟩,λ_ _ _=>by rw[b];rfl⟩
 .rename_i i j k b c;obtain rfl:=Ŝ z;show⟨_,.str i,PySem.W.mg_of X G c,⟨_,rfl⟩,λ_ _ _=>by rw[b];rfl⟩
 .cases z
end
def walk{l:PySem.W.OpenLaw}{K:ä->PySem.W.Frag}
  (D:l.most=a0 63) (I:d.params.defaults=[]) (hr:gK (dp+1) Vg) (J:∀(w:Km) (h:K9),L w h->(K w.params).In h)
  (o:(Pg.map (·.name)).Nodup) (r:ck.fns=Pg.map (·.name)) (O:fn∈Pg) (Ml:fn.name=d.name)
  (F:∀(w:Km) (mg:Str->Option ez) (fa:i5) (h:K9),(K w.params).In h->h.Ns J8 mg->mg d.name=a0 (.ref fa) ->
   (∀y∈cp,mg y=b5)/\(∀p∈ck.gl,∃e v,mg p.1=a0 e/\RelV v e/\∀(C:Ct) S H,Rep C S H p.2 v)/\(∀g∈Pg,Ld ck (K w.params) mg g) /\
   ∃(c:Str) (st:Pc) (j:US) (N:List Str),NH (K w.params) fn.name c st fa j/\fk N [x] (bf st)/\N.length=fn.ns/\1=fn.np/\eC ck fn.body N (bf st) (dy st)=b6/\∀(s:gj) (u:ez),ç s j ⟨[u],[]⟩ [(x,u)])
  (T:∀ns:List Int,ns.length<=63->Io Pg (dp+1) fn.name [tJ ns]=a0 (.ok (.loc,.bl b6))) :
  PySem.W.WalkO q m XP L l.row.toRowW d [] (λf vs=>PySem.call f vs) :=
 L2.AH (n:=63) (k:=dp+1) (x:=x) (CX:=λ_=>MJ) (sp:=λw=>spT l.prog w (K w.params) (bT (Io Pg dp) fn) fn.np) D (by decide) I hr J
  (λw mg fa h Q G Y=>by
   have⟨i,A,ld,c,st,j,N,F1,S,hN,Mw,hc,hb⟩:=F w mg fa h Q G Y;show⟨j,hb,λbase _ _=>CM F1 S hN Mw hc i (λg B=>?_) A⟩;rw[r]at B;have⟨Uq,h1,rfl⟩:=gs.mp B;show BS o r i A ld dp Uq h1)
  (λw H a ns hl _ hS=>by
   have t:=T ns hl;rw[y7 o O]at t;have YH:fn.np=1:=(pT t).1.symm;show⟨YH.symm,[tJ ns],.loc,.bl b6,LJ H,t,.inr (.inl rfl),λ_ z=>z,⟨_,_,rfl,tK hS,rfl⟩,λv H' S' b=>b.loc rfl⟩)
  λ_ _ _ _ _ z=>z
def walk2{l:PySem.W.OpenLaw}{g:ä->Obj}
  (v:l.most=a0 63) (z:d.params.defaults=[]) (hr:gK (dp+1) Vg) (o:ms.map (·.fn)=Pg) (A:(Pg.map (·.name)).Nodup) (B:ck.fns=Pg.map (·.name)) (p:m∈ms) (r:m.fn.name=d.name) (C:m.N.take m.fn.np=[x])
  (ok:∀P,Np ck top (K3 top (g P) ms) ms=b6) (T:∀ns:List Int,ns.length<=63->Io Pg (dp+1) m.fn.name [tJ ns]=a0 (.ok (.loc,.bl b6))) :
  PySem.W.WalkO q j H (PySem.W.kHook (λP=>K3 top (g P) ms) (adr ms) λP=>u9 top (g P) ms).says l.row.toRowW d [] (λf vs=>PySem.call f vs) :=
 walk v z hr (λw h Y=>PySem.W.kIn_of Y) A B (o▸gs.mpr ⟨m,p,rfl⟩) r (λw mg fa h X G t=>by
  have hk:=ok w.params;have⟨a,b,c,e,f,k,n⟩:=CN hk p;rw[<-r,PySem.W.mg_of X G b]at t;cases t;rw[C]at c e k;show⟨λy i=>PySem.W.mg_none_of X G (GI ?_),ET hk X G,λy i=>?_,_,_,_,_,a,e,f,k,n,λs u=>.of_eq (c [u] rfl)⟩
  .simp only[Np,eh]at hk;show tA.mp hk.1.1.2 y i
  .rw[<-o]at i;have⟨I,D,rfl⟩:=gs.mp i;show GL hk X G D) T
abbrev co(n:Str)(k l c:Nat)(r s:i5)(x y z:ez)(a b t:Nat):Obj:=⟨.type "code",b5,.fields #[.str n k,.str n (k+1),.str "/claim/cut.py" (k+2),.int l 0,.int c 0,.int 0 0,.int 0 0,.int 3 0,.ref r,.bool b6,.int t 0,.ref s,.none,x,y,z,.int a 0,.int l 0,.str "/claim/cut.py" b],#[]⟩
abbrev ge(P:ä)(x:Str)(k:Nat)(v:ez):DictEntry:=⟨PyData.keyHash P x,.str x k,v⟩
end TM
namespace IM
open PySem L2
abbrev c8(l:List Nat):Prop:=fG l=b6\/∃a b k,l=a++47::b/\fG a=b6/\2<=k/\k<=99/\(v7 k).cps.toList=b
def len_list(x:Str):x.length=x.cps.toList.length:=by simp[Y1]
def n_(a:0<=k)(b:k<=99):(v7 k).length<=2:=by
 have⟨m,rfl⟩:=T4 a;have c:m<100:=by lia
 clear a b;revert m;decide +kernel
def c8.len(h:c8 l):1<=l.length/\l.length<=11:=by
 rcases h with h|⟨a,b,k,rfl,h,e,c,d⟩
 .have:=(de l).mp h;lia
 .have:=(de a).mp h;have hl:=n_ (k:=k) ⋯ c;rw[len_list,d]at hl;simp;lia
def c8.H9(h:c8 x.cps.toList):∃y r,Qx x Cz=y::r/\fG y.cps.toList=b6:=by
 rcases h with h|⟨a,b,k,e,h,_⟩
 .show⟨x,[],sA (qz h),h⟩
 .have⟨r,c⟩:=xQ e (qz h) (by decide);show⟨_,r,c,by simpa using h⟩
theorem fJ:∀(ps:List Str) (a:Array Nat),(ps.foldl (λa p=>a++G0.cps++p.cps) a).toList=a.toList++(ps.map λp=>p.cps.toList).flatten
 |[],a=>by simp
 |p::ps,a=>by
  rw[Ua,fJ ps];have:G0.cps=#[]:=rfl;simp[this]
def join_list(ts:List Str):(Wu G0 ts).cps.toList=(ts.map λp=>p.cps.toList).flatten:=by
 cases ts with
 |nil=>rfl
 |cons t ts =>
  change(ts.foldl (λa p=>a++G0.cps++p.cps) t.cps).toList=_;rw[fJ];simp
abbrev one(c:Nat):Str:=⟨#[c]⟩
def join_ones(cs:List Nat):(Wu G0 (cs.map one)).cps.toList=cs:=by
 rw[join_list,et];induction cs with
 |nil=>rfl
 |cons c cs a=>rw[gi,Nf,a];rfl
def rp(cs:List Nat)(h:cs.length<=100):ę G0 (cs.map one)=b6:=by
 unfold ę;have e:=PySem.StrLaws.joinTotal G0 (cs.map one);have a:G0.length=0:=rfl;have es:((cs.map one).map (·.length)).sum=cs.length:=by
  rw[et];clear h e;induction cs with
  |nil=>rfl
  |cons c cs b=>rw[gi,List.sum_cons,b];change 1+cs.length=cs.length+1;lia
 rw[e,a,es];have d:cs.length+(cs.map one).length * 0<=100:=by lia
 revert d;generalize cs.length+(cs.map one).length * 0=m;revert m;decide
def EU(x:Str)(j:Nat):(PySem.StrLaws.sliceText x b5 (a0 (j:Int))).cps.toList=x.cps.toList.take j:=by
 by_cases h:j<=x.cps.toList.length
 .rw[PySem.StrLaws.sliceText_to (x:=x) ⟨⋯,⋯⟩];simp
 .have e:PySem.StrLaws.sliceText x b5 (a0 (j:Int))=PySem.StrLaws.sliceText x b5 (a0 (x.length:Int)):=by
   unfold PySem.StrLaws.sliceText;have hl:=len_list x;have:PySem.Builtin.Str.strSliceIndices b5 (a0 (j:Int)) 1 x.length=PySem.Builtin.Str.strSliceIndices b5 (a0 (x.length:Int)) 1 x.length:=by
    have a:¬((j:Int)<0):=by lia
    have b:¬((x.length:Int)<0):=by lia
    have c:min (j:Int) (x.length:Int)=x.length:=by lia
    simp[PySem.Builtin.Str.strSliceIndices,a,b,c]
   rw[this]
  have hl:=len_list x;rw[e,PySem.StrLaws.sliceText_to (x:=x) ⟨⋯,⋯⟩,List.drop_zero,N' (l:=x.cps.toList) (i:=j) ⋯];change(x.cps.toList.take ((x.length:Int) - 0).toNat).toArray.toList=_;rw[N' ⋯]
def wO(d:fG a=b6)(e:∀c∈b,low c=b6):fG ((a++b).take 8)=b6:=by
 have h:=(de a).mp d;show(de _).mpr ⟨by simp;lia,by simp;lia,λc f=>?_⟩;have g:=Z8 f;rcases ko.mp g with m|m
 .show h.2.2 c m
 .have:=e c m;simp[low]at this;lia
def jW(a:∀c∈b,low c=b6)(d:1<=b.length)(e:b.length<=8):fG b=b6 :=
 (de b).mpr ⟨d,e,λc f=>by have:=a c f;simp[low]at this;lia⟩
abbrev small:Str:="abcdefghijklmnopqrstuvwxyz"
def tL:small.cps.toList=(hA 26).map (97+·):=by decide +kernel
def lY(a:0<=k)(b:k<26):Jb small.cps.toList k=a0 (97+k.toNat):=by
 have⟨j,rfl⟩:=T4 a;show cv ?_;rw[tL,oa,Ê ⋯];rfl
def tM(h:j<26):low (97+j)=b6:=by simp[low];lia
abbrev og(k:Nat):Str:=⟨#[97+k / 26,97+k % 26]⟩
def tN(h:k<40):fG (og k).cps.toList=b6:=by
 show jW (λc a=>?_) (by change 1<=2;decide) (by change 2<=8;decide);have b:c=97+k / 26\/c=97+k % 26:=by simpa[og] using a
 rcases b with rfl|rfl
 .show tM ⋯
 .show tM ⋯
theorem bH [DecidableEq α]:∀{l m:List α},l.Nodup->(∀x∈l,x∈m)->l.length<=m.length
 |[],_,_,_=>mu _
 |x::l,m,c,h=>by
  have⟨d,e⟩:=qe.mp c;have a:=h x oT;have f:=bH (l:=l) (m:=m.erase x) e λy b=>(Z_ (by rintro rfl;show d b)).mpr (h y (oW _ b));rw[Y_ a]at f;have:0<m.length:=Zw a;rw[mh];lia
abbrev cq:List Str:=(hA 40).map og
def pU:cq.Nodup:=by
 decide +kernel
def tP(names:List Str)(h:names.length<40):∃x∈cq,x∉names:=by
 apply oZ;intro a;have:∀x∈cq,x∈names:=λx b=>oZ λc=>a ⟨x,b,c⟩;have:=bH pU this;simp[cq]at this;lia
end IM
namespace TM
open PySem L2
section
abbrev Run(m:M α)(st:aA)(a:α)(st':aA):Prop:=m st=a0 (.ok a,st')
def ag(c:Run m st a st1)(d:Run (f a) st1 b st2):Run (m >>= f) st b st2:=by
 change M.bind m f st=_;unfold M.bind;rw[show m st=_ from c];show d
def bb:Run (pure a:M α) st a st:=rfl
def cX(h:o=a0 a):Run (M.IQ o) st a st:=by subst h;rfl
def bE(h:bq rs st):Run (aO rs) st () st:=by change aO rs st=_;unfold aO;rw[Ř h]
abbrev kv(i:Nat)(k:Kd):Kd:=if k.root=b6 then .bor i else k
def gh(h:st[i]?=a0 (a0 (k,u)))(hk:k≠.F':=by intro z;cases z):Run (dM i) st (kv i k,u) st:=by
 change dM i st=_;unfold dM;rw[h];cases k<;>first|rfl|show absurd rfl hk
def ae(h:st[i]?=a0 (a0 (.loc,u))):Run (ev Γ (.var i)) st (.loc,u) st:=gh h
def ay(h:st[i]?=a0 (a0 (.any,u))):Run (ev Γ (.var i)) st (.any,u) st:=gh h
def av(h:st[i]?=a0 (a0 (.own,u))):Run (ev Γ (.var i)) st (.bor i,u) st:=gh h
def aC:Run (ev Γ (.cst u)) st (.loc,u) st:=rfl
def GN:Run (ev Γ (.NX x u)) st (.loc,u) st:=rfl
def b8(c:Run (ev Γ a) st x st1)(d:Run (ev Γ b) st1 y st2)(e:bq [x,y] st2)(f:Kg op x y=a0 r):Run (ev Γ (.bin op a b)) st r st2 :=
 ag c (ag d (ag (bE e) (cX f)))
def gW(d:Run (ev Γ a) st x st1)(e:Run (ev Γ b) st1 y st2)(f:bq [x,y] st2)(g:bw op x.2 y.2=a0 c):Run (ev Γ (.cmp op a b)) st (.loc,.bl c) st2 :=
 ag d (ag e (ag (bE f) (ag (cX g) bb)))
def bj(c:Run (ev Γ a) st x st1)(d:Run (ev Γ b) st1 y st2)(e:bq [x,y] st2)(f:ip x y.2=a0 r):Run (ev Γ (.idx a b)) st r st2 :=
 ag c (ag d (ag (bE e) (cX f)))
def CO:Run (NY Γ []) st b5 st:=rfl
def CP(h:Run (ev Γ e) st (k,.int i) st1):Run (NY Γ [e]) st (a0 i) st1:=ag h rfl
def CQ(b:Run (ev Γ a) st x st1)(c:Run (NY Γ lo) st1 l st2)(d:Run (NY Γ e) st2 h st3)(f:bq [x] st3)(g:mS x l h=a0 r):Run (ev Γ (.MB a lo e)) st r st3 :=
 ag b (ag c (ag d (ag (bE f) (cX g))))
def af:Run (cf Γ []) st [] st:=rfl
def aa(a:Run (ev Γ e) st r st1)(b:Run (cf Γ es) st1 rs st2):Run (cf Γ (e::es)) st (r::rs) st2:=ag a (ag b bb)
def cC(a:Run (cf Γ es) st rs st1)(b:bq rs st1)(c:JW f rs=a0 r):Run (ev Γ (.bi f es)) st r st1:=ag a (ag (bE b) (cX c))
def oh(a:Run (cf Γ es) st rs st1)(b:bq rs st1)(c:sT f rs=a0 r):Run (ev Γ (.Lg f es)) st r st1:=ag a (ag (bE b) (cX c))
def y_(b:Run (ev Γ a) st x st1)(c:Run (cf Γ es) st1 rs st2)(d:bq (x::rs) st2)(e:lJ m x.2 rs=a0 r):Run (ev Γ (.Md m a es)) st r st2:=ag b (ag c (ag (bE d) (cX e)))
def u_(h:Γ f us=a0 (.ok r))(hr:isAny r.1=cb):Run (lK Γ f us) st r st:=by
 have⟨k,u⟩:=r;change lK Γ f us st=_;unfold lK;rw[h];cases k<;>first|rfl|cases hr
def aE(a:Run (cf Γ es) st rs st1)(b:bq rs st1)(c:Γ f (rs.map (·.2))=a0 (.ok r))(hr:isAny r.1=cb:=by show rfl):Run (ev Γ (.call f es)) st r st1:=ag a (ag (bE b) (u_ c hr))
def EV(a:Run (cf Γ es) st rs st1)(b:bq rs st1)(c:Γ f (rs.map (·.2))=a0 (.ok (k,u)))(hr:rs.all (λr=>cK (r.1=.loc))=b6):Run (ev Γ (.Kz f es)) st (if k=.any then .loc else k,u) st1:=ag a (ag (bE b) (by change qT Γ f rs st1=_;unfold qT;rw[Ř hr,c]))
def GO(b:Run (ev Γ a) st r st1)(c:Run (lift r) st1 u st2):Run (ev Γ (.Jw a)) st (.loc,u) st2:=ag b (ag c bb)
def cQ(a:Run (cf Γ es) st rs st1)(b:bq rs st1)(c:Run (dA rs) st1 us st2)(d:us.length<=dV):Run (ev Γ (.tup es)) st (.loc,.tup us) st2:=by
 show ag a (ag (bE b) (ag c ?_));rw[Ř d];show bb
def bB(a:Run (cf Γ es) st rs st1)(b:bq rs st1)(c:Run (dA rs) st1 us st2)(d:us.length<=dV):Run (ev Γ (.lst es)) st (.own,.lst us) st2:=by
 show ag a (ag (bE b) (ag c ?_));rw[Ř d];show bb
def lZ:Run (ev Γ (.J_ r)) st (.own,if r=b6 then .JE [] else .Ip [] []) st:=rfl
def jX:Run (lift (.own,u)) st u st:=rfl
def aK:Run (lift (.loc,u)) st u st:=rfl
def eD(h:IY u=b6):Run (lift (.any,u)) st u st:=by
 change(if IY u=b6 then(pure u:M U) else M.fail) st=_;rw[Ř h];rfl
def aD:Run (dA []) st [] st:=rfl
def aG(a:Run (lift r) st u st1)(b:Run (dA rs) st1 us st2):Run (dA (r::rs)) st (u::us) st2:=ag a (ag b bb)
def aR(d:Run (ev Γ a) st x st1)(e:Run (ev Γ b) st1 y st2)(f:bq [x,y] st2)(g:bw op x.2 y.2=a0 c):Run (IU Γ (.cmp op a b)) st c st2:=ag d (ag e (ag (bE f) (cX g)))
def dF(h:Run (IU Γ a) st c st1):Run (IU Γ (.not a)) st (!c) st1:=ag h bb
def l0(h:Run (aJ Γ es) st c st1):Run (IU Γ (.and es)) st c st1:=h
def mW(h:Run (jR Γ es) st c st1):Run (IU Γ (.or es)) st c st1:=h
def cH:Run (aJ Γ []) st b6 st:=rfl
def cu(h:Run (IU Γ e) st c st1):Run (aJ Γ [e]) st c st1:=h
def pV(h:Run (IU Γ e) st b6 st1)(a:Run (aJ Γ (b::es)) st1 c st2):Run (aJ Γ (e::b::es)) st c st2:=ag h a
def tQ(h:Run (IU Γ e) st cb st1):Run (aJ Γ (e::a::es)) st cb st1:=ag h bb
def gX(h:Run (IU Γ e) st c st1):Run (jR Γ [e]) st c st1:=h
def fK(h:Run (IU Γ e) st cb st1)(a:Run (jR Γ (b::es)) st1 c st2):Run (jR Γ (e::b::es)) st c st2:=ag h a
def aS:Run (dJ i (.own,u)) st () (st.set i (a0 (.own,u))):=rfl
def aX:Run (dJ i (.loc,u)) st () (st.set i (a0 (.loc,u))):=rfl
def gY:Run (dJ i (.any,u)) st () (st.set i (a0 (.any,u))):=rfl
def GP(a:Run (ev Γ e) st r st1)(b:Run (dJ i r) st1 () st2):Run (exec Γ (.set i e)) st .nx st2:=ag a (ag b bb)
def GQ(b:∃k' us',st[i]?=a0 (a0 (k',.lst us'))/\k'≠.F')(c:Run (ev Γ e) st r st1)(d:Run (lift r) st1 u st2)(f:st2[i]?=a0 (a0 (k,.lst us)))(hk:k.root=b6)(hl:us.length<dV):
  Run (exec Γ (.app i e)) st .nx (st2.set i (a0 (k,.lst (us++[u])))):=by
 have⟨k',us',b,g⟩:=b;show ag (gh b g) (ag (a:=()) (st1:=st) rfl (ag c (ag d (ag (a:=()) ?_ bb))));change modS i (yr u) st2=_;unfold modS;rw[f];simp only[hk,Š];have e:yr u (.lst us)=a0 (.lst (us++[u])):=by change(if us.length<dV then _ else _)=_;rw[Ř hl]
 rw[e]
def GR(a:Run (ev Γ e) st r st1)(b:Run (retS r) st1 f st2):Run (exec Γ (.ret e)) st f st2:=ag a b
def fL:Run (retS (.own,u)) st (.rt .own u) st:=rfl
def cI:Run (retS (.loc,u)) st (.rt .loc u) st:=rfl
def GS(h:IY u=b6):Run (retS (.any,u)) st (.rt .loc u) st:=by
 change(if IY u=b6 then(pure (Fl.rt .loc u):M Fl) else pure (.rt .any u)) st=_;rw[Ř h];rfl
def i_(h:st[j]?=a0 (a0 (.own,u))):Run (retS (.bor j,a)) st (.rt .own u) (st.set j b5):=by
 change(match st[j]? with|some (a0 (.own,u))=>a0 (Ex.ok (Fl.rt .own u),st.set j b5)|_=>b5)=_;rw[h]
def gk(d:Run (IU Γ c) st b6 st1)(e:Run (execs Γ a) st1 f st2):Run (exec Γ (.ite c a b)) st f st2:=ag d e
def tR(d:Run (IU Γ c) st cb st1)(e:Run (execs Γ b) st1 f st2):Run (exec Γ (.ite c a b)) st f st2:=ag d e
def ak:Run (execs Γ []) st .nx st:=rfl
def fD(a:Run (exec Γ s) st .nx st1)(b:Run (execs Γ ss) st1 f st2):Run (execs Γ (s::ss)) st f st2:=ag a b
def pW(a:Run (exec Γ s) st (.rt k u) st1):Run (execs Γ (s::ss)) st (.rt k u) st1:=ag a bb
def aB(a:Run (ev Γ e) st r st1)(b:Run (dJ i r) st1 () st2)(c:Run (execs Γ ss) st2 f st3):Run (execs Γ (.set i e::ss)) st f st3:=fD (GP a b) c
def jY(a:st[i]?=a0 (a0 (k',.lst us')))(b:Run (ev Γ e) st r st1)(c:Run (lift r) st1 u st2)(d:st2[i]?=a0 (a0 (k,.lst us)))(hk:k.root=b6)(hl:us.length<dV)
  (g:Run (execs Γ ss) (st2.set i (a0 (k,.lst (us++[u])))) f st3) (h:k'≠.F':=by intro z;cases z):Run (execs Γ (.app i e::ss)) st f st3:=fD (GQ ⟨_,_,a,h⟩ b c d hk hl) g
def bc(a:Run (ev Γ e) st r st1)(b:Run (retS r) st1 (.rt k u) st2):Run (execs Γ (.ret e::ss)) st (.rt k u) st2:=pW (GR a b)
def dq(d:Run (IU Γ c) st b6 st1)(e:Run (execs Γ a) st1 .nx st2)(g:Run (execs Γ ss) st2 f st3):Run (execs Γ (.ite c a b::ss)) st f st3:=fD (gk d e) g
def aM(d:Run (IU Γ c) st cb st1)(e:Run (execs Γ b) st1 .nx st2)(g:Run (execs Γ ss) st2 f st3):Run (execs Γ (.ite c a b::ss)) st f st3:=fD (tR d e) g
def EW(d:Run (IU Γ c) st b6 st1)(e:Run (execs Γ a) st1 (.rt k u) st2):Run (execs Γ (.ite c a b::ss)) st (.rt k u) st2:=pW (gk d e)
def GU(a:Run (cf Γ src) st rs st1)(b:bq rs st1)(c:JX ik rs=a0 xs)(d:uI rs is body=b6)(e:Run (forM t is (execs Γ body) rs xs) st1 f st2):
  Run (exec Γ (.IF t is ik src body)) st f st2:=by
 show ag a (ag (bE b) (ag (cX c) ?_));rw[Ř d];show e
def bW(a:Run (cf Γ src) st rs st1)(b:bq rs st1)(c:JX ik rs=a0 xs)(d:uI rs is body=b6)(e:Run (forM t is (execs Γ body) rs xs) st1 .nx st2)(g:Run (execs Γ ss) st2 f st3):
  Run (execs Γ (.IF t is ik src body::ss)) st f st3:=fD (GU a b c d e) g
def CS(h:bq rs st):Run (forM t is body rs []) st .nx st:=ag (bE h) bb
def GV(h:bq rs st)(a:Run (dB t is x) st () st1)(b:Run body st1 .nx st2)(c:Run (forM t is body rs xs) st2 f st3):Run (forM t is body rs (x::xs)) st f st3:=ag (bE h) (ag a (ag b c))
theorem rq(I:List (Kd×U)->aA->Prop)(hs:∀xs st,I xs st->bq rs st)(ù:∀x xs st,I (x::xs) st->∃st1 st2,Run (dB t is x) st () st1/\Run body st1 .nx st2/\I xs st2):
  ∀(xs:List (Kd×U)) (st:aA),I xs st->∃st',Run (forM t is body rs xs) st .nx st'/\I [] st'
 |[],st,h=>⟨st,CS (hs _ _ h),h⟩
 |x::xs,st,h=>by
  have⟨s1,s2,a,b,c⟩:=ù x xs st h;have⟨s3,d,e⟩:=rq I hs ù xs s2 c;show⟨s3,GV (hs _ _ h) a b d,e⟩
def d7(h:Run (dJ i r) st () st1):Run (dB cb [i] r) st () st1:=h
def aF(a:us.length=fn.np)(hk:k=.own\/k=.loc)(hs:start us fn.ns=st0)(h:Run (execs Γ fn.body) st0 (.rt k u) st):bT Γ fn us=a0 (.ok (k,u)):=by
 subst hs;unfold bT;rw[Ř a,show execs Γ fn.body (start us fn.ns)=_ from h];rcases hk with rfl|rfl<;>rfl
def rA{cond:M Bool}(h:bq src st):Run (bN k t cond elt src [] a) st a st:=ag (bE h) bb
def l7{cond:M Bool}(h:bq src st)(d:Run (dB t (hA k) x) (nz k b5++st) () s1)(e:Run cond s1 b6 s2)(g:Run elt s2 r s3)(i:Run (lift r) s3 u s4)
  (hl:c.length<dV) (j:Run (bN k t cond elt src xs (c++[u])) (s4.drop k) us st2):Run (bN k t cond elt src (x::xs) c) st us st2:=by
 show ag (bE h) (ag (a:=a0 u) (st1:=s4.drop k) ?_ ?_)
 .change inScope k _ st=_;unfold inScope;have hh:Run (dB t (hA k) x >>= λ_=>cond >>= λb=>if b=b6 then(elt >>= λr=>lift r >>= λu=>pure (a0 u)) else pure b5) (nz k b5++st) (a0 u) s4 :=
   ag d (ag e (show Run (elt >>= λr=>lift r >>= λu=>pure (a0 u)) s2 (a0 u) s4 from ag g (ag (f:=λu=>pure (a0 u)) i rfl)))
  rw[show _=_ from hh]
 .change Run (if c.length<dV then bN k t cond elt src xs (c++[u]) else M.fail) _ _ _;rw[Ř hl];show j
def tS{cond:M Bool}(h:bq src st)(d:Run (dB t (hA k) x) (nz k b5++st) () s1)(e:Run cond s1 cb s2)
  (f:Run (bN k t cond elt src xs c) (s2.drop k) us st2):Run (bN k t cond elt src (x::xs) c) st us st2:=by
 show ag (bE h) (ag (a:=b5) (st1:=s2.drop k) ?_ f);change inScope k _ st=_;unfold inScope;have hh:Run (dB t (hA k) x >>= λ_=>cond >>= λb=>if b=b6 then(elt >>= λr=>lift r >>= λu=>pure (a0 u)) else pure b5) (nz k b5++st) b5 s2 :=
  ag d (ag e (show Run (pure b5:M (Option U)) s2 b5 s2 from rfl))
 rw[show _=_ from hh]
def a5{src cond:List E}(a:Run (cf Γ src) st rs st1)(b:bq rs st1)(c:JX ik rs=a0 xs)(d:Run (bN k t (aJ Γ cond) (ev Γ e) rs xs []) st1 us st2):Run (ev Γ (.comp k t ik src cond e)) st (.own,.lst us) st2 :=
 ag a (ag (bE b) (ag (cX c) (ag d bb)))
theorem za{cond:M Bool}(h:bq src st)(g:Kd×U->U)(b:Kd×U->Kd):∀(xs:List (Kd×U)) (a:List U),a.length+xs.length<=dV ->
  (∀x∈xs,x.1=.loc\/x.1=.any)->(∀x∈xs,Run cond (a0 x::st) b6 (a0 x::st)/\Run elt (a0 x::st) (b x,g x) (a0 x::st)/\Run (lift (b x,g x)) (a0 x::st) (g x) (a0 x::st))->Run (bN 1 cb cond elt src xs a) st (a++xs.map g) st
 |[],a,_,_,_=>by rw[MT,sx];show rA h
 |x::xs,a,hl,hk,d=>by
  have⟨e,f,i⟩:=d x (by simp);rw[mh]at hl;show l7 (s1:=a0 x::st) (s2:=a0 x::st) (s3:=a0 x::st) (s4:=a0 x::st) h ?_ e f i ⋯ ?_
  .have⟨k,u⟩:=x;rcases hk _ (oT ..) with z|z<;>(cases z;rfl)
  .have:=za h g b xs (a++[g x]) (by simp;lia) (λy c=>hk y (by simp[c])) λy c=>d y (by simp[c]);rw[gi];simpa using this
theorem l8{cond:M Bool}(h:bq src st)(p:Kd×U->Bool)(g:Kd×U->U)(c:Kd×U->Kd):∀(xs:List (Kd×U)) (a:List U),a.length+xs.length<=dV ->
  (∀x∈xs,x.1=.loc\/x.1=.any)->(∀x∈xs,Run cond (a0 x::st) (p x) (a0 x::st)/\Run elt (a0 x::st) (c x,g x) (a0 x::st)/\Run (lift (c x,g x)) (a0 x::st) (g x) (a0 x::st))->Run (bN 1 cb cond elt src xs a) st (a++(xs.filter p).map g) st
 |[],a,_,_,_=>by rw[Ql,MT,sx];show rA h
 |x::xs,a,hl,hk,f=>by
  have⟨d,j,l⟩:=f x (by simp);rw[mh]at hl;have i:Run (dB cb (hA 1) x) (nz 1 b5++st) () (a0 x::st):=by
   have⟨k,u⟩:=x;rcases hk _ (oT ..) with z|z<;>(cases z;rfl)
  cases e:p x with
  |true =>
   rw[e]at d;show l7 (s1:=a0 x::st) (s2:=a0 x::st) (s3:=a0 x::st) (s4:=a0 x::st) h i d j l ⋯ ?_;have:=l8 h p g c xs (a++[g x]) (by simp;lia) (λy b=>hk y (by simp[b])) λy b=>f y (by simp[b]);rw[I0,Ř e,gi];simpa using this
  |false =>
   rw[e]at d;show tS (s1:=a0 x::st) (s2:=a0 x::st) h i d ?_;have:=l8 h p g c xs a ⋯ (λy b=>hk y (by simp[b])) λy b=>f y (by simp[b]);rw[I0,Ś (by simp[e])];show this
end
def cZ(h:0<j):Kg .mod (k,.int i) (k',.int j)=a0 (.loc,.int (i % j)):=by change(A5 i j).map _=_;rw[A5,Ř h];rfl
def zb(h:0<j/\j<1073741824):Kg .KS (k,.int i) (k',.int j)=a0 (.loc,.int (i / j)):=by change(A4 i j).map _=_;rw[A4,Ř h];rfl
def oH(h:(-(2 ^ 64)<i/\i<2 ^ 64)\/(-(2 ^ 64)<j/\j<2 ^ 64)):Kg .mul (k,.int i) (k',.int j)=a0 (.loc,.int (i * j)):=by change(A3 i j).map _=_;rw[A3,Ř h];rfl
def oI(h:0<=j/\j<=1000000/\i.natAbs<2 ^ 64):Kg .pow (k,.int i) (k',.int j)=a0 (.loc,.int (i ^ j.toNat)):=by change(A6 i j).map _=_;rw[A6,Ř h];rfl
def hJ:Kg .add (k,.int i) (k',.int j)=a0 (.loc,.int (i+j)):=rfl
def fj:Kg .sub (k,.int i) (k',.int j)=a0 (.loc,.int (i - j)):=rfl
def bo(h:Jb xs i=a0 u):ip (k,.lst xs) (.int i)=a0 (kE k,u):=by change(Jb xs i).map _=_;rw[h];rfl
def b9(h:Jb xs i=a0 u):ip (k,.tup xs) (.int i)=a0 (kE k,u):=by change(Jb xs i).map _=_;rw[h];rfl
def vb:Kd.own≠Kd.F':=by decide
local macro_rules
 |`(tactic| sizeOf_list_dec)=>`(tactic| first|exact ak|apply aB|apply jY|apply bc|exact aC|exact ae rfl|exact ay rfl|exact av rfl|apply b8|apply gW|apply bj|apply cC|apply aE|apply y_|apply aR|exact af|apply aa|apply cQ|apply bB|exact aD|apply aG|exact aK|exact jX|(first|exact trivial|exact⟨⟨_,rfl,rfl⟩,trivial⟩|exact⟨⟨_,rfl,rfl⟩,⟨_,rfl,rfl⟩,trivial⟩)|exact hJ|exact fj|exact cZ (by first|lia|decide)|exact zb (by first|lia|decide)|exact oH (by first|lia|decide)|exact oI (by decide)|exact aX|exact aS|exact gY|exact cI|exact fL|exact i_ rfl|exact mu _|exact rfl|exact vb)
abbrev tT(c k:Int):Int:=((c % 10 ^ 15+1) * 48271+k * k * 16807+k * 7919) % 2147483647 * 69621 % 2147483629
abbrev wQ:Fn:=⟨"_law_mix",2,3,[.set 2 (.bin .add (.bin .add (.bin .mul (.bin .add (.bin .mod (.var 0) (.bin .pow (.cst (.int 10)) (.cst (.int 15)))) (.cst (.int 1))) (.cst (.int 48271))) (.bin .mul (.bin .mul (.var 1) (.var 1)) (.cst (.int 16807)))) (.bin .mul (.var 1) (.cst (.int 7919)))),.ret (.bin .mod (.bin .mul (.bin .mod (.var 2) (.cst (.int 2147483647))) (.cst (.int 69621))) (.cst (.int 2147483629)))]⟩
def BV(a:0<=k)(b:k<2 ^ 63):bT Γ wQ [.int c,.int k]=a0 (.ok (.loc,.int (tT c k))):=by
 apply aF (st0:=[a0 (.loc,.int c),a0 (.loc,.int k),b5]) rfl (.inr rfl) rfl
 repeat' sizeOf_list_dec
abbrev vc:Fn:=⟨"_law_cell",2,3,[.ite (.cmp .lt (.var 1) (.bi .len [.var 0])) [.ret (.idx (.var 0) (.var 1))] [],.set 2 (.cst (.int 0)),.ite (.cmp .gt (.bi .len [.var 0]) (.cst (.int 0))) [.set 2 (.idx (.var 0) (.bin .mod (.var 1) (.bi .len [.var 0])))] [],.ret (.bin .add (.bin .mul (.cst (.int 2)) (.call "_law_mix" [.var 2,.var 1])) (.cst (.int 1)))]⟩
abbrev zc(Γ:Tab):Prop:=∀c k:Int,0<=k->k<2 ^ 63->Γ "_law_mix" [.int c,.int k]=a0 (.ok (.loc,.int (tT c k)))
def oi(h:cK (i<j)=c):bw .lt (.int i) (.int j)=a0 c:=by subst h;rfl
def ja(h:cK (j<i)=c):bw .gt (.int i) (.int j)=a0 c:=by subst h;rfl
def cJ(h:(i==j)=c):bw .eq (.int i) (.int j)=a0 c:=by subst h;rfl
def cE:JW .len [(k,.lst xs)]=a0 (.loc,.int (xs.length:Nat)):=rfl
def pX:JW .len [(k,.tup xs)]=a0 (.loc,.int (xs.length:Nat)):=rfl
abbrev CT(ns:List Int)(k:Nat):Int:=if k<ns.length then(ns[k]?).getD 0 else 2 * tT ((ns[k % ns.length]?).getD 0) k+1
def zd(f:zc Γ){k:Nat}(hk:k<2 ^ 62):bT Γ vc [.lst (ns.map .int),.int k]=a0 (.ok (.loc,.int (CT ns k))):=by
 have b:∀c,Γ "_law_mix" [.int c,.int k]=a0 (.ok (.loc,.int (tT c k))):=λc=>f c k ⋯ ⋯;unfold CT;by_cases h:k<ns.length
 .rw[Ř h];have a:Jb (ns.map U.int) (k:Int)=a0 (.int ((ns[k]?).getD 0)):=cv (by simp[h]);apply aF (st0:=[a0 (.any,.lst (ns.map .int)),a0 (.loc,.int k),b5]) rfl (.inr rfl) rfl;apply EW
  all_goals repeat' (first|show oi (by simp[h])|show bo a|show GS rfl|sizeOf_list_dec)
 .rw[Ś h];have d:bw .lt (.int k) (.int ((ns.map U.int).length:Nat))=a0 cb:=oi (by simp;lia);by_cases hz:0<ns.length
  .have g:k % ns.length<ns.length:=T7 _ hz;have a:Jb (ns.map U.int) ((k:Int) % ((ns.map U.int).length:Nat))=a0 (.int ((ns[k % ns.length]?).getD 0)):=by
    rw[df,show(k:Int) % (ns.length:Nat)=((k % ns.length:Nat):Int) by lia];show cv (by simp[g])
   have i:(0:Int)<((ns.map U.int).length:Nat):=by simp;lia
   apply aF (st0:=[a0 (.any,.lst (ns.map .int)),a0 (.loc,.int k),b5]) rfl (.inr rfl) rfl;apply aM
   all_goals repeat' (first|show d|sizeOf_list_dec)
   apply dq
   all_goals repeat' (first|show ja (by simp;lia)|show cZ i|show bo a|show b _|sizeOf_list_dec)
  .have e:ns=[]:=Xi ⋯;subst e;apply aF (st0:=[a0 (.any,.lst ([].map .int)),a0 (.loc,.int k),b5]) rfl (.inr rfl) rfl;apply aM
   all_goals repeat' (first|show d|sizeOf_list_dec)
   apply aM
   all_goals repeat' (first|show b _|sizeOf_list_dec)
abbrev pY:Fn:=⟨"_law_drawn",2,5,[.set 2 (.lst []),.set 3 (.bin .KS (.var 0) (.cst (.int 2))),.IF cb [4] .Jl [.var 1] [.ite (.cmp .eq (.bin .mod (.var 0) (.cst (.int 2))) (.cst (.int 0))) [.app 2 (.bin .mod (.var 3) (.cst (.int 64))),.set 3 (.bin .KS (.var 3) (.cst (.int 64)))] [.app 2 (.bin .mod (.bin .KS (.call "_law_mix" [.var 0,.var 4]) (.cst (.int 7))) (.cst (.int 4096)))]],.ret (.var 2)]⟩
def rB(x:Kd×U):JX .Jl [x]=wA x:=rfl
def pZ(h:n<2 ^ 62):JX .Jl [(k,.int (n:Nat))]=a0 ((hA n).map λi:Nat=>(Kd.loc,U.int (0+(i:Int)))):=by
 rw[rB,wA,Ř ⋯,L7]
abbrev eX(n:Nat)(xs:List (Kd×U)):Prop:=∃i,i<=n/\xs=((hA n).drop i).map λi:Nat=>(Kd.loc,U.int (0+(i:Int)))
def eX.cons(h:eX n (x::xs)):∃i:Nat,i<n/\x=(.loc,.int (i:Nat))/\eX n xs/\i+xs.length+1=n:=by
 have⟨i,b,e⟩:=h;by_cases a:i<n
 .rw[Ta (by simpa using a),gi]at e;cases e;show⟨i,a,by simp,⟨i+1,a,rfl⟩,by simp;lia⟩
 .rw[List.drop_eq_nil_of_le (by simp;lia)]at e;cases e
def eX.all(n:Nat):eX n ((hA n).map λi:Nat=>(Kd.loc,U.int (0+(i:Int)))):=⟨0,mu _,rfl⟩
def wR(r:zc Γ)(w:n<1000):∃a:List Int,a.length=n/\(∀d∈a,0<=d)/\bT Γ pY [.int c,.int n]=a0 (.ok (.own,.lst (a.map .int))):=by
 have hsz:(1000:Nat)<=dV:=by decide
 let I:List (Kd×U)->aA->Prop:=λxs st=>∃(a:List Int) (us:List U) (left:Int) (o:Option (Kd×U)),st=[a0 (.loc,.int c),a0 (.loc,.int n),a0 (.own,.lst us),a0 (.loc,.int left),o]/\us=a.map .int/\(∀d∈a,0<=d)/\a.length+xs.length=n/\eX n xs;have b:=rq (t:=cb) (is:=[4]) (body:=execs Γ [.ite (.cmp .eq (.bin .mod (.var 0) (.cst (.int 2))) (.cst (.int 0)))
    [.app 2 (.bin .mod (.var 3) (.cst (.int 64))),
    .set 3 (.bin .KS (.var 3) (.cst (.int 64)))]
    [.app 2 (.bin .mod (.bin .KS (.call "_law_mix" [(.var 0),(.var 4)]) (.cst (.int 7))) (.cst (.int 4096)))]]) (rs:=[(.loc,.int n)]) I (λ_ _ _=>trivial) (λx xs st s=>by
  have⟨a,us,left,o,e,f,g,hl,hr⟩:=s;subst e;have l:us.length=a.length:=by rw[f];simp
  have⟨i,y,rfl,m,p⟩:=hr.cons;have u:Γ "_law_mix" [.int c,.int i]=a0 (.ok (.loc,.int (tT c i))):=r c i ⋯ ⋯;rw[mh]at hl;by_cases q:c % 2=0
  .show⟨[a0 (.loc,.int c),a0 (.loc,.int n),a0 (.own,.lst us),a0 (.loc,.int left),a0 (.loc,.int i)],[a0 (.loc,.int c),a0 (.loc,.int n),a0 (.own,.lst (us++[.int (left % 64)])),a0 (.loc,.int (left / 64)),a0 (.loc,.int i)],aX,?_,⟨a++[left % 64],_,left / 64,_,rfl,by simp[f],?_,by simp;lia,m⟩⟩
   .apply dq
    all_goals repeat' (first|show cJ (by simp[q])|show(by rw[l];lia)|sizeOf_list_dec)
   .intro d h;rcases ko.mp h with z|z
    .show g d z
    .rw[ix.mp z];lia
  .show⟨[a0 (.loc,.int c),a0 (.loc,.int n),a0 (.own,.lst us),a0 (.loc,.int left),a0 (.loc,.int i)],[a0 (.loc,.int c),a0 (.loc,.int n),a0 (.own,.lst (us++[.int (tT c i / 7 % 4096)])),a0 (.loc,.int left),a0 (.loc,.int i)],aX,?_,⟨a++[tT c i / 7 % 4096],_,left,_,rfl,by simp[f],?_,by simp;lia,m⟩⟩
   .apply aM
    all_goals repeat' (first|show cJ (by simp[q])|show u|show(by rw[l];lia)|sizeOf_list_dec)
   .intro d h;rcases ko.mp h with z|z
    .show g d z
    .rw[ix.mp z];lia)
 obtain⟨st',v,a,us,left,o,e,f,g,hl,_⟩:=b ((hA n).map λi:Nat=>(Kd.loc,U.int (0+(i:Int)))) [a0 (.loc,.int c),a0 (.loc,.int n),a0 (.own,.lst []),a0 (.loc,.int (c / 2)),b5] ⟨[],[],c / 2,b5,rfl,rfl,by simp,by simp,eX.all n⟩;subst e f;show⟨a,by simpa using hl,g,?_⟩;apply aF (st0:=[a0 (.loc,.int c),a0 (.loc,.int n),b5,b5,b5]) rfl (.inl rfl) rfl
 repeat' sizeOf_list_dec
 have j:=pZ (k:=.loc) (n:=n) ⋯;refine' bW (rs:=[(.loc,.int n)]) (st1:=[a0 (.loc,.int c),a0 (.loc,.int n),a0 (.own,.lst []),a0 (.loc,.int (c / 2)),b5]) _ trivial j rfl v _
 all_goals repeat' sizeOf_list_dec
end TM
local macro_rules
 |`(tactic| sizeOf_list_dec)=>`(tactic| first|exact TM.ak|apply TM.aB|apply TM.jY|apply TM.bc|exact TM.aC|exact TM.ae rfl|exact TM.ay rfl|exact TM.av rfl|apply TM.b8|apply TM.gW|apply TM.bj|apply TM.cC|apply TM.aE|apply TM.y_|apply TM.aR|exact TM.af|apply TM.aa|apply TM.cQ|apply TM.bB|exact TM.aD|apply TM.aG|exact TM.aK|exact TM.jX|(first|exact trivial|exact⟨⟨_,rfl,rfl⟩,trivial⟩|exact⟨⟨_,rfl,rfl⟩,⟨_,rfl,rfl⟩,trivial⟩)|exact TM.hJ|exact TM.fj|exact TM.cZ (by first|lia|decide)|exact TM.zb (by first|lia|decide)|exact TM.oH (by first|lia|decide)|exact TM.oI (by decide)|exact TM.aX|exact TM.aS|exact TM.gY|exact TM.cI|exact TM.fL|exact TM.i_ rfl|exact mu _|exact rfl|exact TM.vb)
namespace TM
open PySem L2 IM
def vd(a:0<=z)(h:z<2 ^ 62):JX .Jl [(k,.int z)]=a0 ((hA z.toNat).map λi:Nat=>(Kd.loc,U.int (0+(i:Int)))):=by
 rw[rB,wA,Ř ⋯]
def k_(a:x.length<=dV)(h:Jb x.cps.toList i=a0 c):ip (k,.str x) (.int i)=a0 (.loc,.str (IM.one c)):=by
 simp only[ip];rw[Ř a,h];rfl
def l9:small.length<=dV:=by decide
def cS{a:List Int}{i:Nat}(h:i<a.length):Jb (a.map U.int) (i:Int)=a0 (.int ((a[i]?).getD 0)):=cv (by simp[h])
theorem du:∀(ss:List Str),strsOf (ss.map U.str)=a0 ss
 |[]=>rfl
 |s::ss=>by change(strsOf (ss.map U.str)).map (s::·)=_;rw[du ss];rfl
abbrev p5(a:E):Fn:=⟨"_law_name",2,6,[.set 2 (.cst (.str "abcdefghijklmnopqrstuvwxyz")),.set 3 (.Md .join (.cst (.str "")) [.comp 1 cb .Jl [.bin .add (.cst (.int 1)) (.bin .mod (.idx (.var 0) (.cst (.int 0))) (.cst (.int 8)))] [] (.idx (.var 3) (.bin .mod (.idx (.var 1) (.bin .add (.cst (.int 4)) (.var 0))) (.cst (.int 26))))]),.ite (.cmp .gt (.bi .len [.var 1]) (.cst (.int 0))) [.set 4 (.idx (.Md .split (.idx (.var 1) (.bin .mod (.idx (.var 0) (.cst (.int 1))) (.bi .len [.var 1]))) [.cst (.str "/")]) (.cst (.int 0))),.ite (.cmp .eq (.bin .mod (.idx (.var 0) (.cst (.int 2))) (.cst (.int 4))) (.cst (.int 1))) [.set 3 (.MB (.bin .add (.var 4) (.var 3)) [] [.cst (.int 8)])] [],.ite (.cmp .eq (.bin .mod (.idx (.var 0) (.cst (.int 2))) (.cst (.int 4))) (.cst (.int 2))) [.set 3 (.bin .add (.bin .add (.var 4) (.cst (.str "/"))) (.bi .str [.bin .add (.cst (.int 2)) (.bin .mod (.idx (.var 0) (.cst (.int 3))) a)]))] []] [],.set 5 (.bin .add (.lst [.var 3]) (.comp 1 cb .Jl [.cst (.int 40)] [] (.bin .add (.idx (.var 3) (.bin .KS (.var 0) (.cst (.int 26)))) (.idx (.var 3) (.bin .mod (.var 0) (.cst (.int 26))))))),.ret (.idx (.comp 1 cb .seq [.var 5] [.cmp .Im (.var 0) (.var 2)] (.var 0)) (.cst (.int 0)))]⟩
abbrev BW(b:E):Prop:=∀(Γ:Tab) (a:List Int),a.length=12->(∀d∈a,0<=d)->∃m:Int,0<m/\m<=98/\∀o1 o2 o3 o4 o5,Run (ev Γ b) [a0 (.any,.lst (a.map .int)),o1,o2,o3,o4,o5] (.loc,.int m) [a0 (.any,.lst (a.map .int)),o1,o2,o3,o4,o5]
@[reducible]def GW:E:=.cst (.int 98)
def BX:BW GW:=λ_ _ _ _=>⟨98,by decide,by decide,λ_ _ _ _ _=>aC⟩
section
variable{Γ:Tab}{ds:List Int}
abbrev dd(ds:List Int)(i:Nat):Int:=(ds[i]?).getD 0
def eY(a:∀d∈ds,0<=d)(i:Nat):0<=dd ds i:=by
 unfold dd;cases e:ds[i]? with
 |none=>simp
 |some d=>show a d (qs e)
def p9(p:ds.length=12)(b:∀d∈ds,0<=d):∃cs:List Nat,(∀c∈cs,low c=b6)/\1<=cs.length/\cs.length<=8 /\
  Run (ev Γ (.comp 1 cb .Jl [.bin .add (.cst (.int 1)) (.bin .mod (.idx (.var 0) (.cst (.int 0))) (.cst (.int 8)))] [] (.idx (.var 3) (.bin .mod (.idx (.var 1) (.bin .add (.cst (.int 4)) (.var 0))) (.cst (.int 26))))))
   [a0 (.any,.lst (ds.map .int)),o1,a0 (.loc,.str small),o3,o4,o5] (.own,.lst ((cs.map IM.one).map .str)) [a0 (.any,.lst (ds.map .int)),o1,a0 (.loc,.str small),o3,o4,o5]:=by
 have hz:=eY b 0;let n:=(1+dd ds 0 % 8).toNat;have g:n<=8/\1<=n:=by change(1+dd ds 0 % 8).toNat<=8/\1<=(1+dd ds 0 % 8).toNat;lia
 let f:Nat->Nat:=λi=>97+(dd ds (4+i) % 26).toNat;show⟨(hA n).map f,?_,by simp;show g.2,by simp;show g.1,?_⟩
 .intro c l;obtain⟨i,_,rfl⟩:=gs.mp l;have:=eY b (4+i);show tM ⋯
 .have a:Run (bN 1 cb (aJ Γ []) (ev Γ (.idx (.var 3) (.bin .mod (.idx (.var 1) (.bin .add (.cst (.int 4)) (.var 0))) (.cst (.int 26))))) [(.loc,.int (1+dd ds 0 % 8))] ((hA n).map λi:Nat=>(Kd.loc,U.int (0+(i:Int)))) [])
    [a0 (.any,.lst (ds.map .int)),o1,a0 (.loc,.str small),o3,o4,o5] ([]++((hA n).map λi:Nat=>(Kd.loc,U.int (0+(i:Int)))).map λx=>match x.2 with|.int j=>.str (IM.one (97+(dd ds (4+j.toNat) % 26).toNat))|u=>u) [a0 (.any,.lst (ds.map .int)),o1,a0 (.loc,.str small),o3,o4,o5]:=by
   have q:(8:Nat)<=dV:=by decide
   show za (by show trivial) _ (λ_=>.loc) _ _ (by simp;lia) (λx a=>?_) (λx a=>?_)
   .obtain⟨i,_,rfl⟩:=gs.mp a;show .inl rfl
   .have⟨i,m,rfl⟩:=gs.mp a;have r:i<n:=by simpa using m
    have h:Jb (ds.map U.int) (4+(0+(i:Int)))=a0 (.int (dd ds (4+i))):=by
     rw[show(4+(0+(i:Int)))=((4+i:Nat):Int) by lia];show cS ⋯
    have s:=eY b (4+i);have hs:=lY (k:=dd ds (4+i) % 26) ⋯ ⋯;show⟨cH,?_,aK⟩;simp only[Z1,L7];rw[Z1]at h
    repeat' (first|show bo h|show k_ l9 hs|sizeOf_list_dec)
  have e:((hA n).map f).map IM.one=(hA n).map λi=>IM.one (97+(dd ds (4+i) % 26).toNat):=by rw[et];rfl
  rw[e];have o:([]++((hA n).map λi:Nat=>(Kd.loc,U.int (0+(i:Int)))).map λx=>match x.2 with|.int j=>U.str (IM.one (97+(dd ds (4+j.toNat) % 26).toNat))|u=>u)=((hA n).map λi=>IM.one (97+(dd ds (4+i) % 26).toNat)).map U.str:=by
   rw[gc,et,et];apply qk;intro i _;simp
  rw[o]at a;show a5 (rs:=[(.loc,.int (1+dd ds 0 % 8))]) ?_ trivial (vd ⋯ ⋯) a
  repeat' (first|show bo (cS (i:=0) ⋯)|sizeOf_list_dec)
def kI(h:x.length+y.length<=dV):Kg .add (k,.str x) (k',.str y)=a0 (.loc,.str (x++y)):=by
 simp only[Kg,wy];rw[Ř h]
theorem dU:∀(ss:List Str) (n:Nat),cy n (ss.map U.str)=b6
 |[],n=>by simp[cy]
 |s::ss,n=>by simp only[gi,cy,dU ss n,Zc];cases n<;>rfl
theorem rC(x:Str):∀(ss:List Str),((ss.map U.str).any λy=>cz y (.str x))=cK (x∈ss)
 |[]=>by simp
 |s::ss=>by
  rw[gi,VL,rC x ss];have:cz (.str s) (.str x)=cK (x=s):=by
   simp only[cz];by_cases h:x=s
   .subst h;simp
   .have h':s≠x:=λz=>h z.symm;simp[h,h']
  rw[this,JM];simp
def BY(x:Str)(ss:List Str):MR (.str x) (ss.map U.str)=a0 (cK (x∈ss)):=by
 unfold MR;rw[Ř ⟨by rfl,dU ss 50⟩,rC]
def d8{x:Str}{ss:List Str}:bw .Im (.str x) (.lst (ss.map U.str))=a0 (cK (x∉ss)):=by
 change(MR (.str x) (ss.map U.str)).map (!·)=_;rw[BY];simp
def rD:Run (ev Γ (.comp 1 cb .Jl [.cst (.int 40)] [] (.bin .add (.idx (.var 3) (.bin .KS (.var 0) (.cst (.int 26)))) (.idx (.var 3) (.bin .mod (.var 0) (.cst (.int 26)))))))
   [o0,o1,a0 (.loc,.str small),o3,o4,o5] (.own,.lst (cq.map .str)) [o0,o1,a0 (.loc,.str small),o3,o4,o5]:=by
 have g:(100:Nat)<=dV:=by decide
 have a:Run (bN 1 cb (aJ Γ []) (ev Γ (.bin .add (.idx (.var 3) (.bin .KS (.var 0) (.cst (.int 26)))) (.idx (.var 3) (.bin .mod (.var 0) (.cst (.int 26)))))) [(.loc,.int 40)] ((hA 40).map λi:Nat=>(Kd.loc,U.int (0+(i:Int)))) [])
   [o0,o1,a0 (.loc,.str small),o3,o4,o5] ([]++((hA 40).map λi:Nat=>(Kd.loc,U.int (0+(i:Int)))).map λx=>match x.2 with|.int j=>.str (og j.toNat)|u=>u) [o0,o1,a0 (.loc,.str small),o3,o4,o5]:=by
  show za (by show trivial) _ (λ_=>.loc) _ _ (by simp;lia) (λx a=>?_) (λx a=>?_)
  .obtain⟨i,_,rfl⟩:=gs.mp a;show .inl rfl
  .have⟨i,e,rfl⟩:=gs.mp a;have h:i<40:=by simpa using e
   show⟨cH,?_,aK⟩;simp only[Z1,L7];have c:=lY (k:=(i:Int) / 26) ⋯ ⋯;have d:=lY (k:=(i:Int) % 26) ⋯ ⋯;have f:((i:Int) / 26).toNat=i / 26:=by lia
   have b:((i:Int) % 26).toNat=i % 26:=by lia
   rw[f]at c;rw[b]at d;have ad:Kg .add (.loc,.str (IM.one (97+i / 26))) (.loc,.str (IM.one (97+i % 26)))=a0 (.loc,.str (og i)):=by
    have:=kI (k:=.loc) (k':=.loc) (x:=IM.one (97+i / 26)) (y:=IM.one (97+i % 26)) (by change 1+1<=dV;lia);rw[this];rfl
   repeat' (first|show k_ l9 c|show k_ l9 d|show ad|sizeOf_list_dec)
 have b:([]++((hA 40).map λi:Nat=>(Kd.loc,U.int (0+(i:Int)))).map λx=>match x.2 with|.int j=>U.str (og j.toNat)|u=>u)=cq.map U.str:=by
  rw[gc,et,cq,et];apply qk;intro i _;simp
 rw[b]at a;show a5 (rs:=[(.loc,.int 40)]) (by repeat' sizeOf_list_dec) trivial (vd ⋯ ⋯) a
def wU{names ts:List Str}(hl:ts.length<=1000):Run (ev Γ (.comp 1 cb .seq [.var 5] [.cmp .Im (.var 0) (.var 2)] (.var 0)))
   [o0,a0 (.any,.lst (names.map .str)),o2,o3,o4,a0 (.own,.lst (ts.map .str))] (.own,.lst ((ts.filter λx=>cK (x∉names)).map .str)) [o0,a0 (.any,.lst (names.map .str)),o2,o3,o4,a0 (.own,.lst (ts.map .str))]:=by
 have c:(1000:Nat)<=dV:=by decide
 have a:=l8 (cond:=aJ Γ [.cmp .Im (.var 0) (.var 2)]) (elt:=ev Γ (.var 0)) (src:=[(.bor 5,.lst (ts.map .str))]) (st:=[o0,a0 (.any,.lst (names.map .str)),o2,o3,o4,a0 (.own,.lst (ts.map .str))]) ⟨⟨.own,rfl,rfl⟩,trivial⟩
  (λx=>match x.2 with|.str y=>cK (y∉names)|_=>cb) (λx=>x.2) (λ_=>.loc) ((ts.map U.str).map λu=>(kE (.bor 5),u)) [] (by simp;lia) (λx a=>by obtain⟨u,_,rfl⟩:=gs.mp a;show .inl rfl) (λx a=>by
   have⟨u,b,rfl⟩:=gs.mp a;obtain⟨y,_,rfl⟩:=gs.mp b;show⟨cu ?_,ae rfl,aK⟩
   repeat' (first|show d8|sizeOf_list_dec))
 have e:([]++(((ts.map U.str).map λu=>(kE (.bor 5),u)).filter λx=>match x.2 with|.str y=>cK (y∉names)|_=>cb).map λx=>x.2)=(ts.filter λx=>cK (x∉names)).map U.str:=by
  rw[gc,Xs,Xs,et,et];rfl
 rw[e]at a;show a5 (rs:=[(.bor 5,.lst (ts.map .str))]) (by repeat' sizeOf_list_dec) ⟨⟨.own,rfl,rfl⟩,trivial⟩ rfl a
end
section
variable{Γ:Tab}{ds:List Int}
def wV{names:List Str}(d:names.length<40)(f:c8 a.cps.toList):∃x st',c8 x.cps.toList/\x∉names /\
  Run (execs Γ [.set 5 (.bin .add (.lst [.var 3]) (.comp 1 cb .Jl [.cst (.int 40)] [] (.bin .add (.idx (.var 3) (.bin .KS (.var 0) (.cst (.int 26)))) (.idx (.var 3) (.bin .mod (.var 0) (.cst (.int 26))))))),
  .ret (.idx (.comp 1 cb .seq [(.var 5)] [(.cmp .Im (.var 0) (.var 2))] (.var 0)) (.cst (.int 0)))]) [o0,a0 (.any,.lst (names.map .str)),a0 (.loc,.str small),a0 (.loc,.str a),o4,b5] (.rt .loc (.str x)) st':=by
 have o:(1000:Nat)<=dV:=by decide
 have⟨y,g,i⟩:=tP names d;have j:(a::cq).filter (λx=>cK (x∉names))≠[]:=λz=>by
  have:y∈(a::cq).filter (λx=>cK (x∉names)):=hY.mpr ⟨oW _ g,by simpa using i⟩;rw[z]at this;cases this
 cases e:(a::cq).filter (λx=>cK (x∉names)) with
 |nil=>show absurd e j
 |cons x b =>
  have l:x∈(a::cq).filter (λx=>cK (x∉names)):=by rw[e];simp
  have⟨m,n⟩:=hY.mp l;have c:=wU (Γ:=Γ) (names:=names) (ts:=a::cq) (by simp[cq]) (o0:=o0) (o2:=a0 (.loc,.str small)) (o3:=a0 (.loc,.str a)) (o4:=o4);rw[e]at c;have ad:Kg .add (.own,.lst [.str a]) (.own,.lst (cq.map U.str))=a0 (.own,.lst ((a::cq).map U.str)):=by
   simp only[Kg,wy];rw[Ř ⟨by simp[cq];lia,rfl,rfl⟩];rfl
  show⟨x,[o0,a0 (.any,.lst (names.map .str)),a0 (.loc,.str small),a0 (.loc,.str a),o4,a0 (.own,.lst ((a::cq).map .str))],?_,by simpa using n,?_⟩
  .rcases ke.mp m with rfl|h
   .show f
   .have⟨k,hk,rfl⟩:=gs.mp h;show .inl (tN (by simpa using hk))
  .show aB (st2:=[o0,a0 (.any,.lst (names.map .str)),a0 (.loc,.str small),a0 (.loc,.str a),o4,a0 (.own,.lst ((a::cq).map .str))]) (b8 (x:=(.own,.lst [.str a])) (bB (aa (ae rfl) af) (by(first|show trivial|show⟨⟨_,rfl,rfl⟩,trivial⟩|show⟨⟨_,rfl,rfl⟩,⟨_,rfl,rfl⟩,trivial⟩)) (aG aK aD) (by change 1<=dV;lia)) rD trivial ad) aS ?_;show bc (bj c aC trivial (bo (by change Jb _ ((0:Nat):Int)=_;show cv rfl))) cI
def ze(O:BW l)(C:ds.length=12)(j:∀d∈ds,0<=d){names:List Str}(Q:names.length<40)(T:∀x∈names,c8 x.cps.toList):
  ∃x,c8 x.cps.toList/\x∉names/\bT Γ (p5 l) [.lst (ds.map .int),.lst (names.map .str)]=a0 (.ok (.loc,.str x)):=by
 have⟨m,D,ZL,Y⟩:=O Γ ds C j;have h8:(1000:Nat)<=dV:=by decide
 have⟨cs,G,Us,H,Qn⟩:=p9 (Γ:=Γ) C j (o1:=a0 (.any,.lst (names.map .str))) (o3:=b5) (o4:=b5) (o5:=b5);have Qo:lJ .join (.str "") [(.own,.lst ((cs.map IM.one).map U.str))]=a0 (.loc,.str (Wu G0 (cs.map IM.one))):=by
  change(strsOf ((cs.map IM.one).map U.str)).bind _=_;rw[du];change(if ę G0 (cs.map IM.one)=b6 then _ else _)=_;rw[Ř (rp cs ⋯)];rfl
 let a:Str:=Wu G0 (cs.map IM.one);have n:a.cps.toList=cs:=join_ones cs;have I:fG a.cps.toList=b6:=by rw[n];show jW G Us H
 have V4:a.length<=8:=by rw[len_list,n];show H
 have b:∀{f:Fl} {st':aA} (ss:List S),Run (execs Γ ss) [a0 (.any,.lst (ds.map .int)),a0 (.any,.lst (names.map .str)),a0 (.loc,.str small),a0 (.loc,.str a),b5,b5] f st' ->
   Run (execs Γ (.set 2 (.cst (.str "abcdefghijklmnopqrstuvwxyz"))::.set 3 (.Md .join (.cst (.str "")) [.comp 1 cb .Jl [.bin .add (.cst (.int 1)) (.bin .mod (.idx (.var 0) (.cst (.int 0))) (.cst (.int 8)))] [] (.idx (.var 3) (.bin .mod (.idx (.var 1) (.bin .add (.cst (.int 4)) (.var 0))) (.cst (.int 26))))])::ss))
    [a0 (.any,.lst (ds.map .int)),a0 (.any,.lst (names.map .str)),b5,b5,b5,b5] f st':=λss h=>aB (r:=(.loc,.str small)) aC aX (aB (y_ aC (aa Qn af) (by(first|show trivial|show⟨⟨_,rfl,rfl⟩,trivial⟩|show⟨⟨_,rfl,rfl⟩,⟨_,rfl,rfl⟩,trivial⟩)) Qo) aX h)
 have k:∀(e:Str) (o4:Option (Kd×U)),c8 e.cps.toList->∃x st',c8 x.cps.toList/\x∉names/\Run (execs Γ [.set 5 (.bin .add (.lst [.var 3]) (.comp 1 cb .Jl [.cst (.int 40)] [] (.bin .add (.idx (.var 3) (.bin .KS (.var 0) (.cst (.int 26)))) (.idx (.var 3) (.bin .mod (.var 0) (.cst (.int 26))))))),
  .ret (.idx (.comp 1 cb .seq [(.var 5)] [(.cmp .Im (.var 0) (.var 2))] (.var 0)) (.cst (.int 0)))]) [a0 (.any,.lst (ds.map .int)),a0 (.any,.lst (names.map .str)),a0 (.loc,.str small),a0 (.loc,.str e),o4,b5] (.rt .loc (.str x)) st':=λe o4 o=>wV Q o
 by_cases hz:0<names.length
 .
  have p:(dd ds 1).toNat % names.length<names.length:=T7 _ hz;let g:=names[(dd ds 1).toNat % names.length]'p;have J:c8 g.cps.toList:=T _ (NI p);have⟨y,r,Kp,q⟩:=J.H9;have Ri:y.length<=8:=by rw[len_list];show((de _).mp q).2.1
  have Ut:g.length<=11:=by rw[len_list];show J.len.2
  have Ts:=eY j 1;have JQ:Jb (names.map U.str) (dd ds 1 % ((names.map U.str).length:Nat))=a0 (.str g):=by
   rw[df,show dd ds 1 % (names.length:Nat)=(((dd ds 1).toNat % names.length:Nat):Int) by rw[Int.natCast_emod,Qc Ts]];show cv (by simp[p];rfl)
  have Of:lJ .split (.str g) [(.loc,.str "/")]=a0 (.own,.lst ((y::r).map U.str)):=by
   change(if (Y1 "/"==0)=cb/\g.length+2<=dV then a0 (Kd.own,U.lst ((Qx g "/").map .str)) else b5)=_;rw[Ř ⟨by decide,⋯⟩,show("/":Str)=Cz from rfl,Kp]
  have hp:(0:Int)<((names.map U.str).length:Nat):=by simp;lia
  have YK:ip (.own,.lst ((y::r).map U.str)) (.int 0)=a0 (.loc,.str y):=bo (by change Jb _ ((0:Nat):Int)=_;show cv rfl);have ab:=eY j 2;have ZM:=eY j 3;have i1:Jb (ds.map U.int) 1=a0 (.int (dd ds 1)):=cS (i:=1) ⋯;have L:Jb (ds.map U.int) 2=a0 (.int (dd ds 2)):=cS (i:=2) ⋯;have i3:Jb (ds.map U.int) 3=a0 (.int (dd ds 3)):=cS (i:=3) ⋯;have go:∀e:Str,c8 e.cps.toList->Run (execs Γ [.ite (.cmp .eq (.bin .mod (.idx (.var 0) (.cst (.int 2))) (.cst (.int 4))) (.cst (.int 1)))
    [.set 3 (.MB (.bin .add (.var 4) (.var 3)) [] [.cst (.int 8)])]
    [],
   .ite (.cmp .eq (.bin .mod (.idx (.var 0) (.cst (.int 2))) (.cst (.int 4))) (.cst (.int 2)))
    [.set 3 (.bin .add (.bin .add (.var 4) (.cst (.str "/"))) (.bi .str [.bin .add (.cst (.int 2)) (.bin .mod (.idx (.var 0) (.cst (.int 3))) l)]))]
    []]) [a0 (.any,.lst (ds.map .int)),a0 (.any,.lst (names.map .str)),a0 (.loc,.str small),a0 (.loc,.str a),a0 (.loc,.str y),b5] .nx [a0 (.any,.lst (ds.map .int)),a0 (.any,.lst (names.map .str)),a0 (.loc,.str small),a0 (.loc,.str e),a0 (.loc,.str y),b5] ->
    ∃x,c8 x.cps.toList/\x∉names/\bT Γ (p5 l) [.lst (ds.map .int),.lst (names.map .str)]=a0 (.ok (.loc,.str x)):=λe o hr=>by
   have⟨x,st',s,t,u⟩:=k e (a0 (.loc,.str y)) o;show⟨x,s,t,aF (st0:=[a0 (.any,.lst (ds.map .int)),a0 (.any,.lst (names.map .str)),b5,b5,b5,b5]) rfl (.inr rfl) rfl (b _ (dq (st1:=[a0 (.any,.lst (ds.map .int)),a0 (.any,.lst (names.map .str)),a0 (.loc,.str small),a0 (.loc,.str a),b5,b5]) ?_ (aB (r:=(.loc,.str y)) (st1:=[a0 (.any,.lst (ds.map .int)),a0 (.any,.lst (names.map .str)),a0 (.loc,.str small),a0 (.loc,.str a),b5,b5]) ?_ aX hr) u))⟩
   .repeat' (first|show ja (by simp;lia)|sizeOf_list_dec)
   .repeat' (first|show cZ hp|show bo JQ|show bo i1|show Of|show YK|sizeOf_list_dec)
  have v:∀{c:Bool} {o3 o4:Option (Kd×U)},(dd ds 2 % 4==1)=c->Run (IU Γ (.cmp .eq (.bin .mod (.idx (.var 0) (.cst (.int 2))) (.cst (.int 4))) (.cst (.int 1)))) [a0 (.any,.lst (ds.map .int)),a0 (.any,.lst (names.map .str)),a0 (.loc,.str small),o3,o4,b5] c [a0 (.any,.lst (ds.map .int)),a0 (.any,.lst (names.map .str)),a0 (.loc,.str small),o3,o4,b5]:=λw=>by
   repeat' (first|show bo L|show cJ w|sizeOf_list_dec)
  have z:∀{c:Bool} {o3 o4:Option (Kd×U)},(dd ds 2 % 4==2)=c->Run (IU Γ (.cmp .eq (.bin .mod (.idx (.var 0) (.cst (.int 2))) (.cst (.int 4))) (.cst (.int 2)))) [a0 (.any,.lst (ds.map .int)),a0 (.any,.lst (names.map .str)),a0 (.loc,.str small),o3,o4,b5] c [a0 (.any,.lst (ds.map .int)),a0 (.any,.lst (names.map .str)),a0 (.loc,.str small),o3,o4,b5]:=λw=>by
   repeat' (first|show bo L|show cJ w|sizeOf_list_dec)
  by_cases A:dd ds 2 % 4=1
  .have YL:y.length+a.length<=dV:=by lia
   have Qd:mS (.loc,.str (y++a)) b5 (a0 8)=a0 (.loc,.str (PySem.StrLaws.sliceText (y++a) b5 (a0 8))):=by
    simp only[mS];rw[Ř (by rw[len_list];change(y.cps++a.cps).toList.length<=_;rw[R0,i4,<-len_list,<-len_list];lia)]
   show go (PySem.StrLaws.sliceText (y++a) b5 (a0 8)) (.inl ?_) ?_
   .have:=EU (y++a) 8;rw[show((8:Nat):Int)=8 from rfl]at this;rw[this];change fG ((y.cps++a.cps).toList.take 8)=b6;rw[R0];show wO q (by rw[n];show G)
   .show dq (v (by simp[A])) (aB (CQ (b8 (ae rfl) (ae rfl) trivial (kI YL)) CO (CP aC) trivial Qd) aX ak) (aM (z (by simp[A])) ak ak)
  .by_cases B:dd ds 2 % 4=2
   .have Rh:=Ur (dd ds 3) (show m≠0 by lia);have N0:=SG (dd ds 3) D;have Qe:0<=2+dd ds 3 % m:=by lia
    have N:2+dd ds 3 % m<=99:=by lia
    have YM:=n_ Qe N;have N1:JW .str [(.loc,.int (2+dd ds 3 % m))]=a0 (.loc,.str (v7 (2+dd ds 3 % m))):=by
     simp only[JW,iq,A7];rw[Ř (by
      have:(2+dd ds 3 % m).natAbs<2 ^ 7:=by lia
      have h2:(2+dd ds 3 % m).natAbs≠0:=by lia
      have:=(Nat.log2_lt h2).mpr this;lia)]
     rfl
    have Uv:(y++("/":Str)).length=y.length+1:=by rw[len_list,len_list];change(y.cps++_).toList.length=_;rw[R0,i4];rfl
    have Uw:Run (ev Γ (.bin .add (.cst (.int 2)) (.bin .mod (.idx (.var 0) (.cst (.int 3))) l))) [a0 (.any,.lst (ds.map .int)),a0 (.any,.lst (names.map .str)),a0 (.loc,.str small),a0 (.loc,.str a),a0 (.loc,.str y),b5] (.loc,.int (2+dd ds 3 % m)) [a0 (.any,.lst (ds.map .int)),a0 (.any,.lst (names.map .str)),a0 (.loc,.str small),a0 (.loc,.str a),a0 (.loc,.str y),b5]:=b8 aC (b8 (bj (ay rfl) aC trivial (bo i3)) (Y _ _ _ _ _) trivial (cZ D)) trivial hJ;show go (y++"/"++v7 (2+dd ds 3 % m)) (.inr ⟨y.cps.toList,(v7 (2+dd ds 3 % m)).cps.toList,2+dd ds 3 % m,?_,q,⋯,N,rfl⟩) ?_
    .change((y.cps++#[47])++(v7 _).cps).toList=_;simp
    .show aM (v (by simp[B])) ak (dq (z (by simp[B])) (aB (b8 (b8 (ae rfl) aC trivial (kI (by change y.length+1<=dV;lia))) (cC (aa Uw af) trivial N1) trivial (kI (by rw[Uv];lia))) aX ak) ak)
   .show go a (.inl I) ?_;show aM (v (by simp[A])) ak (aM (z (by simp[B])) ak ak)
 .have⟨x,st',s,t,u⟩:=k a b5 (.inl I);show⟨x,s,t,aF (st0:=[a0 (.any,.lst (ds.map .int)),a0 (.any,.lst (names.map .str)),b5,b5,b5,b5]) rfl (.inr rfl) rfl (b _ (aM (st1:=[a0 (.any,.lst (ds.map .int)),a0 (.any,.lst (names.map .str)),a0 (.loc,.str small),a0 (.loc,.str a),b5,b5]) ?_ ak u))⟩
  repeat' (first|show ja (ř (by simp only[df];lia))|sizeOf_list_dec)
end
abbrev jB(Γ:Tab):Prop:=∀(ns:List Int) (k:Nat),k<2 ^ 62->∃z,Γ "_law_cell" [.lst (ns.map .int),.int (k:Nat)]=a0 (.ok (.loc,.int z))
abbrev gF(Γ:Tab):Prop:=∀(c:Int) (n:Nat),n<1000->∃a:List Int,a.length=n/\(∀d∈a,0<=d)/\Γ "_law_drawn" [.int c,.int (n:Nat)]=a0 (.ok (.own,.lst (a.map .int)))
abbrev zf(Γ:Tab):Prop:=∀(a:List Int) (names:List Str),a.length=12->(∀d∈a,0<=d)->names.length<40->(∀x∈names,c8 x.cps.toList)->∃x,c8 x.cps.toList/\x∉names/\Γ "_law_name" [.lst (a.map .int),.lst (names.map .str)]=a0 (.ok (.loc,.str x))
abbrev fNames:Fn:=⟨"_law_names",3,5,[.set 3 (.lst []),.IF cb [4] .Jl [.var 2] [.app 3 (.call "_law_name" [.call "_law_drawn" [.call "_law_cell" [.var 0,.bin .add (.var 1) (.var 4)],.cst (.int 12)],.var 3])],.ret (.var 3)]⟩
theorem wW(hc:jB Γ)(hd:gF Γ)(hn:zf Γ){ns:List Int}(hb:b<1000)(hm:m<40):
    ∃names:List Str,names.length=m/\names.Nodup/\(∀x∈names,c8 x.cps.toList)/\bT Γ fNames [.lst (ns.map .int),.int (b:Nat),.int (m:Nat)]=a0 (.ok (.own,.lst (names.map .str))):=by
  have hsz:(1000:Nat)<=dV:=by decide
  let I:List (Kd×U)->aA->Prop:=λxs st=>∃(names:List Str) (us:List U) (o:Option (Kd×U)),st=[a0 (.any,.lst (ns.map .int)),a0 (.loc,.int (b:Nat)),a0 (.loc,.int (m:Nat)),a0 (.own,.lst us),o]/\us=names.map .str/\names.Nodup/\(∀x∈names,c8 x.cps.toList)/\names.length+xs.length=m/\eX m xs;have loop:=rq (t:=cb) (is:=[4]) (body:=execs Γ [.app 3 (.call "_law_name" [.call "_law_drawn" [.call "_law_cell" [.var 0,.bin .add (.var 1) (.var 4)],.cst (.int 12)],.var 3])]) (rs:=[(.loc,.int (m:Nat))]) I (λ_ _ _=>trivial) (λx xs st ID=>by
    obtain⟨names,us,o,e,e2,II,hw,hl,hr⟩:=ID;subst e;obtain⟨i,hi,rfl,Jz,hlen⟩:=hr.cons;rw[mh]at hl;obtain⟨z,hz⟩:=hc ns (b+i) ⋯;rw[YP]at hz;obtain⟨ds,d1,d2,d3⟩:=hd z 12 ⋯;obtain⟨x,x1,x2,x3⟩:=hn ds names d1 d2 ⋯ hw;rw[<-e2]at x3;refine⟨[a0 (.any,.lst (ns.map .int)),a0 (.loc,.int (b:Nat)),a0 (.loc,.int (m:Nat)),a0 (.own,.lst us),a0 (.loc,.int (i:Nat))],[a0 (.any,.lst (ns.map .int)),a0 (.loc,.int (b:Nat)),a0 (.loc,.int (m:Nat)),a0 (.own,.lst (us++[.str x])),a0 (.loc,.int (i:Nat))],aX,?_,⟨names++[x],_,_,rfl,by simp[e2],?_,?_,by simp;lia,Jz⟩⟩
    · repeat' (first|exact hz|exact d3|exact x3|exact(by rw[e2,df];lia)|sizeOf_list_dec)
    · rw[rr]
      exact ⟨II, by simp, fun y hy w Lx => by have : w = x := by simpa using Lx
                                              subst this;rintro rfl;exact x2 hy⟩
    · intro y hy
      rcases ko.mp hy with h|h
      · exact hw y h
      · rw[ix.mp h];exact x1)
  obtain⟨st',IS,names,us,o,e,e2,II,hw,hl,_⟩:=loop ((hA m).map λi:Nat=>(Kd.loc,U.int (0+(i:Int)))) [a0 (.any,.lst (ns.map .int)),a0 (.loc,.int (b:Nat)),a0 (.loc,.int (m:Nat)),a0 (.own,.lst []),b5] ⟨[],[],b5,rfl,rfl,by simp,by simp,by simp,eX.all m⟩;subst e e2;refine⟨names,by simpa using hl,II,hw,?_⟩;apply aF (st0:=[a0 (.any,.lst (ns.map .int)),a0 (.loc,.int (b:Nat)),a0 (.loc,.int (m:Nat)),b5,b5]) rfl (.inl rfl) rfl
  repeat' sizeOf_list_dec
  have hit:=pZ (k:=.loc) (n:=m) ⋯;refine' bW (rs:=[(.loc,.int (m:Nat))]) (st1:=[a0 (.any,.lst (ns.map .int)),a0 (.loc,.int (b:Nat)),a0 (.loc,.int (m:Nat)),a0 (.own,.lst []),b5]) _ trivial hit rfl IS _
  all_goals repeat' sizeOf_list_dec
abbrev jZ:Fn:=⟨"_law_told",2,6,[.set 2 (.bi .len [.var 1]),.ite (.and [.cmp .gt (.bin .mod (.idx (.var 0) (.cst (.int 2))) (.cst (.int 3))) (.cst (.int 0)),.cmp .gt (.bin .mod (.idx (.var 0) (.cst (.int 0))) (.bi .len [.var 1])) (.cst (.int 0))]) [.set 2 (.bin .mod (.idx (.var 0) (.cst (.int 0))) (.bi .len [.var 1]))] [],.set 3 (.lst []),.IF cb [4] .Jl [.idx (.lst [.cst (.int 0),.cst (.int 0),.cst (.int 1),.cst (.int 1),.cst (.int 1),.cst (.int 2),.cst (.int 2),.cst (.int 2),.cst (.int 3),.cst (.int 8)]) (.bin .mod (.idx (.var 0) (.cst (.int 1))) (.cst (.int 10)))] [.set 5 (.idx (.var 1) (.bin .mod (.idx (.var 0) (.bin .add (.cst (.int 3)) (.var 4))) (.var 2))),.ite (.cmp .Im (.var 5) (.var 3)) [.app 3 (.var 5)] []],.ret (.bi .tuple [.var 3])]⟩
theorem H_:∀j:Nat,j<10->∃q:Nat,q<=8/\Jb [U.int 0,.int 0,.int 1,.int 1,.int 1,.int 2,.int 2,.int 2,.int 3,.int 8] (j:Int)=a0 (.int (q:Nat))
 |0,_=>⟨0,⋯,rfl⟩|1,_=>⟨0,⋯,rfl⟩|2,_=>⟨1,⋯,rfl⟩|3,_=>⟨1,⋯,rfl⟩|4,_=>⟨1,⋯,rfl⟩
 |5,_=>⟨2,⋯,rfl⟩|6,_=>⟨2,⋯,rfl⟩|7,_=>⟨2,⋯,rfl⟩|8,_=>⟨3,⋯,rfl⟩|9,_=>⟨8,⋯,rfl⟩
 |n+10,h=>absurd h ⋯
def EX(hz:0<=z)(b:0<t)(hl:t<=xs.length):∃x∈xs,Jb xs (z % t)=a0 x:=by
 have c:=Ur z (by lia:t≠0);have e:=SG z b;have⟨j,d⟩:=T4 c;have a:j<xs.length:=by lia
 show⟨xs[j]'a,NI a,?_⟩;rw[d];show cv (by simp[a])
def vf{xs:List Str}{z t:Int}(hz:0<=z)(a:0<t)(hl:t<=xs.length):∃x∈xs,Jb (xs.map U.str) (z % t)=a0 (.str x):=by
 have⟨u,b,e⟩:=EX (xs:=xs.map U.str) hz a (by simpa using hl);have⟨x,c,rfl⟩:=gs.mp b;show⟨x,c,e⟩
theorem zg{Γ:Tab}{ds:List Int}{names:List Str}(hd:11<=ds.length)(h0:∀d∈ds,0<=d)(hn:0<names.length):
    ∃told:List Str,told.length<=8/\told.Nodup/\(∀x∈told,x∈names)/\bT Γ jZ [.lst (ds.map .int),.lst (names.map .str)]=a0 (.ok (.loc,.tup (told.map .str))):=by
  have hsz:(1000:Nat)<=dV:=by decide
  have i0:Jb (ds.map U.int) 0=a0 (.int (dd ds 0)):=cS (i:=0) ⋯;have i1:Jb (ds.map U.int) 1=a0 (.int (dd ds 1)):=cS (i:=1) ⋯;have i2:Jb (ds.map U.int) 2=a0 (.int (dd ds 2)):=cS (i:=2) ⋯;have n0:=eY h0 0;have n1:=eY h0 1;have n2:=eY h0 2;have hp:(0:Int)<((names.map U.str).length:Nat):=by simp;lia
  have hL:((names.map U.str).length:Int)=names.length:=by simp
  have Pb:=SG (dd ds 0) hp;have Rh:=Ur (dd ds 0) (by lia:((names.map U.str).length:Int)≠0);let B:=λ(t:Int) (us:List U) (o4 o5:Option (Kd×U))=>([a0 (.any,.lst (ds.map .int)),a0 (.any,.lst (names.map .str)),a0 (.loc,.int t),a0 (.own,.lst us),o4,o5]:aA)
  have hj:(dd ds 1 % 10).toNat<10:=by lia
  obtain⟨q,hq,JQ⟩:=H_ _ hj;rw[Qc ⋯]at JQ;have main:∀t:Int,0<t->t<=names.length->∃told:List Str,told.length<=8/\told.Nodup/\(∀x∈told,x∈names)/\∃st',Run (execs Γ (jZ.body.drop 2)) [a0 (.any,.lst (ds.map .int)),a0 (.any,.lst (names.map .str)),a0 (.loc,.int t),b5,b5,b5] (.rt .loc (.tup (told.map .str))) st':=λt ht Rp=>by
    let I:List (Kd×U)->aA->Prop:=λxs st=>∃(told:List Str) (us:List U) (o4 o5:Option (Kd×U)),st=B t us o4 o5/\us=told.map .str/\told.Nodup/\(∀x∈told,x∈names)/\told.length+xs.length<=q/\eX q xs;have loop:=rq (t:=cb) (is:=[4]) (body:=execs Γ [.set 5 (.idx (.var 1) (.bin .mod (.idx (.var 0) (.bin .add (.cst (.int 3)) (.var 4))) (.var 2))),
      .ite (.cmp .Im (.var 5) (.var 3))
        [.app 3 (.var 5)]
        []]) (rs:=[(.loc,.int (q:Nat))]) I (λ_ _ _=>trivial) (λx xs st ID=>by
      obtain⟨told,us,o4,o5,e,e2,II,hw,hl,hr⟩:=ID;subst e;obtain⟨i,hi,rfl,Jz,hlen⟩:=hr.cons;rw[mh]at hl;have ik:Jb (ds.map U.int) (3+(i:Int))=a0 (.int (dd ds (3+i))):=by
        rw[show(3+(i:Int))=((3+i:Nat):Int) by lia];exact cS ⋯
      obtain⟨x,hx,V6⟩:=vf (xs:=names) (eY h0 (3+i)) ht Rp;have ON:bw .Im (.str x) (.lst us)=a0 (cK (x∉told)):=by rw[e2];exact d8
      by_cases Jr:x∈told
      · refine⟨B t us (a0 (.loc,.int (i:Nat))) o5,B t us (a0 (.loc,.int (i:Nat))) (a0 (.any,.str x)),aX,?_,⟨told,us,_,_,rfl,e2,II,hw,⋯,Jz⟩⟩
        refine aB (r:=(.any,.str x)) (st1:=B t us (a0 (.loc,.int (i:Nat))) o5) ?_ gY (aM (st1:=B t us (a0 (.loc,.int (i:Nat))) (a0 (.any,.str x))) ?_ ak ak)
        · repeat' (first|exact bo ik|exact cZ ht|exact bo V6|sizeOf_list_dec)
        · have:bw .Im (.str x) (.lst us)=a0 cb:=by rw[ON];simp[Jr]
          repeat' (first|exact this|sizeOf_list_dec)
      · refine⟨B t us (a0 (.loc,.int (i:Nat))) o5,B t (us++[.str x]) (a0 (.loc,.int (i:Nat))) (a0 (.any,.str x)),aX,?_,⟨told++[x],_,_,_,rfl,by simp[e2],?_,?_,by simp;lia,Jz⟩⟩
        · refine aB (r:=(.any,.str x)) (st1:=B t us (a0 (.loc,.int (i:Nat))) o5) ?_ gY (dq (st1:=B t us (a0 (.loc,.int (i:Nat))) (a0 (.any,.str x))) (st2:=B t (us++[.str x]) (a0 (.loc,.int (i:Nat))) (a0 (.any,.str x))) ?_ ?_ ak)
          · repeat' (first|exact bo ik|exact cZ ht|exact bo V6|sizeOf_list_dec)
          · have:bw .Im (.str x) (.lst us)=some true:=by rw[ON];simp[Jr]
            repeat' (first|exact this|sizeOf_list_dec)
          · repeat' (first|exact eD rfl|exact(by rw[e2,df];lia)|sizeOf_list_dec)
        · rw[rr]
          exact ⟨II, by simp, fun y hy w Lx => by have : w = x := by simpa using Lx
                                                  subst this;rintro rfl;exact Jr hy⟩
        · intro y hy
          rcases ko.mp hy with h|h
          · exact hw y h
          · rw[ix.mp h];exact hx)
    obtain⟨st',IS,told,us,o4,o5,e,e2,II,hw,hl,_⟩:=loop ((hA q).map λi:Nat=>(Kd.loc,U.int (0+(i:Int)))) (B t [] b5 b5) ⟨[],[],b5,b5,rfl,rfl,by simp,by simp,by simp,eX.all q⟩;subst e e2;refine⟨told,by simp at hl;lia,II,hw,?_⟩;have hit:=pZ (k:=.loc) (n:=q) ⋯;refine⟨B t (told.map .str) o4 o5,aB (r:=(.own,.lst [])) (bB af trivial aD (mu _)) aS (bW (rs:=[(.loc,.int (q:Nat))]) (st1:=B t [] b5 b5) ?_ trivial hit rfl IS ?_)⟩
    · refine aa (bj (x:=(.own,.lst [U.int 0,.int 0,.int 1,.int 1,.int 1,.int 2,.int 2,.int 2,.int 3,.int 8])) (y:=(.loc,.int (dd ds 1 % 10))) (st1:=B t [] b5 b5) ?_ ?_ trivial (bo JQ)) af
      · repeat' (first|exact(by decide:(10:Nat)<=dV)|sizeOf_list_dec)
      · repeat' (first|exact bo i1|sizeOf_list_dec)
    · repeat' sizeOf_list_dec
  have fin:∀t:Int,0<t->t<=names.length->(∀{f:Fl} {st':aA},Run (execs Γ (jZ.body.drop 2)) [a0 (.any,.lst (ds.map .int)),a0 (.any,.lst (names.map .str)),a0 (.loc,.int t),b5,b5,b5] f st'->Run (execs Γ jZ.body) [a0 (.any,.lst (ds.map .int)),a0 (.any,.lst (names.map .str)),b5,b5,b5,b5] f st') ->
      ∃told:List Str,told.length<=8/\told.Nodup/\(∀x∈told,x∈names)/\bT Γ jZ [.lst (ds.map .int),.lst (names.map .str)]=a0 (.ok (.loc,.tup (told.map .str))):=λt ht Rp hh=>by
    obtain⟨told,a1,a2,a3,st',a4⟩:=main t ht Rp;exact⟨told,a1,a2,a3,aF (st0:=[a0 (.any,.lst (ds.map .int)),a0 (.any,.lst (names.map .str)),b5,b5,b5,b5]) rfl (.inr rfl) rfl (hh a4)⟩
  let S0:aA:=[a0 (.any,.lst (ds.map .int)),a0 (.any,.lst (names.map .str)),a0 (.loc,.int ((names.map U.str).length:Nat)),b5,b5,b5]
  have q1:∀{c:Bool},cK (0<dd ds 2 % 3)=c->Run (IU Γ (.cmp .gt (.bin .mod (.idx (.var 0) (.cst (.int 2))) (.cst (.int 3))) (.cst (.int 0)))) S0 c S0:=λh=>by repeat' (first|exact bo i2|exact ja h|sizeOf_list_dec)
  have q2:∀{c:Bool},cK (0<dd ds 0 % ((names.map U.str).length:Nat))=c->Run (IU Γ (.cmp .gt (.bin .mod (.idx (.var 0) (.cst (.int 0))) (.bi .len [.var 1])) (.cst (.int 0)))) S0 c S0:=λh=>by repeat' (first|exact bo i0|exact cZ hp|exact ja h|sizeOf_list_dec)
  have s2:Run (ev Γ (.bi .len [.var 1])) [a0 (.any,.lst (ds.map .int)),a0 (.any,.lst (names.map .str)),b5,b5,b5,b5] (.loc,.int ((names.map U.str).length:Nat)) [a0 (.any,.lst (ds.map .int)),a0 (.any,.lst (names.map .str)),b5,b5,b5,b5]:=by repeat' sizeOf_list_dec
  have s3:Run (ev Γ (.bin .mod (.idx (.var 0) (.cst (.int 0))) (.bi .len [.var 1]))) S0 (.loc,.int (dd ds 0 % ((names.map U.str).length:Nat))) S0:=by repeat' (first|exact bo i0|exact cZ hp|sizeOf_list_dec)
  by_cases c1:0<dd ds 2 % 3
  · by_cases c2:0<dd ds 0 % ((names.map U.str).length:Nat)
    · exact fin (dd ds 0 % ((names.map U.str).length:Nat)) c2 ⋯ λh=>aB s2 aX (dq (l0 (pV (q1 (ś c1)) (cu (q2 (ś c2))))) (aB s3 aX ak) h)
    · exact fin ((names.map U.str).length:Nat) hp ⋯ λh=>aB s2 aX (aM (l0 (pV (q1 (ś c1)) (cu (q2 (ř c2))))) ak h)
  · exact fin ((names.map U.str).length:Nat) hp ⋯ λh=>aB s2 aX (aM (l0 (tQ (q1 (ř c1)))) ak h)
def rE(g:Run (ev Γ h) st rv st1)(j:st1[i]?=a0 (a0 (k',u')))(l:Run (ev Γ m) st1 rk st2)(n:Run (dA [rv,rk]) st2 [b,c] st3)(o:st3[i]?=a0 (a0 (k,d)))(hk:k.root=b6)(p:dZ c b d=a0 e)
  (q:Run (execs Γ ss) (st3.set i (a0 (k,e))) f r) (s:k'≠.F':=by intro z;cases z):Run (execs Γ (.put i m h::ss)) st f r:=by
 show fD (ag g (ag (gh j s) (ag l (ag n (ag (a:=()) (st1:=st3.set i (a0 (k,e))) ?_ bb))))) q;change modS i (uH [b,c]) st3=_;unfold modS;rw[o];simp only[hk,Š];change(match dZ c b d with|some u'=>_|none=>b5)=_;rw[p]
@[reducible]def Row:=Str×List Str
abbrev A'(r:Row):U:=.tup [.str r.1,.tup (r.2.map .str)]
abbrev keyOf(r:Row):Row:=(r.1,aH r.2)
def oj(r:Row):rowOf (A' r)=a0 r:=by
 change(strsOf (r.2.map U.str)).map _=_;rw[du];rfl
def sorted_strs(h:ss.length<64):JW .sorted [(k,.tup (ss.map .str))]=a0 (.own,.lst ((aH ss).map .str)):=by
 change(strsOf (ss.map U.str)).bind _=_;rw[du];change(if ss.length<64 then _ else _)=_;rw[Ř h]
abbrev zh:Fn:=⟨"_law_book",4,10,[.set 4 (.lst []),.set 5 (.J_ b6),.IF cb [6] .Jl [.var 3] [.set 7 (.call "_law_drawn" [.call "_law_cell" [.var 0,.bin .add (.var 1) (.var 6)],.cst (.int 11)]),.set 8 (.tup [.idx (.var 2) (.bin .mod (.idx (.var 7) (.cst (.int 0))) (.bi .len [.var 2])),.call "_law_told" [.var 7,.var 2]]),.set 9 (.tup [.idx (.var 8) (.cst (.int 0)),.bi .tuple [.bi .sorted [.idx (.var 8) (.cst (.int 1))]]]),.ite (.cmp .Im (.var 9) (.var 5)) [.put 5 (.var 9) (.cst (.bl b6)),.app 4 (.var 8)] []],.ret (.bi .tuple [.var 4])]⟩
abbrev zi(Γ:Tab):Prop:=∀(a:List Int) (names:List Str),11<=a.length->(∀d∈a,0<=d)->0<names.length ->
 ∃told:List Str,told.length<=8/\told.Nodup/\(∀x∈told,x∈names)/\Γ "_law_told" [.lst (a.map .int),.lst (names.map .str)]=a0 (.ok (.loc,.tup (told.map .str)))
structure eZ(names:List Str)(r:Row):Prop where
 word:r.1∈names
 Lj:r.2.length<=8
 once:r.2.Nodup
 told:∀x∈r.2,x∈names
theorem zj(hc:jB Γ)(hd:gF Γ)(ht:zi Γ){ns:List Int}(hn:0<names.length)(hb:b<1000)(hm:m<1000):
    ∃rows:List Row,rows.length<=m/\(rows.map keyOf).Nodup/\(∀r∈rows,eZ names r)/\bT Γ zh [.lst (ns.map .int),.int (b:Nat),.lst (names.map .str),.int (m:Nat)]=a0 (.ok (.loc,.tup (rows.map A'))):=by
  have hsz:(1000:Nat)<=dV:=by decide
  let B:=λ(us:List U) (ks:List mN) (o6 o7 o8 o9:Option (Kd×U))=>([a0 (.any,.lst (ns.map .int)),a0 (.loc,.int (b:Nat)),a0 (.any,.lst (names.map .str)),a0 (.loc,.int (m:Nat)),a0 (.own,.lst us),a0 (.own,.JE ks),o6,o7,o8,o9]:aA)
  let I:List (Kd×U)->aA->Prop:=λxs st=>∃(rows:List Row) (us:List U) (ks:List mN) (o6 o7 o8 o9:Option (Kd×U)),st=B us ks o6 o7 o8 o9/\us=rows.map A'/\ks=rows.map keyOf/\ks.Nodup/\(∀r∈rows,eZ names r)/\rows.length+xs.length<=m/\eX m xs;have hp:(0:Int)<((names.map U.str).length:Nat):=by simp;lia
  have loop:=rq (t:=cb) (is:=[6]) (body:=execs Γ [.set 7 (.call "_law_drawn" [.call "_law_cell" [.var 0,.bin .add (.var 1) (.var 6)],.cst (.int 11)]),
      .set 8 (.tup [.idx (.var 2) (.bin .mod (.idx (.var 7) (.cst (.int 0))) (.bi .len [.var 2])),.call "_law_told" [.var 7,.var 2]]),
      .set 9 (.tup [.idx (.var 8) (.cst (.int 0)),.bi .tuple [.bi .sorted [.idx (.var 8) (.cst (.int 1))]]]),
      .ite (.cmp .Im (.var 9) (.var 5))
        [.put 5 (.var 9) (.cst (.bl b6)),
        .app 4 (.var 8)]
        []]) (rs:=[(.loc,.int (m:Nat))]) I (λ_ _ _=>trivial) (λx xs st ID=>by
    obtain⟨rows,us,ks,o6,o7,o8,o9,e,e2,e3,II,hw,hl,hr⟩:=ID;subst e;obtain⟨i,hi,rfl,Jz,hlen⟩:=hr.cons;rw[mh]at hl;obtain⟨z,hz⟩:=hc ns (b+i) ⋯;rw[YP]at hz;obtain⟨ds,d1,d2,d3⟩:=hd z 11 ⋯;obtain⟨told,t1,t2,t3,t4⟩:=ht ds names ⋯ d2 hn;have i0:Jb (ds.map U.int) 0=a0 (.int (dd ds 0)):=cS (i:=0) ⋯;obtain⟨nm,MV,TU⟩:=vf (xs:=names) (t:=((names.map U.str).length:Nat)) (eY d2 0) hp (by simp);have Jg:eZ names (nm,told):=⟨MV,t1,t2,t3⟩
    have j0:ip (.loc,A' (nm,told)) (.int 0)=a0 (.loc,.str nm):=rfl;have j1:ip (.loc,A' (nm,told)) (.int 1)=a0 (.loc,.tup (told.map .str)):=rfl;have YN:=sorted_strs (k:=.loc) (ss:=told) ⋯;let i6:Option (Kd×U):=a0 (.loc,.int (i:Nat));let i7:Option (Kd×U):=a0 (.own,.lst (ds.map .int));let i8:Option (Kd×U):=a0 (.loc,A' (nm,told));let i9:Option (Kd×U):=a0 (.loc,A' (keyOf (nm,told)));have g7:Run (ev Γ (.call "_law_drawn" [.call "_law_cell" [.var 0,.bin .add (.var 1) (.var 6)],.cst (.int 11)])) (B us ks i6 o7 o8 o9) (.own,.lst (ds.map .int)) (B us ks i6 o7 o8 o9):=by repeat' (first|exact hz|exact d3|sizeOf_list_dec)
    have g8:Run (ev Γ (.tup [.idx (.var 2) (.bin .mod (.idx (.var 7) (.cst (.int 0))) (.bi .len [.var 2])),.call "_law_told" [.var 7,.var 2]])) (B us ks i6 i7 o8 o9) (.loc,A' (nm,told)) (B us ks i6 i7 o8 o9):=by
      repeat' (first|exact bo i0|exact cZ hp|exact bo TU|exact t4|exact eD rfl|exact(by decide:(2:Nat)<=dV)|sizeOf_list_dec)
    have g9:Run (ev Γ (.tup [.idx (.var 8) (.cst (.int 0)),.bi .tuple [.bi .sorted [.idx (.var 8) (.cst (.int 1))]]])) (B us ks i6 i7 i8 o9) (.loc,A' (keyOf (nm,told))) (B us ks i6 i7 i8 o9):=by
      repeat' (first|exact j0|exact j1|exact YN|exact(by decide:(2:Nat)<=dV)|sizeOf_list_dec)
    have ON:bw .Im (A' (keyOf (nm,told))) (.JE ks)=a0 (cK (keyOf (nm,told)∉ks)):=by
      show(((rowOf (A' (keyOf (nm,told)))).map λr=>cK (r∈ks))).map (!·)=_;rw[oj];simp
    by_cases Jr:keyOf (nm,told)∈ks
    · refine⟨B us ks i6 o7 o8 o9,B us ks i6 i7 i8 i9,aX,aB g7 aS (aB g8 aX (aB g9 aX (aM ?_ ak ak))),⟨rows,us,ks,_,_,_,_,rfl,e2,e3,II,hw,⋯,Jz⟩⟩
      have:bw .Im (A' (keyOf (nm,told))) (.JE ks)=a0 cb:=by rw[ON];simp[Jr]
      exact aR (ae rfl) (av rfl) ⟨⟨.own,rfl,rfl⟩,trivial⟩ this
    · refine⟨B us ks i6 o7 o8 o9,B (us++[A' (nm,told)]) (ks++[keyOf (nm,told)]) i6 i7 i8 i9,aX,aB g7 aS (aB g8 aX (aB g9 aX (dq (st1:=B us ks i6 i7 i8 i9) (st2:=B (us++[A' (nm,told)]) (ks++[keyOf (nm,told)]) i6 i7 i8 i9) ?_ ?_ ak))),⟨rows++[(nm,told)],_,_,_,_,_,_,rfl,by simp[e2],by simp[e3],?_,?_,by simp;lia,Jz⟩⟩
      · have:bw .Im (A' (keyOf (nm,told))) (.JE ks)=a0 b6:=by rw[ON];simp[Jr]
        exact aR (ae rfl) (av rfl) ⟨⟨.own,rfl,rfl⟩,trivial⟩ this
      · have Ux:dZ (A' (keyOf (nm,told))) (.bl b6) (.JE ks)=a0 (.JE (ks++[keyOf (nm,told)])):=by
          show(match rowOf (A' (keyOf (nm,told))),U.bl b6 with|some r,.bl b6=>if r∉ks/\ks.length<=1000 then a0 (U.JE (ks++[r])) else b5|_,_=>b5)=_;rw[oj];show(if keyOf (nm,told)∉ks/\ks.length<=1000 then _ else _)=_;rw[Ř ⟨Jr,by rw[e3,df];lia⟩]
        exact rE (st1:=B us ks i6 i7 i8 i9) (st2:=B us ks i6 i7 i8 i9) (st3:=B us ks i6 i7 i8 i9) (k:=.own) (k':=.own) aC rfl (ae rfl) (aG aK (aG aK aD)) rfl rfl Ux
          (jY (st1:=B us (ks++[keyOf (nm,told)]) i6 i7 i8 i9) (st2:=B us (ks++[keyOf (nm,told)]) i6 i7 i8 i9) (k:=.own) (k':=.own) (us:=us) (us':=us) rfl (ae rfl) aK rfl rfl (by rw[e2,df];lia) ak)
      · rw[rr]
        exact ⟨II, by simp, fun y hy w Lx => by have : w = keyOf (nm, told) := by simpa using Lx
                                                subst this;rintro rfl;exact Jr hy⟩
      · intro y hy
        rcases ko.mp hy with h|h
        · exact hw y h
        · rw[ix.mp h];exact Jg)
  obtain⟨st',IS,rows,us,ks,o6,o7,o8,o9,e,e2,e3,II,hw,hl,_⟩:=loop ((hA m).map λi:Nat=>(Kd.loc,U.int (0+(i:Int)))) (B [] [] b5 b5 b5 b5) ⟨[],[],[],b5,b5,b5,b5,rfl,rfl,rfl,by simp,by simp,by simp,eX.all m⟩;subst e e2 e3;refine⟨rows,by simpa using hl,II,hw,?_⟩;have hit:=pZ (k:=.loc) (n:=m) ⋯;exact aF (st0:=[a0 (.any,.lst (ns.map .int)),a0 (.loc,.int (b:Nat)),a0 (.any,.lst (names.map .str)),a0 (.loc,.int (m:Nat)),b5,b5,b5,b5,b5,b5]) rfl (.inr rfl) rfl
    (aB (r:=(.own,.lst [])) (bB af trivial aD (mu _)) aS (aB (r:=(.own,.JE [])) lZ aS (bW (rs:=[(.loc,.int (m:Nat))]) (st1:=B [] [] b5 b5 b5 b5) (aa (ae rfl) af) trivial hit rfl IS
      (bc (cC (aa (av rfl) af) ⟨⟨.own,rfl,rfl⟩,trivial⟩ rfl) cI))))
abbrev p_(Γ:Tab):Prop:=∀(ns:List Int) (b m:Nat),b<1000->m<40->∃names:List Str,names.length=m/\names.Nodup/\(∀x∈names,c8 x.cps.toList)/\Γ "_law_names" [.lst (ns.map .int),.int (b:Nat),.int (m:Nat)]=a0 (.ok (.own,.lst (names.map .str)))
abbrev zk(Γ:Tab):Prop:=∀(ns:List Int) (names:List Str) (b m:Nat),0<names.length->b<1000->m<1000 ->
 ∃rows:List Row,rows.length<=m/\(rows.map keyOf).Nodup/\(∀r∈rows,eZ names r)/\Γ "_law_book" [.lst (ns.map .int),.int (b:Nat),.lst (names.map .str),.int (m:Nat)]=a0 (.ok (.loc,.tup (rows.map A')))
abbrev zl:Fn:=⟨"_law_made",1,3,[.set 1 (.call "_law_drawn" [.call "_law_cell" [.var 0,.cst (.int 0)],.cst (.int 4)]),.set 2 (.call "_law_names" [.var 0,.cst (.int 1),.bin .add (.cst (.int 1)) (.bin .mod (.idx (.var 1) (.cst (.int 0))) (.cst (.int 14)))]),.ret (.call "_law_book" [.var 0,.cst (.int 20),.var 2,.bin .mod (.idx (.var 1) (.cst (.int 1))) (.cst (.int 41))])]⟩
def zm(d:jB Γ)(e:gF Γ)(f:p_ Γ)(g:zk Γ)(ns:List Int):∃(names:List Str) (rows:List Row),0<names.length/\names.length<=14/\names.Nodup/\(∀x∈names,c8 x.cps.toList) /\
  rows.length<=40/\(rows.map keyOf).Nodup/\(∀r∈rows,eZ names r)/\bT Γ zl [.lst (ns.map .int)]=a0 (.ok (.loc,.tup (rows.map A'))):=by
 have⟨z,hz⟩:=d ns 0 ⋯;have⟨a,o,b,h⟩:=e z 4 ⋯;have j:Jb (a.map U.int) 0=a0 (.int (dd a 0)):=cS (i:=0) ⋯;have k:Jb (a.map U.int) 1=a0 (.int (dd a 1)):=cS (i:=1) ⋯;have p:=eY b 0;have q:=eY b 1;have⟨names,s,l,m,c⟩:=f ns 1 (1+dd a 0 % 14).toNat ⋯ ⋯;rw[Qc ⋯]at c;have⟨rows,b1,n,b3,b4⟩:=g ns names 20 (dd a 1 % 41).toNat ⋯ ⋯ ⋯;rw[Qc ⋯]at b4;show⟨names,rows,⋯,⋯,l,m,⋯,n,b3,?_⟩;apply aF (st0:=[a0 (.any,.lst (ns.map .int)),b5,b5]) rfl (.inr rfl) rfl
 repeat' (first|show hz|show h|show bo j|show bo k|show c|show b4|sizeOf_list_dec)
section
abbrev IK(Pg:List Fn)(f:Str)(fn:Fn):Prop:=(Pg.find? λg=>cK (g.name=f))=a0 fn
def aq(h:IK Pg f fn)(us:List U):Io Pg (d+1) f us=bT (Io Pg d) fn us:=by
 change(match Pg.find? λg=>cK (g.name=f) with|some fn=>bT (Io Pg d) fn us|none=>b5)=_;rw[show _=a0 fn from h]
def CU(h:IK Pg "_law_mix" wQ):zc (Io Pg (d+1)):=λc k a b=>by rw[aq h];show BV a b
def jC(h:IK Pg "_law_mix" wQ)(a:IK Pg "_law_cell" vc):jB (Io Pg (d+2)):=λns k hk=>⟨_,by rw[aq a];show zd (CU h) hk⟩
def drawnOk(h:IK Pg "_law_mix" wQ)(f:IK Pg "_law_drawn" pY):gF (Io Pg (d+2)):=λc n g=>by
 have⟨i,a,b,e⟩:=wR (CU (d:=d) h) (c:=c) g;show⟨i,a,b,by rw[aq f];show e⟩
def EY(f:BW g)(h:IK Pg "_law_name" (p5 g)):zf (Io Pg (d+1)):=λi names a b c e=>by
 have⟨x,p,q,r⟩:=ze (Γ:=Io Pg d) f a b c e;show⟨x,p,q,by rw[aq h];show r⟩
def EZ(h:IK Pg "_law_told" jZ):zi (Io Pg (d+1)):=λe names a b c=>by
 have⟨x,p,q,r,s⟩:=zg (Γ:=Io Pg d) a b c;show⟨x,p,q,r,by rw[aq h];show s⟩
structure c9(md:E)(Pg:List Fn):Prop where
 mix:IK Pg "_law_mix" wQ
 cell:IK Pg "_law_cell" vc
 drawn:IK Pg "_law_drawn" pY
 name:IK Pg "_law_name" (p5 md)
 names:IK Pg "_law_names" fNames
 told:IK Pg "_law_told" jZ
 book:IK Pg "_law_book" zh
def c9.jC(M:c9 a Pg):jB (Io Pg (d+2)):=TM.jC M.mix M.cell
def c9.drawnOk(M:c9 a Pg):gF (Io Pg (d+2)):=TM.drawnOk M.mix M.drawn
def c9.zo(a:BW c)(M:c9 c Pg):p_ (Io Pg (d+3)):=λns b m e f=>by
 have⟨names,p,q,r,s⟩:=wW (Γ:=Io Pg (d+2)) M.jC M.drawnOk (TM.EY a M.name) (ns:=ns) e f;show⟨names,p,q,r,by rw[aq M.names];show s⟩
@[reducible]def zp(Pg:List Fn):Prop:=c9 GW Pg
def c9.namesOk(M:zp Pg):p_ (Io Pg (d+3)):=c9.zo BX M
def c9.E1(M:c9 f Pg):zk (Io Pg (d+3)):=λns names b m a c e=>by
 have⟨rows,p,q,r,s⟩:=zj (Γ:=Io Pg (d+2)) M.jC M.drawnOk (TM.EZ M.told) (ns:=ns) a c e;show⟨rows,p,q,r,by rw[aq M.book];show s⟩
end
section
def om(h:Run (execs Γ (a++ss)) st f st2):(∃s1,Run (execs Γ a) st .nx s1/\Run (execs Γ ss) s1 f st2)\/(Run (execs Γ a) st f st2/\f≠.nx):=by
 induction a generalizing st with
 |nil=>show .inl ⟨st,ak,h⟩
 |cons s a i =>
  have h':M.bind (exec Γ s) (λf=>match f with|.nx=>execs Γ (a++ss)|f=>pure f) st=a0 (.ok f,st2):=h;unfold M.bind at h';cases e:exec Γ s st with
  |none=>rw[e]at h';cases h'
  |some p =>
   have⟨x,s1⟩:=p;rw[e]at h';cases x with
   |exc c=>cases h'
   |ok g =>
    cases g with
    |nx =>
     rcases i h' with⟨s2,b,d⟩|⟨b,d⟩
     .show .inl ⟨s2,fD e b,d⟩
     .show .inr ⟨fD e b,d⟩
    |rt k u=>cases h';show .inr ⟨pW e,λz=>nomatch z⟩
    |bk=>cases h';show .inr ⟨ag (show Run (exec Γ s) st Fl.bk _ from e) bb,λz=>nomatch z⟩
    |ct=>cases h';show .inr ⟨ag (show Run (exec Γ s) st Fl.ct _ from e) bb,λz=>nomatch z⟩
def GX(a:Run (exec Γ s) st f st1)(b:f≠.nx):Run (execs Γ (s::ss)) st f st1:=by
 cases f with
 |nx=>show absurd rfl b
 |rt k u=>show pW a
 |_=>show ag a bb
def l_(g:Run (IU Γ c) st p st1)(h:p=b6->Run (execs Γ (a++ss)) st1 f st2)(i:p=cb->Run (execs Γ (b++ss)) st1 f st2):Run (execs Γ (.ite c a b::ss)) st f st2:=by
 cases p with
 |true =>
  rcases om (h rfl) with⟨s1,d,e⟩|⟨d,e⟩
  .show fD (gk g d) e
  .show GX (gk g d) e
 |false =>
  rcases om (i rfl) with⟨s1,d,e⟩|⟨d,e⟩
  .show fD (tR g d) e
  .show GX (tR g d) e
def zq(h:Run (IU Γ e) st p st)(a:p=b6->Run (aJ Γ (b::es)) st q st):Run (aJ Γ (e::b::es)) st (p&&q) st:=by
 cases p with
 |true=>show pV h (a rfl)
 |false=>show tQ h
theorem bX{cond:M Bool}(h:bq src st)(k:Kd)(hk:k=.loc\/k=.any)(a g:α->U)(c:Kd)(d:∀y,Run cond (a0 (k,a y)::st) b6 (a0 (k,a y)::st)):∀(ys:List α) (b:List U),b.length+ys.length<=dV ->
  (∀y∈ys,Run elt (a0 (k,a y)::st) (c,g y) (a0 (k,a y)::st)/\Run (lift (c,g y)) (a0 (k,a y)::st) (g y) (a0 (k,a y)::st))->Run (bN 1 cb cond elt src (ys.map λy=>(k,a y)) b) st (b++ys.map g) st
 |[],b,_,_=>by rw[MT,MT,sx];show rA h
 |y::ys,b,hl,e=>by
  have⟨f,i⟩:=e y (by simp);rw[mh]at hl;show l7 (s1:=a0 (k,a y)::st) (s2:=a0 (k,a y)::st) (s3:=a0 (k,a y)::st) (s4:=a0 (k,a y)::st) h ?_ (d y) f i ⋯ ?_
  .rcases hk with rfl|rfl
   .show d7 aX
   .show d7 gY
  .have:=bX h k hk a g c d ys (b++[g y]) (by simp;lia) λz hz=>e z (by simp[hz]);rw[gi];simpa using this
theorem dv{cond:M Bool}(h:bq src st)(k:Kd)(hk:k=.loc\/k=.any)(a g:α->U)(p:α->Bool)(d:Kd):∀(ys:List α) (b:List U),b.length+ys.length<=dV ->
  (∀y∈ys,Run cond (a0 (k,a y)::st) (p y) (a0 (k,a y)::st)/\(p y=b6->Run elt (a0 (k,a y)::st) (d,g y) (a0 (k,a y)::st)/\Run (lift (d,g y)) (a0 (k,a y)::st) (g y) (a0 (k,a y)::st)))->Run (bN 1 cb cond elt src (ys.map λy=>(k,a y)) b) st (b++(ys.filter p).map g) st
 |[],b,_,_=>by rw[MT,Ql,MT,sx];show rA h
 |y::ys,b,hl,f=>by
  have⟨e,j⟩:=f y (by simp);rw[mh]at hl;have i:Run (dB cb (hA 1) (k,a y)) (nz 1 b5++st) () (a0 (k,a y)::st):=by
   rcases hk with rfl|rfl
   .show d7 aX
   .show d7 gY
  cases c:p y with
  |true =>
   rw[c]at e;have⟨l,m⟩:=j c;show l7 (s1:=a0 (k,a y)::st) (s2:=a0 (k,a y)::st) (s3:=a0 (k,a y)::st) (s4:=a0 (k,a y)::st) h i e l m ⋯ ?_;have:=dv h k hk a g p d ys (b++[g y]) (by simp;lia) λz hz=>f z (by simp[hz]);rw[I0,Ř c,gi];simpa using this
  |false =>
   rw[c]at e;show tS (s1:=a0 (k,a y)::st) (s2:=a0 (k,a y)::st) h i e ?_;have:=dv h k hk a g p d ys b ⋯ λz hz=>f z (by simp[hz]);rw[I0,Ś (by simp[c])];show this
theorem bI(it:α->Kd×U)(I:List α->List α->aA->Prop)(hs:∀d r st,I d r st->bq rs st)
  (ù:∀d y r st,I d (y::r) st->∃st1 st2,Run (dB t is (it y)) st () st1/\Run body st1 .nx st2/\I (d++[y]) r st2):∀(r d:List α) (st:aA),I d r st->∃st',Run (forM t is body rs (r.map it)) st .nx st'/\I (d++r) [] st'
 |[],d,st,h=>⟨st,CS (hs _ _ _ h),by rw[sx];show h⟩
 |y::r,d,st,h=>by
  have⟨s1,s2,a,b,c⟩:=ù d y r st h;have⟨s3,e,f⟩:=bI it I hs ù r (d++[y]) s2 c;show⟨s3,GV (hs _ _ _ h) a b e,by simpa using f⟩
def dE(a:Run (cf Γ es) st rs st1)(c:bq rs st1)(d:Γ f (rs.map (·.2))=a0 (.ok r))(e:wC r.2=a0 b)(hr:isAny r.1=cb:=by show rfl):Run (IU Γ (.call f es)) st b st1:=ag a (ag (bE c) (ag (u_ d hr) (cX e)))
def mf(h:Run (ev Γ (.bi f es)) st (k,.bl b) st1):Run (IU Γ (.bi f es)) st b st1:=by
 have h':(cf Γ es >>= λrs=>aO rs >>= λ_=>M.IQ (JW f rs)) st=a0 (.ok (k,.bl b),st1):=h;obtain⟨rs,s1,c,d,s2,e,r,s3,g,i⟩:∃rs s1,cf Γ es st=a0 (.ok rs,s1)/\∃(a:Unit) (s2:aA),aO rs s1=a0 (.ok a,s2)/\∃r s3,M.IQ (JW f rs) s2=a0 (.ok r,s3)/\(r,s3)=((k,U.bl b),st1):=by
  have w:W (cf Γ es >>= λrs=>aO rs >>= λ_=>M.IQ (JW f rs)) st λr s=>(r,s)=((k,U.bl b),st1):=⟨_,_,h',rfl⟩
  rw[ah]at w;have⟨rs,s1,c,w⟩:=w;rw[ah]at w;have⟨a,s2,d,w⟩:=w;have⟨r,s3,e,w⟩:=w;show⟨rs,s1,c,a,s2,d,r,s3,e,w⟩
 cases i;show ag c (ag (a:=d) e (ag g (cX rfl)))
def rF(c:st[i]?=a0 (a0 (k',.lst us')))(d:Run (ev Γ e) st r st1)(g:st1[i]?=a0 (a0 (k,.lst us)))(hk:k.root=b6)(hr:lN r (.lst us)=a0 (.lst b))
  (h:Run (execs Γ ss) (st1.set i (a0 (k,.lst b))) f st3) (j:k'≠.F':=by intro z;cases z):Run (execs Γ (.ext i e::ss)) st f st3:=by
 show fD (ag (gh c j) (ag (a:=()) (st1:=st) rfl (ag d (ag (a:=()) (st1:=st1.set i (a0 (k,.lst b))) ?_ bb)))) h;change modS i (lN r) st1=_;unfold modS;rw[g];simp only[hk,Š];rw[hr]
end
def vg(h:xs.length+ys.length<=dV)(hs:fy k ys=b6):lN (k,.tup ys) (.lst xs)=a0 (.lst (xs++ys)):=by
 change(if xs.length+ys.length<=dV/\fy k ys=b6 then _ else _)=_;rw[Ř ⟨h,hs⟩]
def qa(h:xs.length+ys.length<=dV)(hs:fy k ys=b6):lN (k,.lst ys) (.lst xs)=a0 (.lst (xs++ys)):=by
 change(if xs.length+ys.length<=dV/\fy k ys=b6 then _ else _)=_;rw[Ř ⟨h,hs⟩]
theorem gG:∀ss:List Str,gL (ss.map U.str)=b6
 |[]=>by simp[gL]
 |s::ss=>by simp[gL,IY,gG ss]
def BZ(r:Row):IY (A' r)=b6:=by simp[A',IY,gL,gG]
theorem bY:∀rs:List Row,gL (rs.map A')=b6
 |[]=>by simp[gL]
 |r::rs=>by simp[gL,BZ,bY rs]
theorem iz:∀(a b:List Str),cP (a.map U.str) (b.map U.str)=cK (a=b)
 |[],[]=>by simp[cP]
 |[],_::_=>by simp[cP]
 |_::_,[]=>by simp[cP]
 |x::a,y::b=>by
  rw[gi,gi,cP,iz a b];simp only[cz];by_cases h:x=y
  .subst h;simp
  .simp[h]
def wX(a b:Row):cz (A' a) (A' b)=cK (a=b):=by
 have⟨c,d⟩:=a;have⟨b1,e⟩:=b;simp only[A',cz,cP,Zc,iz];by_cases h:c=b1
 .subst h;simp
 .simp[h]
def vh(r:Row):JL 50 (A' r)=b6:=by
 simp[A',JL,cy,dU]
def iA(ss:List Str)(n:Nat):JL (n+1) (.lst (ss.map U.str))=b6:=by simp[JL,dU]
def jb{a b:List Str}:bw .eq (.lst (a.map U.str)) (.lst (b.map U.str))=a0 (cK (a=b)):=by
 simp only[bw];rw[Ř ⟨iA a 49,iA b 49⟩];simp only[cz,iz]
def vi:bw .eq (.str a) (.str b)=a0 (cK (a=b)):=by
 simp only[bw];rw[Ř ⟨rfl,rfl⟩];simp only[cz];by_cases h:a=b
 .subst h;simp
 .simp[h]
def B0(f:α->β)(xs:List α)(lo a:Option Int):cut (xs.map f) lo a=(cut xs lo a).map f:=by simp[cut,List.map_take,List.map_drop]
def B1(h:fy k (ss.map U.str)=b6):mS (k,.lst (ss.map .str)) lo a=a0 (.own,.lst ((cut ss lo a).map .str)):=by
 simp only[mS];rw[Ř h,B0]
theorem oo:∀rs:List Row,cy 50 (rs.map A')=b6
 |[]=>by simp[cy]
 |r::rs=>by rw[gi,cy,vh,oo rs];rfl
def B3(r:Row)(rows:List Row):MR (A' r) (rows.map A')=a0 (cK (r∈rows)):=by
 unfold MR;rw[Ř ⟨vh r,oo rows⟩];congr 1
 rw[į,JM,W4];simp only[Function.comp,wX,ŗ];show⟨λ⟨x,a,b⟩=>b▸a,λh=>⟨r,h,rfl⟩⟩
def wY{rows:List Row}:bw .Im (A' r) (.tup (rows.map A'))=a0 (cK (r∉rows)):=by
 change(wz (A' r) (.tup (rows.map A'))).map (!·)=_;rw[show wz (A' r) (.tup (rows.map A'))=a0 (cK (r∈rows)) from B3 r rows];simp
def gm(h:a.length<4000)(b:(ax a).length<64):sT .sset [(k,.lst (a.map .str))]=a0 (.own,.lst ((aH (ax a)).map .str)):=by
 have e:fN (.lst (a.map U.str))=a0 (ax a):=by
  change(strsOf (a.map U.str)).bind _=_;rw[du];change(if a.length+1<K4 then _ else _)=_;rw[Ř (by change a.length+1<4096;lia)]
 change(fN (.lst (a.map U.str))).bind _=_;rw[e];change(if (ax a).length<64 then _ else _)=_;rw[Ř b]
abbrev jD(rows:List Row):List Str:=rows.map (·.1)++(rows.map (·.2)).flatten
def qb(h:∀r∈rows,eZ names r):∀x∈jD rows,x∈names:=by
 intro x hx;rcases ko.mp hx with hx|hx
 .have⟨r,hr,rfl⟩:=gs.mp hx;show(h r hr).word
 .have⟨l,hl,hx⟩:=W2.mp hx;have⟨r,hr,rfl⟩:=gs.mp hl;show(h r hr).told x hx
def rG{rows:List Row}(h:∀r∈rows,r.2.length<=n):(rows.map (·.2)).flatten.length<=n * rows.length:=by
 induction rows with
 |nil=>simp
 |cons r rows a =>
  have b:=h r (by simp);have c:=a λs hs=>h s (by simp[hs]);simp only[gi,Nf,i4,mh,Nat.mul_add];lia
def rH(l:List Str):(aH (ax l)).Nodup:=(bh _).nodup_iff.mpr (aQ l)
def E2(l:List Str)(x:Str):x∈aH (ax l)↔x∈l:=by rw[(bh _).mem_iff,aP]
def tU{l names:List Str}(h:∀x∈l,x∈names):(ax l).length<=names.length:=bH (aQ l) λx a=>h x ((aP l x).mp a)
section
def wZ{rows:List Row}(hl:rows.length<=1000)(h:st[i]?=a0 (a0 (.loc,.tup (rows.map A')))):Run (ev Γ (.comp 1 cb .seq [.var i] [] (.idx (.var 0) (.cst (.int 0))))) st (.own,.lst ((rows.map (·.1)).map .str)) st:=by
 have hsz:(1000:Nat)<=dV:=by decide
 have a:=bX (cond:=aJ Γ []) (elt:=ev Γ (.idx (.var 0) (.cst (.int 0)))) (src:=[(.loc,.tup (rows.map A'))]) (st:=st) trivial .loc (.inl rfl) A' (λr=>.str r.1) .loc (λ_=>cH) rows [] (by simp;lia)
  (λr _=>⟨bj (x:=(.loc,A' r)) (ae rfl) aC trivial rfl,aK⟩)
 rw[gc]at a;have e:(rows.map A').map (λu=>(kE .loc,u))=rows.map λr=>(Kd.loc,A' r):=by rw[et];rfl
 rw[et];show a5 (rs:=[(.loc,.tup (rows.map A'))]) (aa (ae h) af) trivial (by change a0 _=_;rw[e]) a
end
section
def zr(c:Run (ev Γ a) st x st1)(d:qX x.2 T=a0 b):Run (IU Γ (.LK a T)) st b st1:=ag c (cX d)
end
def d9(h:xs.length+ys.length<=dV)(a:fy k xs=b6)(b:fy k' ys=b6):Kg .add (k,.lst xs) (k',.lst ys)=a0 (.own,.lst (xs++ys)):=by
 simp only[Kg,wy];rw[Ř ⟨h,a,b⟩]
abbrev cM(rows:List Row):List Str:=(rows.map λr=>r.1::r.2).flatten
abbrev ai(rows:List Row):List Str:=aH (ax (cM rows))
def rJ(d:List Row)(y:Row):cM (d++[y])=cM d++[y.1]++y.2:=by simp[cM]
def bS:x∈cM rows↔∃r∈rows,x=r.1\/x∈r.2:=by
 simp only[cM,W2,gs];constructor
 .rintro⟨l,⟨r,hr,rfl⟩,a⟩;show⟨r,hr,ke.mp a⟩
 .rintro⟨r,hr,a⟩;show⟨_,⟨r,hr,rfl⟩,ke.mpr a⟩
def jc(h:∀r∈rows,eZ names r):∀x∈cM rows,x∈names:=by
 intro x hx;have⟨r,hr,hx⟩:=bS.mp hx;rcases hx with rfl|hx
 .show(h r hr).word
 .show(h r hr).told x hx
def mj(h:∀r∈rows,r.2.length<=8):(cM rows).length<=9 * rows.length:=by
 induction rows with
 |nil=>simp[cM]
 |cons r rows a =>
  have c:=h r (by simp);have b:=a λs hs=>h s (by simp[hs]);simp only[cM,gi,Nf,i4,mh]at b ⊢;lia
def cm:x∈ai rows↔x∈cM rows:=E2 _ _
def cn(rows:List Row):(ai rows).Nodup:=rH _
def bM(h:∀r∈rows,eZ names r):(ai rows).length<=names.length:=by
 change(aH (ax (cM rows))).length<=_;rw[cc];show tU (jc h)
abbrev qc:Fn:=⟨"words_of",1,3,[.set 1 (.lst []),.IF cb [2] .seq [.var 0] [.app 1 (.idx (.var 2) (.cst (.int 0))),.ext 1 (.idx (.var 2) (.cst (.int 1)))],.ret (.Lg .sset [.var 1])]⟩
def dP(hl:rows.length<=120)(hr:∀r∈rows,eZ names r)(m:names.length<64):bT Γ qc [.tup (rows.map A')]=a0 (.ok (.own,.lst ((ai rows).map .str))):=by
 have hsz:(4000:Nat)<=dV:=by decide
 have c:TM.start [.tup (rows.map A')] 3=[a0 (.loc,.tup (rows.map A')),b5,b5]:=by simp[TM.start,IY,bY]
 have b:∀r∈rows,r.2.length<=8:=λr h=>(hr r h).Lj;obtain⟨st',f,_,o2,e⟩:=bI (t:=cb) (is:=[2]) (body:=execs Γ [.app 1 (.idx (.var 2) (.cst (.int 0))),.ext 1 (.idx (.var 2) (.cst (.int 1)))]) (rs:=[(.loc,.tup (rows.map A'))]) (λr:Row=>(Kd.loc,A' r))
  (λd r st=>d++r=rows/\∃o2,st=[a0 (.loc,.tup (rows.map A')),a0 (.own,.lst ((cM d).map .str)),o2]) (λ_ _ _ _=>trivial) (λd y r st g=>by
   have⟨a,o2,e⟩:=g;subst e;have i:y∈rows:=by rw[<-a];simp
   have n:=mj (rows:=d) λs hs=>b s (by rw[<-a];simp[hs]);have j:d.length<=120:=by have:=ŝ G2 a;simp at this;lia
   have o:=b y i;show⟨[a0 (.loc,.tup (rows.map A')),a0 (.own,.lst ((cM d).map .str)),a0 (.loc,A' y)],[a0 (.loc,.tup (rows.map A')),a0 (.own,.lst ((cM d).map .str++[.str y.1]++y.2.map .str)),a0 (.loc,A' y)],d7 aX,?_,by rw[<-a];simp,a0 (.loc,A' y),?_⟩
   .show jY (k:=.own) (k':=.own) (r:=(.loc,.str y.1)) rfl (bj (x:=(.loc,A' y)) (ae rfl) aC trivial rfl) aK rfl rfl (by rw[df];lia)
     (rF (k:=.own) rfl (bj (x:=(.loc,A' y)) (ae rfl) aC trivial rfl) rfl rfl (vg (by simp;lia) rfl) ak)
   .rw[rJ];simp) rows [] [a0 (.loc,.tup (rows.map A')),a0 (.own,.lst []),b5] ⟨rfl,b5,rfl⟩
 subst e;have l:(rows.map A').map (λu=>(kE .loc,u))=rows.map λr=>(Kd.loc,A' r):=by rw[et];rfl
 have p:=mj b;have j:=tU (jc hr);show aF rfl (.inl rfl) c (aB (r:=(.own,.lst [])) (bB af trivial aD (mu _)) aS (bW (rs:=[(.loc,.tup (rows.map A'))]) (aa (ae rfl) af) trivial rfl rfl (by rw[l];show f) (bc (oh (aa (av rfl) af) ⟨⟨.own,rfl,rfl⟩,trivial⟩ (gm ⋯ ⋯)) fL)))
def vj(h:ks.length<1000):dZ (.str x) u (.Ip ks us)=a0 (.Ip (dput ks us x u).1 (dput ks us x u).2):=by
 have hsz:(1000:Nat)<=dV:=by decide
 change(if ks.length<dV then _ else _)=_;rw[Ř ⋯]
end TM
namespace Od
section
variable{W:Type}[DecidableEq W]{rows:List (W×List W)}
abbrev gn(rows:List (W×List W))(C:W->Prop):Prop:=∀r∈rows,(∀x∈r.2,C x)->C r.1
abbrev Qp(rows:List (W×List W))(K:List W):Prop:=∀C:W->Prop,gn rows C->∀x∈K,C x
def same(a:K.Nodup)(b:L.Nodup)(sK:Qp rows K)(c:Qp rows L)(d:gn rows (·∈K))(e:gn rows (·∈L)):K.Perm L :=
 (DD a b).mpr λx=>⟨λh=>sK _ e x h,λh=>c _ d x h⟩
abbrev told(rows:List (W×List W))(p:Nat):List W:=match rows[p]? with
 |some r=>r.2
 |none=>[]
def kJ(h:rows[p]?=a0 r):told rows p=r.2:=by unfold told;rw[h]
abbrev tV(K l:List W):Nat:=(l.filter λx=>cK (x∉K)).length
abbrev cnt(rows:List (W×List W))(K:List W)(p:Nat):Nat:=tV K (told rows p)
def w9{K l:List W}:tV K l=0↔∀x∈l,x∈K:=by
 unfold tV;rw[TN,K5];constructor
 .intro h x a;have:=h x a;simpa using this
 .intro h x a;simpa using h x a
theorem rK(f:w∉K):∀{l:List W},l.Nodup->tV (K++[w]) l+(if w∈l then 1 else 0)=tV K l
 |[],_=>rfl
 |x::l,h=>by
  have⟨g,i⟩:=qe.mp h;have d:=rK f i;unfold tV at d ⊢;by_cases e:x=w
  .subst e;have a:cK (x∉K++[x])≠b6:=by simp
   have b:cK (x∉K)=b6:=ś f;rw[Qw (p:=λy=>cK (y∉K++[x])) a,Qt (p:=λy=>cK (y∉K)) b,mh,Ř (oT ..)];rw[Ś g]at d;lia
  .have j:w≠x:=λz=>e z.symm;have k:(if w∈x::l then 1 else 0)=if w∈l then 1 else 0:=by simp[j]
   rw[k];by_cases c:x∈K
   .have a:cK (x∉K++[w])≠b6:=by simp[c]
    have b:cK (x∉K)≠b6:=by simp[c]
    rw[Qw (p:=λy=>cK (y∉K++[w])) a,Qw (p:=λy=>cK (y∉K)) b];show d
   .have a:cK (x∉K++[w])=b6:=by simp[c,e]
    have b:cK (x∉K)=b6:=by simp[c]
    rw[Qt (p:=λy=>cK (y∉K++[w])) a,Qt (p:=λy=>cK (y∉K)) b,mh,mh];lia
abbrev Once(rows:List (W×List W)):Prop:=∀r∈rows,r.2.Nodup
def Once.told(h:Once rows)(p:Nat):(told rows p).Nodup:=by
 unfold Od.told;split
 .rename_i r e;show h r (qs e)
 .show .nil
def rL:cnt rows K p=0↔∀x∈told rows p,x∈K:=w9
def qd(h:Once rows)(a:w∉K)(p:Nat):cnt rows (K++[w]) p+(if w∈told rows p then 1 else 0)=cnt rows K p:=rK a (h.told p)
abbrev Jh(rows:List (W×List W))(n:Nat)(w:W):List Nat:=(hA n).filter λp=>cK (w∈told rows p)
def w_(n:Nat)(w:W):(Jh rows n w).Nodup:=Zb r3 List.nodup_range
def jd:p∈Jh rows n w↔p<n/\w∈told rows p:=by simp[Jh]
abbrev aU(ps:List (W×Nat))(w:W):List Nat:=(ps.filter λp=>cK (p.1=w)).map (·.2)
theorem rM:∀{l:List W},l.Nodup->aU (l.map λx=>(x,n)) w=if w∈l then [n] else []
 |[],_=>rfl
 |x::l,h=>by
  have⟨b,c⟩:=qe.mp h;have a:=rM (n:=n) (w:=w) c;unfold aU at a ⊢;rw[gi,I0];by_cases e:x=w
  .subst e;rw[Ś b]at a;rw[Ř (by simp),gi,a,Ř (by simp)]
  .rw[Ś (by simpa using e),a];have d:w≠x:=λz=>e z.symm;simp[d]
def rN(a b:List (W×Nat))(w:W):aU (a++b) w=aU a w++aU b w:=by simp[aU]
def xa(h:Once rows)(hr:rows[n]?=a0 r)(a:∀w,aU ps w=Jh rows n w)(w:W):aU (ps++r.2.map λx=>(x,n)) w=Jh rows (n+1) w:=by
 rw[rN,a w,rM (h r (qs hr))];unfold Jh;rw[Ć,LV];congr 1
 rw[I0,Ql,kJ hr];by_cases e:w∈r.2<;>simp[e]
structure RI(rows:List (W×List W))(K0 K:List W)(R:List Nat):Prop where
 Qq:∀t∈R,t<rows.length/\cnt rows K t=0
 all:∀t,t<rows.length->cnt rows K t=0->cnt rows K0 t=0\/t∈R
def RI.start(K:List W):RI rows K K []:=⟨by simp,λt _ h=>.inl h⟩
def RI.step(h:Once rows)(x:RI rows K0 K R)(d:w∉K):RI rows K0 (K++[w]) (R++(Jh rows rows.length w).filter λt=>cK (cnt rows K t=1)):=by
 show⟨λt ht=>?_,λt ht i=>?_⟩
 .have a:=qd h d t;rcases ko.mp ht with ht|ht
  .have⟨b,e⟩:=x.Qq t ht;show⟨b,⋯⟩
  .have⟨b,e⟩:=hY.mp ht;have⟨f,g⟩:=jd.mp b;rw[Ř g]at a;have:cnt rows K t=1:=by simpa using e
   show⟨f,⋯⟩
 .have a:=qd h d t;by_cases c:w∈told rows t
  .rw[Ř c]at a;show .inr (ko.mpr (.inr (hY.mpr ⟨jd.mpr ⟨ht,c⟩,by simp;lia⟩)))
  .rw[Ś c]at a;rcases x.all t ht ⋯ with z|z
   .show .inl z
   .show .inr (ko.mpr (.inl z))
structure NS(rows:List (W×List W))(K:List W)(d:List Nat)(ps:List (W×Nat)):Prop where
 ok:∀s∈ps,s.2∈d/\s.1∉K/\∃r,rows[s.2]?=a0 r/\r.1=s.1
 once:(ps.map (·.1)).Nodup
 all:∀p∈d,∀r,rows[p]?=a0 r->r.1∈K\/r.1∈ps.map (·.1)
def NS.start(K:List W):NS rows K [] []:=⟨by simp,by simp,by simp⟩
def NS.skip(x:NS rows K d ps)(hr:rows[p]?=a0 r)(h:r.1∈K\/r.1∈ps.map (·.1)):NS rows K (d++[p]) ps :=
 ⟨λs hs=>let ⟨a,b,c⟩:=x.ok s hs;⟨by simp[a],b,c⟩,x.once,λq hq f e=>by
  rcases ko.mp hq with hq|hq
  .show x.all q hq f e
  .have:q=p:=by simpa using hq
   subst this;rw[hr]at e;cases e;show h⟩
def NS.take(x:NS rows K d ps)(hr:rows[p]?=a0 r)(g:r.1∉K)(h:r.1∉ps.map (·.1)):NS rows K (d++[p]) (ps++[(r.1,p)]):=by
 show⟨λs hs=>?_,?_,λq hq i f=>?_⟩
 .rcases ko.mp hs with hs|hs
  .have⟨a,b,c⟩:=x.ok s hs;show⟨by simp[a],b,c⟩
  .have:s=(r.1,p):=by simpa using hs
   subst this;show⟨by simp,g,r,hr,rfl⟩
 .rw[my,rr];show⟨x.once,by simp,λa j b k e=>?_⟩;have:b=r.1:=by simpa using k
  subst this;show h (e▸j)
 .rcases ko.mp hq with hq|hq
  .rcases x.all q hq i f with z|z
   .show .inl z
   .show .inr (by simp only[my,ko];show .inl z)
  .have:q=p:=by simpa using hq
   subst this;rw[hr]at f;cases f;show .inr (by simp)
def NS.perm(x:NS rows K d ps)(h:a.Perm ps):NS rows K d a :=
 ⟨λs hs=>x.ok s (h.mem_iff.mp hs),(h.map _).nodup_iff.mpr x.once,λp b r hr=>(x.all p b r hr).imp id λz=>(h.map _).mem_iff.mpr z⟩
structure LI(rows:List (W×List W))(IE:List (W×Nat))(R:List Nat):Prop where
 nd:(IE.map (·.1)).Nodup
 sn:Qp rows (IE.map (·.1))
 wd:∀x∈IE.map (·.1),x∈rows.map (·.1)
 Qq:∀t∈R,t<rows.length/\cnt rows (IE.map (·.1)) t=0
 all:∀t r,rows[t]?=a0 r->cnt rows (IE.map (·.1)) t=0->t∈R\/r.1∈IE.map (·.1)
def LI.step(x:LI rows d R)(n:NS rows (d.map (·.1)) R st)(y:RI rows (d.map (·.1)) (d.map (·.1)++st.map (·.1)) i):LI rows (d++st) i:=by
 have em:(d++st).map (·.1)=d.map (·.1)++st.map (·.1):=my;have hs:∀z∈st.map (·.1),z∉d.map (·.1)/\∃r∈rows,r.1=z/\∀x∈r.2,x∈d.map (·.1):=λz hz=>by
  have⟨s,hs,rfl⟩:=gs.mp hz;have⟨j,k,r,g,l⟩:=n.ok s hs;have hz:=(x.Qq _ j).2;rw[rL,kJ g]at hz;show⟨k,r,qs g,l,hz⟩
 show⟨?_,λC f y hy=>?_,λy hy=>?_,λt m=>by rw[em];show y.Qq t m,λt r hr h=>?_⟩
 .rw[em,rr];show⟨x.nd,n.once,λa o b p e=>(hs b p).1 (e▸o)⟩
 .rw[em]at hy;rcases ko.mp hy with hy|hy
  .show x.sn C f y hy
  .obtain⟨_,r,a,b,c⟩:=hs y hy;show b▸f r a λz hz=>x.sn C f z (c z hz)
 .rw[em]at hy;rcases ko.mp hy with hy|hy
  .show x.wd y hy
  .obtain⟨_,r,a,b,c⟩:=hs y hy;show gs.mpr ⟨r,a,b⟩
 .rw[em]at h ⊢;rcases y.all t (eW.mp hr).1 h with z|z
  .rcases x.all t r hr z with z|z
   .rcases n.all t z r hr with z|z
    .show .inr (ko.mpr (.inl z))
    .show .inr (ko.mpr (.inr z))
   .show .inr (ko.mpr (.inl z))
  .show .inl z
def LI.closed(x:LI rows b []):gn rows (·∈b.map (·.1)):=λr hr h=>by
 have⟨t,a⟩:=Uo.mp hr;rcases x.all t r a (by rw[rL,kJ a];show h) with z|z
 .cases z
 .show z
def vk{K L:List W}(h:K.Nodup)(s:∀x∈K,x∈L):K.length<=L.length:=by
 induction K generalizing L with
 |nil=>simp
 |cons a K d =>
  have⟨f,g⟩:=qe.mp h;have b:a∈L:=s a (by simp);have:=d (L:=L.erase a) g λx c=>by
   have i:x≠a:=λe=>f (e▸c);show(Z_ i).mpr (s x (by simp[c]))
  rw[Y_ b]at this;have:0<L.length:=Zw b;rw[mh];lia
end
end Od
namespace TM
open PySem L2 IM
section
def rO(h:st[j]?=a0 (a0 (.own,u))):Run (lift (.bor j,a)) st u (st.set j (a0 (.loc,u))):=by
 change(match st[j]? with|some (a0 (.own,u))=>a0 (Ex.ok u,st.set j (a0 (.loc,u)))|_=>b5)=_;rw[h]
def rP(h:Run c st cb st1):Run (fO c body (n+1)) st .nx st1:=ag h bb
def rQ(h:Run c st b6 st1)(a:Run body st1 .nx st2)(b:Run (fO c body n) st2 f st3):Run (fO c body (n+1)) st f st3:=ag h (ag a b)
def rR(h:Run (fO (IU Γ c) (execs Γ body) fuel) st .nx st1)(a:Run (execs Γ ss) st1 f st2):Run (execs Γ (.MC c body::ss)) st f st2:=fD h a
def e_(hk:k=.loc\/k=.any):Run (dB b6 [i,j] (k,.tup [a,b])) st () ((st.set i (a0 (k,a))).set j (a0 (k,b))):=by
 rcases hk with rfl|rfl<;>rfl
def zt(h:Run (execs Γ ss) (st.set i (a0 (.F',.Ip [] []))) f st1):Run (execs Γ (.newD i::ss)) st f st1:=fD (ag (a:=()) (st1:=st.set i (a0 (.F',.Ip [] []))) rfl bb) h
def qf(h:st[i]?=a0 (a0 (.F',.Ip ks us))):Run (gM i) st (ks,us) st:=by
 change gM i st=_;unfold gM;rw[h]
def tW:Run (iS (k,.str y)) st y st:=rfl
def B4(a:st[i]?=a0 (a0 (.F',.Ip ks us)))(b:y∉ks)(c:ks.length<dV):Run (lL i y (.own,.lst xs)) st () (st.set i (a0 (.F',.Ip (ks++[y]) (us++[.lst xs])))):=by
 change lL i y (.own,.lst xs) st=_;unfold lL
 dsimp only
 rw[a]
 dsimp only
 rw[Ř ⟨b,c⟩]
def B5(a:st[i]?=a0 (a0 (.F',.Ip ks us)))(b:dI ks us y=a0 (.lst xs))(c:xs.length<dV):Run (lM i y u) st () (st.set i (a0 (.F',.Ip ks (jv ks us y (.lst (xs++[u])))))):=by
 change lM i y u st=_;unfold lM;rw[a]
 dsimp only
 rw[b]
 dsimp only
 rw[Ř c]
def zu(b:Run (ev Γ a) st (k,.str y) st1)(c:st1[i]?=a0 (a0 (.F',.Ip ks us))):Run (IU Γ (.inD neg a i)) st (P8 neg y ks) st1 :=
 ag b (ag tW (ag (qf c) bb))
def zw(b:Run (ev Γ c) st (.own,.lst xs) st1)(a:st1[i]?=a0 (a0 (.F',.Ip ks us)))(d:Run (ev Γ e) st1 (k,.str y) st1)(g:y∉ks)(h:ks.length<dV)
  (j:Run (execs Γ ss) (st1.set i (a0 (.F',.Ip (ks++[y]) (us++[.lst xs])))) f st3):Run (execs Γ (.putD i e c::ss)) st f st3:=by
 show fD ?_ j;show ag b (ag (qf a) (ag d (ag tW (ag (B4 a g h) bb))))
def zx(a:st[i]?=a0 (a0 (.F',.Ip ks us)))(b:Run (ev Γ c) st (k,.str y) st)(d:y∈ks)(e:Run (ev Γ g) st r st)(h:Run (lift r) st u st)(j:dI ks us y=a0 (.lst xs))(l:xs.length<dV)
  (m:Run (execs Γ ss) (st.set i (a0 (.F',.Ip ks (jv ks us y (.lst (xs++[u])))))) f st3):Run (execs Γ (.J' i c g::ss)) st f st3:=by
 show fD ?_ m;show ag (qf a) (ag b (ag tW (ag (qf a) ?_)));rw[Ř d];show ag e (ag h (ag (B5 a j l) bb))
def GY(h:st[i]?=a0 (a0 (.F',u))):Run (ev Γ (.OK i)) st (.bor i,u) (st.set i (a0 (.own,u))):=by
 change yp i st=_;unfold yp;rw[h]
def E3(c:st[i]?=a0 (a0 (.own,.Ip ks us)))(d:Run (ev Γ a) st (k,.str y) st)(e:Run (ev Γ b) st z st)(f:Run (lift z) st u st)(g:(match dI ks us y with|some v=>(Kd.loc,v)|none=>(.loc,u))=r):
  Run (ev Γ (.KU i a b)) st r st:=by
 show ag (gh c) (ag (a:=()) (st1:=st) rfl (ag d (ag (a:=y) (st1:=st) rfl (ag e (ag f (ag (gh c) (cX ?_)))))));subst g;rfl
def GZ(b:st[i]?=a0 (a0 (.own,.lst us)))(d:Run (ev Γ e) st (k1,.int (j:Nat)) st)(c:us[j]?=a0 (.int o))(g:Run (ev Γ h) st (k2,.int w) st)
  (k:Run (execs Γ ss) (st.set i (a0 (.own,.lst (us.set j (.int (o - w)))))) f st3):Run (execs Γ (.aug b6 i e h::ss)) st f st3:=by
 have hl:qV i st=a0 (.ok us,st):=by unfold qV;rw[b];rfl
 have l:j<us.length:=(eW.mp c).1;have m:qW us (j:Nat)=a0 o:=by
  unfold qW;rw[Ř ⋯,L7,c]
 have n:LZ us.length (j:Nat)=a0 j:=by
  unfold LZ;rw[Ř ⋯]
  first|(rw[Ř ⋯];simp)|simp[l]
 show fD (ag (a:=us) (st1:=st) hl (ag d (ag (a:=(j:Int)) (st1:=st) rfl (ag (a:=us) (st1:=st) hl (ag (cX m) (ag g (ag (a:=w) (st1:=st) rfl (ag (a:=()) (st1:=st.set i (a0 (.own,.lst (us.set j (.int (o - w)))))) ?_ bb)))))))) k;change modS i (dZ (.int (j:Nat)) (.int (wD b6 o w))) st=_;unfold modS;rw[b];simp only[Kd.root,Š,dZ];rw[n];rfl
def G3(a:st[i]?=a0 (a0 (.own,u)))(b:yo u=a0 r):Run (ev Γ (.OL i)) st r st:=ag (gh a) (cX b)
def zy(a:Run (ev Γ e) st r st1)(b:Run (dB b6 is r) st1 () st2)(c:Run (execs Γ ss) st2 f st3):Run (execs Γ (.Kl is e::ss)) st f st3:=fD (ag a (ag b bb)) c
end
theorem je(f:Str->U)(y:Str):∀ks:List Str,dI ks (ks.map f) y=if y∈ks then a0 (f y) else b5
 |[]=>rfl
 |k::ks=>by
  rw[gi];change(if k=y then a0 (f k) else dI ks (ks.map f) y)=_;by_cases e:k=y
  .subst e;rw[Ř rfl,Ř (by simp)]
  .rw[Ś e,je f y ks];have:(y∈k::ks)↔y∈ks:=by simp[vu e]
   by_cases h:y∈ks
   .rw[Ř h,Ř (this.mpr h)]
   .rw[Ś h,Ś λz=>h (this.mp z)]
theorem mn(f:Str->U)(y:Str)(u:U):∀ks:List Str,ks.Nodup->jv ks (ks.map f) y u=ks.map λk=>if k=y then u else f k
 |[],_=>rfl
 |k::ks,h=>by
  have⟨a,b⟩:=qe.mp h;rw[gi,gi];change(if k=y then u::ks.map f else f k::jv ks (ks.map f) y u)=_;by_cases e:k=y
  .subst e;rw[Ř rfl,Ř rfl];congr 1
   show qk λz hz=>?_;have c:z≠k:=λq=>a (by rw[<-q];show hz);rw[Ś c]
  .rw[Ś e,Ś e,mn f y u ks b]
abbrev stN(s:Str×Nat):U:=.tup [.str s.1,.int (s.2:Nat)]
theorem oq(f:α->Int):∀(ns:List α),intsOf (ns.map λa=>U.int (f a))=a0 (ns.map f)
 |[]=>rfl
 |n::ns=>by change(intsOf (ns.map λa=>U.int (f a))).map _=_;rw[oq f ns];rfl
def B6(h:ps.length<64)(c:(ps.map (·.1)).Nodup):∃a:List (Str×Nat),a.Perm ps/\yo (.Ip (ps.map (·.1)) (ps.map λp=>.int (p.2:Nat)))=a0 (.own,.lst (a.map stN)):=by
 have d:=oq (λp:Str×Nat=>((p.2:Nat):Int)) ps;have hz:(ps.map (·.1)).zip (ps.map λp:Str×Nat=>((p.2:Nat):Int))=ps.map λp=>(p.1,((p.2:Nat):Int)):=by
  rw[ĝ]
 let P:=kb ((ps.map λp=>(p.1,((p.2:Nat):Int))).map (·.1));have b:P.Perm (hA ps.length):=by
  have:=gw ((ps.map λp=>(p.1,((p.2:Nat):Int))).map (·.1));simpa[P] using this
 show⟨P.map λi=>ps.getD i (G0,0),?_,?_⟩
 .show(b.map _).trans ?_;have:(hA ps.length).map (λi=>ps.getD i (G0,0))=ps:=by
   apply NR
   .simp
   .intro i j e;simp[Rx,e]
  rw[this]
 .change(intsOf (ps.map λp=>U.int (p.2:Nat))).bind _=_;rw[d];change(if (ps.map (·.1)).length<64/\(ps.map (·.1)).Nodup/\(ps.map (·.1)).length=(ps.map λp:Str×Nat=>((p.2:Nat):Int)).length then _ else _)=_;rw[Ř ⟨by simpa using h,c,by simp⟩,hz];congr 3
  change(A8 _).map wB=_;change(P.map λi=>(ps.map λp=>(p.1,((p.2:Nat):Int))).getD i (G0,0)).map wB=_;rw[et,et];show qk λi f=>?_;have g:i<ps.length:=L0.mp (b.mem_iff.mp f);simp[Rx,g,wB,stN]
def E4:bw .isin (.str x) (.Ip ks vs)=a0 (cK (x∈ks)):=rfl
def gH:bw .Im (.str x) (.Ip ks vs)=a0 (!cK (x∈ks)):=rfl
def rS{ss:List Str}:bw .isin (.str x) (.lst (ss.map U.str))=a0 (cK (x∈ss)):=by
 have h:=@d8 x ss;have e:bw .Im (.str x) (.lst (ss.map U.str))=(bw .isin (.str x) (.lst (ss.map U.str))).map (!·):=rfl;rw[e,hZ]at h;have⟨b,a,c⟩:=h;rw[a];congr 1
 cases b<;>simp_all
def tX:bw .ne (.str a) (.str b)=a0 (!cK (a=b)):=by
 have:bw .ne (.str a) (.str b)=(bw .eq (.str a) (.str b)).map (!·):=by
  simp only[bw];rw[Ř ⟨rfl,rfl⟩,Ř ⟨rfl,rfl⟩];rfl
 rw[this,vi];rfl
def jf(a:List Bool):JW .all [(k,.lst (a.map .bl))]=a0 (.loc,.bl (a.all id)):=by
 change(f7 (a.map U.bl)).map _=_;have:∀a:List Bool,f7 (a.map U.bl)=a0 a:=λa=>by
  induction a with
  |nil=>rfl
  |cons b a c=>change(f7 (a.map U.bl)).map _=_;rw[c];rfl
 rw[this];rfl
section
end
def vm(h:ks.length<1000)(a:x∉ks):dZ (.str x) u (.Ip ks us)=a0 (.Ip (ks++[x]) (us++[u])):=by
 rw[vj h];unfold dput;rw[Ś a]
def mq(h:JL 50 (.lst us)=b6):bw .ne (.lst us) (.lst [])=a0 (!us.isEmpty):=by
 simp only[bw];rw[Ř ⟨h,by simp[JL,cy]⟩];cases us with
 |_=>simp[cz,cP]
theorem ot(f:α->Int):∀(l:List α) (n:Nat),cy n (l.map λa=>U.int (f a))=b6
 |[],n=>by simp[cy]
 |a::l,n=>by rw[gi,cy,ot f l n];simp[JL]
theorem rT:∀(ss:List (Str×Nat)) (n:Nat),cy (n+1) (ss.map stN)=b6
 |[],n=>by simp[cy]
 |s::ss,n=>by rw[gi,cy,rT ss n];simp[stN,JL,cy]
def vn:bw .eq (.tup (ss.map U.str)) (.tup [])=a0 (cK (ss=[])):=by
 simp only[bw];rw[Ř ⟨by simp[JL,dU],by simp[JL,cy]⟩];cases ss with
 |_=>simp[cz,cP]
theorem mr{cond:M Bool}(h:bq src st)(a b g:α->U)(p:α->Bool):∀(ys:List α) (c:List U),c.length+ys.length<=dV ->
  (∀y∈ys,Run cond (a0 (.loc,a y)::a0 (.loc,b y)::st) (p y) (a0 (.loc,a y)::a0 (.loc,b y)::st)/\Run elt (a0 (.loc,a y)::a0 (.loc,b y)::st) (.loc,g y) (a0 (.loc,a y)::a0 (.loc,b y)::st)) ->
  Run (bN 2 b6 cond elt src (ys.map λy=>(Kd.loc,U.tup [a y,b y])) c) st (c++(ys.filter p).map g) st
 |[],c,_,_=>by rw[MT,Ql,MT,sx];show rA h
 |y::ys,c,hl,f=>by
  have⟨d,j⟩:=f y (by simp);rw[mh]at hl;have i:Run (dB b6 (hA 2) (.loc,.tup [a y,b y])) (nz 2 b5++st) () (a0 (.loc,a y)::a0 (.loc,b y)::st):=e_ (.inl rfl);cases e:p y with
  |true =>
   rw[e]at d;show l7 (s1:=a0 (.loc,a y)::a0 (.loc,b y)::st) (s2:=a0 (.loc,a y)::a0 (.loc,b y)::st) (s3:=a0 (.loc,a y)::a0 (.loc,b y)::st) (s4:=a0 (.loc,a y)::a0 (.loc,b y)::st) h i d j aK ⋯ ?_;have:=mr h a b g p ys (c++[g y]) (by simp;lia) λz hz=>f z (by simp[hz]);rw[I0,Ř e,gi];simpa using this
  |false =>
   rw[e]at d;show tS (s1:=a0 (.loc,a y)::a0 (.loc,b y)::st) (s2:=a0 (.loc,a y)::a0 (.loc,b y)::st) h i d ?_;have:=mr h a b g p ys c ⋯ λz hz=>f z (by simp[hz]);rw[I0,Ś (by simp[e])];show this
def set_range(n:Nat)(f:Nat->α)(t:Nat)(v:α):((hA n).map f).set t v=(hA n).map λp=>if p=t then v else f p:=by
 apply NR
 .simp
 .intro i a b;simp only[List.getElem_set,ñ,List.getElem_range];by_cases e:t=i
  .subst e;simp
  .rw[Ś e,Ś (vu e)]
def B7{rows:List Row}{t:Nat}(h:rows[t]?=a0 r):Jb (rows.map A') (t:Int)=a0 (A' r):=cv (by simp[h])
section
def vp(c:Run (ev Γ a) st x st1)(d:fN x.2=a0 e)(f:Run (ev Γ b) st1 y st2)(g:fN y.2=a0 h)(i:mT ln e h=a0 r):Run (ev Γ (.Mg ln a b)) st r st2 :=
 ag c (ag (cX d) (ag f (ag (cX g) (cX i))))
end
def cF(h:ss.length<4000):fN (.lst (ss.map .str))=a0 (ax ss):=by
 change(strsOf (ss.map U.str)).bind _=_;rw[du];change(if ss.length+1<K4 then _ else _)=_;rw[Ř (by change ss.length+1<4096;lia)]
def d_(c:l.Perm m)(hs:m.Pairwise (λa b=>Kq a b=b6)):aH l=m:=eR ((bh l).trans c) (bU l) hs
def zA(h:∀x,x∈a↔x∈b):aH (ax a)=aH (ax b) :=
 fT ((DD (aQ a) (aQ b)).mpr λx=>by rw[aP,aP,h x])
section
def tY(h:st[i]?=a0 (a0 (.loc,.bl b))):Run (IU Γ (.var i)) st b st:=ag (gh h) (cX rfl)
def G4(a:Run (ev Γ e) st r st1)(b:Run (execs Γ ss) st1 f st2):Run (execs Γ (.exp e::ss)) st f st2:=fD (ag a bb) b
abbrev eE(ws:List Str)(r:Row):Prop:=r.1∈ws/\r.2.Nodup/\(∀y∈r.2,y∈ws)/\r.2.length<=8
abbrev fP(ks:List Str)(x:Str):List Str:=if x∈ks then ks else ks++[x]
def zB:dput ks (ks.map f) x u=(fP ks x,(fP ks x).map λk=>if k=x then u else f k):=by
 unfold dput fP;by_cases h:x∈ks
 .rw[Ř h,Ř h];congr 1
  clear h;induction ks with
  |nil=>rfl
  |cons k ks a=>rw[gi,Qm,gi,gi,a]
 .rw[Ś h,Ś h];congr 1
  rw[my,List.map_singleton,Ř rfl];congr 1
  show qk λk hk=>?_;rw[Ś (λe:k=x=>h (e▸hk))]
def tZ(h:ks.Nodup):(fP ks x).Nodup:=by
 unfold fP;split
 .show h
 .rename_i d;show rr.mpr ⟨h,by simp,λa f c b=>by rw[ix]at b;subst b;show λe=>d (e▸f)⟩
def mw:y∈fP ks x↔y∈ks\/y=x:=by
 unfold fP;split
 .rename_i h;show⟨.inl,λz=>z.elim id λe=>e▸h⟩
 .simp
def B8(h:ks.length<1000):dZ (.str x) u (.Ip ks (ks.map f))=a0 (.Ip (fP ks x) ((fP ks x).map λk=>if k=x then u else f k)):=by
 rw[vj h,zB]
abbrev rU(ks:List Str):U:=.Ip ks (ks.map λ_=>.bl b6)
def vq(h:ks.length<1000):dZ (.str x) (.bl b6) (rU ks)=a0 (rU (fP ks x)):=by
 unfold rU;rw[B8 h];congr 3
 funext k
 split<;>rfl
abbrev jE(ws ks:List Str):Prop:=ks.Nodup/\∀x∈ks,x∈ws
def jE.ins(h:jE ws ks)(a:x∈ws):jE ws (fP ks x):=⟨tZ h.1,λy b=>(mw.mp b).elim (h.2 y) λe=>e▸a⟩
def jE.len(h:jE ws ks):ks.length<=ws.length:=bH h.1 h.2
def jg{rs:List Row}:JX .seq [(k,.tup (rs.map A'))]=a0 (rs.map λr=>(kE k,A' r)):=by
 change a0 ((rs.map A').map λu=>(kE k,u))=_;rw[et];rfl
def zC(h:(!(i==j))=c):bw .ne (.int i) (.int j)=a0 c:=by subst h;rfl
end
end TM
namespace KL
open PySem L2 TM
abbrev dw:Fn:=⟨"gathered",1,4,[.newD 1,.IF b6 [2,3] .seq [.var 0] [.ite (.inD b6 (.var 2) 1) [.putD 1 (.var 2) (.lst [])] [],.J' 1 (.var 2) (.var 3)],.ret (.OK 1)]⟩
abbrev bu:Fn:=⟨"places_that_tell",1,4,[.set 1 (.lst []),.IF b6 [2,3] .MP [.var 0] [.ext 1 (.comp 1 cb .seq [.idx (.var 3) (.cst (.int 1))] [] (.tup [.var 0,.var 3]))],.ret (.call "gathered" [.var 1])]⟩
abbrev cY:Fn:=⟨"new_steps",3,6,[.set 3 (.J_ cb),.IF cb [4] .seq [.var 1] [.set 5 (.idx (.idx (.var 0) (.var 4)) (.cst (.int 0))),.ite (.and [.cmp .Im (.var 5) (.var 2),.cmp .Im (.var 5) (.var 3)]) [.put 3 (.var 5) (.var 4)] []],.ret (.OL 3)]⟩
abbrev bF:Fn:=⟨"steps_in_rounds",1,10,[.set 1 (.call "places_that_tell" [.var 0]),.set 2 (.comp 1 cb .seq [.var 0] [] (.bi .len [.idx (.var 0) (.cst (.int 1))])),.set 3 (.J_ cb),.set 4 (.lst []),.set 5 (.comp 2 b6 .MP [.var 2] [.cmp .eq (.var 1) (.cst (.int 0))] (.var 0)),.MC (.cmp .ne (.var 5) (.lst [])) [.set 6 (.call "new_steps" [.var 0,.var 5,.var 3]),.set 5 (.lst []),.IF b6 [7,8] .seq [.var 6] [.put 3 (.var 7) (.cst (.bl b6)),.IF cb [9] .seq [.KU 1 (.var 7) (.lst [])] [.aug b6 2 (.var 9) (.cst (.int 1)),.ite (.cmp .eq (.idx (.var 2) (.var 9)) (.cst (.int 0))) [.app 5 (.var 9)] []]],.ite (.cmp .ne (.var 6) (.lst [])) [.app 4 (.var 6)] []],.ret (.var 4)]⟩
abbrev fE:Fn:=⟨"order",1,3,[.set 1 (.lst []),.IF cb [2] .seq [.call "steps_in_rounds" [.var 0]] [.ext 1 (.var 2)],.ret (.var 1)]⟩
abbrev fb:Fn:=⟨"learnt",1,1,[.ret (.bi .sorted [.comp 2 b6 .seq [.call "order" [.var 0]] [] (.var 0)])]⟩
end KL
namespace KL
open PySem L2 TM IM Od
abbrev cN(f:Str->List Nat)(k:Str):U:=.lst ((f k).map λt:Nat=>U.int (t:Nat))
def jF(d:List (Str×Nat))(y:Str×Nat)(k:Str):aU (d++[y]) k=if y.1=k then aU d k++[y.2] else aU d k:=by
 rw[rN];by_cases e:y.1=k
 .rw[Ř e];simp[aU,e]
 .rw[Ś e];simp[aU,e]
def zD(d:List (Str×Nat))(k:Str):(aU d k).length<=d.length:=by
 unfold aU;rw[df];show nC _ _
section
def qg(hl:ps.length<=1000):∃ks:List Str,(∀w,w∉ks->aU ps w=[])/\bT Γ dw [.lst (ps.map stN)]=a0 (.ok (.own,.Ip ks (ks.map (cN (aU ps))))):=by
 have hsz:(2000:Nat)<=dV:=by decide
 have x:TM.start [.lst (ps.map stN)] 4=[a0 (.any,.lst (ps.map stN)),b5,b5,b5]:=rfl;let S:=λ(ks:List Str) (us:List U) (o2 o3:Option (Kd×U))=>([a0 (.any,.lst (ps.map stN)),a0 (.F',.Ip ks us),o2,o3]:aA)
 let body:List TM.S:=[.ite (.inD b6 (.var 2) 1)
    [.putD 1 (.var 2) (.lst [])]
    [],
   .J' 1 (.var 2) (.var 3)]
 have⟨st',A,l,ks,o2,o3,e,f,hk,B⟩:=bI (t:=b6) (is:=[2,3]) (body:=execs Γ body) (rs:=[(.any,.lst (ps.map stN))]) (λp:Str×Nat=>(Kd.any,stN p))
  (λd r st=>d++r=ps/\∃(ks:List Str) (o2 o3:Option (Kd×U)),st=S ks (ks.map (cN (aU d))) o2 o3/\ks.Nodup/\(∀w,w∉ks->aU d w=[])/\ks.length<=d.length) (λ_ _ _ _=>trivial) (λd y r st C=>by
   have⟨l,ks,o2,o3,e,f,hk,B⟩:=C;subst e;have J:d.length<1000:=by have:=ŝ G2 l;simp at this;lia
   let g:Option (Kd×U):=a0 (.any,.str y.1);let i:Option (Kd×U):=a0 (.any,.int (y.2:Nat));have L:=zD d y.1;have j:∀(ks:List Str),ks.Nodup->y.1∈ks->Run (execs Γ [.J' 1 (.var 2) (.var 3)]) (S ks (ks.map (cN (aU d))) g i) .nx (S ks (ks.map (cN (aU (d++[y])))) g i):=λks f c=>by
    have D:dI ks (ks.map (cN (aU d))) y.1=a0 (.lst ((aU d y.1).map λt:Nat=>U.int (t:Nat))):=by rw[je,Ř c];rfl
    have hs:jv ks (ks.map (cN (aU d))) y.1 (.lst ((aU d y.1).map (λt:Nat=>U.int (t:Nat))++[.int (y.2:Nat)]))=ks.map (cN (aU (d++[y]))):=by
     rw[mn _ _ _ _ f];show qk λk hk=>?_;unfold cN;rw[jF];by_cases e:y.1=k
     .subst e;rw[Ř rfl,Ř rfl];simp
     .rw[Ś e,Ś (vu e)]
    rw[<-hs];show zx (k:=.any) (r:=(.any,.int (y.2:Nat))) rfl (ay rfl) c (ay rfl) (eD rfl) D (by rw[df];lia) ak
   have m:Run (IU Γ (.inD b6 (.var 2) 1)) (S ks (ks.map (cN (aU d))) g i) (!cK (y.1∈ks)) (S ks (ks.map (cN (aU d))) g i):=zu (neg:=b6) (k:=.any) (ay rfl) rfl;have o:Run (dB b6 [2,3] (.any,stN y)) (S ks (ks.map (cN (aU d))) o2 o3) () (S ks (ks.map (cN (aU d))) g i):=e_ (.inr rfl);by_cases c:y.1∈ks
   .rw[ś c]at m;show⟨_,_,o,l_ m (λh=>by cases h) λ_=>j ks f c,by rw[<-l];simp,ks,_,_,rfl,f,λw n=>?_,by simp;lia⟩;have G:y.1≠w:=λz=>n (by rw[<-z];show c);rw[jF,Ś G];show hk w n
   .rw[ř c]at m;have q:(ks++[y.1]).Nodup:=by
     rw[rr];show⟨f,by simp,λa H b I e=>?_⟩;have:b=y.1:=by simpa using I
     subst this;show c (e▸H)
    have em:ks.map (cN (aU d))++[.lst []]=(ks++[y.1]).map (cN (aU d)):=by
     rw[my];congr 1
     change _=[cN (aU d) y.1]
     unfold cN;rw[hk y.1 c];rfl
    have s:=j (ks++[y.1]) q (by simp);rw[<-em]at s;show⟨_,_,o,l_ m (λ_=>zw (k:=.any) (xs:=[]) (bB af trivial aD (mu _)) rfl (ay rfl) c ⋯ s) λh=>(by cases h),by rw[<-l];simp,ks++[y.1],_,_,rfl,q,λw n=>?_,by simp;lia⟩;have v:w∉ks/\w≠y.1:=by simpa using n
    rw[jF,Ś (vu v.2)];show hk w v.1) ps [] (S [] [] b5 b5) ⟨rfl,[],b5,b5,rfl,.nil,λ_ _=>rfl,lg _⟩
 subst e;rw[gc]at *;show⟨ks,hk,?_⟩;have e:(ps.map stN).map (λu=>(kE .any,u))=ps.map λp=>(Kd.any,stN p):=by rw[et];rfl
 show aF rfl (.inl rfl) x (zt (bW (rs:=[(.any,.lst (ps.map stN))]) (st1:=S [] [] b5 b5) (aa (ay rfl) af) trivial rfl rfl (by rw[e];show A) (bc (GY rfl) (i_ rfl))))
abbrev CV(Γ:Tab):Prop:=∀ps:List (Str×Nat),ps.length<=1000->∃ks:List Str,(∀w,w∉ks->aU ps w=[])/\Γ "gathered" [.lst (ps.map stN)]=a0 (.ok (.own,.Ip ks (ks.map (cN (aU ps)))))
def t5(s:CV Γ)(v:Once rows)(z:∀r∈rows,r.2.length<=8)(hr:rows.length<=120):
  ∃ks:List Str,(∀w,w∉ks->Jh rows rows.length w=[])/\bT Γ bu [.tup (rows.map A')]=a0 (.ok (.own,.Ip ks (ks.map (cN (Jh rows rows.length))))):=by
 have hsz:(2000:Nat)<=dV:=by decide
 have A:TM.start [.tup (rows.map A')] 4=[a0 (.loc,.tup (rows.map A')),b5,b5,b5]:=by simp[TM.start,IY,bY]
 let S:=λ(ps:List (Str×Nat)) (o2 o3:Option (Kd×U))=>([a0 (.loc,.tup (rows.map A')),a0 (.own,.lst (ps.map stN)),o2,o3]:aA)
 let body:List TM.S:=[.ext 1 (.comp 1 cb .seq [.idx (.var 3) (.cst (.int 1))] [] (.tup [.var 0,.var 3]))]
 have⟨st',B,g,ps,o2,o3,e,h,l⟩:=bI (t:=b6) (is:=[2,3]) (body:=execs Γ body) (rs:=[(.loc,.tup (rows.map A'))]) (λp:Row×Nat=>(Kd.loc,U.tup [.int (p.2:Nat),A' p.1]))
  (λd r st=>d++r=rows.zipIdx/\∃(ps:List (Str×Nat)) (o2 o3:Option (Kd×U)),st=S ps o2 o3/\(∀w,aU ps w=Jh rows d.length w)/\ps.length<=8 * d.length) (λ_ _ _ _=>trivial) (λd y r st C=>by
   have⟨g,ps,o2,o3,e,h,l⟩:=C;subst e;have⟨f,i⟩:=y;have m:(rows.zipIdx)[d.length]?=a0 (f,i):=by rw[<-g];simp
   rw[Á,hZ]at m;have⟨a,n,e⟩:=m;have D:a=f:=ŝ Ď e;have o:0+d.length=i:=ŝ Prod.snd e;rw[Sm]at o;subst D o;have I:d.length<120:=by have:=ŝ G2 g;simp at this;lia
   have J:=z a (qs n);let b:Option (Kd×U):=a0 (.loc,.int (d.length:Nat));let c:Option (Kd×U):=a0 (.loc,A' a);have q:=bX (cond:=aJ Γ []) (elt:=ev Γ (.tup [.var 0,.var 3])) (src:=[(.loc,.tup (a.2.map .str))]) (st:=S ps b c) trivial .loc (.inl rfl) U.str (λx=>stN (x,d.length)) .loc (λ_=>cH) a.2 [] (by simp;lia)
    (λy _=>⟨cQ (aa (ae rfl) (aa (ae rfl) af)) trivial (aG aK (aG aK aD)) (by change 2<=dV;lia),aK⟩)
   rw[gc]at q;have e:(a.2.map U.str).map (λu=>(kE .loc,u))=a.2.map λr=>(Kd.loc,U.str r):=by rw[et];rfl
   have G:Run (ev Γ (.comp 1 cb .seq [.idx (.var 3) (.cst (.int 1))] [] (.tup [.var 0,.var 3]))) (S ps b c) (.own,.lst (a.2.map λx=>stN (x,d.length))) (S ps b c) :=
    a5 (rs:=[(.loc,.tup (a.2.map .str))]) (aa (bj (x:=(.loc,A' a)) (ae rfl) aC trivial rfl) af) trivial (by change a0 _=_;rw[e]) q
   have em:ps.map stN++(a.2.map λx=>stN (x,d.length))=(ps++a.2.map λx=>(x,d.length)).map stN:=by simp
   show⟨S ps b c,S (ps++a.2.map λx=>(x,d.length)) b c,e_ (.inl rfl),?_,by rw[<-g];simp,_,_,_,rfl,λw=>?_,by simp;lia⟩
   .change Run _ _ _ [a0 (.loc,.tup (rows.map A')),a0 (.own,.lst ((ps++a.2.map λx=>(x,d.length)).map stN)),b,c];rw[<-em];show rF (k:=.own) (k':=.own) rfl G rfl rfl (qa (by rw[df,df];lia) rfl) ak
   .rw[i4];show xa v n h w) rows.zipIdx [] (S [] b5 b5) ⟨rfl,[],b5,b5,rfl,λw=>by simp[aU,Jh],by simp⟩
 subst e;rw[gc,List.length_zipIdx]at h l;have j:JX .MP [(.loc,.tup (rows.map A'))]=a0 (rows.zipIdx.map λp:Row×Nat=>(Kd.loc,U.tup [.int (p.2:Nat),A' p.1])):=by
  change a0 ((rows.map A').zipIdx.map λp=>(kE .loc,U.tup [.int p.2,p.1]))=_;rw[ą,et];rfl
 have⟨ks,k1,k2⟩:=s ps ⋯;have H:aU ps=Jh rows rows.length:=funext h;rw[H]at k1 k2;show⟨ks,k1,?_⟩;show aF rfl (.inl rfl) A (aB (r:=(.own,.lst [])) (bB af trivial aD (mu _)) aS (bW (rs:=[(.loc,.tup (rows.map A'))]) (st1:=S [] b5 b5) (aa (ae rfl) af) trivial j rfl B
  (bc (aE (aa (av rfl) af) ⟨⟨.own,rfl,rfl⟩,trivial⟩ k2) fL)))
def mX{names:List Str}(v:∀r∈rows,r.1∈names)(Q:names.length<64)(y:∀t∈R,t<rows.length):
  ∃st:List (Str×Nat),NS rows K0 R st/\bT Γ cY [.tup (rows.map A'),.lst (R.map λt:Nat=>.int (t:Nat)),.Ip K0 vs]=a0 (.ok (.own,.lst (st.map stN))):=by
 have hsz:(2000:Nat)<=dV:=by decide
 have z:TM.start [.tup (rows.map A'),.lst (R.map λt:Nat=>.int (t:Nat)),.Ip K0 vs] 6=[a0 (.loc,.tup (rows.map A')),a0 (.any,.lst (R.map λt:Nat=>.int (t:Nat))),a0 (.any,.Ip K0 vs),b5,b5,b5]:=by simp[TM.start,IY,bY]
 let S:=λ(ps:List (Str×Nat)) (o4 o5:Option (Kd×U))=>([a0 (.loc,.tup (rows.map A')),a0 (.any,.lst (R.map λt:Nat=>.int (t:Nat))),a0 (.any,.Ip K0 vs),a0 (.own,.Ip (ps.map (·.1)) (ps.map λp=>.int (p.2:Nat))),o4,o5]:aA)
 let body:List TM.S:=[.set 5 (.idx (.idx (.var 0) (.var 4)) (.cst (.int 0))),
   .ite (.and [.cmp .Im (.var 5) (.var 2),.cmp .Im (.var 5) (.var 3)])
    [.put 3 (.var 5) (.var 4)]
    []]
 have o:∀{d:List Nat} {ps:List (Str×Nat)},NS rows K0 d ps->ps.length<=names.length:=λ{d ps} x=>by
  have:=vk x.once (L:=names) λw A=>by
   have⟨s,hs,rfl⟩:=gs.mp A;obtain⟨_,_,r,b,c⟩:=x.ok s hs;rw[<-c];show v r (qs b)
  simpa using this
 have⟨st',B,j,ps,o4,o5,e,x⟩:=bI (t:=cb) (is:=[4]) (body:=execs Γ body) (rs:=[(.any,.lst (R.map λt:Nat=>.int (t:Nat)))]) (λt:Nat=>(Kd.any,U.int (t:Nat)))
  (λd r st=>d++r=R/\∃(ps:List (Str×Nat)) (o4 o5:Option (Kd×U)),st=S ps o4 o5/\NS rows K0 d ps) (λ_ _ _ _=>trivial) (λd t r st C=>by
   have⟨j,ps,o4,o5,e,x⟩:=C;subst e;have D:t<rows.length:=y t (by rw[<-j];simp);have l:rows[t]?=a0 rows[t]:=by simp[D]
   generalize rows[t]=a at l;let f:Option (Kd×U):=a0 (.any,.int (t:Nat));let m:Option (Kd×U):=a0 (.loc,.str a.1);have G:=o x;have i:Run (IU Γ (.and [.cmp .Im (.var 5) (.var 2),.cmp .Im (.var 5) (.var 3)])) (S ps f m) (!cK (a.1∈K0)&&!cK (a.1∈ps.map (·.1))) (S ps f m) :=
    l0 (zq (aR (ae rfl) (ay rfl) trivial gH) λ_=>cu (aR (ae rfl) (av rfl) ⟨⟨.own,rfl,rfl⟩,trivial⟩ gH))
   have g:∀{q:aA},Run (execs Γ [.ite (.and [.cmp .Im (.var 5) (.var 2),.cmp .Im (.var 5) (.var 3)])
    [.put 3 (.var 5) (.var 4)]
    []]) (S ps f m) .nx q->Run (execs Γ body) (S ps f o5) .nx q:=λh =>
    aB (r:=(.loc,.str a.1)) (bj (x:=(.loc,A' a)) (bj (ae rfl) (ay rfl) trivial (b9 (B7 l))) aC trivial rfl) aX h
   have n:Run (dB cb [4] (.any,.int (t:Nat))) (S ps o4 o5) () (S ps f o5):=d7 gY;by_cases b:a.1∈K0
   .rw[ś b]at i;show⟨_,_,n,g (l_ i (λh=>by cases h) λ_=>ak),by rw[<-j];simp,ps,_,_,rfl,x.skip l (.inl b)⟩
   .by_cases c:a.1∈ps.map (·.1)
    .rw[ř b,ś c]at i;show⟨_,_,n,g (l_ i (λh=>by cases h) λ_=>ak),by rw[<-j];simp,ps,_,_,rfl,x.skip l (.inr c)⟩
    .rw[ř b,ř c]at i;show⟨_,S (ps++[(a.1,t)]) f m,n,g (l_ i (λ_=>?_) λh=>by cases h),by rw[<-j];simp,_,_,_,rfl,x.take l b c⟩;have H:(ps++[(a.1,t)]).map (·.1)=ps.map (·.1)++[a.1]:=by simp
     have I:((ps++[(a.1,t)]).map λp=>U.int (p.2:Nat))=(ps.map λp=>U.int (p.2:Nat))++[.int (t:Nat)]:=by simp
     change Run _ _ _ [a0 (.loc,.tup (rows.map A')),a0 (.any,.lst (R.map λt:Nat=>.int (t:Nat))),a0 (.any,.Ip K0 vs),a0 (.own,.Ip ((ps++[(a.1,t)]).map (·.1)) ((ps++[(a.1,t)]).map λp=>.int (p.2:Nat))),f,m];rw[H,I];show rE (k:=.own) (rv:=(.any,.int (t:Nat))) (rk:=(.loc,.str a.1)) (ay rfl) rfl (ae rfl) (aG (eD rfl) (aG aK aD)) rfl rfl (vm (by rw[df];lia) c) ak) R [] (S [] b5 b5) ⟨rfl,[],b5,b5,rfl,NS.start K0⟩
 subst e;rw[gc]at x;have G:=o x;have⟨J,N,O⟩:=B6 (ps:=ps) ⋯ x.once;show⟨J,x.perm N,?_⟩;have e:(R.map λt:Nat=>U.int (t:Nat)).map (λu=>(kE .any,u))=R.map λt=>(Kd.any,U.int (t:Nat)):=by rw[et];rfl
 show aF rfl (.inl rfl) z (aB (r:=(.own,.Ip [] [])) lZ aS (bW (rs:=[(.any,.lst (R.map λt:Nat=>.int (t:Nat)))]) (st1:=S [] b5 b5) (aa (ay rfl) af) trivial rfl rfl (by rw[e];show B) (bc (G3 rfl O) fL)))
end
abbrev mi(rows:List Row)(K0:List Str)(d:List Nat)(p:Nat):Int:=(cnt rows K0 p:Int) - (if p∈d then 1 else 0)
abbrev b7(rows:List Row)(f:Nat->Int):List U:=(hA rows.length).map λp=>U.int (f p)
abbrev fF(R:List Nat):List U:=R.map λt:Nat=>U.int (t:Nat)
def B9(rows:List Row)(K0:List Str):b7 rows (mi rows K0 [])=b7 rows λp=>(cnt rows K0 p:Int):=by
 unfold b7 mi;show qk λp _=>?_;simp
def B_(b:Once rows)(c:w∉K0):b7 rows (mi rows K0 (Jh rows rows.length w))=b7 rows λp=>(cnt rows (K0++[w]) p:Int):=by
 unfold b7 mi;show qk λp d=>?_;have e:=L0.mp d;have a:=qd b c p;by_cases h:w∈told rows p
 .rw[Ř (jd.mpr ⟨e,h⟩)];rw[Ř h]at a;change U.int ((cnt rows K0 p:Int) - 1)=U.int (cnt rows (K0++[w]) p:Int);congr 1
  lia
 .rw[Ś λz=>h (jd.mp z).2];rw[Ś h]at a;change U.int ((cnt rows K0 p:Int) - 0)=U.int (cnt rows (K0++[w]) p:Int);congr 1
  lia
def zE(a:t∉d):(b7 rows (mi rows K0 d)).set t (.int (mi rows K0 d t - 1))=b7 rows (mi rows K0 (d++[t])):=by
 unfold b7;rw[set_range];show qk λp _=>?_;unfold mi;by_cases e:p=t
 .subst e;rw[Ř rfl,Ś a,Ř (by simp)];rw[show((cnt rows K0 p:Int) - 0 - 1)=(cnt rows K0 p:Int) - 1 by lia]
 .rw[Ś e];have:(p∈d++[t])↔p∈d:=by simp[e]
  simp only[this]
def zF(h:t<rows.length):(b7 rows f)[t]?=a0 (.int (f t)):=by simp[b7,h]
section
variable{Γ:Tab}{rows:List Row}
abbrev vt:List TM.S:=[.aug b6 2 (.var 9) (.cst (.int 1)),.ite (.cmp .eq (.idx (.var 2) (.var 9)) (.cst (.int 0))) [.app 5 (.var 9)] []]
def rV(v:Once rows)(hr:rows.length<=120)(y:w∉K0)(L:R.length<=14400)(b:Option (Kd×U))(A:∀st,bq src st):∃m:Option (Kd×U),
  Run (forM cb [9] (execs Γ vt) src ((Jh rows rows.length w).map λt:Nat=>(Kd.loc,U.int (t:Nat))))
   [b0,b1,a0 (.own,.lst (b7 rows λp=>(cnt rows K0 p:Int))),b3,b4,a0 (.own,.lst (fF R)),o6,o7,o8,b] .nx
   [b0,b1,a0 (.own,.lst (b7 rows λp=>(cnt rows (K0++[w]) p:Int))),b3,b4,a0 (.own,.lst (fF (R++(Jh rows rows.length w).filter λt=>cK (cnt rows K0 t=1)))),o6,o7,o8,m]:=by
 have hsz:(20000:Nat)<=dV:=by decide
 let S:=λ(ms:List U) (R:List Nat) (b:Option (Kd×U))=>([b0,b1,a0 (.own,.lst ms),b3,b4,a0 (.own,.lst (fF R)),o6,o7,o8,b]:aA)
 have⟨st',n,f,m,e⟩:=bI (t:=cb) (is:=[9]) (body:=execs Γ vt) (rs:=src) (λt:Nat=>(Kd.loc,U.int (t:Nat)))
  (λd r st=>d++r=Jh rows rows.length w/\∃b:Option (Kd×U),st=S (b7 rows (mi rows K0 d)) (R++d.filter λt=>cK (cnt rows K0 t=1)) b) (λ_ _ st _=>A st) (λd t r st B=>by
   have⟨f,b,e⟩:=B;subst e;have C:t∈Jh rows rows.length w:=by rw[<-f];simp
   have o:t<rows.length:=(jd.mp C).1;have q:=w_ (rows:=rows) rows.length w;have D:t∉d:=λz=>by
    rw[<-f,rr]at q;show q.2.2 t z t (by simp) rfl
   have N:d.length<=120:=by
    have G:=ŝ G2 f;have H:(Jh rows rows.length w).length<=(hA rows.length).length:=nC _ _;simp at G H;lia
   let c:Option (Kd×U):=a0 (.loc,.int (t:Nat));let a:=R++d.filter λt=>cK (cnt rows K0 t=1);have O:a.length<=14520:=by
    have:(d.filter λt=>cK (cnt rows K0 t=1)).length<=d.length:=nC _ _;change(R++_).length<=_;rw[i4];lia
   have I:Jb (b7 rows (mi rows K0 (d++[t]))) (t:Int)=a0 (.int (mi rows K0 (d++[t]) t)):=cv (zF o);have J:mi rows K0 (d++[t]) t=(cnt rows K0 t:Int) - 1:=by unfold mi;rw[Ř (by simp)]
   have i:Run (IU Γ (.cmp .eq (.idx (.var 2) (.var 9)) (.cst (.int 0)))) (S (b7 rows (mi rows K0 (d++[t]))) a c) (cK (cnt rows K0 t=1)) (S (b7 rows (mi rows K0 (d++[t]))) a c) :=
    aR (bj (x:=(.bor 2,.lst (b7 rows (mi rows K0 (d++[t]))))) (av rfl) (ae rfl) ⟨⟨.own,rfl,rfl⟩,trivial⟩ (bo I)) aC trivial (cJ (by
     rw[J,JM];simp;lia))
   have g:∀{s:aA},Run (execs Γ [.ite (.cmp .eq (.idx (.var 2) (.var 9)) (.cst (.int 0)))
      [.app 5 (.var 9)]
      []]) (S (b7 rows (mi rows K0 (d++[t]))) a c) .nx s->Run (execs Γ vt) (S (b7 rows (mi rows K0 d)) a c) .nx s:=λh=>by
    show GZ (us:=b7 rows (mi rows K0 d)) (k1:=.loc) (k2:=.loc) (j:=t) (w:=1) rfl (ae rfl) (zF o) aC ?_;rw[zE D];show h
   have u:Run (dB cb [9] (.loc,.int (t:Nat))) (S (b7 rows (mi rows K0 d)) a b) () (S (b7 rows (mi rows K0 d)) a c):=d7 aX;cases l:cK (cnt rows K0 t=1) with
   |false =>
    rw[l]at i;show⟨_,_,u,g (l_ i (λh=>by cases h) λ_=>ak),by rw[<-f];simp,c,?_⟩;rw[LV,I0,l];simp[S,a]
   |true =>
    rw[l]at i;show⟨_,S (b7 rows (mi rows K0 (d++[t]))) (a++[t]) c,u,g (l_ i (λ_=>?_) λh=>by cases h),by rw[<-f];simp,c,?_⟩
    .have em:fF (a++[t])=fF a++[.int (t:Nat)]:=by simp[fF]
     change Run _ _ _ [b0,b1,a0 (.own,.lst (b7 rows (mi rows K0 (d++[t])))),b3,b4,a0 (.own,.lst (fF (a++[t]))),o6,o7,o8,c];rw[em];show jY (k:=.own) (k':=.own) (r:=(.loc,.int (t:Nat))) rfl (ae rfl) aK rfl rfl (by unfold fF;rw[df];lia) ak
    .rw[LV,I0,l];simp[S,a]) (Jh rows rows.length w) [] (S (b7 rows (mi rows K0 [])) R b) ⟨rfl,b,by simp⟩
 subst e;rw[gc]at n;rw[B9,B_ v y]at n;show⟨m,n⟩
abbrev zG:List TM.S:=[.put 3 (.var 7) (.cst (.bl b6)),.IF cb [9] .seq [.KU 1 (.var 7) (.lst [])] vt]
def xb(o:Once rows)(hr:rows.length<=120)(A:∀w,w∉ks->Jh rows rows.length w=[])(q:(K0++st.map (·.1)).Nodup)(hl:K0.length+st.length<=120)(vs:List U)(o7 o8 a:Option (Kd×U)):∃(i:List U) (R:List Nat) (j l b:Option (Kd×U)),
  RI rows K0 (K0++st.map (·.1)) R/\(st=[]->R=[])/\Run (forM b6 [7,8] (execs Γ zG) [(.bor 6,.lst (st.map stN))] (st.map λs=>(Kd.loc,stN s)))
   [b0,a0 (.own,.Ip ks (ks.map (cN (Jh rows rows.length)))),a0 (.own,.lst (b7 rows λp=>(cnt rows K0 p:Int))),a0 (.own,.Ip K0 vs),b4,a0 (.own,.lst []),a0 (.own,.lst (st.map stN)),o7,o8,a] .nx
   [b0,a0 (.own,.Ip ks (ks.map (cN (Jh rows rows.length)))),a0 (.own,.lst (b7 rows λp=>(cnt rows (K0++st.map (·.1)) p:Int))),a0 (.own,.Ip (K0++st.map (·.1)) i),b4,a0 (.own,.lst (fF R)),a0 (.own,.lst (st.map stN)),j,l,b]:=by
 let S:=λ(K:List Str) (vs:List U) (R:List Nat) (o7 o8 a:Option (Kd×U))=>([b0,a0 (.own,.Ip ks (ks.map (cN (Jh rows rows.length)))),a0 (.own,.lst (b7 rows λp=>(cnt rows K p:Int))),a0 (.own,.Ip K vs),b4,a0 (.own,.lst (fF R)),a0 (.own,.lst (st.map stN)),o7,o8,a]:aA)
 have⟨st',B,c,i,R,j,l,b,e,x,C,y⟩:=bI (t:=b6) (is:=[7,8]) (body:=execs Γ zG) (rs:=[(.bor 6,.lst (st.map stN))]) (λs:Str×Nat=>(Kd.loc,stN s))
  (λd r m=>d++r=st/\∃(vs:List U) (R:List Nat) (o7 o8 a:Option (Kd×U)),m=S (K0++d.map (·.1)) vs R o7 o8 a/\RI rows K0 (K0++d.map (·.1)) R/\R.length<=120 * d.length/\(d=[]->R=[])) (λ_ _ m ⟨_,vs,R,o7,o8,a,e,_⟩=>by subst e;show⟨⟨.own,rfl,rfl⟩,trivial⟩) (λd s r m D=>by
   have⟨c,vs,R,o7,o8,a,e,x,C,y⟩:=D;subst e;have⟨w,p⟩:=s;have N:d.length<st.length:=by have:=ŝ G2 c;simp at this;lia
   have n:w∉K0++d.map (·.1):=λz=>by
    rw[<-c,my,<-Tw,rr]at q;show q.2.2 w z w (by simp) rfl
   let f:Option (Kd×U):=a0 (.loc,.str w);let g:Option (Kd×U):=a0 (.loc,.int (p:Nat));have⟨b,G⟩:=rV (Γ:=Γ) o hr n (R:=R) ⋯ (b0:=b0) (b1:=a0 (.own,.Ip ks (ks.map (cN (Jh rows rows.length))))) (b3:=a0 (.own,.Ip (K0++d.map (·.1)++[w]) (vs++[.bl b6]))) (b4:=b4) (o6:=a0 (.own,.lst (st.map stN))) (o7:=f) (o8:=g) a (src:=[(.loc,cN (Jh rows rows.length) w)]) (λ_=>trivial);have em:K0++(d++[(w,p)]).map (·.1)=K0++d.map (·.1)++[w]:=by simp
   have H:(K0++d.map (·.1)).length<1000:=by rw[i4,df];lia
   have I:(match dI ks (ks.map (cN (Jh rows rows.length))) w with|some v=>(Kd.loc,v)|none=>(.loc,U.lst []))=(.loc,cN (Jh rows rows.length) w):=by
    rw[je];by_cases h:w∈ks
    .rw[Ř h]
    .rw[Ś h];unfold cN;rw[A w h];rfl
   have J:((Jh rows rows.length w).map λt:Nat=>U.int (t:Nat)).map (λu=>(kE .loc,u))=(Jh rows rows.length w).map λt=>(Kd.loc,U.int (t:Nat)):=by rw[et];rfl
   show⟨S (K0++d.map (·.1)) vs R f g a,S (K0++d.map (·.1)++[w]) (vs++[.bl b6]) (R++(Jh rows rows.length w).filter λt=>cK (cnt rows (K0++d.map (·.1)) t=1)) f g b,e_ (.inl rfl),?_,by rw[<-c];simp,vs++[.bl b6],_,f,g,b,by rw[em],?_,?_,λz=>by simp at z⟩
   .show rE (k:=.own) (rv:=(.loc,.bl b6)) (rk:=(.loc,.str w)) aC rfl (ae rfl) (aG aK (aG aK aD)) rfl rfl (vm H n) ?_;show bW (rs:=[(.loc,cN (Jh rows rows.length) w)]) (aa (E3 (k:=.loc) (z:=(.own,.lst [])) (u:=.lst []) rfl (ae rfl) (bB af trivial aD (mu _)) jX I) af) trivial (by change a0 (RH (λu=>(kE .loc,u)) _)=_;rw[J]) rfl G ak
   .rw[em];show x.step o n
   .have:((Jh rows rows.length w).filter λt=>cK (cnt rows (K0++d.map (·.1)) t=1)).length<=120:=by
     show td (nC _ _) ?_;have L:(Jh rows rows.length w).length<=(hA rows.length).length:=nC _ _;simp at L;lia
    rw[i4,i4,JJ];lia) st [] (S K0 vs [] o7 o8 a) ⟨rfl,vs,[],o7,o8,a,by simp[S],by simpa using RI.start K0,by simp,λ_=>rfl⟩
 subst e;show⟨i,R,j,l,b,by simpa using x,λz=>y (by simpa using z),by simpa[S,fF] using B⟩
abbrev gO(a:List (List (Str×Nat))):List U:=a.map λl=>U.lst (l.map stN)
abbrev zH:List TM.S:=[.set 6 (.call "new_steps" [.var 0,.var 5,.var 3]),.set 5 (.lst []),.IF b6 [7,8] .seq [.var 6] zG,.ite (.cmp .ne (.var 6) (.lst [])) [.app 4 (.var 6)] []]
abbrev zI(Γ:Tab)(rows:List Row):Prop:=∀(R:List Nat) (K0:List Str) (vs:List U),(∀t∈R,t<rows.length)->∃st:List (Str×Nat),NS rows K0 R st/\Γ "new_steps" [.tup (rows.map A'),.lst (fF R),.Ip K0 vs]=a0 (.ok (.own,.lst (st.map stN)))
theorem jG(H:Once rows)(hr:rows.length<=120)(I:zI Γ rows)(J:∀w,w∉ks->Jh rows rows.length w=[]):∀(f:Nat) (c:List (Str×Nat)) (d:List (List (Str×Nat))) (R:List Nat) (vs:List U) (o6 o7 o8 i:Option (Kd×U)),
  LI rows c R->d.flatten=c->d.length<=c.length->(rows.length - c.length)+(if R=[] then 1 else 2)<=f ->
  ∃(Qs:List (Str×Nat)) (N:List (List (Str×Nat))) (st':aA),LI rows Qs []/\N.flatten=Qs/\N.length<=120/\st'[4]?=a0 (a0 (.own,.lst (gO N))) /\
   Run (fO (IU Γ (.cmp .ne (.var 5) (.lst []))) (execs Γ zH) f) [a0 (.loc,.tup (rows.map A')),a0 (.own,.Ip ks (ks.map (cN (Jh rows rows.length)))),a0 (.own,.lst (b7 rows λp=>(cnt rows (c.map (·.1)) p:Int))),a0 (.own,.Ip (c.map (·.1)) vs),a0 (.own,.lst (gO d)),a0 (.own,.lst (fF R)),o6,o7,o8,i] .nx st'
 |0,c,d,R,vs,o6,o7,o8,i,_,_,_,h=>by split at h<;>lia
 |f+1,c,d,R,vs,o6,o7,o8,i,x,O,Nb,h=>by
  have hsz:(20000:Nat)<=dV:=by decide
  have Lj:∀{s:List (Str×Nat)} {g:List Nat},LI rows s g->s.length<=rows.length:=λ{s g} x=>by
   have:=vk x.nd x.wd;simpa using this
  have JB:=Lj x;let S:=λ(K:List Str) (vs:List U) (d:List (List (Str×Nat))) (R:List Nat) (o6 o7 o8 i:Option (Kd×U))=>([a0 (.loc,.tup (rows.map A')),a0 (.own,.Ip ks (ks.map (cN (Jh rows rows.length)))),a0 (.own,.lst (b7 rows λp=>(cnt rows K p:Int))),a0 (.own,.Ip K vs),a0 (.own,.lst (gO d)),a0 (.own,.lst (fF R)),o6,o7,o8,i]:aA)
  have YW:∀R:List Nat,JL 50 (.lst (fF R))=b6:=λR=>by change cy 49 _=b6;show ot (λt:Nat=>((t:Nat):Int)) R 49
  have B:Run (IU Γ (.cmp .ne (.var 5) (.lst []))) (S (c.map (·.1)) vs d R o6 o7 o8 i) (!(fF R).isEmpty) (S (c.map (·.1)) vs d R o6 o7 o8 i) :=
   aR (av rfl) (bB af trivial aD (mu _)) ⟨⟨.own,rfl,rfl⟩,trivial⟩ (mq (YW R))
  by_cases Q:R=[]
  .subst Q;show⟨c,d,_,x,O,⋯,rfl,rP B⟩
  .rw[Ś Q]at h;have YX:(!(fF R).isEmpty)=b6:=by
    cases R with
    |nil=>show absurd rfl Q
    |cons a l=>rfl
   rw[YX]at B;have⟨st,n,IB⟩:=I R (c.map (·.1)) vs λt ht=>(x.Qq t ht).1;have II:(c.map (·.1)++st.map (·.1)).Nodup:=by
    rw[rr];show⟨x.nd,n.once,λa ha b v e=>?_⟩;have⟨s,hs,rfl⟩:=gs.mp v;show(n.ok s hs).2.1 (e▸ha)
   have ab:c.length+st.length<=rows.length:=by
    have:=vk II (L:=rows.map (·.1)) λy hy=>by
     rcases ko.mp hy with hy|hy
     .show x.wd y hy
     .have⟨s,hs,rfl⟩:=gs.mp hy;obtain⟨_,_,r,q1,q2⟩:=n.ok s hs;show gs.mpr ⟨r,qs q1,q2⟩
    simpa using this
   let z:Option (Kd×U):=a0 (.own,.lst (st.map stN));have⟨j,g,m,o,q,y,Q4,Uz⟩:=xb (Γ:=Γ) H hr J II (by rw[df];lia) (b0:=a0 (.loc,.tup (rows.map A'))) (b4:=a0 (.own,.lst (gO d))) vs o7 o8 i;have T:=x.step n y;have em:(c++st).map (·.1)=c.map (·.1)++st.map (·.1):=my;have YY:JL 50 (.lst (st.map stN))=b6:=by change cy 49 _=b6;show rT st 48
   have C:Run (IU Γ (.cmp .ne (.var 6) (.lst []))) (S (c.map (·.1)++st.map (·.1)) j d g z m o q) (!(st.map stN).isEmpty) (S (c.map (·.1)++st.map (·.1)) j d g z m o q) :=
    aR (av rfl) (bB af trivial aD (mu _)) ⟨⟨.own,rfl,rfl⟩,trivial⟩ (mq YY)
   have e1:(st.map stN).map (λu=>(kE (.bor 6),u))=st.map λs=>(Kd.loc,stN s):=by rw[et];rfl
   have A:∀{JV:aA},Run (execs Γ [.ite (.cmp .ne (.var 6) (.lst []))
    [.app 4 (.var 6)]
    []]) (S (c.map (·.1)++st.map (·.1)) j d g z m o q) .nx JV->Run (execs Γ zH) (S (c.map (·.1)) vs d R o6 o7 o8 i) .nx JV:=λh=>by
    show aB (r:=(.own,.lst (st.map stN))) (aE (aa (ae rfl) (aa (av rfl) (aa (av rfl) af))) ⟨⟨.own,rfl,rfl⟩,⟨.own,rfl,rfl⟩,trivial⟩ IB) aS ?_;show aB (r:=(.own,.lst [])) (bB af trivial aD (mu _)) aS ?_;show bW (rs:=[(.bor 6,.lst (st.map stN))]) (aa (av rfl) af) ⟨⟨.own,rfl,rfl⟩,trivial⟩ (by change a0 (RH (λu=>(kE (.bor 6),u)) _)=_;rw[e1]) rfl Uz h
   by_cases D:st=[]
   .have UA:=Q4 D;subst D;rw[show(!(([]:List (Str×Nat)).map stN).isEmpty)=cb from rfl]at C;have ee:c++[]=c:=sx _;rw[ee]at T;have v:=A (l_ C (λh=>by cases h) λ_=>ak);have⟨Y,Oi,st2,z1,z2,z3,z4,G⟩:=jG H hr I J f c d g j z m o q T O Nb (by rw[Ř UA];lia);show⟨Y,Oi,st2,z1,z2,z3,z4,rQ B v ?_⟩;have e3:c.map (·.1)++([]:List (Str×Nat)).map (·.1)=c.map (·.1):=by simp
    change Run _ (S (c.map (·.1)++([]:List (Str×Nat)).map (·.1)) j d g z m o q) _ _;rw[e3];show G
   .have UB:(!(st.map stN).isEmpty)=b6:=by
     cases st with
     |nil=>show absurd rfl D
     |cons a l=>rfl
    rw[UB]at C;have YZ:0<st.length:=PV.mpr D;have ef:gO (d++[st])=gO d++[.lst (st.map stN)]:=by simp[gO]
    have v:Run (execs Γ zH) (S (c.map (·.1)) vs d R o6 o7 o8 i) .nx (S (c.map (·.1)++st.map (·.1)) j (d++[st]) g (a0 (.loc,.lst (st.map stN))) m o q):=by
     show A (l_ C (λ_=>?_) λh=>by cases h);change Run _ _ _ [a0 (.loc,.tup (rows.map A')),a0 (.own,.Ip ks (ks.map (cN (Jh rows rows.length)))),a0 (.own,.lst (b7 rows λp=>(cnt rows (c.map (·.1)++st.map (·.1)) p:Int))),a0 (.own,.Ip (c.map (·.1)++st.map (·.1)) j),a0 (.own,.lst (gO (d++[st]))),a0 (.own,.lst (fF g)),a0 (.loc,.lst (st.map stN)),m,o,q];rw[ef];show jY (k:=.own) (k':=.own) (r:=(.bor 6,.lst (st.map stN))) (u:=.lst (st.map stN)) rfl (av rfl) (rO rfl) rfl rfl (by unfold gO;rw[df];lia) ak
    have⟨Y,Oi,st2,z1,z2,z3,z4,G⟩:=jG H hr I J f (c++st) (d++[st]) g j (a0 (.loc,.lst (st.map stN))) m o q T (by rw[R_,O];simp) (by rw[i4,i4,JJ];lia) (by rw[i4];split<;>lia);show⟨Y,Oi,st2,z1,z2,z3,z4,rQ B v ?_⟩;rw[em]at G;show G
abbrev CW(Γ:Tab)(rows:List Row):Prop:=∃ks:List Str,(∀w,w∉ks->Jh rows rows.length w=[])/\Γ "places_that_tell" [.tup (rows.map A')]=a0 (.ok (.own,.Ip ks (ks.map (cN (Jh rows rows.length)))))
def gP(s:Once rows)(hr:rows.length<=120)(v:CW Γ rows)(w:zI Γ rows):∃(f:List (Str×Nat)) (d:List (List (Str×Nat))),LI rows f []/\d.flatten=f/\d.length<=120/\bT Γ bF [.tup (rows.map A')]=a0 (.ok (.own,.lst (gO d))):=by
 have hsz:(20000:Nat)<=dV:=by decide
 have⟨ks,z,A⟩:=v;have B:TM.start [.tup (rows.map A')] 10=[a0 (.loc,.tup (rows.map A')),b5,b5,b5,b5,b5,b5,b5,b5,b5]:=by simp[TM.start,IY,bY]
 let g:Option (Kd×U):=a0 (.loc,.tup (rows.map A'));let j:Option (Kd×U):=a0 (.own,.Ip ks (ks.map (cN (Jh rows rows.length))));let C:Option (Kd×U):=a0 (.own,.lst (b7 rows λp=>(cnt rows [] p:Int)));have D:Run (ev Γ (.comp 1 cb .seq [.var 0] [] (.bi .len [.idx (.var 0) (.cst (.int 1))]))) [g,j,b5,b5,b5,b5,b5,b5,b5,b5] (.own,.lst (b7 rows λp=>(cnt rows [] p:Int))) [g,j,b5,b5,b5,b5,b5,b5,b5,b5]:=by
  have c:=bX (cond:=aJ Γ []) (elt:=ev Γ (.bi .len [.idx (.var 0) (.cst (.int 1))])) (src:=[(.loc,.tup (rows.map A'))]) (st:=[g,j,b5,b5,b5,b5,b5,b5,b5,b5]) trivial .loc (.inl rfl) A' (λr=>.int (r.2.length:Nat)) .loc (λ_=>cH) rows [] (by simp;lia)
   (λy _=>⟨cC (aa (bj (x:=(.loc,A' y)) (ae rfl) aC trivial rfl) af) trivial (by rw[pX,df]),aK⟩)
  rw[gc]at c;have e:(rows.map A').map (λu=>(kE .loc,u))=rows.map λr=>(Kd.loc,A' r):=by rw[et];rfl
  have G:(rows.map λr=>U.int (r.2.length:Nat))=b7 rows λp=>(cnt rows [] p:Int):=by
   unfold b7;apply NR
   .simp
   .intro i k l;have H:i<rows.length:=by simpa using k
    have m:told rows i=rows[i].2:=kJ (by simp[H]);have I:cnt rows [] i=rows[i].2.length:=by unfold cnt tV;rw[m];simp
    simp[I]
  rw[G]at c;show a5 (rs:=[(.loc,.tup (rows.map A'))]) (aa (ae rfl) af) trivial (by change a0 _=_;rw[e]) c
 let n:=(hA rows.length).filter λp=>cK (cnt rows [] p=0);let o:aA:=[g,j,C,a0 (.own,.Ip [] []),a0 (.own,.lst []),b5,b5,b5,b5,b5]
 have J:Run (ev Γ (.comp 2 b6 .MP [.var 2] [.cmp .eq (.var 1) (.cst (.int 0))] (.var 0))) o (.own,.lst (fF n)) o:=by
  have c:=mr (st:=o) (cond:=aJ Γ [.cmp .eq (.var 1) (.cst (.int 0))]) (elt:=ev Γ (.var 0)) (src:=[(.bor 2,.lst (b7 rows λp=>(cnt rows [] p:Int)))]) ⟨⟨.own,rfl,rfl⟩,trivial⟩ (λp:Nat=>U.int (p:Nat)) (λp:Nat=>U.int (cnt rows [] p:Int)) (λp:Nat=>U.int (p:Nat)) (λp=>cK (cnt rows [] p=0)) (hA rows.length) [] (by simp;lia)
   (λy _=>⟨cu (aR (ae rfl) aC trivial (cJ (by rw[JM];simp))),ae rfl⟩)
  rw[gc]at c;have e:((b7 rows λp=>(cnt rows [] p:Int)).zipIdx.map λp=>(kE (.bor 2),U.tup [.int p.2,p.1]))=(hA rows.length).map λp:Nat=>(Kd.loc,U.tup [.int (p:Nat),.int (cnt rows [] p:Int)]):=by
   unfold b7;apply NR
   .simp
   .intro i k l;simp[kE]
  show a5 (rs:=[(.bor 2,.lst (b7 rows λp=>(cnt rows [] p:Int)))]) (aa (av rfl) af) ⟨⟨.own,rfl,rfl⟩,trivial⟩ (by change a0 _=_;rw[e]) c
 have L:LI rows [] n:=⟨.nil,λ_ _ _ h=>(nomatch h),λ_ h=>(nomatch h),λt m=>by
  have⟨a,b⟩:=hY.mp m;show⟨L0.mp a,by simpa using b⟩,λt r k l=>.inl (hY.mpr ⟨L0.mpr (eW.mp k).1,by simpa using l⟩)⟩
 have⟨f,d,st',N,O,Q,q,T⟩:=jG s hr w z fuel [] [] n [] b5 b5 b5 b5 L rfl (lg _) (by unfold fuel;split<;>simp<;>lia);show⟨f,d,N,O,Q,?_⟩;show aF rfl (.inl rfl) B (aB (r:=(.own,.Ip ks (ks.map (cN (Jh rows rows.length))))) (aE (aa (ae rfl) af) trivial A) aS (aB D aS (aB (r:=(.own,.Ip [] [])) lZ aS (aB (r:=(.own,.lst [])) (bB af trivial aD (mu _)) aS (aB J aS (rR T (bc (av q) (i_ q))))))))
def xc(hs:Γ "steps_in_rounds" [.tup (rows.map A')]=a0 (.ok (.own,.lst (gO a))))(c:a.flatten=f)(hl:f.length<=120):bT Γ fE [.tup (rows.map A')]=a0 (.ok (.own,.lst (f.map stN))):=by
 have hsz:(20000:Nat)<=dV:=by decide
 have h:TM.start [.tup (rows.map A')] 3=[a0 (.loc,.tup (rows.map A')),b5,b5]:=by simp[TM.start,IY,bY]
 let S:=λ(l:List (Str×Nat)) (o2:Option (Kd×U))=>([a0 (.loc,.tup (rows.map A')),a0 (.own,.lst (l.map stN)),o2]:aA)
 have⟨st',i,b,o2,e⟩:=bI (t:=cb) (is:=[2]) (body:=execs Γ [.ext 1 (.var 2)]) (rs:=[(.own,.lst (gO a))]) (λl:List (Str×Nat)=>(Kd.loc,U.lst (l.map stN)))
  (λd r st=>d++r=a/\∃o2:Option (Kd×U),st=S d.flatten o2) (λ_ _ _ _=>trivial) (λd y r st j=>by
   have⟨b,o2,e⟩:=j;subst e;have m:d.flatten.length+y.length<=120:=by
    have:=ŝ (λl:List (List (Str×Nat))=>l.flatten.length) b;simp only[R_,Nf,i4,c]at this;lia
   show⟨S d.flatten (a0 (.loc,.lst (y.map stN))),S (d++[y]).flatten (a0 (.loc,.lst (y.map stN))),d7 aX,?_,by rw[<-b];simp,_,rfl⟩;have em:(d++[y]).flatten.map stN=d.flatten.map stN++y.map stN:=by simp
   change Run _ _ _ [a0 (.loc,.tup (rows.map A')),a0 (.own,.lst ((d++[y]).flatten.map stN)),a0 (.loc,.lst (y.map stN))];rw[em];show rF (k:=.own) (k':=.own) rfl (ae rfl) rfl rfl (qa (by rw[df,df];lia) rfl) ak) a [] (S [] b5) ⟨rfl,b5,rfl⟩
 subst e;have e:(gO a).map (λu=>(kE .own,u))=a.map λl=>(Kd.loc,U.lst (l.map stN)):=by unfold gO;rw[et];rfl
 have g:=aF (Γ:=Γ) (fn:=fE) rfl (.inl rfl) h (aB (r:=(.own,.lst [])) (bB af trivial aD (mu _)) aS (bW (rs:=[(.own,.lst (gO a))]) (st1:=S [] b5) (aa (aE (aa (ae rfl) af) trivial hs) af) trivial rfl rfl (by rw[e];show i) (bc (av rfl) (i_ rfl))));rw[gc,c]at g;show g
end
section
variable{Γ:Tab}{rows:List Row}{names:List Str}
def mz(h:ss.length<64):JW .sorted [(k,.lst (ss.map .str))]=a0 (.own,.lst ((aH ss).map .str)):=by
 change(strsOf (ss.map U.str)).bind _=_;rw[du];change(if ss.length<64 then _ else _)=_;rw[Ř h]
def t6{a:List (Str×Nat)}(hl:a.length<64)(ho:Γ "order" [.tup (rows.map A')]=a0 (.ok (.own,.lst (a.map stN)))):bT Γ fb [.tup (rows.map A')]=a0 (.ok (.own,.lst ((aH (a.map (·.1))).map .str))):=by
 have hsz:(20000:Nat)<=dV:=by decide
 have c:TM.start [.tup (rows.map A')] 1=[a0 (.loc,.tup (rows.map A'))]:=by simp[TM.start,IY,bY]
 have b:=mr (st:=[a0 (.loc,.tup (rows.map A'))]) (cond:=aJ Γ []) (elt:=ev Γ (.var 0)) (src:=[(.own,.lst (a.map stN))]) trivial (λs:Str×Nat=>U.str s.1) (λs=>U.int (s.2:Nat)) (λs=>U.str s.1) (λ_=>b6) a [] (by simp;lia) (λy _=>⟨cH,ae rfl⟩);rw[gc,PX.mpr (λ_ _=>rfl)]at b;have e:(a.map stN).map (λu=>(kE .own,u))=a.map λs=>(Kd.loc,U.tup [.str s.1,.int (s.2:Nat)]):=by rw[et];rfl
 have d:(a.map λs=>U.str s.1)=(a.map (·.1)).map U.str:=by rw[et];rfl
 rw[d]at b;show aF rfl (.inl rfl) c (bc (cC (aa (a5 (rs:=[(.own,.lst (a.map stN))]) (aa (aE (aa (ae rfl) af) trivial ho) af) trivial (by change a0 (RH (λu=>(kE .own,u)) _)=_;rw[e]) b) af) trivial (mz (by rw[df];show hl))) fL)
structure UC(prog:List Fn):Prop where
 g:IK prog "gathered" dw
 p:IK prog "places_that_tell" bu
 n:IK prog "new_steps" cY
 s:IK prog "steps_in_rounds" bF
 o:IK prog "order" fE
 l:IK prog "learnt" fb
structure Kn(rows:List Row)(K:List Str):Prop where
 nd:K.Nodup
 sn:Qp rows K
 cl:gn rows (·∈K)
def Kn.perm(a:Kn rows K)(b:Kn rows L):K.Perm L:=same a.nd b.nd a.sn b.sn a.cl b.cl
def Kn.of(s:LI rows a []):Kn rows (a.map (·.1)):=⟨s.nd,s.sn,s.closed⟩
def Ca(L:UC prog)(n:Nat)(d:∀r∈rows,eZ names r)(w:names.length<=24)(hr:rows.length<=120):∃c:List (Str×Nat),LI rows c []/\c.length<=24/\Io prog (n+4) "order" [.tup (rows.map A')]=a0 (.ok (.own,.lst (c.map stN))):=by
 have i:∀r∈rows,r.2.length<=8:=λr h=>(d r h).Lj;have e:Once rows:=λr h=>(d r h).once;have f:∀r∈rows,r.1∈names:=λr h=>(d r h).word;have j:CV (Io prog (n+1)):=λps hl=>by
  have⟨ks,a,b⟩:=qg (Γ:=Io prog n) hl;show⟨ks,a,(aq L.g _).trans b⟩
 have k:CW (Io prog (n+2)) rows:=by
  have⟨ks,a,b⟩:=t5 j e i hr;show⟨ks,a,(aq L.p _).trans b⟩
 have l:zI (Io prog (n+2)) rows:=λR K0 vs m=>by
  have⟨st,a,b⟩:=mX (Γ:=Io prog (n+1)) f ⋯ m (K0:=K0) (vs:=vs);show⟨st,a,(aq L.n _).trans b⟩
 have⟨c,q,s1,s2,s3,s4⟩:=gP e hr k l;have t:Io prog (n+3) "steps_in_rounds" [.tup (rows.map A')]=a0 (.ok (.own,.lst (gO q))):=(aq L.s _).trans s4;have u:c.length<=24:=by
  have:=vk (Kn.of s1).nd (L:=names) λx v=>by
   have⟨r,a,b⟩:=gs.mp (s1.wd x v);show b▸f r a
  rw[df]at this;lia
 show⟨c,s1,u,(aq L.o _).trans (xc t s2 ⋯)⟩
def Cb(L:UC prog)(n:Nat)(a:∀r∈rows,eZ names r)(b:names.length<=24)(hr:rows.length<=120)(c:Kn rows K):Io prog (n+5) "learnt" [.tup (rows.map A')]=a0 (.ok (.own,.lst ((aH K).map .str))):=by
 have⟨d,s1,s2,s3⟩:=Ca L n a b hr;have e:aH (d.map (·.1))=aH K:=fT ((Kn.of s1).perm c);rw[<-e];show(aq L.l _).trans (t6 ⋯ s3)
end
end KL
namespace TM
open PySem L2 IM
section
def kK{a b:List Str}:bw .ne (.lst (a.map U.str)) (.lst (b.map U.str))=a0 (!cK (a=b)):=by
 have h:=@jb a b;simp only[bw]at h ⊢;split at h
 .rename_i hh;rw[Ř hh,sL h]
 .cases h
def bp(rs:List Row):(a0 (if IY (.tup (rs.map A'))=b6 then Kd.loc else Kd.any,U.tup (rs.map A')):Option (Kd×U))=a0 (.loc,.tup (rs.map A')):=by
 rw[Ř (by change gL (rs.map A')=b6;show bY rs)]
def zJ{ss:List Str}:JX .seq [(k,.tup (ss.map .str))]=a0 (ss.map λx=>(kE k,U.str x)):=by
 change a0 ((ss.map U.str).map λu=>(kE k,u))=_;rw[et];rfl
def jH{ss:List Str}(hk:k=.any\/k=.loc):fy k (ss.map .str)=b6:=by
 rcases hk with rfl|rfl
 .show gG ss
 .rfl
def xf(a:us.length=fn.np)(hs:start us fn.ns=st0)(h:Run (execs Γ fn.body) st0 .nx st):bT Γ fn us=a0 (.ok (.loc,.Iy)):=by
 subst hs;unfold bT;rw[Ř a,show execs Γ fn.body (start us fn.ns)=_ from h]
def eE.ok(h:eE ws r):eZ ws r:=⟨h.1,h.2.2.2,h.2.1,h.2.2.1⟩
end
end TM
namespace TM
open PySem L2 IM Od
section
def cO(hk:k=.loc\/k=.any)(h:st[i]?=a0 (a0 (k,u))):Run (ev Γ (.var i)) st (k,u) st:=by
 rcases hk with rfl|rfl
 .show ae h
 .show ay h
def Rr(hk:k=.loc\/k=.any)(h:IY u=b6):Run (lift (k,u)) st u st:=by
 rcases hk with rfl|rfl
 .show aK
 .show eD h
def bZ(hk:k=.loc\/k=.any)(h:bq rs st):bq ((k,u)::rs) st:=by rcases hk with rfl|rfl<;>show h
def E5(hk:k=.loc\/k=.any):kE k=k:=by rcases hk with rfl|rfl<;>rfl
def zK{told a:List Str}(hk:k=.loc\/k=.any)(hl:told.length<=1000)(hs:Run (ev Γ src) st (k,.tup (told.map .str)) st)(c:st[j]?=a0 (a0 (.own,w)))(d:∀x:Str,bw .isin (.str x) w=a0 (cK (x∈a))):
  Run (ev Γ (.bi .all [.comp 1 cb .seq [src] [] (.cmp .isin (.var 0) (.var (j+1)))])) st (.loc,.bl (told.all λx=>cK (x∈a))) st:=by
 have hsz:(1000:Nat)<=dV:=by decide
 have b:=bX (cond:=aJ Γ []) (elt:=ev Γ (.cmp .isin (.var 0) (.var (j+1)))) (src:=[(k,.tup (told.map .str))]) (st:=st) (bZ hk trivial) k hk U.str (λx=>.bl (cK (x∈a))) .loc (λ_=>cH) told [] (by simp;lia)
  (λy _=>⟨gW (cO hk rfl) (av (by simpa using c)) (bZ hk ⟨⟨.own,rfl,by simpa using c⟩,trivial⟩) (d y),aK⟩)
 rw[gc]at b;have e:(told.map U.str).map (λu=>(kE k,u))=told.map λr=>(k,U.str r):=by rw[et,E5 hk];rfl
 have f:(told.map λx=>U.bl (cK (x∈a)))=(told.map λx=>cK (x∈a)).map U.bl:=by rw[et];rfl
 rw[f]at b;have g:(told.all λx=>cK (x∈a))=((told.map λx=>cK (x∈a)).all id):=by rw[Se];rfl
 rw[g];show cC (aa (a5 (rs:=[(k,.tup (told.map .str))]) (aa hs af) (bZ hk trivial) (by change a0 _=_;rw[e]) b) af) trivial (jf _)
abbrev G5:List S:=[.ite (.and [.cmp .Im (.var 3) (.var 1),.bi .all [.comp 1 cb .seq [.var 4] [] (.cmp .isin (.var 0) (.var 2))]]) [.put 1 (.var 3) (.cst (.bl b6)),.set 2 (.cst (.bl b6))] []]
abbrev E6:List S:=[.set 2 (.cst (.bl cb)),.IF b6 [3,4] .seq [.var 0] G5]
inductive Bv(rs:List Row):Kd->U->Prop
 |tup:Bv rs .loc (.tup (rs.map A'))
 |lst:Bv rs .any (.lst (rs.map A'))
def Bv.kd{W:U}(h:Bv rs k W):k=.loc\/k=.any:=by cases h<;>simp
def Bv.it{W:U}(h:Bv rs k W):JX .seq [(k,W)]=a0 (rs.map λr=>(k,A' r)):=by
 cases h
 .show jg
 .change a0 ((rs.map A').map λu=>(kE .any,u))=_;rw[et];rfl
def Bv.bg{W:U}(h:Bv rs k W):(a0 (if IY W=b6 then Kd.loc else Kd.any,W):Option (Kd×U))=a0 (k,W):=by
 cases h
 .show bp rs
 .rfl
abbrev km(k:Kd)(W:U)(K:List Str)(b:Bool)(o3 o4:Option (Kd×U)):aA:=[a0 (k,W),a0 (.own,rU K),a0 (.loc,.bl b),o3,o4]
structure Nq(ws:List Str)(rs:List Row)(K:List Str):Prop where
 ks:jE ws K
 snd:Qp rs K
def Nq.add(x:Nq ws rs K)(hr:r∈rs)(b:r.1∈ws)(c:∀y∈r.2,y∈K):Nq ws rs (fP K r.1) :=
 ⟨x.ks.ins b,λC a y d=>(mw.mp d).elim (x.snd C a y) λe=>e▸a r hr λz hz=>x.snd C a z (c z hz)⟩
def Cc{W:U}(v:Bv rs k W)(H:ws.length<=40)(z:∀r∈rs,eE ws r)(x:Nq ws rs K0):
  ∃(g:List Str) (b:Bool) (o p:Option (Kd×U)),Run (execs Γ E6) (km k W K0 b0 o3 o4) .nx (km k W g b o p)/\Nq ws rs g/\(b=b6->K0.length<g.length)/\(b=cb->g=K0/\gn rs (·∈K0)):=by
 have hk:=v.kd;obtain⟨st1,C,_,g,b,o,p,rfl,i,l,c⟩:=bI (t:=b6) (is:=[3,4]) (body:=execs Γ G5) (rs:=[(k,W)]) (λr:Row=>(k,A' r))
  (λd r st=>d++r=rs/\∃(K:List Str) (b:Bool) (o3 o4:Option (Kd×U)),st=km k W K b o3 o4/\Nq ws rs K/\(b=b6->K0.length<K.length)/\(b=cb->K=K0/\∀r∈d,(∀y∈r.2,y∈K0)->r.1∈K0)) (λ_ _ _ _=>bZ hk trivial) (λd a r st D=>by
   have⟨q,K,b,o3,o4,e,i,l,c⟩:=D;subst e;have s:a∈rs:=by rw[<-q];simp
   have I:=(z a s).2.2.2;have J:=i.ks.len;have m:Run (IU Γ (.and [.cmp .Im (.var 3) (.var 1),.bi .all [.comp 1 cb .seq [.var 4] [] (.cmp .isin (.var 0) (.var 2))]])) (km k W K b (a0 (k,.str a.1)) (a0 (k,.tup (a.2.map .str)))) (!cK (a.1∈K)&&a.2.all λy=>cK (y∈K)) (km k W K b (a0 (k,.str a.1)) (a0 (k,.tup (a.2.map .str)))) :=
    l0 (zq (aR (cO hk rfl) (av rfl) (bZ hk ⟨⟨.own,rfl,rfl⟩,trivial⟩) gH) λ_=>cu (mf (zK (j:=1) (w:=rU K) hk ⋯ (cO hk rfl) rfl λ_=>E4)))
   have A:Run (dB b6 [3,4] (k,A' a)) (km k W K b o3 o4) () (km k W K b (a0 (k,.str a.1)) (a0 (k,.tup (a.2.map .str)))):=e_ hk;cases f:(!cK (a.1∈K)&&a.2.all λy=>cK (y∈K)) with
   |false =>
    rw[f]at m;show⟨_,_,A,aM m ak ak,by rw[<-q];simp,K,b,_,_,rfl,i,l,λu=>⟨(c u).1,λn Jz hz=>?_⟩⟩;rcases ko.mp Jz with Jz|Jz
    .show(c u).2 n Jz hz
    .rw[ix]at Jz;subst Jz;rw[<-(c u).1]at hz ⊢;by_cases B:n.1∈K
     .show B
     .have:(!cK (n.1∈K)&&n.2.all λy=>cK (y∈K))=b6:=by
       rw[ř B];simpa using hz
      rw[this]at f;cases f
   |true =>
    rw[f]at m;simp only[eh,G1,decide_eq_false_iff_not,tA,ŗ]at f;have G:fP K a.1=K++[a.1]:=by unfold fP;rw[Ś f.1]
    show⟨_,km k W (fP K a.1) b6 (a0 (k,.str a.1)) (a0 (k,.tup (a.2.map .str))),A,dq m (rE (k:=.own) (k':=.own) aC rfl (cO hk rfl) (aG aK (aG (Rr hk rfl) aD)) rfl rfl (vq ⋯) (aB aC aX ak)) ak,by rw[<-q];simp,fP K a.1,b6,_,_,rfl,i.add s (z a s).1 f.2,λ_=>?_,λh=>by cases h⟩;rw[G,i4,JJ];cases b with
    |true=>have:=l rfl;lia
    |false=>rw[(c rfl).1];lia) rs [] (km k W K0 cb o3 o4) ⟨rfl,K0,cb,o3,o4,rfl,x,(λh=>by cases h),λ_=>⟨rfl,λr hr=>by cases hr⟩⟩
 rw[gc]at c;show⟨g,b,o,p,aB aC aX (bW (rs:=[(k,W)]) (st1:=km k W K0 cb o3 o4) (aa (cO hk rfl) af) (bZ hk trivial) v.it (by rcases hk with rfl|rfl<;>rfl) C ak),i,l,c⟩
theorem qh{W:U}(i:Bv rs k W)(j:ws.length<=40)(l:∀r∈rs,eE ws r):
  ∀(f:Nat) (K0:List Str) (o3 o4:Option (Kd×U)),Nq ws rs K0->64 - K0.length<f->∃(a:List Str) (c d:Option (Kd×U)),Run (fO (IU Γ (.var 2)) (execs Γ E6) (f+1)) (km k W K0 b6 o3 o4) .nx (km k W a cb c d)/\Nq ws rs a/\gn rs (·∈a)
 |0,_,_,_,_,h=>by lia
 |f+1,K0,o3,o4,x,h=>by
  have⟨a,b,c,d,m,g,n,o⟩:=Cc (Γ:=Γ) i j l x (b0:=b6) (o3:=o3) (o4:=o4);cases b with
  |false =>
   have⟨e,p⟩:=o rfl;subst e;show⟨a,c,d,rQ (tY rfl) m (rP (tY rfl)),g,p⟩
  |true =>
   have:=n rfl;have:=g.ks.len;have⟨q,s,t,u,v,w⟩:=qh i j l f a c d g ⋯;show⟨q,s,t,rQ (tY rfl) m u,v,w⟩
abbrev Ln(rs:List Row)(x:Str):Prop:=∀C:Str->Prop,gn rs C->C x
def Kn.mem(h:KL.Kn rs K):x∈K↔Ln rs x:=⟨λa C b=>h.sn C b x a,λhl=>hl _ h.cl⟩
def Kn.some(c:ws.length<=24)(a:∀r∈rs,eE ws r):∃K,KL.Kn rs K/\jE ws K:=by
 have⟨K,d,e,q,x,b⟩:=qh (Γ:=λ_ _=>b5) (Bv.tup (rs:=rs)) ⋯ a 999999999999 [] b5 b5 ⟨⟨.nil,λ_ h=>absurd h D'⟩,λ_ _ _ h=>absurd h D'⟩ (by simp);show⟨K,⟨x.ks.1,x.snd,b⟩,x.ks⟩
end
end TM
namespace TM
open PySem L2 IM
section
def E7(b:st[i]?=a0 (a0 (.F',.Ip ks us)))(c:Run (bN 2 b6 (pure b6) (ev Γ e) [] (pD (ks,us)) []) (st.set i b5) vs st1):Run (execs Γ (.KW i e::ss)) st (.rt .own (.lst vs)) st1:=by
 show pW (ag (a:=(ks,us)) (st1:=st.set i b5) ?_ (ag c rfl));change qU i st=_;unfold qU;rw[b]
end
end TM
namespace KK
open PySem L2 TM IM Od
abbrev vv:Fn:=⟨"not_learnt",1,1,[.ret (.Mg cb (.call "words_of" [.var 0]) (.call "learnt" [.var 0]))]⟩
abbrev CY:List TM.S:=[.ite (.inD cb (.idx (.var 3) (.cst (.int 0))) 1) [.J' 1 (.idx (.var 3) (.cst (.int 0))) (.idx (.comp 1 cb .seq [.idx (.var 3) (.cst (.int 1))] [.inD cb (.var 0) 2] (.var 0)) (.cst (.int 0)))] []]
abbrev ou:Fn:=⟨"knot",1,4,[.newD 1,.IF cb [2] .seq [.call "not_learnt" [.var 0]] [.putD 1 (.var 2) (.lst [])],.IF cb [3] .seq [.var 0] CY,.KW 1 (.tup [.var 0,.bi .tuple [.var 1]])]⟩
abbrev Iq(rows:List Row)(K:List Str):List Str:=(ai rows).filter λx=>cK (x∉K)
def qi:x∈Iq rows K↔x∈cM rows/\x∉K:=by
 unfold Iq;rw[hY,cm];simp
def fc(rows:List Row)(K:List Str):(Iq rows K).Nodup:=(cn rows).sublist r3
abbrev pick(Z:List Str)(l:List Str):Str:=((l.filter λx=>cK (x∈Z)).head?).getD ""
abbrev Kc(Z:List Str)(d:List Row)(k:Str):List Str:=(d.filter λr=>cK (r.1=k)).map λr=>pick Z r.2
abbrev c_(Z:List Str)(d:List Row)(k:Str):U:=.lst ((Kc Z d k).map .str)
abbrev aL(Z:List Str)(rows:List Row):List Row:=Z.map λk=>(k,Kc Z rows k)
section
def mB(f:K.length<64)(g:(ai rows).length<64)(a:Γ "words_of" [.tup (rows.map A')]=a0 (.ok (.own,.lst ((ai rows).map .str))))(b:Γ "learnt" [.tup (rows.map A')]=a0 (.ok (.own,.lst ((aH K).map .str)))):
  bT Γ vv [.tup (rows.map A')]=a0 (.ok (.own,.lst ((Iq rows K).map .str))):=by
 have c:TM.start [.tup (rows.map A')] 1=[a0 (.loc,.tup (rows.map A'))]:=by simp[TM.start,IY,bY]
 have h:=ia (ai rows);have d:=ia (aH K);rw[cc]at d;have hs:mT cb (ax (ai rows)) (ax (aH K))=a0 (.own,.lst ((Iq rows K).map .str)):=by
  unfold mT;rw[Ř ⟨⋯,⋯⟩,Ś oO];have e:aH ((ax (ai rows)).filter λx=>cK (x∉ax (aH K)))=Iq rows K:=by
   show d_ ?_ ((bU _).sublist r3);show(DD ((aQ _).sublist r3) (fc rows K)).mpr λx=>?_;unfold Iq;rw[hY,hY,aP];simp only[ŗ,aP,(bh K).mem_iff]
  rw[e]
 show aF rfl (.inl rfl) c (bc (vp (aE (aa (ae rfl) af) trivial a) (cF ⋯) (aE (aa (ae rfl) af) trivial b) (cF (by rw[cc];lia)) hs) fL)
def rW(Z:List Str)(d:List Row)(r:Row)(k:Str):Kc Z (d++[r]) k=if r.1=k then Kc Z d k++[pick Z r.2] else Kc Z d k:=by
 unfold Kc;rw[LV,my,I0,Ql];by_cases e:r.1=k
 .rw[Ř e,Ř (ś e)];rfl
 .rw[Ś e,Ś (by simpa using e)];simp
def Cd(Z:List Str)(d:List Row)(k:Str):(Kc Z d k).length<=d.length:=by
 unfold Kc;rw[df];show nC _ _
def zL(hr:rows.length<=120)(D:∀r∈rows,r.2.length<=8)(n:Z.Nodup)(hl:Z.length<64)(G:∀r∈rows,r.1∈Z->∃x∈r.2,x∈Z)(H:Γ "not_learnt" [.tup (rows.map A')]=a0 (.ok (.own,.lst (Z.map .str)))):
  bT Γ ou [.tup (rows.map A')]=a0 (.ok (.own,.lst ((aL Z rows).map A'))):=by
 have hsz:(20000:Nat)<=dV:=by decide
 let j:Option (Kd×U):=a0 (.loc,.tup (rows.map A'));have I:TM.start [.tup (rows.map A')] 4=[j,b5,b5,b5]:=by simp[TM.start,IY,bY,j]
 let S:=λ(ks:List Str) (us:List TM.U) (o2 o3:Option (Kd×TM.U))=>([j,a0 (.F',.Ip ks us),o2,o3]:aA)
 obtain⟨st1,s,_,o2,e⟩:=bI (t:=cb) (is:=[2]) (body:=execs Γ [.putD 1 (.var 2) (.lst [])]) (rs:=[(.own,.lst (Z.map .str))]) (λw:Str=>(Kd.loc,U.str w))
  (λd r st=>d++r=Z/\∃o2,st=S d (d.map (c_ Z [])) o2 b5) (λ_ _ _ _=>trivial) (λd w r st o=>by
   have⟨f,o2,e⟩:=o;subst e;have J:w∉d:=λz=>by
    rw[<-f,rr]at n;show n.2.2 w z w (by simp) rfl
   have L:d.length<64:=by have:=ŝ G2 f;simp at this;lia
   have em:(d++[w]).map (c_ Z [])=d.map (c_ Z [])++[.lst []]:=by rw[my];rfl
   show⟨S d (d.map (c_ Z [])) (a0 (.loc,.str w)) b5,S (d++[w]) ((d++[w]).map (c_ Z [])) (a0 (.loc,.str w)) b5,d7 aX,?_,by rw[<-f];simp,_,rfl⟩;rw[em];show zw (k:=.loc) (xs:=[]) (bB af trivial aD (mu _)) rfl (ae rfl) J ⋯ ak) Z [] (S [] [] b5 b5) ⟨rfl,b5,rfl⟩
 subst e;rw[gc]at s;let body:List TM.S:=CY;obtain⟨st2,v,_,o3,e⟩:=bI (t:=cb) (is:=[3]) (body:=execs Γ body) (rs:=[(.loc,.tup (rows.map A'))]) (λr:Row=>(Kd.loc,A' r))
  (λd r st=>d++r=rows/\∃o3,st=S Z (Z.map (c_ Z d)) o2 o3) (λ_ _ _ _=>trivial) (λd b r st o=>by
   have⟨f,o3,e⟩:=o;subst e;have L:d.length<120:=by have:=ŝ G2 f;simp at this;lia
   have A:b∈rows:=by rw[<-f];simp
   have YU:=D b A;let c:Option (Kd×TM.U):=a0 (.loc,A' b);have B:Run (ev Γ (.idx (.var 3) (.cst (.int 0)))) (S Z (Z.map (c_ Z d)) o2 c) (.loc,.str b.1) (S Z (Z.map (c_ Z d)) o2 c):=bj (x:=(.loc,A' b)) (ae rfl) aC trivial rfl;have m:Run (IU Γ (.inD cb (.idx (.var 3) (.cst (.int 0))) 1)) (S Z (Z.map (c_ Z d)) o2 c) (cK (b.1∈Z)) (S Z (Z.map (c_ Z d)) o2 c):=zu (neg:=cb) (k:=.loc) B rfl;have C:Run (dB cb [3] (.loc,A' b)) (S Z (Z.map (c_ Z d)) o2 o3) () (S Z (Z.map (c_ Z d)) o2 c):=d7 aX;by_cases g:b.1∈Z
   .rw[ś g]at m;have i:=dv (cond:=aJ Γ [.inD cb (.var 0) 2]) (elt:=ev Γ (.var 0)) (src:=[(.loc,.tup (b.2.map .str))]) (st:=S Z (Z.map (c_ Z d)) o2 c) trivial .loc (.inl rfl) U.str U.str (λx=>cK (x∈Z)) .loc b.2 [] (by simp;lia)
     (λy _=>⟨cu (zu (neg:=cb) (k:=.loc) (ae rfl) rfl),λ_=>⟨ae rfl,aK⟩⟩)
    rw[gc]at i;have q:(b.2.map U.str).map (λu=>(kE .loc,u))=b.2.map λx=>(Kd.loc,U.str x):=by rw[et];rfl
    have N:=a5 (Γ:=Γ) (ik:=.seq) (rs:=[(.loc,.tup (b.2.map .str))]) (st:=S Z (Z.map (c_ Z d)) o2 c) (src:=[.idx (.var 3) (.cst (.int 1))]) (aa (bj (x:=(.loc,A' b)) (ae rfl) aC trivial rfl) af) trivial (by change a0 (RH (λu=>(kE .loc,u)) _)=_;rw[q]) i;have O:Jb ((b.2.filter λx=>cK (x∈Z)).map U.str) ((0:Nat):Int)=a0 (.str (pick Z b.2)):=by
     have⟨x,Q,T⟩:=G b A g;show cv ?_;unfold pick;cases Y:b.2.filter λx=>cK (x∈Z) with
     |nil =>
      have:x∈b.2.filter λx=>cK (x∈Z):=hY.mpr ⟨Q,ś T⟩;rw[Y]at this;cases this
     |cons a l=>rfl
    have hg:dI Z (Z.map (c_ Z d)) b.1=a0 (.lst ((Kc Z d b.1).map .str)):=by rw[je,Ř g];rfl
    have hs:jv Z (Z.map (c_ Z d)) b.1 (.lst ((Kc Z d b.1).map .str++[.str (pick Z b.2)]))=Z.map (c_ Z (d++[b])):=by
     rw[mn _ _ _ _ n];show qk λk hk=>?_;unfold c_;rw[rW];by_cases e:b.1=k
     .subst e;rw[Ř rfl,Ř rfl];simp
     .rw[Ś e,Ś (vu e)]
    have Y0:=Cd Z d b.1;show⟨_,S Z (Z.map (c_ Z (d++[b]))) o2 c,C,l_ m (λ_=>?_) (λh=>by cases h),by rw[<-f];simp,_,rfl⟩;rw[<-hs];show zx (k:=.loc) (r:=(.loc,.str (pick Z b.2))) rfl B g (bj N aC trivial (bo (k:=.own) O)) aK hg (by rw[df];lia) ak
   .rw[ř g]at m;have em:Z.map (c_ Z (d++[b]))=Z.map (c_ Z d):=qk λk hk=>by
     unfold c_;rw[rW,Ś (show ¬b.1=k from λz=>g (z▸hk))]
    show⟨_,S Z (Z.map (c_ Z d)) o2 c,C,l_ m (λh=>by cases h) (λ_=>ak),by rw[<-f];simp,c,by rw[em]⟩) rows [] (S Z (Z.map (c_ Z [])) o2 b5) ⟨rfl,b5,rfl⟩
 subst e;rw[gc]at v;have i:=mr (st:=[j,b5,o2,o3]) (cond:=pure b6) (elt:=ev Γ (.tup [.var 0,.bi .tuple [.var 1]])) (src:=[]) trivial (λk:Str=>U.str k) (λk=>c_ Z rows k) (λk=>A' (k,Kc Z rows k)) (λ_=>b6) Z [] (by simp;lia)
  (λy _=>⟨bb,cQ (aa (ae rfl) (aa (cC (aa (ae rfl) af) trivial (r:=(.loc,.tup ((Kc Z rows y).map .str))) rfl) af)) trivial (aG aK (aG aK aD)) (by change 2<=dV;lia)⟩)
 rw[gc,PX.mpr (λ_ _=>rfl)]at i;have ei:pD (Z,Z.map (c_ Z rows))=Z.map λk=>(Kd.loc,U.tup [.str k,c_ Z rows k]):=by
  have:∀l:List Str,(l.zip (l.map (c_ Z rows))).map (λp=>(Kd.loc,U.tup [.str p.1,p.2]))=l.map λk=>(Kd.loc,U.tup [.str k,c_ Z rows k]):=λl=>by
   induction l with
   |nil=>rfl
   |cons a l ih=>rw[gi,Qm,gi,ih];rfl
  show this Z
 have ek:(aL Z rows).map A'=Z.map λk=>A' (k,Kc Z rows k):=by unfold aL;rw[et];rfl
 rw[ek];have q:(Z.map U.str).map (λu=>(kE .own,u))=Z.map λw=>(Kd.loc,U.str w):=by rw[et];rfl
 have e2:(rows.map A').map (λu=>(kE .loc,u))=rows.map λr=>(Kd.loc,A' r):=by rw[et];rfl
 show aF rfl (.inl rfl) I (zt (bW (rs:=[(.own,.lst (Z.map .str))]) (st1:=S [] [] b5 b5) (aa (aE (aa (ae rfl) af) trivial H) af) trivial (by change a0 (RH (λu=>(kE .own,u)) _)=_;rw[q]) rfl s
  (bW (rs:=[(.loc,.tup (rows.map A'))]) (aa (ae rfl) af) trivial (by change a0 (RH (λu=>(kE .loc,u)) _)=_;rw[e2]) rfl v (E7 rfl (by rw[ei];show i)))))
end
end KK
namespace TM
open PySem L2 IM Od
inductive Bw(L:List Str):Kd->U->Prop
 |tup:Bw L .loc (.tup (L.map .str))
 |lst:Bw L .any (.lst (L.map .str))
def Bw.kd{W:U}(h:Bw L k W):k=.loc\/k=.any:=by cases h<;>simp
def Bw.it{W:U}(h:Bw L k W):JX .seq [(k,W)]=a0 (L.map λx=>(k,U.str x)):=by
 cases h
 .show zJ
 .change a0 ((L.map U.str).map λu=>(kE .any,u))=_;rw[et];rfl
def Bw.bg{W:U}(h:Bw L k W):(a0 (if IY W=b6 then Kd.loc else Kd.any,W):Option (Kd×U))=a0 (k,W):=by
 cases h
 .rw[Ř (by change gL (L.map U.str)=b6;show gG L)]
 .rfl
def Bw.set{W:U}(h:Bw L k W)(hl:L.length<4000):fN W=a0 (ax L):=by
 have:=cF hl;cases h<;>show this
def Bw.start{rs:List Row}{W:U}(h:Bw L k W)(n:Nat):TM.start [.tup (rs.map A'),W] (n+2)=a0 (.loc,.tup (rs.map A'))::a0 (k,W)::nz n b5:=by
 change a0 (if IY (.tup (rs.map A'))=b6 then Kd.loc else Kd.any,U.tup (rs.map A'))::a0 (if IY W=b6 then Kd.loc else Kd.any,W)::nz (n+2 - 2) b5=_;rw[bp,h.bg];rfl
abbrev JZ(rs:List Row)(L:List Str):Prop:=∀x∈L,x∈ai rs
structure Bz(ws:List Str)(rs:List Row):Prop where
 wl:ws.length<=24
 rl:rs.length<=120
 ok:∀r∈rs,eE ws r
def Bz.in(h:Bz ws rs)(a:x∈ai rs):x∈ws:=by
 have⟨r,hr,e⟩:=bS.mp (cm.mp a);rcases e with rfl|e
 .show(h.ok r hr).1
 .show(h.ok r hr).2.2.1 _ e
section
abbrev heads(rs:List Row):List Str:=(rs.filter λr=>cK (r.2=[])).map (·.1)
abbrev wp(rs:List Row)(L:List Str):List Row:=rs++(L.filter λw=>cK (w∉heads rs)).map λw=>(w,[])
def qj(h:r∈wp rs L):r∈rs\/(r.1∈L/\r.2=[]):=by
 rcases ko.mp h with h|h
 .show .inl h
 .have⟨w,a,rfl⟩:=gs.mp h;show .inr ⟨(hY.mp a).1,rfl⟩
def mC:(wp rs L).length<=rs.length+L.length:=by
 unfold wp;rw[i4,df];have:=nC (λw=>cK (w∉heads rs)) L;lia
def vA(hr:∀r∈rs,eE ws r)(c:∀x∈ws,x∈d)(e:∀x∈L,x∈d):∀r∈wp rs L,eE d r:=λr h=>by
 rcases qj h with h|⟨a,b⟩
 .have⟨p,q,s,t⟩:=hr r h;show⟨c _ p,q,λy f=>c y (s y f),t⟩
 .show⟨e _ a,?_,?_,?_⟩<;>rw[b]<;>simp
def dQ(hk:JZ rs L):x∈ai (wp rs L)↔x∈ai rs:=by
 constructor
 .intro h;have⟨r,hr,e⟩:=bS.mp (cm.mp h);rcases qj hr with hr|⟨a,b⟩
  .show cm.mpr (bS.mpr ⟨r,hr,e⟩)
  .rw[b]at e;rcases e with rfl|e
   .show hk _ a
   .cases e
 .intro h;have⟨r,hr,e⟩:=bS.mp (cm.mp h);show cm.mpr (bS.mpr ⟨r,wh _ hr,e⟩)
def zM{W:U}(a:Bw L k W){H:List Str}(hl:L.length<=40)(d:st[i]?=a0 (a0 (k,W)))(b:st[j]?=a0 (a0 (.own,w)))(e:∀x:Str,bw .Im (.str x) w=a0 (cK (x∉H))):
  Run (ev Γ (.bi .tuple [.comp 1 cb .seq [.var i] [.cmp .Im (.var 0) (.var (j+1))] (.tup [.var 0,.tup []])])) st (.loc,.tup (((L.filter λw=>cK (w∉H)).map λw=>(w,[])).map A')) st:=by
 have hsz:(1000:Nat)<=dV:=by decide
 have hk:=a.kd;have c:=dv (cond:=aJ Γ [.cmp .Im (.var 0) (.var (j+1))]) (elt:=ev Γ (.tup [.var 0,.tup []])) (src:=[(k,W)]) (st:=st) (bZ hk trivial) k hk U.str (λw=>A' (w,[])) (λw=>cK (w∉H)) .loc L [] (by simp;lia)
  (λy _=>⟨cu (aR (cO hk rfl) (av (by simpa using b)) (bZ hk ⟨⟨.own,rfl,by simpa using b⟩,trivial⟩) (e y)),λ_=>⟨cQ (aa (cO hk rfl) (aa (cQ af trivial aD (mu _)) af)) (bZ hk trivial) (aG (Rr hk rfl) (aG aK aD)) (by change 2<=dV;lia),aK⟩⟩)
 rw[gc]at c;rw[et];show cC (aa (a5 (rs:=[(k,W)]) (aa (cO hk d) af) (bZ hk trivial) a.it c) af) trivial rfl
abbrev G6:List S:=[.ite (.cmp .eq (.idx (.var 3) (.cst (.int 1))) (.tup [])) [.put 2 (.idx (.var 3) (.cst (.int 0))) (.cst (.bl b6))] []]
abbrev t7(rs:List Row)(k:Kd)(W:U)(K:List Str)(o3:Option (Kd×U)):aA:=[a0 (.loc,.tup (rs.map A')),a0 (k,W),a0 (.own,rU K),o3]
def vB{rs ms:List Row}(h:rs.length+ms.length<=1000):Kg .add (.loc,.tup (rs.map A')) (.loc,.tup (ms.map A'))=a0 (.loc,.tup ((rs++ms).map A')):=by
 have hsz:(1000:Nat)<=dV:=by decide
 change(if (rs.map A').length+(ms.map A').length<=dV then a0 (kT .loc .loc,U.tup (rs.map A'++ms.map A')) else b5)=_;rw[Ř (by simp;lia),my];rfl
end
section
abbrev vv:Fn:=⟨"not_learnt",1,1,[.ret (.Mg cb (.call "words_of" [.var 0]) (.call "learnt" [.var 0]))]⟩
abbrev Suf(rs:List Row)(L:List Str):Prop:=∀x∈ai rs,Ln (wp rs L) x
def Suf.mono{M N:List Str}(h:∀x∈M,x∈N)(s:Suf rs M):Suf rs N:=λx b C c=>s x b C λr hr=>c r (by
 rcases ko.mp hr with hr|hr
 .show wh _ hr
 .have⟨w,a,rfl⟩:=gs.mp hr;show oR _ (gs.mpr ⟨w,hY.mpr ⟨h w (hY.mp a).1,(hY.mp a).2⟩,rfl⟩))
end
section
abbrev CZ:Fn:=⟨"refuse_unknown",2,2,[.ite (.cmp .gt (.Mg b6 (.var 1) (.call "words_of" [.var 0])) (.cst (.int 0))) [.bad] []]⟩
abbrev G7:Fn:=⟨"with_pictures",2,4,[.exp (.call "refuse_unknown" [.var 0,.var 1]),.set 2 (.J_ cb),.IF cb [3] .seq [.var 0] G6,.ret (.bin .add (.var 0) (.bi .tuple [.comp 1 cb .seq [.var 1] [.cmp .Im (.var 0) (.var 3)] (.tup [.var 0,.tup []])]))]⟩
abbrev C0:Fn:=⟨"suffice",2,2,[.ret (.cmp .eq (.call "not_learnt" [.call "with_pictures" [.var 0,.var 1]]) (.lst []))]⟩
structure ql(Pg:List Fn):Prop where
 L:KL.UC Pg
 w:IK Pg "words_of" qc
 r:IK Pg "refuse_unknown" CZ
 p:IK Pg "with_pictures" G7
 n:IK Pg "not_learnt" KK.vv
 s:IK Pg "suffice" C0
def Ic(H:ql Pg)(d:Nat)(b:Bz ws rs){W:U}(c:Bw L k W)(hl:L.length<=40)(hk:JZ rs L):Io Pg (d+2) "refuse_unknown" [.tup (rs.map A'),W]=a0 (.ok (.loc,.Iy)):=by
 have h:=bM λr hr=>(b.ok r hr).ok;have Kx:=b.wl;have i:(ax (ai rs)).length<=(ai rs).length:=bH (aQ _) λx a=>by simpa[aP] using a
 have e:(ax L).length<=L.length:=bH (aQ _) λx a=>by simpa[aP] using a
 have f:Io Pg (d+1) "words_of" [.tup (rs.map A')]=a0 (.ok (.own,.lst ((ai rs).map .str))):=(aq H.w _).trans (dP b.rl (λr hr=>(b.ok r hr).ok) ⋯);have hs:mT b6 (ax L) (ax (ai rs))=a0 (.loc,.int (((ax L).filter λx=>cK (x∉ax (ai rs))).length:Nat)):=by
  unfold mT;rw[Ř ⟨⋯,⋯⟩,Ř rfl]
 have g:((ax L).filter λx=>cK (x∉ax (ai rs)))=[]:=by
  rw[K5];intro x a;have a:x∈L:=by simpa[aP] using a
  simpa[aP] using hk x a
 rw[g]at hs;have hr:Run (ev (Io Pg (d+1)) (.Mg b6 (.var 1) (.call "words_of" [.var 0]))) [a0 (.loc,.tup (rs.map A')),a0 (k,W)] _ _:=vp (cO c.kd rfl) (c.set ⋯) (aE (aa (ae rfl) af) trivial f) (cF ⋯) hs;show(aq H.r _).trans (xf rfl (c.start 0) (aM (aR hr aC trivial (ja rfl)) ak ak))
def Qu(H:ql Pg)(d:Nat)(b:Bz ws rs){W:U}(c:Bw L k W)(hl:L.length<=40)(z:JZ rs L):Io Pg (d+3) "with_pictures" [.tup (rs.map A'),W]=a0 (.ok (.loc,.tup ((wp rs L).map A'))):=by
 have hk:=c.kd;have n:=Ic H d b c hl z;obtain⟨st',o,K,o3,rfl,A,l,_⟩:=bI (rs:=[(.loc,.tup (rs.map A'))]) (t:=cb) (is:=[3]) (body:=execs (Io Pg (d+2)) G6) (λr:Row=>(Kd.loc,A' r)) (λa q st=>∃K o3,st=t7 rs k W K o3/\jE ws K/\(∀x,x∈K↔x∈heads a)/\∀r∈q,eE ws r)
  (λ_ _ _ _=>trivial) (λa y q st s=>by
   have⟨K,o3,e,g,m,h⟩:=s;subst e;have B:=g.len;have C:=b.wl;have f:Run (IU (Io Pg (d+2)) (.cmp .eq (.idx (.var 3) (.cst (.int 1))) (.tup []))) (t7 rs k W K (a0 (.loc,A' y))) (cK (y.2=[])) (t7 rs k W K (a0 (.loc,A' y))):=aR (bj (ae rfl) aC trivial (show ip (.loc,A' y) (.int 1)=a0 (.loc,.tup (y.2.map .str)) from rfl)) (cQ af trivial aD (mu _)) trivial vn;have u:heads (a++[y])=heads a++(if y.2=[] then [y.1] else []):=by
    unfold heads;rw[LV,my,I0,Ql];by_cases e:y.2=[]<;>simp[e]
   rw[u];by_cases e:y.2=[]
   .rw[ś e]at f;rw[Ř e];show⟨_,t7 rs k W (fP K y.1) (a0 (.loc,A' y)),aX,dq f (rE (k:=.own) (k':=.own) aC rfl (bj (ae rfl) aC trivial (show ip (.loc,A' y) (.int 0)=a0 (.loc,.str y.1) from rfl)) (aG aK (aG aK aD)) rfl rfl (vq ⋯) ak) ak,fP K y.1,_,rfl,g.ins (h y (by simp)).1,λx=>?_,λr hr=>h r (by simp[hr])⟩;rw[mw,m x,ko,ix]
   .rw[ř e]at f;rw[Ś e,sx];show⟨_,t7 rs k W K (a0 (.loc,A' y)),aX,aM f ak ak,K,_,rfl,g,m,λr hr=>h r (by simp[hr])⟩) rs [] (t7 rs k W [] b5) ⟨[],b5,rfl,⟨.nil,by simp⟩,λx=>by simp[heads],b.ok⟩
 rw[gc]at l;have v:=zM (Γ:=Io Pg (d+2)) (st:=t7 rs k W K o3) c (i:=1) (j:=2) (w:=rU K) (H:=heads rs) hl rfl rfl λx=>gH.trans (by simp[l x]);have D:=nC (λw=>cK (w∉heads rs)) L;show(aq H.p _).trans (aF rfl (.inr rfl) (c.start 2) (G4 (aE (aa (ae rfl) (aa (cO hk rfl) af)) (bZ (.inl rfl) (bZ hk trivial)) n) (aB lZ aS (bW (rs:=[(.loc,.tup (rs.map A'))]) (aa (ae rfl) af) trivial jg rfl o (bc (b8 (ae rfl) v trivial (vB (by rw[df];have:=b.rl;lia))) cI)))))
def t8(a:Bz ws rs)(z:JZ rs L)(h:rs.length+L.length<=120):Bz ws (wp rs L):=⟨a.wl,td mC h,vA a.ok (λ_ h=>h) λx b=>a.in (z x b)⟩
def ff(a:Bz ws rs)(K:List Str):(KK.Iq rs K).length<=24:=by
 have b:(KK.Iq rs K).length<=(ai rs).length:=nC _ _;have c:=bM λr hr=>(a.ok r hr).ok;have:=a.wl;lia
def UD(H:ql Pg)(d:Nat)(a:Bz ws rs)(b:KL.Kn rs K)(hl:K.length<=24):Io Pg (d+6) "not_learnt" [.tup (rs.map A')]=a0 (.ok (.own,.lst ((KK.Iq rs K).map .str))):=by
 have e:=bM λr hr=>(a.ok r hr).ok;have f:=a.wl;have c:Io Pg (d+5) "words_of" [.tup (rs.map A')]=a0 (.ok (.own,.lst ((ai rs).map .str))):=(aq H.w _).trans (dP a.rl (λr hr=>(a.ok r hr).ok) ⋯);show(aq H.n _).trans (KK.mB ⋯ ⋯ c (KL.Cb H.L d (λr hr=>(a.ok r hr).ok) a.wl a.rl b))
def a_:x∈KK.Iq rs K↔x∈ai rs/\x∉K:=by rw[KK.qi,cm]
def Ce(H:ql Pg)(d:Nat)(c:Bz ws rs){W:U}(e:Bw L k W)(hl:L.length<=40)(hz:rs.length+L.length<=120)(z:JZ rs L):∃b,Io Pg (d+7) "suffice" [.tup (rs.map A'),W]=a0 (.ok (.loc,.bl b))/\(b=b6↔Suf rs L):=by
 have hk:=e.kd;have f:=t8 c z hz;have⟨K,h,j⟩:=Kn.some f.wl f.ok;have m:=j.len;have n:=c.wl;show⟨cK (KK.Iq (wp rs L) K=[]),(aq H.s _).trans (aF rfl (.inr rfl) (e.start 0) (bc (gW (aE (aa (aE (aa (ae rfl) (aa (cO hk rfl) af)) (bZ (.inl rfl) (bZ hk trivial)) (Qu H (d+3) c e hl z)) af) trivial (UD H d f h ⋯)) (bB af trivial aD (mu _)) trivial (jb (b:=[]))) cI)),?_⟩;rw[decide_eq_true_iff,Rz];constructor
 .intro g x i;show oZ λl=>g x (a_.mpr ⟨(dQ z).mpr i,λy=>l ((Kn.mem h).mp y)⟩)
 .intro g x i;have⟨a,b⟩:=a_.mp i;show b ((Kn.mem h).mpr (g x ((dQ z).mp a)))
def Kn.zN(b:KL.Kn rs K):∀r∈rs,r.1∈KK.Iq rs K->∃x∈r.2,x∈KK.Iq rs K:=λr h hz=>by
 apply oZ;intro c;show(KK.qi.mp hz).2 (b.cl r h λx a=>?_);apply oZ;intro d;show c ⟨x,a,KK.qi.mpr ⟨bS.mpr ⟨r,h,.inr a⟩,d⟩⟩
def Rt(H:ql Pg)(hk:IK Pg "knot" KK.ou)(d:Nat)(a:Bz ws rs)(hr:rs.length<=120)(b:KL.Kn rs K)(hl:K.length<=24):Io Pg (d+7) "knot" [.tup (rs.map A')]=a0 (.ok (.own,.lst ((KK.aL (KK.Iq rs K) rs).map A'))) :=
 (aq hk _).trans (KK.zL hr (λr h=>(a.ok r h).2.2.2) (KK.fc _ _) (by have:=ff a K;lia) (Kn.zN b) (UD H d a b hl))
def Suf.Iq(e:KL.Kn rs K):Suf rs (KK.Iq rs K):=λx f C d=>by
 by_cases h:x∈K
 .show(Kn.mem e).mp h C λr hr=>d r (wh _ hr)
 .by_cases hh:x∈heads rs
  .have⟨r,hr,rfl⟩:=gs.mp hh;have⟨a,b⟩:=hY.mp hr;show d r (wh _ a) λy c=>by rw[Ŝ b]at c;cases c
  .show d (x,[]) (oR _ (gs.mpr ⟨x,hY.mpr ⟨a_.mpr ⟨f,h⟩,ś hh⟩,rfl⟩)) λy c=>by cases c
end
abbrev Jt:Nat->List Str->List (List Str)
 |0,_=>[[]]
 |_+1,[]=>[]
 |n+1,w::ws=>(Jt n ws).map (w::·)++Jt (n+1) ws
theorem kL:∀(n:Nat) (ws:List Str),(Jt n ws).length<=2 ^ ws.length
 |0,ws=>by simpa[Jt] using Nat.one_le_two_pow
 |n+1,[]=>by simp[Jt]
 |n+1,w::ws=>by
  have a:=kL n ws;have b:=kL (n+1) ws;simp only[Jt,i4,df,mh,ZX];lia
theorem gI:∀(n:Nat) (ws l:List Str),l∈Jt n ws->l.Sublist ws/\l.length=n
 |0,ws,l,h=>by
  simp only[Jt,ix]at h;subst h;show⟨List.nil_sublist _,rfl⟩
 |n+1,[],l,h=>by simp[Jt]at h
 |n+1,w::ws,l,h=>by
  simp only[Jt,ko,gs]at h;rcases h with⟨m,c,rfl⟩|h
  .have⟨a,b⟩:=gI n ws m c;show⟨a.cons₂ w,by rw[mh,b]⟩
  .have⟨a,b⟩:=gI (n+1) ws l h;show⟨a.cons w,b⟩
theorem kM:∀(ws l:List Str),l.Sublist ws->l∈Jt l.length ws
 |ws,[],_=>by simp[Jt]
 |[],x::l,h=>by cases h
 |w::ws,x::l,h=>by
  simp only[mh,Jt,ko,gs];cases h with
  |cons _ h=>show .inr (kM ws (x::l) h)
  |cons_cons _ h=>show .inl ⟨l,kM ws l h,rfl⟩
def zO(a b:List α):cut (a++b) (a0 (a.length:Nat)) b5=b:=by
 have c:HT.IG (a++b).length 0 (a0 ((a.length:Nat):Int))=a.length:=by rw[HT.Ay];simp
 have d:HT.IG (a++b).length (a++b).length b5=(a++b).length:=rfl;unfold cut;rw[c,d,List.drop_left,N' (by simp)]
abbrev IJ(l:List Str):U:=.lst (l.map .str)
section
abbrev G8:List S:=[.app 2 (.bin .add (.lst [.var 4]) (.var 5))]
abbrev V7:List S :=
   [.IF cb [5] .seq [.call "choices" [.MB (.var 0) [.bin .add (.var 3) (.cst (.int 1))] [],.bin .sub (.var 1) (.cst (.int 1))]] G8]
abbrev UE:Fn:=⟨"choices",2,6,[.ite (.cmp .eq (.var 1) (.cst (.int 0))) [.ret (.lst [.lst []])] [],.set 2 (.lst []),.IF b6 [3,4] .MP [.var 0] V7,.ret (.var 2)]⟩
abbrev rX(ws:List Str)(n:Int)(cs:List (List Str))(o3 o4 o5:Option (Kd×U)):aA:=[a0 (.any,.lst (ws.map .str)),a0 (.loc,.int n),a0 (.own,.lst (cs.map IJ)),o3,o4,o5]
theorem C1(h:IK Pg "choices" UE):∀(n:Nat) (ws:List Str) (d:Nat),ws.length<=24->2 ^ ws.length<=1000->Io Pg (d+n+1) "choices" [.lst (ws.map .str),.int (n:Nat)]=a0 (.ok (.own,.lst ((Jt n ws).map IJ)))
 |0,ws,d,_,_=>by
  have hsz:(1000:Nat)<=dV:=by decide
  rw[show Jt 0 ws=[[]] by simp[Jt]];show(aq h _).trans (aF (st0:=[a0 (.any,.lst (ws.map .str)),a0 (.loc,.int (0:Nat)),b5,b5,b5,b5]) rfl (.inl rfl) rfl (pW (gk (aR (ae rfl) aC trivial (cJ rfl)) (bc (bB (aa (bB af trivial aD (mu _)) af) trivial (aG jX aD) (by change 1<=dV;lia)) fL))))
 |n+1,ws,d,hl,x=>by
  have hsz:(1000:Nat)<=dV:=by decide
  have j:JX .MP [(.any,.lst (ws.map .str))]=a0 (ws.zipIdx.map λp:Str×Nat=>(Kd.any,U.tup [.int (p.2:Nat),.str p.1])):=by
   change a0 ((ws.map U.str).zipIdx.map λp=>(kE .any,U.tup [.int p.2,p.1]))=_;rw[ą,et];rfl
  have⟨st',z,cs,o3,o4,o5,a,b,rfl,g,hr,f⟩:=bI (rs:=[(.any,.lst (ws.map .str))]) (t:=b6) (is:=[3,4]) (body:=execs (Io Pg (d+(n+1))) V7) (λp:Str×Nat=>(Kd.any,U.tup [.int (p.2:Nat),.str p.1]))
   (λ_ r st=>∃cs o3 o4 o5 a b,st=rX ws ((n+1:Nat):Int) cs o3 o4 o5/\a++b=ws/\r=b.zipIdx a.length/\cs++Jt (n+1) b=Jt (n+1) ws) (λ_ _ _ _=>trivial) (λe y r st o=>by
    have⟨cs,o3,o4,o5,a,b,q,g,hr,f⟩:=o;subst q;cases b with
    |nil=>cases hr
    |cons w b =>
     rw[W0,NV]at hr;have⟨rfl,rfl⟩:=hr;have N:b.length+a.length+1=ws.length:=by rw[<-g];simp;lia
     have A:2 ^ b.length<=1000:=td (RJ ⋯ ⋯) x;have O:cs.length+(Jt n b).length<=1000:=by
      have B:=ŝ G2 f;have Q:=kL (n+1) ws;simp only[Jt,i4,df]at B;lia
     have C:=C1 h n b d ⋯ A;let S:=rX ws ((n+1:Nat):Int) cs (a0 (.any,.int (a.length:Nat))) (a0 (.any,.str w)) o5;have D:Run (ev (Io Pg (d+(n+1))) (.call "choices" [.MB (.var 0) [.bin .add (.var 3) (.cst (.int 1))] [],.bin .sub (.var 1) (.cst (.int 1))])) S (.own,.lst ((Jt n b).map IJ)) S:=by
      have q:cut ws (a0 ((a.length:Nat)+1:Int)) b5=b:=by
       have:=zO (a++[w]) b;rw[Tw,List.singleton_append,g,i4,JJ,YP]at this;show this
      have s:mS (.any,.lst (ws.map .str)) (a0 ((a.length:Nat)+1:Int)) b5=a0 (.own,.lst (b.map .str)):=by
       rw[B1 (jH (.inl rfl)),q]
      show aE (aa (CQ (ay rfl) (CP (b8 (ay rfl) aC trivial hJ)) CO trivial s) (aa (b8 (ae rfl) aC trivial fj) af)) trivial (by
       change Io Pg (d+(n+1)) "choices" [.lst (b.map .str),.int (((n+1:Nat):Int) - 1)]=_;rw[show(((n+1:Nat):Int) - 1)=(n:Nat) by lia];show C)
     have⟨st2,G,T,m,rfl,i⟩:=bI (rs:=[(.own,.lst ((Jt n b).map IJ))]) (t:=cb) (is:=[5]) (body:=execs (Io Pg (d+(n+1))) G8) (λl:List Str=>(Kd.loc,IJ l))
      (λm r st=>∃o5 v,st=rX ws ((n+1:Nat):Int) (cs++m.map (w::·)) (a0 (.any,.int (a.length:Nat))) (a0 (.any,.str w)) o5/\v=m/\m++r=Jt n b) (λ_ _ _ _=>trivial) (λm l r st o=>by
       obtain⟨o5,v,s,_,i⟩:=o;subst s;have Y:m.length<(Jt n b).length:=by rw[<-i];simp
       have Ol:l.length=n/\l.length<=24:=by
        have⟨H,I⟩:=gI n b l (by rw[<-i];simp);have:=H.length_le;show⟨I,⋯⟩
       show⟨rX ws ((n+1:Nat):Int) (cs++m.map (w::·)) (a0 (.any,.int (a.length:Nat))) (a0 (.any,.str w)) (a0 (.loc,IJ l)),rX ws ((n+1:Nat):Int) (cs++(m++[l]).map (w::·)) (a0 (.any,.int (a.length:Nat))) (a0 (.any,.str w)) (a0 (.loc,IJ l)),aX,?_,_,_,rfl,rfl,by rw[<-i];simp⟩;have J:Run (ev (Io Pg (d+(n+1))) (.bin .add (.lst [.var 4]) (.var 5))) (rX ws ((n+1:Nat):Int) (cs++m.map (w::·)) (a0 (.any,.int (a.length:Nat))) (a0 (.any,.str w)) (a0 (.loc,IJ l))) (.own,IJ (w::l)) _:=b8 (bB (aa (ay rfl) af) trivial (aG (eD rfl) aD) (by change 1<=dV;lia)) (ae rfl) trivial (d9 (by change 1+(l.map U.str).length<=dV;rw[df];lia) rfl rfl);show jY (k:=.own) (k':=.own) rfl J jX rfl rfl (by simp;lia) ?_;rw[show(cs++m.map (w::·)).map IJ++[IJ (w::l)]=(cs++(m++[l]).map (w::·)).map IJ by simp];show ak) (Jt n b) [] (rX ws ((n+1:Nat):Int) cs (a0 (.any,.int (a.length:Nat))) (a0 (.any,.str w)) o5) ⟨o5,[],by simp,rfl,by simp⟩
     rw[gc]at *;show⟨S,_,e_ (.inr rfl),bW (rs:=[(.own,.lst ((Jt n b).map IJ))]) (aa D af) trivial (by change a0 (((Jt n b).map IJ).map λu=>(kE .own,u))=_;rw[et];rfl) rfl G ak,_,_,_,_,a++[w],b,rfl,by rw[<-g];simp,by simp,?_⟩;rw[Tw,<-f];rfl) ws.zipIdx [] (rX ws ((n+1:Nat):Int) [] b5 b5 b5) ⟨[],b5,b5,b5,[],ws,rfl,rfl,rfl,rfl⟩
  have L:b=[]:=by
   cases b with
   |nil=>rfl
   |cons w b=>cases hr
  subst L;have f:cs=Jt (n+1) ws:=by rw[<-f];simp[Jt]
  subst f;show(aq h _).trans (aF (st0:=[a0 (.any,.lst (ws.map .str)),a0 (.loc,.int ((n+1:Nat):Int)),b5,b5,b5,b5]) rfl (.inl rfl) rfl (aM (aR (ae rfl) aC trivial (cJ (c:=cb) (by simp;lia))) ak (aB (bB af trivial aD (mu _)) aS (bW (rs:=[(.any,.lst (ws.map .str))]) (aa (ay rfl) af) trivial j rfl z (bc (av rfl) (i_ rfl))))))
end
section
def G9(h:st[i]?=a0 (a0 (.loc,.int m)))(b:Run (execs Γ ss) (st.set i (a0 (.loc,.int (m+n)))) c st1):Run (execs Γ (.inc i n::ss)) st c st1 :=
 fD (ag (gh h (by intro z;cases z)) (ag (a:=m) (st1:=st) rfl (ag aX bb))) b
def E8(h:JL 50 (.lst us)=b6):bw .eq (.lst us) (.lst [])=a0 us.isEmpty:=by
 simp only[bw];rw[Ř ⟨h,by simp[JL,cy]⟩];cases us with
 |_=>simp[cz,cP]
theorem vC:∀(cs:List (List Str)) (n:Nat),cy (n+1) (cs.map IJ)=b6
 |[],n=>by simp[cy]
 |l::cs,n=>by
  have a:=vC cs n;have b:=iA l n;simp only[gi,cy,eh];show⟨b,a⟩
def Cg{cs:List (List Str)}:bw .eq (.lst (cs.map IJ)) (.lst [])=a0 cs.isEmpty:=by
 rw[E8 (by change cy 49 (cs.map IJ)=b6;show vC cs 48)];cases cs<;>rfl
abbrev UG:List S :=
   [.set 3 (.comp 1 cb .seq [.call "choices" [.var 1,.var 2]] [.call "suffice" [.var 1,.var 0]] (.var 0)),
   .inc 2 1]
abbrev UH:Fn:=⟨"fewest_words",2,4,[.set 2 (.cst (.int 0)),.set 3 (.lst []),.MC (.cmp .eq (.var 3) (.lst [])) UG,.ret (.idx (.var 3) (.cst (.int 0)))]⟩
abbrev qm(rs:List Row)(ws:List Str)(m:Int)(cs:List (List Str)):aA:=[a0 (.loc,.tup (rs.map A')),a0 (.any,.lst (ws.map .str)),a0 (.loc,.int m),a0 (.own,.lst (cs.map IJ))]
abbrev dS(rs:List Row)(l:List Str):Bool:=@cK (Suf rs l) (Xu _)
def zP:dS rs l=b6↔Suf rs l:=@decide_eq_true_iff _ (Xu _)
abbrev K6(rs:List Row)(ws:List Str)(m:Nat):List (List Str):=(Jt m ws).filter (dS rs)
def qo:l∈K6 rs ws m↔l∈Jt m ws/\Suf rs l:=by
 unfold K6;rw[hY,zP]
structure UI(Γ:Tab)(rs:List Row)(ws:List Str):Prop where
 len:2 ^ ws.length<=1000
 ch:∀m,m<=ws.length->Γ "choices" [.lst (ws.map .str),.int (m:Nat)]=a0 (.ok (.own,.lst ((Jt m ws).map IJ)))
 sf:∀l,l.Sublist ws->∃b,Γ "suffice" [.tup (rs.map A'),IJ l]=a0 (.ok (.loc,.bl b))/\(b=b6↔Suf rs l)
 all:Suf rs ws
def Ci(H:UI Γ rs ws)(c:m<=ws.length):Run (execs Γ UG) (qm rs ws (m:Nat) cs) .nx (qm rs ws ((m:Nat)+1) (K6 rs ws m)):=by
 have hsz:(1000:Nat)<=dV:=by decide
 have f:=kL m ws;have hl:=H.len;have a:=dv (cond:=aJ Γ [.call "suffice" [.var 1,.var 0]]) (elt:=ev Γ (.var 0)) (src:=[(.own,.lst ((Jt m ws).map IJ))]) (st:=qm rs ws (m:Nat) cs) trivial .loc (.inl rfl) IJ IJ (dS rs) .loc (Jt m ws) [] (by simp;lia)
  (λl hl=>by
   have⟨b,d,e⟩:=H.sf l (gI m ws l hl).1;have:b=dS rs l:=JM.mpr (e.trans zP.symm);subst this;show⟨cu (dE (aa (ae rfl) (aa (ae rfl) af)) trivial d rfl),λ_=>⟨ae rfl,aK⟩⟩)
 rw[gc]at a;have q:Run (ev Γ (.comp 1 cb .seq [.call "choices" [.var 1,.var 2]] [.call "suffice" [.var 1,.var 0]] (.var 0))) (qm rs ws (m:Nat) cs) (.own,.lst ((K6 rs ws m).map IJ)) (qm rs ws (m:Nat) cs) :=
  a5 (rs:=[(.own,.lst ((Jt m ws).map IJ))]) (aa (aE (aa (ay rfl) (aa (ae rfl) af)) trivial (H.ch m c)) af) trivial (by change a0 (((Jt m ws).map IJ).map λu=>(kE .own,u))=_;rw[et];rfl) a
 show aB q aS (G9 rfl ak)
theorem vD(H:UI Γ rs ws):∀(f m:Nat),m<=ws.length->ws.length - m+1<f->(∀j,j<m->K6 rs ws j=[])->∃d,d<=ws.length/\K6 rs ws d≠[]/\(∀j,j<d->K6 rs ws j=[])/\Run (fO (IU Γ (.cmp .eq (.var 3) (.lst []))) (execs Γ UG) (f+1)) (qm rs ws (m:Nat) []) .nx (qm rs ws ((d:Nat)+1) (K6 rs ws d))
 |0,m,_,h,_=>by lia
 |f+1,m,l,h,n=>by
  have k:∀(i:Int) (cs:List (List Str)),Run (IU Γ (.cmp .eq (.var 3) (.lst []))) (qm rs ws i cs) cs.isEmpty (qm rs ws i cs):=λi cs=>aR (av rfl) (bB af trivial aD (mu _)) ⟨⟨.own,rfl,rfl⟩,trivial⟩ Cg;have q:=Ci H l (cs:=[]);by_cases g:K6 rs ws m=[]
  .have s:m<ws.length:=by
    rcases Nat.lt_or_ge m ws.length with h1|h1
    .show h1
    .have:m=ws.length:=by lia
     subst this;have:ws∈K6 rs ws ws.length:=qo.mpr ⟨kM ws ws (Y5 _),H.all⟩;rw[g]at this;cases this
   rw[g]at q;have⟨d,a,b,c,r⟩:=vD H f (m+1) ⋯ ⋯ λj t=>by
    by_cases e:j=m
    .subst e;show g
    .show n j ⋯
   show⟨d,a,b,c,rQ (k _ []) q r⟩
  .have p:(K6 rs ws m).isEmpty=cb:=by
    cases h:K6 rs ws m with
    |nil=>show absurd h g
    |cons _ _=>rfl
   have o:=k ((m:Nat)+1) (K6 rs ws m);rw[p]at o;show⟨m,l,g,n,rQ (k _ []) q (rP o)⟩
structure Om(rs:List Row)(ws l:List Str):Prop where
 sub:l.Sublist ws
 Nr:Suf rs l
 min:∀l',l'.Sublist ws->Suf rs l'->l.length<=l'.length
def Ie(H:UI Γ rs ws):∃l,bT Γ UH [.tup (rs.map A'),.lst (ws.map .str)]=a0 (.ok (.loc,IJ l))/\Om rs ws l:=by
 have⟨m,i,b,c,r⟩:=vD H 999999999999 0 ⋯ (by have:=H.len;have:ws.length<2 ^ ws.length:=Nat.lt_two_pow_self;lia) (λj h=>by lia);cases a:K6 rs ws m with
 |nil=>show absurd a b
 |cons l cs =>
  have hl:=qo.mp (show l∈K6 rs ws m by rw[a];simp);rw[a]at r;show⟨l,aF (st0:=[a0 (.loc,.tup (rs.map A')),a0 (.any,.lst (ws.map .str)),b5,b5]) rfl (.inr rfl) ?_ (aB aC aX (aB (bB af trivial aD (mu _)) aS (rR r (bc (bj (av rfl) aC ⟨⟨.own,rfl,rfl⟩,trivial⟩ (bo (show Jb ((l::cs).map IJ) ((0:Nat):Int)=_ from cv rfl))) cI)))),(gI m ws l hl.1).1,hl.2,λd e f=>?_⟩
  .change [a0 (if IY (.tup (rs.map A'))=b6 then Kd.loc else Kd.any,U.tup (rs.map A')),a0 (Kd.any,U.lst (ws.map .str)),b5,b5]=_;rw[bp]
  .rw[(gI m ws l hl.1).2];show ă λg=>?_;have:=qo.mpr ⟨kM ws d e,f⟩;rw[c _ g]at this;cases this
end
section
abbrev G_:E:=.comp 1 cb .seq [.var 3] [] (.tup [.idx (.var 0) (.cst (.int 0)),.call "paper" [.var 1,.bin .add (.var 2) (.lst [.idx (.var 0) (.cst (.int 0))]),.bin .sub (.var 3) (.cst (.int 1))]])
abbrev E9:Fn:=⟨"paper",3,4,[.set 3 (.call "knot" [.call "with_pictures" [.var 0,.var 1]]),.ite (.cmp .eq (.var 2) (.cst (.int 0))) [.ret (.tup [.var 3,.tup []])] [],.ret (.tup [.var 3,.bi .tuple [G_]])]⟩
abbrev Lz(rs P:List Row):Prop:=∃K,KL.Kn rs K/\P=KK.aL (KK.Iq rs K) rs
inductive Nt(rs:List Row):List Str->Nat->U->Prop
 |zero {gv:List Str} {P:List Row}:Lz (wp rs gv) P->Nt rs gv 0 (.tup [.lst (P.map A'),.tup []])
 |succ {gv:List Str} {n:Nat} {P:List Row} (g:Row->U):Lz (wp rs gv) P->(∀p∈P,Nt rs (gv++[p.1]) n (g p))->Nt rs gv (n+1) (.tup [.lst (P.map A'),.tup (P.map λp=>.tup [.str p.1,g p])])
def Lz.word(hk:JZ rs a)(h:Lz (wp rs a) P):∀p∈P,p.1∈ai rs:=λp b=>by
 obtain⟨K,_,rfl⟩:=h;have⟨x,c,rfl⟩:=gs.mp b;show(dQ hk).mp (a_.mp c).1
def Ha(H:ql Pg)(hk:IK Pg "knot" KK.ou)(h:IK Pg "paper" E9)(j:Bz ws rs):∀(n:Nat) (f:List Str) (d:Nat),rs.length+f.length+n<=100->f.length+n<=40->JZ rs f->∃u,Io Pg (d+n+8) "paper" [.tup (rs.map A'),.lst (f.map .str),.int (n:Nat)]=a0 (.ok (.loc,u))/\Nt rs f n u:=by
 have hsz:(1000:Nat)<=dV:=by decide
 intro n;induction n with
 |zero =>
  intro f d v w hz;have i:=t8 j hz ⋯;have⟨K,l,m⟩:=Kn.some i.wl i.ok;have y:=m.len;have A:=j.wl;have q:=Rt H hk d i (td mC ⋯) l ⋯;show⟨_,(aq h _).trans (aF (st0:=[a0 (.loc,.tup (rs.map A')),a0 (.any,.lst (f.map .str)),a0 (.loc,.int (0:Nat)),b5]) rfl (.inr rfl) ?_ (aB (aE (aa (aE (aa (ae rfl) (aa (ay rfl) af)) trivial (Qu H (d+4) j .lst ⋯ hz)) af) trivial q) aS (pW (gk (aR (ae rfl) aC trivial (cJ rfl)) (bc (cQ (aa (av rfl) (aa (cQ af trivial aD (mu _)) af)) ⟨⟨.own,rfl,rfl⟩,trivial⟩ (aG (rO rfl) (aG aK aD)) (by change 2<=dV;lia)) cI))))),.zero ⟨K,l,rfl⟩⟩;change [a0 (if IY (.tup (rs.map A'))=b6 then Kd.loc else Kd.any,U.tup (rs.map A')),a0 (Kd.any,U.lst (f.map .str)),a0 (Kd.loc,U.int (0:Nat)),b5]=_;rw[bp]
 |succ n B =>
  intro f d v w hz;have i:=t8 j hz ⋯;have⟨K,l,m⟩:=Kn.some i.wl i.ok;have y:=m.len;have A:=j.wl;have q:=Rt H hk (d+n+1) i (td mC ⋯) l ⋯;have r:Lz (wp rs f) (KK.aL (KK.Iq (wp rs f) K) (wp rs f)):=⟨K,l,rfl⟩
  have C:(KK.aL (KK.Iq (wp rs f) K) (wp rs f)).length<=24:=by
   unfold KK.aL;rw[df];show ff i K
  generalize KK.aL (KK.Iq (wp rs f) K) (wp rs f)=P at q r C;have D:=r.word hz;have G:∀p:Row,∃u,p∈P->Io Pg (d+n+8) "paper" [.tup (rs.map A'),.lst ((f++[p.1]).map .str),.int (n:Nat)]=a0 (.ok (.loc,u))/\Nt rs (f++[p.1]) n u:=λp=>by
   by_cases k:p∈P
   .have⟨u,a,b⟩:=B (f++[p.1]) d (by simp;lia) (by simp;lia) λx hx=>by
     rcases ko.mp hx with hx|hx
     .show hz x hx
     .rw[ix]at hx;subst hx;show D p k
    show⟨u,λ_=>⟨a,b⟩⟩
   .show⟨.Iy,λz=>absurd z k⟩
  have⟨g,s⟩:=Classical.axiomOfChoice G;let S:Option (Kd×U)->aA:=λo=>[a0 (.loc,.tup (rs.map A')),a0 (.any,.lst (f.map .str)),a0 (.loc,.int ((n+1:Nat):Int)),o]
  have hx:=bX (cond:=aJ (Io Pg (d+(n+1)+7)) []) (elt:=ev (Io Pg (d+(n+1)+7)) (.tup [.idx (.var 0) (.cst (.int 0)),.call "paper" [.var 1,.bin .add (.var 2) (.lst [.idx (.var 0) (.cst (.int 0))]),.bin .sub (.var 3) (.cst (.int 1))]])) (src:=[(.bor 3,.lst (P.map A'))]) (st:=S (a0 (.own,.lst (P.map A')))) ⟨⟨.own,rfl,rfl⟩,trivial⟩ .loc (.inl rfl) A' (λp=>.tup [.str p.1,g p]) .loc (λ_=>cH) P [] (by simp;lia)
   (λp k=>by
    have t:∀st',Run (ev (Io Pg (d+(n+1)+7)) (.idx (.var 0) (.cst (.int 0)))) (a0 (.loc,A' p)::st') (.loc,.str p.1) (a0 (.loc,A' p)::st'):=λst'=>bj (ae rfl) aC trivial (show ip (.loc,A' p) (.int 0)=a0 (.loc,.str p.1) from rfl);have ad:Kg .add (.any,.lst (f.map .str)) (.own,.lst [.str p.1])=a0 (.own,.lst ((f++[p.1]).map .str)):=by
     rw[d9 (by change(f.map U.str).length+1<=dV;rw[df];lia) (jH (.inl rfl)) rfl,my];rfl
    have e:=(s p k).1;have I:Io Pg (d+(n+1)+7) "paper" [.tup (rs.map A'),.lst ((f++[p.1]).map .str),.int (((n+1:Nat):Int) - 1)]=a0 (.ok (.loc,g p)):=by
     rw[show(((n+1:Nat):Int) - 1)=(n:Nat) by lia,show d+(n+1)+7=d+n+8 by lia];show e
    show⟨cQ (aa (t _) (aa (aE (aa (ae rfl) (aa (b8 (ay rfl) (bB (aa (t _) af) trivial (aG aK aD) (by change 1<=dV;lia)) trivial ad) (aa (b8 (ae rfl) aC trivial fj) af))) trivial I) af)) trivial (aG aK (aG aK aD)) (by change 2<=dV;lia),aK⟩)
  rw[gc]at hx;have J:Run (ev (Io Pg (d+(n+1)+7)) G_) (S (a0 (.own,.lst (P.map A')))) (.own,.lst (P.map λp=>.tup [.str p.1,g p])) (S (a0 (.own,.lst (P.map A')))):=a5 (rs:=[(.bor 3,.lst (P.map A'))]) (aa (av rfl) af) ⟨⟨.own,rfl,rfl⟩,trivial⟩ (by change a0 ((P.map A').map λu=>(kE (.bor 3),u))=_;rw[et];rfl) hx;show⟨_,(aq h _).trans (aF (st0:=S b5) rfl (.inr rfl) ?_ (aB (aE (aa (aE (aa (ae rfl) (aa (ay rfl) af)) trivial (Qu H (d+(n+1)+4) j .lst ⋯ hz)) af) trivial (by rw[show d+(n+1)+7=d+n+1+7 by lia];show q)) aS (aM (aR (ae rfl) aC trivial (cJ (c:=cb) (by simp;lia))) ak (bc (cQ (aa (av rfl) (aa (cC (aa J af) trivial rfl) af)) ⟨⟨.own,rfl,rfl⟩,trivial⟩ (aG (rO rfl) (aG aK aD)) (by change 2<=dV;lia)) cI)))),.succ g r λp k=>(s p k).2⟩;change [a0 (if IY (.tup (rs.map A'))=b6 then Kd.loc else Kd.any,U.tup (rs.map A')),a0 (Kd.any,U.lst (f.map .str)),a0 (Kd.loc,U.int ((n+1:Nat):Int)),b5]=_;rw[bp]
end
section
abbrev Hb:Fn:=⟨"fewest",1,3,[.set 1 (.call "not_learnt" [.var 0]),.ite (.cmp .gt (.bi .len [.var 1]) (.NX "MOST_NOT_LEARNT" (.int 5))) [.bad] [],.set 2 (.call "fewest_words" [.var 0,.var 1]),.ite (.cmp .eq (.var 2) (.lst [])) [.ret (.tup [.var 2,.cst .Iy])] [],.ret (.tup [.var 2,.call "paper" [.var 0,.lst [],.bin .sub (.bi .len [.var 2]) (.cst (.int 1))]])]⟩
structure V9(Pg:List Fn):Prop where
 P:ql Pg
 k:IK Pg "knot" KK.ou
 c:IK Pg "choices" UE
 f:IK Pg "fewest_words" UH
 p:IK Pg "paper" E9
 t:IK Pg "fewest" Hb
inductive UJ(rs:List Row)(ws:List Str):U->Prop
 |nil:Om rs ws []->UJ rs ws (.tup [.lst [],.Iy])
 |cons {x:Str} {l:List Str} {v:U}:Om rs ws (x::l)->Nt rs [] l.length v->UJ rs ws (.tup [IJ (x::l),v])
def Hc(H:V9 Pg)(d:Nat)(e:Bz ws rs)(hr:rs.length<=90)(i:KL.Kn rs K)(y:K.length<=24)(h:(KK.Iq rs K).length<=5):
  ∃u,Io Pg (d+13) "fewest" [.tup (rs.map A')]=a0 (.ok (.loc,u))/\UJ rs (KK.Iq rs K) u:=by
 have hsz:(1000:Nat)<=dV:=by decide
 have j:start [.tup (rs.map A')] 3=[a0 (.loc,.tup (rs.map A')),b5,b5]:=ŝ (λx:Option (Kd×U)=>[x,b5,b5]) (bp rs);have n:Io Pg (d+12) "not_learnt" [.tup (rs.map A')]=a0 (.ok (.own,.lst ((KK.Iq rs K).map .str))):=UD H.P (d+6) e i y;have z:∀o:Option (Kd×U),Run (IU (Io Pg (d+12)) (.cmp .gt (.bi .len [.var 1]) (.NX "MOST_NOT_LEARNT" (.int 5)))) [a0 (.loc,.tup (rs.map A')),a0 (.own,.lst ((KK.Iq rs K).map .str)),o] (cK (5<(KK.Iq rs K).length)) [a0 (.loc,.tup (rs.map A')),a0 (.own,.lst ((KK.Iq rs K).map .str)),o]:=λo=>aR (cC (aa (av rfl) af) ⟨⟨.own,rfl,rfl⟩,trivial⟩ cE) GN trivial (ja (by rw[df];simp;lia));have A:JZ rs (KK.Iq rs K):=λx a=>(a_.mp a).1;have g:=z b5;rw[ř ⋯]at g;have q:2 ^ (KK.Iq rs K).length<=1000:=td (RJ ⋯ h) (by decide);have⟨l,B,hl⟩:=Ie (Γ:=Io Pg (d+11)) (rs:=rs) (ws:=KK.Iq rs K) ⟨q,λm J=>by
   have:=C1 H.c m (KK.Iq rs K) (d+10 - m) ⋯ q;rw[show d+10 - m+m+1=d+11 by lia]at this;show this,λl hl=>Ce H.P (d+4) e .lst (by have:=hl.length_le;lia) (by have:=hl.length_le;lia) λx a=>A x (hl.subset a),Suf.Iq i⟩
 have C:Io Pg (d+12) "fewest_words" [.tup (rs.map A'),.lst ((KK.Iq rs K).map .str)]=a0 (.ok (.loc,IJ l)):=(aq H.f _).trans B;have D:=hl.sub.length_le;have r:Run (ev (Io Pg (d+12)) (.call "fewest_words" [.var 0,.var 1])) [a0 (.loc,.tup (rs.map A')),a0 (.own,.lst ((KK.Iq rs K).map .str)),b5] (.loc,IJ l) [a0 (.loc,.tup (rs.map A')),a0 (.own,.lst ((KK.Iq rs K).map .str)),b5]:=aE (aa (ae rfl) (aa (av rfl) af)) (by show⟨⟨.own,rfl,rfl⟩,trivial⟩) C;have s:Run (IU (Io Pg (d+12)) (.cmp .eq (.var 2) (.lst []))) [a0 (.loc,.tup (rs.map A')),a0 (.own,.lst ((KK.Iq rs K).map .str)),a0 (.loc,IJ l)] (cK (l=[])) [a0 (.loc,.tup (rs.map A')),a0 (.own,.lst ((KK.Iq rs K).map .str)),a0 (.loc,IJ l)]:=aR (ae rfl) (bB af trivial aD (mu _)) trivial (jb (b:=[]));cases l with
 |nil=>show⟨_,(aq H.t _).trans (aF rfl (.inr rfl) j (aB (aE (aa (ae rfl) af) trivial n) aS (aM g ak (aB r aX (pW (gk s (bc (cQ (aa (ae rfl) (aa aC af)) trivial (aG aK (aG aK aD)) (by change 2<=dV;lia)) cI))))))),.nil hl⟩
 |cons x l =>
  rw[mh]at D;have⟨v,w,G⟩:=Ha H.P H.k H.p e l.length [] (d+4 - l.length) (by simp;lia) (by simp;lia) (λx a=>by cases a);rw[show d+4 - l.length+l.length+8=d+12 by lia]at w;have I:Io Pg (d+12) "paper" [.tup (rs.map A'),.lst [],.int ((((x::l).map U.str).length:Nat) - 1)]=a0 (.ok (.loc,v)):=by
   rw[show((((x::l).map U.str).length:Nat):Int) - 1=(l.length:Nat) by simp];show w
  show⟨_,(aq H.t _).trans (aF rfl (.inr rfl) j (aB (aE (aa (ae rfl) af) trivial n) aS (aM g ak (aB r aX (aM s ak (bc (cQ (aa (ae rfl) (aa (aE (aa (ae rfl) (aa (bB af trivial aD (mu _)) (aa (b8 (cC (aa (ae rfl) af) trivial cE) aC trivial fj) af))) trivial I) af)) trivial (aG aK (aG aK aD)) (by change 2<=dV;lia)) cI)))))),.cons hl G⟩
end
section
def zQ(h:x∈L):Ln (wp rs L) x:=λC d=>by
 by_cases hh:x∈heads rs
 .have⟨r,hr,rfl⟩:=gs.mp hh;have⟨a,b⟩:=hY.mp hr;show d r (wh _ a) λy c=>by rw[Ŝ b]at c;cases c
 .show d (x,[]) (oR _ (gs.mpr ⟨x,hY.mpr ⟨h,ś hh⟩,rfl⟩)) λy c=>by cases c
def Hd(h:Ln rs x):Ln (wp rs L) x:=λC a=>h C λr hr=>a r (wh _ hr)
def gJ(z:JZ rs L):ai (wp rs L)=ai rs:=by
 have a:aH (ai (wp rs L))=ai rs:=d_ ((DD (cn _) (cn _)).mpr λx=>dQ z) (bU _);have b:aH (ai (wp rs L))=ai (wp rs L):=d_ (MI _) (bU _);show b.symm.trans a
structure MF(ws:List Str)(rs:List Row)(K:List Str):Prop where
 wl:ws.length<=24
 ok:∀r∈rs,eE ws r
 rl:rs.length+(KK.Iq rs K).length<=84
 kn:KL.Kn rs K
 ks:jE ws K
def MF.z(h:MF ws rs K):Bz ws rs:=⟨h.wl,by have:=h.rl;lia,h.ok⟩
def MF.next(h:MF ws rs K)(d:x∈KK.Iq rs K)(k1:KL.Kn (wp rs [x]) a)(k2:jE ws a):MF ws (wp rs [x]) a/\((KK.Iq rs K).filter λy=>!cK (y∈a))=KK.Iq (wp rs [x]) a/\(KK.Iq (wp rs [x]) a).length<(KK.Iq rs K).length:=by
 have hz:JZ rs [x]:=λy b=>by rw[ix]at b;subst b;show(a_.mp d).1
 have e:((KK.Iq rs K).filter λy=>!cK (y∈a))=KK.Iq (wp rs [x]) a:=by
  unfold KK.Iq;rw[gJ hz,Ù];show Q0 λy _=>?_;by_cases c:y∈a
  .simp[c]
  .have:y∉K:=λz=>c ((Kn.mem k1).mpr (Hd ((Kn.mem h.kn).mp z)));simp[c,this]
 have hl:(KK.Iq (wp rs [x]) a).length<(KK.Iq rs K).length:=by
  rw[<-e,List.length_filter_lt_length_iff_exists];show⟨x,d,by simpa using(Kn.mem k1).mpr (zQ (by simp))⟩
 have f:=mC (rs:=rs) (L:=[x]);have hr:=h.rl;rw[JJ]at f;show⟨⟨h.wl,vA h.ok (λ_ h=>h) λy b=>h.z.in (hz y b),⋯,k1,k2⟩,e,hl⟩
end
section
abbrev MY(rs:List Row)(Y:List Str):Prop:=∀r∈rs,r.1∈Y->∃x∈r.2,x∈Y
structure LP(rs:List Row)(L Z:List Str):Prop where
 sub:Z.Sublist (ai rs)
 out:∀x∈Z,x∉L
 sup:MY rs Z
 max:∀Y:List Str,(∀x∈Y,x∈ai rs/\x∉L)->MY rs Y->∀x∈Y,x∈Z
 kn:KK.aL Z (wp rs L)=KK.aL Z rs
 nil:Z=[]->Suf rs L
def LP.of(z:JZ rs L)(c:KL.Kn (wp rs L) K):LP rs L (KK.Iq (wp rs L) K):=by
 have out:∀x∈KK.Iq (wp rs L) K,x∉L:=λx b hl=>(a_.mp b).2 ((Kn.mem c).mpr (zQ hl));show⟨by unfold KK.Iq;rw[gJ z];show r3,out,λr hr=>Kn.zN c r (wh _ hr),λY g hs x b=>?_,?_,λe x b=>oZ λhl=>?_⟩
 .show a_.mpr ⟨(dQ z).mpr (g x b).1,λhk=>?_⟩;show(Kn.mem c).mp hk (λy=>y∉Y) (λr hr h=>?_) b;rcases qj hr with hr|⟨a,_⟩
  .intro d;have⟨x,f,i⟩:=hs r hr d;show h x f i
  .intro d;show(g _ d).2 a
 .unfold KK.aL KK.Kc;show qk λk hk=>?_;have e:(wp rs L).filter (λr=>cK (r.1=k))=rs.filter λr=>cK (r.1=k):=by
   unfold wp;rw[LV];have:(((L.filter λw=>cK (w∉heads rs)).map λw=>((w,[]):Row)).filter λr=>cK (r.1=k))=[]:=by
    rw[K5];intro r hr;have⟨w,j,rfl⟩:=gs.mp hr;have f:=(hY.mp j).1;simp only[ŗ];intro e;show out k hk (e▸f)
   rw[this,sx]
  rw[e]
 .have:x∈KK.Iq (wp rs L) K:=a_.mpr ⟨(dQ z).mpr b,λk=>hl ((Kn.mem c).mp k)⟩;rw[e]at this;cases this
def qp{W:List Str}:JZ rs (KK.Iq rs W):=λx a=>(a_.mp a).1
structure Core(rs:List Row)(Z:List Str):Prop where
 sub:Z.Sublist (ai rs)
 ne:Z≠[]
 sup:MY rs Z
 min:∀w∈Z,∀Y:List Str,(∀x∈Y,x∈Z/\x≠w)->MY rs Y->Y=[]
abbrev ox(P:List Row):List Str:=P.map (·.1)
def zR:ox (KK.aL Z rs)=Z:=by
 unfold ox KK.aL;rw[et];show(qk λ_ _=>rfl).trans (Z' Z)
structure xg(rs:List Row)(Z0 d Z:List Str):Prop where
 sub:Z.Sublist (ai rs)
 ne:Z≠[]
 sup:MY rs Z
 Ru:∀x∈Z,x∈Z0
 min:∀w∈Z,w∈d->∀Y:List Str,(∀x∈Y,x∈Z/\x≠w)->MY rs Y->Y=[]
def xg.step(h:xg rs l d Z)(hl:LP rs (KK.Iq rs (Z.filter λx=>!cK (x=w))) g):xg rs l (d++[w]) (if g=[] then Z else g):=by
 have i:∀x∈g,x∈Z/\x≠w:=λx c=>by
  have m:=hl.out x c;have n:x∈ai rs:=hl.sub.subset c;have:x∈Z.filter λx=>!cK (x=w):=oZ λo=>m (a_.mpr ⟨n,o⟩);have⟨a,b⟩:=hY.mp this;show⟨a,by simpa using b⟩
 by_cases e:g=[]
 .rw[Ř e];show⟨h.sub,h.ne,h.sup,h.Ru,λv j hd Y f hs=>?_⟩;rcases ko.mp hd with hd|hd
  .show h.min v j hd Y f hs
  .rw[ix]at hd;subst hd;show Rz.mpr λx c=>?_;have:=hl.max Y (λy k=>⟨h.sub.subset (f y k).1,λp=>(a_.mp p).2 (hY.mpr ⟨(f y k).1,by simpa using(f y k).2⟩)⟩) hs x c;rw[e]at this;cases this
 .rw[Ś e];show⟨hl.sub,e,hl.sup,λx c=>h.Ru x (i x c).1,λv j hd Y f hs=>?_⟩;rcases ko.mp hd with hd|hd
  .show h.min v (i v j).1 hd Y (λx c=>⟨(i x (f x c).1).1,(f x c).2⟩) hs
  .rw[ix]at hd;subst hd;show absurd rfl (i v j).2
def xg.done(h:xg rs b b Z):Core rs Z:=⟨h.sub,h.ne,h.sup,λw a=>h.min w a (h.Ru w a)⟩
end
section
def vE{W:List Str}(b:(ai rs).length<64)(c:(ax W).length<64):mT cb (ax (ai rs)) (ax W)=a0 (.own,.lst ((KK.Iq rs W).map .str)):=by
 have d:(ax (ai rs)).length<=(ai rs).length:=bH (aQ _) λx a=>by simpa[aP] using a
 unfold mT;rw[Ř ⟨⋯,⋯⟩,Ś oO];have e:aH ((ax (ai rs)).filter λx=>cK (x∉ax W))=KK.Iq rs W:=by
  show d_ ?_ ((bU _).sublist r3);show(DD ((aQ _).sublist r3) (KK.fc rs W)).mpr λx=>?_;unfold KK.Iq;rw[hY,hY,aP];simp only[ŗ,aP]
 rw[e]
abbrev E_:Fn:=⟨"lacking",1,1,[.ret (.Mg cb (.call "words_of" [.var 0]) (.comp 1 cb .seq [.var 0] [] (.idx (.var 0) (.cst (.int 0)))))]⟩
def He(c:IK Pg "words_of" qc)(h:IK Pg "lacking" E_)(d:Nat)(a:Bz ws rs):Io Pg (d+2) "lacking" [.tup (rs.map A')]=a0 (.ok (.own,.lst ((KK.Iq rs (rs.map (·.1))).map .str))):=by
 have hsz:(1000:Nat)<=dV:=by decide
 have f:=bM λr hr=>(a.ok r hr).ok;have Kx:=a.wl;have g:=a.rl;have e:Io Pg (d+1) "words_of" [.tup (rs.map A')]=a0 (.ok (.own,.lst ((ai rs).map .str))):=(aq c _).trans (dP a.rl (λr hr=>(a.ok r hr).ok) ⋯);have b:=bX (cond:=aJ (Io Pg (d+1)) []) (elt:=ev (Io Pg (d+1)) (.idx (.var 0) (.cst (.int 0)))) (src:=[(.loc,.tup (rs.map A'))]) (st:=[a0 (.loc,.tup (rs.map A'))]) trivial .loc (.inl rfl) A' (λr=>.str r.1) .loc (λ_=>cH) rs [] (by simp;lia)
  (λy _=>⟨bj (ae rfl) aC trivial (b9 rfl),aK⟩)
 rw[gc,show(rs.map λr=>U.str r.1)=(rs.map (·.1)).map U.str by rw[et];rfl]at b;have i:(ax (rs.map (·.1))).length<=ws.length:=bH (aQ _) λx b=>by
  have b:x∈rs.map (·.1):=by simpa[aP] using b
  have⟨r,hr,rfl⟩:=gs.mp b;show(a.ok r hr).1
 show(aq h _).trans (aF rfl (.inl rfl) (st0:=[a0 (.loc,.tup (rs.map A'))]) (ŝ (λx:Option (Kd×U)=>[x]) (bp rs)) (bc (vp (aE (aa (ae rfl) af) trivial e) (cF ⋯) (a5 (rs:=[(.loc,.tup (rs.map A'))]) (aa (ae rfl) af) trivial jg b) (cF (by rw[df];lia)) (vE ⋯ ⋯)) fL))
abbrev Fb:Fn:=⟨"knot_among",2,2,[.ret (.call "knot" [.call "with_pictures" [.var 0,.Mg cb (.call "words_of" [.var 0]) (.var 1)]])]⟩
def Hf(H:ql Pg)(hk:IK Pg "knot" KK.ou)(h:IK Pg "knot_among" Fb)(d:Nat)(a:Bz ws rs)(hr:rs.length<=90){W:List Str}(k:W.length<=40):∃Z,Io Pg (d+8) "knot_among" [.tup (rs.map A'),.lst (W.map .str)]=a0 (.ok (.own,.lst ((KK.aL Z rs).map A')))/\LP rs (KK.Iq rs W) Z:=by
 have l:=bM λr hr=>(a.ok r hr).ok;have Kx:=a.wl;have m:=ff a W;have f:Io Pg (d+7) "words_of" [.tup (rs.map A')]=a0 (.ok (.own,.lst ((ai rs).map .str))):=(aq H.w _).trans (dP a.rl (λr hr=>(a.ok r hr).ok) ⋯);have g:(ax W).length<=W.length:=bH (aQ _) λx i=>by simpa[aP] using i
 have b:=t8 a (qp (W:=W)) ⋯;have⟨K,c,j⟩:=Kn.some b.wl b.ok;have n:=j.len;have e:=LP.of qp c;have q:=Rt H hk d b b.rl c ⋯;rw[e.kn]at q;show⟨_,(aq h _).trans (aF rfl (.inl rfl) (Bw.lst.start 0) (bc (aE (aa (aE (aa (ae rfl) (aa (vp (aE (aa (ae rfl) af) trivial f) (cF ⋯) (ay rfl) (cF ⋯) (vE ⋯ ⋯)) af)) trivial (Qu H (d+4) a .lst ⋯ qp)) af) trivial q) fL)),e⟩
def zS(a:us.length=fn.np)(hs:start us fn.ns=st0)(h:Run (execs Γ fn.body) st0 (.rt .any u) st):bT Γ fn us=a0 (.ok (.any,u)):=by
 subst hs;unfold bT;rw[Ř a,show execs Γ fn.body (start us fn.ns)=_ from h]
def Fc:Run (retS (.any,.lst us)) st (.rt .any (.lst us)) st:=rfl
def C2(h:st[j]?=a0 (a0 (.own,u))):Run (dJ i (.bor j,a)) st () ((st.set j (a0 (.loc,u))).set i (a0 (.loc,u))):=by
 change dJ i (.bor j,a) st=_;unfold dJ
 dsimp only
 rw[h]
theorem vF:∀(P:List Row) (n:Nat),cy (n+2) (P.map A')=b6
 |[],n=>by simp[cy]
 |r::P,n=>by
  have a:=vF P n;simp only[gi,cy,eh];show⟨by simp[A',JL,cy,dU],a⟩
def vG{P:List Row}:bw .ne (.lst (P.map A')) (.lst [])=a0 (!P.isEmpty):=by
 rw[mq (by change cy 49 (P.map A')=b6;show vF P 47)];cases P<;>rfl
abbrev Hg:List S :=
   [.set 5 (.call "knot_among" [.var 0,.comp 1 cb .seq [.var 2] [.cmp .ne (.idx (.var 0) (.cst (.int 0))) (.var 4)] (.idx (.var 0) (.cst (.int 0)))]),
   .ite (.cmp .ne (.var 5) (.lst []))
    [.set 2 (.var 5)]
    []]
abbrev Cj:Fn:=⟨"core_among",2,6,[.set 2 (.var 1),.IF b6 [3,4] .seq [.var 1] Hg,.ret (.var 2)]⟩
abbrev zT(rs P:List Row)(k2:Kd)(Q:List Row)(o3 o4 o5:Option (Kd×U)):aA:=[a0 (.loc,.tup (rs.map A')),a0 (.any,.lst (P.map A')),a0 (k2,.lst (Q.map A')),o3,o4,o5]
def zU:((KK.aL Z rs).filter λp=>!cK (p.1=w)).map (λp=>U.str p.1)=(Z.filter λx=>!cK (x=w)).map U.str:=by
 unfold KK.aL;rw[Xs,et];rfl
def rY:(KK.aL Z rs).isEmpty=cK (Z=[]):=by
 unfold KK.aL;cases Z<;>rfl
def Hh(hk:∀W:List Str,W.length<=24->∃Z,Γ "knot_among" [.tup (rs.map A'),.lst (W.map .str)]=a0 (.ok (.own,.lst ((KK.aL Z rs).map A')))/\LP rs (KK.Iq rs W) Z)(G:(ai rs).length<=24)(s:a.Sublist (ai rs))(v:a≠[])(w:MY rs a):
  ∃k Z,(k=Kd.any\/k=.loc)/\bT Γ Cj [.tup (rs.map A'),.lst ((KK.aL a rs).map A')]=a0 (.ok (k,.lst ((KK.aL Z rs).map A')))/\Core rs Z/\∀x∈Z,x∈a:=by
 have hsz:(1000:Nat)<=dV:=by decide
 have g:∀(k:Kd) (P:List Row),(k=.loc\/k=.any)->JX .seq [(k,.lst (P.map A'))]=a0 (P.map λp=>(k,A' p)):=λk P hk=>by
  change a0 ((P.map A').map λu=>(kE k,u))=_;rw[et,E5 hk];rfl
 have⟨st',z,k2,Z,o3,o4,o5,b,rfl,f⟩:=bI (rs:=[(.any,.lst ((KK.aL a rs).map A'))]) (t:=b6) (is:=[3,4]) (body:=execs Γ Hg) (λp:Row=>(Kd.any,A' p)) (λd q st=>∃k2 Z o3 o4 o5,(k2=Kd.loc\/k2=.any)/\st=zT rs (KK.aL a rs) k2 (KK.aL Z rs) o3 o4 o5/\xg rs a (ox d) Z)
  (λ_ _ _ _=>trivial) (λd p q st A=>by
   have⟨k2,Z,o3,o4,o5,b,e,f⟩:=A;subst e;have H:=f.sub.length_le;have I:=nC (λx=>!cK (x=p.1)) Z;have J:(KK.aL Z rs).length=Z.length:=by unfold KK.aL;rw[df]
   let S:=zT rs (KK.aL a rs) k2 (KK.aL Z rs) (a0 (.any,.str p.1)) (a0 (.any,.tup (p.2.map .str)));have m:=dv (cond:=aJ Γ [.cmp .ne (.idx (.var 0) (.cst (.int 0))) (.var 4)]) (elt:=ev Γ (.idx (.var 0) (.cst (.int 0)))) (src:=[(k2,.lst ((KK.aL Z rs).map A'))]) (st:=S o5) (bZ b trivial) k2 b A' (λp=>.str p.1) (λq=>!cK (q.1=p.1)) k2 (KK.aL Z rs) [] (by simp;lia)
    (λy _=>by
     have n:∀st',Run (ev Γ (.idx (.var 0) (.cst (.int 0)))) (a0 (k2,A' y)::st') (k2,.str y.1) (a0 (k2,A' y)::st'):=λst'=>bj (cO b rfl) aC (bZ b trivial) (by rw[show A' y=.tup [.str y.1,.tup (y.2.map .str)] from rfl,b9 (u:=.str y.1) rfl,E5 b]);show⟨cu (aR (n _) (ay rfl) (bZ b trivial) tX),λ_=>⟨n _,Rr b rfl⟩⟩)
   rw[gc,zU]at m;have⟨c,B,C⟩:=hk (Z.filter λx=>!cK (x=p.1)) ⋯;have o:Run (ev Γ (.call "knot_among" [.var 0,.comp 1 cb .seq [.var 2] [.cmp .ne (.idx (.var 0) (.cst (.int 0))) (.var 4)] (.idx (.var 0) (.cst (.int 0)))])) (S o5) (.own,.lst ((KK.aL c rs).map A')) (S o5):=aE (aa (ae rfl) (aa (a5 (rs:=[(k2,.lst ((KK.aL Z rs).map A'))]) (aa (cO b rfl) af) (bZ b trivial) (g _ _ b) m) af)) trivial B;have i:Run (IU Γ (.cmp .ne (.var 5) (.lst []))) (S (a0 (.own,.lst ((KK.aL c rs).map A')))) (!cK (c=[])) (S (a0 (.own,.lst ((KK.aL c rs).map A')))):=aR (av rfl) (bB af trivial aD (mu _)) ⟨⟨.own,rfl,rfl⟩,trivial⟩ (vG.trans (by rw[rY]));have hs:=f.step C;have D:ox (d++[p])=ox d++[p.1]:=by unfold ox;rw[my];rfl
   rw[D];by_cases e:c=[]
   .rw[ś e]at i;rw[Ř e]at hs;show⟨S o5,S (a0 (.own,.lst ((KK.aL c rs).map A'))),e_ (.inr rfl),aB o aS (aM i ak ak),k2,Z,_,_,_,b,rfl,hs⟩
   .rw[ř e]at i;rw[Ś e]at hs;show⟨S o5,zT rs (KK.aL a rs) .loc (KK.aL c rs) (a0 (.any,.str p.1)) (a0 (.any,.tup (p.2.map .str))) (a0 (.loc,.lst ((KK.aL c rs).map A'))),e_ (.inr rfl),aB o aS (dq i (aB (av rfl) (C2 rfl) ak) ak),.loc,c,_,_,_,.inl rfl,rfl,hs⟩) (KK.aL a rs) [] (zT rs (KK.aL a rs) .any (KK.aL a rs) b5 b5 b5) ⟨.any,a,b5,b5,b5,.inr rfl,rfl,s,v,w,λ_ h=>h,λ_ _ h=>by cases h⟩
 rw[gc,zR]at f;have r:start [.tup (rs.map A'),.lst ((KK.aL a rs).map A')] 6=[a0 (.loc,.tup (rs.map A')),a0 (.any,.lst ((KK.aL a rs).map A')),b5,b5,b5,b5]:=by
  change [a0 (if IY (.tup (rs.map A'))=b6 then Kd.loc else Kd.any,U.tup (rs.map A')),a0 (Kd.any,U.lst ((KK.aL a rs).map A')),b5,b5,b5,b5]=_;rw[bp]
 have go:∀j l,Run (execs Γ [.ret (.var 2)]) (zT rs (KK.aL a rs) k2 (KK.aL Z rs) o3 o4 o5) j l->Run (execs Γ Cj.body) [a0 (.loc,.tup (rs.map A')),a0 (.any,.lst ((KK.aL a rs).map A')),b5,b5,b5,b5] j l:=λj l q=>aB (ay rfl) gY (bW (rs:=[(.any,.lst ((KK.aL a rs).map A'))]) (aa (ay rfl) af) trivial (g _ _ (.inr rfl)) rfl z q);show⟨k2,Z,b.symm,?_,f.done,f.Ru⟩;rcases b with rfl|rfl
 .show aF rfl (.inr rfl) r (go _ _ (bc (ae rfl) cI))
 .show zS rfl r (go _ _ (bc (ay rfl) Fc))
end
section
abbrev Jf(rs:List Row)(Z:List Str):U:=.lst ((KK.aL Z rs).map A')
abbrev Fd:List S :=
   [.set 4 (.Kz "core_among" [.var 0,.Jw (.var 3)]),
   .app 2 (.var 4),
   .ext 1 (.comp 1 cb .seq [.var 4] [] (.idx (.var 0) (.cst (.int 0)))),
   .set 3 (.call "knot" [(.call "with_pictures" [(.var 0),(.var 1)])])]
abbrev Fe:Fn:=⟨"apart",1,5,[.set 1 (.call "lacking" [.var 0]),.set 2 (.comp 1 cb .seq [.var 1] [] (.lst [.tup [.var 0,.tup []]])),.set 3 (.call "knot" [.call "with_pictures" [.var 0,.var 1]]),.MC (.cmp .ne (.var 3) (.lst [])) Fd,.ret (.var 2)]⟩
structure LQ(rs:List Row)(G:List Str)(Cs:List (List Str)):Prop where
 co:∀Z∈Cs,Core rs Z
 fl:Cs.flatten=G
 nd:G.Nodup
 kn:JZ rs G
structure UK(Γ:Tab)(rs:List Row):Prop where
 wl:(ai rs).length<=24
 lk:Γ "lacking" [.tup (rs.map A')]=a0 (.ok (.own,.lst ((KK.Iq rs (rs.map (·.1))).map .str)))
 kw:∀G:List Str,JZ rs G->G.length<=24->∃R,Γ "with_pictures" [.tup (rs.map A'),.lst (G.map .str)]=a0 (.ok (.loc,.tup ((wp rs G).map A')))/\Γ "knot" [.tup ((wp rs G).map A')]=a0 (.ok (.own,Jf rs R))/\LP rs G R
 co:∀Z0:List Str,Z0.Sublist (ai rs)->Z0≠[]->MY rs Z0->∃k Z,(k=Kd.any\/k=.loc)/\Γ "core_among" [.tup (rs.map A'),Jf rs Z0]=a0 (.ok (k,Jf rs Z))/\Core rs Z/\∀x∈Z,x∈Z0
abbrev jI(rs:List Row)(G:List Str)(a:List (List Str))(b:Kd)(R:List Str)(o4:Option (Kd×U)):aA:=[a0 (.loc,.tup (rs.map A')),a0 (.own,.lst (G.map .str)),a0 (.own,.lst (a.map (Jf rs))),a0 (b,Jf rs R),o4]
def LQ.len(h:LQ rs G a):G.length<=(ai rs).length/\a.length<=G.length:=by
 show⟨bH h.nd h.kn,?_⟩;rw[<-h.fl];have:∀a:List (List Str),(∀Z∈a,Z≠[])->a.length<=a.flatten.length:=λa=>by
  induction a with
  |nil=>intro _;simp
  |cons Z a b =>
   intro hz;have f:=b λc d=>hz c (by simp[d]);have g:0<Z.length:=PV.mpr (hz Z (by simp));rw[Nf,i4,mh];lia
 show this a λZ e=>(h.co Z e).ne
def Cm(A:UK Γ rs)(d:LQ rs G c)(m:LP rs G R)(p:R≠[]):∃i o j q,Run (execs Γ Fd) (jI rs G c .own R o4) .nx (jI rs i o .own j q)/\LQ rs i o/\LP rs i j/\G.length<i.length:=by
 have hsz:(1000:Nat)<=dV:=by decide
 have⟨k,Z,hk,s,g,t⟩:=A.co R m.sub p m.sup;have⟨L,N⟩:=d.len;have O:=A.wl;have Q:=g.sub.length_le;have T:(KK.aL Z rs).length=Z.length:=by unfold KK.aL;rw[df]
 have n:LQ rs (G++Z) (c++[Z]):=by
  show⟨λv w=>?_,by rw[R_,d.fl];simp,rr.mpr ⟨d.nd,(cn rs).sublist g.sub,λa z b B e=>m.out b (t b B) (e▸z)⟩,λx l=>?_⟩
  .rcases ko.mp w with h|h
   .show d.co v h
   .rw[ix]at h;subst h;show g
  .rcases ko.mp l with h|h
   .show d.kn x h
   .show g.sub.subset h
 have⟨Y,l4⟩:=n.len;have⟨j,C,D,H⟩:=A.kw (G++Z) n.kn ⋯;have I:Run (ev Γ (.Kz "core_among" [.var 0,.Jw (.var 3)])) (jI rs G c .own R o4) (.loc,Jf rs Z) (jI rs G c .loc R o4):=by
  have:=EV (Γ:=Γ) (f:="core_among") (es:=[.var 0,.Jw (.var 3)]) (st:=jI rs G c .own R o4) (st1:=jI rs G c .loc R o4) (rs:=[(.loc,.tup (rs.map A')),(.loc,Jf rs R)]) (aa (ae rfl) (aa (GO (av rfl) (rO rfl)) af)) trivial s rfl;rcases hk with rfl|rfl
  .show this
  .show this
 have l:=bX (cond:=aJ Γ []) (elt:=ev Γ (.idx (.var 0) (.cst (.int 0)))) (src:=[(.loc,Jf rs Z)]) (st:=jI rs G (c++[Z]) .loc R (a0 (.loc,Jf rs Z))) trivial .loc (.inl rfl) A' (λr=>.str r.1) .loc (λ_=>cH) (KK.aL Z rs) [] (by simp;lia)
  (λy _=>⟨bj (ae rfl) aC trivial (b9 rfl),aK⟩)
 rw[gc,show((KK.aL Z rs).map λr=>U.str r.1)=Z.map U.str by unfold KK.aL;rw[et];rfl]at l;have J:Run (ev Γ (.comp 1 cb .seq [.var 4] [] (.idx (.var 0) (.cst (.int 0))))) (jI rs G (c++[Z]) .loc R (a0 (.loc,Jf rs Z))) (.own,.lst (Z.map .str)) (jI rs G (c++[Z]) .loc R (a0 (.loc,Jf rs Z))):=a5 (rs:=[(.loc,Jf rs Z)]) (aa (ae rfl) af) trivial (by change a0 (((KK.aL Z rs).map A').map λu=>(kE .loc,u))=_;rw[et];rfl) l;show⟨G++Z,c++[Z],j,a0 (.loc,Jf rs Z),aB I aX (jY (k:=.own) (k':=.own) rfl (ae rfl) aK rfl rfl (by rw[df];lia) ?_),n,H,by rw[i4];have:0<Z.length:=PV.mpr g.ne;lia⟩;rw[show c.map (Jf rs)++[Jf rs Z]=(c++[Z]).map (Jf rs) by simp];show rF (k:=.own) (k':=.own) rfl J rfl rfl (qa (by rw[df,df];lia) rfl) ?_;rw[<-my];show aB (aE (aa (aE (aa (ae rfl) (aa (av rfl) af)) (by show⟨⟨.own,rfl,rfl⟩,trivial⟩) C) af) trivial D) aS ak
theorem vH(A:UK Γ rs):∀(f:Nat) (G:List Str) (a:List (List Str)) (R:List Str) (o4:Option (Kd×U)),LQ rs G a->LP rs G R->25 - G.length<f->∃b d k,Run (fO (IU Γ (.cmp .ne (.var 3) (.lst []))) (execs Γ Fd) (f+1)) (jI rs G a .own R o4) .nx (jI rs b d .own [] k)/\LQ rs b d/\Suf rs b
 |0,_,_,_,_,_,_,h=>by lia
 |f+1,G,a,R,o4,g,i,h=>by
  have c:Run (IU Γ (.cmp .ne (.var 3) (.lst []))) (jI rs G a .own R o4) (!cK (R=[])) (jI rs G a .own R o4):=aR (av rfl) (bB af trivial aD (mu _)) ⟨⟨.own,rfl,rfl⟩,trivial⟩ (vG.trans (by rw[rY]));by_cases e:R=[]
  .subst e;show⟨G,a,o4,rP c,g,i.nil rfl⟩
  .rw[ř e]at c;have⟨l,m,n,o1,o,j,p,u⟩:=Cm A (o4:=o4) g i e;obtain⟨v,_⟩:=j.len;have:=A.wl;have⟨q,r,o2,s,t,s2⟩:=vH A f l m n o1 j p ⋯;show⟨q,r,o2,rQ c o s,t,s2⟩
def Core.one(e:w∈ai rs)(f:w∉rs.map (·.1)):Core rs [w]:=by
 show⟨by simpa using e,by simp,λr hr c=>?_,λv d Y g _=>?_⟩
 .rw[ix]at c;show absurd (gs.mpr ⟨r,hr,c⟩) f
 .rw[ix]at d;subst d;show Rz.mpr λx h=>?_;have⟨a,b⟩:=g x h;rw[ix]at a;show b a
theorem oy:∀G:List Str,(G.map λw=>[w]).flatten=G
 |[]=>rfl
 |w::G=>by rw[gi,Nf,oy G];rfl
def Hi(A:UK Γ rs):∃G d,bT Γ Fe [.tup (rs.map A')]=a0 (.ok (.own,.lst (d.map (Jf rs))))/\LQ rs G d/\Suf rs G:=by
 have hsz:(1000:Nat)<=dV:=by decide
 let a:=KK.Iq rs (rs.map (·.1));have f:∀w∈a,w∈ai rs/\w∉rs.map (·.1):=λw b=>a_.mp b;have g:LQ rs a (a.map λw=>[w]):=⟨λZ h=>by
  have⟨w,b,rfl⟩:=gs.mp h;show Core.one (f w b).1 (f w b).2,oy a,KK.fc _ _,λx c=>(f x c).1⟩
 have⟨o,p⟩:=g.len;have s:=A.wl;have⟨R,i,j,k⟩:=A.kw a g.kn ⋯;have⟨G,d,o4,q,l,hs⟩:=vH A 999999999999 a _ R b5 g k ⋯;let S:Option (Kd×U)->Option (Kd×U)->aA:=λo2 o3=>[a0 (.loc,.tup (rs.map A')),a0 (.own,.lst (a.map .str)),o2,o3,b5]
 have c:=bX (cond:=aJ Γ []) (elt:=ev Γ (.lst [.tup [.var 0,.tup []]])) (src:=[(.bor 1,.lst (a.map .str))]) (st:=S b5 b5) ⟨⟨.own,rfl,rfl⟩,trivial⟩ .loc (.inl rfl) U.str (λw=>.lst [.tup [.str w,.tup []]]) .own (λ_=>cH) a [] (by simp;lia)
  (λy _=>⟨bB (us:=[.tup [.str y,.tup []]]) (aa (cQ (aa (ae rfl) (aa (cQ af trivial aD (mu _)) af)) trivial (aG aK (aG aK aD)) (by change 2<=dV;lia)) af) trivial (aG aK aD) (by change 1<=dV;lia),jX⟩)
 rw[gc]at c;have m:(a.map λw=>U.lst [.tup [.str w,.tup []]])=(a.map λw=>[w]).map (Jf rs):=by
  rw[et];show qk λw b=>?_;have:KK.Kc [w] rs w=[]:=by
   unfold KK.Kc;have:(rs.filter λr=>cK (r.1=w))=[]:=by
    rw[K5];intro r hr;simp only[ŗ];intro e;show(f w b).2 (gs.mpr ⟨r,hr,e⟩)
   rw[this];rfl
  change _=U.lst ([(w,KK.Kc [w] rs w)].map A');rw[this];rfl
 rw[m]at c;have n:Run (ev Γ (.comp 1 cb .seq [.var 1] [] (.lst [.tup [.var 0,.tup []]]))) (S b5 b5) (.own,.lst ((a.map λw=>[w]).map (Jf rs))) (S b5 b5):=a5 (rs:=[(.bor 1,.lst (a.map .str))]) (aa (av rfl) af) ⟨⟨.own,rfl,rfl⟩,trivial⟩ (by change a0 ((a.map U.str).map λu=>(kE (.bor 1),u))=_;rw[et];rfl) c;show⟨G,d,aF rfl (.inl rfl) (st0:=[a0 (.loc,.tup (rs.map A')),b5,b5,b5,b5]) (ŝ (λx:Option (Kd×U)=>[x,b5,b5,b5,b5]) (bp rs)) (aB (aE (aa (ae rfl) af) trivial A.lk) aS (aB n aS (aB (aE (aa (aE (aa (ae rfl) (aa (av rfl) af)) (by show⟨⟨.own,rfl,rfl⟩,trivial⟩) i) af) trivial j) aS (rR q (bc (av rfl) (i_ rfl)))))),l,hs⟩
end
section
abbrev vI:Fn:=⟨"_law_learnt",1,5,[.set 1 (.J_ cb),.set 2 (.cst (.bl b6)),.MC (.var 2) E6,.ret (.bi .sorted [.var 1])]⟩
def Ff(h:IK Pg "_law_learnt" vI){W:U}(a:Bv rs k W)(e:ws.length<=40)(b:∀r∈rs,eE ws r):∃K,Io Pg (d+1) "_law_learnt" [W]=a0 (.ok (.own,.lst ((aH K).map .str)))/\jE ws K/\KL.Kn rs K:=by
 have⟨K,f,g,q,x,c⟩:=qh (Γ:=Io Pg d) a ⋯ b 999999999999 [] b5 b5 ⟨⟨.nil,λ_ h=>absurd h D'⟩,λ_ _ _ h=>absurd h D'⟩ (by simp);have i:=x.ks.len;have hs:JW .sorted [(.bor 1,rU K)]=a0 (.own,.lst ((aH K).map .str)):=by
  change(if K.length<64 then a0 (Kd.own,U.lst ((aH K).map .str)) else b5)=_;rw[Ř ⋯]
 show⟨K,(aq h _).trans (aF rfl (.inl rfl) (st0:=[a0 (k,W),b5,b5,b5,b5]) (ŝ (λx:Option (Kd×U)=>[x,b5,b5,b5,b5]) a.bg) (aB lZ aS (aB aC aX (rR q (bc (cC (aa (av rfl) af) ⟨⟨.own,rfl,rfl⟩,trivial⟩ hs) fL))))),x.ks,x.ks.1,x.snd,c⟩
abbrev vJ:Fn:=⟨"_law_words",1,3,[.set 1 (.comp 1 cb .seq [.var 0] [] (.idx (.var 0) (.cst (.int 0)))),.IF cb [2] .seq [.var 0] [.ext 1 (.idx (.var 2) (.cst (.int 1)))],.ret (.Lg .sset [.var 1])]⟩
def rZ(hr:rows.length<=120)(g:∀r∈rows,eZ names r)(B:names.length<64):bT Γ vJ [.tup (rows.map A')]=a0 (.ok (.own,.lst ((ai rows).map .str))):=by
 have hsz:(4000:Nat)<=dV:=by decide
 let a:Option (Kd×U):=a0 (.loc,.tup (rows.map A'));have j:TM.start [.tup (rows.map A')] 3=[a,b5,b5]:=by simp[TM.start,IY,bY,a]
 let S:=λ(ws:List Str) (o2:Option (Kd×U))=>([a,a0 (.own,.lst (ws.map .str)),o2]:aA)
 let H:=rows.map (·.1);have C:H.length<=120:=by change(rows.map (·.1)).length<=120;simpa using hr
 have c:∀r∈rows,r.2.length<=8:=λr h=>(g r h).Lj;obtain⟨st',f,_,o2,e⟩:=bI (t:=cb) (is:=[2]) (body:=execs Γ [.ext 1 (.idx (.var 2) (.cst (.int 1)))]) (rs:=[(.loc,.tup (rows.map A'))]) (λr:Row=>(Kd.loc,A' r))
  (λd r st=>d++r=rows/\∃o2,st=S (H++(d.map (·.2)).flatten) o2) (λ_ _ _ _=>trivial) (λd y r st m=>by
   have⟨b,o2,e⟩:=m;subst e;have o:y∈rows:=by rw[<-b];simp
   have D:=rG (rows:=d) (n:=8) λs hs=>c s (by rw[<-b];simp[hs]);have G:d.length<=120:=by have:=ŝ G2 b;simp at this;lia
   have I:=c y o;show⟨S (H++(d.map (·.2)).flatten) (a0 (.loc,A' y)),S (H++((d++[y]).map (·.2)).flatten) (a0 (.loc,A' y)),d7 aX,?_,by rw[<-b];simp,a0 (.loc,A' y),rfl⟩;have p:(H++((d++[y]).map (·.2)).flatten).map U.str=(H++(d.map (·.2)).flatten).map U.str++y.2.map U.str:=by simp
   change Run _ _ _ [a,a0 (.own,.lst ((H++((d++[y]).map (·.2)).flatten).map .str)),a0 (.loc,A' y)];rw[p];show rF (k:=.own) (k':=.own) rfl (bj (x:=(.loc,A' y)) (ae rfl) aC trivial rfl) rfl rfl (vg (by rw[df,df,i4];lia) rfl) ak) rows [] (S H b5) ⟨rfl,b5,by simp⟩
 subst e;rw[gc]at f;have q:H++(rows.map (·.2)).flatten=jD rows:=rfl;rw[q]at f;have v:(jD rows).length<4000:=by
  have:=rG c;change(H++(rows.map (·.2)).flatten).length<4000;rw[i4];lia
 have w:(ax (jD rows)).length<64:=by have:=tU (qb g);lia
 have z:aH (ax (jD rows))=ai rows:=zA λx=>by
  rw[bS];simp only[jD,ko,gs,W2];constructor
  .rintro(⟨r,hr,rfl⟩|⟨l,⟨r,hr,rfl⟩,hx⟩)
   .show⟨r,hr,.inl rfl⟩
   .show⟨r,hr,.inr hx⟩
  .rintro⟨r,hr,rfl|hx⟩
   .show .inl ⟨r,hr,rfl⟩
   .show .inr ⟨_,⟨r,hr,rfl⟩,hx⟩
 have A:(rows.map A').map (λu=>(kE .loc,u))=rows.map λr=>(Kd.loc,A' r):=by rw[et];rfl
 have i:=gm (k:=.bor 1) v w;rw[z]at i;show aF rfl (.inl rfl) j (aB (wZ ⋯ rfl) aS (bW (rs:=[(.loc,.tup (rows.map A'))]) (aa (ae rfl) af) trivial rfl rfl (by rw[A];show f) (bc (oh (aa (av rfl) af) ⟨⟨.own,rfl,rfl⟩,trivial⟩ i) fL)))
abbrev Cn:Fn:=⟨"_law_given",2,2,[.ret (.bin .add (.var 0) (.bi .tuple [.comp 1 cb .seq [.var 1] [.cmp .Im (.tup [.var 0,.tup []]) (.var 1)] (.tup [.var 0,.tup []])]))]⟩
def zV(h:IK Pg "_law_given" Cn)(hr:rs.length<=120)(hl:L.length<=40):Io Pg (d+1) "_law_given" [.tup (rs.map A'),.lst (L.map .str)]=a0 (.ok (.loc,.tup ((wp rs L).map A'))):=by
 have hsz:(1000:Nat)<=dV:=by decide
 have i:=nC (λw=>cK (w∉heads rs)) L;let S:aA:=[a0 (.loc,.tup (rs.map A')),a0 (.any,.lst (L.map .str))]
 have c:∀y:Str,Run (ev (Io Pg d) (.tup [.var 0,.tup []])) (a0 (.any,.str y)::S) (.loc,A' (y,[])) (a0 (.any,.str y)::S):=λy=>cQ (aa (ay rfl) (aa (cQ af trivial aD (mu _)) af)) trivial (aG (eD rfl) (aG aK aD)) (by change 2<=dV;lia);have f:∀y:Str,cK ((y,([]:List Str))∉rs)=cK (y∉heads rs):=λy=>decide_eq_decide.mpr (not_congr ⟨λz=>gs.mpr ⟨(y,[]),hY.mpr ⟨z,by simp⟩,rfl⟩,λz=>by
  have⟨r,a,rfl⟩:=gs.mp z;have⟨a,b⟩:=hY.mp a;have b:r.2=[]:=Ŝ b;rw[<-b];show a⟩)
 have e:=dv (cond:=aJ (Io Pg d) [.cmp .Im (.tup [.var 0,.tup []]) (.var 1)]) (elt:=ev (Io Pg d) (.tup [.var 0,.tup []])) (src:=[(.any,.lst (L.map .str))]) (st:=S) trivial .any (.inr rfl) U.str (λw=>A' (w,[])) (λw=>cK (w∉heads rs)) .loc L [] (by simp;lia)
  (λy _=>⟨cu (aR (c y) (ae rfl) trivial (wY.trans (by rw[f]))),λ_=>⟨c y,aK⟩⟩)
 rw[gc]at e;have g:Run (ev (Io Pg d) (.bi .tuple [.comp 1 cb .seq [.var 1] [.cmp .Im (.tup [.var 0,.tup []]) (.var 1)] (.tup [.var 0,.tup []])])) S (.loc,.tup (((L.filter λw=>cK (w∉heads rs)).map λw=>(w,[])).map A')) S:=by
  rw[et];show cC (aa (a5 (rs:=[(.any,.lst (L.map .str))]) (aa (ay rfl) af) trivial (by change a0 ((L.map U.str).map λu=>(kE .any,u))=_;rw[et];rfl) e) af) trivial rfl
 show(aq h _).trans (aF rfl (.inr rfl) (Bw.lst.start 0) (bc (b8 (ae rfl) g trivial (vB (by rw[df];lia))) cI))
abbrev Fg:Fn:=⟨"_law_enough",2,2,[.ret (.cmp .eq (.call "_law_learnt" [.call "_law_given" [.var 0,.var 1]]) (.call "_law_words" [.var 0]))]⟩
def C3(i:IK Pg "_law_given" Cn)(j:IK Pg "_law_learnt" vI)(k:IK Pg "_law_words" vJ)(h:IK Pg "_law_enough" Fg)(c:Bz ws rs)(hl:L.length<=40)(f:JZ rs L):
  ∃b,Io Pg (d+2) "_law_enough" [.tup (rs.map A'),.lst (L.map .str)]=a0 (.ok (.loc,.bl b))/\(b=b6↔Suf rs L):=by
 have m:=c.wl;have⟨K,e,k1,k2⟩:=Ff (d:=d) j (.tup (rs:=wp rs L)) (ws:=ws) ⋯ (vA c.ok (λ_ h=>h) λx a=>c.in (f x a));have l:Io Pg (d+1) "_law_words" [.tup (rs.map A')]=a0 (.ok (.own,.lst ((ai rs).map .str))):=(aq k _).trans (rZ c.rl (λr hr=>(c.ok r hr).ok) ⋯);show⟨cK (aH K=ai rs),(aq h _).trans (aF rfl (.inr rfl) (Bw.lst.start 0) (bc (gW (aE (aa (aE (aa (ae rfl) (aa (ay rfl) af)) trivial (zV i c.rl hl)) af) trivial e) (aE (aa (ae rfl) af) trivial l) trivial jb) cI)),?_⟩;rw[decide_eq_true_iff];constructor
 .intro g x a;show(Kn.mem k2).mp ((bh K).mem_iff.mp (g▸a))
 .intro g;show d_ ((DD k1.1 (cn rs)).mpr λx=>⟨λa=>?_,λa=>(Kn.mem k2).mpr (g x a)⟩) (bU _);have:=(Kn.mem k2).mp a (·∈ai (wp rs L)) λr hr _=>cm.mpr (bS.mpr ⟨r,hr,.inl rfl⟩);show(dQ f).mp this
end
section
variable{Γ:Tab}{st st1 st2:aA}{Pg:List Fn}{ws:List Str}{rs:List Row}
abbrev Fh:List S:=[.set 1 (.bin .add (.var 1) (.comp 1 cb .seq [.var 1] [] (.bin .add (.var 0) (.lst [.var 3]))))]
abbrev Fi:Fn:=⟨"_law_sets",1,3,[.set 1 (.lst [.lst []]),.IF cb [2] .seq [.var 0] Fh,.ret (.var 1)]⟩
abbrev mY(ws:List Str)(cs:List (List Str))(o2:Option (Kd×U)):aA:=[a0 (.any,.lst (ws.map .str)),a0 (.own,.lst (cs.map IJ)),o2]
def Co(e:cs.length<=1000)(hl:∀l∈cs,l.length<=100):
  Run (execs Γ Fh) (mY ws cs (a0 (.any,.str w))) .nx (mY ws (cs++cs.map (·++[w])) (a0 (.any,.str w))):=by
 have hsz:(1000000:Nat)<=dV:=by decide
 have a:bq [(.bor 1,.lst (cs.map IJ))] (mY ws cs (a0 (.any,.str w))):=⟨⟨.own,rfl,rfl⟩,trivial⟩
 have b:=bX (cond:=aJ Γ []) (elt:=ev Γ (.bin .add (.var 0) (.lst [.var 3]))) (src:=[(.bor 1,.lst (cs.map IJ))]) (st:=mY ws cs (a0 (.any,.str w))) a .loc (.inl rfl) IJ (λl=>IJ (l++[w])) .own (λ_=>cH) cs [] (by simp;lia)
  (λl d=>⟨b8 (ae rfl) (bB (aa (ay rfl) af) trivial (aG (eD rfl) aD) (by change 1<=dV;lia)) trivial ((d9 (xs:=l.map U.str) (ys:=[.str w]) (by have:=hl l d;simp;lia) rfl rfl).trans (by rw[show IJ (l++[w])=.lst (l.map U.str++[.str w]) by unfold IJ;rw[my];rfl])),jX⟩)
 rw[gc,show(cs.map λl=>IJ (l++[w]))=(cs.map (·++[w])).map IJ by rw[et];rfl]at b;have q:Run (ev Γ (.comp 1 cb .seq [.var 1] [] (.bin .add (.var 0) (.lst [.var 3])))) (mY ws cs (a0 (.any,.str w))) (.own,.lst ((cs.map (·++[w])).map IJ)) _:=a5 (rs:=[(.bor 1,.lst (cs.map IJ))]) (aa (av rfl) af) a (by change a0 ((cs.map IJ).map λu=>(kE (.bor 1),u))=_;rw[et];rfl) b;have c:=b8 (op:=.add) (av (Γ:=Γ) (i:=1) (st:=mY ws cs (a0 (.any,.str w))) rfl) q ⟨⟨.own,rfl,rfl⟩,trivial⟩ (d9 (xs:=cs.map IJ) (by simp;lia) rfl rfl);rw[<-my]at c;show aB c aS ak
def zW(f:ws.length<=5):∃cs:List (List Str),bT Γ Fi [.lst (ws.map .str)]=a0 (.ok (.own,.lst (cs.map IJ)))/\cs.length<=1000/\∀l∈cs,(∀x∈l,x∈ws)/\l.length<=5:=by
 have hsz:(1000000:Nat)<=dV:=by decide
 have⟨st',g,cs,o3,a,b,rfl,d,hr,i,c⟩:=bI (rs:=[(.any,.lst (ws.map .str))]) (t:=cb) (is:=[2]) (body:=execs Γ Fh) (λx:Str=>(Kd.any,U.str x))
  (λ_ r st=>∃(cs:List (List Str)) (o3:Option (Kd×U)) (a b:List Str),st=mY ws cs o3/\a++b=ws/\r=b/\cs.length<=2 ^ a.length/\∀l∈cs,(∀x∈l,x∈ws)/\l.length<=a.length) (λ_ _ _ _=>trivial) (λe y r st j=>by
   have⟨cs,o3,a,b,k,d,hr,i,c⟩:=j;subst k;subst hr;have v:a.length+r.length+1=ws.length:=by rw[<-d];simp;lia
   have m:2 ^ a.length<=2 ^ 5:=RJ ⋯ ⋯;show⟨mY ws cs (a0 (.any,.str y)),mY ws _ (a0 (.any,.str y)),gY,Co (cs:=cs) (w:=y) ⋯ (λl hl=>by have:=(c l hl).2;lia),_,_,a++[y],r,rfl,by rw[<-d];simp,rfl,?_,?_⟩
   .rw[i4,df,i4,JJ,ZX];lia
   .intro l hl;rw[i4,JJ];rcases ko.mp hl with h|h
    .show⟨(c l h).1,by have:=(c l h).2;lia⟩
    .have⟨n,o,rfl⟩:=gs.mp h;have⟨p,z⟩:=c n o;show⟨λx q=>?_,by simp;lia⟩;rcases ko.mp q with h|h
     .show p x h
     .rw[ix]at h;subst h;rw[<-d];simp)
  ws [] (mY ws [[]] b5) ⟨_,_,[],ws,rfl,rfl,rfl,by simp,λl hl=>by rw[ix]at hl;subst hl;simp⟩
 have s:b=[]:=hr.symm;subst s;rw[sx]at d;subst d;have m:2 ^ a.length<=2 ^ 5:=RJ ⋯ f;show⟨cs,aF (st0:=[a0 (.any,.lst (a.map .str)),b5,b5]) rfl (.inl rfl) rfl (aB (bB (aa (bB af trivial aD (mu _)) af) trivial (aG jX aD) (by change 1<=dV;lia)) aS (bW (rs:=[(.any,.lst (a.map .str))]) (aa (ay rfl) af) trivial (by change a0 ((a.map U.str).map λu=>(kE .any,u))=_;rw[et];rfl) rfl g (bc (av rfl) (i_ rfl)))),⋯,λl hl=>⟨(c l hl).1,by have:=(c l hl).2;lia⟩⟩
abbrev zX:E:=.comp 1 cb .seq [.var 2] [.cmp .Im (.var 0) (.call "_law_learnt" [.var 2])] (.var 0)
abbrev zY:List S :=
   [.set 1 (.call "_law_given" [.var 1,.lst [.idx (.var 3) (.bin .mod (.idx (.var 4) (.bin .mod (.var 5) (.cst (.int 40)))) (.bi .len [.var 3]))]]),
   .set 3 zX,
   .set 5 (.bin .add (.var 5) (.cst (.int 1)))]
abbrev C4:Fn:=⟨"_law_few",2,6,[.set 2 (.call "_law_words" [.var 1]),.set 3 zX,.set 4 (.call "_law_drawn" [.call "_law_cell" [.var 0,.cst (.int 19)],.cst (.int 40)]),.set 5 (.cst (.int 0)),.MC (.cmp .gt (.bi .len [.var 3]) (.cst (.int 5))) zY,.ret (.tup [.var 1,.var 3])]⟩
abbrev LR(ns:List Int)(rs:List Row)(V:List Str)(o3 o4 o5:Option (Kd×U)):aA:=[a0 (.any,.lst (ns.map .int)),a0 (.loc,.tup (rs.map A')),a0 (.own,.lst (V.map .str)),o3,o4,o5]
structure UM(Γ:Tab):Prop where
 c:jB Γ
 d:gF Γ
 w:∀ws rs,Bz ws rs->Γ "_law_words" [.tup (rs.map A')]=a0 (.ok (.own,.lst ((ai rs).map .str)))
 l:∀ws rs,Bz ws rs->∃K,Γ "_law_learnt" [.tup (rs.map A')]=a0 (.ok (.own,.lst ((aH K).map .str)))/\jE ws K/\KL.Kn rs K
 g:∀(rs:List Row) (L:List Str),rs.length<=120->L.length<=40->Γ "_law_given" [.tup (rs.map A'),.lst (L.map .str)]=a0 (.ok (.loc,.tup ((wp rs L).map A')))
def oz{V K:List Str}(hl:V.length<=1000)(c:Γ "_law_learnt" [.tup (rs.map A')]=a0 (.ok (.own,.lst ((aH K).map .str)))):Run (ev Γ zX) (LR ns rs V o3 o4 o5) (.own,.lst ((V.filter λy=>!cK (y∈K)).map .str)) (LR ns rs V o3 o4 o5):=by
 have hsz:(1000:Nat)<=dV:=by decide
 have a:bq [(.bor 2,.lst (V.map .str))] (LR ns rs V o3 o4 o5):=⟨⟨.own,rfl,rfl⟩,trivial⟩
 have b:=dv (cond:=aJ Γ [.cmp .Im (.var 0) (.call "_law_learnt" [.var 2])]) (elt:=ev Γ (.var 0)) (src:=[(.bor 2,.lst (V.map .str))]) (st:=LR ns rs V o3 o4 o5) a .loc (.inl rfl) U.str U.str (λy=>!cK (y∈K)) .loc V [] (by simp;lia)
  (λx _=>⟨cu (aR (ae rfl) (aE (aa (ae rfl) af) trivial c) trivial (d8.trans (by rw[<-decide_not];show ŝ a0 (decide_eq_decide.mpr (not_congr (bh K).mem_iff))))),λ_=>⟨ae rfl,aK⟩⟩)
 rw[gc]at b;show a5 (rs:=[(.bor 2,.lst (V.map .str))]) (aa (av rfl) af) a (by change a0 ((V.map U.str).map λu=>(kE (.bor 2),u))=_;rw[et];rfl) b
def zZ(G:UM Γ){ns c:List Int}(hd:c.length=40)(H:∀x∈c,0<=x)(h:MF ws rs K)(IZ:0<(KK.Iq rs K).length):
  ∃o d,Run (execs Γ zY) (LR ns rs (ai rs) (a0 (.own,.lst ((KK.Iq rs K).map .str))) (a0 (.own,.lst (c.map .int))) (a0 (.loc,.int (m:Nat)))) .nx (LR ns o (ai o) (a0 (.own,.lst ((KK.Iq o d).map .str))) (a0 (.own,.lst (c.map .int))) (a0 (.loc,.int ((m+1:Nat)))))/\MF ws o d/\(KK.Iq o d).length<(KK.Iq rs K).length:=by
 have hsz:(1000:Nat)<=dV:=by decide
 have Qi:=ff h.z K;have Qv:=h.rl;let b:=LR ns rs (ai rs) (a0 (.own,.lst ((KK.Iq rs K).map .str))) (a0 (.own,.lst (c.map .int))) (a0 (.loc,.int (m:Nat)));have t:m % 40<c.length:=by lia
 have I:Run (ev Γ (.bin .mod (.var 5) (.cst (.int 40)))) b (.loc,.int ((m % 40:Nat))) b:=by
  have:=b8 (Γ:=Γ) (st:=b) (op:=.mod) (a:=.var 5) (ae rfl) aC trivial (cZ (k:=.loc) (k':=.loc) (i:=(m:Nat)) (j:=40) ⋯);rw[show((m:Nat):Int) % 40=((m % 40:Nat):Int) by lia]at this;show this
 have u:Run (ev Γ (.idx (.var 4) (.bin .mod (.var 5) (.cst (.int 40))))) b (.loc,.int c[m % 40]) b:=bj (av rfl) I ⟨⟨.own,rfl,rfl⟩,trivial⟩ (bo (cv (by simp[t])));have J:0<=c[m % 40]:=H _ (NI t);generalize c[m % 40]=z at u J;have p:Run (ev Γ (.bi .len [.var 3])) b (.loc,.int ((KK.Iq rs K).length:Nat)) b:=by
  have:=cC (Γ:=Γ) (st:=b) (f:=.len) (es:=[.var 3]) (aa (av rfl) af) ⟨⟨.own,rfl,rfl⟩,trivial⟩ (show JW .len [(.bor 3,.lst ((KK.Iq rs K).map .str))]=_ from cE);rw[df]at this;show this
 have w:0<=z % ((KK.Iq rs K).length:Nat):=Ur _ ⋯;have N:z % ((KK.Iq rs K).length:Nat)<(KK.Iq rs K).length:=SG _ ⋯;have A:Run (ev Γ (.bin .mod (.idx (.var 4) (.bin .mod (.var 5) (.cst (.int 40)))) (.bi .len [.var 3]))) b (.loc,.int (z % ((KK.Iq rs K).length:Nat))) b:=b8 u p trivial (cZ ⋯);generalize z % ((KK.Iq rs K).length:Nat)=n at A w N;have B:n.toNat<(KK.Iq rs K).length:=by lia
 have C:Jb ((KK.Iq rs K).map U.str) n=a0 (.str (KK.Iq rs K)[n.toNat]):=by
  have:=cv (xs:=(KK.Iq rs K).map U.str) (j:=n.toNat) (v:=.str (KK.Iq rs K)[n.toNat]) (by simp[B]);rw[Qc w]at this;show this
 have s:(KK.Iq rs K)[n.toNat]∈KK.Iq rs K:=NI B;generalize (KK.Iq rs K)[n.toNat]=x at C s;have O:Run (ev Γ (.call "_law_given" [.var 1,.lst [.idx (.var 3) (.bin .mod (.idx (.var 4) (.bin .mod (.var 5) (.cst (.int 40)))) (.bi .len [.var 3]))]])) b (.loc,.tup ((wp rs [x]).map A')) b :=
  aE (aa (ae rfl) (aa (bB (us:=[.str x]) (aa (bj (av rfl) A (by show⟨⟨.own,rfl,rfl⟩,trivial⟩) (bo C)) af) trivial (aG aK aD) (by change 1<=dV;lia)) af)) trivial (G.g rs [x] ⋯ (by simp))
 have hz:JZ rs [x]:=λy q=>by rw[ix]at q;subst q;show(a_.mp s).1
 have Q:=mC (rs:=rs) (L:=[x]);rw[JJ]at Q;have T:Bz ws (wp rs [x]):=⟨h.wl,⋯,vA h.ok (λ_ h=>h) λy q=>h.z.in (hz y q)⟩
 have⟨d,e,k1,k2⟩:=G.l ws (wp rs [x]) T;have⟨c1,c2,Y⟩:=h.next s k2 k1;have Ke:=bM λr hr=>(h.ok r hr).ok;have ZP:=h.wl;have D:=oz (Γ:=Γ) (ns:=ns) (rs:=wp rs [x]) (V:=ai rs) (K:=d) (o3:=a0 (.own,.lst ((KK.Iq rs K).map .str))) (o4:=a0 (.own,.lst (c.map .int))) (o5:=a0 (.loc,.int (m:Nat))) ⋯ e;have e9:(ai rs).filter (λy=>!cK (y∈d))=KK.Iq (wp rs [x]) d:=by
  unfold KK.Iq;rw[gJ hz];show Q0 λy _=>by simp
 rw[e9]at D;show⟨wp rs [x],d,?_,c1,Y⟩;rw[gJ hz];show aB O aX (aB D aS (aB (b8 (ae rfl) aC trivial hJ) aX ak))
theorem r6(G:UM Γ){ns a:List Int}(e:a.length=40)(g:∀x∈a,0<=x):∀(f:Nat) (rs:List Row) (K:List Str) (m:Nat),MF ws rs K->(KK.Iq rs K).length<f ->
  ∃b d j,Run (fO (IU Γ (.cmp .gt (.bi .len [.var 3]) (.cst (.int 5)))) (execs Γ zY) (f+1)) (LR ns rs (ai rs) (a0 (.own,.lst ((KK.Iq rs K).map .str))) (a0 (.own,.lst (a.map .int))) (a0 (.loc,.int (m:Nat)))) .nx (LR ns b (ai b) (a0 (.own,.lst ((KK.Iq b d).map .str))) (a0 (.own,.lst (a.map .int))) (a0 (.loc,.int (j:Nat))))/\MF ws b d/\(KK.Iq b d).length<=5
 |0,_,_,_,_,h=>by lia
 |f+1,rs,K,m,h,t=>by
  have c:Run (IU Γ (.cmp .gt (.bi .len [.var 3]) (.cst (.int 5)))) (LR ns rs (ai rs) (a0 (.own,.lst ((KK.Iq rs K).map .str))) (a0 (.own,.lst (a.map .int))) (a0 (.loc,.int (m:Nat)))) (cK (5<(KK.Iq rs K).length)) (LR ns rs (ai rs) (a0 (.own,.lst ((KK.Iq rs K).map .str))) (a0 (.own,.lst (a.map .int))) (a0 (.loc,.int (m:Nat)))):=aR (cC (aa (av rfl) af) (by show⟨⟨.own,rfl,rfl⟩,trivial⟩) cE) aC trivial (ja (by rw[df];simp;lia));by_cases i:5<(KK.Iq rs K).length
  .rw[ś i]at c;have⟨k,l,n,c1,u⟩:=zZ G (ns:=ns) (m:=m) e g h ⋯;have⟨o,p,m2,q,r,s⟩:=r6 G e g f k l (m+1) c1 ⋯;show⟨o,p,m2,rQ c n q,r,s⟩
  .rw[ř i]at c;show⟨rs,K,m,rP c,h,⋯⟩
def Fj(G:UM (Io Pg d))(h:IK Pg "_law_few" C4){ns:List Int}(i:ws.length<=24)(hr:rs.length<=60)(f:∀r∈rs,eE ws r):
  ∃a b,Io Pg (d+1) "_law_few" [.lst (ns.map .int),.tup (rs.map A')]=a0 (.ok (.loc,.tup [.tup (a.map A'),.lst ((KK.Iq a b).map .str)]))/\MF ws a b/\(KK.Iq a b).length<=5:=by
 have hsz:(1000:Nat)<=dV:=by decide
 have g:Bz ws rs:=⟨i,⋯,f⟩
 have⟨K,e,k1,k2⟩:=G.l ws rs g;have⟨z,k⟩:=G.c ns 19 (by decide);have⟨m,n,o,p⟩:=G.d z 40 (by decide);have v:=ff g K;have A:=bM λr hr=>(f r hr).ok;have j:=oz (Γ:=Io Pg d) (ns:=ns) (rs:=rs) (V:=ai rs) (K:=K) (o3:=b5) (o4:=b5) (o5:=b5) ⋯ e;have s:(ai rs).filter (λy=>!cK (y∈K))=KK.Iq rs K:=by
  unfold KK.Iq;show Q0 λy _=>by simp
 rw[s]at j;have⟨a,b,B,q,c,l⟩:=r6 G (ws:=ws) (ns:=ns) n o 999999999999 rs K 0 ⟨i,f,⋯,k2,k1⟩ ⋯;have t:start [.lst (ns.map .int),.tup (rs.map A')] 6=[a0 (.any,.lst (ns.map .int)),a0 (.loc,.tup (rs.map A')),b5,b5,b5,b5]:=ŝ (λx:Option (Kd×U)=>[(a0 (Kd.any,U.lst (ns.map U.int)):Option (Kd×U)),x,b5,b5,b5,b5]) (bp rs);have u:Run (ev (Io Pg d) (.call "_law_drawn" [.call "_law_cell" [.var 0,.cst (.int 19)],.cst (.int 40)])) (LR ns rs (ai rs) (a0 (.own,.lst ((KK.Iq rs K).map .str))) b5 b5) (.own,.lst (m.map .int)) _:=aE (aa (aE (aa (ay rfl) (aa aC af)) trivial k) (aa aC af)) trivial p;show⟨a,b,(aq h _).trans (aF rfl (.inr rfl) t (aB (aE (aa (ae rfl) af) trivial (G.w ws rs g)) aS (aB j aS (aB u aS (aB aC aX (rR q (bc (cQ (aa (ae rfl) (aa (av rfl) af)) (by show⟨⟨.own,rfl,rfl⟩,trivial⟩) (aG aK (aG (rO rfl) aD)) (by change 2<=dV;lia)) cI))))))),c,l⟩
end
end TM
namespace TM
open PySem L2 IM Od KK
section
def t9{ss:List Str}:bw .Im (.str x) (.tup (ss.map U.str))=a0 (cK (x∉ss)):=@d8 x ss
def z_(h:∃x∈l,x∈Z):pick Z l∈l/\pick Z l∈Z:=by
 have⟨x,c,d⟩:=h;unfold pick;cases b:l.filter λx=>cK (x∈Z) with
 |nil =>
  have:x∈l.filter λx=>cK (x∈Z):=hY.mpr ⟨c,ś d⟩;rw[b]at this;cases this
 |cons a t =>
  have:a∈l.filter λx=>cK (x∈Z):=by rw[b];show oT
  have⟨e,f⟩:=hY.mp this;show⟨e,Ŝ f⟩
abbrev Hj:List S:=[.ite (.or [.cmp .Im (.var 8) (.var 7),.cmp .Im (.var 8) (.var 2)]) [.ret (.cst (.bl cb))] []]
abbrev UN:List S :=
   [.set 6 (.comp 1 cb .seq [.var 0] [.cmp .eq (.idx (.var 0) (.cst (.int 0))) (.var 5)] (.idx (.var 0) (.cst (.int 1)))),
   .ite (.cmp .ne (.bi .len [.var 5]) (.bi .len [.var 6]))
    [.ret (.cst (.bl cb))]
    [],
   .IF b6 [7,8] .zip [(.var 6),(.var 5)] Hj]
abbrev UO:Fn:=⟨"_law_knot_right",2,9,[.set 2 (.comp 1 cb .seq [.var 1] [] (.idx (.var 0) (.cst (.int 0)))),.set 3 (.call "_law_words" [.var 0]),.ite (.or [.cmp .ne (.var 2) (.Lg .sset [.var 2]),.not (.bi .all [.comp 1 cb .seq [.var 2] [] (.cmp .isin (.var 0) (.var 4))])]) [.ret (.cst (.bl cb))] [],.IF b6 [4,5] .seq [.var 1] UN,.ret (.cst (.bl b6))]⟩
abbrev kq(rs P:List Row)(Z V:List Str)(o4 o5 o6 o7 o8:Option (Kd×U)):aA:=[a0 (.loc,.tup (rs.map A')),a0 (.any,.lst (P.map A')),a0 (.own,.lst (Z.map .str)),a0 (.own,.lst (V.map .str)),o4,o5,o6,o7,o8]
abbrev toU(l:List Str):U:=.tup (l.map .str)
def Cp{Z V:List Str}(hr:rs.length<=120)(hk:k∈Z)(o:∀r∈rs,r.1∈Z->∃x∈r.2,x∈Z):
  ∃p c f,Run (execs Γ UN) (kq rs P Z V (a0 (.any,.str k)) (a0 (.any,.tup ((Kc Z rs k).map .str))) o6 o7 o8) .nx (kq rs P Z V (a0 (.any,.str k)) (a0 (.any,.tup ((Kc Z rs k).map .str))) p c f):=by
 have hsz:(1000:Nat)<=dV:=by decide
 have s:=nC (λr:Row=>cK (r.1=k)) rs;rw[show Kc Z rs k=(rs.filter λr=>cK (r.1=k)).map λr=>pick Z r.2 from rfl];have l:∀r∈rs.filter λr=>cK (r.1=k),pick Z r.2∈r.2/\pick Z r.2∈Z:=λr hr=>by
  have⟨a,b⟩:=hY.mp hr;show z_ (o r a (Ŝ b▸hk))
 have g:=dv (cond:=aJ Γ [.cmp .eq (.idx (.var 0) (.cst (.int 0))) (.var 5)]) (elt:=ev Γ (.idx (.var 0) (.cst (.int 1)))) (src:=[(.loc,.tup (rs.map A'))]) (st:=kq rs P Z V (a0 (.any,.str k)) (a0 (.any,.tup (((rs.filter λr=>cK (r.1=k)).map λr=>pick Z r.2).map .str))) o6 o7 o8) trivial .loc (.inl rfl) A' (λr=>toU r.2) (λr=>cK (r.1=k)) .loc rs [] (by simp;lia)
  (λy _=>⟨cu (aR (x:=(.loc,.str y.1)) (bj (ae rfl) aC trivial (b9 rfl)) (ay rfl) trivial vi),λ_=>⟨bj (ae rfl) aC trivial (b9 rfl),aK⟩⟩)
 rw[gc]at g;have m:=a5 (rs:=[(.loc,.tup (rs.map A'))]) (aa (ae (i:=0) rfl) af) trivial jg g;generalize (rs.filter λr=>cK (r.1=k))=F at l s g m;let S:=kq rs P Z V (a0 (.any,.str k)) (a0 (.any,.tup ((F.map λr=>pick Z r.2).map .str))) (a0 (.own,.lst (F.map λr=>toU r.2)));have j:JX .zip [(.bor 6,.lst (F.map λr=>toU r.2)),(.any,.tup ((F.map λr=>pick Z r.2).map .str))]=a0 (F.map λr=>(Kd.any,U.tup [toU r.2,.str (pick Z r.2)])):=by
  change a0 (((F.map λr=>toU r.2).zip ((F.map λr=>pick Z r.2).map U.str)).map λq=>(Kd.any,U.tup [q.1,q.2]))=_;rw[et,ĝ,et];rfl
 obtain⟨st',u,c,f,rfl,_⟩:=bI (rs:=[(.bor 6,.lst (F.map λr=>toU r.2)),(.any,.tup ((F.map λr=>pick Z r.2).map .str))]) (t:=b6) (is:=[7,8]) (body:=execs Γ Hj) (λr:Row=>(Kd.any,U.tup [toU r.2,.str (pick Z r.2)])) (λd q st=>∃o7 o8,st=S o7 o8/\∀r∈q,r∈F)
  (λ_ _ _ ⟨o7,o8,e,_⟩=>by subst e;show⟨⟨.own,rfl,rfl⟩,trivial⟩) (λd y q st v=>by
   have⟨o7,o8,e,n⟩:=v;subst e;have⟨m1,m2⟩:=l y (n y (by simp));show⟨S (a0 (.any,toU y.2)) (a0 (.any,.str (pick Z y.2))),S (a0 (.any,toU y.2)) (a0 (.any,.str (pick Z y.2))),e_ (.inr rfl),aM (mW (fK (aR (ay rfl) (ay rfl) trivial (t9.trans (by rw[ř (not_not_intro m1)]))) (gX (aR (ay rfl) (av rfl) ⟨⟨.own,rfl,rfl⟩,trivial⟩ (d8.trans (by rw[ř (not_not_intro m2)])))))) ak ak,_,_,rfl,λr hr=>n r (by simp[hr])⟩) F [] (S o7 o8) ⟨_,_,rfl,λ_ h=>h⟩
 show⟨_,c,f,aB (st2:=S o7 o8) m aS (aM (aR (cC (aa (ay rfl) af) trivial pX) (cC (aa (av rfl) af) ⟨⟨.own,rfl,rfl⟩,trivial⟩ cE) trivial (zC (by simp))) ak (bW (aa (av rfl) (aa (ay rfl) af)) ⟨⟨.own,rfl,rfl⟩,trivial⟩ j rfl u ak))⟩
def Hk(h:IK Pg "_law_knot_right" UO)(a:Bz ws rs)(m:Io Pg d "_law_words" [.tup (rs.map A')]=a0 (.ok (.own,.lst ((ai rs).map .str))))(b:Z.Sublist (ai rs))(n:∀r∈rs,r.1∈Z->∃x∈r.2,x∈Z):Io Pg (d+1) "_law_knot_right" [.tup (rs.map A'),.lst ((aL Z rs).map A')]=a0 (.ok (.loc,.bl b6)):=by
 have hsz:(1000:Nat)<=dV:=by decide
 have o:=a.rl;have C:(ai rs).length<=24:=by have:=bM λr hr=>(a.ok r hr).ok;have:=a.wl;lia
 have D:Z.length<=24:=by have:=b.length_le;lia
 have p:Z.Nodup:=b.nodup (rH _);have s:aH (ax Z)=Z:=eR ((bh _).trans ((DD (aQ _) p).mpr λx=>by rw[aP])) (bU _) ((bU _).sublist b);have G:(ax Z).length<=Z.length:=bH (aQ _) λx f=>by simpa[aP] using f
 have H:(aL Z rs).length=Z.length:=by unfold aL;rw[df]
 have f:=bX (cond:=aJ (Io Pg d) []) (elt:=ev (Io Pg d) (.idx (.var 0) (.cst (.int 0)))) (src:=[(.any,.lst ((aL Z rs).map A'))]) (st:=[a0 (.loc,.tup (rs.map A')),a0 (.any,.lst ((aL Z rs).map A')),b5,b5,b5,b5,b5,b5,b5]) trivial .any (.inr rfl) A' (λr=>.str r.1) .any (λ_=>cH) (aL Z rs) [] (by simp;lia)
  (λy _=>⟨bj (ay rfl) aC trivial (b9 rfl),eD rfl⟩)
 rw[gc,show((aL Z rs).map λr=>U.str r.1)=Z.map U.str by unfold aL;rw[et];rfl]at f;have i:((aL Z rs).map A').map (λu=>(kE .any,u))=(aL Z rs).map λr=>(Kd.any,A' r):=by rw[et];rfl
 obtain⟨st',v,o4,o5,o6,o7,o8,rfl,_⟩:=bI (rs:=[(.any,.lst ((aL Z rs).map A'))]) (t:=b6) (is:=[4,5]) (body:=execs (Io Pg d) UN) (λr:Row=>(Kd.any,A' r)) (λd q st=>∃o4 o5 o6 o7 o8,st=kq rs (aL Z rs) Z (ai rs) o4 o5 o6 o7 o8/\∀r∈q,r∈aL Z rs)
  (λ_ _ _ _=>trivial) (λd' y q st w=>by
   have⟨o4,o5,o6,o7,o8,e,j⟩:=w;subst e;have⟨k,hk,rfl⟩:=gs.mp (j y (by simp));have⟨I,J,L,r⟩:=Cp (Γ:=Io Pg d) (rs:=rs) (Z:=Z) (V:=ai rs) (P:=aL Z rs) (k:=k) (o6:=o6) (o7:=o7) (o8:=o8) o hk n;show⟨kq rs (aL Z rs) Z (ai rs) (a0 (.any,.str k)) (a0 (.any,.tup ((Kc Z rs k).map .str))) o6 o7 o8,_,e_ (.inr rfl),r,_,_,_,_,_,rfl,λr hr=>j r (by simp[hr])⟩) (aL Z rs) [] (kq rs (aL Z rs) Z (ai rs) b5 b5 b5 b5 b5) ⟨b5,b5,b5,b5,b5,rfl,λ_ h=>h⟩
 have z:bw .ne (.lst (Z.map U.str)) (.lst ((aH (ax Z)).map U.str))=a0 cb:=by rw[kK,s];simp
 have g:bq [(.bor 2,.lst (Z.map .str))] (kq rs (aL Z rs) Z (ai rs) b5 b5 b5 b5 b5):=⟨⟨.own,rfl,rfl⟩,trivial⟩
 have A:Run (ev (Io Pg d) (.bi .all [.comp 1 cb .seq [.var 2] [] (.cmp .isin (.var 0) (.var 4))])) (kq rs (aL Z rs) Z (ai rs) b5 b5 b5 b5 b5) (.loc,.bl b6) (kq rs (aL Z rs) Z (ai rs) b5 b5 b5 b5 b5):=by
  have l:=bX (cond:=aJ (Io Pg d) []) (elt:=ev (Io Pg d) (.cmp .isin (.var 0) (.var 4))) (src:=[(.bor 2,.lst (Z.map .str))]) (st:=kq rs (aL Z rs) Z (ai rs) b5 b5 b5 b5 b5) g .loc (.inl rfl) U.str (λ_=>.bl b6) .loc (λ_=>cH) Z [] (by simp;lia)
   (λy B=>⟨gW (ae rfl) (av rfl) ⟨⟨.own,rfl,rfl⟩,trivial⟩ (rS.trans (by rw[ś (b.subset B)])),aK⟩)
  rw[gc,show(Z.map λ_=>U.bl b6)=(Z.map λ_=>b6).map U.bl by rw[et];rfl]at l;have a:=jf (k:=.own) (Z.map λ_=>b6);rw[show((Z.map λ_=>b6).all id)=b6 by rw[Se];show tA.mpr λ_ _=>rfl]at a;show cC (aa (a5 (rs:=[(.bor 2,.lst (Z.map .str))]) (aa (av rfl) af) g (by change a0 ((Z.map U.str).map λu=>(kE (.bor 2),u))=_;rw[et];rfl) l) af) trivial a
 show(aq h _).trans (aF rfl (.inr rfl) (st0:=[a0 (.loc,.tup (rs.map A')),a0 (.any,.lst ((aL Z rs).map A')),b5,b5,b5,b5,b5,b5,b5]) (ŝ (λx:Option (Kd×U)=>[x,a0 (Kd.any,U.lst ((aL Z rs).map A')),b5,b5,b5,b5,b5,b5,b5]) (bp rs)) (aB (st2:=[a0 (.loc,.tup (rs.map A')),a0 (.any,.lst ((aL Z rs).map A')),a0 (.own,.lst (Z.map .str)),b5,b5,b5,b5,b5,b5]) (a5 (rs:=[(.any,.lst ((aL Z rs).map A'))]) (aa (ay rfl) af) trivial (by change a0 (RH (λu=>(kE .any,u)) _)=_;rw[i]) f) aS (aB (st2:=kq rs (aL Z rs) Z (ai rs) b5 b5 b5 b5 b5) (aE (aa (ae rfl) af) trivial m) aS (aM (mW (fK (aR (av rfl) (oh (aa (av rfl) af) g (gm ⋯ ⋯)) g z) (gX (dF (c:=b6) (mf A))))) ak (bW (rs:=[(.any,.lst ((aL Z rs).map A'))]) (aa (ay rfl) af) trivial (by change a0 (RH (λu=>(kE .any,u)) _)=_;rw[i]) rfl v (bc aC cI))))))
end
end TM
namespace TM
open PySem L2 IM Od
section
def Om.no(e:Z.Nodup)(h:Om rs Z l)(f:∀x∈c,x∈Z)(g:c.length<l.length):¬Suf rs c:=λs=>by
 have a:=h.min (Z.filter λx=>cK (x∈c)) r3 (s.mono λx d=>hY.mpr ⟨f x d,ś d⟩);have b:(Z.filter λx=>cK (x∈c)).length<=c.length:=bH (e.sublist r3) λx d=>Ŝ (hY.mp d).2;lia
def Lz.ne(hz:JZ rs a)(b:¬Suf rs a)(h:Lz (wp rs a) P):P≠[]:=by
 have⟨K,c,rfl⟩:=h;intro e;show b λx d=>oZ λhl=>?_;have:x∈KK.Iq (wp rs a) K:=a_.mpr ⟨(dQ hz).mpr d,λz=>hl ((Kn.mem c).mp z)⟩;have f:KK.Iq (wp rs a) K=[]:=List.map_eq_nil_iff.mp e;rw[f]at this;cases this
def Lz.in(c:KL.Kn rs K)(hz:JZ rs d)(h:Lz (wp rs d) P):∀p∈P,p.1∈KK.Iq rs K:=λp e=>by
 have⟨j,f,rfl⟩:=h;have⟨x,g,rfl⟩:=gs.mp e;have⟨a,b⟩:=a_.mp g;show a_.mpr ⟨(dQ hz).mp a,λz=>b ((Kn.mem f).mpr λC i=>?_)⟩;show(Kn.mem c).mp z C λr hr=>i r (wh _ hr)
def Lz.len(a:Bz ws (wp rs b))(h:Lz (wp rs b) P):P.length<=24:=by
 have⟨K,c,rfl⟩:=h;unfold KK.aL;rw[df];show ff a K
abbrev V_:List S:=[.ite (.not (.call "_law_paper_right" [.var 0,.bin .add (.var 1) (.lst [.var 4]),.bin .sub (.var 2) (.cst (.int 1)),.var 5])) [.ret (.cst (.bl cb))] []]
abbrev V':Fn:=⟨"_law_paper_right",4,6,[.ite (.or [.not (.LK (.var 3) .tuple),.cmp .ne (.bi .len [.var 3]) (.cst (.int 2)),.not (.LK (.idx (.var 3) (.cst (.int 1))) .tuple)]) [.ret (.cst (.bl cb))] [],.ite (.or [.cmp .eq (.bi .len [.idx (.var 3) (.cst (.int 0))]) (.cst (.int 0)),.not (.call "_law_knot_right" [.call "_law_given" [.var 0,.var 1],.idx (.var 3) (.cst (.int 0))])]) [.ret (.cst (.bl cb))] [],.ite (.cmp .eq (.var 2) (.cst (.int 0))) [.ret (.cmp .eq (.idx (.var 3) (.cst (.int 1))) (.tup []))] [],.ite (.cmp .ne (.comp 1 cb .seq [.idx (.var 3) (.cst (.int 1))] [] (.idx (.var 0) (.cst (.int 0)))) (.comp 1 cb .seq [.idx (.var 3) (.cst (.int 0))] [] (.idx (.var 0) (.cst (.int 0))))) [.ret (.cst (.bl cb))] [],.IF b6 [4,5] .seq [.idx (.var 3) (.cst (.int 1))] V_,.ret (.cst (.bl b6))]⟩
structure OS(Pg:List Fn):Prop where
 w:IK Pg "_law_words" vJ
 g:IK Pg "_law_given" Cn
 k:IK Pg "_law_knot_right" UO
 p:IK Pg "_law_paper_right" V'
def OS.QA(H:OS Pg)(a:Bz ws rs)(d:Nat):Io Pg (d+1) "_law_words" [.tup (rs.map A')]=a0 (.ok (.own,.lst ((ai rs).map .str))):=(aq H.w _).trans (rZ a.rl (λr hr=>(a.ok r hr).ok) (by have:=a.wl;lia))
def OS.Ig(H:OS Pg)(d:Nat)(a:Bz ws rs)(h:Lz rs P):Io Pg (d+2) "_law_knot_right" [.tup (rs.map A'),.lst (P.map A')]=a0 (.ok (.loc,.bl b6)):=by
 have⟨K,b,rfl⟩:=h;show Hk H.k a (H.QA a d) r3 (Kn.zN b)
abbrev r9(rs:List Row)(a:List Str)(n:Int)(w:U)(o4 o5:Option (Kd×U)):aA:=[a0 (.loc,.tup (rs.map A')),a0 (.any,.lst (a.map .str)),a0 (.loc,.int n),a0 (.any,w),o4,o5]
def Ih(H:OS Pg)(s:Bz ws rs)(G:KL.Kn rs K)(I:∀b:List Str,(∀x∈b,x∈KK.Iq rs K)->b.length<=m->¬Suf rs b)(Rh:rs.length+m<=100)(N0:m<=40):
  ∀(n:Nat) (b:List Str) (u:U) (d:Nat),Nt rs b n u->(∀x∈b,x∈KK.Iq rs K)->b.length+n<=m->Io Pg (d+n+3) "_law_paper_right" [.tup (rs.map A'),.lst (b.map .str),.int (n:Nat),u]=a0 (.ok (.loc,.bl b6)):=by
 have hsz:(1000:Nat)<=dV:=by decide
 have v:∀(b:List Str) (n:Int) (P:List Row) (ks:List U),start [.tup (rs.map A'),.lst (b.map .str),.int n,.tup [.lst (P.map A'),.tup ks]] 6=r9 rs b n (.tup [.lst (P.map A'),.tup ks]) b5 b5:=λb n P ks=>by
  change [a0 (if IY (.tup (rs.map A'))=b6 then Kd.loc else Kd.any,U.tup (rs.map A')),a0 (Kd.any,U.lst (b.map .str)),a0 (Kd.loc,U.int n),a0 (Kd.any,U.tup [.lst (P.map A'),.tup ks]),b5,b5]=_;rw[bp];rfl
 have i:∀{d:Nat} {b:List Str} {n:Int} {P:List Row} {ks:List U} {ss:List S} {l:Fl} {st':aA},(∀x∈b,x∈KK.Iq rs K)->b.length<=m->Lz (wp rs b) P->Run (execs (Io Pg (d+2)) ss) (r9 rs b n (.tup [.lst (P.map A'),.tup ks]) b5 b5) l st' ->
   Run (execs (Io Pg (d+2)) (.ite (.or [.not (.LK (.var 3) .tuple),.cmp .ne (.bi .len [.var 3]) (.cst (.int 2)),.not (.LK (.idx (.var 3) (.cst (.int 1))) .tuple)]) [.ret (.cst (.bl cb))] []::.ite (.or [.cmp .eq (.bi .len [.idx (.var 3) (.cst (.int 0))]) (.cst (.int 0)),.not (.call "_law_knot_right" [.call "_law_given" [.var 0,.var 1],.idx (.var 3) (.cst (.int 0))])]) [.ret (.cst (.bl cb))] []::ss)) (r9 rs b n (.tup [.lst (P.map A'),.tup ks]) b5 b5) l st':=λ{d b n P ks ss l st'} f hl hk r=>by
  have hz:JZ rs b:=λx hx=>(a_.mp (f x hx)).1;have o:=t8 s hz ⋯;have J:=hk.ne hz (I b f hl);have j:Run (ev (Io Pg (d+2)) (.idx (.var 3) (.cst (.int 0)))) (r9 rs b n (.tup [.lst (P.map A'),.tup ks]) b5 b5) (.any,.lst (P.map A')) (r9 rs b n (.tup [.lst (P.map A'),.tup ks]) b5 b5):=bj (ay rfl) aC trivial (b9 rfl);have k:Run (ev (Io Pg (d+2)) (.idx (.var 3) (.cst (.int 1)))) (r9 rs b n (.tup [.lst (P.map A'),.tup ks]) b5 b5) (.any,.tup ks) (r9 rs b n (.tup [.lst (P.map A'),.tup ks]) b5 b5):=bj (ay rfl) aC trivial (b9 rfl);have L:(((P.map A').length:Nat):Int)≠0:=by
   cases P with
   |nil=>show absurd rfl J
   |cons p P=>simp;lia
  show aM (mW (fK (dF (c:=b6) (zr (ay rfl) rfl)) (fK (aR (cC (aa (ay rfl) af) trivial pX) aC trivial (zC rfl)) (gX (dF (c:=b6) (zr k rfl)))))) ak (aM (mW (fK (aR (cC (aa j af) trivial cE) aC trivial (cJ (ř L))) (gX (dF (c:=b6) (dE (aa (aE (aa (ae rfl) (aa (ay rfl) af)) trivial (zV H.g ⋯ ⋯)) (aa j af)) trivial (H.Ig d o hk) rfl))))) ak r)
 intro n;induction n with
 |zero =>
  intro b u d h f hl;cases h with
  |@zero _ P hk =>
   show(aq H.p _).trans (aF rfl (.inr rfl) (v _ _ _ _) (i f ⋯ hk (pW (gk (aR (ae rfl) aC trivial (cJ rfl)) (bc (gW (bj (ay rfl) aC trivial (b9 rfl)) (cQ af trivial aD (mu _)) trivial (vn (ss:=[]))) cI)))))
 |succ n N =>
  intro b u d h f hl;cases h with
  |@succ _ _ P g hk O =>
   have hz:JZ rs b:=λx hx=>(a_.mp (f x hx)).1;have o:=t8 s hz ⋯;have V8:=hk.len o;have Q:=hk.in G hz;let w:U:=.tup [.lst (P.map A'),.tup (P.map λp=>.tup [.str p.1,g p])];let S:=r9 rs b ((n+1:Nat):Int) w;have j:∀o4 o5,Run (ev (Io Pg (d+(n+1)+2)) (.idx (.var 3) (.cst (.int 0)))) (S o4 o5) (.any,.lst (P.map A')) (S o4 o5):=λo4 o5=>bj (ay rfl) aC trivial (b9 rfl);have k:∀o4 o5,Run (ev (Io Pg (d+(n+1)+2)) (.idx (.var 3) (.cst (.int 1)))) (S o4 o5) (.any,.tup (P.map λp=>.tup [.str p.1,g p])) (S o4 o5):=λo4 o5=>bj (ay rfl) aC trivial (b9 rfl);have z:JX .seq [(.any,.tup (P.map λp=>.tup [.str p.1,g p]))]=a0 (P.map λp=>(Kd.any,U.tup [.str p.1,g p])):=by
    change a0 ((P.map λp=>U.tup [.str p.1,g p]).map λu=>(kE .any,u))=_;rw[et];rfl
   have A:=bX (cond:=aJ (Io Pg (d+(n+1)+2)) []) (elt:=ev (Io Pg (d+(n+1)+2)) (.idx (.var 0) (.cst (.int 0)))) (src:=[(.any,.tup (P.map λp=>.tup [.str p.1,g p]))]) (st:=S b5 b5) trivial .any (.inr rfl) (λp:Row=>U.tup [.str p.1,g p]) (λr=>.str r.1) .any (λ_=>cH) P [] (by simp;lia)
    (λy _=>⟨bj (ay rfl) aC trivial (b9 rfl),eD rfl⟩)
   have B:=bX (cond:=aJ (Io Pg (d+(n+1)+2)) []) (elt:=ev (Io Pg (d+(n+1)+2)) (.idx (.var 0) (.cst (.int 0)))) (src:=[(.any,.lst (P.map A'))]) (st:=S b5 b5) trivial .any (.inr rfl) A' (λr=>.str r.1) .any (λ_=>cH) P [] (by simp;lia)
    (λy _=>⟨bj (ay rfl) aC trivial (b9 rfl),eD rfl⟩)
   rw[gc,show(P.map λr=>U.str r.1)=(P.map (·.1)).map U.str by rw[et];rfl]at B A;have T:Run (IU (Io Pg (d+(n+1)+2)) (.cmp .ne (.comp 1 cb .seq [.idx (.var 3) (.cst (.int 1))] [] (.idx (.var 0) (.cst (.int 0)))) (.comp 1 cb .seq [.idx (.var 3) (.cst (.int 0))] [] (.idx (.var 0) (.cst (.int 0)))))) (S b5 b5) cb (S b5 b5) :=
    aR (a5 (aa (k _ _) af) trivial z A) (a5 (rs:=[(.any,.lst (P.map A'))]) (aa (j _ _) af) trivial (by change a0 ((P.map A').map λu=>(kE .any,u))=_;rw[et];rfl) B) trivial (kK.trans (by simp))
   obtain⟨st',Y,o4,o5,rfl,_⟩:=bI (rs:=[(.any,.tup (P.map λp=>.tup [.str p.1,g p]))]) (t:=b6) (is:=[4,5]) (body:=execs (Io Pg (d+(n+1)+2)) V_) (λp:Row=>(Kd.any,U.tup [.str p.1,g p])) (λ_ q st=>∃o4 o5,st=S o4 o5/\∀p∈q,p∈P)
    (λ_ _ _ _=>trivial) (λa p q st ID=>by
     have⟨o4,o5,e,C⟩:=ID;subst e;have D:=C p (by simp);have e1:=N (b++[p.1]) (g p) d (O p D) (λx hx=>by
      rcases ko.mp hx with hx|hx
      .show f x hx
      .rw[ix]at hx;subst hx;show Q p D) (by simp;lia)
     have e2:Io Pg (d+(n+1)+2) "_law_paper_right" [.tup (rs.map A'),.lst ((b++[p.1]).map .str),.int (((n+1:Nat):Int) - 1),g p]=a0 (.ok (.loc,.bl b6)):=by
      rw[show(((n+1:Nat):Int) - 1)=(n:Nat) by lia,show d+(n+1)+2=d+n+3 by lia];show e1
     have ad:Kg .add (.any,.lst (b.map .str)) (.own,.lst [.str p.1])=a0 (.own,.lst ((b++[p.1]).map .str)):=by
      rw[d9 (by change(b.map U.str).length+1<=dV;rw[df];lia) (jH (.inl rfl)) rfl,my];rfl
     show⟨S (a0 (.any,.str p.1)) (a0 (.any,g p)),S (a0 (.any,.str p.1)) (a0 (.any,g p)),e_ (.inr rfl),aM (dF (c:=b6) (dE (aa (ae rfl) (aa (b8 (ay rfl) (bB (us:=[.str p.1]) (aa (ay rfl) af) trivial (aG (eD rfl) aD) (by change 1<=dV;lia)) trivial ad) (aa (b8 (ae rfl) aC trivial fj) (aa (ay rfl) af)))) trivial e2 rfl)) ak ak,_,_,rfl,λr hr=>C r (by simp[hr])⟩) P [] (S b5 b5) ⟨b5,b5,rfl,λ_ h=>h⟩
   show(aq H.p _).trans (aF rfl (.inr rfl) (v _ _ _ _) (i f ⋯ hk (aM (aR (ae rfl) aC trivial (cJ (c:=cb) (by simp;lia))) ak (aM T ak (bW (aa (k _ _) af) trivial z rfl Y (bc aC cI))))))
end
section
abbrev C5:List S :=
   [.set 4 (.comp 1 cb .seq [.var 2] [.cmp .ne (.var 0) (.var 4)] (.var 0)),
   .set 5 (.comp 1 cb .seq [.var 0] [.cmp .isin (.idx (.var 0) (.cst (.int 0))) (.var 5)] (.var 0)),
   .set 6 (.comp 1 cb .seq [.call "_law_words" [.var 0]] [.cmp .Im (.var 0) (.var 5)] (.tup [.var 0,.tup []])),
   .ite (.not (.bi .all [.comp 1 cb .seq [.var 4] [] (.cmp .isin (.var 0) (.call "_law_learnt" [.bi .tuple [.bin .add (.var 6) (.var 7)]]))]))
    [.ret (.cst (.bl cb))]
    []]
abbrev Aa:Fn:=⟨"_law_is_core",2,7,[.set 2 (.comp 1 cb .seq [.var 1] [] (.idx (.var 0) (.cst (.int 0)))),.ite (.or [.cmp .eq (.bi .len [.var 2]) (.cst (.int 0)),.not (.call "_law_knot_right" [.var 0,.var 1])]) [.ret (.cst (.bl cb))] [],.IF cb [3] .seq [.var 2] C5,.ret (.cst (.bl b6))]⟩
abbrev M0(rs:List Row)(W:List Str):List Row:=(rs.filter λr=>cK (r.1∈W))++((ai rs).filter λx=>cK (x∉W)).map λx=>(x,[])
def Core.M0(k:Core rs Z)(l:y∈Z)(g:KL.Kn (M0 rs (Z.filter λx=>!cK (x=y))) K):∀x∈Z.filter (λx=>!cK (x=y)),x∈K:=by
 have h:=k.min y l ((Z.filter λx=>!cK (x=y)).filter λx=>cK (x∉K)) (λx c=>by
  have⟨a,b⟩:=hY.mp (hY.mp c).1;show⟨a,by simpa using b⟩) (λr hr d=>by
   have⟨d,e⟩:=hY.mp d;have e:r.1∉K:=Ŝ e;show oZ λf=>e (g.cl r (wh _ (hY.mpr ⟨hr,ś d⟩)) λz hz=>?_);show oZ λi=>?_;by_cases j:z∈Z.filter λx=>!cK (x=y)
   .show f ⟨z,hz,hY.mpr ⟨j,ś i⟩⟩
   .show i (g.cl (z,[]) (oR _ (gs.mpr ⟨z,hY.mpr ⟨cm.mpr (bS.mpr ⟨r,hr,.inr hz⟩),ś j⟩,rfl⟩)) λ_ h=>by cases h))
 intro x c;show oZ λf=>?_;have:x∈(Z.filter λx=>!cK (x=y)).filter λx=>cK (x∉K):=hY.mpr ⟨c,ś f⟩;rw[h]at this;cases this
def Fm(h:Bz ws rs)(i:Core rs Z)(hk:Γ "_law_knot_right" [.tup (rs.map A'),Jf rs Z]=a0 (.ok (.loc,.bl b6)))(s:Γ "_law_words" [.tup (rs.map A')]=a0 (.ok (.own,.lst ((ai rs).map .str))))
  (v:∀W:List Str,∃K,Γ "_law_learnt" [.tup ((M0 rs W).map A')]=a0 (.ok (.own,.lst ((aH K).map .str)))/\KL.Kn (M0 rs W) K) :
  bT Γ Aa [.tup (rs.map A'),Jf rs Z]=a0 (.ok (.loc,.bl b6)):=by
 have hsz:(1000:Nat)<=dV:=by decide
 have T:=h.rl;have Y:(ai rs).length<=24:=by have:=bM λr hr=>(h.ok r hr).ok;have:=h.wl;lia
 have Oo:=i.sub.length_le;have Ks:(KK.aL Z rs).length=Z.length:=by unfold KK.aL;rw[df]
 let S:Option (Kd×U)->Option (Kd×U)->Option (Kd×U)->Option (Kd×U)->Option (Kd×U)->aA:=λo2 o3 o4 o5 o6=>[a0 (.loc,.tup (rs.map A')),a0 (.any,Jf rs Z),o2,o3,o4,o5,o6]
 have w:start [.tup (rs.map A'),Jf rs Z] 7=S b5 b5 b5 b5 b5:=by
  change [a0 (if IY (.tup (rs.map A'))=b6 then Kd.loc else Kd.any,U.tup (rs.map A')),a0 (Kd.any,Jf rs Z),b5,b5,b5,b5,b5]=_;rw[bp]
 have f:=bX (cond:=aJ Γ []) (elt:=ev Γ (.idx (.var 0) (.cst (.int 0)))) (src:=[(.any,Jf rs Z)]) (st:=S b5 b5 b5 b5 b5) trivial .any (.inr rfl) A' (λr=>.str r.1) .any (λ_=>cH) (KK.aL Z rs) [] (by simp;lia)
  (λy _=>⟨bj (ay rfl) aC trivial (b9 rfl),eD rfl⟩)
 rw[gc,show((KK.aL Z rs).map λr=>U.str r.1)=Z.map U.str by unfold KK.aL;rw[et];rfl]at f;have z:Run (ev Γ (.comp 1 cb .seq [.var 1] [] (.idx (.var 0) (.cst (.int 0))))) (S b5 b5 b5 b5 b5) (.own,.lst (Z.map .str)) (S b5 b5 b5 b5 b5):=a5 (rs:=[(.any,Jf rs Z)]) (aa (ay rfl) af) trivial (by change a0 (((KK.aL Z rs).map A').map λu=>(kE .any,u))=_;rw[et];rfl) f;let a:Option (Kd×U):=a0 (.own,.lst (Z.map .str));obtain⟨st',A,o3,o4,o5,o6,rfl,_⟩:=bI (t:=cb) (is:=[3]) (body:=execs Γ C5) (rs:=[(.bor 2,.lst (Z.map .str))]) (λx:Str=>(Kd.loc,U.str x)) (λ_ q st=>∃o3 o4 o5 o6,st=S a o3 o4 o5 o6/\∀x∈q,x∈Z)
  (λ_ _ st ⟨o3,o4,o5,o6,e,_⟩=>by subst e;show⟨⟨.own,rfl,rfl⟩,trivial⟩) (λ_ y q st B=>by
   have⟨o3,o4,o5,o6,e,j⟩:=B;subst e;have C:=j y (by simp);have Nb:=nC (λx=>!cK (x=y)) Z;have⟨K,D,G⟩:=v (Z.filter λx=>!cK (x=y));have H:=i.M0 C G;have l:=dv (cond:=aJ Γ [.cmp .ne (.var 0) (.var 4)]) (elt:=ev Γ (.var 0)) (src:=[(.bor 2,.lst (Z.map .str))]) (st:=S a (a0 (.loc,.str y)) o4 o5 o6) ⟨⟨.own,rfl,rfl⟩,trivial⟩ .loc (.inl rfl) U.str U.str (λx=>!cK (x=y)) .loc Z [] (by simp;lia)
    (λx _=>⟨cu (aR (ae rfl) (ae rfl) trivial tX),λ_=>⟨ae rfl,aK⟩⟩)
   rw[gc]at l;have I:Run (ev Γ (.comp 1 cb .seq [.var 2] [.cmp .ne (.var 0) (.var 4)] (.var 0))) (S a (a0 (.loc,.str y)) o4 o5 o6) (.own,.lst ((Z.filter λx=>!cK (x=y)).map .str)) _:=a5 (rs:=[(.bor 2,.lst (Z.map .str))]) (aa (av rfl) af) ⟨⟨.own,rfl,rfl⟩,trivial⟩ (by change a0 ((Z.map U.str).map λu=>(kE (.bor 2),u))=_;rw[et];rfl) l;generalize hW:(Z.filter λx=>!cK (x=y))=W at *;let b:Option (Kd×U):=a0 (.own,.lst (W.map .str));have m:=dv (cond:=aJ Γ [.cmp .isin (.idx (.var 0) (.cst (.int 0))) (.var 5)]) (elt:=ev Γ (.var 0)) (src:=[(.loc,.tup (rs.map A'))]) (st:=S a (a0 (.loc,.str y)) b o5 o6) trivial .loc (.inl rfl) A' A' (λr=>cK (r.1∈W)) .loc rs [] (by simp;lia)
    (λr _=>⟨cu (aR (x:=(.loc,.str r.1)) (bj (ae rfl) aC trivial (b9 rfl)) (av rfl) ⟨⟨.own,rfl,rfl⟩,trivial⟩ rS),λ_=>⟨ae rfl,aK⟩⟩)
   rw[gc]at m;have J:Run (ev Γ (.comp 1 cb .seq [.var 0] [.cmp .isin (.idx (.var 0) (.cst (.int 0))) (.var 5)] (.var 0))) (S a (a0 (.loc,.str y)) b o5 o6) (.own,.lst ((rs.filter λr=>cK (r.1∈W)).map A')) _:=a5 (rs:=[(.loc,.tup (rs.map A'))]) (aa (ae rfl) af) trivial jg m;let d:Option (Kd×U):=a0 (.own,.lst ((rs.filter λr=>cK (r.1∈W)).map A'));have n:=dv (cond:=aJ Γ [.cmp .Im (.var 0) (.var 5)]) (elt:=ev Γ (.tup [.var 0,.tup []])) (src:=[(.own,.lst ((ai rs).map .str))]) (st:=S a (a0 (.loc,.str y)) b d o6) trivial .loc (.inl rfl) U.str (λx=>A' (x,[])) (λx=>cK (x∉W)) .loc (ai rs) [] (by simp;lia)
    (λx _=>⟨cu (aR (ae rfl) (av rfl) ⟨⟨.own,rfl,rfl⟩,trivial⟩ d8),λ_=>⟨cQ (aa (ae rfl) (aa (cQ af trivial aD (mu _)) af)) trivial (aG aK (aG aK aD)) (by change 2<=dV;lia),aK⟩⟩)
   rw[gc]at n;have L:Run (ev Γ (.comp 1 cb .seq [.call "_law_words" [.var 0]] [.cmp .Im (.var 0) (.var 5)] (.tup [.var 0,.tup []]))) (S a (a0 (.loc,.str y)) b d o6) (.own,.lst ((((ai rs).filter λx=>cK (x∉W)).map λx=>((x,[]):Row)).map A')) (S a (a0 (.loc,.str y)) b d o6):=by
    rw[et];show a5 (rs:=[(.own,.lst ((ai rs).map .str))]) (aa (aE (aa (ae rfl) af) trivial s) af) trivial (by change a0 (((ai rs).map U.str).map λu=>(kE .own,u))=_;rw[et];rfl) n
   let g:Option (Kd×U):=a0 (.own,.lst ((((ai rs).filter λx=>cK (x∉W)).map λx=>((x,[]):Row)).map A'));have f1:=nC (λr:Row=>cK (r.1∈W)) rs;have f2:=nC (λx=>cK (x∉W)) (ai rs);have N:∀x:Str,Run (ev Γ (.call "_law_learnt" [.bi .tuple [.bin .add (.var 6) (.var 7)]])) (a0 (.loc,.str x)::S a (a0 (.loc,.str y)) b d g) (.own,.lst ((aH K).map .str)) (a0 (.loc,.str x)::S a (a0 (.loc,.str y)) b d g):=λx=>by
    show aE (rs:=[(.loc,.tup ((M0 rs W).map A'))]) (aa (cC (aa (b8 (av rfl) (av rfl) ⟨⟨.own,rfl,rfl⟩,⟨.own,rfl,rfl⟩,trivial⟩ (d9 (by rw[df,df,df];lia) rfl rfl)) af) trivial ?_) af) trivial D;unfold M0;rw[my];rfl
   have o:=bX (cond:=aJ Γ []) (elt:=ev Γ (.cmp .isin (.var 0) (.call "_law_learnt" [.bi .tuple [.bin .add (.var 6) (.var 7)]]))) (src:=[(.bor 4,.lst (W.map .str))]) (st:=S a (a0 (.loc,.str y)) b d g) ⟨⟨.own,rfl,rfl⟩,trivial⟩ .loc (.inl rfl) U.str (λ_=>.bl b6) .loc (λ_=>cH) W [] (by simp;lia)
    (λx f=>⟨gW (ae rfl) (N x) trivial (rS.trans (by rw[ś ((bh K).mem_iff.mpr (H x f))])),aK⟩)
   rw[gc,show(W.map λ_=>U.bl b6)=(W.map λ_=>b6).map U.bl by rw[et];rfl]at o;have p:=jf (k:=.own) (W.map λ_=>b6);rw[show((W.map λ_=>b6).all id)=b6 by rw[Se];show tA.mpr λ_ _=>rfl]at p;have O:Run (IU Γ (.bi .all [.comp 1 cb .seq [.var 4] [] (.cmp .isin (.var 0) (.call "_law_learnt" [.bi .tuple [.bin .add (.var 6) (.var 7)]]))])) (S a (a0 (.loc,.str y)) b d g) b6 (S a (a0 (.loc,.str y)) b d g):=mf (cC (aa (a5 (rs:=[(.bor 4,.lst (W.map .str))]) (aa (av rfl) af) ⟨⟨.own,rfl,rfl⟩,trivial⟩ (by change a0 ((W.map U.str).map λu=>(kE (.bor 4),u))=_;rw[et];rfl) o) af) trivial p);show⟨S a (a0 (.loc,.str y)) o4 o5 o6,S a (a0 (.loc,.str y)) b d g,aX,aB I aS (aB J aS (aB L aS (aM (dF (c:=b6) O) ak ak))),_,_,_,_,rfl,λx f=>j x (by simp[f])⟩) Z [] (S a b5 b5 b5 b5) ⟨b5,b5,b5,b5,rfl,λx f=>f⟩
 have Q:(((Z.map U.str).length:Nat):Int)≠0:=by
  have:0<Z.length:=PV.mpr i.ne;rw[df];lia
 show aF rfl (.inr rfl) w (aB z aS (aM (mW (fK (aR (cC (aa (av rfl) af) (by show⟨⟨.own,rfl,rfl⟩,trivial⟩) cE) aC trivial (cJ (c:=cb) (Ş.mpr Q))) (gX (dF (c:=b6) (dE (aa (ae rfl) (aa (ay rfl) af)) trivial hk rfl))))) ak (bW (rs:=[(.bor 2,.lst (Z.map .str))]) (aa (av rfl) af) (by show⟨⟨.own,rfl,rfl⟩,trivial⟩) (by change a0 ((Z.map U.str).map λu=>(kE (.bor 2),u))=_;rw[et];rfl) rfl A (bc aC cI))))
end
section
def Core.hit(h:Core rs Z)(hl:Suf rs l):∃x∈Z,x∈l:=by
 show oZ λc=>?_;obtain⟨x,b⟩:∃x,x∈Z:=List.exists_mem_of_ne_nil _ h.ne;show hl x (h.sub.subset b) (λy=>y∉Z) (λr hr d hz=>?_) b;rcases qj hr with hr|⟨a,_⟩
 .have⟨y,e,f⟩:=h.sup r hr hz;show d y e f
 .show c ⟨_,hz,a⟩
def LQ.Lj(h:LQ rs G a)(hl:Suf rs l):a.length<=l.length:=by
 have b:∀a:List (List Str),(∀Z∈a,∃x∈Z,x∈l)->a.length<=(a.flatten.filter λx=>cK (x∈l)).length:=λa=>by
  induction a with
  |nil=>intro _;simp
  |cons Z a c =>
   intro hz;have b:=c λd f=>hz d (by simp[f]);have⟨x,g,i⟩:=hz Z (by simp);have j:0<(Z.filter λx=>cK (x∈l)).length:=PV.mpr λe=>by
    have:x∈Z.filter λx=>cK (x∈l):=hY.mpr ⟨g,ś i⟩;rw[e]at this;cases this
   rw[Nf,LV,i4,mh];lia
 have j:=b a λZ k=>(h.co Z k).hit hl;have n:(a.flatten.filter λx=>cK (x∈l)).length<=l.length:=bH ((h.fl▸h.nd).sublist r3) λx m=>Ŝ (hY.mp m).2;lia
abbrev Hl:List S :=
   [.ite (.not (.call "_law_is_core" [.var 0,.var 4]))
    [.ret (.cst (.bl cb))]
    [],
   .set 3 (.bin .add (.var 3) (.comp 1 cb .seq [(.var 4)] [] (.idx (.var 0) (.cst (.int 0)))))]
abbrev Fo:Fn:=⟨"_law_apart_right",3,5,[.set 3 (.lst []),.IF cb [4] .seq [.var 1] Hl,.ite (.or [.cmp .lt (.Lg .la [.var 3]) (.bi .len [.var 3]),.cmp .gt (.bi .len [.var 1]) (.var 2)]) [.ret (.cst (.bl cb))] [],.ret (.call "_law_enough" [.var 0,.var 3])]⟩
def Fp(j:Bz ws rs)(b:LQ rs G g)(A:Suf rs G)(hl:Suf rs l)(n:∀Z,Core rs Z->Γ "_law_is_core" [.tup (rs.map A'),Jf rs Z]=a0 (.ok (.loc,.bl b6)))(o:Γ "_law_enough" [.tup (rs.map A'),.lst (G.map .str)]=a0 (.ok (.loc,.bl b6))):
  bT Γ Fo [.tup (rs.map A'),.lst (g.map (Jf rs)),.int (l.length:Nat)]=a0 (.ok (.loc,.bl b6)):=by
 have hsz:(1000:Nat)<=dV:=by decide
 have B:(ai rs).length<=24:=by have:=bM λr hr=>(j.ok r hr).ok;have:=j.wl;lia
 have⟨C,D⟩:=b.len;have H:=b.Lj hl;let S:List Str->Option (Kd×U)->aA:=λW o4=>[a0 (.loc,.tup (rs.map A')),a0 (.any,.lst (g.map (Jf rs))),a0 (.loc,.int (l.length:Nat)),a0 (.own,.lst (W.map .str)),o4]
 have⟨st',p,W,o4,a,rfl,d,h⟩:=bI (t:=cb) (is:=[4]) (body:=execs Γ Hl) (rs:=[(.any,.lst (g.map (Jf rs)))]) (λZ:List Str=>(Kd.any,Jf rs Z)) (λ_ q st=>∃W o4 a,st=S W o4/\a++q=g/\W=a.flatten)
  (λ_ _ _ _=>trivial) (λ_ Z q st s=>by
   have⟨W,o4,a,e,d,h⟩:=s;subst e;have k:Core rs Z:=b.co Z (by rw[<-d];simp);have I:=k.sub.length_le;have J:W.length<=G.length:=by
    rw[h,<-b.fl,<-d,R_,i4];lia
   have L:(KK.aL Z rs).length=Z.length:=by unfold KK.aL;rw[df]
   have f:=bX (cond:=aJ Γ []) (elt:=ev Γ (.idx (.var 0) (.cst (.int 0)))) (src:=[(.any,Jf rs Z)]) (st:=S W (a0 (.any,Jf rs Z))) trivial .any (.inr rfl) A' (λr=>.str r.1) .any (λ_=>cH) (KK.aL Z rs) [] (by simp;lia)
    (λy _=>⟨bj (ay rfl) aC trivial (b9 rfl),eD rfl⟩)
   rw[gc,show((KK.aL Z rs).map λr=>U.str r.1)=Z.map U.str by unfold KK.aL;rw[et];rfl]at f;have v:Run (ev Γ (.comp 1 cb .seq [.var 4] [] (.idx (.var 0) (.cst (.int 0))))) (S W (a0 (.any,Jf rs Z))) (.own,.lst (Z.map .str)) (S W (a0 (.any,Jf rs Z))):=a5 (rs:=[(.any,Jf rs Z)]) (aa (ay rfl) af) trivial (by change a0 (((KK.aL Z rs).map A').map λu=>(kE .any,u))=_;rw[et];rfl) f;have m:=b8 (op:=.add) (av (Γ:=Γ) (i:=3) (st:=S W (a0 (.any,Jf rs Z))) rfl) v ⟨⟨.own,rfl,rfl⟩,trivial⟩ (d9 (xs:=W.map U.str) (by rw[df,df];lia) rfl rfl);rw[<-my]at m;show⟨S W (a0 (.any,Jf rs Z)),S (W++Z) (a0 (.any,Jf rs Z)),gY,aM (dF (c:=b6) (dE (aa (ae rfl) (aa (ay rfl) af)) trivial (n Z k) rfl)) ak (aB m aS ak),_,_,a++[Z],rfl,by rw[<-d];simp,by rw[h];simp⟩) g [] (S [] b5) ⟨[],b5,[],rfl,rfl,rfl⟩
 rw[sx]at d;subst d;rw[b.fl]at h;subst h;have w:(ax W).length=W.length:=Nat.le_antisymm (bH (aQ _) λx f=>by simpa[aP] using f) (bH b.nd λx f=>by simpa[aP] using f);have z:sT .la [(.bor 3,.lst (W.map .str))]=a0 (.loc,.int (W.length:Nat)):=by
  change(fN (.lst (W.map .str))).map _=_;rw[cF ⋯,TV,w]
 show aF (st0:=[a0 (.loc,.tup (rs.map A')),a0 (.any,.lst (a.map (Jf rs))),a0 (.loc,.int (l.length:Nat)),b5,b5]) rfl (.inr rfl) (ŝ (λx:Option (Kd×U)=>[x,a0 (Kd.any,U.lst (a.map (Jf rs))),a0 (Kd.loc,U.int (l.length:Nat)),b5,b5]) (bp rs)) (aB (st2:=S [] b5) (bB af trivial aD (mu _)) aS (bW (rs:=[(.any,.lst (a.map (Jf rs)))]) (aa (ay rfl) af) trivial (by change a0 ((a.map (Jf rs)).map λu=>(kE .any,u))=_;rw[et];rfl) rfl p (aM (mW (fK (aR (oh (aa (av rfl) af) ⟨⟨.own,rfl,rfl⟩,trivial⟩ z) (cC (aa (av rfl) af) ⟨⟨.own,rfl,rfl⟩,trivial⟩ cE) trivial (oi (c:=cb) (by rw[df];simp))) (gX (aR (cC (aa (ay rfl) af) trivial cE) (ae rfl) trivial (ja (c:=cb) (by rw[df];simp;lia)))))) ak (bc (aE (aa (ae rfl) (aa (av rfl) af)) ⟨⟨.own,rfl,rfl⟩,trivial⟩ o) cI))))
end
section
def Fq{M:List Str}(hk:k=.own\/k=.loc)(e:st[i]?=a0 (a0 (k,.lst (M.map .str)))):∃k',Run (ev Γ (.var i)) st (k',.lst (M.map .str)) st/\(∀rs,bq rs st->bq ((k',.lst (M.map .str))::rs) st)/\JX .seq [(k',.lst (M.map .str))]=a0 (M.map λx=>(Kd.loc,U.str x)):=by
 rcases hk with rfl|rfl
 .show⟨_,av e,λ_ z=>⟨⟨.own,rfl,e⟩,z⟩,?_⟩;change a0 ((M.map U.str).map λu=>(kE (.bor i),u))=_;rw[et];rfl
 .show⟨_,ae e,λ_ z=>z,?_⟩;change a0 ((M.map U.str).map λu=>(kE .loc,u))=_;rw[et];rfl
abbrev dr(M:List Str)(y:Str):List Str:=M.filter λx=>!cK (x=y)
def iB{M:List Str}:x∈dr M y↔x∈M/\x≠y:=by unfold dr;rw[hY];simp
def Ab{M:List Str}(hk:k=.loc\/k=.any)(hl:M.length<=1000)(hs:Run (ev Γ (.var i)) st src st)(b:bq [src] st)(e:JX .seq [src]=a0 (M.map λx=>(k,U.str x)))(a:∃k',(k'=.loc\/k'=.any)/\st[j]?=a0 (a0 (k',.str y))):
  Run (ev Γ (.comp 1 cb .seq [.var i] [.cmp .ne (.var 0) (.var (j+1))] (.var 0))) st (.own,.lst ((dr M y).map .str)) st:=by
 have hsz:(1000:Nat)<=dV:=by decide
 have⟨k',c,a⟩:=a;have d:=dv (cond:=aJ Γ [.cmp .ne (.var 0) (.var (j+1))]) (elt:=ev Γ (.var 0)) (src:=[src]) (st:=st) b k hk U.str U.str (λx=>!cK (x=y)) k M [] (by simp;lia)
  (λx _=>⟨cu (aR (cO hk rfl) (cO c (by simpa using a)) (bZ hk (bZ c trivial)) tX),λ_=>⟨cO hk rfl,Rr hk rfl⟩⟩)
 rw[gc]at d;show a5 (rs:=[src]) (aa hs af) b e d
structure M1(rs:List Row)(L M d:List Str):Prop where
 sub:M.Sublist (aH L)
 Nr:Suf rs M
 min:∀w∈M,w∈d->¬Suf rs (dr M w)
def M1.drop{L M d:List Str}(h:M1 rs L M d)(s:Suf rs (dr M y)):M1 rs L (dr M y) (d++[y]):=by
 show⟨(r3).trans h.sub,s,λw e hd z=>?_⟩;have⟨a,b⟩:=iB.mp e;rcases ko.mp hd with hd|hd
 .show h.min w a hd (z.mono λx c=>iB.mpr ⟨(iB.mp (iB.mp c).1).1,(iB.mp c).2⟩)
 .show b (ix.mp hd)
def M1.keep{L M d:List Str}(h:M1 rs L M d)(s:¬Suf rs (dr M y)):M1 rs L M (d++[y]):=by
 show⟨h.sub,h.Nr,λw a hd z=>?_⟩;rcases ko.mp hd with hd|hd
 .show h.min w a hd z
 .rw[ix]at hd;subst hd;show s z
abbrev Ac:List S :=
   [.set 4 (.comp 1 cb .seq [.var 2] [.cmp .ne (.var 0) (.var 4)] (.var 0)),
   .ite (.call "suffice" [.var 0,.var 4])
    [.set 2 (.var 4)]
    []]
abbrev Ad:Fn:=⟨"spared",2,5,[.ite (.not (.call "suffice" [.var 0,.var 1])) [.bad] [],.set 2 (.bi .sorted [.var 1]),.IF cb [3] .seq [.bi .sorted [.var 1]] Ac,.ret (.var 2)]⟩
abbrev mZ(rs:List Row)(L:List Str)(k2:Kd)(M:List Str)(o3 o4:Option (Kd×U)):aA:=[a0 (.loc,.tup (rs.map A')),a0 (.any,.lst (L.map .str)),a0 (k2,.lst (M.map .str)),o3,o4]
def xh{M:List Str}(c:k2=.own\/k2=.loc)(hl:M.length<=1000)(hs:Γ "suffice" [.tup (rs.map A'),.lst ((dr M y).map .str)]=a0 (.ok (.loc,.bl b))):
  ∃a f,(a=Kd.own\/a=.loc)/\Run (execs Γ Ac) (mZ rs L k2 M (a0 (.loc,.str y)) o4) .nx (mZ rs L a (if b=b6 then dr M y else M) (a0 (.loc,.str y)) f):=by
 have⟨k',g,h,k⟩:=Fq (Γ:=Γ) (st:=mZ rs L k2 M (a0 (.loc,.str y)) o4) (i:=2) (M:=M) c rfl;have d:=Ab (j:=3) (y:=y) (.inl rfl) hl g (h _ trivial) k ⟨.loc,.inl rfl,rfl⟩;have e:Run (IU Γ (.call "suffice" [.var 0,.var 4])) (mZ rs L k2 M (a0 (.loc,.str y)) (a0 (.own,.lst ((dr M y).map .str)))) b (mZ rs L k2 M (a0 (.loc,.str y)) (a0 (.own,.lst ((dr M y).map .str)))):=dE (aa (ae rfl) (aa (av rfl) af)) ⟨⟨.own,rfl,rfl⟩,trivial⟩ hs rfl;cases b with
 |true=>show⟨.loc,a0 (.loc,.lst ((dr M y).map .str)),.inr rfl,aB d aS (dq e (aB (av rfl) (C2 rfl) ak) ak)⟩
 |false=>show⟨k2,a0 (.own,.lst ((dr M y).map .str)),c,aB d aS (aM e ak ak)⟩
def Fs(H:ql Pg)(h:IK Pg "spared" Ad)(m:Bz ws rs)(hl:L.length<=40)(hz:rs.length+L.length<=120)(z:JZ rs L)(s:Suf rs L):
  ∃k2 M,(k2=Kd.own\/k2=.loc)/\Io Pg (d+8) "spared" [.tup (rs.map A'),.lst (L.map .str)]=a0 (.ok (k2,.lst (M.map .str)))/\M1 rs L M M:=by
 have⟨b,j,i⟩:=Ce H d m .lst hl hz z;have:b=b6:=i.mpr s;subst this;have n:∀r,Run (ev (Io Pg (d+7)) (.bi .sorted [.var 1])) (a0 (.loc,.tup (rs.map A'))::a0 (.any,.lst (L.map .str))::r) (.own,.lst ((aH L).map .str)) (a0 (.loc,.tup (rs.map A'))::a0 (.any,.lst (L.map .str))::r):=λr=>cC (aa (ay rfl) af) trivial (KL.mz ⋯);have⟨st',p,k2,M,o3,o4,g,rfl,f⟩:=bI (rs:=[(.own,.lst ((aH L).map .str))]) (t:=cb) (is:=[3]) (body:=execs (Io Pg (d+7)) Ac) (λx:Str=>(Kd.loc,U.str x)) (λa q st=>∃k2 M o3 o4,(k2=Kd.own\/k2=.loc)/\st=mZ rs L k2 M o3 o4/\M1 rs L M a)
  (λ_ _ _ _=>trivial) (λa y q st v=>by
   have⟨k2,M,o3,o4,g,e,f⟩:=v;subst e;have G:M.length<=L.length:=by have:=f.sub.length_le;rw[cc]at this;show this
   have I:(dr M y).length<=M.length:=nC _ _;have A:JZ rs (dr M y):=λx k=>z x ((bh L).mem_iff.mp (f.sub.subset (iB.mp k).1));have⟨b,j,i⟩:=Ce H d m (L:=dr M y) .lst ⋯ ⋯ A;have⟨B,J,C,q⟩:=xh (L:=L) (o4:=o4) g ⋯ j;show⟨mZ rs L k2 M (a0 (.loc,.str y)) o4,_,aX,q,B,_,_,_,C,rfl,?_⟩;cases b with
   |true=>show f.drop (i.mp rfl)
   |false=>show f.keep λs=>by cases i.mpr s) (aH L) [] (mZ rs L .own (aH L) b5 b5) ⟨.own,aH L,b5,b5,.inl rfl,rfl,⟨Y5 _,s.mono λx k=>(bh L).mem_iff.mpr k,λ_ _ D=>by cases D⟩⟩
 rw[gc]at f;have l:∃st',Run (execs (Io Pg (d+7)) [.ret (.var 2)]) (mZ rs L k2 M o3 o4) (.rt k2 (.lst (M.map .str))) st':=by
  rcases g with rfl|rfl
  .show⟨_,bc (av rfl) (i_ rfl)⟩
  .show⟨_,bc (ae rfl) cI⟩
 have⟨st',l⟩:=l;show⟨k2,M,g,(aq h _).trans (aF rfl g (Bw.lst.start 3) (aM (dF (c:=b6) (dE (aa (ae rfl) (aa (ay rfl) af)) trivial j rfl)) ak (aB (st2:=mZ rs L .own (aH L) b5 b5) (n [b5,b5,b5]) aS (bW (rs:=[(.own,.lst ((aH L).map .str))]) (xs:=(aH L).map λx=>(Kd.loc,U.str x)) (aa (n [a0 (.own,.lst ((aH L).map .str)),b5,b5]) af) trivial (by change a0 (((aH L).map U.str).map λu=>(kE .own,u))=_;rw[et];rfl) rfl p l)))),f.sub,f.Nr,λw o _=>f.min w o (f.sub.subset o)⟩
end
section
def vK(h:l.Sublist (ai rs)):aH (ax l)=l:=by
 have n:l.Nodup:=(cn rs).sublist h;show d_ ((DD (aQ l) n).mpr λx=>by simp[aP]) ((bU _).sublist h)
def Ae(h:l.Sublist (ai rs)):aH l=l:=d_ (MI _) ((bU _).sublist h)
def Af:(ax l).length<=l.length:=bH (aQ _) λx a=>by simpa[aP] using a
def Ag(a:List Bool):JW .any [(k,.lst (a.map .bl))]=a0 (.loc,.bl (a.any id)):=by
 change(f7 (a.map U.bl)).map _=_;have:∀a:List Bool,f7 (a.map U.bl)=a0 a:=λa=>by
  induction a with
  |nil=>rfl
  |cons b a c=>change(f7 (a.map U.bl)).map _=_;rw[c];rfl
 rw[this];rfl
def Ii(h:Run (ev Γ a) st (k,.bl c) st1):Run (ev Γ (.not a)) st (.loc,.bl !c) st1:=ag h bb
abbrev C6:List S :=
   [.ite (.and [.cmp .lt (.bi .len [.var 5]) (.bi .len [.var 3]),.or [.call "_law_enough" [.var 1,.var 5],.cmp .J9 (.call "suffice" [.var 1,.var 5]) (.cst (.bl cb))]])
    [.ret (.cst (.bl cb))]
    []]
abbrev vL:List S :=
  [.set 6 (.call "spared" [.var 1,.bi .list [.var 2]]),
  .ite (.or [.cmp .ne (.var 6) (.Lg .sset [.var 6]),.not (.bi .all [.comp 1 cb .seq [.var 6] [] (.cmp .isin (.var 0) (.var 3))]),.cmp .lt (.bi .len [.var 6]) (.bi .len [.var 3])])
   [.ret (.cst (.bl cb))]
   [],
  .ite (.not (.call "_law_enough" [.var 1,.var 6]))
   [.ret (.cst (.bl cb))]
   [],
  .ret (.not (.bi .any [(.comp 1 cb .seq [(.var 6)] [] (.call "_law_enough" [(.var 2),(.comp 1 cb .seq [(.var 7)] [(.cmp .ne (.var 0) (.var 1))] (.var 0))]))]))]
abbrev Ah:Fn:=⟨"law",1,7,[.Kl [1,2] (.call "_law_few" [.var 0,.call "_law_made" [.var 0]]),.Kl [3,4] (.call "fewest" [.var 1]),.ite (.or [.not (.LK (.var 3) .list),.cmp .ne (.var 3) (.Lg .sset [.var 3])]) [.ret (.cst (.bl cb))] [],.ite (.not (.bi .all [.comp 1 cb .seq [.var 3] [] (.cmp .isin (.var 0) (.call "_law_words" [.var 2]))])) [.ret (.cst (.bl cb))] [],.ite (.or [.not (.call "_law_enough" [.var 1,.var 3]),.cmp .J9 (.call "suffice" [.var 1,.var 3]) (.cst (.bl b6))]) [.ret (.cst (.bl cb))] [],.IF cb [5] .seq [.call "_law_sets" [.var 2]] C6,.ite (.cmp .eq (.bi .len [.var 3]) (.cst (.int 0))) [.ite (.cmp .J9 (.var 4) (.cst .Iy)) [.ret (.cst (.bl cb))] []] [.ite (.not (.call "_law_paper_right" [.var 1,.lst [],.bin .sub (.bi .len [.var 3]) (.cst (.int 1)),.var 4])) [.ret (.cst (.bl cb))] []],.ite (.not (.call "_law_apart_right" [.var 1,.call "apart" [.var 1],.bi .len [.var 3]])) [.ret (.cst (.bl cb))] []]++vL⟩
structure We(Γ:Tab)(rs:List Row)(Z l:List Str)(v:U):Prop where
 fe:Γ "fewest" [.tup (rs.map A')]=a0 (.ok (.loc,.tup [IJ l,v]))
 fw:Om rs Z l
 pv:l=[]->v=.Iy
 wd:Γ "_law_words" [.tup (rs.map A')]=a0 (.ok (.own,.lst ((ai rs).map .str)))
 en:∀L:List Str,(∀x∈L,x∈Z)->L.length<=24->∃b,Γ "_law_enough" [.tup (rs.map A'),IJ L]=a0 (.ok (.loc,.bl b))/\(b=b6↔Suf rs L)
 su:∀L:List Str,(∀x∈L,x∈Z)->L.length<=24->∃b,Γ "suffice" [.tup (rs.map A'),IJ L]=a0 (.ok (.loc,.bl b))/\(b=b6↔Suf rs L)
 ss:∃cs:List (List Str),Γ "_law_sets" [.lst (Z.map .str)]=a0 (.ok (.own,.lst (cs.map IJ)))/\cs.length<=1000/\∀L∈cs,(∀x∈L,x∈Z)/\L.length<=5
 pr:∀x l',l=x::l'->Γ "_law_paper_right" [.tup (rs.map A'),.lst [],.int (l'.length:Nat),v]=a0 (.ok (.loc,.bl b6))
 ap:∃u,Γ "apart" [.tup (rs.map A')]=a0 (.ok (.own,u))/\Γ "_law_apart_right" [.tup (rs.map A'),u,.int (l.length:Nat)]=a0 (.ok (.loc,.bl b6))
 sp:∃k2 M,(k2=Kd.own\/k2=.loc)/\Γ "spared" [.tup (rs.map A'),.lst (Z.map .str)]=a0 (.ok (k2,.lst (M.map .str)))/\M1 rs Z M M
abbrev Rw(o0:Option (Kd×U))(rs:List Row)(Z l:List Str)(v:U)(o5 o6:Option (Kd×U)):aA:=[o0,a0 (.loc,.tup (rs.map A')),a0 (.loc,.lst (Z.map .str)),a0 (.loc,IJ l),a0 (.loc,v),o5,o6]
def Cq{Z:List Str}:JW .list [(.loc,.lst (Z.map .str))]=a0 (.own,.lst (Z.map .str)):=by
 change(if fy .loc (Z.map U.str)=b6 then a0 (Kd.own,U.lst (Z.map U.str)) else b5)=_;rw[Ř (show fy .loc (Z.map U.str)=b6 from rfl)]
def Cr(h:We Γ rs Z l v)(r:Z.Sublist (ai rs))(N:Z.length<=5):∃st',Run (execs Γ vL) (Rw o0 rs Z l v o5 b5) (.rt .loc (.bl b6)) st':=by
 have hsz:(1000:Nat)<=dV:=by decide
 have⟨k2,M,n,u,o⟩:=h.sp;have d:M.Sublist Z:=by have:=o.sub;rw[Ae r]at this;show this
 have w:=d.trans r;have O:=d.length_le;let S:=Rw o0 rs Z l v o5 (a0 (k2,.lst (M.map .str)));have⟨k',e,a,s⟩:=Fq (Γ:=Γ) (st:=S) (i:=6) (M:=M) n rfl;have z:Run (dJ 6 (k2,.lst (M.map .str))) (Rw o0 rs Z l v o5 b5) () S:=by
  rcases n with rfl|rfl
  .show aS
  .show aX
 have A:Run (ev Γ (.bi .len [.var 6])) S (.loc,.int (M.length:Nat)) S:=by
  have:=cC (Γ:=Γ) (f:=.len) (es:=[.var 6]) (aa e af) (a _ trivial) (show JW .len [(k',.lst (M.map .str))]=_ from cE);rw[df]at this;show this
 have KZ:Run (ev Γ (.bi .len [.var 3])) S (.loc,.int (l.length:Nat)) S:=by
  have:=cC (Γ:=Γ) (st:=S) (f:=.len) (es:=[.var 3]) (aa (ae rfl) af) trivial (show JW .len [(.loc,IJ l)]=_ from cE);rw[df]at this;show this
 have B:bw .ne (.lst (M.map U.str)) (.lst ((aH (ax M)).map U.str))=a0 cb:=by rw[kK,vK w];simp
 have C:Run (ev Γ (.bi .all [.comp 1 cb .seq [.var 6] [] (.cmp .isin (.var 0) (.var 3))])) S (.loc,.bl b6) S:=by
  have t:=bX (cond:=aJ Γ []) (elt:=ev Γ (.cmp .isin (.var 0) (.var 3))) (src:=[(k',.lst (M.map .str))]) (st:=S) (a _ trivial) .loc (.inl rfl) U.str (λ_=>.bl b6) .loc (λ_=>cH) M [] (by simp;lia)
   (λy p=>⟨gW (ae rfl) (ae rfl) trivial (rS.trans (by rw[ś (d.subset p)])),aK⟩)
  rw[gc,show(M.map λ_=>U.bl b6)=(M.map λ_=>b6).map U.bl by rw[et];rfl]at t;have m:=jf (k:=.own) (M.map λ_=>b6);rw[show((M.map λ_=>b6).all id)=b6 by rw[Se];show tA.mpr λ_ _=>rfl]at m;show cC (aa (a5 (aa e af) (a _ trivial) s t) af) trivial m
 have Q:=h.fw.min M d o.Nr;have⟨b,D,G⟩:=h.en M (λx g=>d.subset g) ⋯;have:b=b6:=G.mpr o.Nr;subst this;have H:=Af (l:=M);have I:Run (ev Γ (.bi .any [.comp 1 cb .seq [.var 6] [] (.call "_law_enough" [.var 2,.comp 1 cb .seq [.var 7] [.cmp .ne (.var 0) (.var 1)] (.var 0)])])) S (.loc,.bl cb) S:=by
  have g:=bX (cond:=aJ Γ []) (elt:=ev Γ (.call "_law_enough" [.var 2,.comp 1 cb .seq [.var 7] [.cmp .ne (.var 0) (.var 1)] (.var 0)])) (src:=[(k',.lst (M.map .str))]) (st:=S) (a _ trivial) .loc (.inl rfl) U.str (λ_=>.bl cb) .loc (λ_=>cH) M [] (by simp;lia)
   (λy p=>by
    have⟨T,s1,s2,s3⟩:=Fq (Γ:=Γ) (st:=a0 (.loc,.str y)::S) (i:=7) (M:=M) n rfl;have q:=Ab (Γ:=Γ) (st:=a0 (.loc,.str y)::S) (i:=7) (j:=0) (y:=y) (.inl rfl) ⋯ s1 (s2 _ trivial) s3 ⟨.loc,.inl rfl,rfl⟩;have H:(dr M y).length<=M.length:=nC _ _;have⟨b,J,L⟩:=h.en (dr M y) (λx g=>d.subset (iB.mp g).1) ⋯;have:b=cb:=by
     cases b with
     |false=>rfl
     |true=>show absurd (L.mp rfl) (o.min y p p)
    subst this;show⟨aE (aa (ae rfl) (aa q af)) trivial J,aK⟩)
  rw[gc,show(M.map λ_=>U.bl cb)=(M.map λ_=>cb).map U.bl by rw[et];rfl]at g;have m:=Ag (k:=.own) (M.map λ_=>cb);rw[show((M.map λ_=>cb).any id)=cb by rw[į];show List.any_eq_false.mpr λ_ _=>by simp]at m;show cC (aa (a5 (aa e af) (a _ trivial) s g) af) trivial m
 show⟨S,aB (aE (aa (ae rfl) (aa (cC (aa (ae rfl) af) trivial Cq) af)) trivial u (hr:=by rcases n with rfl|rfl<;>rfl)) z (aM (mW (fK (aR e (oh (aa e af) (a _ trivial) (gm ⋯ ⋯)) (a _ trivial) B) (fK (dF (c:=b6) (mf C)) (gX (aR A KZ trivial (oi (ř ⋯))))))) ak (aM (dF (c:=b6) (dE (aa (ae rfl) (aa e af)) (by show a _ trivial) D rfl)) ak (bc (Ii I) cI)))⟩
def xi{rows:List Row}{ns:List Int}(B:Γ "_law_made" [.lst (ns.map .int)]=a0 (.ok (.loc,.tup (rows.map A'))))(C:Γ "_law_few" [.lst (ns.map .int),.tup (rows.map A')]=a0 (.ok (.loc,.tup [.tup (rs.map A'),.lst (Z.map .str)])))
  (h:We Γ rs Z l v) (g:Z.Sublist (ai rs)) (D:Z.length<=5):bT Γ Ah [.lst (ns.map .int)]=a0 (.ok (.loc,.bl b6)):=by
 have hsz:(1000:Nat)<=dV:=by decide
 let o0:Option (Kd×U):=a0 (.any,.lst (ns.map .int));have hl:=h.fw.sub;have Ol:=hl.length_le;have n:=hl.trans g;have G:Z.Nodup:=(cn rs).sublist g;let S:=λo5=>Rw o0 rs Z l v o5 b5;have KZ:∀o5,Run (ev Γ (.bi .len [.var 3])) (S o5) (.loc,.int (l.length:Nat)) (S o5):=λo5=>by
  have:=cC (Γ:=Γ) (st:=S o5) (f:=.len) (es:=[.var 3]) (aa (ae rfl) af) trivial (show JW .len [(.loc,IJ l)]=_ from cE);rw[df]at this;show this
 have Kk:=Af (l:=l);have H:bw .ne (IJ l) (.lst ((aH (ax l)).map U.str))=a0 cb:=by
  rw[vK n];show kK.trans (by simp)
 have I:Run (ev Γ (.bi .all [.comp 1 cb .seq [.var 3] [] (.cmp .isin (.var 0) (.call "_law_words" [.var 2]))])) (S b5) (.loc,.bl b6) (S b5):=by
  have d:=bX (cond:=aJ Γ []) (elt:=ev Γ (.cmp .isin (.var 0) (.call "_law_words" [.var 2]))) (src:=[(.loc,IJ l)]) (st:=S b5) trivial .loc (.inl rfl) U.str (λ_=>.bl b6) .loc (λ_=>cH) l [] (by simp;lia)
   (λy J=>⟨gW (ae rfl) (aE (aa (ae rfl) af) trivial h.wd) trivial (rS.trans (by rw[ś (n.subset J)])),aK⟩)
  rw[gc,show(l.map λ_=>U.bl b6)=(l.map λ_=>b6).map U.bl by rw[et];rfl]at d;have o:=jf (k:=.own) (l.map λ_=>b6);rw[show((l.map λ_=>b6).all id)=b6 by rw[Se];show tA.mpr λ_ _=>rfl]at o;show cC (aa (a5 (rs:=[(.loc,IJ l)]) (aa (ae rfl) af) trivial (by change a0 ((l.map U.str).map λu=>(kE .loc,u))=_;rw[et];rfl) d) af) trivial o
 have⟨b,N,O⟩:=h.en l (λx i=>hl.subset i) ⋯;have:b=b6:=O.mpr h.fw.Nr;subst this;have⟨b,s1,s2⟩:=h.su l (λx i=>hl.subset i) ⋯;have:b=b6:=s2.mpr h.fw.Nr;subst this;have⟨cs,c1,c2,Q⟩:=h.ss;obtain⟨st',T,o5,rfl,_⟩:=bI (rs:=[(.own,.lst (cs.map IJ))]) (t:=cb) (is:=[5]) (body:=execs Γ C6) (λL:List Str=>(Kd.loc,IJ L)) (λ_ q st=>∃o5,st=S o5/\∀L∈q,L∈cs)
  (λ_ _ _ _=>trivial) (λ_ L q st Y=>by
   have⟨o5,e,p⟩:=Y;subst e;have⟨j,d2⟩:=Q L (p L (by simp));have s:Run (ev Γ (.bi .len [.var 5])) (S (a0 (.loc,IJ L))) (.loc,.int (L.length:Nat)) (S (a0 (.loc,IJ L))):=by
    have:=cC (Γ:=Γ) (st:=S (a0 (.loc,IJ L))) (f:=.len) (es:=[.var 5]) (aa (ae rfl) af) trivial (show JW .len [(.loc,IJ L)]=_ from cE);rw[df]at this;show this
   show⟨S (a0 (.loc,IJ L)),S (a0 (.loc,IJ L)),aX,?_,_,rfl,λL' SY=>p L' (by simp[SY])⟩;by_cases IT:L.length<l.length
   .have w:¬Suf rs L:=h.fw.no G j IT;have⟨b,f1,f2⟩:=h.en L j ⋯;have:b=cb:=by
     cases b with
     |false=>rfl
     |true=>show absurd (f2.mp rfl) w
    subst this;have⟨b,g1,g2⟩:=h.su L j ⋯;have:b=cb:=by
     cases b with
     |false=>rfl
     |true=>show absurd (g2.mp rfl) w
    subst this;show aM (l0 (pV (aR s (KZ _) trivial (oi (ś ⋯))) (cu (mW (fK (dE (aa (ae rfl) (aa (ae rfl) af)) trivial f1 rfl) (gX (aR (aE (aa (ae rfl) (aa (ae rfl) af)) trivial g1) aC trivial rfl))))))) ak ak
   .show aM (l0 (tQ (aR s (KZ _) trivial (oi (ř ⋯))))) ak ak) cs [] (S b5) ⟨b5,rfl,λ_ h=>h⟩
 have⟨ua,a1,a2⟩:=h.ap;have⟨z,m⟩:=Cr (o0:=o0) (o5:=o5) h g D;have A:Run (execs Γ (.ite (.not (.call "_law_apart_right" [.var 1,.call "apart" [.var 1],.bi .len [.var 3]])) [.ret (.cst (.bl cb))] []::vL)) (S o5) (.rt .loc (.bl b6)) z:=aM (dF (c:=b6) (dE (aa (ae rfl) (aa (aE (aa (ae rfl) af) trivial a1) (aa (KZ _) af))) trivial a2 rfl)) ak m;have q7:Run (execs Γ (.ite (.cmp .eq (.bi .len [.var 3]) (.cst (.int 0))) [.ite (.cmp .J9 (.var 4) (.cst .Iy)) [.ret (.cst (.bl cb))] []] [.ite (.not (.call "_law_paper_right" [.var 1,.lst [],.bin .sub (.bi .len [.var 3]) (.cst (.int 1)),.var 4])) [.ret (.cst (.bl cb))] []]::.ite (.not (.call "_law_apart_right" [.var 1,.call "apart" [.var 1],.bi .len [.var 3]])) [.ret (.cst (.bl cb))] []::vL)) (S o5) (.rt .loc (.bl b6)) z:=by
  have d:l=[]\/∃x a,l=x::a:=by
   cases l with
   |nil=>show .inl rfl
   |cons x a=>show .inr ⟨x,a,rfl⟩
  rcases d with e|⟨x,a,e⟩
  .have hv:=h.pv e;show dq (aR (KZ _) aC trivial (cJ (by rw[e];rfl))) (aM (aR (x:=(.loc,.Iy)) (ae (by rw[<-hv];rfl)) aC trivial rfl) ak ak) A
  .have hp:=h.pr x a e;show aM (aR (KZ _) aC trivial (cJ (c:=cb) (by rw[e];simp;lia))) (aM (dF (c:=b6) (dE (aa (ae rfl) (aa (bB af trivial aD (mu _)) (aa (b8 (KZ _) aC trivial fj) (aa (ae rfl) af)))) trivial (r:=(.loc,.bl b6)) ?_ rfl)) ak ak) A;rw[show((l.length:Nat):Int) - 1=(a.length:Nat) by rw[e];simp];show hp
 show aF (st0:=[o0,b5,b5,b5,b5,b5,b5]) rfl (.inr rfl) rfl (zy (aE (aa (ay rfl) (aa (aE (aa (ay rfl) af) trivial B) af)) trivial C) (e_ (.inl rfl)) (zy (aE (aa (ae rfl) af) trivial h.fe) (e_ (.inl rfl)) (aM (st1:=S b5) (mW (fK (dF (c:=b6) (zr (ae rfl) rfl)) (gX (aR (ae rfl) (oh (aa (ae rfl) af) trivial (gm ⋯ ⋯)) trivial H)))) ak (aM (dF (c:=b6) (mf I)) ak (aM (mW (fK (dF (c:=b6) (dE (aa (ae rfl) (aa (ae rfl) af)) trivial N rfl)) (gX (aR (aE (aa (ae rfl) (aa (ae rfl) af)) trivial s1) aC trivial rfl)))) ak (bW (aa (aE (aa (ae rfl) af) trivial c1) af) trivial (by change a0 ((cs.map IJ).map λu=>(kE .own,u))=_;rw[et];rfl) rfl T q7))))))
end
end TM
namespace K
open PySem L2 TM
abbrev top(i:Nat):Pc:=PySem.Challenge.pw_primer_k92_whole_fewest.main.body.getD i (.Pass ⟨0,0,0,0⟩)
noncomputable abbrev mD:Fn:=TM.qc
noncomputable abbrev oA:Fn:=TM.E_
noncomputable abbrev dw:Fn:=KL.dw
noncomputable abbrev fg:Fn:=TM.CZ
noncomputable abbrev bu:Fn:=KL.bu
noncomputable abbrev cY:Fn:=KL.cY
noncomputable abbrev bF:Fn:=KL.bF
noncomputable abbrev fE:Fn:=KL.fE
noncomputable abbrev fb:Fn:=KL.fb
noncomputable abbrev jh:Fn:=TM.vv
abbrev Ai:Fn:=⟨"knot",1,4,[.newD 1,.IF cb [2] .seq [.call "not_learnt" [.var 0]] [.putD 1 (.var 2) (.lst [])],.IF cb [3] .seq [.var 0] [.ite (.inD cb (.idx (.var 3) (.cst (.int 0))) 1) [.J' 1 (.idx (.var 3) (.cst (.int 0))) (.idx (.comp 1 cb .seq [.idx (.var 3) (.cst (.int 1))] [.inD cb (.var 0) 2] (.var 0)) (.cst (.int 0)))] []],.KW 1 (.tup [.var 0,.bi .tuple [.var 1]])]⟩
noncomputable abbrev fM:Fn:=TM.G7
noncomputable abbrev oB:Fn:=TM.C0
noncomputable abbrev r_:Fn:=TM.Ad
noncomputable abbrev ji:Fn:=TM.Fb
noncomputable abbrev jj:Fn:=TM.Cj
noncomputable abbrev vM:Fn:=TM.Fe
noncomputable abbrev oC:Fn:=TM.UE
noncomputable abbrev gp:Fn:=TM.UH
noncomputable abbrev vN:Fn:=TM.E9
noncomputable abbrev sd:Fn:=TM.Hb
noncomputable abbrev oD:Fn:=TM.wQ
noncomputable abbrev mE:Fn:=TM.vc
noncomputable abbrev j3:Fn:=TM.pY
abbrev mF:Fn:=⟨"_law_name",2,6,[.set 2 (.cst (.str "abcdefghijklmnopqrstuvwxyz")),.set 3 (.Md .join (.cst (.str "")) [.comp 1 cb .Jl [.bin .add (.cst (.int 1)) (.bin .mod (.idx (.var 0) (.cst (.int 0))) (.cst (.int 8)))] [] (.idx (.var 3) (.bin .mod (.idx (.var 1) (.bin .add (.cst (.int 4)) (.var 0))) (.cst (.int 26))))]),.ite (.cmp .gt (.bi .len [.var 1]) (.cst (.int 0))) [.set 4 (.idx (.Md .split (.idx (.var 1) (.bin .mod (.idx (.var 0) (.cst (.int 1))) (.bi .len [.var 1]))) [.cst (.str "/")]) (.cst (.int 0))),.ite (.cmp .eq (.bin .mod (.idx (.var 0) (.cst (.int 2))) (.cst (.int 4))) (.cst (.int 1))) [.set 3 (.MB (.bin .add (.var 4) (.var 3)) [] [.cst (.int 8)])] [],.ite (.cmp .eq (.bin .mod (.idx (.var 0) (.cst (.int 2))) (.cst (.int 4))) (.cst (.int 2))) [.set 3 (.bin .add (.bin .add (.var 4) (.cst (.str "/"))) (.bi .str [.bin .add (.cst (.int 2)) (.bin .mod (.idx (.var 0) (.cst (.int 3))) (.cst (.int 98)))]))] []] [],.set 5 (.bin .add (.lst [.var 3]) (.comp 1 cb .Jl [.cst (.int 40)] [] (.bin .add (.idx (.var 3) (.bin .KS (.var 0) (.cst (.int 26)))) (.idx (.var 3) (.bin .mod (.var 0) (.cst (.int 26))))))),.ret (.idx (.comp 1 cb .seq [.var 5] [.cmp .Im (.var 0) (.var 2)] (.var 0)) (.cst (.int 0)))]⟩
noncomputable abbrev j4:Fn:=TM.fNames
noncomputable abbrev mG:Fn:=TM.jZ
noncomputable abbrev mH:Fn:=TM.zh
noncomputable abbrev mI:Fn:=TM.zl
noncomputable abbrev jk:Fn:=TM.vI
noncomputable abbrev j5:Fn:=TM.vJ
noncomputable abbrev fh:Fn:=TM.UO
noncomputable abbrev j6:Fn:=TM.Cn
noncomputable abbrev jl:Fn:=TM.Fg
noncomputable abbrev mJ:Fn:=TM.Fi
noncomputable abbrev oE:Fn:=TM.C4
noncomputable abbrev eF:Fn:=TM.V'
noncomputable abbrev gZ:Fn:=TM.Aa
noncomputable abbrev eG:Fn:=TM.Fo
abbrev C7:Fn:=⟨"law",1,7,[.Kl [1,2] (.call "_law_few" [.var 0,.call "_law_made" [.var 0]]),.Kl [3,4] (.call "fewest" [.var 1]),.ite (.or [.not (.LK (.var 3) .list),.cmp .ne (.var 3) (.Lg .sset [.var 3])]) [.ret (.cst (.bl cb))] [],.ite (.not (.bi .all [.comp 1 cb .seq [.var 3] [] (.cmp .isin (.var 0) (.call "_law_words" [.var 2]))])) [.ret (.cst (.bl cb))] [],.ite (.or [.not (.call "_law_enough" [.var 1,.var 3]),.cmp .J9 (.call "suffice" [.var 1,.var 3]) (.cst (.bl b6))]) [.ret (.cst (.bl cb))] [],.IF cb [5] .seq [.call "_law_sets" [.var 2]] [.ite (.and [.cmp .lt (.bi .len [.var 5]) (.bi .len [.var 3]),.or [.call "_law_enough" [.var 1,.var 5],.cmp .J9 (.call "suffice" [.var 1,.var 5]) (.cst (.bl cb))]]) [.ret (.cst (.bl cb))] []],.ite (.cmp .eq (.bi .len [.var 3]) (.cst (.int 0))) [.ite (.cmp .J9 (.var 4) (.cst .Iy)) [.ret (.cst (.bl cb))] []] [.ite (.not (.call "_law_paper_right" [.var 1,.lst [],.bin .sub (.bi .len [.var 3]) (.cst (.int 1)),.var 4])) [.ret (.cst (.bl cb))] []],.ite (.not (.call "_law_apart_right" [.var 1,.call "apart" [.var 1],.bi .len [.var 3]])) [.ret (.cst (.bl cb))] [],.set 6 (.call "spared" [.var 1,.bi .list [.var 2]]),.ite (.or [.cmp .ne (.var 6) (.Lg .sset [.var 6]),.not (.bi .all [.comp 1 cb .seq [.var 6] [] (.cmp .isin (.var 0) (.var 3))]),.cmp .lt (.bi .len [.var 6]) (.bi .len [.var 3])]) [.ret (.cst (.bl cb))] [],.ite (.not (.call "_law_enough" [.var 1,.var 6])) [.ret (.cst (.bl cb))] [],.ret (.not (.bi .any [.comp 1 cb .seq [.var 6] [] (.call "_law_enough" [.var 2,.comp 1 cb .seq [.var 7] [.cmp .ne (.var 0) (.var 1)] (.var 0)])]))]⟩
abbrev prog:List Fn:=[mD,oA,dw,fg,bu,cY,bF,fE,fb,jh,Ai,fM,oB,r_,ji,jj,vM,oC,gp,vN,sd,oD,mE,j3,mF,j4,mG,mH,mI,jk,j5,fh,j6,jl,mJ,oE,eF,gZ,eG,C7]
abbrev ck:Ck:=⟨prog.map (·.name),[("MOST_NOT_LEARNT",(.int 5))]⟩
def makers:zp prog:=⟨rfl,rfl,rfl,rfl,rfl,rfl,rfl⟩
def pure(ns:List Int)(J1:ns.length<=63):Io prog 14 "law" [tJ ns]=a0 (.ok (.loc,.bl b6)):=by
 have y:IK prog "_law_learnt" vI:=rfl;have hc:IK prog "_law_is_core" Aa:=rfl;have Q:IK prog "_law_enough" Fg:=rfl;have Zj:IK prog "_law_sets" Fi:=rfl;have Te:IK prog "_law_apart_right" Fo:=rfl;have T:IK prog "knot" KK.ou:=rfl;have ka:IK prog "knot_among" Fb:=rfl;have kc:IK prog "core_among" Cj:=rfl;have kl:IK prog "lacking" E_:=rfl;have kp:IK prog "apart" Fe:=rfl;have Kp:IK prog "spared" Ad:=rfl;have H:V9 prog:=⟨⟨⟨rfl,rfl,rfl,rfl,rfl,rfl⟩,rfl,rfl,rfl,rfl,rfl⟩,rfl,rfl,rfl,rfl,rfl⟩
 have f:OS prog:=⟨rfl,rfl,rfl,rfl⟩
 have hl:IK prog "law" Ah:=rfl;have⟨names,rows,k1,k2,k3,k4,k5,k6,A,k8⟩:=zm (Γ:=Io prog 12) makers.jC makers.drawnOk makers.namesOk makers.E1 ns;have Lc:Io prog 13 "_law_made" [.lst (ns.map .int)]=a0 (.ok (.loc,.tup (rows.map A'))):=(aq (show IK prog "_law_made" zl from rfl) _).trans k8;have Jr:∀r∈rows,eE names r:=λr hr=>⟨(A r hr).word,(A r hr).once,(A r hr).told,(A r hr).Lj⟩
 have UQ:∀(d:Nat) (ws:List Str) (rs:List Row),Bz ws rs->∃K,Io prog (d+1) "_law_learnt" [.tup (rs.map A')]=a0 (.ok (.own,.lst ((aH K).map .str)))/\jE ws K/\KL.Kn rs K:=λd ws rs B=>Ff y .tup (by have:=B.wl;lia) B.ok;have⟨rs,K,ef,i,I⟩:=Fj (d:=12) (Pg:=prog) (ws:=names) (rs:=rows) (ns:=ns) ⟨makers.jC,makers.drawnOk,λws rs B=>f.QA B 11,UQ 11,λrs L n s=>zV f.g n s⟩ rfl ⋯ ⋯ Jr;have Ks:=i.ks.len;have hw:=i.wl;have Qv:=i.rl;have hz:=i.z;have Y:(ai rs).length<=24:=td (bM λr hr=>(i.ok r hr).ok) i.wl;have⟨u,e,hu⟩:=Hc H 0 i.z ⋯ i.kn ⋯ I;obtain⟨l,v,rfl,C,J,hp⟩:∃l v,u=.tup [IJ l,v]/\Om rs (KK.Iq rs K) l/\(l=[]->v=.Iy)/\∀x j,l=x::j->Nt rs [] j.length v:=by
  cases hu with
  |nil h=>show⟨[],_,rfl,h,λ_=>rfl,λx j e=>by cases e⟩
  |@cons x l v h J=>show⟨x::l,v,rfl,h,(λz=>by cases z),λx' j e=>by cases e;show J⟩
 have Ol:=C.sub.length_le;have ME:∀L:List Str,(∀x∈L,x∈KK.Iq rs K)->JZ rs L:=λL t x o=>(a_.mp (t x o)).1;rw[show Io prog 14 "law" [tJ ns]=_ from aq hl [tJ ns]];show xi Lc ef ⟨e,C,J,f.QA hz 12,λL t hl=>C3 (d:=11) f.g y f.w Q hz ⋯ (ME L t),λL t hl=>Ce H.P 6 hz .lst ⋯ ⋯ (ME L t),?_,λx j e=>?_,?_,?_⟩ r3 I
 .have⟨cs,a,b,c⟩:=zW (Γ:=Io prog 12) (ws:=KK.Iq rs K) I;show⟨cs,(aq Zj _).trans a,b,c⟩
 .subst e;rw[mh]at Ol;have:=Ih f hz i.kn (m:=j.length) (λgv n s=>C.no (KK.fc _ _) n (by rw[mh];lia)) ⋯ ⋯ j.length [] v (10 - j.length) (hp x j rfl) (λx o=>by cases o) (by simp);rw[show 10 - j.length+j.length+3=13 by lia]at this;show this
 .have Zk:∀G:List Str,JZ rs G->G.length<=24->∃R,Io prog 12 "with_pictures" [.tup (rs.map A'),.lst (G.map .str)]=a0 (.ok (.loc,.tup ((wp rs G).map A')))/\Io prog 12 "knot" [.tup ((wp rs G).map A')]=a0 (.ok (.own,Jf rs R))/\LP rs G R:=λG N hl=>by
   have D:=t8 hz N ⋯;have⟨K,hK,MW⟩:=Kn.some D.wl D.ok;have Ks:=MW.len;have hH:=LP.of N hK;have q:=Rt H.P T 5 D D.rl hK ⋯;rw[hH.kn]at q;show⟨_,Qu H.P 9 hz .lst ⋯ N,q,hH⟩
  have Zl:∀p:List Str,p.Sublist (ai rs)->p≠[]->MY rs p->∃k Z,(k=Kd.any\/k=.loc)/\Io prog 12 "core_among" [.tup (rs.map A'),Jf rs p]=a0 (.ok (k,Jf rs Z))/\Core rs Z/\∀x∈Z,x∈p:=λp z1 z2 z3=>by
   have⟨k,Z,a1,a2,a3,a4⟩:=Hh (Γ:=Io prog 11) (λW hW=>Hf H.P T ka 3 hz ⋯ ⋯) Y z1 z2 z3;show⟨k,Z,a1,(aq kc _).trans a2,a3,a4⟩
  have⟨G,Cs,e,n,s⟩:=Hi (Γ:=Io prog 12) (rs:=rs) ⟨Y,He H.P.w kl 10 hz,Zk,Zl⟩;have ZS:=n.len;have⟨b,f1,f2⟩:=C3 (d:=10) f.g y f.w Q hz (L:=G) ⋯ n.kn;rw[f2.mpr s]at f1;show⟨_,(aq kp _).trans e,(aq Te _).trans (Fp hz n s C.Nr (λZ O=>(aq hc _).trans (Fm hz O (Hk f.k hz (f.QA hz 9) O.sub O.sup) (f.QA hz 10) λW=>?_)) f1)⟩;have Zm:∀r∈M0 rs W,eE names r:=λr hr=>by
   rcases ko.mp hr with h|h
   .show i.ok r (hY.mp h).1
   .have⟨x,o,rfl⟩:=gs.mp h;show⟨hz.in (hY.mp o).1,by simp,by simp,by simp⟩
  obtain⟨K',a,_,b⟩:=Ff (d:=10) y (.tup (rs:=M0 rs W)) (ws:=names) ⋯ Zm;show⟨K',a,b⟩
 .show Fs (d:=5) H.P Kp hz ⋯ ⋯ (λx o=>(a_.mp o).1) (Suf.Iq i.kn)
end K
namespace K
open PySem L2 TM PySem.W PyProof.Rows
abbrev m0:ez:=.str "primer.books" 255
abbrev m1:ez:=.str "primer.learning" 290
abbrev m2:ez:=.str "primer.knots" 338
abbrev m3:ez:=.str "primer.pictures" 346
abbrev m4:ez:=.str "primer.fewest" 388
abbrev m5:ez:=.str "law_primer_k92_whole_fewest" 425
abbrev ml:Me:=⟨C7,52,["_law_script","_law_book_here","_law_held","_law_words_here","_law_paper","_law_some","_law_left"],304,303,m5,co "law" 578 297 1 300 301 .none .none (.ref 302) 581 582 181⟩
abbrev ms:List Me:=[⟨mD,6,["book","words","row"],70,69,m0,co "words_of" 257 11 1 64 65 (.ref 66) (.ref 67) (.ref 68) 263 264 181⟩,
 ⟨oA,7,["book"],75,74,m0,co "lacking" 266 17 1 71 72 .none .none (.ref 73) 269 270 181⟩,
 ⟨dw,8,["pairs","found","key","value"],82,81,m0,co "gathered" 272 19 1 76 77 (.ref 78) (.ref 79) (.ref 80) 279 280 181⟩,
 ⟨fg,9,["book","words"],89,88,m0,co "refuse_unknown" 282 26 2 83 84 (.ref 85) (.ref 86) (.ref 87) 287 288 181⟩,
 ⟨bu,11,["book","pairs","place","row"],94,93,m1,co "places_that_tell" 292 30 1 90 91 .none .none (.ref 92) 295 296 181⟩,
 ⟨cY,12,["book","places","known","steps","place","word"],101,100,m1,co "new_steps" 298 35 3 95 96 (.ref 97) (.ref 98) (.ref 99) 307 308 181⟩,
 ⟨bF,13,["book","tellers","missing","known","found","ready","steps","word","place","teller"],106,105,m1,co "steps_in_rounds" 310 42 1 102 103 .none .none (.ref 104) 313 314 181⟩,
 ⟨fE,14,["book","found","steps"],113,112,m1,co "order" 316 60 1 107 108 (.ref 109) (.ref 110) (.ref 111) 322 323 181⟩,
 ⟨fb,15,["book"],118,117,m1,co "learnt" 325 65 1 114 115 .none .none (.ref 116) 328 329 181⟩,
 ⟨jh,16,["book"],125,124,m1,co "not_learnt" 331 67 1 119 120 (.ref 121) (.ref 122) (.ref 123) 335 336 181⟩,
 ⟨Ai,18,["book","blocks","word","row"],130,129,m2,co "knot" 340 70 1 126 127 .none .none (.ref 128) 343 344 181⟩,
 ⟨fM,20,["book","words","pictured","row"],135,134,m3,co "with_pictures" 348 79 2 131 132 .none .none (.ref 133) 351 352 181⟩,
 ⟨oB,21,["book","words"],142,141,m3,co "suffice" 354 86 2 136 137 (.ref 138) (.ref 139) (.ref 140) 359 360 181⟩,
 ⟨r_,22,["book","words","kept","word","fewer"],147,146,m3,co "spared" 362 88 2 143 144 .none .none (.ref 145) 365 366 181⟩,
 ⟨ji,23,["book","words"],154,153,m3,co "knot_among" 368 97 2 148 149 (.ref 150) (.ref 151) (.ref 152) 373 374 181⟩,
 ⟨jj,24,["book","pairs","core","word","blocks","fewer"],159,158,m3,co "core_among" 376 99 2 155 156 .none .none (.ref 157) 379 380 181⟩,
 ⟨vM,25,["book","given","cores","rest","core"],164,163,m3,co "apart" 382 106 1 160 161 .none .none (.ref 162) 385 386 181⟩,
 ⟨oC,28,["words","number","found","place","word","others"],171,170,m4,co "choices" 392 118 2 165 166 (.ref 167) (.ref 168) (.ref 169) 401 402 181⟩,
 ⟨gp,29,["book","words","number","found"],176,175,m4,co "fewest_words" 404 126 2 172 173 .none .none (.ref 174) 407 408 181⟩,
 ⟨vN,30,["book","given","left","pairs"],181,180,m4,co "paper" 410 133 3 177 178 .none .none (.ref 179) 413 414 181⟩,
 ⟨sd,31,["book","words","chosen"],188,187,m4,co "fewest" 416 138 1 182 183 (.ref 184) (.ref 185) (.ref 186) 422 423 181⟩,
 ⟨oD,33,["_law_cell_here","_law_k","_law_by"],195,194,m5,co "_law_mix" 427 147 2 189 190 (.ref 191) (.ref 192) (.ref 193) 433 434 181⟩,
 ⟨mE,34,["_law_script","_law_k","_law_seed"],202,201,m5,co "_law_cell" 436 150 2 196 197 (.ref 198) (.ref 199) (.ref 200) 442 443 181⟩,
 ⟨j3,35,["_law_cell_here","_law_many","_law_found","_law_left","_law_k"],209,208,m5,co "_law_drawn" 445 157 2 203 204 (.ref 205) (.ref 206) (.ref 207) 453 454 181⟩,
 ⟨mF,36,["_law_drawn_here","_law_names_here","_law_letters","_law_name_here","_law_stem","_law_spare"],214,213,m5,co "_law_name" 456 167 2 210 211 .none .none (.ref 212) 459 460 181⟩,
 ⟨j4,37,["_law_script","_law_base","_law_many","_law_names_here","_law_k"],221,220,m5,co "_law_names" 462 178 3 215 216 (.ref 217) (.ref 218) (.ref 219) 470 471 181⟩,
 ⟨mG,38,["_law_drawn_here","_law_names_here","_law_top","_law_told_here","_law_k","_law_one"],228,227,m5,co "_law_told" 473 183 2 222 223 (.ref 224) (.ref 225) (.ref 226) 482 483 181⟩,
 ⟨mH,39,["_law_script","_law_base","_law_names_here","_law_many","_law_rows","_law_met","_law_k","_law_drawn_here","_law_row","_law_key"],235,234,m5,co "_law_book" 485 193 4 229 230 (.ref 231) (.ref 232) (.ref 233) 498 499 181⟩,
 ⟨mI,40,["_law_script","_law_drawn_here","_law_names_here"],242,241,m5,co "_law_made" 501 204 1 236 237 (.ref 238) (.ref 239) (.ref 240) 507 508 181⟩,
 ⟨jk,41,["_law_book_here","_law_known","_law_going","_law_word","_law_told_here"],247,246,m5,co "_law_learnt" 510 208 1 243 244 .none .none (.ref 245) 513 514 181⟩,
 ⟨j5,42,["_law_book_here","_law_words_here","_law_row"],252,251,m5,co "_law_words" 516 218 1 248 249 .none .none (.ref 250) 519 520 181⟩,
 ⟨fh,44,["_law_book_here","_law_pairs","_law_held","_law_words_here","_law_word","_law_blocks","_law_rows","_law_told_here","_law_block"],262,261,m5,co "_law_knot_right" 528 232 2 258 259 .none .none (.ref 260) 531 532 181⟩,
 ⟨j6,45,["_law_book_here","_law_words_here"],267,266,m5,co "_law_given" 534 245 2 263 264 .none .none (.ref 265) 537 538 181⟩,
 ⟨jl,46,["_law_book_here","_law_words_here"],274,273,m5,co "_law_enough" 540 247 2 268 269 (.ref 270) (.ref 271) (.ref 272) 545 546 181⟩,
 ⟨mJ,47,["_law_words_here","_law_found","_law_word"],279,278,m5,co "_law_sets" 548 249 1 275 276 .none .none (.ref 277) 551 552 181⟩,
 ⟨oE,48,["_law_script","_law_book_here","_law_words_here","_law_left","_law_bits","_law_k"],284,283,m5,co "_law_few" 554 254 2 280 281 .none .none (.ref 282) 557 558 181⟩,
 ⟨eF,49,["_law_book_here","_law_given_here","_law_left","_law_paper","_law_word","_law_rest"],289,288,m5,co "_law_paper_right" 560 264 4 285 286 .none .none (.ref 287) 563 564 181⟩,
 ⟨gZ,50,["_law_book_here","_law_pairs","_law_held","_law_word","_law_fewer","_law_rows","_law_others"],294,293,m5,co "_law_is_core" 566 277 2 290 291 .none .none (.ref 292) 569 570 181⟩,
 ⟨eG,51,["_law_book_here","_law_knots","_law_many","_law_words_here","_law_pairs"],299,298,m5,co "_law_apart_right" 572 288 3 295 296 .none .none (.ref 297) 575 576 181⟩,
 ml]
abbrev gg(P:ä):Obj:=⟨.type "dict",b5,.dict #[ge P "__name__" 165 (.str "law_primer_k92_whole_fewest" 425),ge P "__doc__" 166 .none,ge P "__package__" 167 .none,ge P "__loader__" 168 (.builtin "__main__.__loader__#opaque"),ge P "__spec__" 169 .none,ge P "__annotations__" 170 (.ref 6),ge P "__builtins__" 171 (.ref 4),ge P "__file__" 173 (.str "/claim/cut.py" 172),ge P "__cached__" 174 .none,ge P "PrimerError" 206 (.ref 24),ge P "Unknown" 222 (.ref 37),ge P "TooMany" 238 (.ref 49),ge P "Lacking" 254 (.ref 61),ge P "words_of" 265 (.ref 70),ge P "lacking" 271 (.ref 75),ge P "gathered" 281 (.ref 82),ge P "refuse_unknown" 289 (.ref 89),ge P "places_that_tell" 297 (.ref 94),ge P "new_steps" 309 (.ref 101),ge P "steps_in_rounds" 315 (.ref 106),ge P "order" 324 (.ref 113),ge P "learnt" 330 (.ref 118),ge P "not_learnt" 337 (.ref 125),ge P "knot" 345 (.ref 130),ge P "with_pictures" 353 (.ref 135),ge P "suffice" 361 (.ref 142),ge P "spared" 367 (.ref 147),ge P "knot_among" 375 (.ref 154),ge P "core_among" 381 (.ref 159),ge P "apart" 387 (.ref 164),ge P "MOST_NOT_LEARNT" 391 (.int 5 390),ge P "choices" 403 (.ref 171),ge P "fewest_words" 409 (.ref 176),ge P "paper" 415 (.ref 181),ge P "fewest" 424 (.ref 188),ge P "_law_mix" 435 (.ref 195),ge P "_law_cell" 444 (.ref 202),ge P "_law_drawn" 455 (.ref 209),ge P "_law_name" 461 (.ref 214),ge P "_law_names" 472 (.ref 221),ge P "_law_told" 484 (.ref 228),ge P "_law_book" 500 (.ref 235),ge P "_law_made" 509 (.ref 242),ge P "_law_learnt" 515 (.ref 247),ge P "_law_words" 521 (.ref 252),ge P "_law_steps_right" 527 (.ref 257),ge P "_law_knot_right" 533 (.ref 262),ge P "_law_given" 539 (.ref 267),ge P "_law_enough" 547 (.ref 274),ge P "_law_sets" 553 (.ref 279),ge P "_law_few" 559 (.ref 284),ge P "_law_paper_right" 565 (.ref 289),ge P "_law_is_core" 571 (.ref 294),ge P "_law_apart_right" 577 (.ref 299),ge P "law" 583 (.ref 304)] 55,#[]⟩
abbrev vw:HP:=view PySem.Challenge.pw_primer_k92_whole_fewest [6,7,8,9,11,12,13,14,15,16,18,20,21,22,23,24,25,28,29,30,31,33,34,35,36,37,38,39,40,41,42,44,45,46,47,48,49,50,51,52]
abbrev hk:Hook:=kHook (λP=>K3 top (gg P) ms) (adr ms) λP=>u9 top (gg P) ms
abbrev lo:List Str:=["PrimerError","Unknown","TooMany","Lacking","MOST_NOT_LEARNT","_law_steps_right"]
noncomputable abbrev xt(s:gj):Bool:=xlAt vw [] s&&recOk (RowW.records PySem.Challenge.rw_primer_k92_whole_fewest.row.toRowW) s
noncomputable abbrev oe(w:Km):Option gj:=openEnds treeTable PySem.Challenge.rw_primer_k92_whole_fewest.row.prog w 4000
noncomputable abbrev os(s:gj):=openSeen vw lo (importedModules PySem.Challenge.rw_primer_k92_whole_fewest.row.prog.main.body) xt b6 s
def Kx(w:Km):(oe w).map (λs=>(os s).1)=a0 (openGood vw lo).1:=by kernel_rfl
def Lm(w:Km):(oe w).map (λs=>(os s).2)=a0 (openGood vw lo).2:=by kernel_rfl
def KZ(w:Km):(oe w).map hk.obs=a0 (hk.val w):=by kernel_rfl
def hl:LeftO PySem.Challenge.rw_primer_k92_whole_fewest.row.prog vw lo xt hk.obs hk.val 4000:=λw=>by
 have⟨s,e,a⟩:=hZ.mp (Kx w);have b:=Lm w;have c:=KZ w;rw[e]at b c;change(oe w).map _=_;rw[e];show ŝ a0 (Ws (Ws a (sL b)) (sL c))
def hs:PySem.Challenge.rw_primer_k92_whole_fewest.wellSaid=b6:=by kernel_rfl
def ho(P:ä):Np ck top (K3 top (gg P) ms) ms=b6:=by kernel_rfl
end K
open PySem PySem.W PyProof.Rows K
theorem PySem.Challenge.cw_primer_k92_whole_fewest_holds : PySem.Challenge.rw_primer_k92_whole_fewest.Holds := by
 w_on
 refine holds_law hs λz => ?_;refine holds_open hl hk.of hk.keeps (λs e => xl_of s (KR.mp e).1) XL.keeps rfl rfl rfl (λs e => recFacts_of (KR.mp e).2) rfl z (by kernel_rfl) ⟨rfl, rfl, rfl, rfl, rfl, by decide +kernel⟩ ?hw ?a
 (case hw => w_witness2)
 exact TM.walk2 (l := PySem.Challenge.rw_primer_k92_whole_fewest) (Pg := prog) (ck := ck) (dp := 13) (x := "_law_script") (m := ml) rfl rfl ⟨rfl, by decide, by decide, rfl⟩ rfl (by decide +kernel) rfl (Uo.mpr ⟨39, rfl⟩) rfl rfl ho K.pure
