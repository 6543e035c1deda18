import PyProof.Rows.All
import Wide.All
import OpenK.AllK
import Wide.FinOn
import Lean
import PyProof.EqAt
import PyProof.EqKinds
import PyProof.TupleCall
import PyProof.StrLawsChain
import PyProof.StrLawsFirst
import PyProof.Rows.StrNews2
import OpenK.AllK
import PyProof.DictItems
import OpenK.AllK
import PyProof.DictValues
import OpenK.AllK
import PyProof.StationsW
import PyProof.ExcBaseAll.ValueError
import PyProof.RulesAs
import PyProof.NsDelKeeps
import OpenK.AllK
import PyProof.ReprBulk
import PySem.Challenge.RW_primer_k93_whole_shelf
set_option Elab.async false
set_option linter.all false
set_option bootstrap.genMatcherCode false
set_option maxRecDepth 100000
set_option maxHeartbeats 4000000
set_option genInjectivity false
set_option genSizeOf false
set_option autoImplicit true
set_option relaxedAutoImplicit true
open Option renaming some->a5,none->b6,map_eq_some_iff->ez,bind_eq_some_iff->oD,isSome_iff_exists->PD,isNone_iff_eq_none->R6,map_eq_none_iff->SH,map_some->SR,isSome_map->UK,isSome_some->ZC,getD_some->Z2,getD_none->Z3
open Bool renaming true->bD,and_eq_true->b8,false->cb,false_ne_true->mx,not_eq_true'->uk,and_eq_true_iff->IE,eq_iff_iff->Nm,false_eq_true->Oc,or_eq_true->P1,and_false->XX,and_true->YM,eq_false_iff->Í,false_and->î,true_and->û,or_false->ü,not_true->ý,and_self->þ
open PySem renaming wpAny_bind->b7,sizeLine->cL,wpAny_pure->dt,Value->dV,wpAny->g9,Addr->hH,Shared->hW,model->i5,starEach->js,mainGlobals->oT,Expr->pb,wpAny_newObj_type->sx,wpAny_mono->uv,eval->vr,Program->y0,wpAny_Call_Name_kw->DD,backTo->Hf,rawInt->Iv,World->Jn,wpAny_holding->Jq,wpAny_call_entry->JF,wpAny_truthy_bool->JS,keywordEach->JT,wpAny_callSpecial?_slot->Kv,wpAny_setState_of->KX,Heap->K1,bootBuiltins->Ly,holding->L8,cLine->L_,NameKind->Mu,Keyword->MV,Around->MW,Scope->M0,Stmt->NB,scanBound->ND,codeAny_builtin->NF,cellsFrom->NM,wpAny_field->NP,foldedSetIterable->NQ,backToKw->NX,attributeBase->N9,wpAny_setField->Oe,sysModules->OA,wpAny_passesOwn->OZ,compareOp->O9,behindInMarks->O_,swapsWith->PV,call->Qg,binaryOp->Qr,Builtin->QC,wpAny_pyIter_tuple->QF,tupleKind_room_in1->QG,call_meets->QL,assignEach->Q4,wpAny_getItem_str_slice->Ri,wpAny_typeOf->Ry,getItem->Rz,codeAny_mono->RA,wpAny_rule->RU,swapsWithSole->R0,codeAny->R3,sliceBounds->R4,FuncData->R5,wpAny_execs_nil->Sb,pushCells->Sq,typeIs_str->Sv,pyNext->Sy,assign->Sz,SetTable->SD,wpAny_pyIter_list->SY,standAt->S5,setItem->TB,relabel->TR,notedBy->TU,callerA->TV,wpAny_updateSeq->T6,wpAny_loadPart'->T7,post_val_or_str->Ub,letOwnedTupleGo->Ud,wpAny_isTrue_Compare1->Ul,builtinLookup_eq_fast->Ur,isSubtype_type->UT,firstArgMember->UZ,Params->U0,IsPart->U1,tupleKind->Vb,getMethod->Vm,swappedStores->V2,plainId_quiet->V3,wpAny_sequenceKey->Wg,wpAny_pyIter_enum->Wk,valueAt->Wl,setNext->Wy,setField->WC,release->WK,concat_meets->WV,compEnvC->WW,callWith->W7,wpAny_isInstance->XY,wpAny_askSetting->XZ,seqIndex?->X',pyIter->Yn,pickOrder->Yo,noFill_tuple_add->Yp,PassesOwn->Yq,wpAny_of_eq->Yx,subscripted->Yy,typeLookup_type->YN,pushCells_keeps->YP,wpAny_seqItems->Zk,wpAny_runValue->Zl,wpAny_call->Zm,typeOf->Zn,relayAll->Zo,raiseNew->Zp,newFunctionEnv->Zq,atKey->Zr,wpAny_standAt->ZF,wpAny_newList->ZG,wpAny_comprehension_free->ZH,seq_tuple_add->ZI,evalPart_none->ZJ,wpAny_Call_method0_late->ZU,strValues->ZV,seqItems?->ZW,isSubtype->ZX,bindL->ZY,bindC->ZZ,wpAny_Call_method_late->Z5,spliced->Z6,setNextDrawn->Z7,newExc->Z8,collect->Z9,call_meetsIn->Z_,PyData->Á,IsEnum->Â,BindsTo->Å,step->Ù,sizeLine_eq->Ú,seqIndex_of->Û,Operator->Ü,wpAny_setEntries_of->è,wpAny_Tuple_spliced->é,wpAny_load->ï,wpAny_Name->ð,wpAny_List_spliced->ñ,typeLookup->ò,rule->ó,builtinsNs->ô,JoinOk->ö,wpAny_storeSet_of->ÿ,wpAny_pyIter_slot->Ā,wpAny_assign_Name->ā,slot_list_getitem->Ă,newList->ă,fits_of_scanBound->Ą,wpAny_execs_cons->Ď,wpAny_eqBool_str->ď,wpAny_eqBool_int->Đ,wpAny_specialOf->Ĝ,codeAny_of_tree->ĝ,wpAny_Expr_any->Ģ,wpAny_Compare1->ģ,truthy->Ĥ,recursionLimit->ĥ,numbered_texts->Ħ,newTuple->ħ,isSubtype_stop->Ĩ,field->ĩ,entryFor_alias->Ī,entryFor->ī,bindArgs->Ĭ,augStore->ĭ,argsOk->Į,again->į
open Decidable renaming decide->cK
open PySem.Heap renaming get?_push_of_some->c4,get?_push_size->fx,lt_size->i9,get?_update_self->JM,SameBut->KH,size_push->NY,get?_update_ne->Py,get?_update_other->Qx,ExtBut->Zy
open List renaming length_map->df,getElem?_eq_some_iff->d4,getElem?_set_self->d6,mem_cons->gj,size_toArray->hQ,map_cons->il,range->i4,getElem?_set_ne->i7,length_append->j0,mem_append->ke,mem_cons_of_mem->ki,mem_map->kl,map_map->ko,getElem?_map->k9,length_cons->lx,mem_cons_self->mh,replicate->mu,mem_singleton->nc,nil_append->nC,getElem?_append_right->nH,nodup_cons->pa,map_append->pd,getElem?_append_left->ro,lookup_cons->rr,length_take->tj,mem_of_getElem?->tr,nodup_append->tA,all_eq_true->ux,mem_append_right->va,append_nil->ve,length_singleton->w6,mem_range->x4,isEmpty_iff->ya,getElem?_eq_getElem->H4,map_congr_left->Jw,filterMap_cons->JD,getElem?_drop->J3,mem_append_left->J8,filter_cons->Kr,length->KN,getElem?_replicate->LC,mem_filter->LD,take_of_length_le->Mb,getElem_mem->Ms,length_filter_le->MX,getD->Ni,map_nil->Np,lookup->Nr,dropLast_concat->Nt,getElem?_cons_succ->N1,ext_getElem->N5,filter_eq_nil_iff->Ob,find?_cons->Oq,append_assoc->ON,drop_eq_getElem_cons->Px,getElem?_take_of_lt->PH,mem_filterMap->Qf,filter_cons_of_neg->Qh,length_replicate->Ro,dropLast_eq_take->Rr,not_mem_nil->Rv,length_drop->Rw,any_eq_true->Rx,of_mem_zip->RT,mem_map_of_mem->RW,getElem_of_mem->RX,getElem?_range->RZ,pairwise_cons->R_,getD_eq_getElem?_getD->R',filter_append->Sa,reverse_cons->Se,length_range->Sg,length_eq_zero_iff->SN,filter_cons_of_pos->SO,length_nil->Tb,filter_nil->Tc,drop_left'->Td,getElem?_eq_none->Tf,mem_iff_getElem->Tv,map->Tw,getElem?_zipIdx->Tz,length_reverse->Ui,any_cons->Ux,zip_cons_cons->UO,map_dropLast->VE,eraseIdxIfInBounds_toArray->VZ,length_zip->Wd,foldl_cons->We,nodup_nil->XU,length_erase_of_mem->YK,eraseIdx_cons_succ->YY,length_pos_of_mem->Zh,length_eq_one_iff->Zi,drop_of_length_le->Zj,mem_iff_getElem?->Zu,mem_of_mem_take->ZD,mem_erase_of_ne->ZE,flatten_append->ZR,filter_eq_self->ZS,take_sublist->É,flatten_cons->Ê,ext_getElem?->Ë,any_eq_false->Ì,map_fst_zip->Ó,getElem_map->Ô,getElem_inj->Õ,drop_length->Ö,cons_append->Ø,length_set->å,filter_map->æ,drop_zero->í,findIdx?->ú,all_map->č,map_id->ė
open Nat renaming le_refl->hY,ne_of_lt->kj,lt_of_lt_of_le->ku,zero_le->mN,le_trans->B',lt_irrefl->H8,ne_of_gt->Mm,le_of_lt->Ol,le_succ->O',lt_succ_self->Pt,add_sub_cancel_left->Qn,lt_succ_of_lt->Rh,min_eq_left->RV,zero_add->VV,lt_trans->VW,le_of_eq->VY,mod_lt->Yw,log2_lt->ZQ,min_eq_right->ä,le_total->Ė
open PySem.Value renaming ref->my,none->qs,str->J4,type->K2,bool->Nu,isStrOf->Ug,int->Yz,isStrOf_shape->Zw,isInt->ć,float->Ĉ,bytes->ĉ
open PyProof.Rows renaming slot_tuple_getitem->ri,seqObj->J7,callWith_type1->Lw,size_push'->OM,callWith_builtin1->P8,StrsAre->RH,AllBare->S6,envOfC->TY,slicePart_none->U5,entry_tuple_getitem->VP,subscriptTail->V4,listUpdate_at->V7,args_tuple_getitem->V9,Subscript_->Zt,tupleItemsOf_->ZP,IsTup->Z1,subscriptTail_builtinR->Æ,listItems_at->Ç,IntsAre->È,seqEpoch_at->ã,sortedHeap->ù,slot_str_getitem->ĕ,get?_update_seq->Ġ,entry_list_sort->ġ,tail_any->ĳ,sortedHeap_old->Ĵ,slot_list_sort->ĵ,isTrue_and_nil->Ķ,args_list_sort->ķ
open Array renaming length_toList->rl,getElem?_toList->Ie,toList_append->T5,size_append->U_,toList_inj->V1,toList->Y8,append_assoc->ZT,toList_push->Z4,getD->ě
open Sum renaming inr->sL,inl->VF
open PySem.PyData renaming keyHash->td,leavesShort->PF,showable->RJ,depth->SG,bulk->Te,shown_fits_bulk->YF,leavesShortAll->YW,showableAll->Zx,hasDictAll->ZO,depthAll->À,hasDict->Î,bulkAll->Ï
open PySem.Txt renaming partition->ti,split->Ql,join->VG,endswith->đ
open Ne renaming symm->tv
open PySem.Obj renaming mapSeq->vl,data_mapFields->Oi,putSet->Ta,isFreed_of_fields->Tg,cls_mapFields->VI,mapFields->Ċ
open Option.some renaming inj->vu,injEq->Ts
open PySem.Str renaming empty->wh,ofString->Pl,length->S7
open PySem.Builtin.Str renaming occurrences->wk,partsBetween->O2,strKind->Xo
open PySem.Builtin.Tuple renaming tupleExact->z8,tupleItemsOf->Rk
open PySem.Builtin.Slice renaming slicePlaces->IB,sliceApplied->Rn,sliceAdjust->RE,sliceFields->UE,slicePartIndex->ē
open False renaming elim->Lb
open PySem.Heap.SameBut renaming update->Lj,refl->Yr
open PySem.Builtin.SmallTypes renaming nextOf->Lx
open Int renaming toNat_natCast->LJ,eq_ofNat_of_zero_le->SW,toNat_of_nonneg->Uz,emod_lt_of_pos->U6,zero_add->V0,emod_nonneg->Xm,ediv_one->Ě
open PySem.NameKind renaming free->LO,cell->LP
open PySem.Calls renaming callWith_builtin->L0,evalArgs_plain->M9,spliced_cons->Oa,spliced_nil->Qu,Name_function_global->Xb,call_function_entry->Xn
open PySem.Builtin.List renaming listTooLong->MJ,listExtendWith->N',listSameRef->Vt,listLengthHint->ğ
open PySem.SetTable renaming below->NC,grown->RS,sizeAbove->Ze,orStandIn->Zf,layClean->Zs,relaid->ZM,laid->Z'
open PyProof.Rows.F renaming plain_set_update_loop->Oo,entry_set_update_loop->Sr
open PySem.Around renaming under_plainId->OU,under->UI
open Classical renaming byContradiction->OV
open PySem.W renaming kas_sort->O1,kas_ask->ą
open PySem.AutoSeq1 renaming wpAny_loadPart'->Pd,sub_tuple_tuple->Wc,sub_tuple_list->Xc,sub_list_tuple->Xl,sub_list_list->XB,idx_int->ZA
open ForInStep renaming yield->Pf
open LT renaming lt->Rj
open List.cons renaming injEq->Ru
open PySem.Shared renaming TypeIs->Sd
open PySem.SeqAt renaming EqAt->SQ,ne_of_list_tuple->YQ,RcAt->ZN,RcNeAt->õ
open True renaming intro->SX
open PyProof.Rows.LSm renaming kept_iter->Tt,range_any->ê,range_all->ë
open Sum.inr renaming inj->Va
open PySem.Code renaming isFrame->Vn,frames->Zz,quiet_builtin->Z0,isGuard->Č
open PySem.F renaming args_str_split_2->VJ,entry_str_split->V8,slot_str_split->Xa,excBase_ValueError->Ã,args_list_extend_2->Ä,entry_list_extend->Ð,slot_list_extend->Ý,entry_list_pop->ø,slot_list_pop->ċ
open PySem.Heap.IsSliceOf renaming new->V_
open ToString renaming toString->Wf
open PySem.pickOrder renaming go->WL
open PySem.SetTable.below renaming go->W8
open Prod renaming ext->XC,fst->ì
open PyProof.Rows.IsTup renaming new->YI
open PySem.PassesOwn renaming leaving->Zg
open Iff renaming rfl->Zv
open PySem.Walks renaming list->ZK
open PySem.StrLaws renaming strSub_toList->ZL
open PySem.Data renaming cell->Ñ,fields->Ē
open Prod.mk renaming injEq->Ò
open PySem.Builtin.Frozenset renaming updateFrom->Þ,slot0->ß,sizeOf->à,newClass->á,addrOf->â
open LE renaming le->ç
open PySem.W.WShape renaming has->Ć
open PySem.Builtin.Range renaming rangeSize->Ĕ
open List.Pairwise renaming nil->Ę
open LawfulBEq renaming eq_of_beq->ę
open PySem.W.WData renaming int->Ğ
open PySem.W.Looks renaming ld->İ
open PySem.Heap.DictOf renaming new->ı
open PySem.Flow renaming next->Ĳ
abbrev ĸ:=@decide_eq_true_eq
abbrev Ĺ:=@if_pos
abbrev ĺ:=@if_neg
abbrev Ļ:=@decide_eq_false
abbrev ļ:=@decide_eq_true
abbrev Ľ:=@beq_eq_false_iff_ne
abbrev ľ:=@congrArg
abbrev Ŀ:=@of_decide_eq_true
local macro_rules|`(def $a:declId $b* : $t :=$v)=>`(theorem $a:declId $b* : $t :=$v)
local macro_rules|`(abbrev $a:declId $b:optDeclSig $c:declVal)=>`(noncomputable def $a:declId $b:optDeclSig $c:declVal)
local macro_rules|`(tactic|show $t)=>`(tactic|refine $t)
local macro_rules|`(tactic|have⟨$a,*⟩:=$t)=>do let p<-a.getElems.mapM fun x=>`(Lean.Parser.Tactic.rcasesPatLo|$(⟨x⟩):ident);`(tactic|obtain⟨$p,*⟩:=$t)
local macro_rules|`(⋯)=>`(by lia)
namespace K
open PySem PySem.W PyProof.Rows
abbrev vw:y0:=view PySem.Challenge.pw_primer_k93_whole_shelf [11,12,13,14,15,19,20,21,22,24,25,26,27,28,30,31,33000,33001,33002,33003,33004,33005,33006,33007,33008,34,35,36,37,38,39,42,44,45,46,47,48,49,50]
abbrev lo:List Str:=["PrimerError","Unfit","TooMany","NoRow","NoDeed","LETTERS","LONGEST_STEM","FIRST_SENSE","LAST_SENSE","MOST_TOLD","MOST_ROWS","Shelf","_law_book","_law_made","_law_words"]
noncomputable abbrev xt(s:hW):Bool:=xlAt vw [] s&&recOk (RowW.records PySem.Challenge.rw_primer_k93_whole_shelf.row.toRowW) s
noncomputable abbrev oe(w:Jn):Option hW:=openEnds treeTable PySem.Challenge.rw_primer_k93_whole_shelf.row.prog w 4000
noncomputable abbrev os(s:hW):=openSeen vw lo (importedModules PySem.Challenge.rw_primer_k93_whole_shelf.row.prog.main.body) xt bD s
def Lr(w:Jn):(oe w).map (λs=>(os s).1)=a5 (openGood vw lo).1:=by kernel_rfl
def LM(w:Jn):(oe w).map (λs=>(os s).2)=a5 (openGood vw lo).2:=by kernel_rfl
end K
namespace L2
open PySem PySem.Spec PyProof.Rows
@[reducible]def Key:=Sum Int Str
abbrev kg:Key->dV->Bool
 |.inl k,v=>ć k v
 |.inr x,v=>Ug x v
abbrev G0(w:Jn):Key->Int
 |.inl k=>hashInt k
 |.inr x=>hashStr w x
theorem bt:∀{k:Key}{v:dV},kg k v=bD->(∃i t,k=VF i/\v=Yz i t)\/(∃x t,k=sL x/\v=J4 x t)
 |.inl i,v,h=>by
  have⟨t,e⟩:=Value.isInt_shape (k:=i) (v:=v) h;show .inl ⟨i,t,rfl,e⟩
 |.inr x,v,h=>by
  have⟨t,e⟩:=Zw (x:=x) (v:=v) h;show .inr ⟨x,t,rfl,e⟩
def uP(i:Int)(t:Tok):kg (.inl i) (.int i t)=bD:=by simp[kg,ć]
def uQ(x:Str)(t:Tok):kg (.inr x) (.str x t)=bD:=by simp[kg,Ug]
def CJ(a b:Int):cK ((VF a:Key)=VF b)=(a==b):=by
 by_cases e:a=b
 .subst e;simp
 .have h:¬(VF a:Key)=VF b:=λq=>e (Sum.inl.inj q);rw[Ļ h];show(Ľ.mpr e).symm
def CK(a b:Str):cK ((sL a:Key)=sL b)=cK (a=b):=by
 by_cases e:a=b
 .subst e;simp
 .have h:¬(sL a:Key)=sL b:=λq=>e (Va q);rw[Ļ h,Ļ e]
def CL(a:Int)(b:Str):cK ((VF a:Key)=sL b)=cb:=Ļ (λq=>nomatch q)
def CM(a:Str)(b:Int):cK ((sL a:Key)=VF b)=cb:=Ļ (λq=>nomatch q)
abbrev a9(prog:y0)(w:Jn):PySem.KeyKind prog w Key where
 is:=kg
 hash:=G0 w
 inj:=λv a b g f=>by
  rcases bt g with⟨i,t,rfl,rfl⟩|⟨x,t,rfl,rfl⟩
  .rcases bt f with⟨j,u,rfl,e⟩|⟨y,u,rfl,e⟩
   .injection e with c _;rw[c]
   .show nomatch e
  .rcases bt f with⟨j,u,rfl,e⟩|⟨y,u,rfl,e⟩
   .show nomatch e
   .injection e with c _;rw[c]
 byValue:=λk v h=>by
  rcases bt h with⟨i,t,rfl,rfl⟩|⟨x,t,rfl,rfl⟩<;>rfl
 pyHash:=λd h=>by
  rcases bt d with⟨i,t,rfl,rfl⟩|⟨x,t,rfl,rfl⟩
  .show wpAny_pyHash_int h
  .show wpAny_pyHash_str h
 eqBool:=λl d h=>by
  rcases bt l with⟨i,t,rfl,rfl⟩|⟨x,t,rfl,rfl⟩
  .rcases bt d with⟨j,u,rfl,rfl⟩|⟨y,u,rfl,rfl⟩
   .rw[CJ]at h;show Đ h
   .rw[CL]at h;show SeqAt.EqAt.int_str i t y u _ _ _ _ h
  .rcases bt d with⟨j,u,rfl,rfl⟩|⟨y,u,rfl,rfl⟩
   .rw[CM]at h;show SeqAt.EqAt.str_int x t j u _ _ _ _ h
   .rw[CK]at h;show ď h
 «strs»:=λk x t v h=>by
  rcases bt h with⟨i,u,rfl,e⟩|⟨y,u,rfl,e⟩
  .show nomatch e
  .injection e with c _
   subst c;cases v<;>rfl
def pq(prog:y0)(w:Jn)(i:Int)(t:Tok):(a9 prog w).is (.inl i) (.int i t)=bD:=uP i t
def pv(prog:y0)(w:Jn)(x:Str)(t:Tok):(a9 prog w).is (.inr x) (.str x t)=bD:=uQ x t
inductive V where
 |HX|bl (b:Bool)|int (i:Int)|str (x:Str)|OW (b:Array UInt8)|OX (b:UInt64)|ref (a:hH)|ty (n:String)
 deriving DecidableEq
def RelV:V->dV->Prop
 |.HX,u=>u=qs
 |.bl b,u=>u=Nu b
 |.int i,u=>∃t,u=Yz i t
 |.str x,u=>∃t,u=J4 x t
 |.OW b,u=>∃t,u=ĉ b t
 |.OX b,u=>∃t,u=Ĉ b t
 |.ref a,u=>u=my a
 |.ty n,u=>u=K2 n
@[reducible]def Vals:List V->List dV->Prop:=Paired RelV
def Vals.length(r:Vals xs us):xs.length=us.length:=Paired.length r
theorem Vals.get:∀{xs:List V}{us:List dV}{i:Nat}{x:V},Vals xs us->xs[i]?=a5 x->∃u,us[i]?=a5 u/\RelV x u
 |_,_,_,_,.nil,e=>by simp at e
 |_,_,0,_,.cons r _,e=>by simp at e;subst e;show⟨_,rfl,r⟩
 |_,_,i+1,x,.cons _ t,e=>by
  have⟨u,a,b⟩:=Vals.get (i:=i) (x:=x) t (by simpa using e);show⟨u,by simpa using a,b⟩
theorem Vals.set(r:RelV x u):∀{xs:List V}{us:List dV} (i:Nat),Vals xs us->Vals (xs.set i x) (us.set i u)
 |_,_,_,.nil=>.nil
 |_,_,0,.cons _ t=>.cons r t
 |_,_,i+1,.cons q t=>.cons q (Vals.set r i t)
theorem Vals.append:∀{xs ys:List V}{us ws:List dV},Vals xs us->Vals ys ws->Vals (xs++ys) (us++ws)
 |_,_,_,_,.nil,s=>s
 |_,_,_,_,.cons r t,s=>.cons r (Vals.append t s)
theorem Vals.take:∀{xs:List V}{us:List dV} (n:Nat),Vals xs us->Vals (xs.take n) (us.take n)
 |_,_,0,_=>.nil
 |_,_,_+1,.nil=>.nil
 |_,_,n+1,.cons r t=>.cons r (Vals.take n t)
theorem Vals.drop:∀{xs:List V}{us:List dV} (n:Nat),Vals xs us->Vals (xs.drop n) (us.drop n)
 |_,_,0,r=>r
 |_,_,_+1,.nil=>.nil
 |_,_,n+1,.cons _ t=>Vals.drop n t
def fF:Option V->Option dV->Prop
 |some v,a5 u=>RelV v u
 |none,b6=>True
 |_,_=>False
abbrev KV{κ:Type}:List (κ×V)->List (κ×dV)->Prop:=Paired λ(p:κ×V) (q:κ×dV)=>p.1=q.1/\RelV p.2 q.2
abbrev kV:Key->V
 |.inl i=>.int i
 |.inr x=>.str x
inductive HO where
 |lst (xs:List V)
 |tup (xs:List V)
 |dK (kvs:List (Key×V))|dT (kvs:List (List Key×V))
 |set (S:Int->Bool) (n:Nat)
 |ins (C dx:hH) (fs:List (Str×V))
 |own (x:hH)
 |xd (fs:List (Str×V))
 |met (f x:hH)
 |Qv (lo hi:Int)
 |KJ (o:Obj) (u:HO)
 |MS (ps:Array dV)
 |ext (φ:K1->Prop)
@[reducible]def Hp:=hH->Option HO
abbrev upd(H:Hp)(a:hH)(o:HO):Hp:=λb=>if b=a then a5 o else H b
def aq:upd H a o a=a5 o:=by unfold upd;rw[Ĺ rfl]
def ak(h:b≠a):upd H a o b=H b:=by unfold upd;rw[ĺ h]
def E7{H:Hp}(h:H a=a5 o)(h':H b=a5 u)(d:o≠u):a≠b:=by
 intro e;subst e;rw[h]at h';show d (vu h')
def bF{H:Hp}(h:H a=a5 o)(h':H b=b6):a≠b:=by
 intro e;subst e;rw[h]at h';cases h'
section
variable(P:y0)(w:Jn)
def bH(H:Hp)(h:K1)(a:hH):HO->Prop
 |.lst xs=>xs.length<=cL/\∃(c:List dV) (n:Nat),Vals xs c/\h.get? a=a5 {cls:=.type "list",data:=.seq c.toArray n}
 |.tup xs=>xs.length<=cL/\∃c:List dV,Vals xs c/\Z1 h a c.toArray
 |.dK kvs=>kvs.length<=cL/\(a==OA)=cb/\∃vs,KV kvs vs/\h.DictOf (a9 P w) a vs
 |.dT kvs=>kvs.length<=cL/\(a==OA)=cb/\∃xs:List (List Key×hH×dV),
   Paired (λ(p:List Key×V) (q:List Key×hH×dV)=>p.1=q.1/\H q.2.1=a5 (.tup (p.1.map kV))/\RelV p.2 q.2.2) kvs xs /\
   ∃o es ep,h.get? a=a5 o/\o.ExactDict/\o.data=.dict es ep/\es.toList=xs.map (entryOfKey (Vb (a9 P w)))/\(xs.map (·.1)).Nodup
 |.set S n=>h.SetOf (intKind P w) a S n
 |.ins C e d=>H e=a5 (.own a)/\d.length<=1000/\e≠a/\h.get? a=a5 (PySem.W.instObj C e) /\
   ∃b,h.Ns1 e b/\(∀f,fF (d.lookup f) (b f))/\PySem.Within b (d.map (·.1))
 |.own _=>∃o,h.get? a=a5 o
 |.xd d=>∃b,h.Ns1 a b/\∀f,fF (d.lookup f) (b f)
 |.Qv lo hi=>∃t u v,h.get? a=a5 {cls:=.type "range",data:=.fields #[.int lo t,.int hi u,.int 1 v]}
 |.KJ o u=>h.get? a=a5 o/\bH H h a u
 |.MS ps=>h.get? a=a5 {cls:=.none,data:=.fields ps}
 |.met f x=>h.get? a=a5 (PySem.W.methodObj (.ref f) (.ref x))
 |.ext φ=>φ h/\(∃o,h.get? a=a5 o)/\∀g i:K1,φ g->(∀o,g.get? a=a5 o->i.get? a=a5 o)->φ i
abbrev Jf(H:Hp)(h:K1):Prop:=∀a o,H a=a5 o->bH P w H h a o
end
section
def bH.lt(x:bH P w H h a o):a<h.objs.size:=by
 cases o with
 |lst xs=>obtain⟨_,_,_,_,e⟩:=x;show i9 e
 |tup xs=>obtain⟨_,_,_,p⟩:=x;show p.lt
 |set S n=>obtain⟨o,_,_,_,e,_⟩:=x;show i9 e
 |ins C c b=>obtain⟨_,_,_,e,_⟩:=x;show i9 e
 |own y=>obtain⟨_,e⟩:=x;show i9 e
 |xd b=>obtain⟨_,⟨_,_,_,e,_⟩,_⟩:=x;show i9 e
 |Qv lo hi=>obtain⟨_,_,_,e⟩:=x;show i9 e
 |KJ d u=>obtain⟨e,_⟩:=x;show i9 e
 |MS ps=>show i9 (show h.get? a=a5 _ from x)
 |met f y=>show i9 (show h.get? a=a5 _ from x)
 |ext φ=>obtain⟨_,⟨_,e⟩,_⟩:=x;show i9 e
 |_=>obtain⟨_,_,_,_,o,_,_,e,_⟩:=x;show i9 e
theorem Paired.CN:∀{c:List α}{d:List β},Paired F c d->(∀a b,F a b->G a b)->Paired G c d
 |_,_,.nil,_=>.nil
 |_,_,.cons r t,f=>.cons (f _ _ r) (Paired.CN t f)
def bH.kh(x:bH P w H h a o)(k:∀b u,(b=a\/H b=a5 (.own a))->h.get? b=a5 u->h'.get? b=a5 u)
  (ho:∀b,H b=a5 (.own a)->H' b=a5 (.own a)) (m:∀b xs,H b=a5 (.tup xs)->H' b=a5 (.tup xs)):bH P w H' h' a o:=by
 induction o with
 |lst xs=>have⟨z,i,n,r,e⟩:=x;show⟨z,i,n,r,k _ _ (.inl rfl) e⟩
 |tup xs=>have⟨z,i,r,g,e,c⟩:=x;show⟨z,i,r,g,k _ _ (.inl rfl) e,c⟩
 |dK kvs=>have⟨z,y,vs,r,g,es,ep,e,c⟩:=x;show⟨z,y,vs,r,g,es,ep,k _ _ (.inl rfl) e,c⟩
 |dT kvs =>
  have⟨z,y,xs,r,g,es,ep,e,c⟩:=x;show⟨z,y,xs,Paired.CN r λp q z=>⟨z.1,m _ _ z.2.1,z.2.2⟩,g,es,ep,k _ _ (.inl rfl) e,c⟩
 |set S n=>have⟨g,es,ep,t,e,c⟩:=x;show⟨g,es,ep,t,k _ _ (.inl rfl) e,c⟩
 |ins C D s =>
  obtain⟨d,z,A,e,j,⟨l,es,ep,e2,c⟩,r⟩:=x;show⟨ho _ d,z,A,k _ _ (.inl rfl) e,j,⟨l,es,ep,k _ _ (.inr d) e2,c⟩,r⟩
 |own y=>have⟨g,e⟩:=x;show⟨g,k _ _ (.inl rfl) e⟩
 |xd s=>obtain⟨j,⟨l,es,ep,e,c⟩,r⟩:=x;show⟨j,⟨l,es,ep,k _ _ (.inl rfl) e,c⟩,r⟩
 |Qv lo hi=>have⟨t,u,v,e⟩:=x;show⟨t,u,v,k _ _ (.inl rfl) e⟩
 |KJ g u B=>have⟨e,q⟩:=x;show⟨k _ _ (.inl rfl) e,B q⟩
 |MS ps =>
  have e:h.get? a=a5 {cls:=.none,data:=.fields ps}:=x;change h'.get? a=a5 {cls:=.none,data:=.fields ps};show k a _ (.inl rfl) e
 |met f y =>
  have e:h.get? a=a5 (PySem.W.methodObj (.ref f) (.ref y)):=x;change h'.get? a=a5 (PySem.W.methodObj (.ref f) (.ref y));show k a _ (.inl rfl) e
 |ext φ=>obtain⟨p,⟨o,e⟩,st⟩:=x;show⟨st _ _ p λo q=>k _ _ (.inl rfl) q,⟨o,k _ _ (.inl rfl) e⟩,st⟩
def Jf.lt(x:Jf P w H h)(e:H a=a5 o):a<h.objs.size:=(x a o e).lt
def Jf.fresh(x:Jf P w H h)(e:h.objs.size<=a):H a=b6:=by
 cases q:H a with
 |none=>rfl
 |some u=>show absurd (ku (x.lt q) e) (H8 _)
def Jf.kept(x:Jf P w H h)(k:∀b u,h.get? b=a5 u->h'.get? b=a5 u):Jf P w H h':=λa o e =>
 (x a o e).kh (λb u _ q=>k b u q) (λ_ q=>q) λ_ _ q=>q
def Jf.laid(x:Jf P w H h)(k:∀b u,h.get? b=a5 u->h'.get? b=a5 u)(g:h.objs.size<=a)(new:bH P w (upd H a o) h' a o):Jf P w (upd H a o) h':=λb u e=>by
 have d:=x.fresh g;by_cases f:b=a
 .subst f;rw[aq]at e;cases e;show new
 .rw[ak f]at e;show(x b u e).kh (λc v _ q=>k c v q) (λc q=>by rw[ak (bF q d)];show q) λc xs q=>by rw[ak (bF q d)];show q
end
abbrev Rd(H:Hp)(a:hH)(u:HO):Prop:=H a=a5 u\/∃o,H a=a5 (.KJ o u)
def Rd.ok(r:Rd H a u)(x:Jf P w H h):bH P w H h a u:=by
 rcases r with r|⟨o,r⟩
 .show x a u r
 .obtain⟨_,q⟩:=x a _ r;show q
def OY:Option HO->Prop
 |some (.lst _)=>True
 |some (.dK _)=>True
 |some (.dT _)=>True
 |some (.set _ _)=>True
 |some (.ins _ _ _)=>True
 |some (.ext _)=>True
 |_=>False
section
def Jf.write(l:Jf P w H h)(a:OY (H x))(g:e=x\/H e=a5 (.own x))(k:∀b u,b≠e->h.get? b=a5 u->h'.get? b=a5 u)(m:∃u,h'.get? e=a5 u)
  (new:bH P w (upd H x o') h' x o'):Jf P w (upd H x o') h':=λb u q=>by
 have i:∀c y,H c=a5 (.own y)->c≠x:=λc y r z=>by subst z;rw[r]at a;show a
 have n:∀c xs,H c=a5 (.tup xs)->c≠x:=λc xs r z=>by subst z;rw[r]at a;show a
 by_cases d:b=x
 .subst d;rw[aq]at q;cases q;show new
 .rw[ak d]at q;by_cases f:b=e
  .have j:H b=a5 (.own x):=by
    rcases g with z|z
    .show absurd (f.trans z) d
    .rw[f];show z
   rw[q]at j;cases j;have⟨v,o⟩:=m;show⟨v,by rw[f];show o⟩
  .show(l b u q).kh (λc v hc r=>k c v ?_ r) (λc r=>by rw[ak (i c b r)];show r) λc xs r=>by rw[ak (n c xs r)];show r
   rcases hc with rfl|hc
   .show f
   .rintro rfl;rcases g with z|z
    .show i c b hc z
    .rw[hc]at z;cases z;show d rfl
end
structure Un(fs ex:List hH)(H H':Hp)(h h':K1):Prop where
 keep:∀b o,h.get? b=a5 o->H b=b6->b∉fs->b∉ex->h'.get? b=a5 o
 slot:∀b o,h.get? b=a5 o->H b=b6->b∈fs->b∉ex->∃sl,h'.get? b=a5 {o with slots:=sl}
 free:∀b o,h.get? b=a5 o->H b=b6->b∉ex->H' b=b6
 there:∀b o,h.get? b=a5 o->b∉ex->∃o',h'.get? b=a5 o'
 gN:∀b xs,H b=a5 (.tup xs)->H' b=a5 (.tup xs)
 Jl:∀b o u,H b=a5 (.KJ o u)->H' b=a5 (.KJ o u)
 Jt:∀b ps,H b=a5 (.MS ps)->∃more,H' b=a5 (.MS (ps++more))
section
def Un.any(u:Un e ex H i h f)(q:h.get? b=a5 a)(n:H b=b6)(c:b∉ex):∃g,f.get? b=a5 {a with slots:=g}:=by
 by_cases d:b∈e
 .show u.slot b a q n d c
 .show⟨a.slots,u.keep b a q n d c⟩
def Un.kept(k:∀b u,h.get? b=a5 u->h'.get? b=a5 u):Un c ex H H h h' :=
 ⟨λb a q _ _ _=>k b a q,λb a q _ _ _=>⟨a.slots,k b a q⟩,λ_ _ _ n _=>n,λb a q _=>⟨a,k b a q⟩,λ_ _ q=>q,λ_ _ _ q=>q,λ_ ps q=>⟨#[],by rw[q];simp⟩⟩
def Un.refl:Un a ex H H h h:=Un.kept λ_ _ q=>q
def Un.laid(k:∀b u,h.get? b=a5 u->h'.get? b=a5 u)(d:h.objs.size<=a)(c:H a=b6):Un e ex H (upd H a o) h h' where
 keep:=λb u q _ _ _=>k b u q
 slot:=λb u q _ _ _=>⟨u.slots,k b u q⟩
 free:=λb u q n _=>by rw[ak (kj (ku (i9 q) d))];show n
 there:=λb u q _=>⟨u,k b u q⟩
 gN:=λb xs q=>by rw[ak (bF q c)];show q
 Jl:=λb u xs q=>by rw[ak (bF q c)];show q
 Jt:=λb ps q=>⟨#[],by rw[ak (bF q c),q];simp⟩
def Un.write(a:OY (H x))(i:e=x\/H e=a5 (.own x))(k:∀b u,b≠e->h.get? b=a5 u->h'.get? b=a5 u)(j:∃u,h'.get? e=a5 u):Un l ex H (upd H x o) h h':=by
 have d:∀b,H b=b6->b≠x:=λb n z=>by subst z;rw[n]at a;show a
 have f:∀b,H b=b6->b≠e:=λb n z=>by
  subst z;rcases i with r|r
  .show d b n r
  .rw[n]at r;cases r
 have c:∀b u,H b=a5 u->¬OY (a5 u)->b≠x:=λb u q nm z=>by subst z;rw[q]at a;show nm a
 show⟨λb u q n _ _=>k b u (f b n) q,λb u q n _ _=>⟨u.slots,k b u (f b n) q⟩,λb u q n _=>by rw[ak (d b n)];show n,λb u q _=>?_,
  λb xs q=>by rw[ak (c b _ q λz=>z)];show q,λb u xs q=>by rw[ak (c b _ q λz=>z)];show q,λb ps q=>⟨#[],by rw[ak (c b _ q λz=>z),q];simp⟩⟩
 by_cases g:b=e
 .subst g;show j
 .show⟨u,k b u g q⟩
end
abbrev Qw(h:K1)(H:Hp):List hH:=(i4 h.objs.size).filter λa=>(H a).isSome
abbrev nB(h:K1)(H:Hp):K1:=PySem.W.hideAll h (Qw h H)
def uR(h:K1)(H:Hp):(nB h H).objs.size=h.objs.size:=PySem.W.hideAll_size _ _
def wm(e:h.get? b=a5 o)(n:H b=b6):(nB h H).get? b=a5 o :=
 PySem.W.hideAll_get _ e λa=>by
  have q:(H b).isSome=bD:=(LD.mp a).2;rw[n]at q;simp at q
def zP(e:(nB h H).get? b=a5 o):h.get? b=a5 o/\H b=b6:=by
 have a:h.get? b=a5 o:=PySem.W.of_hideAll (Qw h H) e;show⟨a,?_⟩;cases q:H b with
 |none=>rfl
 |some x =>
  have c:b∈Qw h H:=LD.mpr ⟨x4.mpr (i9 a),by simp[q]⟩;have z:(nB h H).get? b=b6:=PySem.W.hideAll_none (Qw h H) c;rw[z]at e;cases e
structure Mod(K:PySem.W.Frag)(mg:Str->Option dV)(base:K1):Prop where
 MT:K.In base
 glob:base.Ns oT mg
 blt:∃mb,base.Ns ô mb/\∀x:Str,x≠"__name__"->mb x=Ly x
 nolimit:base.NoLimit
structure Cx where
 prog:y0
 w:Jn
 K:PySem.W.Frag
 mg:Str->Option dV
 base:K1
 A:MW
 N:List Str
 s₀:hW
 H₀:Hp
 env:Env
 outer:List Env
 stack:List Env
 ex:List hH
 fn:Str->Bool
 calm:Bool
 pn:List (hH×Obj)
 xe:dV->hW->Prop
abbrev IH(l:List Env):List hH:=l.filterMap (·.frame)
noncomputable abbrev Cx.fs(X:Cx):List hH:=IH X.outer
abbrev Jg(a:M0)(x:Str):Prop:=a.names.lookup x=a5 .local\/a.names.lookup x=a5 .cell\/a.names.lookup x=a5 .free
abbrev Loc(a:M0)(x:Str):Prop:=a.names.lookup x=a5 .local\/a.names.lookup x=a5 .cell
abbrev Look(env:Env)(h:K1)(m:Str->Option dV)(x:Str)(u:dV):Prop :=
 (env.kindOf x=a5 .local/\m x=a5 u)\/((env.kindOf x=a5 .cell\/env.kindOf x=a5 .free)/\∃c,env.cells.lookup x=a5 c/\h.IsCell c (a5 u))
structure Cx.Ok(X:Cx):Prop where
 mod:Mod X.K X.mg X.base
 kind:X.env.scope.kind=.function
 glob:X.env.globals=oT
 blt:X.env.builtins=ô
 above:X.s₀.heap.objs.size<=X.env.locals
 inj:∀x y c,X.env.cells.lookup x=a5 c->X.env.cells.lookup y=a5 c->x=y
 has:∀x,(X.env.kindOf x=a5 .cell\/X.env.kindOf x=a5 .free)->∃c,X.env.cells.lookup x=a5 c
 Oj:∀x c,X.fn x=bD->X.env.cells.lookup x=a5 c->X.s₀.heap.objs.size<=c
 hd:X.calm=bD->X.A.handled=b6
 frames:X.A.frames=a5 X.stack
 O0:X.stack=X.outer\/(X.stack=X.env::X.outer/\X.env.frame=a5 X.env.locals)
 Rm:∀b∈X.ex,b≠X.env.locals/\∀x c,X.env.cells.lookup x=a5 c->c≠b
 bs:∀b o,X.base.get? b=a5 o->X.s₀.heap.get? b=a5 o/\X.H₀ b=b6
 L9:X.base.objs.size<=X.s₀.heap.objs.size
 KZ:∀b o,X.base.get? b=a5 o->b∉X.ex
 Lz:∀b∈X.ex,b∉X.fs
 jg:X.s₀.heap.FunFrames X.base X.outer
 MU:∀b∈X.fs,X.H₀ b=b6
structure Inv(X:Cx)(pins:List (hH×Obj))(σ:List (Option V))(H:Hp)(s:hW):Prop where
 ok:X.Ok
 os:s.os=X.s₀.os
 bare:S6 s.gens
 base:Un X.fs X.ex X.H₀ H X.s₀.heap s.heap
 loc:∃m,s.heap.Ns X.env.locals m/\∀(i:Nat) (x:Str) (v:V),X.N[i]?=a5 x->σ[i]?=a5 (a5 v)->Jg X.env.scope x->∃u,RelV v u/\Look X.env s.heap m x u
 cell:∀x c,X.env.cells.lookup x=a5 c->∃v,s.heap.IsCell c v
 free:H X.env.locals=b6
 Iz:∀x c,X.env.cells.lookup x=a5 c->H c=b6
 pin:∀p∈X.pn++pins,s.heap.get? p.1=a5 p.2/\H p.1=b6/\p.1≠X.env.locals/\p.1∉X.fs/\∀v,p.2.data≠.cell v
 HR:Jf X.prog X.w H s.heap
 len:σ.length=X.N.length
section
variable{X:Cx}{pins:List (hH×Obj)}{σ:List (Option V)}{H H':Hp}{s:hW}{h':K1}
def Cx.Ok.G1(a:X.Ok)(e:X.base.get? b=a5 o):b∉X.fs:=λc=>by
 have:=(a.jg.mem c).1;rw[e]at this;cases this
def Inv.bs(I:Inv X pins σ H s):∀b o,X.base.get? b=a5 o->s.heap.get? b=a5 o/\H b=b6:=λb o e =>
 ⟨I.base.keep b o (I.ok.bs b o e).1 (I.ok.bs b o e).2 (I.ok.G1 e) (I.ok.KZ b o e),I.base.free b o (I.ok.bs b o e).1 (I.ok.bs b o e).2 (I.ok.KZ b o e)⟩
def Inv.bk(I:Inv X pins σ H s):∀b o,X.base.get? b=a5 o->s.heap.get? b=a5 o:=λb o e=>(I.bs b o e).1
def Inv.mod(I:Inv X pins σ H s):Mod X.K X.mg X.base:=I.ok.mod
def Inv.JU(I:Inv X pins σ H s):X.K.In s.heap:=I.ok.mod.MT.keeps I.bk
def Inv.lt(I:Inv X pins σ H s):X.env.locals<s.heap.objs.size:=let ⟨_,a,_⟩:=I.loc;a.lt
def Inv.sz(I:Inv X pins σ H s):X.s₀.heap.objs.size<=s.heap.objs.size:=B' I.ok.above (Ol I.lt)
def Inv.E8(I:Inv X pins σ H s)(h:s.heap.objs.size<=a):a∉X.fs:=λb=>by
 obtain⟨_,o,ho,_⟩:=I.ok.jg.mem b;show absurd (ku (i9 ho) (B' I.sz h)) (H8 _)
def Inv.LA(I:Inv X pins σ H s):∀x c,X.env.cells.lookup x=a5 c->c≠X.env.locals:=λx c e z=>by
 have⟨v,o,ho,a⟩:=I.cell x c e;obtain⟨m,⟨o',es,ep,b,d,_⟩,_⟩:=I.loc;rw[z,b]at ho;cases ho;rw[d]at a;cases a
def Inv.jg(I:Inv X pins σ H s):s.heap.FunFrames X.base X.outer:=by
 have all:∀(l:List Env),(∀b∈IH l,b∈X.fs)->X.s₀.heap.FunFrames X.base l->s.heap.FunFrames X.base l:=by
  intro l;induction l with
  |nil=>intro _ _;trivial
  |cons env r f =>
   intro hs hl;obtain⟨hk,⟨L,o,a,g,ho,h⟩,i⟩:=hl;have c:L∈X.fs:=hs L (by unfold IH;rw[JD,a];show mh);have⟨j,e⟩:=I.base.slot L o ho (I.ok.MU L c) c λz=>I.ok.Lz L z c;show⟨hk,⟨L,_,a,g,e,h⟩,f (λb d=>hs b (by unfold IH;rw[JD,a];show ki _ d)) i⟩
 show all X.outer (λ_ d=>d) I.ok.jg
def Inv.stack(I:Inv X pins σ H s):s.heap.FunFrames X.base X.stack:=by
 rcases I.ok.O0 with e|⟨e,a⟩
 .rw[e];show I.jg
 .rw[e];obtain⟨m,b,_⟩:=I.loc;show .cons (by rw[I.ok.kind];decide) a b ?_ I.jg;show Heap.get?_none_of_le (B' I.ok.L9 I.ok.above)
def Inv.km(I:Inv X pins σ H s):∀b∈IH X.stack,b∈X.env.locals::X.fs:=λb a=>by
 rcases I.ok.O0 with e|⟨e,c⟩
 .rw[e]at a;show ki _ a
 .rw[e]at a;unfold IH at a;rw[JD,c]at a;show a
def Inv.iu(I:Inv X pins σ H s):∀b∈IH X.stack,H b=b6:=λb hb=>by
 rcases gj.mp (I.km b hb) with e|hb
 .rw[e];show I.free
 .obtain⟨_,o,ho,_⟩:=I.ok.jg.mem hb;show I.base.free b o ho (I.ok.MU b hb) λz=>I.ok.Lz b z hb
def Inv.step{ch:List hH}(I:Inv X pins σ H s)
  (j:∀b∈ch,(b∈X.ex\/X.s₀.heap.objs.size<=b)/\b≠X.env.locals/\(∀x c,X.env.cells.lookup x=a5 c->c≠b)/\∀p∈X.pn++pins,p.1≠b)
  (keep:∀b o,b≠X.env.locals->b∉X.fs->b∉ch->s.heap.get? b=a5 o->H b=b6->h'.get? b=a5 o)
  (slot:∀b o,b≠X.env.locals->b∈X.fs->b∉ch->s.heap.get? b=a5 o->H b=b6->∃B,h'.get? b=a5 {o with slots:=B}) (free:∀b o,b∉ch->s.heap.get? b=a5 o->H b=b6->H' b=b6)
  (there:∀b o,b∉ch->s.heap.get? b=a5 o->∃o',h'.get? b=a5 o')
  (gN:∀b xs,H b=a5 (.tup xs)->H' b=a5 (.tup xs)) (Jl:∀b o u,H b=a5 (.KJ o u)->H' b=a5 (.KJ o u)) (Jt:∀b ps,H b=a5 (.MS ps)->∃t,H' b=a5 (.MS (ps++t)))
  (ns:∀m,s.heap.Ns X.env.locals m->h'.Ns X.env.locals m) (N:Jf X.prog X.w H' h') (O:S6 g') :
  Inv X pins σ H' {s with heap:=h',gens:=g',drawn:=d',toks:=t' }:=by
 have D:∀b o,X.s₀.heap.get? b=a5 o->b≠X.env.locals:=λb o e=>kj (ku (i9 e) I.ok.above);have A:∀b o,X.s₀.heap.get? b=a5 o->b∉X.ex->b∉ch:=λb o e a h=>by
  rcases(j b h).1 with z|z
  .show a z
  .show absurd (ku (i9 e) z) (H8 _)
 have f:∀x c,X.env.cells.lookup x=a5 c->∀v,s.heap.IsCell c v->h'.IsCell c v:=λx c e v Q=>by
  have⟨o,ho,C⟩:=Q;have y:c∉ch:=λz=>(j c z).2.2.1 x c e rfl;by_cases G:c∈X.fs
  .have⟨B,q⟩:=slot c o (I.LA x c e) G y ho (I.Iz x c e);show⟨_,q,C⟩
  .show⟨o,keep c o (I.LA x c e) G y ho (I.Iz x c e),C⟩
 show⟨I.ok,I.os,O,⟨λb o e n h a=>?_,λb o e n h a=>?_,λb o e n a=>?_,λb o e a=>?_,λb xs e=>gN b xs (I.base.gN b xs e),λb o xs e=>Jl b o xs (I.base.Jl b o xs e),λb ps e=>?_⟩,?_,λx c e=>?_,?_,λx c e=>?_,λp J=>?_,N,I.len⟩
 .show keep b o (D b o e) h (A b o e a) (I.base.keep b o e n h a) (I.base.free b o e n a)
 .have⟨B,g⟩:=I.base.slot b o e n h a;have⟨T,e2⟩:=slot b _ (D b o e) h (A b o e a) g (I.base.free b o e n a);show⟨T,e2⟩
 .have⟨o',g⟩:=I.base.there b o e a;show free b o' (A b o e a) g (I.base.free b o e n a)
 .have⟨o',g⟩:=I.base.there b o e a;show there b o' (A b o e a) g
 .have⟨m1,g⟩:=I.base.Jt b ps e;have⟨m2,e2⟩:=Jt b _ g;show⟨m1++m2,by rw[e2,ZT]⟩
 .have⟨m,Y,hl⟩:=I.loc;show⟨m,ns m Y,λi x v g e2 e3=>?_⟩;have⟨u,r,l⟩:=hl i x v g e2 e3;show⟨u,r,?_⟩;rcases l with l|⟨k,c,e,z⟩
  .show .inl l
  .show .inr ⟨k,c,e,f x c e _ z⟩
 .have⟨v,z⟩:=I.cell x c e;show⟨v,f x c e v z⟩
 .obtain⟨m,⟨o,_,_,ho,_⟩,_⟩:=I.loc;show free _ o (λz=>(j _ z).2.1 rfl) ho I.free
 .have⟨v,o,ho,C⟩:=I.cell x c e;show free c o (λz=>(j c z).2.2.1 x c e rfl) ho (I.Iz x c e)
 .have⟨e,n,L,nf,d⟩:=I.pin p J;have y:p.1∉ch:=λz=>(j p.1 z).2.2.2 p J rfl;show⟨keep p.1 p.2 L nf y e n,free p.1 p.2 y e n,L,nf,d⟩
def Inv.un(I:Inv X pins σ H s)(u:Un X.fs [] H H' s.heap h')(d:Jf X.prog X.w H' h'):Inv X pins σ H' {s with heap:=h',toks:=t' }:=by
 obtain⟨m,⟨o,es,ep,ho,r⟩,_⟩:=id I.loc;have⟨k,f⟩:=u.any ho I.free (by simp);show I.step (g':=s.gens) (d':=s.drawn) (ch:=[]) (λ_ z=>nomatch z) (λb o _ a _ e n=>u.keep b o e n a (by simp)) (λb o _ a _ e n=>u.slot b o e n a (by simp)) (λb o _ e n=>u.free b o e n (by simp)) (λb o _ e=>u.there b o e (by simp)) u.gN u.Jl u.Jt (λl g=>by
  have⟨o',h,i,c,j⟩:=g;rw[ho]at c;cases c;show⟨_,h,i,f,j⟩) d I.bare
def Inv.call(I:Inv X pins σ H s)(u:Un (IH X.stack) ch H H' s.heap h')(h:Jf X.prog X.w H' h')(i:S6 g')
  (f:∀b∈ch,(b∈X.ex\/X.s₀.heap.objs.size<=b)/\b≠X.env.locals/\(∀x c,X.env.cells.lookup x=a5 c->c≠b)/\∀p∈X.pn++pins,p.1≠b) :
  Inv X pins σ H' {s with heap:=h',gens:=g',drawn:=d',toks:=t' }:=by
 obtain⟨m,⟨o,es,ep,ho,r⟩,_⟩:=id I.loc;have⟨v,d⟩:=u.any ho I.free λz=>(f _ z).2.1 rfl;show I.step (ch:=ch) f (λb o d j a e n=>u.keep b o e n (λz=>(gj.mp (I.km b z)).elim d j) a) (λb o _ _ a e n=>u.any e n a) (λb o a e n=>u.free b o e n a) (λb o a e=>u.there b o e a) u.gN u.Jl u.Jt (λy k=>by
  have⟨o',l,q,g,t⟩:=k;rw[ho]at g;cases g;show⟨_,l,q,d,t⟩) h i
def Inv.turned(I:Inv X pins σ H s)(k:∀b o,b≠it->s.heap.get? b=a5 o->h'.get? b=a5 o)(g:H it=b6)(d:it≠X.env.locals)
  (h:it∈X.ex\/X.s₀.heap.objs.size<=it) (i:∀x c,X.env.cells.lookup x=a5 c->c≠it) (j:∀p∈X.pn++pins,p.1≠it):Inv X pins σ H {s with heap:=h',toks:=t' }:=by
 have f:∀b u,H b=a5 u->b≠it:=λb u e z=>by rw[z,g]at e;cases e
 show I.step (g':=s.gens) (d':=s.drawn) (ch:=[it]) (λb l=>?_) (λb o _ _ a e _=>k b o (λz=>a (by simp[z])) e) (λb o _ _ a e _=>⟨o.slots,k b o (λz=>a (by simp[z])) e⟩) (λ_ _ _ _ n=>n)
  (λb o a e=>⟨o,k b o (λz=>a (by simp[z])) e⟩) (λ_ _ e=>e) (λ_ _ _ e=>e) (λb ps e=>⟨#[],by rw[e];simp⟩) (λm t=>?_) (λb u e=>?_) I.bare
 .have e:b=it:=by simpa using l
  subst e;show⟨h,d,i,j⟩
 .have⟨o,es,ep,ho,r⟩:=t;show⟨o,es,ep,k _ o (tv d) ho,r⟩
 .show(I.HR b u e).kh (λc v a q=>k c v ?_ q) (λ_ q=>q) λ_ _ q=>q;rcases a with z|z
  .rw[z];show f b u e
  .show f c _ z
def Inv.tok(I:Inv X pins σ H s)(t:Nat):Inv X pins σ H {s with toks:=t}:=I.un (h':=s.heap) (t':=t) Un.refl I.HR
def Inv.kept(I:Inv X pins σ H s)(k:∀b u,s.heap.get? b=a5 u->h'.get? b=a5 u):Inv X pins σ H {s with heap:=h',toks:=t' }:=I.un (Un.kept k) (I.HR.kept k)
def Inv.laid(I:Inv X pins σ H s)(k:∀b u,s.heap.get? b=a5 u->h'.get? b=a5 u)(c:s.heap.objs.size<=a)(new:bH X.prog X.w (upd H a o) h' a o):
  Inv X pins σ (upd H a o) {s with heap:=h',toks:=t' }:=I.un (Un.laid k c (I.HR.fresh c)) (I.HR.laid k c new)
def Inv.write(I:Inv X pins σ H s)(a:OY (H x))(c:e=x\/H e=a5 (.own x))(k:∀b u,b≠e->s.heap.get? b=a5 u->h'.get? b=a5 u)(d:∃u,h'.get? e=a5 u)
  (new:bH X.prog X.w (upd H x o) h' x o):Inv X pins σ (upd H x o) {s with heap:=h',toks:=t' }:=I.un (Un.write a c k d) (I.HR.write a c k d new)
def Inv.weak(I:Inv X pins σ H s)(hl:a.length=σ.length)(w:∀(i:Nat) v,a[i]?=a5 (a5 v)->σ[i]?=a5 (a5 v)):Inv X pins a H s :=
 ⟨I.ok,I.os,I.bare,I.base,let ⟨m,b,c⟩:=I.loc;⟨m,b,λi x v d e2 e=>c i x v d (w i v e2) e⟩,I.cell,I.free,I.Iz,I.pin,I.HR,hl.trans I.len⟩
def Inv.gw(I:Inv X pins σ H s)(h:∀p∈a,s.heap.get? p.1=a5 p.2/\H p.1=b6/\p.1≠X.env.locals/\p.1∉X.fs/\∀v,p.2.data≠.cell v):Inv X a σ H s :=
 ⟨I.ok,I.os,I.bare,I.base,I.loc,I.cell,I.free,I.Iz,λp b=>(ke.mp b).elim (λz=>I.pin p (J8 _ z)) (h p),I.HR,I.len⟩
def iw{N:List Str}(c:N.Nodup){i j:Nat}(a:N[i]?=a5 x)(b:N[j]?=a5 x):i=j:=by
 have⟨e,d⟩:=d4.mp a;have⟨f,e2⟩:=d4.mp b;show(Õ c).mp (d.trans e2.symm)
def mC(I:Inv X pins σ H s)(hN:X.N.Nodup)(hi:X.N[i]?=a5 x)(l:Loc X.env.scope x)(r:RelV v u)
  (h:∀s',Inv X pins (σ.set i (a5 v)) H s'->(∃a,KH a s.heap s'.heap/\(a=X.env.locals\/X.env.cells.lookup x=a5 a))->Q () s') (hf:X.fn x=bD\/X.env.scope.names.lookup x=a5 .local:=by first|show .inl rfl|show .inr rfl|assumption):g9 M A (storeName X.env x u) Q E s:=by
 have⟨m,J,hl⟩:=id I.loc;have Nq:(X.env.scope.kind==.class||(X.env.scope.kind==.module&&X.env.locals != X.env.globals))=cb:=by rw[I.ok.kind];rfl
 have UA:i < σ.length:=by rw[I.len];show(d4.mp hi).1
 have L:=I.LA;have f:∀{a:hH} {h':K1},(∃o,s.heap.get? a=a5 o/\H a=b6)->KH a s.heap h'->Jf X.prog X.w H h':=λ{a h'} ha hs b ob e=>by
  obtain⟨_,_,Ij⟩:=ha;show(I.HR b ob e).kh (λc C hc q=>(hs.2 c ?_).trans q) (λ_ q=>q) λ_ _ q=>q;rintro rfl;rcases hc with rfl|hc
  .rw[Ij]at e;cases e
  .rw[Ij]at hc;cases hc
 rcases l with hk|hk
 .show wpAny_storeName_local hk J (λh' Mp hs=>?_) Nq;obtain⟨oL,_,_,Mq,_⟩:=id J;show h _ ⟨I.ok,I.os,I.bare,⟨λb o e n t l=>?_,λb o e n t l=>?_,I.base.free,λb o e l=>?_,I.base.gN,I.base.Jl,I.base.Jt⟩,⟨_,Mp,λj y v' g e2 O=>?_⟩,λy c e=>?_,I.free,I.Iz,λp T=>?_,f ⟨oL,Mq,I.free⟩ hs,by simpa using I.len⟩ ⟨_,hs,.inl rfl⟩
  .show(hs.2 b (kj (ku (i9 e) I.ok.above))).trans (I.base.keep b o e n t l)
  .have⟨Y,g⟩:=I.base.slot b o e n t l;show⟨Y,(hs.2 b (kj (ku (i9 e) I.ok.above))).trans g⟩
  .have⟨o',g⟩:=I.base.there b o e l;show⟨o',(hs.2 b (kj (ku (i9 e) I.ok.above))).trans g⟩
  .by_cases B:j=i
   .subst B;rw[hi]at g;cases g;rw[d6 UA]at e2;cases e2;show⟨u,r,.inl ⟨hk,by simp⟩⟩
   .rw[i7 (tv B)]at e2;have⟨u',r',q⟩:=hl j y v' g e2 O;show⟨u',r',?_⟩;rcases q with⟨k,e⟩|⟨k,c,e,z⟩
    .show .inl ⟨k,?_⟩;have:y≠x:=λe=>B (iw hN g (e▸hi));simp[this,e]
    .show .inr ⟨k,c,e,z.sameBut hs (L y c e)⟩
  .have⟨C,z⟩:=I.cell y c e;show⟨C,z.sameBut hs (L y c e)⟩
  .have⟨e,n,D,nf,d⟩:=I.pin p T;show⟨(hs.2 p.1 D).trans e,n,D,nf,d⟩
 .have LB:X.fn x=bD:=by
   rcases hf with z|z
   .show z
   .rw[z]at hk;cases hk
  have⟨c,hc⟩:=I.ok.has x (.inl hk);have⟨C,z⟩:=I.cell x c hc;show wpAny_storeName_cell I.ok.kind hk hc z (λh' Ma hs=>?_);have⟨oc,UB,Rq⟩:=id z;show h {s with heap:=h' } ⟨I.ok,I.os,I.bare,⟨λb o e n t l=>?_,λb o e n t l=>?_,I.base.free,λb o e l=>?_,I.base.gN,I.base.Jl,I.base.Jt⟩,⟨m,J.sameBut hs (tv (L x c hc)),λj y v' g e2 O=>?_⟩,λy G e=>?_,I.free,I.Iz,λp T=>?_,f ⟨oc,UB,I.Iz x c hc⟩ hs,by simpa using I.len⟩ ⟨c,hs,.inr hc⟩
  .show(hs.2 b (kj (ku (i9 e) (I.ok.Oj x c LB hc)))).trans (I.base.keep b o e n t l)
  .have⟨Y,g⟩:=I.base.slot b o e n t l;show⟨Y,(hs.2 b (kj (ku (i9 e) (I.ok.Oj x c LB hc)))).trans g⟩
  .have⟨o',g⟩:=I.base.there b o e l;show⟨o',(hs.2 b (kj (ku (i9 e) (I.ok.Oj x c LB hc)))).trans g⟩
  .by_cases B:j=i
   .subst B;rw[hi]at g;cases g;rw[d6 UA]at e2;cases e2;show⟨u,r,.inr ⟨.inl hk,c,hc,Ma⟩⟩
   .rw[i7 (tv B)]at e2;have⟨u',r',q⟩:=hl j y v' g e2 O;show⟨u',r',?_⟩;rcases q with q|⟨k,G,e,z'⟩
    .show .inl q
    .show .inr ⟨k,G,e,z'.sameBut hs ?_⟩;rintro rfl;show B (iw hN g (I.ok.inj _ _ _ e hc▸hi))
  .by_cases UC:G=c
   .subst UC;show⟨_,Ma⟩
   .have⟨w2,z2⟩:=I.cell y G e;show⟨w2,z2.sameBut hs UC⟩
  .have⟨e,n,D,nf,d⟩:=I.pin p T;show⟨(hs.2 p.1 ?_).trans e,n,D,nf,d⟩;intro q;rw[q,UB]at e;have q':oc=p.2:=vu e;show d C (by rw[<-q'];show Rq)
def kn(I:Inv X pins σ H s)(a:X.N.Nodup)(hi:X.N[i]?=a5 x)(b:Loc X.env.scope x)(r:RelV v u)
  (h:∀s',Inv X pins (σ.set i (a5 v)) H s'->Q () s') (c:X.fn x=bD\/X.env.scope.names.lookup x=a5 .local:=by first|show .inl rfl|show .inr rfl|assumption):g9 M A (storeName X.env x u) Q E s :=
 mC I a hi b r (λs' d _=>h s' d) c
def Inv.B_(I:Inv X pins σ H s)(ho:s'.os=s.os)(u:Un (IH X.stack) ch H H' s.heap s'.heap)(a:Jf X.prog X.w H' s'.heap)(d:S6 s'.gens)
  (f:∀b∈ch,(b∈X.ex\/X.s₀.heap.objs.size<=b)/\b≠X.env.locals/\(∀x c,X.env.cells.lookup x=a5 c->c≠b)/\∀p∈X.pn++pins,p.1≠b):Inv X pins σ H' s':=by
 have⟨h',g',d',t',o'⟩:=s';have e:o'=s.os:=ho;subst e;show I.call (g':=g') (t':=t') (d':=d') u a d f
end
@[reducible]def XK:=dV->Option hH->Hp->Prop
@[reducible]def St:=List (Option V)
@[reducible]def VK:=V->Hp->Prop
@[reducible]def TE:=St->Hp->VK->Prop
@[reducible]def TT:=St->Hp->(Bool->Hp->Prop)->Prop
@[reducible]def TA:=St->Hp->(List V->Hp->Prop)->Prop
structure Ends where
 nx:St->Hp->Prop
 rt:VK
 bk:St->Hp->Prop:=λ_ _=>False
 ct:St->Hp->Prop:=λ_ _=>False
@[reducible]def TS:=Ends->St->Hp->Prop
abbrev EP(X:Cx)(a:List (hH×Obj))(σ:St)(Q:VK)(u:dV)(s':hW):Prop:=∃v H',Inv X a σ H' s'/\RelV v u/\Q v H'
abbrev TP(X:Cx)(a:List (hH×Obj))(σ:St)(Q:Bool->Hp->Prop)(b:Bool)(s':hW):Prop:=∃H',Inv X a σ H' s'/\Q b H'
abbrev AP(X:Cx)(a:List (hH×Obj))(σ:St)(Q:List V->Hp->Prop)(us:List dV)(s':hW):Prop:=∃vs H',Inv X a σ H' s'/\Vals vs us/\Q vs H'
abbrev SP(X:Cx)(a:List (hH×Obj))(D:Ends)(f:Flow)(s':hW):Prop :=
 match f with
 |.next=>∃b H',Inv X a b H' s'/\D.nx b H'
 |.brk=>∃b H',Inv X a b H' s'/\D.bk b H'
 |.cont=>∃b H',Inv X a b H' s'/\D.ct b H'
 |.ret u=>∃v b H',Inv X a b H' s'/\RelV v u/\D.rt v H'
abbrev PE(X:Cx)(e:pb)(t:TE):Prop :=
 ∀(a:List (hH×Obj)) (s:hW) (σ:St) (H:Hp) (Q:VK),Inv X a σ H s->t σ H Q->g9 (i5 X.prog X.w) X.A (vr e X.env) (EP X a σ Q) X.xe s
abbrev PT(X:Cx)(e:pb)(t:TT):Prop :=
 ∀(a:List (hH×Obj)) (s:hW) (σ:St) (H:Hp) (Q:Bool->Hp->Prop),Inv X a σ H s->t σ H Q->g9 (i5 X.prog X.w) X.A (isTrue e X.env (vr e X.env)) (TP X a σ Q) X.xe s
abbrev PW(X:Cx)(e:pb)(t:TT):Prop :=
 ∀(b:Sem dV) (a:List (hH×Obj)) (s:hW) (σ:St) (H:Hp) (Q:Bool->Hp->Prop),Inv X a σ H s->t σ H Q->g9 (i5 X.prog X.w) X.A (isTrue e X.env b) (TP X a σ Q) X.xe s
def PW.pt(h:PW X e t):PT X e t:=h _
abbrev PA(X:Cx)(es:List pb)(t:TA):Prop :=
 ∀(pos:Pos) (a:List (hH×Obj)) (s:hW) (σ:St) (H:Hp) (Q:List V->Hp->Prop),Inv X a σ H s->t σ H Q->g9 (i5 X.prog X.w) X.A (Z6 (Hf pos (js es X.env))) (AP X a σ Q) X.xe s
abbrev PS(X:Cx)(st:NB)(t:TS):Prop :=
 ∀(a:List (hH×Obj)) (s:hW) (σ:St) (H:Hp) (D:Ends),Inv X a σ H s->t D σ H->g9 (i5 X.prog X.w) X.A (exec st X.env) (SP X a D) X.xe s
abbrev Jr(X:Cx)(st:List NB)(t:TS):Prop :=
 ∀(a:List (hH×Obj)) (s:hW) (σ:St) (H:Hp) (D:Ends),Inv X a σ H s->t D σ H->g9 (i5 X.prog X.w) X.A (execs st X.env) (SP X a D) X.xe s
def HS(h:g9 M A t Q E s)(b:∀a s,Q a s->Q' a s):g9 M A t Q' E s:=uv h b λ_ _ x=>x
section
def bin(g:PE X a i)(j:PE X b tb){R:V->V->Hp->Prop}(I:Inv X c σ H s)(h:i σ H λx e=>tb σ e λy d=>R x y d)
 {Q:α->hW->Prop} {f:dV->dV->Sem α}
    (k:∀v u s2 x y d,Inv X c σ d s2->RelV x v->RelV y u->R x y d->g9 (i5 X.prog X.w) X.A (f v u) Q X.xe s2) :
    g9 (i5 X.prog X.w) X.A (vr a X.env) (λv l=>g9 (i5 X.prog X.w) X.A (vr b X.env) (λu m=>g9 (i5 X.prog X.w) X.A (f v u) Q X.xe m) X.xe l) X.xe s:=by
  show HS (g c s σ H _ I h) λv s1 n=>?_;have⟨x,e,o,r1,p⟩:=n;show HS (j c s1 σ e _ o p) λu s2 q=>?_;have⟨y,d,r,r2,t⟩:=q;show k v u s2 x y d r r1 r2 t
abbrev CO(i:Nat):TE:=λσ H Q=>∃v,σ[i]?=a5 (a5 v)/\Q v H
abbrev tC(v:V):TE:=λ_ H Q=>Q v H
def aX(j:X.N[i]?=a5 x)(k:Jg X.env.scope x)(d:(x==("__debug__":Str))=cb:=by decide)(n:(x==("__classdict__":Str))=cb:=by decide):PE X (.Name x pos) (CO i):=by
 intro b s σ H Q I h;have⟨v,e,h⟩:=h;have⟨m,o,hl⟩:=I.loc;have⟨u,r,l⟩:=hl i x v j e k;have a:EP X b σ Q u s:=⟨v,H,I,r,h⟩
 rcases l with⟨hk,p⟩|⟨hk,c,f,g⟩
 .show ð (wpAny_loadName_local I.ok.kind hk o p a) d
 .rcases hk with hk|hk
  .show ð (wpAny_loadName_cell I.ok.kind hk f g a) d
  .show ð (wpAny_loadName_free I.ok.kind hk f g a n) d
def qI:PE X (.Constant (.int i) j pos) (tC (.int i)):=λ_ _ _ H _ I h=>wpAny_Constant_int ⟨.int i,H,I.tok _,⟨_,rfl⟩,h⟩
def Ca:PE X (.Constant (.bool b) j pos) (tC (.bl b)):=λ_ _ _ H _ I h=>Constant_bool ⟨.bl b,H,I,rfl,h⟩
def wo:PE X (.Constant .none j pos) (tC .HX):=λ_ _ _ H _ I h=>Constant_none ⟨.HX,H,I,rfl,h⟩
def wq:PE X (.Constant (.str x) j pos) (tC (.str x)):=λ_ _ _ H _ I h=>Calls.Constant_str ⟨.str x,H,I.tok _,⟨_,rfl⟩,h⟩
abbrev Gl(X:Cx)(x:Str):Prop:=X.env.kindOf x=a5 .globalImplicit
def dU(I:Inv X a σ H s)(b:Gl X x)(c:X.mg x=a5 u)(h:Q u s)
  (d:(x==("__debug__":Str))=cb:=by decide):g9 (i5 X.prog X.w) X.A (vr (.Name x pos) X.env) Q E s :=
 Xb I.ok.kind b (Calls.loadGlobal_global (by rw[I.ok.glob];show I.mod.glob.keeps I.bk) c h) d
def d0(I:Inv X a σ H s)(b:Gl X x)(c:X.mg x=b6)(d:Ly x=a5 u)(h:Q u s)
  (e:x≠"__name__":=by decide) (f:(x==("__debug__":Str))=cb:=by decide):g9 (i5 X.prog X.w) X.A (vr (.Name x pos) X.env) Q E s:=by
 have⟨j,g,i⟩:=I.mod.blt;show Xb I.ok.kind b (Calls.loadGlobal_builtin (by rw[I.ok.glob];show I.mod.glob.keeps I.bk) c (by rw[I.ok.blt];show g.keeps I.bk) ((i x e).trans d) h) f
def zQ(a:Gl X x)(b:X.mg x=a5 u)(r:RelV v u)(c:(x==("__debug__":Str))=cb:=by decide):PE X (.Name x pos) (tC v) :=
 λ_ _ _ H _ I h=>dU I a b ⟨v,H,I,r,h⟩ c
abbrev PC(X:Cx)(op:CmpOp)(a b:pb)(t:TE):Prop :=
 ∀(c:List (hH×Obj)) (s:hW) (σ:St) (H:Hp) (Q:VK),Inv X c σ H s->t σ H Q ->
  g9 (i5 X.prog X.w) X.A (vr a X.env) (λv d=>g9 (i5 X.prog X.w) X.A (vr b X.env) (λu e=>g9 (i5 X.prog X.w) X.A (O9 op v u) (EP X c σ Q) X.xe e) X.xe d) X.xe s
abbrev tB(t:TE):TT:=λσ H Q=>t σ H λx a=>∃c,x=.bl c/\Q c a
def wt(h:PC X op a b t)(d:O_ op b=cb:=by first|show f _ (by decide) (by decide)|rfl):PE X (.Compare a [op] [b] pos) t:=λc s σ H Q I e=>ģ (h c s σ H Q I e) d
def wu(h:PC X op a b t)(f:O_ op b=cb:=by first|show m _ (by decide) (by decide)|rfl):PT X (.Compare a [op] [b] pos) (tB t):=by
 intro e s σ H Q I g;show Ul (HS (h e s σ H _ I g) λv s1 f=>HS f λu s2 i=>HS i λc s3 ⟨x,j,k,r1,l⟩=>?_) f;have⟨d,rfl,q⟩:=l;cases r1;show JS ⟨j,k,q⟩
abbrev G2(t u:TT):TT:=λσ H Q=>t σ H λc a=>if c=bD then u σ a Q else Q cb a
abbrev VX(t u:TT):TT:=λσ H Q=>t σ H λc a=>if c=bD then Q bD a else u σ a Q
abbrev G3(t:TT):TT:=λσ H Q=>t σ H λc a=>Q (!c) a
def zR(d:PT X a f):PW X (.BoolOp .And [a] pos) f:=by
 intro g b s σ H Q I h;show isTrue_and (HS (d b s σ H Q I h) λc s1 e=>?_);cases c with
 |true=>show Ķ e
 |false=>show e
def CP(d:PT X a f):PW X (.BoolOp .Or [a] pos) f:=by
 intro g b s σ H Q I h;show isTrue_or (HS (d b s σ H Q I h) λc s1 e=>?_);cases c with
 |false=>show isTrue_or_nil e
 |true=>show e
def CQ(j:PT X a k)(l:PW X (.BoolOp .And (b::e) pos) m):PW X (.BoolOp .And (a::b::e) pos) (G2 k m):=by
 intro n d s σ H Q I h;show isTrue_and (HS (j d s σ H _ I h) λc s1 o=>?_);have⟨f,g,i⟩:=o;cases c with
 |true=>show l n d s1 σ f Q g i
 |false=>show⟨f,g,i⟩
def E9(j:PT X a k)(l:PW X (.BoolOp .Or (b::e) pos) m):PW X (.BoolOp .Or (a::b::e) pos) (VX k m):=by
 intro n d s σ H Q I h;show isTrue_or (HS (j d s σ H _ I h) λc s1 o=>?_);have⟨f,g,i⟩:=o;cases c with
 |true=>show⟨f,g,i⟩
 |false=>show l n d s1 σ f Q g i
def CS(d:PT X a e):PT X (.UnaryOp .Not a pos) (G3 e):=by
 intro b s σ H Q I h;show isTrue_not (d b s σ H (λc f=>Q (!c) f) I h)
abbrev E_(b tb:TE):TE:=λσ H Q=>b σ H λx a=>∃c,x=.bl c/\if c=bD then tb σ a Q else Q (.bl cb) a
abbrev G4(b tb:TE):TE:=λσ H Q=>b σ H λx a=>∃c,x=.bl c/\if c=bD then Q (.bl bD) a else tb σ a Q
abbrev Fb(a:TE):TE:=λσ H Q=>a σ H λx b=>∃c,x=.bl c/\Q (.bl (!c)) b
def wx(h:PE X a t):PE X (.BoolOp op [a] pos) t:=λb s σ H Q I c=>BoolOp_one (h b s σ H Q I c)
def CT(j:PE X a k)(l:PE X (.BoolOp .And (b::e) pos) tb):PE X (.BoolOp .And (a::b::e) pos) (E_ k tb):=by
 intro d s σ H Q I h;show BoolOp_and (HS (j d s σ H _ I h) λv s1 m=>?_);have⟨x,g,i,r1,f⟩:=m;have⟨c,rfl,f⟩:=f;cases r1;show JS ?_;cases c with
 |true=>show l d s1 σ g Q i f
 |false=>show⟨.bl cb,g,i,rfl,f⟩
def Fc(j:PE X a k)(l:PE X (.BoolOp .Or (b::e) pos) tb):PE X (.BoolOp .Or (a::b::e) pos) (G4 k tb):=by
 intro d s σ H Q I h;show BoolOp_or (HS (j d s σ H _ I h) λv s1 m=>?_);have⟨x,g,i,r1,f⟩:=m;have⟨c,rfl,f⟩:=f;cases r1;show JS ?_;cases c with
 |false=>show l d s1 σ g Q i f
 |true=>show⟨.bl bD,g,i,rfl,f⟩
def CU(e:PE X a f):PE X (.UnaryOp .Not a pos) (Fb f):=by
 intro b s σ H Q I h;show UnaryOp_ (HS (e b s σ H _ I h) λv s1 g=>?_);have⟨x,i,j,r1,d⟩:=g;have⟨c,rfl,d⟩:=d;cases r1;show not_of (JS ⟨.bl (!c),i,j,rfl,d⟩)
end
abbrev IF(K:PySem.W.Frag)(H:Hp)(a:hH)(xs:List V):Prop :=
 Rd H a (.lst xs) \/
  ∃(o:Obj) (b:Array dV) (n:Nat),K.lookup a=a5 o/\o.cls=.type "list"/\o.dict=b6/\o.data=.seq b n/\b.size<=cL/\Vals xs b.toList
abbrev II(K:PySem.W.Frag)(H:Hp)(a:hH)(xs:List V):Prop :=
 Rd H a (.tup xs) \/
  ∃(o:Obj) (b:Array dV) (n:Nat),K.lookup a=a5 o/\o.cls=.type "tuple"/\o.data=.seq b n/\b.size<=cL/\Vals xs b.toList
abbrev G5:dV->Option V
 |.none=>a5 .HX
 |.bool b=>a5 (.bl b)
 |.int i _=>a5 (.int i)
 |.str x _=>a5 (.str x)
 |.bytes b _=>a5 (.OW b)
 |.float b _=>a5 (.OX b)
 |.ref a=>a5 (.ref a)
 |.type n=>a5 (.ty n)
 |_=>b6
def RelV.abs(r:RelV x u):G5 u=a5 x:=by
 cases x with
 |HX=>cases r;rfl
 |bl _=>cases r;rfl
 |ref _=>cases r;rfl
 |ty _=>cases r;rfl
 |_=>have⟨t,rfl⟩:=r;rfl
def RelV.inj(r:RelV x u)(q:RelV y u):x=y:=vu (r.abs.symm.trans q.abs)
theorem Vals.inj:∀{xs ys:List V}{us:List dV},Vals xs us->Vals ys us->xs=ys
 |_,_,_,.nil,.nil=>rfl
 |_,_,_,.cons r t,.cons a t'=>by rw[r.inj a,Vals.inj t t']
section
def IF.of{K:PySem.W.Frag}(h:H a=a5 (.lst xs)):IF K H a xs:=.inl (.inl h)
def II.of{K:PySem.W.Frag}(h:H a=a5 (.tup xs)):II K H a xs:=.inl (.inl h)
def Inv.list(I:Inv X c σ H s)(h:IF X.K H a xs):∃b:List dV,Vals xs b/\PlainL s.heap a b.toArray/\xs.length<=cL:=by
 rcases h with h|⟨o,b,n,hk,d,f,hs,hz,r⟩
 .have⟨z,b,n,r,e⟩:=h.ok I.HR;show⟨b,r,⟨_,n,e,rfl,rfl,rfl⟩,z⟩
 .show⟨b.toList,r,⟨o,n,I.JU a o hk,d,f,by simpa using hs⟩,?_⟩;have e:=r.length;simp only[rl]at e;lia
def Inv.tuple(I:Inv X c σ H s)(h:II X.K H a xs):∃b:List dV,Vals xs b/\Z1 s.heap a b.toArray/\xs.length<=cL:=by
 rcases h with h|⟨o,b,n,hk,d,hs,hz,r⟩
 .have⟨z,b,r,p⟩:=h.ok I.HR;show⟨b,r,p,z⟩
 .show⟨b.toList,r,⟨o,I.JU a o hk,d,n,by simpa using hs⟩,?_⟩;have e:=r.length;simp only[rl]at e;lia
def Inv.pw(I:Inv X b σ H s)(h:IF X.K H a xs)(h':IF X.K H a ys):xs=ys:=by
 obtain⟨f,r,⟨o,n,e,_,_,d⟩,_⟩:=I.list h;obtain⟨its',g,⟨o',j,c,_,_,d'⟩,_⟩:=I.list h';rw[e]at c;cases c;rw[d]at d';injection d' with i _
 have:f=its':=by simpa using ľ Y8 i
 subst this;show r.inj g
def Inv.mD(I:Inv X b σ H s)(h:II X.K H a xs)(h':II X.K H a ys):xs=ys:=by
 obtain⟨f,r,⟨o,e,_,n,d⟩,_⟩:=I.tuple h;obtain⟨its',g,⟨o',c,_,j,d'⟩,_⟩:=I.tuple h';rw[e]at c;cases c;rw[d]at d';injection d' with i _
 have:f=its':=by simpa using ľ Y8 i
 subst this;show r.inj g
end
@[reducible]def Cx.kq(X:Cx)(E:dV->hW->Prop):Cx:={X with xe:=E}
@[reducible]def Cx.Lm(X:Cx):Cx:=X.kq λ_ _=>False
def Cx.Ok.kq{X:Cx}(a:X.Ok)(E:dV->hW->Prop):(X.kq E).Ok :=
 ⟨a.mod,a.kind,a.glob,a.blt,a.above,a.inj,a.has,a.Oj,a.hd,a.frames,a.O0,a.Rm,a.bs,a.L9,a.KZ,a.Lz,a.jg,a.MU⟩
def Cx.Ok.fH{X:Cx}(a:(X.kq E).Ok):X.Ok :=
 ⟨a.mod,a.kind,a.glob,a.blt,a.above,a.inj,a.has,a.Oj,a.hd,a.frames,a.O0,a.Rm,a.bs,a.L9,a.KZ,a.Lz,a.jg,a.MU⟩
section
def Inv.kq(I:Inv X a σ H s)(E:dV->hW->Prop):Inv (X.kq E) a σ H s:=⟨I.ok.kq E,I.os,I.bare,I.base,I.loc,I.cell,I.free,I.Iz,I.pin,I.HR,I.len⟩
def Inv.fH(I:Inv (X.kq E) a σ H s):Inv X a σ H s:=⟨I.ok.fH,I.os,I.bare,I.base,I.loc,I.cell,I.free,I.Iz,I.pin,I.HR,I.len⟩
def SP.fH(h:SP (X.kq E) a D f s'):SP X a D f s':=by
 cases f with
 |ret u=>have⟨v,b,H',I,r,q⟩:=h;show⟨v,b,H',I.fH,r,q⟩
 |_=>have⟨b,H',I,q⟩:=h;show⟨b,H',I.fH,q⟩
def Jr.Lm{st:List NB}(h:Jr X.Lm st t):Jr X st t:=λa s σ H D I b =>
 uv (h a s σ H D (I.kq _) b) (λ_ _ q=>q.fH) λ_ _ z=>Lb z
end
section
variable{X:Cx}{st:NB}{rest:List NB}{t u:TS}{e:pb}{te:TE}{pos:Pos}
abbrev Fd:TS:=λD σ H=>D.nx σ H
abbrev G6(t u:TS):TS:=λD σ H=>t {D with nx:=u D} σ H
def nE:Jr X [] Fd:=λ_ _ σ H _ I h=>Sb ⟨σ,H,I,h⟩
def ix(b:PS X st t)(c:Jr X rest u):Jr X (st::rest) (G6 t u):=by
 intro a s σ H D I h;show Ď (HS (b a s σ H {D with nx:=u D} I h) λf s1 q=>?_);cases f with
 |next =>
  have⟨d,H',g,q⟩:=q;show c a s1 d H' D g q
 |_=>show q
def Inv.quiet(I:Inv X a σ H s):interactive X.env=cb:=by simp[interactive,I.ok.kind]
abbrev Cb(te:TE):TS:=λD σ H=>te σ H λ_ a=>D.nx σ a
def iy(b:PE X e te)(hs:PV e b6 pos.line X.env=pure cb:=by rfl):PS X (.Expr e pos) (Cb te):=by
 intro a s σ H D I h;show Ģ (HS (b a s σ H _ I h) λv s1 ⟨x,c,d,r1,f⟩=>⟨σ,c,d,f⟩) I.quiet hs
abbrev G7(te:TE):TS:=λD σ H=>te σ H D.rt
def CV(b:PE X e te):PS X (.Return (a5 e) pos) (G7 te):=by
 intro a s σ H D I h;show wpAny_Return_some (HS (b a s σ H _ I h) λv s1 ⟨x,c,d,r1,f⟩=>⟨x,σ,c,d,r1,f⟩)
abbrev Fe:TS:=λD _ H=>D.rt .HX H
def zS:PS X (.Return b6 pos) Fe:=λ_ _ σ H _ I h=>wpAny_Return_none ⟨.HX,σ,H,I,rfl,h⟩
abbrev G8(c:TT)(t u:TS):TS:=λD σ H=>c σ H λb a=>if b=bD then t D σ a else u D σ a
def Ff(k:PT X c l)(m:Jr X a t)(n:Jr X b u):PS X (.If c a b pos) (G8 l t u):=by
 intro f s σ H D I h;show wpAny_If (HS (k f s σ H _ I h) λd s1 o=>?_);have⟨g,i,j⟩:=o;cases d with
 |true=>show m f s1 σ g D i j
 |false=>show n f s1 σ g D i j
end
@[reducible]def TG:=V->St->Hp->(St->Hp->Prop)->Prop
@[reducible]def Om:=List V->St->Hp->(St->Hp->Prop)->Prop
abbrev PG(X:Cx)(a:pb)(t:TG):Prop :=
 ∀(b:List (hH×Obj)) (s:hW) (σ:St) (H:Hp) (v:V) (u:dV) (Q:St->Hp->Prop),Inv X b σ H s->RelV v u->t v σ H Q ->
  g9 (i5 X.prog X.w) X.A (Sz a X.env u) (λ_ s'=>∃c H',Inv X b c H' s'/\Q c H') X.xe s
abbrev O3(X:Cx)(ts:List pb)(t:Om):Prop :=
 ∀(a:List (hH×Obj)) (s:hW) (σ:St) (H:Hp) (vs:List V) (us:List dV) (Q:St->Hp->Prop),Inv X a σ H s->Vals vs us->t vs σ H Q ->
  g9 (i5 X.prog X.w) X.A (assignInOrder ((Q4 ts X.env).map (·.2)) us) (λ_ s'=>∃b H',Inv X a b H' s'/\Q b H') X.xe s
@[reducible]def CW:=V->V->V->Hp->(Hp->Prop)->Prop
abbrev nF(X:Cx)(t:CW):Prop :=
 ∀(a:List (hH×Obj)) (s:hW) (σ:St) (H:Hp) (o i v:V) (b c u:dV) (Q:Hp->Prop),Inv X a σ H s->RelV o b->RelV i c->RelV v u->t o i v H Q ->
  g9 (i5 X.prog X.w) X.A (TB b c u) (λ_ s'=>∃H',Inv X a σ H' s'/\Q H') X.xe s
@[reducible]def Rt:=V->V->Hp->VK->Prop
abbrev Qy(X:Cx)(op:Ü)(t:Rt):Prop :=
 ∀(a:List (hH×Obj)) (s:hW) (σ:St) (H:Hp) (x y:V) (v u:dV) (Q:VK),Inv X a σ H s->RelV x v->RelV y u->t x y H Q ->
  g9 (i5 X.prog X.w) X.A (inplaceOp op v u) (EP X a σ Q) X.xe s
section
abbrev sN(i:Nat):TG:=λv σ H Q=>Q (σ.set i (a5 v)) H
def sO(b:X.N.Nodup)(hi:X.N[i]?=a5 x)(c:Loc X.env.scope x)(d:X.fn x=bD\/X.env.scope.names.lookup x=a5 .local:=by first|show .inl rfl|show .inr rfl|assumption):PG X (.Name x pos) (sN i):=by
 intro a s σ H v u Q I r h;show ā (kn I b hi c r (λs' e=>⟨_,H,e,h⟩) d)
abbrev Fg:Om:=λvs σ H Q=>vs=[]/\Q σ H
abbrev Ce(t:TG)(u:Om):Om:=λvs σ H Q=>∃v r,vs=v::r/\t v σ H λa H'=>u r a H' Q
def zT:O3 X [] Fg:=by
 intro a s σ H vs us Q I r h;have⟨e,h⟩:=h;subst e;cases r;show assignInOrder_nil ⟨σ,H,I,h⟩
def wy(b:PG X e t)(c:O3 X es u)
  (hs:(Q4 (e::es) X.env).map (·.2)=Sz e X.env::(Q4 es X.env).map (·.2):=by rfl):O3 X (e::es) (Ce t u):=by
 intro a s σ H vs us Q I r h;have⟨v,m,d,h⟩:=h;subst d;cases r with
 |cons r f =>
  rw[hs];show assignInOrder_cons (HS (b a s σ H _ _ _ I r h) λ_ s1 g=>?_);have⟨i,j,k,l⟩:=g;show c a s1 i j _ _ Q k f l
abbrev G9(K:PySem.W.Frag)(n:Nat)(t:Om):TG:=λv σ H Q=>∃a xs,v=.ref a/\II K H a xs/\xs.length=n/\t xs σ H Q
def CY(f:X.calm=bD)(h:O3 X es t)
  (g:(Q4 es X.env).length=n:=by rfl) (i:(Q4 es X.env).findIdx? (·.1)=b6:=by rfl):PG X (.Tuple es k pos) (G9 X.K n t):=by
 intro c s σ H v u Q I r d;have⟨a,xs,j,l,hl,d⟩:=d;subst j;cases r;have⟨w,rv,m,hz⟩:=I.tuple l;show assign_Tuple_tuple (I.ok.hd f) m (by simp[g,<-hl,rv.length]) i λh' p=>?_;have q:Inv X c σ H {s with heap:=h' }:=I.kept (t':=s.toks) λb o e=>p b o (kj (i9 e)) e;show h c _ σ H xs _ Q q (by simpa using rv) d
abbrev G_(a b:TE)(t:CW):TG:=λv σ H Q=>a σ H λo c=>b σ c λi d=>t o i v d λe=>Q σ e
def wz(ho:PE X o d)(hi:PE X i e)(hs:nF X t)
  (f:∀v,Sz (.Subscript o i pos) X.env v=(do
   let b <-L8 [v] (vr o X.env)
   let c <-L8 [v,b] (vr i X.env)
   S5 pos
   L8 [v,b,c] (TB b c v)
   WK [v,b,c] []):=by intro _;rfl):PG X (.Subscript o i pos) (G_ d e t):=by
 intro a s σ H v u Q I r h;rw[f];show b7 (Jq (HS (ho a s σ H _ I h) λb s1 g=>?_));have⟨x,j,k,r1,l⟩:=g;show b7 (Jq (HS (hi a s1 σ j _ k l) λc s2 m=>?_));have⟨y,n,p,r2,q⟩:=m;show b7 (ZF (b7 (Jq (HS (hs a s2 σ n x y v b c u _ p r1 r2 r q) λ_ s3 w=>?_))));have⟨z,A,B⟩:=w;show wpAny_release ⟨σ,z,A,B⟩
abbrev CZ(te:TE)(g:TG):TS:=λD σ H=>te σ H λx a=>g x σ a D.nx
def qJ(c:PE X e te)(d:PG X b g)(hs:R0 [b] e pos.line X.env=pure cb:=by rfl)(f:V2 [b] e X.env=pure b6:=by rfl)
  (i:(Q4 [b] X.env).map (·.2)=[Sz b X.env]:=by rfl):PS X (.Assign [b] e pos) (CZ te g):=by
 intro a s σ H D I h;show wpAny_Assign_stores (HS (c a s σ H _ I h) λv s1 ⟨x,j,k,r1,l⟩=>?_) hs f;rw[i];show HS (d a s1 σ j x v _ k r1 l) λ_ s2 q=>q
def nG(b:X.N.Nodup)(hi:X.N[i]?=a5 x)(c:Loc X.env.scope x)(d:PE X e te)(hs:PV e (a5 (.Name x pos')) pos.line X.env=pure cb:=by rfl)(f:X.fn x=bD\/X.env.scope.names.lookup x=a5 .local:=by first|show .inl rfl|show .inr rfl|assumption):
  PS X (.Assign [.Name x pos'] e pos) (CZ te (sN i)):=by
 intro a s σ H D I h;show wpAny_Assign_Name (HS (d a s σ H _ I h) λv s1 ⟨y,g,j,r1,k⟩=>?_) hs;show kn j b hi c r1 (λs2 l=>⟨_,g,l,k⟩) f
abbrev Fh(a b te:TE)(c:V->V->Hp->VK->Prop)(d:Rt)(e:CW):TS:=λD σ H=>a σ H λo f=>b σ f λi g=>c o i g λx h=>te σ h λy j=>d x y j λz k=>e o i z k λl=>D.nx σ l
abbrev Fi(X:Cx)(t:V->V->Hp->VK->Prop):Prop :=
 ∀(a:List (hH×Obj)) (s:hW) (σ:St) (H:Hp) (o i:V) (b c:dV) (Q:VK),Inv X a σ H s->RelV o b->RelV i c->t o i H Q ->
  g9 (i5 X.prog X.w) X.A (Rz b c) (EP X a σ Q) X.xe s
def zU(ho:PE X o j)(hi:PE X i k)(l:Fi X m)(n:PE X e te)(p:Qy X op q)(hs:nF X r)
  (t:∀b c new,ĭ i b c new=(do L8 [new,b,c] (TB b c new);WK [new,b,c] [];pure .next):=by intros;rfl):PS X (.AugAssign (.Subscript o i V5) op e pos) (Fh j k te m q r):=by
 intro a s σ H D I h;show wpAny_AugAssign_SubscriptAny (HS (ho a s σ H _ I h) λb s1 ⟨f,u,w,r1,x⟩=>?_) t;show HS (hi a s1 σ u _ w x) λc s2 y=>?_;have⟨g,z,A,r2,B⟩:=y;show HS (l a s2 σ z f g b c _ A r1 r2 B) λd s3 C=>?_;have⟨G,J,L,N,O⟩:=C;show HS (n a s3 σ J _ L O) λv s4 Q=>?_;have⟨T,Y,I4,r4,q4⟩:=Q;show HS (p a s4 σ Y G T d v _ I4 N r4 q4) λnew s5 RB=>?_;have⟨x5,H5,I5,r5,q5⟩:=RB;show HS (hs a s5 σ H5 f g x5 b c new _ I5 r1 r2 r5 q5) λ_ s6 ⟨H6,I6,q6⟩=>⟨σ,H6,I6,q6⟩
abbrev RC(f:Int->Int->Int):Rt:=λx y H Q=>∃i j,x=.int i/\y=.int j/\Q (.int (f i j)) H
def C0:Qy X .Add (RC λi j=>i+j):=by
 intro a s σ H x y v u Q I r1 r2 h;have⟨i,j,b,e2,q⟩:=h;subst b;subst e2;have⟨t,rfl⟩:=r1;have⟨t',rfl⟩:=r2;show iadd_int ⟨.int _,H,I.tok _,⟨_,rfl⟩,q⟩
def C2:Qy X .Sub (RC λi j=>i - j):=by
 intro a s σ H x y v u Q I r1 r2 h;have⟨i,j,b,e2,q⟩:=h;subst b;subst e2;have⟨t,rfl⟩:=r1;have⟨t',rfl⟩:=r2;show isub_int ⟨.int _,H,I.tok _,⟨_,rfl⟩,q⟩
end
section
abbrev C3(c:TT)(tb:TS):TS:=λD σ H=>∃W:Nat->St->Hp->Prop,(∃m,W m σ H)/\∀m σ H,W m σ H ->
 c σ H λb a=>if b=bD then ∃N:St->Hp->Prop,(∀d H',N d H'->∃e,e<m/\W e d H')/\tb {D with nx:=N,ct:=N,bk:=D.nx} σ a else D.nx σ a
def wA(r:Yq (i5 X.prog X.w) X.A X.env X.xe)(z:PT X c B)(C:Jr X body tb):PS X (.While c body [] pos) (C3 B tb):=by
 intro a s σ H D I h;obtain⟨W,⟨m0,G⟩,d⟩:=h;show wpAny_While (codeAny_whileLoop (λn s'=>∃t H',Inv X a t H' s'/\W n t H') ?_ m0 ⟨σ,H,I,G⟩);rintro n s1 ⟨i,u,J,L⟩;show OZ r (HS (z a s1 i u _ J (d n i u L)) λb s2 O=>?_);have⟨v,x,j⟩:=O;cases b with
 |true =>
  have⟨N,y,j⟩:=j;rw[Ĺ rfl];show OZ r (HS (C a s2 i v _ x j) λf s3 k=>?_);cases f with
  |next =>
   have⟨e,g,l,m⟩:=k;have⟨o,p,q⟩:=y e g m;show⟨o,p,e,g,l,q⟩
  |cont =>
   have⟨e,g,l,m⟩:=k;have⟨o,p,q⟩:=y e g m;show⟨o,p,e,g,l,q⟩
  |_=>show k
 |false =>
  rw[ĺ mx];show Sb ⟨i,v,x,j⟩
end
structure It where
 go:Nat->Hp->Prop
 Qz:Nat->Hp->V->Hp->Prop
 stop:Nat->Hp->Prop
abbrev g_(X:Cx)(a:List (hH×Obj))(H:Hp)(b:hH):Prop :=
 H b=b6/\b≠X.env.locals/\b∉X.fs/\(b∈X.ex\/X.s₀.heap.objs.size<=b)/\(∀x c,X.env.cells.lookup x=a5 c->c≠b)/\∀p∈X.pn++a,p.1≠b
def Inv.wC(I:Inv X a σ H s)(d:s.heap.objs.size<=b)(f:H' b=b6):g_ X a H' b:=by
 show⟨f,Mm (ku I.lt d),I.E8 d,.inr (B' I.sz d),λx c e z=>?_,λp g z=>?_⟩
 .have⟨v,q⟩:=I.cell x c e;show absurd (ku q.lt (by rw[z];show d)) (H8 _)
 .show absurd (ku (i9 (I.pin p g).1) (by rw[z];show d)) (H8 _)
structure Turn(P:y0)(w:Jn)(K:PySem.W.Frag)(tg:pb)(J:It)(fp:List hH)(it:hH)(tn:Nat->K1->Prop):Prop where
 mem:it∈fp
 obj:∀i h,tn i h->∀b∈fp,∃o,h.get? b=a5 o/\∀v,o.data≠.cell v
 keep:∀i h h',tn i h->(∀b∈fp,∀o,h.get? b=a5 o->h'.get? b=a5 o)->tn i h'
 item:∀(X:Cx),X.prog=P->X.w=w->X.K=K->X.calm=bD->∀(i:Nat) (pins:List (hH×Obj)) (s:hW) (σ:St) (H:Hp) (E:dV->hW->Prop),Inv X pins σ H s->(∀b∈fp,g_ X pins H b)->tn i s.heap->J.go i H ->
  g9 (i5 P w) X.A (Sy (.ref it)) (λr s1=>∃u,r=a5 u /\
   g9 (i5 P w) X.A (Ud tg (.ref it) u) (λ_ s2=>∃x H',Inv X pins σ H' s2/\RelV x u/\J.Qz i H x H'/\tn (i+1) s2.heap/\∀b∈fp,H' b=b6) E s1) E s
 done:∀(X:Cx),X.prog=P->X.w=w->X.K=K->X.calm=bD->∀(i:Nat) (pins:List (hH×Obj)) (s:hW) (σ:St) (H:Hp) (E:dV->hW->Prop),Inv X pins σ H s->(∀b∈fp,g_ X pins H b)->tn i s.heap->J.stop i H ->
  g9 (i5 P w) X.A (Sy (.ref it)) (λr s1=>r=b6/\Inv X pins σ H s1) E s
 self:∀(A:MW) (i:Nat) (s:hW) (Q:dV->hW->Prop) (E:dV->hW->Prop),tn i s.heap->Q (.ref it) s->g9 (i5 P w) A (Yn (.ref it)) Q E s
@[reducible]def TI:=St->Hp->(It->Hp->Prop)->Prop
abbrev UD(X:Cx)(a:List (hH×Obj))(σ:St)(e:pb)(R:It->Hp->Prop)(f:dV)(s2:hW):Prop :=
 ∃(it:hH) (c:List hH) (d:Nat->K1->Prop) (J:It) (H':Hp),f=.ref it/\Inv X a σ H' s2/\Turn X.prog X.w X.K e J c it d/\d 0 s2.heap/\(∀b∈c,g_ X a H' b)/\R J H'
abbrev PI(X:Cx)(c b:pb)(d:TI):Prop :=
 ∀(a:List (hH×Obj)) (s:hW) (σ:St) (H:Hp) (R:It->Hp->Prop),Inv X a σ H s->d σ H R ->
  g9 (i5 X.prog X.w) X.A (vr b X.env) (λv s1=>g9 (i5 X.prog X.w) X.A (Yn v) (UD X a σ c R) X.xe s1) X.xe s
def sQ(ho:s.heap.get? it=a5 o)(b:o.cls=.type n)(c:o.data=.fields vs)
    (d:["enumerate","zip","dict_itemiterator","dict_reverseitemiterator","odict_iterator","itertools.zip_longest","itertools.pairwise"].contains n=cb) (a:Q () s):g9 M A (Ud e (.ref it) u) Q E s:=by
  unfold Ud;cases e<;>first
    | show dt a
    | (cases u<;>first
        | show dt a
        | (show b7 (ï ho ?_)
           rw[b,c];change g9 M A (if (["enumerate","zip","dict_itemiterator","dict_reverseitemiterator","odict_iterator","itertools.zip_longest","itertools.pairwise"].contains n&&vs[0]?==a5 (Iv _))=bD then _ else _) Q E s;rw[ĺ (by intro h;rw[d,î]at h;cases h)];show dt a))
abbrev RF(K:PySem.W.Frag)(a:hH):It :=
 ⟨λi H=>∃xs x,IF K H a xs/\xs[i]?=a5 x,λi H x H'=>H'=H/\∀xs,IF K H a xs->xs[i]?=a5 x,λi H=>∃xs,IF K H a xs/\xs.length<=i⟩
abbrev RG(K:PySem.W.Frag)(a:hH):It :=
 ⟨λi H=>∃xs x,II K H a xs/\xs[i]?=a5 x,λi H x H'=>H'=H/\∀xs,II K H a xs->xs[i]?=a5 x,λi H=>∃xs,II K H a xs/\xs.length<=i⟩
abbrev O4(lo:Int)(n:Nat):It:=⟨λi _=>i<n,λi H x H'=>H'=H/\x=.int (lo+i),λi _=>n<=i⟩
def uS{K:PySem.W.Frag}(a it:hH):Turn P w K tg (RF K a) [it] it (λi h=>h.IsListIter it a i) where
 mem:=by simp
 obj:=λi h st b g=>by
  have e:b=it:=by simpa using g
  subst e;have⟨o,e,c,d⟩:=st;show⟨o,e,λv z=>by rw[d]at z;cases z⟩
 keep:=λi h h' st k=>st.at λo e=>k it (by simp) o e
 item:=by
  intro X m n q G i f s σ H E I j st r;subst m n q;have⟨xs,x,l,t⟩:=r;have⟨J,rv,p,hz⟩:=I.list l;have⟨u,L,N⟩:=rv.get t;have⟨y,A,O,B,C,D⟩:=j it (by simp);show wpAny_pyNext_list_item st p.isList (x:=u) (by simpa using L) λh' st' Q=>?_;have T:Inv X f σ H {s with heap:=h' }:=I.turned (t':=s.toks) (λb o g e=>(Q.2 b g).trans e) y A B C D;have⟨o,e,c,d⟩:=id st';show⟨u,rfl,sQ (s:={s with heap:=h' }) e c d (by decide) ⟨x,H,T,N,⟨rfl,λys Y=>by rw[I.pw Y l];show t⟩,st',λb g=>(j b g).1⟩⟩
 done:=by
  intro X m n q G i f s σ H E I j st r;subst m n q;have⟨xs,l,t⟩:=r;have⟨J,rv,p,hz⟩:=I.list l;have⟨y,A,O,B,C,D⟩:=j it (by simp);have hl:=rv.length;show wpAny_pyNext_list_end (I.ok.hd G) st p.isList (by simp;lia) λh' eb=>⟨rfl,I.turned (t':=s.toks) (λb o g e=>eb b o g e) y A B C D⟩
 self:=λ_ _ _ _ _ st h=>wpAny_pyIter_listiter st h
def qK{K:PySem.W.Frag}(a it:hH):Turn P w K tg (RG K a) [it] it (λi h=>h.IsTupleIter it a i) where
 mem:=by simp
 obj:=λi h st b g=>by
  have e:b=it:=by simpa using g
  subst e;have⟨o,e,c,d⟩:=st;show⟨o,e,λv z=>by rw[d]at z;cases z⟩
 keep:=λi h h' st k=>st.at λo e=>k it (by simp) o e
 item:=by
  intro X m n q J i f s σ H E I j st r;subst m n q;have⟨xs,x,l,t⟩:=r;have⟨y,rv,p,hz⟩:=I.tuple l;have⟨u,L,N⟩:=rv.get t;have⟨A,B,O,C,D,G⟩:=j it (by simp);show wpAny_pyNext_tuple_item st (show s.heap.IsTuple a y.toArray from p) (x:=u) (by simpa using L) λh' st' Q=>?_;have T:Inv X f σ H {s with heap:=h' }:=I.turned (t':=s.toks) (λb o g e=>(Q.2 b g).trans e) A B C D G;have⟨o,e,c,d⟩:=id st';show⟨u,rfl,sQ (s:={s with heap:=h' }) e c d (by decide) ⟨x,H,T,N,⟨rfl,λys Y=>by rw[I.mD Y l];show t⟩,st',λb g=>(j b g).1⟩⟩
 done:=by
  intro X m n q J i f s σ H E I j st r;subst m n q;have⟨xs,l,t⟩:=r;have⟨y,rv,p,hz⟩:=I.tuple l;have⟨A,B,O,C,D,G⟩:=j it (by simp);have hl:=rv.length;show wpAny_pyNext_tuple_end (I.ok.hd J) st (show s.heap.IsTuple a y.toArray from p) (by simp;lia) λh' eb=>⟨rfl,I.turned (t':=s.toks) (λb o g e=>eb b o g e) A B C D G⟩
 self:=λ_ _ _ _ _ st h=>wpAny_pyIter_tupleiter st h
def qL{K:PySem.W.Frag}(it:hH)(lo:Int)(n:Nat):Turn P w K L (O4 lo n) [it] it (λi h=>IsRangeIter h it (lo+(i:Nat) * 1) ((n:Int) - (i:Nat)) 1) where
 mem:=by simp
 obj:=λi h st b c=>by
  have e:b=it:=by simpa using c
  subst e;show⟨_,st,λv z=>by
   have A:Ē _=Ñ v:=z;cases A⟩
 keep:=λi h h' st k=>k it (by simp) _ st
 item:=by
  intro X f g j l i a s σ H E I d st m;subst f g j;have⟨p,q,B,r,u,x⟩:=d it (by simp);have W:=Walks.range (prog:=X.prog) (w:=X.w) (I.ok.hd l) it lo 1 n;show W.item i s _ _ m st λv h' y C st' D=>?_;have⟨t,rfl⟩:=C;have G:Inv X a σ H {s with heap:=h',toks:=y}:=I.turned (λb o c e=>D b o (by simpa using c) e) p q r u x;show⟨_,rfl,sQ (s:={s with heap:=h',toks:=y}) (n:="range_iterator") st' rfl rfl (by decide) ⟨.int (lo+i),H,G,⟨t,?_⟩,⟨rfl,rfl⟩,st',λb c=>(d b c).1⟩⟩;rw[Int.mul_one]
 done:=by
  intro X f g j l i a s σ H E I d st m;subst f g j;have⟨p,q,B,r,u,x⟩:=d it (by simp);show wpAny_pyNext_range_end (I.ok.hd l) st (by have:n<=i:=m;lia) λh' J=>⟨rfl,I.turned (t':=s.toks) (λb o c e=>J b o c e) p q r u x⟩
 self:=λ_ _ _ _ _ st h=>wpAny_pyIter_rangeiter st h
section
abbrev Fj(K:PySem.W.Frag)(c:TE):TI:=λσ H R=>c σ H λx b=>∃a,x=.ref a/\(∃xs,IF K b a xs)/\R (RF K a) b
abbrev Ha(K:PySem.W.Frag)(c:TE):TI:=λσ H R=>c σ H λx b=>∃a,x=.ref a/\(∃xs,II K b a xs)/\R (RG K a) b
def zV(hl:PE X l f):PI X n l (Fj X.K f):=by
 intro c s σ H R I h;show HS (hl c s σ H _ I h) λv s1 g=>?_;have⟨x,i,d,r1,j⟩:=g;obtain⟨a,e,⟨xs,k⟩,q⟩:=j;subst e;cases r1;have⟨r,rv,p,hz⟩:=d.list k;show SY p.isList ?_;show⟨s1.heap.objs.size,[s1.heap.objs.size],_,_,i,rfl,d.kept (t':=s1.toks) λb o e=>c4 _ e,uS a _,⟨_,fx _ rfl,rfl,rfl⟩,λb m=>?_,q⟩;have e:b=s1.heap.objs.size:=by simpa using m
 subst e;show d.wC (hY _) (d.HR.fresh (hY _))
def C4(hl:PE X l f):PI X r l (Ha X.K f):=by
 intro c s σ H R I h;show HS (hl c s σ H _ I h) λv s1 g=>?_;have⟨x,i,d,r1,j⟩:=g;obtain⟨a,e,⟨xs,k⟩,q⟩:=j;subst e;cases r1;have⟨m,rv,p,hz⟩:=d.tuple k;show QF (show s1.heap.IsTuple a m.toArray from p) ?_;show⟨s1.heap.objs.size,[s1.heap.objs.size],_,_,i,rfl,d.kept (t':=s1.toks) λb o e=>c4 _ e,qK a _,⟨_,fx _ rfl,rfl,rfl⟩,λb n=>?_,q⟩;have e:b=s1.heap.objs.size:=by simpa using n
 subst e;show d.wC (hY _) (d.HR.fresh (hY _))
def pz{lo hi:Int}(I:Inv X a σ H s)(f:-(2 ^ 62)<=lo)(g:lo<2 ^ 62)(h:-(2 ^ 62)<=hi)(i:hi<2 ^ 62)
  (q:R (O4 lo (hi - lo).toNat) H):g9 (i5 X.prog X.w) X.A (Yn (.ref s.heap.objs.size)) (UD X a σ l R) E {s with heap:=s.heap.push {cls:=.type "range",data:=.fields #[.int lo t,.int hi u,.int 1 v]},toks:=d}:=by
 show wpAny_pyIter_range (IsRange.new ..) (small_one f g h i) ?_;have c:Inv X a σ H {s with heap:=s.heap.push {cls:=.type "range",data:=.fields #[.int lo t,.int hi u,.int 1 v]},toks:=d}:=I.kept λb o e=>c4 _ e;show⟨(s.heap.push {cls:=.type "range",data:=.fields #[.int lo t,.int hi u,.int 1 v]}).objs.size,[(s.heap.push {cls:=.type "range",data:=.fields #[.int lo t,.int hi u,.int 1 v]}).objs.size],_,_,H,rfl,
  c.kept (t':=d) λb o e=>c4 _ e,qL _ lo (hi - lo).toNat,?_,λb j=>?_,q⟩
 .have k:lo+((0:Nat):Int) * 1=lo:=by simp
  have e2:(((hi - lo).toNat:Nat):Int) - ((0:Nat):Int)=Ĕ lo hi 1:=by rw[rangeSize_one];split<;>lia
  change IsRangeIter _ _ (lo+((0:Nat):Int) * 1) ((((hi - lo).toNat:Nat):Int) - ((0:Nat):Int)) 1;rw[k,e2];show fx _ rfl
 .have e:b=(s.heap.push {cls:=.type "range",data:=.fields #[.int lo t,.int hi u,.int 1 v]}).objs.size:=by simpa using j
  subst e;show c.wC (hY _) (c.HR.fresh (hY _))
abbrev Fm(a:TA):TI:=λσ H R=>a σ H λvs b=>∃j:Int,vs=[.int j]/\-(2 ^ 62)<=j/\j<2 ^ 62/\R (O4 0 j.toNat) b
abbrev Fo(a:TA):TI:=λσ H R=>a σ H λvs b=>∃i j:Int,vs=[.int i,.int j]/\(-(2 ^ 62)<=i/\i<2 ^ 62/\-(2 ^ 62)<=j/\j<2 ^ 62)/\R (O4 i (j - i).toNat) b
def uT(d:Gl X "range")(f:X.mg "range"=b6)(g:PA X [a] i)(hs:js [a] X.env=[(cb,vr a X.env)]:=by rfl):PI X n (.Call (.Name "range" p) [a] [] pos) (Fm i):=by
 intro b s σ H R I h;show Call_ (d0 I d f boot_range (Lw (HS (g pos b s σ H _ I h) λus s1 ⟨vs,o,k,r1,c⟩=>?_) hs rfl));have⟨j,e,c,l,q⟩:=c;subst e;cases r1 with
 |cons r m =>
  cases m;have⟨t,rfl⟩:=r;show call_range_1 (pz k ⋯ ⋯ c l (by simpa using q))
def uU(k:Gl X "range")(l:X.mg "range"=b6)(m:PA X [a,b] n)(hs:js [a,b] X.env=[(cb,vr a X.env),(cb,vr b X.env)]:=by rfl)(g:js [b] X.env=[(cb,vr b X.env)]:=by rfl):
  PI X y (.Call (.Name "range" p) [a,b] [] pos) (Fo n):=by
 intro c s σ H R I h;show Call_ (d0 I k l boot_range (Lw (HS (m pos c s σ H _ I h) λus s1 ⟨vs,z,o,r1,d⟩=>?_) (by rw[hs,g]) (by rw[g];rfl)));obtain⟨i,j,e,⟨d,u,v,w⟩,q⟩:=d;subst e;cases r1 with
 |cons r f =>
  cases f with
  |cons x f =>
   cases f;have⟨t,rfl⟩:=r;have⟨t',rfl⟩:=x;show call_range_2 (pz o d u v w q)
abbrev Hb(c:TI)(g:TG)(tb:TS):TS:=λD σ H=>c σ H λJ d=>∃W:Nat->Nat->St->Hp->Prop,(∃m,W 0 m σ d)/\∀i m σ H,W i m σ H ->
 (J.stop i H/\D.nx σ H)\/(J.go i H/\∃N:St->Hp->Prop,(∀a H',N a H'->∃b,b<m/\W (i+1) b a H')/\∀x H',J.Qz i H x H'->g x σ H' λe f=>tb {D with nx:=N,ct:=N,bk:=D.nx} e f)
abbrev kr(a:List hH)(h:K1):List (hH×Obj):=a.filterMap λb=>(h.get? b).map λo=>(b,o)
def eU(a:b∈c)(e:h.get? b=a5 o):(b,o)∈kr c h:=Qf.mpr ⟨b,a,by rw[e];rfl⟩
def uV(a:p∈kr c h):p.1∈c/\h.get? p.1=a5 p.2:=by
 have⟨b,d,e⟩:=Qf.mp a;cases q:h.get? b with
 |none=>rw[q]at e;cases e
 |some o =>
  rw[q]at e;have f:(b,o)=p:=vu e;subst f;show⟨d,q⟩
def Inv.pinned(I:Inv X a σ H s)(h:∀b∈c,g_ X a H b)(ho:∀b∈c,∃o,s.heap.get? b=a5 o/\∀v,o.data≠.cell v):Inv X (a++kr c s.heap) σ H s :=
 I.gw λp i=>(ke.mp i).elim (λz=>I.pin p (va _ z)) λz=>by
  have⟨f,e⟩:=uV z;obtain⟨j,k,l,_⟩:=h p.1 f;have⟨o,g,d⟩:=ho p.1 f;rw[e]at g;cases g;show⟨e,j,k,l,d⟩
def Inv.kA(I:Inv X (a++pl) σ H s):Inv X a σ H s:=I.gw λp b=>I.pin p (va _ (J8 _ b))
def C5(t:Yq (i5 X.prog X.w) X.A X.env X.xe)(hc:X.calm=bD)(hi:PI X tg p wi)(hg:PG X tg g)(c:Jr X body tb)
  (hs:∀x,NQ p X.env x=pure x:=by intro _;rfl):PS X (.For tg p body [] pos) (Hb wi g tb):=by
 intro a s σ H D I h;show wpAny_For (HS (hi a s σ H _ I h) λv s1 h1=>HS h1 λQA s2 h2=>?_) hs;obtain⟨it,y,tn,J,H2,e,I2,T,st2,f2,W,⟨m0,w0⟩,z⟩:=h2;subst e;have O:∀{H':Hp},(∀b∈y,H' b=b6)->∀b∈y,g_ X a H' b:=λhn b c=>⟨hn b c,(f2 b c).2⟩
 show codeAny_forLoop_any (λn s'=>∃i B H',Inv X a B H' s'/\tn i s'.heap/\(∀b∈y,H' b=b6)/\W i n B H') ?_ m0 ⟨0,σ,H2,I2,st2,λb c=>(f2 b c).1,w0⟩;rintro n s3 ⟨i,C,L,I3,IA,O5,w3⟩;rcases z i n C L w3 with⟨G,qn⟩|⟨go,N,hN,Ù⟩
 .show OZ t (HS (T.done X rfl rfl rfl hc i a s3 C L X.xe I3 (O O5) IA G) λr s4 RK=>?_);have⟨Q,I4⟩:=RK;subst Q;show Sb ⟨C,L,I4,qn⟩
 .show OZ t (HS (T.item X rfl rfl rfl hc i a s3 C L X.xe I3 (O O5) IA go) λr s4 RL=>?_);have⟨u,Q,h4⟩:=RL;subst Q;show OZ t (HS h4 λ_ s5 RM=>?_);have⟨x,H5,I5,r5,y5,Y,RN⟩:=RM;have RO:=I5.pinned (O RN) (T.obj _ _ Y);show OZ t (HS (hg _ s5 C H5 x u _ RO r5 (Ù x H5 y5)) λ_ s6 RP=>?_);have⟨σ6,H6,I6,q6⟩:=RP;show OZ t (HS (c _ s6 σ6 H6 _ I6 q6) λf s7 q=>?_);have į:∀{j:St} {k:Hp},Inv X (a++kr y s5.heap) j k s7->N j k->∃m,m<n/\∃i B H',Inv X a B H' s7/\tn i s7.heap/\(∀b∈y,H' b=b6)/\W i m B H':=λ{j k} l n7=>by
   have⟨m',hm,w7⟩:=hN j k n7;show⟨m',hm,i+1,j,k,l.kA,T.keep _ _ _ Y λb c o e=>(l.pin (b,o) (va _ (va _ (eU c e)))).1,λb c=>?_,w7⟩;have⟨o,e,d⟩:=T.obj _ _ Y b c;show(l.pin (b,o) (va _ (va _ (eU c e)))).2.1
  cases f with
  |brk=>have⟨j,k,l,q⟩:=q;show⟨j,k,l.kA,q⟩
  |ret v=>have⟨x7,j,k,l,r7,q⟩:=q;show⟨x7,j,k,l.kA,r7,q⟩
  |_=>have⟨j,k,l,n7⟩:=q;show į l n7
end
@[reducible]def R2:=V->V->Hp->VK->Prop
abbrev JV(X:Cx)(f:dV->dV->Sem dV)(r:R2):Prop :=
 ∀(a:List (hH×Obj)) (s:hW) (σ:St) (H:Hp) (x y:V) (v u:dV) (Q:VK),Inv X a σ H s->RelV x v->RelV y u->r x y H Q ->
  g9 (i5 X.prog X.w) X.A (f v u) (EP X a σ Q) X.xe s
abbrev RQ(X:Cx)(f:dV->Sem dV)(r:V->Hp->VK->Prop):Prop :=
 ∀(a:List (hH×Obj)) (s:hW) (σ:St) (H:Hp) (x:V) (v:dV) (Q:VK),Inv X a σ H s->RelV x v->r x H Q ->
  g9 (i5 X.prog X.w) X.A (f v) (EP X a σ Q) X.xe s
abbrev fw(X:Cx)(f:dV)(r:List V->Hp->VK->Prop):Prop :=
 ∀(a:List (hH×Obj)) (s:hW) (σ:St) (H:Hp) (xs:List V) (us:List dV) (Q:VK),Inv X a σ H s->Vals xs us->r xs H Q ->
  g9 (i5 X.prog X.w) X.A (Qg f us) (EP X a σ Q) X.xe s
abbrev Hc(X:Cx)(r:V->Hp->(Bool->Hp->Prop)->Prop):Prop :=
 ∀(a:List (hH×Obj)) (s:hW) (σ:St) (H:Hp) (x:V) (v:dV) (Q:Bool->Hp->Prop),Inv X a σ H s->RelV x v->r x H Q ->
  g9 (i5 X.prog X.w) X.A (Ĥ v) (TP X a σ Q) X.xe s
abbrev V6(r:V->Hp->VK->Prop)(a:TE):TE:=λσ H Q=>a σ H λx b=>r x b Q
abbrev rI(C:Int->Int->Prop)(g:Int->Int->V):R2:=λx y H Q=>∃i j,x=.int i/\y=.int j/\C i j/\Q (g i j) H
abbrev Nv(g:Int->Int->V):R2:=λx y H Q=>∃i j,x=.int i/\y=.int j/\Q (g i j) H
abbrev rU(g:Int->V):V->Hp->VK->Prop:=λx H Q=>∃i,x=.int i/\Q (g i) H
section
def Cg(ho:RQ X (unaryOp op) r)(c:PE X a d):PE X (.UnaryOp op a pos) (V6 r d):=by
 intro b s σ H Q I h;show UnaryOp_ (HS (c b s σ H _ I h) λv s1 ⟨x,e,f,r1,g⟩=>ho b s1 σ e x v Q f r1 g)
def QB{g:Int->Int->Int}
  (ó:∀(i j:Int) (t u:Tok) (s:hW) (Q:dV->hW->Prop) (E:dV->hW->Prop),C i j->Q (.int (g i j) s.toks) {s with toks:=s.toks+1}->g9 (i5 X.prog X.w) X.A (f (.int i t) (.int j u)) Q E s) :
  JV X f (rI C λi j=>.int (g i j)):=by
 intro a s σ H x y v u Q I b c h;have⟨i,j,rfl,rfl,d,q⟩:=h;have⟨t,rfl⟩:=b;have⟨t',rfl⟩:=c;show ó i j t t' s _ _ d ⟨.int (g i j),H,I.tok _,⟨_,rfl⟩,q⟩
def Fp{g:Int->Int->Int}
  (ó:∀(i j:Int) (t u:Tok) (s:hW) (Q:dV->hW->Prop) (E:dV->hW->Prop),Q (.int (g i j) s.toks) {s with toks:=s.toks+1}->g9 (i5 X.prog X.w) X.A (f (.int i t) (.int j u)) Q E s) :
  JV X f (Nv λi j=>.int (g i j)):=by
 intro a s σ H x y v u Q I b c h;have⟨i,j,rfl,rfl,q⟩:=h;have⟨t,rfl⟩:=b;have⟨t',rfl⟩:=c;show ó i j t t' s _ _ ⟨.int (g i j),H,I.tok _,⟨_,rfl⟩,q⟩
def C6{g:Int->Int->Bool}
  (ó:∀(i j:Int) (t u:Tok) (s:hW) (Q:dV->hW->Prop) (E:dV->hW->Prop),Q (.bool (g i j)) s->g9 (i5 X.prog X.w) X.A (f (.int i t) (.int j u)) Q E s) :
  JV X f (Nv λi j=>.bl (g i j)):=by
 intro a s σ H x y v u Q I b c h;have⟨i,j,rfl,rfl,q⟩:=h;have⟨t,rfl⟩:=b;have⟨t',rfl⟩:=c;show ó i j t t' s _ _ ⟨.bl (g i j),H,I,rfl,q⟩
abbrev Hd(i j:Int):Prop:=0<j/\j<1073741824
abbrev He(i j:Int):Prop:=0<=j/\j<=1000000/\i.natAbs<2 ^ 64
abbrev C7(i j:Int):Prop:=(-(2 ^ 64)<i/\i<2 ^ 64)\/(-(2 ^ 64)<j/\j<2 ^ 64)
def C7.ok(h:C7 i j):IntMulOk i j:=by
 rcases h with⟨a,b⟩|⟨a,b⟩
 .show .of_left (intBits_le_64 a b)
 .show .of_right (intBits_le_64 a b)
def d7:JV X (Qr .Add) (Nv λi j=>.int (i+j)):=Fp λ_ _ _ _ _ _ _ q=>add_int q
def qM:JV X (Qr .Sub) (Nv λi j=>.int (i - j)):=Fp λ_ _ _ _ _ _ _ q=>sub_int q
def nI:JV X (Qr .Mult) (rI C7 λi j=>.int (i * j)):=QB λ_ _ _ _ _ _ _ a q=>mul_int q a.ok
def zW:JV X (Qr .FloorDiv) (rI Hd λi j=>.int (i / j)):=QB λi j _ _ _ _ _ a q=>by
 have b:(0:Int)<j:=a.1;have c:j<1073741824:=a.2;show floordiv_int ⋯ (by rw[Int.fdiv_eq_ediv_of_nonneg i ⋯];show q) (.inl (PyProof.noPylong_small ⋯))
def cj:JV X (Qr .Mod) (rI (λ_ j=>0<j) λi j=>.int (i % j)):=QB λi j _ _ _ _ _ a q=>by
 have b:(0:Int)<j:=a;show mod_int' ⋯ (by rw[Int.fmod_eq_emod_of_nonneg i ⋯];show q)
def nJ:JV X (Qr .Pow) (rI He λi j=>.int (i ^ j.toNat)):=QB λ_ _ _ _ _ _ _ a q=>pow_int_small a.1 a.2.1 a.2.2 q
def O6{g:Int->Int}
  (ó:∀(i:Int) (t:Tok) (s:hW) (Q:dV->hW->Prop) (E:dV->hW->Prop),Q (.int (g i) s.toks) {s with toks:=s.toks+1}->g9 (i5 X.prog X.w) X.A (f (.int i t)) Q E s) :
  RQ X f (rU λi=>.int (g i)):=by
 intro a s σ H x v Q I b h;have⟨i,rfl,q⟩:=h;have⟨t,rfl⟩:=b;show ó i t s _ _ ⟨.int (g i),H,I.tok _,⟨_,rfl⟩,q⟩
def wD:RQ X (unaryOp .USub) (rU λi=>.int (-i)):=O6 λ_ _ _ _ _ q=>neg_int q
end
section
def C8(I:Inv X a σ H s)(q:Q (.bl k) H)(e:k=k'):EP X a σ Q (.bool k') s:=by
 subst e;show⟨.bl k,H,I,rfl,q⟩
def Fq:JV X (O9 .Lt) (Nv λi j=>.bl (cK (i<j))):=C6 λ_ _ _ _ _ _ _ q=>lt_int q
def Fs:JV X (O9 .Gt) (Nv λi j=>.bl (cK (j<i))):=C6 λ_ _ _ _ _ _ _ q=>gt_int q
def Ft:JV X (O9 .GtE) (Nv λi j=>.bl (cK (j<=i))):=C6 λ_ _ _ _ _ _ _ q=>ge_int q
def uW:JV X (O9 .In) (λx y H Q=>∃i j,x=.str i/\y=.str j/\Q (.bl (!(wk j i 0 j.length 1).isEmpty)) H):=by
 intro a s σ H x y v u Q I b c h;have⟨i,j,rfl,rfl,q⟩:=h;have⟨t,rfl⟩:=b;have⟨t',rfl⟩:=c;show in_str (C8 I q rfl)
abbrev Fu(K:PySem.W.Frag)(x:V)(H:Hp)(k:Bool):Prop :=
 match x with
 |.HX=>k=cb
 |.bl b=>k=b
 |.int i=>k=(i != 0)
 |.str y=>y.length<=cL/\k=((y.length:Int) != 0)
 |.OW y=>y.size<=cL/\k=((y.size:Int) != 0)
 |.ref p=>(∃xs,IF K H p xs/\k=!xs.isEmpty)\/(∃xs,II K H p xs/\k=!xs.isEmpty)\/∃kvs,H p=a5 (.dK kvs)/\k=!kvs.isEmpty
 |_=>False
def qN(r:KV kvs vs):(!vs.isEmpty)=!kvs.isEmpty:=by
 cases r<;>rfl
def kB(r:Vals xs a):(!a.toArray.isEmpty)=!xs.isEmpty:=by
 cases r<;>simp
def fI:(cL:Nat)<2 ^ 63:=by rw[Ú];decide
def C9:Hc X (λx H Q=>∃k,Fu X.K x H k/\Q k H):=by
 intro g s σ H x v Q I d h;have⟨k,e,q⟩:=h;have hl:=fI;have hs:cL=16777216:=Ú;cases x with
 |HX =>
  cases d;have a:k=cb:=e;subst a;show truthy_none ⟨H,I,q⟩
 |bl b =>
  cases d;have a:k=b:=e;subst a;show JS ⟨H,I,q⟩
 |int i =>
  have⟨t,rfl⟩:=d;have a:k=(i != 0):=e;subst a;show PySem.P.truthy_int ⟨H,I,q⟩
 |str y =>
  have⟨t,rfl⟩:=d;obtain⟨j,a⟩:y.length<=cL/\k=((y.length:Int) != 0):=e;subst a;show PySem.P.truthy_str ⋯ ⟨H,I.tok _,q⟩
 |OW y =>
  have⟨t,rfl⟩:=d;obtain⟨j,a⟩:y.size<=cL/\k=((y.size:Int) != 0):=e;subst a;show PySem.W.truthy_bytes ⋯ ⟨H,I.tok _,q⟩
 |ref p =>
  cases d;have a:(∃xs,IF X.K H p xs/\k=!xs.isEmpty)\/(∃xs,II X.K H p xs/\k=!xs.isEmpty)\/∃kvs,H p=a5 (.dK kvs)/\k=!kvs.isEmpty:=e;rcases a with⟨xs,f,a⟩|⟨xs,f,a⟩|⟨kvs,f,a⟩
  .subst a;have⟨l,r,pl,hz⟩:=I.list f;have c:=r.length;show wpAny_truthy_list pl.isList (by simp only[hQ];lia) ⟨H,I.tok _,by rw[kB r];show q⟩
  .subst a;have⟨l,r,pl,hz⟩:=I.tuple f;have c:=r.length;show truthy_tuple pl (by simp only[hQ];lia) ⟨H,I.tok _,by rw[kB r];show q⟩
  .subst a;obtain⟨hz,n,vs,r,m⟩:kvs.length<=cL/\(p==OA)=cb/\∃vs,KV kvs vs/\s.heap.DictOf (a9 X.prog X.w) p vs:=I.HR p _ f;have c:kvs.length=vs.length:=Paired.length r;show wpAny_truthy_dict n m ⋯ ⟨H,I.tok _,by rw[qN r];show q⟩
 |_=>show(show False from e).elim
def wF(d:PE X a e)(f:∀b,isTrue a X.env b=(do let v <-b;S5 a.pos;L8 [v] (Ĥ v))):
  PT X a (λσ H Q=>e σ H λx H'=>∃k,Fu X.K x H' k/\Q k H'):=by
 intro c s σ H Q I h;show isTrue_plain (HS (d c s σ H _ I h) λv s1 ⟨x,g,i,r1,j⟩=>C9 c s1 σ g x v Q i r1 j) (f _)
def qO:JV X (Qr .Add) (λx y H Q=>∃i j,x=.str i/\y=.str j/\i.length+j.length<=cL/\Q (.str (i++j)) H):=by
 intro a s σ H x y v u Q I b c h;have⟨i,j,rfl,rfl,hz,q⟩:=h;have⟨t,rfl⟩:=b;have⟨t',rfl⟩:=c;show add_str (λt' d=>⟨.str (i++j),H,I.tok _,⟨_,rfl⟩,q⟩) hz
def vals1(r:Vals [x] us):∃u,us=[u]/\RelV x u:=by
 cases r with
 |cons r1 r2=>cases r2;show⟨_,rfl,r1⟩
def vals2(r:Vals [x,y] us):∃u a,us=[u,a]/\RelV x u/\RelV y a:=by
 cases r with
 |cons r1 r2 =>
  cases r2 with
  |cons b c=>cases c;show⟨_,_,rfl,r1,b⟩
def nK:fw X (.type "str") (λxs H Q=>∃i,xs=[.int i]/\i.natAbs.log2<1920/\Q (.str (Wf i)) H):=by
 intro a s σ H xs us Q I r h;have⟨i,rfl,hz,q⟩:=h;have⟨u,rfl,t,rfl⟩:=vals1 r;show PySem.P.str_of_int hz ⟨.str _,H,I.tok _,⟨_,rfl⟩,q⟩
end
structure qP(h:K1)(x dx C:hH)(mA:Str->Option dV):Prop where
 obj:h.get? x=a5 (PySem.W.instObj C dx)
 ns:h.Ns1 dx mA
 ne:dx≠x
def uX{h:K1}(n:h.Ns1 c d):∃b,h.get? c=a5 b/\∀name,PySem.W.lookIn name b=a5 (d name):=by
 obtain⟨o,es,ep,ho,f,hk,_,g⟩:=n;show⟨o,ho,λname=>?_⟩;have e:=g name;unfold nsFind findBy at e;rw[<-Array.find?_toList]at e;unfold PySem.W.lookIn;rw[f]
 dsimp only
 split
 .rename_i y q;rw[q]at e;show ľ a5 e
 .rename_i q;rw[q]at e;have a:es.toList.any (·.refKey)=cb:=by
   rw[Ì];intro y i;have⟨z,t,j⟩:=hk y (Array.mem_toList_iff.mp i);simp[DictEntry.refKey,j]
  have a':¬es.toList.any (·.refKey)=bD:=by rw[a];show mx
  rw[ĺ a'];show ľ a5 e
def qP.look(I:qP h x b C c):∃a,PySem.W.InstAt h x (PySem.W.instObj C b) C (a5 a)/\∀name,PySem.W.lookIn name a=a5 (c name) :=
 let ⟨a,ho,hl⟩:=uX I.ns
 ⟨a,⟨I.obj,rfl,rfl,ho⟩,hl⟩
section
variable{prog:y0}{w:Jn}{A:MW}{E:dV->hW->Prop}{s:hW}{K:PySem.W.Frag}{x dx C f:hH}{mA:Str->Option dV}{name:Str}{v:dV}
def get_map(X:K.In s.heap)(I:qP s.heap x dx C mA)(b:PySem.W.plainGet K C name=bD)(c:PySem.W.hasDictIn K C=bD)
  (d:PySem.W.findIn K (.ref C) name=a5 b6) (e:mA name=a5 v) (g:PySem.W.handedIn v=bD) (h:Q v {s with toks:=s.toks+1}) :
  g9 (i5 prog w) A (getAttr (.ref x) name a) Q E s:=by
 have⟨i,J,hl⟩:=I.look;show PySem.W.get_value X J (PySem.W.plainGet_of b).1 (PySem.W.findObj_own c d rfl (by rw[hl,e])) g h
def wG(X:K.In s.heap)(I:qP s.heap x dx C mA)(a:PySem.W.plainGet K C name=bD)
  (b:PySem.W.findIn K (.ref C) name=a5 (a5 (.ref f))) (c:PySem.W.isFn K (.ref f)=bD) (d:mA name=b6) (h:Q (.ref f,[.ref x]) s) :
  g9 (i5 prog w) A (Vm (.ref x) name pl) Q E s:=by
 have⟨e,J,hl⟩:=I.look;show PySem.W.method_fn X J (PySem.W.plainGet_of a).1 (PySem.W.plainGet_of a).2 b (beq_iff_eq.mp c) (by change(PySem.W.lookIn name e).map (·.isSome)=a5 cb;rw[hl,d];rfl) h
def zX(X:K.In s.heap)(I:qP s.heap x dx C mA)
  (hs:PySem.W.findIn K (.ref C) "__setattr__"=a5 (a5 (.builtin "object.__setattr__"))) (e:PySem.W.plainOver K C=bD) (g:PySem.W.takerIn K C name=a5 b6) (i:PySem.W.hasDictIn K C=bD)
  (j:PySem.Within mA ns) (hsz:ns.length<=cL)
  (h:∀h',qP h' x dx C (λy=>if y=name then a5 v else mA y)->KH dx s.heap h'->Q () {s with heap:=h',toks:=s.toks+2}) :
  g9 (i5 prog w) A (setAttr (.ref x) name v) Q E s:=by
 have⟨q,J,hl⟩:=I.look;show PySem.W.set_plain X J hs (PySem.W.osa_open (s:={s with toks:=s.toks+1}) (r:=b6) X J e g λb=>?_);have⟨t,k,l⟩:=PySem.W.any_some i;have m:s.heap.get? x=a5 ⟨.ref C,a5 dx,.plain,#[]⟩:=I.obj;show b7 (dt (b7 (b7 (wpAny_loadPart m (b7 (PySem.W.Looks.here (s:={s with toks:=s.toks+1}) (PySem.W.looks_clsIn X k) ?_))))));rw[l];show dt (a:=a5 dx) (b7 (dt (b7 ?_)));show wpAny_nsSet1 (s:={s with toks:=s.toks+1}) I.ns λh' c d=>?_;have⟨u,z,B,n,o,p⟩:=c.count (PySem.Within.cons name v j);show b7 (wpAny_lookBehind n (by rw[o];show pastItsLine_dict (B' p (by rw[lx];lia))) ?_);show dt (h _ ⟨(d.2 _ (tv I.ne)).trans I.obj,c,I.ne⟩ d)
def wH(X:K.In s.heap)(b:PySem.W.makesIn K C=bD)
  (hi:PySem.W.findIn K (.ref C) "__init__"=a5 (a5 (.ref f))) (c:PySem.W.typeIn K (.ref f)=a5 (.type "function"))
  (h:R3 (i5 prog w) (A.under (.builtin "type.__call__" ⟨.ref C::vs,a⟩)) (.call (.ref f) ⟨.ref (s.heap.objs.size+1)::vs,a⟩) (PySem.W.InitBack (s.heap.objs.size+1) R)
   {s with heap:=(s.heap.push PySem.W.emptyDict).push (PySem.W.instObj C s.heap.objs.size)}) :
  R3 (i5 prog w) A (.call (.ref C) ⟨vs,a⟩) R s:=by
 have⟨e,g,d,t,os⟩:=s;show PySem.W.make_core (PySem.W.makes_of X b) (PySem.W.looks_findIn X hi) (λself=>PySem.W.bind_fn X self c) (.inl rfl) h
end
abbrev d8(f:Str)(v:V):List (Str×V)->List (Str×V)
 |[]=>[(f,v)]
 |(g,x)::r=>if g=f then(g,v)::r else(g,x)::d8 f v r
theorem jA(f g:Str)(v:V):∀b:List (Str×V),(d8 f v b).lookup g=if g=f then a5 v else b.lookup g
 |[]=>by
  change Nr g [(f,v)]=_;by_cases h:g=f
  .have a:(g==f)=bD:=beq_iff_eq.mpr h;simp only[Nr,a,Ĺ h]
  .have a:(g==f)=cb:=Ľ.mpr h;simp only[Nr,a,ĺ h]
 |(k,x)::r=>by
  have c:=jA f g v r;rw[show d8 f v ((k,x)::r)=(if k=f then(k,v)::r else(k,x)::d8 f v r) from rfl];by_cases hk:k=f
  .rw[Ĺ hk];by_cases h:g=k
   .have a:(g==k)=bD:=beq_iff_eq.mpr h;simp only[Nr,a,Ĺ (h.trans hk)]
   .have a:(g==k)=cb:=Ľ.mpr h;simp only[Nr,a,ĺ (λe:g=f=>h (e.trans hk.symm))]
  .rw[ĺ hk];by_cases h:g=k
   .have a:(g==k)=bD:=beq_iff_eq.mpr h;simp only[Nr,a,ĺ (λe:g=f=>hk (h.symm.trans e))]
   .have a:(g==k)=cb:=Ľ.mpr h;simp only[Nr,a];show c
theorem jh(f:Str)(v:V):∀a:List (Str×V),f∈(d8 f v a).map (·.1)/\∀g,g∈a.map (·.1)->g∈(d8 f v a).map (·.1)
 |[]=>⟨by simp[d8],λg h=>by simp at h⟩
 |(k,x)::r=>by
  have⟨b,c⟩:=jh f v r;rw[show d8 f v ((k,x)::r)=(if k=f then(k,v)::r else(k,x)::d8 f v r) from rfl];by_cases hk:k=f
  .rw[Ĺ hk];subst hk;show⟨by simp,λg h=>by simpa using h⟩
  .rw[ĺ hk];show⟨?_,λg h=>?_⟩
   .rw[il];show ki _ b
   .rw[il]at h ⊢;rcases gj.mp h with e|e
    .show gj.mpr (.inl e)
    .show ki _ (c g e)
theorem jB(f:Str)(v:V):∀a:List (Str×V),(d8 f v a).length<=a.length+1
 |[]=>by simp[d8]
 |(k,x)::r=>by
  have b:=jB f v r;rw[show d8 f v ((k,x)::r)=(if k=f then(k,v)::r else(k,x)::d8 f v r) from rfl];by_cases hk:k=f
  .rw[Ĺ hk,lx,lx];lia
  .rw[ĺ hk,lx,lx];lia
def fF.some_of(r:fF (a5 v) o):∃u,o=a5 u/\RelV v u:=by
 cases o with
 |none=>show(show False from r).elim
 |some u=>show⟨u,rfl,r⟩
def fF.none_of(r:fF b6 o):o=b6:=by
 cases o with
 |none=>rfl
 |some u=>show(show False from r).elim
def uY(r:RelV v u):PySem.W.handedIn u=bD:=by
 cases v with
 |HX=>cases(show u=qs from r);rfl
 |bl b=>cases(show u=Nu b from r);rfl
 |int i=>have⟨t,e⟩:=(show ∃t,u=Yz i t from r);cases e;rfl
 |str x=>have⟨t,e⟩:=(show ∃t,u=J4 x t from r);cases e;rfl
 |OW b=>have⟨t,e⟩:=(show ∃t,u=ĉ b t from r);cases e;rfl
 |OX b=>have⟨t,e⟩:=(show ∃t,u=Ĉ b t from r);cases e;rfl
 |ref a=>cases(show u=my a from r);rfl
 |ty n=>cases(show u=K2 n from r);rfl
section
def nL(i:Jf P w H h)(e:H a=a5 (.ins C g c)):∃b,qP h a g C b/\(∀f,fF (c.lookup f) (b f))/\PySem.Within b (c.map (·.1))/\c.length<=1000/\H g=a5 (.own a):=by
 have⟨d,z,j,k,b,n,r,q⟩:=(show bH P w H h a (.ins C g c) from i a _ e)
 show⟨b,⟨k,n,j⟩,r,q,z,d⟩
end
structure Mr(K:PySem.W.Frag)(C:hH):Prop where
 pg:PySem.W.plainGet K C wh=bD
 hd:PySem.W.hasDictIn K C=bD
 po:PySem.W.plainOver K C=bD
 sa:PySem.W.findIn K (.ref C) "__setattr__"=a5 (a5 (.builtin "object.__setattr__"))
def Mr.get{K:PySem.W.Frag}(c:Mr K C)(f:Str):PySem.W.plainGet K C f=bD:=c.pg
abbrev fJ(K:PySem.W.Frag)(C:hH)(f:Str):Prop:=PySem.W.findIn K (.ref C) f=a5 b6
def fJ.Fv{K:PySem.W.Frag}(n:fJ K C f):PySem.W.takerIn K C f=a5 b6:=by
 unfold PySem.W.takerIn;rw[show PySem.W.findIn K (.ref C) f=a5 b6 from n];rfl
structure Meth(K:PySem.W.Frag)(C:hH)(m:Str)(f:hH):Prop where
 at_:PySem.W.findIn K (.ref C) m=a5 (a5 (.ref f))
 fn:PySem.W.isFn K (.ref f)=bD
 kp:PySem.W.keepIn K (.ref f)=bD
section
def qQ(I:Inv X d σ H s)(e:H a=a5 (.ins C m i))(c:Mr X.K C)(n:fJ X.K C f)(l:i.lookup f=a5 v)
  (h:∀u s',Inv X d σ H s'->RelV v u->Q u s'):g9 (i5 X.prog X.w) A (getAttr (.ref a) f b) Q E s:=by
 obtain⟨j,O,r,_,_,_⟩:=nL I.HR e;have⟨u,k,g⟩:=fF.some_of (v:=v) (o:=j f) (by rw[<-l];show r f);show get_map I.JU O (c.get f) c.hd n k (uY g) (h u _ (I.tok _) g)
def hJ(I:Inv X b σ H s)(e:H a=a5 (.ins C j d))(c:Mr X.K C)(k:Meth X.K C m g)(l:d.lookup m=b6)
  (h:Q (.ref g,[.ref a]) s):g9 (i5 X.prog X.w) A (Vm (.ref a) m pl) Q E s:=by
 obtain⟨f,O,r,_,_,_⟩:=nL I.HR e;have i:f m=b6:=fF.none_of (by rw[<-l];show r m);show wG I.JU O (c.get m) k.at_ k.fn i h
def qR(I:Inv X i σ H s)(e:H a=a5 (.ins C j d))(c:Mr X.K C)(n:fJ X.K C f)(hl:d.length<1000)(p:RelV y u)
  (h:∀s',Inv X i σ (upd H a (.ins C j (d8 f y d))) s'->Q () s'):g9 (i5 X.prog X.w) A (setAttr (.ref a) f u) Q E s:=by
 obtain⟨l,O,r,m,_,ho⟩:=nL I.HR e;have hz:(d.map (·.1)).length<=cL:=by rw[df,Ú];lia
 show zX I.JU O c.sa c.po n.Fv c.hd m hz λh' k t=>h _ ?_;have v:∃o,h'.get? j=a5 o:=let ⟨o,_,_,B,_⟩:=k.ns;⟨o,B⟩;show I.write (x:=a) (e:=j) (by rw[e];show SX) (.inr ho) (λb q D z=>(t.2 b D).trans z) v ?_;show⟨by rw[ak O.ne];show ho,?_,O.ne,k.obj,_,k.ns,λg=>?_,λg G=>?_⟩
 .have:=jB f y d;lia
 .change fF ((d8 f y d).lookup g) (if g=f then a5 u else l g);rw[jA];by_cases q:g=f
  .rw[Ĺ q,Ĺ q];show p
  .rw[ĺ q,ĺ q];show r g
 .by_cases q:g=f
  .rw[q];show(jh f y d).1
  .show(jh f y d).2 g (m g λz=>G ?_);change(if g=f then a5 u else l g)=b6;rw[ĺ q];show z
def Inv.made(I:Inv X c σ H s):Inv X c σ (upd (upd H s.heap.objs.size (.own (s.heap.objs.size+1))) (s.heap.objs.size+1) (.ins C s.heap.objs.size []))
  {s with heap:=(s.heap.push PySem.W.emptyDict).push (PySem.W.instObj C s.heap.objs.size)}:=by
 have d:(s.heap.push PySem.W.emptyDict).get? s.heap.objs.size=a5 PySem.W.emptyDict:=fx s.heap rfl;have e2:((s.heap.push PySem.W.emptyDict).push (PySem.W.instObj C s.heap.objs.size)).get? (s.heap.objs.size+1)=a5 (PySem.W.instObj C s.heap.objs.size):=by
  have:=fx (s.heap.push PySem.W.emptyDict) (o:=PySem.W.instObj C s.heap.objs.size) rfl
  rwa [NY]at this
 have g:(s.heap.push PySem.W.emptyDict).Ns s.heap.objs.size (λ_=>b6):=⟨PySem.W.emptyDict,#[],_,d,rfl,(λe h=>absurd h (by simp)),λ_=>rfl⟩
 have i:=I.laid (a:=s.heap.objs.size) (o:=.own (s.heap.objs.size+1)) (h':=s.heap.push PySem.W.emptyDict) (t':=s.toks) (λb u q=>c4 _ q) (hY _) ⟨_,d⟩;show i.laid (a:=s.heap.objs.size+1) (o:=.ins C s.heap.objs.size []) (t':=s.toks) (λb u q=>c4 _ q) (VY (NY _ _)) ?_;have f:s.heap.objs.size≠s.heap.objs.size+1:=kj (Pt _);show⟨by rw[ak f,aq],mN _,f,e2,λ_=>b6,(Heap.Ns1.of_empty g).at λo q=>c4 _ q,λ_=>SX,λy j=>absurd rfl j⟩
def zY(a:N9 e f env (vr e env)=vr e env)
  (h:g9 (i5 prog w) A (vr e env) (λo b=>g9 (i5 prog w) A (getAttr o f bD) Q E b) E s):g9 (i5 prog w) A (vr (.Attribute e f pos) env) Q E s :=
 Attribute_any_ h (by rw[arm_eval_Attribute,a])
end
abbrev C_(K:PySem.W.Frag)(d:TE)(f:Str):TE:=λσ H Q=>d σ H λx b=>∃a C e c v,x=.ref a/\b a=a5 (.ins C e c)/\Mr K C/\fJ K C f/\c.lookup f=a5 v/\Q v b
abbrev Hg(K:PySem.W.Frag)(e g:TE)(f:Str):TS:=λD σ H=>g σ H λy h=>e σ h λx c=>∃a C d b,x=.ref a/\c a=a5 (.ins C d b)/\Mr K C/\fJ K C f/\b.length<1000 /\
 D.nx σ (upd c a (.ins C d (d8 f y b)))
section
def qS(d:PE X e g)(i:N9 e f X.env (vr e X.env)=vr e X.env):PE X (.Attribute e f pos) (C_ X.K g f):=by
 intro b s σ H Q I h;show zY i (HS (d b s σ H _ I h) λu s1 j=>?_);have⟨x,k,m,o,a,C,w,y,v,ex,p,c,n,l,q⟩:=j;subst ex;obtain rfl:u=my a:=o;show qQ m p c n l λu' s2 r t=>⟨v,k,r,t,q⟩
def qT(e:PE X o g)(i:PE X b j)(hs:PV b (a5 (.Attribute o f pos')) pos.line X.env=pure cb):PS X (.Assign [.Attribute o f pos'] b pos) (Hg X.K g j f):=by
 intro d s σ H D I h;show plainObj_wpAny_Assign_Attribute (HS (i d s σ H _ I h) λu s1 ⟨y,k,m,p,q⟩=>HS (e d s1 σ k _ m q) λr s2 ⟨x,B,t,v,a,C,G,J,ex,w,c,n,l,z⟩=>?_) hs;subst ex;obtain rfl:r=my a:=v;show qR t w c n l p λs3 A=>⟨σ,_,A,z⟩
end
section
inductive kC(K:PySem.W.Frag)(H:Hp):V->dV->Prop where
 |HX:kC K H .HX (.type "NoneType")
 |bl (x:Bool):kC K H (.bl x) (.type "bool")
 |int (i:Int):kC K H (.int i) (.type "int")
 |str (x:Str):kC K H (.str x) (.type "str")
 |OX (x:UInt64):kC K H (.OX x) (.type "float")
 |lst {a:hH} {xs:List V} (e:H a=a5 (.lst xs)):kC K H (.ref a) (.type "list")
 |KJ {a:hH} {o:Obj} {xs:List V} (e:H a=a5 (.KJ o (.lst xs))):kC K H (.ref a) (.type "list")
 |tup {a:hH} {xs:List V} (e:H a=a5 (.tup xs)):kC K H (.ref a) (.type "tuple")
 |dK {a:hH} {kvs:List (Key×V)} (e:H a=a5 (.dK kvs)):kC K H (.ref a) (.type "dict")
 |dT {a:hH} {kvs:List (List Key×V)} (e:H a=a5 (.dT kvs)):kC K H (.ref a) (.type "dict")
 |ins {a C dx:hH} {fs:List (Str×V)} (e:H a=a5 (.ins C dx fs)) (cl:Mr K C) (ha:PySem.W.findIn K (.ref C) "__class__"=a5 (a5 (.builtin "object.__class__")))
   (hn:PySem.W.specialIn K (.builtin "object.__class__") "__get__"=a5 (a5 (.builtin "getset_descriptor.__get__"))) (V':PySem.W.takesIn K (.builtin "object.__class__")=a5 bD)
   (hm:PySem.W.mroIn K C (.type "object")=a5 bD):kC K H (.ref a) (.ref C)
end
structure cN(k:Nat)(A:MW):Prop where
 hd:A.handled=b6
 dp:A.depth+3 * k+5<ĥ
 un:A.units+16 * k+200<L_
 gd:A.guards=a5 []
def cN.mono(r:cN k A)(h:j<=k):cN j A:=⟨r.hd,by have:=r.dp;lia,by have:=r.un;lia,r.gd⟩
def cN.deeper(r:cN (k+1) A)(env:Env):cN k (A.deeper env) :=
 ⟨r.hd,by have:=r.dp;change A.depth+1+3 * k+5 < _;lia,by have:=r.un;change A.units+3+16 * k+200 < _;lia,r.gd⟩
def qU{A:MW}:(A.under (.builtin "type.__call__" ⟨.ref C::us,a⟩)).depth=A.depth+1:=by
 first|rfl|simp[UI,Code.weight,Code.isCreation,Č,Code.isCaller,Zz,Vn,guardIds]
def qV{A:MW}:(A.under (.builtin "type.__call__" ⟨.ref C::us,a⟩)).units=A.units+1:=by
 first|rfl|simp[UI,Code.cUnits,Zz,Vn]
def cN.make(r:cN (k+1) A)(C:hH)(us:List dV)(a:List (Str×dV)):cN k (A.under (.builtin "type.__call__" ⟨.ref C::us,a⟩)) :=
 ⟨r.hd,by have:=r.dp;rw[qU];lia,by have:=r.un;rw[qV];lia,by first|show r.gd|(simp[UI,Č,Zz,Vn,guardIds];show r.gd)|(change _=_;show r.gd)⟩
def cN.depth(r:cN k A):A.depth<ĥ:=by have:=r.dp;lia
abbrev Fw:TA:=λ_ H Q=>Q [] H
abbrev Fx(a:TE)(b:TA):TA:=λσ H Q=>a σ H λx c=>b σ c λxs d=>Q (x::xs) d
section
def dB:PA X [] Fw:=λ_ _ _ _ H Q I h=>Qu ⟨[],H,I,.nil,h⟩
def cP(b:PE X e te)(c:PA X es t)(hs:js (e::es) X.env=(cb,vr e X.env)::js es X.env:=by rfl):PA X (e::es) (Fx te t):=by
 intro pos a s σ H Q I h;rw[hs];change g9 _ _ (Z6 ((cb,vr e X.env)::Hf pos (js es X.env))) _ _ s;show Oa (HS (b a s σ H _ I h) λu s1 d=>?_);have⟨x,f,g,r1,i⟩:=d;show HS (c pos a s1 σ f _ g i) λus s2 ⟨xs,j,k,r2,l⟩=>⟨x::xs,j,k,.cons r1 r2,l⟩
abbrev Hh(t:TA):TE:=λσ H Q=>t σ H λxs a=>xs.length<=cL/\∀p,a p=b6->Q (.ref p) (upd a p (.tup xs))
abbrev Hi(t:TA):TE:=λσ H Q=>t σ H λxs a=>xs.length<=cL/\∀p,a p=b6->Q (.ref p) (upd a p (.lst xs))
def Dd(h:PA X es t):PE X (.Tuple es i pos) (Hh t):=by
 intro a s σ H Q I f;show é (HS (h pos a s σ H _ I f) λus s1 ⟨xs,c,d,r,z,q⟩=>⟨by rw[<-r.length];show z,?_⟩);have g:c s1.heap.objs.size=b6:=d.HR.fresh (hY _);show⟨.ref s1.heap.objs.size,upd c s1.heap.objs.size (.tup xs),d.laid (t':=s1.toks) (λb u e=>c4 _ e) (hY _) ?_,rfl,q _ g⟩;show⟨z,us,r,⟨_,fx _ rfl,rfl,_,rfl⟩⟩
def wI(h:PA X es t):PE X (.List es pos) (Hi t):=by
 intro a s σ H Q I f;show ñ (HS (h pos a s σ H _ I f) λus s1 ⟨xs,c,d,r,z,q⟩=>⟨by rw[<-r.length];show z,?_⟩);have g:c s1.heap.objs.size=b6:=d.HR.fresh (hY _);show⟨.ref s1.heap.objs.size,upd c s1.heap.objs.size (.lst xs),d.laid (t':=s1.toks) (λb u e=>c4 _ e) (hY _) ?_,rfl,q _ g⟩;show⟨z,us,0,r,fx _ rfl⟩
end
@[reducible]def Sp:=List V->Hp->VK->XK->Prop
@[reducible]def Ny:=List Env->Hp->hW->XK->dV->hW->Prop
structure qW(P:y0)(w:Jn)(K:PySem.W.Frag)(mg:Str->Option dV)(base:K1)(A:MW)(outer:List Env)(s:hW)(H:Hp):Prop where
 frames:A.frames=a5 outer
 mod:Mod K mg base
 bs:∀b o,base.get? b=a5 o->s.heap.get? b=a5 o/\H b=b6
 L9:base.objs.size<=s.heap.objs.size
 jg:s.heap.FunFrames base outer
 MU:∀b∈IH outer,H b=b6
 HR:Jf P w H s.heap
 bare:S6 s.gens
abbrev CE(outer:List Env)(P:y0)(w:Jn)(H:Hp)(s:hW)(Q:VK)(u:dV)(s':hW):Prop :=
 ∃v H',s'.os=s.os/\S6 s'.gens/\Un (IH outer) [] H H' s.heap s'.heap/\Jf P w H' s'.heap/\RelV v u/\Q v H'
abbrev CR(CX:Ny)(outer:List Env)(P:y0)(w:Jn)(H:Hp)(s:hW)(Q:VK)(E:XK)(r:Result)(s':hW):Prop :=
 match r with
 |.ok (.ret u)=>CE outer P w H s Q u s'
 |.ok _=>False
 |.error e=>CX outer H s E e s'
structure dR(P:y0)(w:Jn)(K:PySem.W.Frag)(mg:Str->Option dV)(base:K1)(CX:Ny)(k:Nat)(f:hH)(fd:R5)(ps:List Str)(sp:Sp):Prop where
 len:∀vs H Q E,sp vs H Q E->vs.length=ps.length
 run:∀(A:MW) (outer:List Env) (s:hW) (H:Hp) (args:Args) (us:List dV) (vs:List V) (Q:VK) (E:XK),cN k A->qW P w K mg base A outer s H->Å s fd args (ps.zip us)->Vals vs us->sp vs H Q E ->
  R3 (i5 P w) A (.call (.ref f) args) (CR CX outer P w H s Q E) s
def qW.make{K:PySem.W.Frag}(e:qW P w K mg base A outer s H)(C:hH)(us:List dV)(a:List (Str×dV)):
  qW P w K mg base (A.under (.builtin "type.__call__" ⟨.ref C::us,a⟩)) outer s H:=⟨by first|show e.frames|(simpa[UI,Code.envs,Vn,pushEnvs] using e.frames),e.mod,e.bs,e.L9,e.jg,e.MU,e.HR,e.bare⟩
section
def Inv.De(I:Inv X a σ H s):qW X.prog X.w X.K X.mg X.base X.A X.stack s H :=
 ⟨I.ok.frames,I.ok.mod,I.bs,B' I.ok.L9 I.sz,I.stack,I.iu,I.HR,I.bare⟩
def Inv.after(I:Inv X a σ H s)(h:CE X.stack X.prog X.w H s Q u s'):EP X a σ Q u s':=by
 have⟨v,H',os,c,e,f,r,q⟩:=h;have⟨i,g,d,t,j⟩:=s';obtain rfl:j=s.os:=os;show⟨v,H',I.call (h':=i) (g':=g) (d':=d) (t':=t) (ch:=[]) e f c (λb z=>absurd z (by simp)),r,q⟩
end
abbrev Fy(C:hH)(sp:Sp)(c:List V)(E:XK)(t:TA):TE:=λσ H Q=>t σ H λvs b=>∀x a,b x=b6->b a=b6->a≠x ->
 sp (.ref x::(vs++c)) (upd (upd b a (.own x)) x (.ins C a [])) (λv d=>v=.HX/\Q (.ref x) d) E
abbrev Binds(K:PySem.W.Frag)(a:R5)(ps:List Str)(ds:List dV):Prop :=
 ∀(s:hW) (us:List dV),K.In s.heap->(us++ds).length=ps.length->Å s a ⟨us,[]⟩ (ps.zip (us++ds))
def Binds.all{K:PySem.W.Frag}(h:∀us:List dV,us.length=ps.length->Ĭ a ⟨us,[]⟩=pure (ps.zip us)):Binds K a ps []:=λs us _ hl=>by
 rw[ve]at hl ⊢;show .of_eq (h us hl)
abbrev Passes(CX:Ny)(X:Cx)(E:XK):Prop:=∀(a:List (hH×Obj)) (σ:St) (H:Hp) (s:hW) (e:dV) (s':hW),Inv X a σ H s->CX X.stack H s E e s'->X.xe e s'
section
def kD(F:dR X.prog X.w X.K X.mg X.base CX k f d ps sp)(g:cN k X.A)(i:Binds X.K d ps ds)(j:Vals b ds)(l:Passes CX X E)
  (I:Inv X a σ H s) (r:Vals vs us) (h:sp (vs++b) H Q E):g9 (i5 X.prog X.w) X.A (Qg (.ref f) us) (EP X a σ Q) X.xe s:=by
 have r2:Vals (vs++b) (us++ds):=r.append j;have hl:(us++ds).length=ps.length:=by rw[<-r2.length];show F.len _ _ _ _ h
 show Zm (RA (F.run X.A X.stack s H ⟨us,[]⟩ (us++ds) (vs++b) Q E g I.De (i s us I.JU hl) r2 h) λr s' c=>?_);cases r with
 |error e=>show l a σ H s e s' I c
 |ok m =>
  cases m with
  |ret u=>show I.after c
  |_=>show Lb c
structure Mk(K:PySem.W.Frag)(C f:hH):Prop where
 makes:PySem.W.makesIn K C=bD
 init:PySem.W.findIn K (.ref C) "__init__"=a5 (a5 (.ref f))
 fn:PySem.W.isFn K (.ref f)=bD
 kp:PySem.W.keepIn K (.ref C)=bD
def wJ(M:Mk X.K C f)(F:dR X.prog X.w X.K X.mg X.base CX k f j ps sp)(l:cN (k+1) X.A)(m:Binds X.K j ps ds)(n:Vals g ds)
  (o:Passes CX X E) (I:Inv X a σ H s) (r:Vals vs us)
  (h:∀x b,H x=b6->H b=b6->b≠x->sp (.ref x::(vs++g)) (upd (upd H b (.own x)) x (.ins C b [])) (λv p=>v=.HX/\Q (.ref x) p) E) :
  g9 (i5 X.prog X.w) X.A (Qg (.ref C) us) (EP X a σ Q) X.xe s:=by
 have i:=h (s.heap.objs.size+1) s.heap.objs.size (I.HR.fresh (O' _)) (I.HR.fresh (hY _)) (kj (Pt _));have c:=Inv.made (C:=C) I;have r2:Vals (V.ref (s.heap.objs.size+1)::(vs++g)) (my (s.heap.objs.size+1)::(us++ds)):=.cons rfl (r.append n);have hl:(my (s.heap.objs.size+1)::us++ds).length=ps.length:=by
  have e:=r2.length;rw[F.len _ _ _ _ i]at e;show e.symm
 show Zm (wH (f:=f) I.JU M.makes M.init (beq_iff_eq.mp M.fn) (RA (F.run _ X.stack _ _ ⟨my (s.heap.objs.size+1)::us,[]⟩ (my (s.heap.objs.size+1)::(us++ds)) _ _ E (l.make C us [])
  (c.De.make C us []) (m _ (my (s.heap.objs.size+1)::us) c.JU hl) r2 i) λr s' d=>?_))
 cases r with
 |error e=>show o a σ _ _ e s' c d
 |ok q =>
  cases q with
  |ret u =>
   have⟨v,H',t,rv,ev,y⟩:=c.after d;subst ev;show⟨rv,⟨V.ref (s.heap.objs.size+1),H',t,rfl,y⟩⟩
  |_=>show Lb d
def wK(M:Mk X.K C f)(F:dR X.prog X.w X.K X.mg X.base CX k f b ps sp)(c:cN (k+1) X.A)(d:Gl X x)(e:X.mg x=a5 (.ref C))(g:Binds X.K b ps ds)(i:Vals j ds)(l:Passes CX X E)
  (m:(x==("__debug__":Str))=cb:=by decide):PE X (.Call (.Name x p) [] [] pos) (Fy C sp j E Fw):=by
 intro a s σ H Q I h;show DD (dU I d e ?_ m);show PySem.W.callWith_K0 I.JU M.kp (wJ (us:=[]) M F c g i l I .nil h)
end
section
end
structure dq(N P:List Str)(sc:M0):Prop where
 kind:sc.kind=.function
 co:sc.isCoroutine=cb
 gen:sc.isGenerator=cb
 nd:N.Nodup
 pre:N.take P.length=P
 par:∀x∈P,sc.names.lookup x=a5 .local\/sc.names.lookup x=a5 .cell
 Nz:∀y∈sc.names,y.2≠.free
theorem mE{kindOf:Str->Option Mu}:∀{a:List (Str×dV)}{m:Str->Option dV},(∀v,(x,v)∉a)->ZY kindOf a m x=m x
 |[],_,_=>rfl
 |(n,v)::r,m,h=>by
  unfold ZY;rw[mE λw b=>h w (ki _ b)];split
  .have:x≠n:=by rintro rfl;show h v mh
   simp[this]
  .rfl
theorem mF{kindOf:Str->Option Mu}:∀{a:List (Str×dV)}{m:Str->Option dV},(∀v,(x,v)∉a)->ZZ kindOf a m x=m x
 |[],_,_=>rfl
 |(n,v)::r,m,h=>by
  unfold ZZ;rw[mF λw b=>h w (ki _ b)];split
  .rfl
  .have:x≠n:=by rintro rfl;show h v mh
   simp[this]
theorem mG{kindOf:Str->Option Mu}:∀{P:List Str}{vs:List dV}{i:Nat}{m:Str->Option dV},P.Nodup->P[i]?=a5 x->vs[i]?=a5 v->kindOf x=a5 .local ->
  ZY kindOf (P.zip vs) m x=a5 v
 |[],_,_,_,_,h,_,_=>by simp at h
 |_::_,[],_,_,_,_,h,_=>by simp at h
 |p::P,w::vs,0,m,c,a,b,hk=>by
  simp at a b;subst a;subst b;change ZY kindOf ((p,w)::P.zip vs) m p=_;unfold ZY;rw[mE λv d=>(pa.mp c).1 (RT d).1,Ĺ hk];simp
 |p::P,w::vs,i+1,m,c,a,b,hk=>by
  change ZY kindOf ((p,w)::P.zip vs) m x=_;unfold ZY;show mG (i:=i) (pa.mp c).2 (by simpa using a) (by simpa using b) hk
theorem mH{kindOf:Str->Option Mu}:∀{P:List Str}{vs:List dV}{i:Nat}{m:Str->Option dV},P.Nodup->P[i]?=a5 x->vs[i]?=a5 v->kindOf x≠a5 .local ->
  ZZ kindOf (P.zip vs) m x=a5 v
 |[],_,_,_,_,h,_,_=>by simp at h
 |_::_,[],_,_,_,_,h,_=>by simp at h
 |p::P,w::vs,0,m,c,a,b,hk=>by
  simp at a b;subst a;subst b;change ZZ kindOf ((p,w)::P.zip vs) m p=_;unfold ZZ;rw[mF λv d=>(pa.mp c).1 (RT d).1,ĺ hk];simp
 |p::P,w::vs,i+1,m,c,a,b,hk=>by
  change ZZ kindOf ((p,w)::P.zip vs) m x=_;unfold ZZ;show mH (i:=i) (pa.mp c).2 (by simpa using a) (by simpa using b) hk
abbrev start(N:List Str)(vs:List V):St:=vs.map a5++mu (N.length - vs.length) b6
abbrev pA(CX:Ny)(P:y0)(w:Jn)(K:PySem.W.Frag)(mg:Str->Option dV)(base:K1)(N:List Str)(a:Str)(scope:M0)(f:hH)(b:dV)(A:MW)(outer:List Env)(s:hW)(H:Hp)(E:XK):Cx where
 prog:=P
 w:=w
 K:=K
 mg:=mg
 base:=base
 A:=A.deeper (TY a scope s.heap.objs.size f b)
 N:=N
 s₀:=s
 H₀:=H
 env:=TY a scope s.heap.objs.size f b
 outer:=outer
 stack:=TY a scope s.heap.objs.size f b::outer
 ex:=[]
 calm:=bD
 fn:=λ_=>bD
 pn:=[]
 xe:=λe s'=>g9 (i5 P w) (A.deeper (TY a scope s.heap.objs.size f b)) (leaving (TY a scope s.heap.objs.size f b) e) (λ_ c=>CX outer H s E e c) (λd c=>CX outer H s E d c) s'
def pB{a:M0}(h:a.names.lookup x=a5 .cell):∃c,(NM n a.names []).lookup x=a5 c:=by
 have q:=PySem.W.cellsFrom_some a.names n [] (.inl h);show PD.mp q
def uZ{K:PySem.W.Frag}
  (S:dq N ps scope) (D:A.handled=b6) (j:qW P w K mg base A outer s H) (hl:vs.length=ps.length) (r:Vals vs us)
  (x:InCallC s s.heap.objs.size (ZY (TY g scope s.heap.objs.size f o).kindOf (ps.zip us) λ_=>b6) (NM (s.heap.objs.size+1) scope.names []) (ZZ (TY g scope s.heap.objs.size f o).kindOf (ps.zip us) λ_=>b6) s1) :
  Inv (pA CX P w K mg base N g scope f o A outer s H E) [] (start N vs) H s1:=by
 have I:ps.length<=N.length:=by have:=ľ KN S.pre;rw[tj]at this;lia
 have⟨m,J,rfl,hk⟩:=x.done;have t:∀b:hH,b∉(pA CX P w K mg base N g scope f o A outer s H E).ex:=λb z=>absurd (show b∈([]:List hH) from z) (by simp);show⟨⟨j.mod,S.kind,rfl,rfl,hY _,λy z c m d=>?_,λy hy=>?_,λy c _ h=>?_,λ_=>D,Around.frames_deeper j.frames,.inr ⟨rfl,rfl⟩,λb z=>absurd z (t b),j.bs,j.L9,λb _ _=>t b,λb z=>absurd z (t b),j.jg,j.MU⟩,
  rfl,j.bare,Un.kept hk,⟨_,x.toInCall.ns,λi y v m d L=>?_⟩,λy c h=>⟨_,x.cell y c h⟩,j.HR.fresh (hY _),λy c h=>?_,λp l=>absurd (show p∈([]:List (hH×Obj)) from l) (by simp),j.HR.kept hk,?_⟩
 .show name_of_addr x.apart (PySem.mem_of_lookup m) (PySem.mem_of_lookup d)
 .have hy:scope.names.lookup y=a5 .cell\/scope.names.lookup y=a5 .free:=hy;rcases hy with hy|hy
  .show pB hy
  .show absurd rfl (S.Nz _ (PySem.mem_of_lookup hy))
 .show Ol (x.above y c (PySem.mem_of_lookup h))
 .have hi:i<vs.length:=by
   unfold start at d;by_cases hi:i<vs.length
   .show hi
   .rw[nH (by simpa using hi)]at d;rw[LC]at d;split at d<;>cases d
  have G:vs[i]?=a5 v:=by
   unfold start at d;rw[ro (by simpa using hi),k9]at d;cases e:vs[i]? with
   |none=>rw[e]at d;cases d
   |some a=>rw[e]at d;cases d;rfl
  have⟨u,B,rv⟩:=r.get G;have l:ps[i]?=a5 y:=by
   rw[<-S.pre,PH ⋯];show m
  have C:ps.Nodup:=by rw[<-S.pre];show S.nd.sublist (É _ _)
  show⟨u,rv,?_⟩;rcases S.par y (tr l) with k|k
  .show .inl ⟨k,mG C l B k⟩
  .have⟨c,e⟩:=pB (n:=s.heap.objs.size+1) k;show .inr ⟨.inl k,c,e,?_⟩;have q:=x.cell y c e;rw[mH C l B (by change scope.names.lookup y≠_;rw[k];decide)]at q;show q
 .show j.HR.fresh (Ol (x.above y c (PySem.mem_of_lookup h)))
 .unfold start;change _=N.length;rw[j0,df,Ro];lia
def wL{K:PySem.W.Frag}{z kV g B d ct G:dV}
 (lk:K.lookup f=a5 ⟨G,od,.func (PySem.W.fnOf name a c body scope z kV g B L d ct),NA⟩) (O:PySem.W.codeIn K d a=bD) (S:dq N ps scope)
    (h:∀vs H Q E,sp vs H Q E->vs.length=ps.length)
    (T:∀(A:MW) (outer:List Env) (s:hW) (H:Hp) (vs:List V) (Q:VK) (E:XK),cN k (A.deeper (TY a scope s.heap.objs.size f d))->sp vs H Q E ->
      ∃t,Jr (pA CX P w K mg base N a scope f d A outer s H E) body t/\t {nx:=λ_ H'=>Q .HX H',rt:=Q} (start N vs) H) :
    dR P w K mg base CX (k+1) f (PySem.W.fnOf name a c body scope z kV g B L d ct) ps sp:=by
  show⟨h,λA outer s H args us vs Q E m i Y r C=>?_⟩;have hl:=h _ _ _ _ C;have D:K.In s.heap:=i.mod.MT.keeps λb o e=>(i.bs b o e).1;have p:s.heap.NoLimit:=i.mod.nolimit.keeps λb o e=>(i.bs b o e).1;have O8:∀y∈ps.zip us,scope.names.lookup y.1=a5 .local\/(scope.names.lookup y.1=a5 .cell/\((NM (s.heap.objs.size+1) scope.names []).lookup y.1).isSome=bD):=λ⟨n,v⟩ hy=>by
    rcases S.par n (RT hy).1 with q|q
    . show .inl q
    . show .inr ⟨q,PySem.W.cellsFrom_some _ _ _ (.inl q)⟩
  show codeAny_call_function m.depth (D _ _ lk) rfl S.co S.gen rfl (PySem.W.codeRec_of D O) (Y _ _ _ _ ?_);show wpAny_newFunctionEnv_cells S.kind O8 λenv he s1 x=>?_;subst he;show⟨p.keeps x.toInCall.keep,codeAny_func ?_⟩;have⟨t,ht,hq⟩:=T A outer s H vs Q E (m.deeper _) C;have I:Inv (pA CX P w K mg base N a scope f d A outer s H E) [] (start N vs) H s1:=uZ S m.hd i hl r x;show uv (ht [] s1 (start N vs) H _ I hq) (λfl s' hs=>?_) λe s' hs=>hs;have j:∀{l:St} {H':Hp} {v:V} {u:dV},Inv (pA CX P w K mg base N a scope f d A outer s H E) [] l H' s'->RelV v u->Q v H'->CE outer P w H s Q u s' :=
    λ{l H' v u} J rv q=>⟨v,H',J.os,J.bare,J.base,J.HR,rv,q⟩
  cases fl with
  | ret u =>
    have⟨v,l,H',J,rv,q⟩:=hs;show j J rv q
  | next =>
    have⟨l,H',J,q⟩:=hs;show j (v:=V.HX) (u:=qs) J rfl q
  | brk =>
    obtain⟨_,_,_,q⟩:=hs;show Lb q
  | cont =>
    obtain⟨_,_,_,q⟩:=hs;show Lb q
section
variable{X:Cx}{x:Str}{p pos:Pos}{e:pb}{es:List pb}{t:TA}{id T:String}{r:List V->Hp->VK->Prop}
abbrev Wa(r:List V->Hp->VK->Prop)(t:TA):TE:=λσ H Q=>t σ H λvs a=>r vs a Q
def wM(b:fw X (.builtin id) r)(c:Gl X x)(d:X.mg x=b6)(f:Ly x=a5 (.builtin id))(g:PA X (e::es) t)(i:x≠"__name__":=by decide)(j:(x==("__debug__":Str))=cb:=by decide)
  (k:js (e::es) X.env=(cb,vr e X.env)::js es X.env:=by rfl) (l:(Hf pos (js es X.env)).any (·.1)=cb:=by rfl):PE X (.Call (.Name x p) (e::es) [] pos) (Wa r t):=by
 intro a s σ H Q I h;show DD (d0 I c d f ?_ i j);show P8 (HS (g pos a s σ H _ I h) λus s1 ⟨vs,m,n,r1,o⟩=>b a s1 σ m vs us Q n r1 o) k l
end
end L2
namespace HT
open PySem PyProof.Rows
section
open PySem.SeqAt
open PySem.AutoSeq1 (wpAny_loadPart')
open PySem.MeetsSeq PySem.MeetsSeq2 PySem.MeetsSeq3
end
section
def zZ(o:Z1 s.heap t vs.toArray)(p:Z1 s.heap b ws.toArray)(f:vs≠[])
  (q:ws=[]->Q (.ref t) s) (r:ws≠[]->Q (.ref s.heap.objs.size) {s with heap:=s.heap.push {cls:=.type "tuple",data:=.seq (vs++ws).toArray}})
  (hsz:vs.length+ws.length<=cL):g9 (i5 prog w) A (Qr .Add (.ref t) (.ref b)) Q E s:=by
 obtain⟨⟨cls,dd,data,g⟩,ho,h,n,i⟩:=id o;obtain⟨⟨u,j,data2,k⟩,c,l,m,a⟩:=id p;simp only at h i l a;subst h i l a;have e:vs.toArray++ws.toArray=(vs++ws).toArray:=by simp
 by_cases d:ws=[]
 .show WV ⟨_,ho,rfl⟩ ⟨_,c,rfl⟩ Yp ZI PySem.F.slot_tuple_add PySem.F.entry_tuple_add (PySem.F.args_tuple_add_2 _ _)
   (tuple_addW1 t b vs.toArray ws.toArray n m dd j g k (by simpa using f) (by simp[d])) ⟨ho,c,q d⟩
 .show WV ⟨_,ho,rfl⟩ ⟨_,c,rfl⟩ Yp ZI PySem.F.slot_tuple_add PySem.F.entry_tuple_add (PySem.F.args_tuple_add_2 _ _)
   (tuple_addW2 t b vs.toArray ws.toArray n m dd j g k (by simpa using f) (by simpa using d) (by rw[hQ,hQ];show hsz)) ⟨ho,c,?_⟩
  rw[e];show r d
abbrev Ia(n d:Nat):Option Int->Nat
 |none=>d
 |some v=>if v<0 then(v+(n:Int)).toNat else min v.toNat n
def sR(n d k:Nat):Ia n d (a5 (k:Int))=min k n:=by
 change(if (k:Int)<0 then((k:Int)+(n:Int)).toNat else min (k:Int).toNat n)=min k n;rw[ĺ ⋯,LJ]
def Df(n d:Nat)(b:d<=n)(o:Option Int):Ia n d o<=n:=by
 cases o with
 |none=>show b
 |some v =>
  change(if v<0 then(v+(n:Int)).toNat else min v.toNat n)<=n;by_cases a:v<0
  .rw[Ĺ a];lia
  .rw[ĺ a];show Nat.min_le_right _ _
def sT(v:Int)(n d:Nat):(if v<0 then max (v+(n:Int)) 0 else min v (n:Int))=((Ia n d (a5 v):Nat):Int):=by
 change(if v<0 then max (v+(n:Int)) 0 else min v (n:Int))=(((if v<0 then(v+(n:Int)).toNat else min v.toNat n):Nat):Int)
 by_cases a:v<0
 .simp only[Ĺ a];lia
 .simp only[ĺ a];lia
def qX(lo hi:Option Int)(n:Nat):RE lo hi 1 (n:Int)=(((Ia n 0 lo:Nat):Int),((Ia n n hi:Nat):Int)):=by
 have a:¬((1:Int)<0):=by lia
 unfold RE;simp only[a,if_false];show XC ?_ ?_
 .cases lo with
  |none=>rfl
  |some v=>show sT v n 0
 .cases hi with
  |none=>rfl
  |some v=>show sT v n n
def qY(i j:Nat):IB (i:Int) (j:Int) 1=j - i:=by
 unfold IB;have a:(1:Int)>0:=by lia
 simp only[a,if_true,Ě];split<;>lia
def kF(p:U1 v o)(h:Q o s):g9 (i5 prog w) A (ē v) Q E s:=by
 cases p with
 |none=>show U5 h
 |int i t=>show slicePart_int h
def et{lo hi:Option Int}{n:Nat}(hs:s.heap.IsSliceOf e c d .none)(pl:U1 c lo)(f:U1 d hi)
  (h:Q (((Ia n 0 lo:Nat):Int),1,Ia n n hi - Ia n 0 lo) s):g9 (i5 prog w) A (Rn (.ref e) (pure (n:Int))) Q E s:=by
 have⟨os,a,g,b⟩:=id hs;unfold Rn UE;show b7 (b7 (NP a b (x:=c) rfl (b7 (NP a b (x:=d) rfl (b7 (NP a b (x:=.none) rfl (dt ?_)))))));show b7 (U5 ?_);change g9 _ _ (if ((1:Int)==0)=bD then _ else _) _ _ s;rw[ĺ (by decide)];show b7 (kF pl (b7 (kF f (b7 (dt ?_)))));change g9 _ _ (match RE lo hi 1 (n:Int) with|(lo,hi)=>pure (lo,(1:Int),IB lo hi 1)) _ _ s;rw[qX lo hi n];change g9 _ _ (pure (((Ia n 0 lo:Nat):Int),(1:Int),IB ((Ia n 0 lo:Nat):Int) ((Ia n n hi:Nat):Int) 1)) _ _ s;rw[qY];show dt h
def wN(xs:Array dV)(i k:Nat):((i4 k).filterMap λ(m:Nat)=>xs[((i:Int)+(m:Int) * 1).toNat]?).toArray=((xs.toList.drop i).take k).toArray:=by
 have e:(λ(m:Nat)=>xs[((i:Int)+(m:Int) * 1).toNat]?)=λm=>xs[i+m]?:=by
  funext m
  have:((i:Int)+(m:Int) * 1).toNat=i+m:=by lia
  rw[this]
 rw[e];have:=pick_run xs i k;rw[List.filterMap_map]at this;have e2:((λx=>xs[x]?) ∘ λx=>i+x)=λm=>xs[i+m]?:=rfl;rw[e2]at this;rw[this]
def iz{lo hi:Option Int}(b:Z1 s.heap t a)(hs:s.heap.IsSliceOf d e f .none)(pl:U1 e lo)(g:U1 f hi)
  (i:¬(Ia a.size 0 lo=0/\Ia a.size a.size hi=a.size))
  (h:Q (.ref s.heap.objs.size) {s with heap:=s.heap.push {cls:=.type "tuple",data:=.seq ((a.toList.drop (Ia a.size 0 lo)).take (Ia a.size a.size hi - Ia a.size 0 lo)).toArray}})
  (hsz:a.size<=cL):g9 (i5 prog w) A (Rz (.ref t) (.ref d)) Q E s:=by
 have c:sizeOk (.seq ((a.toList.drop (Ia a.size 0 lo)).take (Ia a.size a.size hi - Ia a.size 0 lo)).toArray):=by
  change((a.toList.drop (Ia a.size 0 lo)).take (Ia a.size a.size hi - Ia a.size 0 lo)).toArray.size<=cL;rw[hQ,tj,Rw,rl];lia
 have o:Ia a.size a.size hi<=a.size:=Df _ _ (hY _) hi;have⟨os,j,k,p⟩:=id hs;have l:s.TypeIs (.ref d) "slice":=⟨os,j,k⟩
 unfold Rz
 try with_reducible show Jq ?_
 first|show b7 (dt ?_)|skip
 show b7 (Wg b.typeIs (by decide) ?_);show b7 (Kv (name:=Pl "__getitem__") b.typeIs ri
  (JF ri b.typeIs VP ?_ (V9 _ _)))
 change g9 _ _ (Rk (.ref t) >>= _) _ _ s;show b7 (ZP b ?_);show b7 (Ry l ?_);rw[Ĺ (by decide)];show b7 (et hs pl g ?_);have n:¬((((Ia a.size 0 lo:Nat):Int)==0&&(1:Int)==1&&(Ia a.size a.size hi - Ia a.size 0 lo)==a.size)=bD):=by
  intro q;rw[b8,b8]at q;have r:((Ia a.size 0 lo:Nat):Int)=0:=ę q.1.1;have u:Ia a.size a.size hi - Ia a.size 0 lo=a.size:=ę q.2;show i ⟨⋯,⋯⟩
 change g9 _ _ (if (((Ia a.size 0 lo:Nat):Int)==0&&(1:Int)==1&&(Ia a.size a.size hi - Ia a.size 0 lo)==a.size)=bD then _ else _) _ _ s;rw[ĺ n,wN]
 first
  |show b7 (m:=z8 _) (sx (dt ⟨_,rfl,dt h⟩) c)
  |show b7 (m:=z8 _) (sx (b7 (dt (dt ⟨_,rfl,dt h⟩))) c)
  |show b7 (b7 (m:=z8 _) (sx (dt (dt ⟨_,rfl,dt h⟩)) c))
  |show b7 (b7 (m:=z8 _) (sx (dt ⟨_,rfl,dt h⟩) c))
end
end HT
namespace L2
open PySem PySem.Spec PyProof.Rows
@[reducible]def TO:=St->Hp->(Option Int->Hp->Prop)->Prop
abbrev PO(X:Cx)(e:Option pb)(t:TO):Prop :=
 ∀(a:List (hH×Obj)) (s:hW) (σ:St) (H:Hp) (Q:Option Int->Hp->Prop),Inv X a σ H s->t σ H Q ->
  g9 (i5 X.prog X.w) X.A (evalPart e X.env) (λu s'=>∃o H',Inv X a σ H' s'/\U1 u o/\Q o H') X.xe s
abbrev z9:TO:=λ_ H Q=>Q b6 H
abbrev Fz(t:TE):TO:=λσ H Q=>t σ H λx a=>∃i,x=.int i/\Q (a5 i) a
section
variable{X:Cx}{e:pb}{te:TE}{lo hi:Option pb}{tl th:TO}{pos p2:Pos}
def z_:PO X b6 z9:=by
 intro a s σ H Q I h;rw[ZJ];show dt ⟨b6,H,I,.none,h⟩
def Aa(h:PE X e te):PO X (a5 e) (Fz te):=by
 intro a s σ H Q I b;rw[evalPart_some];show HS (h a s σ H _ I b) λu s1 c=>?_;have⟨x,d,f,r1,g⟩:=c;have⟨i,rfl,q⟩:=g;have⟨t,rfl⟩:=r1;show⟨a5 i,d,f,.int i t,q⟩
abbrev Mc(X:Cx)(r:V->Option Int->Option Int->Hp->VK->Prop):Prop :=
 ∀(a:List (hH×Obj)) (s:hW) (σ:St) (H:Hp) (x:V) (v b c:dV) (lo hi:Option Int) (d:hH) (Q:VK),Inv X a σ H s->RelV x v->s.heap.IsSliceOf d b c .none->U1 b lo->U1 c hi->r x lo hi H Q ->
  ∃T id,ò (.type T) "__getitem__"=pure (a5 (.builtin id))/\s.TypeIs v T/\g9 (i5 X.prog X.w) X.A (Rz v (.ref d)) (EP X a σ Q) X.xe s
def Mc.or(h:Mc X r)(h':Mc X i):Mc X (λx lo hi H Q=>r x lo hi H Q\/i x lo hi H Q):=by
 intro a s σ H x v b c lo hi d Q I f hs pl g q;rcases q with q|q
 .show h a s σ H x v b c lo hi d Q I f hs pl g q
 .show h' a s σ H x v b c lo hi d Q I f hs pl g q
abbrev Wb(r:V->Option Int->Option Int->Hp->VK->Prop)(te:TE)(tl th:TO):TE:=λσ H Q=>te σ H λx a=>tl σ a λl b=>th σ b λu c=>r x l u c Q
def wO(g:Mc X r)(i:PE X e te)(hl:PO X lo tl)(j:PO X hi th):PE X (.Subscript e (.Slice lo hi b6 p2) pos) (Wb r te tl th):=by
 intro a s σ H Q I h;show Zt (HS (i a s σ H _ I h) λv s1 k=>?_);have⟨x,m,n,r1,o⟩:=k;show wpAny_Slice (HS (hl a s1 σ m _ n o) λc s2 ⟨l,p,t,pl,y⟩=>HS (j a s2 σ p _ t y) λd s3 z=>?_);have⟨u,f,B,C,D⟩:=z;rw[ZJ];show dt ?_;have G:Inv X a σ f {s3 with heap:=s3.heap.push {cls:=.type "slice",data:=.fields #[c,d,.none]}}:=B.kept (t':=s3.toks) λb O q=>c4 _ q;have⟨T,id,J,L,N⟩:=g a {s3 with heap:=s3.heap.push {cls:=.type "slice",data:=.fields #[c,d,.none]}} σ f x v c d l u s3.heap.objs.size Q G r1 (V_ ..) pl C D;change g9 (i5 X.prog X.w) X.A (V4 e (.Slice lo hi b6 p2) v (.ref s3.heap.objs.size)) (EP X a σ Q) X.xe {s3 with heap:=s3.heap.push {cls:=.type "slice",data:=.fields #[c,d,.none]}};show ĳ (ops:=[.ref s3.heap.objs.size,v]) L J N (by with_unfolding_all rfl)
abbrev pC(xs:List V)(lo hi:Option Int):List V:=(xs.drop (HT.Ia xs.length 0 lo)).take (HT.Ia xs.length xs.length hi - HT.Ia xs.length 0 lo)
def jC(xs:List V)(lo hi:Option Int):(pC xs lo hi).length<=xs.length:=by
 unfold pC;rw[tj,Rw];lia
abbrev FA(K:PySem.W.Frag):V->Option Int->Option Int->Hp->VK->Prop:=λx lo hi H Q=>∃a xs,x=.ref a/\II K H a xs /\
 ¬(HT.Ia xs.length 0 lo=0/\HT.Ia xs.length xs.length hi=xs.length)/\∀p,H p=b6->Q (.ref p) (upd H p (.tup (pC xs lo hi)))
def Dg:Mc X (FA X.K):=by
 intro d s σ H x v m n lo hi p Q I g hs pl i h;have⟨a,xs,rfl,j,k,q⟩:=h;cases g;have⟨l,r,f,hz⟩:=I.tuple j;have c:l.toArray.size=xs.length:=by rw[hQ];show r.length.symm
 show⟨"tuple",_,ri.lookup,f.typeIs,?_⟩;show HT.iz f hs pl i (by rw[c];show k) ?_ (by rw[c];show hz);rw[c];show⟨.ref s.heap.objs.size,_,I.laid (t':=s.toks) (o:=.tup (pC xs lo hi)) (λb t q=>c4 _ q) (hY _) ?_,rfl,q _ (I.HR.fresh (hY _))⟩;show⟨B' (jC xs lo hi) hz,_,(r.drop (HT.Ia xs.length 0 lo)).take (HT.Ia xs.length xs.length hi - HT.Ia xs.length 0 lo),YI _ _⟩
abbrev FC(K:PySem.W.Frag):R2:=λx y H Q=>∃a b xs ys,x=.ref a/\y=.ref b/\II K H a xs/\II K H b ys/\xs≠[]/\xs.length+ys.length<=cL /\
 (ys=[]->Q (.ref a) H)/\(ys≠[]->∀p,H p=b6->Q (.ref p) (upd H p (.tup (xs++ys))))
def Vals.nM(r:Vals xs us):us=[]↔xs=[]:=by
 cases r with
 |_=>simp
def Ab:JV X (Qr .Add) (FC X.K):=by
 intro c s σ H x y v u Q I d f h;have⟨a,b,xs,ys,rfl,rfl,g,i,j,hz,k,l⟩:=h;cases d;cases f;obtain⟨n,r1,m,_⟩:=I.tuple g;obtain⟨p,r2,p2,_⟩:=I.tuple i;show HT.zZ m p2 (λz=>j (r1.nM.mp z)) (λz=>⟨.ref a,H,I,rfl,k (r2.nM.mp z)⟩) (λz=>?_) (by rw[<-r1.length,<-r2.length];show hz);show⟨.ref s.heap.objs.size,_,I.laid (t':=s.toks) (o:=.tup (xs++ys)) (λb r q=>c4 _ q) (hY _) ?_,rfl,l (λw=>z (r2.nM.mpr w)) _ (I.HR.fresh (hY _))⟩;show⟨by rw[j0];show hz,_,r1.append r2,YI _ _⟩
end
abbrev Lo(n:Nat)(i:Int):Option Nat:=if 0<=i then(if i<n then a5 i.toNat else b6) else if -(n:Int)<=i then a5 (i+n).toNat else b6
abbrev Iq{α:Type}(xs:List α)(i:Int):Option α:=(Lo xs.length i).bind λj=>xs[j]?
def sU{n:Nat}(h:Lo n i=a5 j):X' i n=a5 j/\j<n/\-(n:Int)<=i/\i<n:=by
 unfold Lo at h;by_cases b:0<=i
 .rw[Ĺ b]at h;by_cases a:i<n
  .rw[Ĺ a]at h;have e:i.toNat=j:=vu h;show⟨by rw[Û b a,e],⋯,⋯,a⟩
  .rw[ĺ a]at h;cases h
 .rw[ĺ b]at h;by_cases a:-(n:Int)<=i
  .rw[Ĺ a]at h;have e:(i+n).toNat=j:=vu h;show⟨by rw[seqIndex_neg ⋯ a,e],⋯,a,⋯⟩
  .rw[ĺ a]at h;cases h
def nN(h:Iq xs i=a5 v):∃j,X' i xs.length=a5 j/\xs[j]?=a5 v/\j<xs.length/\-(xs.length:Int)<=i/\i<xs.length:=by
 unfold Iq at h;cases e:Lo xs.length i with
 |none=>rw[e]at h;cases h
 |some j =>
  rw[e]at h;have⟨a,b,c,d⟩:=sU e;show⟨j,a,h,b,c,d⟩
def cQ{j:Nat}(h:xs[j]?=a5 v):Iq xs (j:Int)=a5 v:=by
 have a:j<xs.length:=(d4.mp h).1;have e:Lo xs.length (j:Int)=a5 j:=by
  unfold Lo;rw[Ĺ ⋯,Ĺ ⋯];simp
 unfold Iq;rw[e];show h
abbrev nO(b:pb):Prop:=∀o i,Yy b cb o i=operate [o,i] (Rz o i)
abbrev RY(X:Cx)(r:R2):Prop :=
 ∀(c a:pb) (b:List (hH×Obj)) (s:hW) (σ:St) (H:Hp) (x y:V) (v u:dV) (Q:VK),Inv X b σ H s->RelV x v->RelV y u->r x y H Q ->
  Yy a cb v u=operate [v,u] (Rz v u)->g9 (i5 X.prog X.w) X.A (V4 c a v u) (EP X b σ Q) X.xe s
abbrev Ot(X:Cx)(id:String)(r:V->List V->Hp->VK->Prop):Prop :=
 ∀(a:List (hH×Obj)) (s:hW) (σ:St) (H:Hp) (x:V) (xs:List V) (v:dV) (us:List dV) (Q:VK),Inv X a σ H s->RelV x v->Vals xs us->r x xs H Q ->
  g9 (i5 X.prog X.w) X.A (Qg (.builtin id) (v::us)) (EP X a σ Q) X.xe s
section
abbrev Hj(K:PySem.W.Frag):R2:=λx y H Q=>∃p xs i v,x=.ref p/\y=.int i/\IF K H p xs/\Iq xs i=a5 v/\Q v H
abbrev Hk(K:PySem.W.Frag):R2:=λx y H Q=>∃p xs i v,x=.ref p/\y=.int i/\II K H p xs/\Iq xs i=a5 v/\Q v H
abbrev Hl:R2:=λx y H Q=>∃z i c,x=.str z/\y=.int i/\z.length<=cL/\Iq z.cps.toList i=a5 c/\Q (.str ⟨#[c]⟩) H
def Ac:RY X (Hj X.K):=by
 intro d f a s σ H x y v u Q I m n h hs;have⟨p,xs,i,z,rfl,rfl,A,B,q⟩:=h;cases m;have⟨t,rfl⟩:=n;have⟨C,r,pl,hz⟩:=I.list A;have⟨j,c,D,N,G,J⟩:=nN B;have⟨w,k,L⟩:=r.get D;have hl:=r.length;have O:=fI;have b:EP X a σ Q w s:=⟨z,H,I,L,q⟩
 by_cases l:0<=i
 .have g:i.toNat=j:=by
   rw[Û l J]at c;show vu c
  show item_listR pl.isList l ⋯ (by rw[g];simpa using k) b hs
 .have g:(i+(C.toArray.size:Int)).toNat=j:=by
   rw[seqIndex_neg ⋯ G]at c;rw[hQ,<-hl];show vu c
  show Æ (x:=w) pl.isList.typeIs Ă.lookup
   (wpAny_getItem_list_neg (Q:=λr s'=>r=w/\EP X a σ Q r s') pl.isList ⋯ (by rw[hQ]<;>lia) ⋯ (by rw[g];simpa using k) ⟨rfl,b⟩) hs
def kG:RY X (Hk X.K):=by
 intro b c a s σ H x y v u Q I f g h hs;have⟨p,xs,i,z,rfl,rfl,k,l,q⟩:=h;cases f;have⟨t,rfl⟩:=g;have⟨C,r,pl,hz⟩:=I.tuple k;have⟨j,m,n,D,G,J⟩:=nN l;have⟨w,A,B⟩:=r.get n;have hl:=r.length;have L:=fI;have d:EP X a σ Q w s:=⟨z,H,I,B,q⟩
 show Æ (x:=w) pl.typeIs ri.lookup
  (getItem_tuple (j:=j) (Q:=λr s'=>r=w/\EP X a σ Q r s') pl ⋯ ⋯ (by rw[hQ,<-hl];show m) (by simpa using A) ⟨rfl,d⟩) hs
def kH:RY X Hl:=by
 intro a b d s σ H x y v u Q I g k h hs;have⟨z,i,c,rfl,rfl,hz,l,q⟩:=h;have⟨t,rfl⟩:=g;have⟨t',rfl⟩:=k;have⟨j,f,m,A,n,p⟩:=nN l;have hl:z.cps.toList.length=z.length:=by simp[S7]
 rw[hl]at f n p;have B:=fI;show ĳ (Sv s z t) ĕ.lookup (getItem_str (c:=c) (by
  have w:cK (i < -(2 ^ 63:Int))=cb:=Ļ ⋯;have e2:cK (i >= 2 ^ 63)=cb:=Ļ ⋯;rw[w,e2,ü]) (by rw[f];simpa using m) ⟨.str ⟨#[c]⟩,H,I.tok _,⟨_,rfl⟩,q⟩) hs
def qZ(a:List dV)(n j:Nat)(u:dV):vl (·.setIfInBounds j u) {cls:=.type "list",data:=.seq a.toArray n}={cls:=.type "list",data:=.seq (a.set j u).toArray n}:=by
 simp[vl]
def Inv.lst(I:Inv X b σ H s)(h:H p=a5 (.lst xs)):
  ∃(a:List dV) (n:Nat),Vals xs a/\s.heap.get? p=a5 {cls:=.type "list",data:=.seq a.toArray n}/\xs.length<=cL:=by
 have⟨z,a,n,r,e⟩:=I.HR p _ h;show⟨a,n,r,e,z⟩
def Inv.Dh{c its':List dV}(I:Inv X a σ H s)(h:H p=a5 (.lst xs))
  (ho:s.heap.get? p=a5 {cls:=.type "list",data:=.seq c.toArray n}) (d:f {cls:=.type "list",data:=.seq c.toArray n}={cls:=.type "list",data:=.seq its'.toArray g }) (r:Vals ys its') (hz:ys.length<=cL) (t:Nat) :
  Inv X a σ (upd H p (.lst ys)) {s with heap:=s.heap.update p f,toks:=t}:=by
 have e:(s.heap.update p f).get? p=a5 {cls:=.type "list",data:=.seq its'.toArray g }:=by
  rw[JM f ho (by rw[d]<;>rfl),d]
 show I.write (x:=p) (e:=p) (by rw[h];trivial) (.inl rfl) (λb u i q=>(Qx _ _ (tv i)).trans q) ⟨_,e⟩ ?_;show⟨hz,its',g,r,e⟩
abbrev FD:V->V->V->Hp->(Hp->Prop)->Prop:=λo i v H Q=>∃p xs k j,o=.ref p/\i=.int k/\H p=a5 (.lst xs)/\Lo xs.length k=a5 j/\Q (upd H p (.lst (xs.set j v)))
def set_list:nF X FD:=by
 intro a s σ H o i v z A u Q I w x rv h;have⟨p,xs,k,j,rfl,rfl,c,y,q⟩:=h;cases w;have⟨t,rfl⟩:=x;have⟨d,n,r,ho,hz⟩:=I.lst c;have⟨b,B,f,g⟩:=sU y;have hl:=r.length;have C:=fI;have l:Inv X a σ (upd H p (.lst (xs.set j v))) {s with heap:=s.heap.update p (vl (·.setIfInBounds j u))} :=
  I.Dh c ho (qZ d n j u) (r.set rv j) (by rw[å];show hz) s.toks
 by_cases m:0<=k
 .have hk:k.toNat=j:=by
   rw[Û m g]at b;show vu b
  show PySem.W.ki_setAt ho m ⋯ (by rw[hQ,<-hl];show g) (by rw[hk];show⟨_,l,q⟩)
 .have hk:(k+(d.toArray.size:Int)).toNat=j:=by
   rw[seqIndex_neg ⋯ f]at b;rw[hQ,<-hl];show vu b
  show PySem.W.ki_setBack ho ⋯ (by rw[hQ,<-hl];show f) ⋯ (by rw[hk];show⟨_,l,q⟩)
def nP(lo hi:Option Int)(n:Nat):(R4 lo hi b6 n).1=((HT.Ia n 0 lo:Nat):Int)/\(R4 lo hi b6 n).2.1=((HT.Ia n n hi:Nat):Int)/\(R4 lo hi b6 n).2.2=1:=by
 show⟨?_,?_,rfl⟩
 .cases lo with
  |none=>simp[R4,HT.Ia]
  |some i =>
   simp only[R4,HT.Ia,Z3,show(1:Int)>0 by decide,if_true];by_cases h:i<0
   .simp only[h,if_true]<;>lia
   .simp only[h,if_false]<;>lia
 .cases hi with
  |none=>simp[R4,HT.Ia]
  |some i =>
   simp only[R4,HT.Ia,Z3,show(1:Int)>0 by decide,if_true];by_cases h:i<0
   .simp only[h,if_true]<;>lia
   .simp only[h,if_false]<;>lia
def l8(a:List dV)(lo hi:Option Int):slicePick a.toArray lo hi b6=((a.drop (HT.Ia a.length 0 lo)).take (HT.Ia a.length a.length hi - HT.Ia a.length 0 lo)).toArray:=by
 have⟨b,c,d⟩:=nP lo hi a.toArray.size;unfold slicePick;rw[b,c,d];simp only[sliceRange_one,pick_run,hQ]<;>rfl
abbrev FE(K:PySem.W.Frag):V->Option Int->Option Int->Hp->VK->Prop:=λx lo hi H Q=>∃a xs,x=.ref a/\IF K H a xs/\∀p,H p=b6->Q (.ref p) (upd H p (.lst (pC xs lo hi)))
def Ae:Mc X (FE X.K):=by
 intro d s σ H x v k l lo hi m Q I g hs pl i h;have⟨a,xs,rfl,j,q⟩:=h;cases g;have⟨n,r,f,hz⟩:=I.list j;have c:=r.length;show⟨"list",_,Ă.lookup,f.isList.typeIs,?_⟩;show wpAny_getItem_list_slice f.isList hs pl i .none (by simp) ?_ (by rw[hQ]<;>lia);rw[l8,<-c];show⟨.ref s.heap.objs.size,_,I.laid (t':=s.toks) (o:=.lst (pC xs lo hi)) (λb p q=>c4 _ q) (hY _) ?_,rfl,q _ (I.HR.fresh (hY _))⟩;show⟨B' (jC xs lo hi) hz,_,0,(r.drop (HT.Ia xs.length 0 lo)).take (HT.Ia xs.length xs.length hi - HT.Ia xs.length 0 lo),fx _ rfl⟩
def nQ:JV X (O9 .NotIn) (λx y H Q=>∃i j,x=.str i/\y=.str j/\Q (.bl (!(!(wk j i 0 j.length 1).isEmpty))) H):=by
 intro a s σ H x y v u Q I b c h;have⟨i,j,rfl,rfl,q⟩:=h;have⟨t,rfl⟩:=b;have⟨t',rfl⟩:=c;show notIn_str ⟨.bl _,H,I,rfl,q⟩
def eV:fw X (.builtin "len") (λxs H Q=>∃p ys,xs=[.ref p]/\(IF X.K H p ys\/II X.K H p ys)/\Q (.int ys.length) H):=by
 intro c s σ H xs us Q I r h;have⟨p,ys,rfl,hq,q⟩:=h;have⟨u,rfl,d⟩:=vals1 r;cases d;have g:=fI;rcases hq with hq|hq
 .have⟨f,b,pl,hz⟩:=I.list hq;have a:=b.length;show Calls.call_len_list pl.isList (by simp only[hQ]<;>lia) ⟨.int ys.length,H,I.tok _,⟨s.toks+1,by rw[hQ,a]⟩,q⟩
 .have⟨f,b,pl,hz⟩:=I.tuple hq;have a:=b.length;show len_tuple pl (by simp only[hQ]<;>lia) ⟨.int ys.length,H,I.tok _,⟨s.toks+1,by rw[hQ,a]⟩,q⟩
def nR:fw X (.builtin "len") (λxs H Q=>∃z,xs=[.str z]/\z.length<=cL/\Q (.int z.length) H):=by
 intro a s σ H xs us Q I r h;have⟨z,rfl,hz,q⟩:=h;have⟨u,rfl,t,rfl⟩:=vals1 r;have b:=fI;show len_str ⋯ ⟨.int z.length,H,I.tok _,⟨_,rfl⟩,q⟩
def iA:fw X (.type "list") (λxs H Q=>∃p ys,xs=[.ref p]/\(IF X.K H p ys\/II X.K H p ys)/\∀l,H l=b6->Q (.ref l) (upd H l (.lst ys))):=by
 intro f s σ H xs us Q I r h;have⟨p,ys,rfl,hq,q⟩:=h;have⟨u,rfl,v⟩:=vals1 r;cases v;have g:∀(a:List dV),Vals ys a->ys.length<=cL->∀(h':K1) (c:Nat),(∀b o',s.heap.get? b=a5 o'->h'.get? b=a5 o') ->
   h'.get? s.heap.objs.size=a5 {cls:=.type "list",dict:=b6,data:=.seq a.toArray c,slots:=#[]}->EP X f σ Q (.ref s.heap.objs.size) {s with heap:=h' }:=λa d hz h' c i e =>
  ⟨.ref s.heap.objs.size,_,I.laid (t':=s.toks) i (hY _) (show bH X.prog X.w _ h' _ (.lst ys) from⟨hz,a,c,d,e⟩),rfl,q _ (I.HR.fresh (hY _))⟩
 rcases hq with hq|hq
 .have⟨a,d,pl,hz⟩:=I.list hq;have j:=d.length;have⟨o,ho,k,n,m⟩:=pl.isList;show call_list_seq p (.inl rfl) ho k m (λh' c i e=>g a d hz h' c i e) (by simp only[hQ]<;>lia)
 .have⟨a,d,pl,hz⟩:=I.tuple hq;have j:=d.length;have⟨o,ho,k,n,m⟩:=pl;show call_list_seq p (.inr rfl) ho k m (λh' c i e=>g a d hz h' c i e) (by simp only[hQ]<;>lia)
def gV:fw X (.type "tuple") (λxs H Q=>∃p ys,xs=[.ref p]/\((IF X.K H p ys/\∀l,H l=b6->Q (.ref l) (upd H l (.tup ys)))\/(II X.K H p ys/\Q (.ref p) H))):=by
 intro a s σ H xs us Q I r h;have⟨p,ys,rfl,h⟩:=h;have⟨u,rfl,j⟩:=vals1 r;cases j;rcases h with⟨c,q⟩|⟨c,q⟩
 .have⟨d,f,pl,hz⟩:=I.list c;have g:=f.length;show call_tuple_list pl.isList (λh' k=>?_) (by simp only[hQ]<;>lia);have i:Inv X a σ H {s with heap:=h' }:=I.kept (t':=s.toks) k;have m:Inv X a σ (upd H h'.objs.size (.tup ys)) {s with heap:=h'.push {cls:=.type "tuple",data:=.seq d.toArray}} :=
   i.laid (t':=s.toks) (λb o e=>c4 _ e) (hY _) (show bH X.prog X.w _ _ _ (.tup ys) from⟨hz,d,f,YI _ _⟩)
  show⟨.ref h'.objs.size,_,m,rfl,q _ (i.HR.fresh (hY _))⟩
 .have⟨d,f,pl,hz⟩:=I.tuple c;show call_tuple_same pl ⟨.ref p,H,I,rfl,q⟩
abbrev QD(K:PySem.W.Frag)(T:String)(x:V)(H:Hp):Prop:=match x with
 |.str _=>T="str"
 |.int _=>T="int"
 |.ref p=>(T="list"/\∃xs,IF K H p xs)\/(T="tuple"/\∃o,K.lookup p=a5 o/\o.cls=.type "tuple"/\o.dict=b6) \/
   (T="dict"/\((∃kvs,H p=a5 (.dK kvs))\/∃kvs,H p=a5 (.dT kvs)))\/(T="set"/\∃S n,H p=a5 (.set S n))
 |_=>False
def nS(I:Inv X f σ H s)(r:RelV x v)(b:QD X.K T x H):
  s.TypeIs v T/\∀a,v=.ref a->∃g,s.heap.get? a=a5 g/\g.dict=b6:=by
 cases x with
 |str z =>
  have⟨t,rfl⟩:=r;cases(show T="str" from b);show⟨Sv s z t,λ_ e=>nomatch e⟩
 |int i =>
  have⟨t,rfl⟩:=r;cases(show T="int" from b);show⟨typeIs_int s i t,λ_ e=>nomatch e⟩
 |ref p =>
  cases r;rcases b with⟨rfl,xs,h⟩|⟨rfl,o,hk,j,d⟩|⟨rfl,hk⟩|⟨rfl,S,n,hk⟩
  .obtain⟨k,_,pl,_⟩:=I.list h;show⟨pl.isList.typeIs,λa e=>?_⟩;cases e;obtain⟨o,n,e,c,d,_⟩:=pl;show⟨o,e,d⟩
  .show⟨⟨o,I.JU p o hk,j⟩,λa e=>?_⟩;cases e;show⟨o,I.JU _ o hk,d⟩
  .have z:∃o,s.heap.get? p=a5 o/\o.ExactDict:=by
    rcases hk with⟨kvs,hk⟩|⟨kvs,hk⟩
    .obtain⟨_,_,_,_,o,_,_,e,ex,_⟩:=I.HR p _ hk;show⟨o,e,ex⟩
    .obtain⟨_,_,_,_,o,_,_,e,ex,_⟩:=I.HR p _ hk;show⟨o,e,ex⟩
   have⟨o,e,ex⟩:=z;show⟨⟨o,e,ex.1⟩,λa e2=>?_⟩;cases e2;show⟨o,e,ex.2.1⟩
  .obtain⟨o,_,_,_,e,ex,_⟩:=I.HR p _ hk;show⟨⟨o,e,ex.1⟩,λa e2=>?_⟩;cases e2;show⟨o,e,ex.2.1⟩
 |_=>show Lb b
abbrev Hm(K:PySem.W.Frag)(T:String)(r:V->List V->Hp->VK->Prop)(to:TE):TE:=λσ H Q=>to σ H λx a=>QD K T x a/\r x [] a Q
abbrev UG(K:PySem.W.Frag)(T:String)(r:V->List V->Hp->VK->Prop)(to:TE)(t:TA):TE:=λσ H Q=>to σ H λx a=>QD K T x a/\t σ a λxs b=>r x xs b Q
variable{o e:pb}{es:List pb}{to:TE}{t:TA}{name:Str}{apos HL:Pos}{T id:String}{r:V->List V->Hp->VK->Prop}
def wQ(c:PlainAttrs T)(slot:Slot T name id)(d:Zn (.builtin id)=pure (.type "method_descriptor"))(f:Ot X id r)(ho:PE X o to)
  (g:N9 o name X.env (vr o X.env)=vr o X.env:=by rfl) (i:(apos.endLine==HL.line)=bD:=by rfl):PE X (.Call (.Attribute o name apos) [] [] HL) (Hm X.K T r to):=by
 intro a s σ H Q I h;show ZU g i (HS (ho a s σ H _ I h) λv s1 j=>?_);have⟨x,k,b,r1,l,m⟩:=j;have⟨n,p⟩:=nS b r1 l;show⟨T,id,c,slot,d,n,p,L0 rfl (PySem.evalArgs_none (f a s1 σ k x [] v [] Q b r1 .nil m))⟩
def pD(d:PlainAttrs T)(slot:Slot T name id)(f:Zn (.builtin id)=pure (.type "method_descriptor"))(g:Ot X id r)(ho:PE X o to)(i:PA X (e::es) t)
  (j:N9 o name X.env (vr o X.env)=vr o X.env:=by rfl)
  (k:((Hf HL (js (e::es) X.env)).all (λx=>!x.1)&&(NX HL (JT [] X.env)).all (λx=>x.1.isSome)
   && cK ((e::es).length+([]:List MV).length+(if ([]:List MV).isEmpty then 0 else 1)<30))=bD:=by rfl)
  (l:(apos.endLine==HL.line)=bD:=by rfl) (hs:js (e::es) X.env=(cb,vr e X.env)::js es X.env:=by rfl) (m:(Hf HL (js es X.env)).any (·.1)=cb:=by rfl) :
  PE X (.Call (.Attribute o name apos) (e::es) [] HL) (UG X.K T r to t):=by
 intro a s σ H Q I h;show Z5 j k l rfl (HS (ho a s σ H _ I h) λv s1 n=>?_);have⟨x,p,b,r1,q,u⟩:=n;have⟨w,y⟩:=nS b r1 q;show⟨T,id,d,slot,f,w,y,?_⟩;have c:=i HL a s1 σ p _ b u;rw[hs]at c ⊢;show L0 (by change(cb||(Hf HL (js es X.env)).any (·.1))=cb;rw[m]<;>rfl) (M9 ?_);show HS c λus s2 ⟨vs,z,A,r2,B⟩=>g a s2 σ z x vs v us Q A r1 r2 B
end
abbrev QE(X:Cx)(id:String)(r:V->List V->Hp->VK->Prop):Prop :=
 ∀(a:List (hH×Obj)) (s:hW) (σ:St) (H:Hp) (x:V) (xs:List V) (v:dV) (us:List dV) (Q:VK),Inv X a σ H s->RelV x v->Vals xs us->r x xs H Q ->
  g9 (i5 X.prog X.w) X.A (Qg (.builtin id) (v::us)) (EP X a σ Q) X.xe s
theorem Vals.one:∀{x:V}{us:List dV},Vals [x] us->∃u,us=[u]/\RelV x u
 |_,_,.cons r .nil=>⟨_,rfl,r⟩
theorem Vals.zero:∀{us:List dV},Vals [] us->us=[]
 |_,.nil=>rfl
def Vals.dropLast(h:Vals xs us):Vals xs.dropLast us.dropLast:=by
 induction h with
 |nil=>show .nil
 |cons r t a =>
  cases t with
  |nil=>show .nil
  |cons q t'=>show .cons r a
theorem Vals.eraseIdx:∀{xs:List V}{us:List dV} (i:Nat),Vals xs us->Vals (xs.eraseIdx i) (us.eraseIdx i)
 |_,_,_,.nil=>.nil
 |_,_,0,.cons _ t=>t
 |_,_,i+1,.cons r t=>.cons r (Vals.eraseIdx i t)
def q_(l:List α):l.eraseIdx (l.length - 1)=l.dropLast:=by
 induction l with
 |nil=>rfl
 |cons a r c =>
  cases r with
  |nil=>rfl
  |cons b r =>
   have e:(a::b::r).length - 1=((b::r).length - 1)+1:=by
    have d:(a::b::r).length=r.length+2:=rfl;have f:(b::r).length=r.length+1:=rfl;lia
   rw[e,YY,c]
   all_goals rfl
theorem mI:∀(l:List α) (i:Nat),(l.eraseIdx i).length<=l.length
 |[],_=>hY _
 |_::_,0=>O' _
 |_::r,i+1=>Nat.succ_le_succ (mI r i)
section
def Inv.iB{b its':List dV}(I:Inv X a σ H s)(c:H l=a5 (.lst xs))
  (e:s.heap.get? l=a5 {cls:=.type "list",data:=.seq b.toArray n}) (d:f b.toArray=its'.toArray) (g:Vals ys its') (hz:ys.length<=cL) :
  Inv X a σ (upd H l (.lst ys)) {s with heap:=s.heap.update l (vl f),toks:=t' }:=by
 have q:=PySem.IsL.update e f;rw[d]at q;show I.write (x:=l) (e:=l) (by rw[c];show trivial) (.inl rfl) (λj u h i=>(Qx s.heap (vl f) (tv h)).trans i) ⟨_,q⟩ ?_;show⟨hz,its',_,g,q⟩
def Inv.Hn(I:Inv X a σ H s)(c:Vals ys b)(hz:ys.length<=cL):
  Inv X a σ (upd H s.heap.objs.size (.lst ys)) {s with heap:=s.heap.push {cls:=.type "list",data:=.seq b.toArray},toks:=t' } :=
 I.laid (λ_ _ q=>c4 _ q) (hY _) ⟨hz,b,0,c,fx _ rfl⟩
def Inv.fresh(I:Inv X a σ H s):H s.heap.objs.size=b6:=I.HR.fresh (hY _)
def Inv.Af(I:Inv X b σ H s)(c:H l=a5 (.lst xs)):xs.length<=cL/\∃(a:List dV) (n:Nat),Vals xs a/\xs.length=a.length/\s.heap.get? l=a5 {cls:=.type "list",data:=.seq a.toArray n}:=by
 have⟨z,a,n,r,e⟩:=I.HR l _ c;show⟨z,a,n,r,r.length,e⟩
def wR(h:n<=cL):MJ n=cb:=by
 unfold MJ;show Ļ ⋯
end
section
abbrev Ag:V->List V->Hp->VK->Prop:=λx vs H Q=>∃l xs y,x=.ref l/\vs=[y]/\H l=a5 (.lst xs)/\xs.length<cL/\Q .HX (upd H l (.lst (xs++[y])))
def ji:QE X "list.append" Ag:=by
 intro a s σ H x vs v us Q I d rv h;have⟨l,xs,y,rfl,rfl,b,hz,q⟩:=h;cases d;have⟨u,rfl,f⟩:=rv.one;have⟨z,c,n,r,hl,e⟩:=I.Af b;show QL F.slot_list_append ⟨_,e,rfl⟩ F.entry_list_append (F.args_list_append_2 _ _) (PySem.list_append l c.toArray n u (by rw[hQ];lia)) ⟨e,?_⟩;show⟨.HX,_,I.iB (its':=c++[u]) b e (by simp) (r.append (.cons f .nil)) ?_,rfl,q⟩;rw[j0,w6];lia
abbrev Ho:V->List V->Hp->VK->Prop:=λx vs H Q=>∃l xs y,x=.ref l/\vs=[]/\H l=a5 (.lst xs)/\xs[xs.length - 1]?=a5 y/\Q y (upd H l (.lst xs.dropLast))
def wU:QE X "list.pop" Ho:=by
 intro b s σ H x vs v us Q I d rv h;have⟨l,xs,y,rfl,rfl,c,f,q⟩:=h;cases d;have g:=rv.zero;subst g;have⟨z,a,n,r,hl,e⟩:=I.Af c;have⟨u,i,j⟩:=r.get f;have k:a.toArray[a.toArray.size - 1]?=a5 u:=by
  change a.toArray[a.length - 1]?=a5 u;rw[<-Ie,<-hl];show i
 show QL ċ ⟨_,e,rfl⟩ ø (F.args_list_pop_1 _) (MeetsSeq.list_pop_last l a.toArray n u k (by rw[hQ];lia)) ⟨e,?_⟩;show⟨y,_,I.iB (its':=a.dropLast) c e ?_ r.dropLast ?_,j,q⟩
 .change a.toArray.eraseIdxIfInBounds (a.toArray.size - 1)=a.dropLast.toArray;rw[hQ,VZ,q_]
 .rw[List.length_dropLast];lia
abbrev Di:V->List V->Hp->VK->Prop:=λx vs H Q=>∃l xs i k y,x=.ref l/\vs=[.int i]/\H l=a5 (.lst xs)/\-(2 ^ 63)<=i/\i<2 ^ 63/\X' i xs.length=a5 k/\xs[k]?=a5 y/\Q y (upd H l (.lst (xs.eraseIdx k)))
def wV:QE X "list.pop" Di:=by
 intro b s σ H x vs v us Q I d rv h;have⟨l,xs,i,k,y,rfl,rfl,c,f,g,hk,j,q⟩:=h;cases d;have⟨u,rfl,m⟩:=rv.one;have⟨t,rfl⟩:=m;have⟨z,a,n,r,hl,e⟩:=I.Af c;have⟨w,o,p⟩:=r.get j;show QL ċ ⟨_,e,rfl⟩ ø (F.args_list_pop_2 _ _)
  (MeetsSeq.list_pop_at l a.toArray n i t k w (fitsIndex_both f g) (by rw[hQ,<-hl];show hk) (by rw[<-Ie];show o) (by rw[hQ];lia)) ⟨e,?_⟩
 show⟨y,_,I.iB (its':=a.eraseIdx k) c e ?_ (r.eraseIdx k) ?_,p,q⟩
 .change a.toArray.eraseIdxIfInBounds k=(a.eraseIdx k).toArray;rw[VZ]
 .have:=mI xs k;lia
end
section
set_option maxRecDepth 100000 in
end
section
end
end L2
namespace UH
open PySem PySem.W PySem.Calls PyProof.Rows
def jT:∀(ns:List Int) (vs:List dV),WellAll P h vs (ns.map Ğ)->È vs ns:=by
 intro ns;induction ns with
 |nil =>
  intro vs w;rw[Np]at w;cases w;show .nil
 |cons n ns c =>
  intro vs w;rw[il]at w;cases w with
  |cons a b =>
   cases a;show .cons _ _ (c _ b)
def u3{l:OpenLaw}(j:l.most=a5 n)
  (g:l.row.toRowW.claim.pre args=bD) (k:WellAll P h b args) :
  ∃a vs ns,b=[my a]/\args=[WData.list (ns.map Ğ)]/\h.get? a=a5 {cls:=.type "list",data:=.seq vs.toArray}/\È vs ns/\ns.length<=n:=by
 have m:WShape.hasAll [] args [.list .int]=bD:=(pre_splitW g).1;have i:l.pre.holds [] {args:=args}=bD:=(pre_splitW g).2;have⟨d,r,rfl,o,p⟩:=hasAllW_cons m;obtain rfl:=hasAllW_nil p;have⟨xs,rfl,s⟩:=hasW_list o;have⟨ns,rfl⟩:=items_int s;have c:ns.length<=n:=by
  unfold OpenLaw.pre at i;have e:(WTm.not (.lt (.lit (.int (n:Int))) (.len (.arg 0)))).holds [] {args:=[.list (ns.map .int)]}=bD:=by
   have e:=(holds_andW i).1;rw[j]at e;show e
  have f:=condW_of e (w_not (w_lt w_lit (w_len_list (w_arg rfl))));rw[df]at f;show Nat.le_of_not_lt λq=>?_;have t:(n:Int)<((ns.length:Nat):Int):=by lia
  first
   |(rw[ļ t]at f;show absurd f (by decide))
   |(simp at f;lia)
 cases k with
 |cons u v =>
  cases v;cases u with
  |list ho w=>show⟨_,_,ns,rfl,rfl,ho,jT ns _ w,c⟩
def u4(l:OpenLaw)(args:List WData):l.row.toRowW.claim.post args (.bool bD) args=bD :=
 postW_of (r:=l.row.toRowW) (X:=(bD==bD))
  (show Ć [] (.bool bD) .bool=bD by first|rfl|decide|simp[Ć,WShape.arms,WShape.armsAll])
  (show(WTm.eq .res (.lit (.bool bD))).value [] {args:=args,res:=a5 (.bool bD),after:=args}=a5 (.bool (bD==bD)) from w_eq_bool (w_res rfl) w_lit) rfl
def pE{l:OpenLaw}
  (s:l.most=a5 n) (t:d.params.defaults=[])
  (Qg:∀(w:Jn) (s₀ b:hW) (mg j:Str->Option dV) (fa:hH) (o:Obj) (k i c:dV) (a:hH) (vs:List dV) (ns:List Int),
   Ground q e [] u w s₀ mg j b.heap->v w b.heap ->
   b.heap.get? fa=a5 o->o.data=.func (docDef d.name d.params d.body d.scope k i c)->b.heap.CodeRec i d.name->mg d.name=a5 (.ref fa) ->
   b.heap.get? a=a5 {cls:=.type "list",data:=.seq vs.toArray}->È vs ns->ns.length<=n->b.gens=#[] ->
   R3 (i5 l.prog w) TV (.call (.ref fa) ⟨[.ref a],[]⟩) (λr s'=>r=.ok (.ret (.bool bD))/\OldK b.heap s'.heap/\s'.os=b.os/\S6 s'.gens) b) :
  WalkO q e u v l.row.toRowW d [] (λf vs=>PySem.call f vs):=by
 intro w s₀ b mg j G Y fa o k i c x kV ho y z m A B args p as C Q T D YO;obtain rfl:x=.none:=Dflts.none m t;obtain rfl:kV=.none:=Dflts.noKw m;have⟨a,vs,ns,rfl,rfl,H,g,h⟩:=u3 s C D;show enter_call (RA (Qg w s₀ b mg j fa o k i c a vs ns G Y ho (fd_plain y) z A H g h B) λr s' I=>?_);have⟨rfl,J,L,N⟩:=I;show⟨.inl ⟨.bool bD,.bool bD,[],rfl,λ_=>rfl,.bool bD,u4 l _,λ_=>⟨Ę,λ_ O=>(nomatch O)⟩⟩,J,L,N⟩
section
end
end UH
namespace L2
open PySem PySem.Spec PyProof.Rows
theorem mJ:∀{vs:List dV}{ns:List Int},È vs ns->Vals (ns.map V.int) vs
 |_,_,.nil=>.nil
 |_,_,.cons n t h=>.cons ⟨t,rfl⟩ (mJ h)
abbrev Dj(H:Hp):Prop:=∀b,H b=b6\/∃o xs,H b=a5 (.KJ o (.lst xs))
def wW{K:PySem.W.Frag}
  (y:K.In c.heap) (A:c.heap.Ns oT mg) (f:c.heap.Ns ô B) (N:∀x:Str,x≠"__name__"->B x=Ly x) (O:c.heap.NoLimit) (Q:c.gens=#[])
  (l:c.heap.get? a=a5 {cls:=.type "list",data:=.seq vs.toArray}) (hi:È vs ns) (hl:ns.length<=cL) (T:cN k TV)
  (F:∀base:K1,K.In base->base.Ns oT mg->dR P w K mg base CX k fa Y [x] sp) (Pb:∀(s:hW) (u:dV),Å s Y ⟨[u],[]⟩ [(x,u)])
  (Jx:∀H:Hp,Dj H->IF K H a (ns.map V.int)->sp [.ref a] H (λv _=>v=.bl bD) λ_ _ _=>False)
  (R7:∀H e s',CX [] H c (λ_ _ _=>False) e s'->False) :
  R3 (i5 P w) TV (.call (.ref fa) ⟨[.ref a],[]⟩) (λr s'=>r=.ok (.ret (.bool bD))/\OldK c.heap s'.heap/\s'.os=c.os/\S6 s'.gens) c:=by
 have rv:=mJ hi;have R8:=hi.length;have g:∀H:Hp,Dj H->IF K H a (ns.map V.int)->Jf P w H c.heap->(∀b,H b≠b6->b=a)->(H a≠b6->K.lookup a=b6) ->
   R3 (i5 P w) TV (.call (.ref fa) ⟨[.ref a],[]⟩) (λr s'=>r=.ok (.ret (.bool bD))/\OldK c.heap s'.heap/\s'.os=c.os/\S6 s'.gens) c:=by
  intro H C hS D G hK;have j7:∀{b:hH} {o:Obj},c.heap.get? b=a5 o->H b=b6->(nB c.heap H).get? b=a5 o:=λe n=>wm e n;have O7:∀{b:hH} {o:Obj} {es:Array DictEntry} {ep:Nat},c.heap.get? b=a5 o->o.data=.dict es ep->H b=b6:=λ{b o es ep} e d=>by
   cases q:H b with
   |none=>rfl
   |some u =>
    have t:b=a:=G b (by rw[q];simp);subst t;rw[l]at e;cases e;have d':Data.seq vs.toArray _=Data.dict es ep:=d;cases d'
  have p:∀{b:hH} {m:Str->Option dV},c.heap.Ns b m->(nB c.heap H).Ns b m:=λ{b m} ⟨o,es,ep,e,d,r⟩=>⟨o,es,ep,j7 e (O7 e d),d,r⟩
  have I:K.In (nB c.heap H):=λb o e=>j7 (y b o e) (by
   cases q:H b with
   |none=>rfl
   |some u =>
    have t:b=a:=G b (by rw[q];simp);subst t;rw[hK (by rw[q];simp)]at e;cases e)
  have hM:Mod K mg (nB c.heap H):=⟨I,p A,⟨B,p f,N⟩,let ⟨mc,h1,h2⟩:=O;⟨mc,p h1,h2⟩⟩
  have e0:qW P w K mg (nB c.heap H) TV [] c H:=⟨rfl,hM,λb o e=>zP e,VY (uR _ _),trivial,λb f=>absurd (show b∈([]:List hH) from f) (by simp),D,.of_eq Q⟩
  show RA ((F _ I (p A)).run TV [] c H ⟨[.ref a],[]⟩ [.ref a] [.ref a] _ _ T e0 (Pb c (.ref a)) (.cons rfl .nil) (Jx H C hS)) λr s' h=>?_;cases r with
  |error e=>show(R7 H e s' h).elim
  |ok fl =>
   cases fl with
   |ret u =>
    have⟨v,H',os,i,J,R9,r',q⟩:=h;have q':v=.bl bD:=q;subst q';obtain rfl:u=Nu bD:=r';show⟨rfl,OldK.of_keep λb o e=>?_,os,i⟩;cases q:H b with
    |none=>show J.keep b o e q (by intro z;show absurd (show b∈([]:List hH) from z) (by simp)) (by simp)
    |some u =>
     rcases C b with z|⟨ob,xs,z⟩
     .rw[q]at z;cases z
     .have z2:=J.Jl b ob _ z;obtain⟨L,_⟩:=D b _ z;obtain⟨e2,_⟩:=R9 b _ z2;rw[e]at L;cases L;show e2
   |_=>show Lb h
 cases hk:K.lookup a with
 |some o =>
  have e:=y a o hk;rw[l]at e;cases e;show g (λ_=>b6) (λ_=>.inl rfl) (.inr ⟨_,vs.toArray,_,hk,rfl,rfl,rfl,by rw[hQ,R8];show hl,by simpa using rv⟩) (λb u z=>by have j:(b6:Option HO)=a5 u:=z;cases j) (λb z=>absurd rfl z) λz=>absurd rfl z
 |none =>
  show g (λb=>if b=a then a5 (.KJ {cls:=.type "list",data:=.seq vs.toArray} (.lst (ns.map V.int))) else b6) (λb=>?_) (.inl (.inr ⟨{cls:=.type "list",data:=.seq vs.toArray},Ĺ rfl⟩)) (λb u z=>?_) (λb z=>?_) λ_=>hk
  .by_cases f:b=a
   .show .inr ⟨_,_,Ĺ f⟩
   .show .inl (ĺ f)
  .by_cases f:b=a
   .have j:=(Ĺ f).symm.trans z;cases j;subst f;show⟨l,by rw[df];show hl,vs,_,rv,l⟩
   .have j:=(ĺ f).symm.trans z;cases j
  .by_cases f:b=a
   .show f
   .show absurd (ĺ f) z
def Ah{l:PySem.W.OpenLaw}{K:U0->PySem.W.Frag}{CX:Jn->Ny}{sp:Jn->Sp}
  (r:l.most=a5 n) (t:n<=cL) (y:d.params.defaults=[]) (z:cN k TV)
  (A:∀(w:Jn) (h:K1),B w h->(K w.params).In h)
  (F:∀(w:Jn) (mg:Str->Option dV) (fa:hH) (h:K1),(K w.params).In h->h.Ns oT mg->mg d.name=a5 (.ref fa) ->
   ∃j:R5,(∀(s:hW) (u:dV),Å s j ⟨[u],[]⟩ [(x,u)]) /\
    ∀base:K1,(K w.params).In base->base.Ns oT mg->dR l.prog w (K w.params) mg base (CX w) k fa j [x] (sp w))
  (C:∀(w:Jn) (H:Hp) (a:hH) (ns:List Int),ns.length<=n->Dj H->IF (K w.params) H a (ns.map V.int)->sp w [.ref a] H (λv _=>v=.bl bD) λ_ _ _=>False)
  (D:∀(w:Jn) (H:Hp) (s:hW) (e:dV) (s':hW),CX w [] H s (λ_ _ _=>False) e s'->False) :
  PySem.W.WalkO q m XP B l.row.toRowW d [] (λf vs=>PySem.call f vs):=by
 show UH.pE r y λw s₀ I mg mb fa o pm cd J a vs ns G Y ho hd Ic L N i c O=>?_;have p:=A w _ Y;have⟨j,Q,hF⟩:=F w mg fa _ p G.T.g L;show wW p G.T.g G.T.b G.T.builtins G.T.nolimit O N i (B' c t) z hF Q (λH hO hS=>C w H a ns c hO hS) λH e s'=>D w H I e s'
abbrev gy(s:NB):Arguments:=match s with
 |.FunctionDef _ a _ _ _ _ _ _ _ _=>a
 |_=>{posonlyargs:=[],args:=[],vararg:=b6,kwonlyargs:=[],kw_defaults:=[],kwarg:=b6,defaults:=[]}
abbrev cp(s:NB):List NB:=match s with
 |.FunctionDef _ _ b _ _ _ _ _ _ _=>b
 |_=>[]
abbrev aC(s:NB):M0:=match s with
 |.FunctionDef _ _ _ _ _ _ a _ _ _=>a
 |_=>{kind:=.function,names:=[],isGenerator:=cb,isCoroutine:=cb}
@[reducible]def M3:Ny:=λ_ _ _ _ _ _=>False
@[reducible]def E0:XK:=λ_ _ _=>False
def Ci:Passes M3 X E0:=λ_ _ _ _ _ _ _ h=>h.elim
structure Mw(K:PySem.W.Frag)(x qual:Str)(st:NB)(f:hH)(fd:R5):Prop where
 ex:∃(oc:dV) (od:Option hH) (kV doc pm:dV) (an:Option hH) (Jm ct:dV) (NA:Array (Option dV)),
  fd=PySem.W.fnOf x qual (gy st) (cp st) (aC st) .none kV doc pm an Jm ct/\K.lookup f=a5 ⟨oc,od,.func fd,NA⟩/\PySem.W.codeIn K Jm qual=bD
 kp:PySem.W.keepIn K (.ref f)=bD
section
variable{P:y0}{w:Jn}{K:PySem.W.Frag}{mg:Str->Option dV}{base:K1}
def Mw.ok{st:NB}(F:Mw K x a st f d)(S:dq N ps (aC st))(c:∀vs H Q E,sp vs H Q E->vs.length=ps.length)
  (e:∀(b:dV) (A:MW) (outer:List Env) (s:hW) (H:Hp) (vs:List V) (Q:VK) (E:XK),cN k (A.deeper (TY a (aC st) s.heap.objs.size f b))->sp vs H Q E ->
   ∃t,Jr (pA M3 P w K mg base N a (aC st) f b A outer s H E).Lm (cp st) t/\t {nx:=λ_ H'=>Q .HX H',rt:=Q} (start N vs) H):dR P w K mg base M3 (k+1) f d ps sp:=by
 have⟨m,n,kV,g,o,p,b,ct,r,rfl,lk,i⟩:=F.ex;show wL lk i S c λA outer s H vs Q E j l=>?_;have⟨t,h,q⟩:=e b A outer s H vs Q E j l;show⟨t,h.Lm,q⟩
def Dk{st:NB}{kV b e d ct:dV}(l:K.lookup f=a5 ⟨h,i,.func (PySem.W.fnOf x a (gy st) (cp st) (aC st) .none kV b e g d ct),j⟩)
  (c:PySem.W.codeIn K d a=bD) (k:PySem.W.keepIn K (.ref f)=bD):Mw K x a st f (PySem.W.fnOf x a (gy st) (cp st) (aC st) .none kV b e g d ct):=⟨⟨h,i,kV,b,e,g,d,ct,j,rfl,l,c⟩,k⟩
end
section
end
abbrev pF(H H':Hp):Prop:=∀b o,H b=a5 o->H' b=a5 o
section
variable{κ:Type}[DecidableEq κ]
abbrev dr(kvs:List (κ×V))(k:κ):Option V:=(kvs.find? λkv=>cK (kv.1=k)).map (·.2)
abbrev putK(kvs:List (κ×V))(k:κ)(v:V):List (κ×V) :=
 if (kvs.any λkv=>cK (kv.1=k))=bD then kvs.map (λkv=>if kv.1=k then(kv.1,v) else kv) else kvs++[(k,v)]
def eB{p:κ×V}{k:κ}(e:p.1=k):dr (p::r) k=a5 p.2:=by simp[dr,Oq,e]
def eC{p:κ×V}{k:κ}(e:¬p.1=k):dr (p::r) k=dr r k:=by simp[dr,Oq,e]
theorem iC(k:κ):∀kvs:List (κ×V),(kvs.any λkv=>cK (kv.1=k))=(dr kvs k).isSome
 |[]=>rfl
 |p::r=>by
  rw[Ux];by_cases e:p.1=k
  .simp only[eB e,ļ e,Bool.true_or,ZC]
  .rw[eC e,Ļ e,Bool.false_or];show iC k r
def jD(kvs:List (κ×V))(k:κ)(v:V):(putK kvs k v).length<=kvs.length+1:=by
 unfold putK;split
 .rw[df];lia
 .rw[j0,lx,Tb];lia
def wX{k:κ}(v:V)(h:dr kvs k=b6):putK kvs k v=kvs++[(k,v)]:=by
 unfold putK;rw[iC,h];show ĺ (by decide)
def fF.eD(r:fF o u):o.isSome=u.isSome:=by
 cases o with
 |none=>cases u with
  |none=>rfl
  |some _=>show(show False from r).elim
 |some _=>cases u with
  |none=>show(show False from r).elim
  |some _=>rfl
def fF.getD(r:fF o u)(a:RelV d d'):RelV (o.getD d) (u.getD d'):=by
 cases o with
 |none=>cases u with
  |none=>show a
  |some _=>show(show False from r).elim
 |some _=>cases u with
  |none=>show(show False from r).elim
  |some _=>show r
def KV.val(r:KV kvs vs)(k:κ):fF (dr kvs k) (Wl vs k):=by
 unfold KV at r;induction r with
 |nil=>show SX
 |@cons p q ps a h t f =>
  have⟨d,g⟩:=h;by_cases e:p.1=k
  .have c:q.1=k:=d.symm.trans e;have b:Wl (q::a) k=a5 q.2:=by simp[Wl,Oq,c]
   rw[eB e,b];show g
  .have c:¬q.1=k:=λz=>e (d.trans z);have b:Wl (q::a) k=Wl a k:=by simp[Wl,Oq,c]
   rw[eC e,b];show f
def KV.any(r:KV kvs vs)(k:κ):(kvs.any λkv=>cK (kv.1=k))=vs.any λkv=>cK (kv.1=k):=by
 unfold KV at r;induction r with
 |nil=>rfl
 |cons h t a=>rw[Ux,Ux,a,h.1]
def KV.Dl(r:KV kvs vs)(k:κ)(b:RelV y u):
  KV (kvs.map λkv=>if kv.1=k then(kv.1,y) else kv) (vs.map λkv=>if kv.1=k then(kv.1,u) else kv):=by
 unfold KV at r ⊢;induction r with
 |nil=>show .nil
 |@cons p q ps f h t c =>
  rw[il,il];show .cons ?_ c;have⟨a,d⟩:=h;by_cases e:p.1=k
  .rw[Ĺ e,Ĺ (a.symm.trans e)];show⟨a,b⟩
  .rw[ĺ e,ĺ (λz=>e (a.trans z))];show⟨a,d⟩
def KV.put(r:KV kvs vs)(k:κ)(a:RelV y u):KV (putK kvs k y) (stored vs k u):=by
 unfold putK stored;rw[r.any k];by_cases e:(vs.any λkv=>cK (kv.1=k))=bD
 .rw[Ĺ e,Ĺ e];show r.Dl k a
 .rw[ĺ e,ĺ e];show Paired.snoc r ⟨rfl,a⟩
def KV.length(r:KV kvs vs):kvs.length=vs.length:=Paired.length r
end
def mK(r:RelV (kV k) u):(a9 P w).is k u=bD:=by
 cases k with
 |inl i=>have⟨t,e⟩:=(show ∃t,u=Yz i t from r);subst e;show pq P w i t
 |inr x=>have⟨t,e⟩:=(show ∃t,u=J4 x t from r);subst e;show pv P w x t
theorem mL:∀{ks:List Key}{us:List dV},Vals (ks.map kV) us->ItemsAre (a9 P w) ks us
 |[],_,r=>by rw[Np]at r;cases r;show .nil
 |k::ks,_,r=>by
  rw[il]at r;cases r with
  |cons h t=>show .cons (mK h) (mL t)
@[reducible]def KT(H:Hp):List (List Key×V)->List (List Key×hH×dV)->Prop:=Paired λp q=>p.1=q.1/\H q.2.1=a5 (.tup (p.1.map kV))/\RelV p.2 q.2.2
def KT.val(r:KT H kvs xs)(k:List Key):fF (dr kvs k) ((Zr xs k).map (·.2)):=by
 induction r with
 |nil=>show SX
 |@cons p q ps a h t f =>
  obtain⟨d,_,g⟩:=h;by_cases e:p.1=k
  .have c:q.1=k:=d.symm.trans e;have b:Zr (q::a) k=a5 q.2:=by simp[Zr,Oq,c]
   rw[eB e,b];show g
  .have c:¬q.1=k:=λz=>e (d.trans z);have b:Zr (q::a) k=Zr a k:=by simp[Zr,Oq,c]
   rw[eC e,b];show f
def KT.Dl(r:KT H kvs xs)(k:List Key)(c:RelV y u):
  KT H (kvs.map λkv=>if kv.1=k then(kv.1,y) else kv) (xs.map (putAt k u)):=by
 induction r with
 |nil=>show .nil
 |@cons p q ps g h t d =>
  rw[il,il];show .cons ?_ d;have⟨a,b,f⟩:=h;unfold putAt;by_cases e:p.1=k
  .rw[Ĺ e,Ĺ (a.symm.trans e)];show⟨a,b,c⟩
  .rw[ĺ e,ĺ (λz=>e (a.trans z))];show⟨a,b,f⟩
def KT.put(r:KT H kvs xs)(k:List Key)(c:H b=a5 (.tup (k.map kV)))(a:RelV y u):
  KT H (putK kvs k y) (storedH xs k b u):=by
 have e:(kvs.any λkv=>cK (kv.1=k))=(Zr xs k).isSome:=by
  rw[iC,(r.val k).eD,UK]
 unfold putK storedH;rw[e];by_cases q:(Zr xs k).isSome=bD
 .rw[Ĺ q,Ĺ q];show r.Dl k a
 .rw[ĺ q,ĺ q];show Paired.snoc r ⟨rfl,c,a⟩
def KT.keeps(r:KT H kvs xs)(a:∀b ys,H b=a5 (.tup ys)->H' b=a5 (.tup ys)):KT H' kvs xs :=
 Paired.CN r λ_ _ z=>⟨z.1,a _ _ z.2.1,z.2.2⟩
section
def Cj(b:Jf P w H h)(e:Rd H a u):bH P w H h a u:=e.ok b
def kI(b:Jf P w H h)(e:Rd H a (.dK kvs)):kvs.length<=cL/\(a==OA)=cb/\∃vs,KV kvs vs/\h.DictOf (a9 P w) a vs :=
 show bH P w H h a (.dK kvs) from Cj b e
def wY(b:Jf P w H h)(e:H a=a5 (.dK kvs)):kvs.length<=cL/\(a==OA)=cb/\∃vs,KV kvs vs/\h.DictOf (a9 P w) a vs:=kI b (.inl e)
def jj(b:Jf P w H h)(e:H a=a5 (.tup (ks.map kV))):(Vb (a9 P w)).is h ks a:=by
 obtain⟨_,c,r,o,d,f,n,g⟩:=(show bH P w H h a (.tup (ks.map kV)) from b a _ e)
 show⟨o,c.toArray,n,d,f,g,by simpa using mL r⟩
def kJ(b:Jf P w H h)(e:Rd H a (.dT kvs)):kvs.length<=cL/\(a==OA)=cb /\
  ∃xs,KT H kvs xs/\h.DictOfH (Vb (a9 P w)) a xs:=by
 have⟨z,y,xs,r,o,es,ep,d,f,g,i,j⟩:=(show bH P w H h a (.dT kvs) from Cj b e)
 show⟨z,y,xs,r,o,es,ep,d,f,g,i,λx hx=>?_,j⟩;have all:∀{l:List (List Key×V)} {m:List (List Key×hH×dV)},KT H l m->∀x∈m,(Vb (a9 P w)).is h x.1 x.2.1:=by
  intro l m q;induction q with
  |nil=>intro x hx;show nomatch hx
  |@cons p q ps n c t k =>
   intro x hx;rcases gj.mp hx with e|hx
   .subst e;show jj b (by rw[<-c.1];show c.2.1)
   .show k x hx
 show all r x hx
def FF(b:Jf P w H h)(e:H a=a5 (.dT kvs)):kvs.length<=cL/\(a==OA)=cb /\
  ∃xs,KT H kvs xs/\h.DictOfH (Vb (a9 P w)) a xs:=kJ b (.inl e)
end
abbrev d9(H:Hp)(a:hH)(y:V)(r:Option V):Prop :=
 (∃kvs k,Rd H a (.dK kvs)/\y=kV k/\r=dr kvs k)\/∃kvs k b,Rd H a (.dT kvs)/\y=.ref b/\H b=a5 (.tup (k.map kV))/\r=dr kvs k
abbrev u5(H:Hp)(a:hH)(y v:V)(H':Hp):Prop :=
 (∃kvs k,H a=a5 (.dK kvs)/\y=kV k/\kvs.length<cL/\H'=upd H a (.dK (putK kvs k v))) \/
 ∃kvs k b,H a=a5 (.dT kvs)/\y=.ref b/\H b=a5 (.tup (k.map kV))/\kvs.length<cL/\H'=upd H a (.dT (putK kvs k v))
def d9.k{H:Hp}{a:hH}{kvs:List (Key×V)}{k:Key}(e:H a=a5 (.dK kvs)):d9 H a (kV k) (dr kvs k):=.inl ⟨kvs,k,.inl e,rfl,rfl⟩
def u5.k{H:Hp}{a:hH}{kvs:List (Key×V)}{k:Key}{v:V}(e:H a=a5 (.dK kvs))(hl:kvs.length<cL):u5 H a (kV k) v (upd H a (.dK (putK kvs k v))):=.inl ⟨kvs,k,e,rfl,hl,rfl⟩
section
def Inv.big(I:Inv X a σ H s):OA<s.heap.objs.size:=by
 have h:oT<s.heap.objs.size:=(I.mod.glob.keeps I.bk).lt;show VW (by decide) h
def u6(q:A.units+1<L_)(I:Inv X f σ H s)(g:d9 H a y (a5 v))(n:RelV y u)(h:∀d s',Inv X f σ H s'->RelV v d->Q d s'):
  g9 (i5 X.prog X.w) A (Rz (.ref a) u) Q E s:=by
 rcases g with⟨kvs,k,e,i,l⟩|⟨kvs,k,b,e,i,r,l⟩
 .subst i;have⟨z,t,vs,c,dd⟩:=kI I.HR e;have⟨d,j,m⟩:=fF.some_of (v:=v) (o:=Wl vs k) (by rw[l];show c.val k);show wpAny_getItem_of (mK n) dd.mapOf j (h d _ (I.tok _) m)
 .subst i;cases(show u=my b from n);have⟨z,t,xs,c,dd⟩:=kJ I.HR e;have⟨d,j,m⟩:=fF.some_of (v:=v) (o:=(Zr xs k).map (·.2)) (by rw[l];show c.val k);have⟨p,x,B⟩:=ez.mp j;show wpAny_getItem_heap (QG q) (jj I.HR r) dd x ?_;rw[B];show h d _ (I.tok _) m
def FG(m:A.units+1<L_)(I:Inv X d σ H s)(g:d9 H a y o)(j:RelV y u)(h:∀s',Inv X d σ H s'->Q (.bool o.isSome) s'):
  g9 (i5 X.prog X.w) A (O9 .In u (.ref a)) Q E s:=by
 rcases g with⟨kvs,k,e,f,l⟩|⟨kvs,k,b,e,f,n,l⟩
 .subst f;have⟨z,i,vs,c,dd⟩:=kI I.HR e;show wpAny_in_of (mK j) i dd.mapOf ?_;rw[<-(c.val k).eD,<-l];show h _ (I.tok _)
 .subst f;cases(show u=my b from j);have⟨z,i,xs,c,dd⟩:=kJ I.HR e;show wpAny_in_heap (QG m) (jj I.HR n) i dd ?_;have q:=(c.val k).eD;rw[UK]at q;rw[<-q,<-l];show h _ (I.tok _)
def sV(m:A.units+1<L_)(I:Inv X d σ H s)(g:d9 H a y o)(j:RelV y u)(h:∀s',Inv X d σ H s'->Q (.bool (!o.isSome)) s'):
  g9 (i5 X.prog X.w) A (O9 .NotIn u (.ref a)) Q E s:=by
 rcases g with⟨kvs,k,e,f,l⟩|⟨kvs,k,b,e,f,n,l⟩
 .subst f;have⟨z,i,vs,c,dd⟩:=kI I.HR e;show wpAny_notIn_of (mK j) i dd.mapOf ?_;rw[<-(c.val k).eD,<-l];show h _ (I.tok _)
 .subst f;cases(show u=my b from j);have⟨z,i,xs,c,dd⟩:=kJ I.HR e;show wpAny_notIn_heap (QG m) (jj I.HR n) i dd ?_;have q:=(c.val k).eD;rw[UK]at q;rw[<-q,<-l];show h _ (I.tok _)
def sW(I:Inv X c σ H s)(f:OY (H a))(hs:KH a s.heap h')(g:∃q,h'.get? a=a5 q)(new:bH X.prog X.w (upd H a d) h' a d):
  Inv X c σ (upd H a d) {s with heap:=h',toks:=t' } :=
 I.write (x:=a) (e:=a) f (.inl rfl) (λb q h z=>(hs.2 b h).trans z) g new
def Dm(z:kvs.length<=cL)(c:(a==OA)=cb)(b:KV kvs vs)(dd:h'.DictOf (a9 P w) a vs):
  bH P w H' h' a (.dK kvs):=⟨z,c,vs,b,dd⟩
def u7(B:A.units+1<L_)(I:Inv X f σ H s)(g:u5 H a y v H')(p:RelV y u)(rv:RelV v r)(h:∀s',Inv X f σ H' s'->Q () s'):
  g9 (i5 X.prog X.w) A (TB (.ref a) u r) Q E s:=by
 rcases g with⟨kvs,k,e,m,l,n⟩|⟨kvs,k,b,e,m,t,l,n⟩
 .subst m n;have⟨z,o,vs,d,dd⟩:=wY I.HR e;have hz:vs.length<=cL:=by rw[<-d.length];show z
  have hl:(putK kvs k v).length<=cL:=by have:=jD kvs k v;lia
  show wpAny_setItem_pairs (hsz:=hz) (mK p) dd λh' i hs=>h _ ?_;have C:∃q,h'.get? a=a5 q:=let ⟨q,_,_,j,_⟩:=i;⟨q,j⟩;show sW I (by rw[e];show SX) hs C (Dm hl o (d.put k rv) i)
 .subst m n;cases(show u=my b from p);have⟨z,o,xs,d,dd⟩:=FF I.HR e;have hz:xs.length<=cL:=by rw[<-Paired.length d];show z
  have hl:(putK kvs k v).length<=cL:=by have:=jD kvs k v;lia
  show wpAny_setItem_heap (hsz:=hz) (QG B) (jj I.HR t) dd λh' i hs=>h _ ?_;obtain⟨q,es,ep,j,D,G,J,_,L⟩:=i;show sW I (by rw[e];show SX) hs ⟨q,j⟩ ⟨hl,o,_,(d.put k t rv).keeps λc ys x=>?_,q,es,ep,j,D,G,J,L⟩;rw[ak (E7 x e (λz=>nomatch z))];show x
end
section
end
abbrev Dn(i:pb):Prop:=∀a b,Yy i cb a b=operate [a,b] (Rz a b)
def Ai{T id:String}
  (hl:ò (.type T) "__getitem__"=pure (a5 (.builtin id))) (hs:Dn a)
  (h:g9 (i5 prog w) A (vr b env) (λo f=>g9 (i5 prog w) A (vr a env) (λi d=>d.TypeIs o T/\g9 (i5 prog w) A (Rz o i) Q E d) E f) E s) :
  g9 (i5 prog w) A (vr (.Subscript b a pos) env) Q E s:=by
 show Zt (uv h (λo f k=>uv k (λi d e=>?_) λ_ _ x=>x) λ_ _ x=>x);have⟨g,e⟩:=e;unfold V4;show b7 ?_;rw[getitemInPython_of_ne g.not_modules];show b7 (Ĝ g hl ?_);have c:g9 (i5 prog w) A (Yy a cb o i) (λr j=>g9 (i5 prog w) A (letTemporaryGo b o r >>= λ_=>pure r) Q E j) E d:=by
  rw[hs o i];show wpAny_operating (uv e (λr j l=>b7 (wpAny_letTemporaryGo (dt l))) λ_ _ x=>x)
 first
  |show dt (b7 c)
  |show b7 (dt (b7 c))
  |show b7 c
def pG(I:Inv X c σ H s)(g:d9 H a y o):s.TypeIs (.ref a) "dict":=by
 rcases g with⟨kvs,k,e,_,_⟩|⟨kvs,k,b,e,_,_,_⟩
 .obtain⟨_,_,vs,_,dd⟩:=kI I.HR e;show dd.typeIs
 .obtain⟨_,_,xs,_,dd⟩:=kJ I.HR e;show dd.typeIs
abbrev FH(c d:TE):TE:=λσ H Q=>c σ H λx e=>d σ e λy b=>∃a v,x=.ref a/\d9 b a y (a5 v)/\Q v b
abbrev Hq(c d:TE):TE:=λσ H Q=>c σ H λy e=>d σ e λx b=>∃a o,x=.ref a/\d9 b a y o/\Q (.bl o.isSome) b
abbrev Aj(c d:TE):TE:=λσ H Q=>c σ H λy e=>d σ e λx b=>∃a o,x=.ref a/\d9 b a y o/\Q (.bl (!o.isSome)) b
section
def Ak(d:X.A.units+1<L_)(ho:PE X o e)(hi:PE X i f)(hs:Dn i):PE X (.Subscript o i pos) (FH e f):=by
 intro b s σ H Q I h;show Ai PySem.F.slot_dict_getitem.lookup hs (HS (ho b s σ H _ I h) λu s1 ⟨x,j,k,l,m⟩=>HS (hi b s1 σ j _ k m) λz s2 n=>?_);have⟨y,p,c,q,a,v,ex,g,r⟩:=n;subst ex;obtain rfl:u=my a:=l;show⟨pG c g,u6 d c g q λB s3 t w=>⟨v,p,t,w,r⟩⟩
def wZ(c:X.A.units+1<L_)(hi:PE X i d)(ho:PE X o e):PC X .In i o (Hq d e):=by
 intro b s σ H Q I h;show HS (hi b s σ H _ I h) λw s1 ⟨y,f,j,k,l⟩=>HS (ho b s1 σ f _ j l) λu s2 m=>?_;have⟨x,n,p,q,a,r,ex,g,t⟩:=m;subst ex;obtain rfl:u=my a:=q;show FG c p g k λs3 v=>⟨.bl r.isSome,n,v,rfl,t⟩
def mM(c:X.A.units+1<L_)(hi:PE X i d)(ho:PE X o e):PC X .NotIn i o (Aj d e):=by
 intro b s σ H Q I h;show HS (hi b s σ H _ I h) λw s1 ⟨y,f,j,k,l⟩=>HS (ho b s1 σ f _ j l) λu s2 m=>?_;have⟨x,n,p,q,a,r,ex,g,t⟩:=m;subst ex;obtain rfl:u=my a:=q;show sV c p g k λs3 v=>⟨.bl (!r.isSome),n,v,rfl,t⟩
end
def w9(h:K1)(a:OA<h.objs.size):bH P w H (h.push {cls:=.type "dict",data:=.dict #[]}) h.objs.size (.dK []) :=
 ⟨mN _,Ľ.mpr (tv (kj a)),[],.nil,ı h⟩
abbrev Dp:TE:=λ_ H Q=>∀p,H p=b6->Q (.ref p) (upd H p (.dK []))
section
def pH:PE X (.Dict [] [] pos) Dp:=λb s σ H Q I h =>
 wpAny_Dict_empty ⟨.ref s.heap.objs.size,_,I.laid (a:=s.heap.objs.size) (o:=.dK []) (t':=s.toks) (λ_ _ q=>c4 _ q) (hY _) (w9 s.heap I.big),rfl,h _ (I.HR.fresh (hY _))⟩
end
structure M1(X:Cx)(o:pb)(m:Str)(apos:Pos)(e:pb)(HL:Pos):Prop where
 base:N9 o m X.env (vr o X.env)=vr o X.env
 Ki:((Hf HL (js [e] X.env)).all (λx=>!x.1)&&(NX HL (JT [] X.env)).all (λx=>x.1.isSome)
  && cK (([e]:List pb).length+([]:List MV).length+(if ([]:List MV).isEmpty then 0 else 1)<30))=bD
 line:(apos.endLine==HL.line)=bD
 trees:Hf HL (js [e] X.env)=[(cb,vr e X.env)]
structure M2(X:Cx)(o:pb)(m:Str)(apos:Pos)(e f:pb)(HL:Pos):Prop where
 base:N9 o m X.env (vr o X.env)=vr o X.env
 Ki:((Hf HL (js [e,f] X.env)).all (λx=>!x.1)&&(NX HL (JT [] X.env)).all (λx=>x.1.isSome)
  && cK (([e,f]:List pb).length+([]:List MV).length+(if ([]:List MV).isEmpty then 0 else 1)<30))=bD
 line:(apos.endLine==HL.line)=bD
 trees:Hf HL (js [e,f] X.env)=[(cb,vr e X.env),(cb,vr f X.env)]
abbrev UJ(H:Hp)(a:hH):Prop:=(∃kvs,Rd H a (.dK kvs))\/∃kvs,Rd H a (.dT kvs)
def Dq(I:Inv X i σ H s)(d:UJ H a):
  s.TypeIs (.ref a) "dict"/\(∀b,my a=.ref b->∃c,s.heap.get? b=a5 c/\c.dict=b6)/\(a==OA)=cb:=by
 rcases d with⟨kvs,e⟩|⟨kvs,e⟩
 .obtain⟨_,f,vs,_,dd⟩:=kI I.HR e;show⟨dd.typeIs,λb q=>?_,f⟩;cases q;obtain⟨c,_,_,g,h,_⟩:=dd;show⟨c,g,h.2.1⟩
 .obtain⟨_,f,xs,_,dd⟩:=kJ I.HR e;show⟨dd.typeIs,λb q=>?_,f⟩;cases q;obtain⟨c,_,_,g,h,_⟩:=dd;show⟨c,g,h.2.1⟩
section
def Dr(q:A.units+1<L_)(I:Inv X f σ H s)(g:d9 H a y o)(m:RelV y u)(n:RelV d r)(h:∀p s',Inv X f σ H s'->RelV (o.getD d) p->Q p s'):
  g9 (i5 X.prog X.w) A (Qg (.builtin "dict.get") [.ref a,u,r]) Q E s:=by
 rcases g with⟨kvs,k,e,i,l⟩|⟨kvs,k,b,e,i,t,l⟩
 .subst i;have⟨z,j,vs,c,dd⟩:=kI I.HR e;show Z_ PySem.F.slot_dict_get dd.typeIs PySem.F.entry_dict_get (PySem.F.args_dict_get_3 _ _ _) (meets_dict_get_default (a9 X.prog X.w) a (mK m) j r) ⟨_,dd.mapOf,h _ _ (I.tok _) ?_⟩;rw[l];show(c.val k).getD n
 .subst i;cases(show u=my b from m);have⟨z,j,xs,c,dd⟩:=kJ I.HR e;show Z_ PySem.F.slot_dict_get dd.typeIs PySem.F.entry_dict_get (PySem.F.args_dict_get_3 _ _ _) (meetsH_dict_get_default (Vb (a9 X.prog X.w)) a b j r) ⟨QG q,k,xs,jj I.HR t,dd,h _ _ (I.tok _) ?_⟩;rw[l];show(c.val k).getD n
end
abbrev Ds(d e f:TE):TE:=λσ H Q=>d σ H λx b=>∃a,x=.ref a/\UJ b a/\e σ b λy g=>f σ g λz c=>∃o,d9 c a y o/\Q (o.getD z) c
section
def w_(i:X.A.units+1<L_)(ho:PE X o j)(k:PE X e l)(n:PE X f p)(m:M2 X o "get" apos e f q):PE X (.Call (.Attribute o "get" apos) [e,f] [] q) (Ds j l p):=by
 intro b s σ H Q I h;show wpAny_Call_method m.base m.Ki m.line PySem.F.plainAttrs_dict PySem.F.slot_dict_get PySem.F.type_dict_get (HS (ho b s σ H _ I h) λu s1 r=>?_);have⟨x,t,c,v,a,ex,d,w⟩:=r;subst ex;obtain rfl:u=my a:=v;obtain⟨B,C,_⟩:=Dq c d;show⟨B,C,?_⟩;rw[m.trees];show L0 rfl (M9 (Oa (HS (k b s1 σ t _ c w) λiv s2 ⟨y,D,G,J,L⟩ =>
  Oa (HS (n b s2 σ D _ G L) λfv s3 ⟨z,N,O,T,ov,g,Y⟩=>Qu ?_))))
 show Dr i O g J T λw' s4 I4 Kq=>⟨_,N,I4,Kq,Y⟩
end
section
end
section
end
end L2
namespace Ir
open PySem PySem.Builtin.Str PySem.StrLaws
abbrev low(c:Nat):Bool:=cK (97<=c)&&cK (c<=122)
abbrev dW(l:List Nat):Bool:=cK (1<=l.length)&&cK (l.length<=8)&&l.all low
def bU(l:List Nat):dW l=bD↔1<=l.length/\l.length<=8/\∀c∈l,97<=c/\c<=122:=by
 simp[dW,low,ux,and_assoc]
def iD(h:dW l=bD):47∉l:=λm=>by
 have:=((bU l).mp h).2.2 47 m;lia
def iE{x y:Str}(h:x.cps.toList=y.cps.toList):x=y:=by
 cases x;cases y;congr
 show V1.mp h
def ra(x:Str)(b:x.cps.toList=(i4 26).map (97+·))(c:Nat):(!(wk x ⟨#[c]⟩ 0 x.length 1).isEmpty)=low c:=by
 rw[found_one,b];simp only[low,kl,x4];by_cases h:97<=c/\c<=122
 .have:∃a,a<26/\97+a=c:=⟨c - 97,⋯,⋯⟩
  simp[this,h.1,h.2]
 .have:¬∃a,a<26/\97+a=c:=λ⟨a,d,e⟩=>h ⟨⋯,⋯⟩;simp[this];lia
def nU(x:Str)(c i:Nat):At x ⟨#[c]⟩ x.length i↔x.cps.toList[i]?=a5 c:=subAt_one x c i
def xb(h:x.cps.toList=a++c::b)(j:c∉a)(d:Nat)(hl:1<=d):∃r,wk x ⟨#[c]⟩ 0 x.length d=a.length::r:=by
 have f:x.cps.toList[a.length]?=a5 c:=by rw[h];simp
 rcases occ_head x ⟨#[c]⟩ d hl with⟨_,k⟩|⟨i,r,e,hi,l⟩
 .show absurd ((nU x c a.length).mpr f) (k _)
 .have g:=(nU x c i).mp hi;have:i=a.length:=by
   rcases Nat.lt_trichotomy i a.length with z|z|z
   .exfalso
    rw[h,ro z]at g;show j (tr g)
   .show z
   .show absurd ((nU x c a.length).mpr f) (l _ z)
  subst this;show⟨r,e⟩
def Al(h:x.cps.toList=a++c::b)(d:c∉a):ti x ⟨#[c]⟩=(⟨a.toArray⟩,⟨#[c]⟩,⟨b.toArray⟩):=by
 have⟨r,e⟩:=xb h d 1 (hY _);unfold ti;rw[e];have f:(⟨#[c]⟩:Str).length=1:=rfl;have g:x.length=a.length+1+b.length:=by
  have:=ľ KN h;simp[S7]at this ⊢;lia
 show XC ?_ (XC rfl ?_)
 .apply iE;rw[ZL,h];simp
 .apply iE;change(strSub x (a.length+(⟨#[c]⟩:Str).length) x.length).cps.toList=_;rw[ZL,h,f,g];simp
def rb(h:c∉x.cps.toList):Ql x ⟨#[c]⟩=[x]:=by
 unfold Ql;split
 .rfl
 .rw[Ĺ];rcases occ_head x ⟨#[c]⟩ (x.length+1) ⋯ with⟨e,_⟩|⟨i,r,e,hi,_⟩
  .rw[e];rfl
  .show absurd (tr ((nU x c i).mp hi)) h
def pI(c:Nat)(h:c<256)(x:Str):¬(PySem.Builtin.Str.strKind x<PySem.Builtin.Str.strKind ⟨#[c]⟩):=by
 have e:PySem.Builtin.Str.strKind ⟨#[c]⟩=1:=by simp[PySem.Builtin.Str.strKind,h]
 rw[e];unfold PySem.Builtin.Str.strKind;split
 .lia
 .split<;>lia
def xf(h:x.cps.toList=a++c::b)(d:c∉a)(f:c<256):∃r,Ql x ⟨#[c]⟩=⟨a.toArray⟩::r:=by
 have⟨r,e⟩:=xb h d (x.length+1) ⋯;have g:(⟨#[c]⟩:Str).length=1:=rfl;have k:x.length=a.length+1+b.length:=by
  have:=ľ KN h;simp[S7]at this ⊢;lia
 unfold Ql;rw[ĺ (by
  have i:¬(x.length<(⟨#[c]⟩:Str).length):=by rw[g];lia
  have j:=pI c f x;simp[i,j]),ĺ (by rw[e];simp),partsBetween_eq,e]
 show⟨_,ľ (·::_) ?_⟩;apply iE;rw[ZL,h];simp
abbrev eW(i:Int):Str:=Pl (Wf i)
abbrev Cm:Str:=⟨#[47]⟩
end Ir
namespace L2
open PySem PySem.Spec PyProof.Rows
abbrev bx(env:Env):List (Str×Mu)->List (Str×hH)->List (Str×hH)
 |[],b=>b
 |(n,k)::r,b=>bx env r (if k==.free then(match env.cells.lookup n with|some a=>(n,a)::b|none=>b) else b)
def eE(h:∀y∈scope.names,y.2=.free->∃a,env.cells.lookup y.1=a5 a):closureFor scope env=pure (bx env scope.names []):=by
 unfold closureFor;generalize scope.names=names at h
 suffices H:∀b,(forIn names b (λ(x:Str×Mu) (r:List (Str×hH))=>if (x.2==LO)=bD then do let a <-cellOf env x.1;pure (Pf ((x.1,a)::r)) else pure (Pf r)):Sem (List (Str×hH)))=pure (bx env names b) by
  have:=H [];show ľ (λ(m:Sem (List (Str×hH)))=>m >>= pure) this
 induction names with
 |nil=>intro b;rfl
 |cons y r d =>
  intro b;have⟨n,k⟩:=y;rw[List.forIn_cons];have c:=d λy e=>h y (ki _ e);by_cases hk:(k==LO)=bD
  .have⟨a,f⟩:=h (n,k) mh (by simpa using hk);have g:env.cells.lookup n=a5 a:=f;simp only[hk,if_true,cellOf,g,bx];show c _
  .simp only[hk,if_false,bx];show c _
theorem eX:∀(names:List (Str×Mu)) (b:List (Str×hH)),(∀n c,b.lookup n=a5 c->env.cells.lookup n=a5 c)->∀n c,(bx env names b).lookup n=a5 c->env.cells.lookup n=a5 c
 |[],_,h=>h
 |(m,k)::r,b,h=>by
  unfold bx;show eX r _ λn c e=>?_;by_cases hk:(k==LO)=bD
  .rw[Ĺ hk]at e;cases q:env.cells.lookup m with
   |none=>rw[q]at e;show h n c e
   |some a =>
    rw[q]at e;simp only[rr]at e;cases d:n==m with
    |true =>
     rw[d]at e;have f:n=m:=by simpa using d
     subst f;simp only at e;rw[q];show e
    |false=>rw[d]at e;show h n c e
  .rw[ĺ hk]at e;show h n c e
theorem jE(d:env.cells.lookup n=a5 a):∀(names:List (Str×Mu)) (c:List (Str×hH)),c.lookup n=a5 a->(bx env names c).lookup n=a5 a
 |[],_,h=>h
 |(m,k)::r,c,h=>by
  unfold bx;show jE d r _ ?_;by_cases hk:(k==LO)=bD
  .rw[Ĺ hk];cases q:env.cells.lookup m with
   |none=>show h
   |some b =>
    simp only[rr];cases e:n==m with
    |true =>
     have f:n=m:=by simpa using e
     subst f;rw[d]at q;cases q;rfl
    |false=>show h
  .rw[ĺ hk];show h
theorem hU(b:env.cells.lookup n=a5 a):∀(names:List (Str×Mu)) (c:List (Str×hH)),(n,LO)∈names->(bx env names c).lookup n=a5 a
 |[],_,h=>by cases h
 |(m,k)::r,c,h=>by
  unfold bx;rcases gj.mp h with e|e
  .cases e;show jE b r _ ?_;rw[Ĺ (by decide),b];simp[rr]
  .show hU b r _ e
theorem bO{env:Env}:∀{names:List (Str×Mu)}{x:Str}{k:Mu},
  (names.map λ(n,k)=>if (k==LO&&env.scope.kind==.function&&env.kindOf n==a5 .cell) then(n,LP) else(n,k)).lookup x=a5 k ->
  names.lookup x=a5 k\/(k=.cell/\names.lookup x=a5 .free)
 |[],_,_,h=>by simp at h
 |(n,k0)::r,x,k,h=>by
  have e:=@bO env r x k;rw[il]at h;by_cases b:(k0==LO&&env.scope.kind==.function&&env.kindOf n==a5 .cell)=bD
  .simp only[Ĺ b,rr]at h;cases a:x==n with
   |true =>
    rw[a]at h;have f:k0=.free:=by
     have:=(IE.mp (IE.mp b).1).1;simpa using this
    show .inr ⟨by simpa using h.symm,by simp[rr,a,f]⟩
   |false =>
    rw[a]at h;rcases e h with z|⟨c,d⟩
    .show .inl (by simp[rr,a,z])
    .show .inr ⟨c,by simp[rr,a,d]⟩
  .simp only[ĺ b,rr]at h;cases a:x==n with
   |true=>rw[a]at h;show .inl (by simpa[rr,a] using h)
   |false =>
    rw[a]at h;rcases e h with z|⟨c,d⟩
    .show .inl (by simp[rr,a,z])
    .show .inr ⟨c,by simp[rr,a,d]⟩
theorem jF:∀(names:List (Str×Mu)) (b:List (Str×hH)),(bx env names b).lookup x=a5 c->(x,LO)∈names\/b.lookup x=a5 c
 |[],_,h=>.inr h
 |(m,k)::r,b,h=>by
  unfold bx at h;rcases jF r _ h with z|z
  .show .inl (ki _ z)
  .by_cases hk:(k==LO)=bD
   .rw[Ĺ hk]at z;cases q:env.cells.lookup m with
    |none=>rw[q]at z;show .inr z
    |some a =>
     rw[q]at z;simp only[rr]at z;cases d:x==m with
     |true =>
      have e:x=m:=by simpa using d
      have e2:k=.free:=by simpa using hk
      subst e e2;show .inl mh
     |false=>rw[d]at z;show .inr z
   .rw[ĺ hk]at z;show .inr z
theorem iF:∀(names:List (Str×Mu)) (n:Nat) (a:List (Str×hH)),(NM n names a).lookup x=a5 c->((x,LP)∈names/\@ç Nat _ n c)\/a.lookup x=a5 c
 |[],_,_,h=>.inr h
 |(y,k)::r,n,a,h=>by
  unfold NM at h;by_cases hk:(k==LP)=bD
  .rw[Ĺ hk]at h;have e2:k=.cell:=by simpa using hk
   subst e2;rcases iF r (n+1) _ h with⟨b,d⟩|z
   .show .inl ⟨ki _ b,Nat.le_of_succ_le d⟩
   .simp only[rr]at z;cases e:x==y with
    |true =>
     rw[e]at z;have f:x=y:=by simpa using e
     subst f;cases z;show .inl ⟨mh,hY _⟩
    |false=>rw[e]at z;show .inr z
  .rw[ĺ hk]at h;rcases iF r n a h with⟨b,d⟩|z
   .show .inl ⟨ki _ b,d⟩
   .show .inr z
theorem nV:∀(names:List (Str×Mu)) (n:Nat) (a:List (Str×hH)),(x,LP)∉names->(NM n names a).lookup x=a.lookup x
 |[],_,_,_=>rfl
 |(y,k)::r,n,a,h=>by
  unfold NM;have b:(x,LP)∉r:=λz=>h (ki _ z);by_cases hk:(k==LP)=bD
  .rw[Ĺ hk,nV r _ _ b];have e2:k=.cell:=by simpa using hk
   subst e2;simp only[rr];cases c:x==y with
   |true =>
    have d:x=y:=by simpa using c
    subst d;show absurd mh h
   |false=>rfl
  .rw[ĺ hk,nV r _ _ b]
theorem rf:∀(names:List (Str×Mu)) (n:Nat) (a:List (Str×hH)),(∀(z:Str) (d:hH),a.lookup z=a5 d->@Rj Nat _ d n)->(∀(u v:Str) (d:hH),a.lookup u=a5 d->a.lookup v=a5 d->u=v) ->
  (NM n names a).lookup x=a5 c->(NM n names a).lookup y=a5 c->x=y
 |[],_,_,_,hi,b,f=>hi x y c b f
 |(g,k)::r,n,a,hl,hi,b,f=>by
  unfold NM at b f;by_cases hk:(k==LP)=bD
  .rw[Ĺ hk]at b f;have lk:∀(z:Str) (d:hH),Nr z ((g,(n:hH))::a)=a5 d->(z=g/\d=n)\/a.lookup z=a5 d:=λz d e=>by
    simp only[rr]at e;cases h:z==g with
    |true=>rw[h]at e;cases e;show .inl ⟨by simpa using h,rfl⟩
    |false=>rw[h]at e;show .inr e
   show rf r (n+1) _ (λz d e=>?_) (λu v d i e2=>?_) b f
   .rcases lk z d e with⟨_,q⟩|q
    .rw[q];show Pt _
    .show Rh (hl z d q)
   .rcases lk u d i with⟨j,l⟩|q<;>rcases lk v d e2 with⟨m,p2⟩|p
    .rw[j,m]
    .rw[l]at p;show absurd (hl v n p) (H8 _)
    .rw[p2]at q;show absurd (hl u n q) (H8 _)
    .show hi u v d q p
  .rw[ĺ hk]at b f;show rf r n a hl hi b f
theorem nW:∀(names:List (Str×Mu)) (h:K1) (a:List (Str×hH)),(NM h.objs.size names a).lookup x=a5 c->(Sq h names).IsCell c b6\/a.lookup x=a5 c
 |[],_,_,e=>.inr e
 |(y,k)::r,h,a,e=>by
  unfold NM at e;unfold Sq;by_cases hk:(k==LP)=bD
  .rw[Ĺ hk]at e ⊢;have hs:h.objs.size+1=(h.push {cls:=.type "cell",data:=.cell b6}).objs.size:=by rw[NY]
   rw[hs]at e;rcases nW r _ _ e with z|z
   .show .inl z
   .simp only[rr]at z;cases b:x==y with
    |true =>
     rw[b]at z;cases z;show .inl ⟨_,YP r _ _ _ (fx _ rfl),rfl⟩
    |false=>rw[b]at z;show .inr z
  .rw[ĺ hk]at e ⊢;show nW r h a e
abbrev Lp(X:Cx)(scope:M0)(C:hH):List (Str×hH):=NM (C+1) scope.names (bx X.env scope.names [])
abbrev Jo(X:Cx)(N:List Str)(scope:M0)(C:hH)(s:hW)(H:Hp)(ex:List hH):Cx where
 prog:=X.prog
 w:=X.w
 K:=X.K
 mg:=X.mg
 base:=X.base
 A:=X.A
 N:=N
 s₀:=s
 H₀:=H
 env:=WW scope (Lp X scope C) C X.env
 outer:=X.stack
 stack:=X.stack
 ex:=ex
 fn:=λx=>cK (scope.names.lookup x=a5 .cell)
 calm:=X.calm
 pn:=[]
 xe:=λ_ _=>False
abbrev d_(D N:List Str):Prop:=D.length=N.length/\∀(i:Nat) (y:Str),D[i]?=a5 y->N[i]?=a5 y\/y="."\/y=".."
def d_.refl(N:List Str):d_ N N:=⟨rfl,λ_ _ h=>.inl h⟩
def d_.set{D N:List Str}(h:d_ D N)(j:Nat){m:Str}(b:m="."\/m=".."):d_ (D.set j m) N:=by
 show⟨by rw[å];show h.1,λi y e=>?_⟩;by_cases a:j=i
 .subst a;rw[List.getElem?_set,Ĺ rfl]at e;split at e
  .cases e;show .inr b
  .cases e
 .rw[i7 a]at e;show h.2 i y e
structure cR(X:Cx)(N own:List Str)(scope:M0):Prop where
 kind:scope.kind=.function
 uq:∀y∈scope.names,scope.names.lookup y.1=a5 y.2
 cl:∀y∈scope.names,y.2=.cell->y.1∈own
 nd:N.Nodup
 pre:N.take own.length=own
 loc:∀y∈scope.names,y.2=.local->y.1∈own\/y.1=".0"
 Wh:(".0":Str)∉N
 tail:d_ (N.drop own.length) X.N
 free:∀y∈scope.names,y.2=.free->X.env.scope.names.lookup y.1=a5 .cell\/X.env.scope.names.lookup y.1=a5 .free
 dot:∀y∈scope.names,y.1≠"."/\y.1≠".."
def mem_lookup{names:List (Str×Mu)}(h:names.lookup x=a5 k):(x,k)∈names:=PySem.mem_of_lookup h
def cR.names(S:cR X N a scope):∀y∈scope.names,y.2=.local->scope.names.lookup y.1=a5 .local:=λy b e=>e▸S.uq y b
def cR.no(S:cR X N a scope)(h:scope.names.lookup x=a5 .free):(x,LP)∉scope.names:=λz=>by
 have:=S.uq _ z;rw[h]at this;cases this
def cR.cells(S:cR X N c scope)(b:X.Ok):∀y∈scope.names,y.2=.free->∃a,X.env.cells.lookup y.1=a5 a:=λy d e=>by
 rcases S.free y d e with z|z
 .show b.has y.1 (.inl z)
 .show b.has y.1 (.inr z)
def xg(S:cR X N f scope)(I:Inv X D σ H s)
  (B:s.heap.objs.size<=C) (Md:∀x c,(Lp X scope C).lookup x=a5 c->s4.heap.IsCell c b6\/(bx X.env scope.names []).lookup x=a5 c) (Kh:s4.os=s.os) (hg:s4.gens=s.gens) (keep:∀b o,s.heap.get? b=a5 o->s4.heap.get? b=a5 o) (ns:∃m,s4.heap.Ns C m)
  (g:∀b∈ex,g_ X D H b/\b<s.heap.objs.size):Inv (Jo X N scope C s H ex) [] (mu f.length b6++σ) H s4:=by
 have⟨m0,Pc⟩:=ns;have sub:=eX (env:=X.env) scope.names [] (λn c e=>by simp at e);have Wi:∀(x:Str) (c:hH),(bx X.env scope.names []).lookup x=a5 c->c<s.heap.objs.size:=λx c e=>by
  obtain⟨v,o,ho,_⟩:=I.cell x c (sub x c e);show i9 ho
 have L:∀(x:Str) (c:hH),(Lp X scope C).lookup x=a5 c->C<c\/(bx X.env scope.names []).lookup x=a5 c:=λx c e=>(iF _ _ _ e).imp (λz=>z.2) id;have T:∀b∈ex,b<C:=λb t=>ku (g b t).2 B;have tl:f.length<=N.length:=by have:=ľ KN S.pre;rw[tj]at this;lia
 show⟨⟨I.ok.mod,?_,I.ok.glob,I.ok.blt,B,λx y c w A=>rf _ _ _ (λz d e=>Rh (ku (Wi z d e) B)) (λu v d G e2=>I.ok.inj u v d (sub u d G) (sub v d e2)) w A,λx hx=>?_,λx c h e=>?_,I.ok.hd,I.ok.frames,.inl rfl,λb t=>⟨kj (T b t),λx c e=>?_⟩,λb o e=>I.bs b o e,?_,λb o e t=>?_,λb t=>?_,I.stack,I.iu⟩,
  Kh,(by rw[hg];show I.bare),Un.kept keep,⟨m0,Pc,λi y v w A h3=>?_⟩,λx c e=>?_,I.HR.fresh B,λx c e=>?_,λp hp=>absurd (show p∈([]:List (hH×Obj)) from hp) (by simp),I.HR.kept keep,?_⟩
 .change(TR scope X.env).kind=.function;show S.kind
 .
  have Sh:(TR scope X.env).names.lookup x=a5 .cell\/(TR scope X.env).names.lookup x=a5 .free:=hx;have Ij:scope.names.lookup x=a5 .cell\/scope.names.lookup x=a5 .free:=by
   rcases Sh with z|z
   .rcases bO z with q|⟨_,q⟩
    .show .inl q
    .show .inr q
   .rcases bO z with q|⟨q,_⟩
    .show .inr q
    .cases q
  rcases Ij with Ij|Ij
  .show PD.mp (PySem.W.cellsFrom_some scope.names (C+1) _ (.inl Ij))
  .have⟨a,ha⟩:=S.cells I.ok (x,.free) (mem_lookup Ij) rfl;show⟨a,(nV _ _ _ (S.no Ij)).trans (hU ha scope.names [] (mem_lookup Ij))⟩
 .have h':scope.names.lookup x=a5 .cell:=Ŀ h;rcases L x c e with z|z
  .show B' B (Ol z)
  .rcases jF _ _ z with z|z
   .have:=S.uq _ z;rw[h']at this;cases this
   .simp at z
 .rcases L x c e with z|z
  .show λq=>absurd (VW (T b t) z) (by rw[q];show H8 _)
  .show(g b t).1.2.2.2.2.1 x c (sub x c z)
 .show B' I.ok.L9 I.sz
 .have⟨f0,Y,f2,f3,f4,f5⟩:=(g b t).1;rcases f3 with z|z
  .show I.ok.KZ b o e z
  .show absurd (ku (i9 e) (B' I.ok.L9 z)) (H8 _)
 .intro KO;have⟨f0,Y,f2,f3,f4,f5⟩:=(g b t).1;rcases gj.mp (I.km b KO) with z|z
  .show Y z
  .show f2 z
 .
  have hi:f.length<=i:=by
   by_cases hi:i<f.length
   .rw[ro (by simpa using hi),LC]at A;split at A<;>cases A
   .lia
  rw[nH (by simpa using hi),Ro]at A;have Wj:(N.drop f.length)[i - f.length]?=a5 y:=by
   rw[J3];have e:f.length+(i - f.length)=i:=by lia
   rw[e];show w
  have Ow:(TR scope X.env).names.lookup y=a5 .local\/(TR scope X.env).names.lookup y=a5 .cell\/(TR scope X.env).names.lookup y=a5 .free:=h3;have M4:∀y:Str,y∈f->N[i]?=a5 y->False:=λy O w=>by
   have⟨j,hj,ej⟩:=RX O;have K3:N[j]?=a5 y:=by
    have G:(N.take f.length)[j]?=a5 y:=by rw[S.pre,H4 hj,ej]
    rw[PH hj]at G;show G
   have:=iw S.nd K3 w;lia
  have Ij:scope.names.lookup y=a5 .free:=by
   rcases Ow with z|z|z
   .rcases bO z with q|⟨q,_⟩
    .exfalso
     have O:y∈f:=by
      rcases S.loc (y,.local) (mem_lookup q) rfl with z|z
      .show z
      .have z':y=".0":=z;show absurd (tr w) (by rw[z'];show S.Wh)
     show M4 y O w
    .cases q
   .rcases bO z with q|⟨_,q⟩
    .show(M4 y (S.cl _ (mem_lookup q) rfl) w).elim
    .show q
   .rcases bO z with q|⟨q,_⟩
    .show q
    .cases q
  have hX:X.N[i - f.length]?=a5 y:=by
   rcases S.tail.2 _ _ Wj with e|e|e
   .show e
   .show absurd e (S.dot _ (mem_lookup Ij)).1
   .show absurd e (S.dot _ (mem_lookup Ij)).2
  have⟨m,hn,hl⟩:=I.loc;have hv:X.env.scope.names.lookup y=a5 .cell\/X.env.scope.names.lookup y=a5 .free:=S.free (y,.free) (mem_lookup Ij) rfl;have⟨u,r,l⟩:=hl _ y v hX A (.inr hv);show⟨u,r,?_⟩;rcases l with⟨k,_⟩|⟨k,c,e,z⟩
  .have k':X.env.scope.names.lookup y=a5 .local:=k;rcases hv with q|q<;>(rw[k']at q;cases q)
  .have hk:(TR scope X.env).names.lookup y=a5 .cell\/(TR scope X.env).names.lookup y=a5 .free:=by
    rcases Ow with q|q|q
    .rcases bO q with J|⟨J,_⟩
     .rw[Ij]at J;cases J
     .cases J
    .show .inl q
    .show .inr q
   have⟨o,ho,Q⟩:=z;show .inr ⟨hk,c,(nV _ _ _ (S.no Ij)).trans (hU e scope.names [] (mem_lookup Ij)),o,keep c o ho,Q⟩
 .rcases Md x c e with z|z
  .show⟨_,z⟩
  .have⟨v,o,ho,Q⟩:=I.cell x c (sub x c z);show⟨v,o,keep c o ho,Q⟩
 .rcases L x c e with z|z
  .show I.HR.fresh (B' B (Ol z))
  .show I.Iz x c (sub x c z)
 .rw[j0,Ro,I.len];have e:N.length=f.length+(N.drop f.length).length:=by rw[Rw];lia
  change _=N.length;rw[e,S.tail.1]
def pJ(I:Inv X f σ H s)
  (d:Inv (Jo X N scope C s H ex) Q T l s4) (w:s.heap.objs.size<=D) (x:s.heap.objs.size<=C) (y:D≠C) (h:l D=b6) (rv:Vals ys p) (pl:s4.heap.PlainList D p.toArray) (hl:ys.length<=cL)
  (i:KH C s4.heap h') (m:∀b∈ex,g_ X f H b):Inv X f σ (upd l D (.lst ys)) {s4 with heap:=h' }:=by
 have r:l C=b6:=d.free;have lt:∀{b:hH} {o:Obj},s.heap.get? b=a5 o->b≠C/\b≠D:=λe=>⟨kj (ku (i9 e) x),kj (ku (i9 e) w)⟩
 show I.B_ (s':={s4 with heap:=h' }) (ch:=ex) d.os ⟨λb o e n j g=>?_,λb o e n j g=>?_,λb o e n g=>?_,λb o e g=>?_,λb xs e=>?_,λb o u e=>?_,λb ps e=>?_⟩ (λa o e=>?_) d.bare λb j=>?_
 .show(i.2 b (lt e).1).trans (d.base.keep b o e n j g)
 .have⟨A,q⟩:=d.base.slot b o e n j g;show⟨A,(i.2 b (lt e).1).trans q⟩
 .rw[ak (lt e).2];show d.base.free b o e n g
 .have⟨o',q⟩:=d.base.there b o e g;show⟨o',(i.2 b (lt e).1).trans q⟩
 .have q:=d.base.gN b xs e;rw[ak (bF q h)];show q
 .have q:=d.base.Jl b o u e;rw[ak (bF q h)];show q
 .have⟨k,q⟩:=d.base.Jt b ps e;show⟨k,by rw[ak (bF q h)];show q⟩
 .by_cases t:a=D
  .subst t;rw[aq]at e;cases e;have⟨n,q⟩:=pl;show⟨hl,p,n,rv,(i.2 _ y).trans q⟩
  .rw[ak t]at e;show(d.HR a o e).kh (λc v B q=>(i.2 c ?_).trans q) (λc q=>?_) λc xs q=>?_
   .rintro rfl;rcases B with z|z
    .rw[<-z,r]at e;cases e
    .rw[r]at z;cases z
   .rw[ak (bF q h)];show q
   .rw[ak (bF q h)];show q
 .have⟨Y,G,f2,J,L,O⟩:=m b j;show⟨J,G,L,O⟩
section
def nX(I:Nat->hW->Prop)
  (b:∀n s,I n s->g9 (i5 prog w) A (Sy it) (λr d=>match r with
   |none=>R (.ok .next) d
   |some v=>g9 (i5 prog w) A (Ud a it v) (λ_ d=>g9 (i5 prog w) A (Sz a env v) (λ_ k =>
     g9 (i5 prog w) A (forIn f bD λc r=>if r=bD then do let ok <-isTrue c env (vr c env);pure (Pf ok) else pure (Pf r)) (λok j =>
      if ok=bD then g9 (i5 prog w) A (vr elt env) (λx l =>
       g9 (i5 prog w) A (Qg (.builtin "list.append") [g,x]) (λ_ o=>∃m,m<n/\I m o) (TU (i5 prog w) A env λe s'=>R (.error e) s') l) (TU (i5 prog w) A env λe s'=>R (.error e) s') j
      else ∃m,m<n/\I m j) (TU (i5 prog w) A env λe s'=>R (.error e) s') k) (TU (i5 prog w) A env λe s'=>R (.error e) s') d) (TU (i5 prog w) A env λe s'=>R (.error e) s') d) (TU (i5 prog w) A env λe s'=>R (.error e) s') s)
  (n:Nat) (h:I n s) :
  R3 (i5 prog w) A (.compLoop (.ListComp elt [⟨a,i,f,0⟩] scope pos) 0 it g env) R s:=by
 show codeAny_loop rfl I (λn s t=>?_) n h;change g9 _ A ((compTurn (.ListComp elt [⟨a,i,f,0⟩] scope pos) 0 it g env).onRaise (λx=>do noteFrame x env;theTreesLotGoes x)) _ _ s;show wpAny_noted ?_;rw[compTurn_list];show b7 (ZF (b7 (uv (b n s t) (λr d p=>?_) λ_ _ h'=>h')));cases r with
 |none=>show dt p
 |some v =>
  show b7 (uv p (λ_ C u=>?_) λ_ _ h'=>h');show b7 (uv u (λ_ k y=>b7 (uv y (λok j q=>?_) λ_ _ h'=>h')) λ_ _ h'=>h');cases ok with
  |false=>show dt ⟨rfl,q⟩
  |true =>
   show b7 (b7 (uv q (λx l z=>b7 (uv z (λ_ o B=>dt (dt ⟨rfl,B⟩)) λ_ _ h'=>h')) λ_ _ h'=>h'))
end
abbrev Mx(X:Cx)(b:List pb)(t:TT):Prop :=
 ∀(a:List (hH×Obj)) (s:hW) (σ:St) (H:Hp) (Q:Bool->Hp->Prop),Inv X a σ H s->t σ H Q ->
  g9 (i5 X.prog X.w) X.A (forIn b bD λc r=>if r=bD then do let d <-isTrue c X.env (vr c X.env);pure (Pf d) else pure (Pf r)) (TP X a σ Q) X.xe s
abbrev Hr:TT:=λ_ H Q=>Q bD H
def sX:Mx X [] Hr:=λ_ _ _ H _ I h=>wpAny_tests_nil ⟨H,I,h⟩
def sY(h:PT X c t):Mx X [c] t:=λa s σ H Q I q=>wpAny_tests_one (h a s σ H Q I q)
abbrev sZ(k:Nat)(J:It)(g:TG)(j:TT)(te:TE)(Q:VK)(σ:St)(l:Hp):Prop :=
  ∃W:Nat->Nat->List V->Hp->Prop,(∃m,W 0 m [] l)/\∀i m ys H,W i m ys H->ys.length<=cL /\
    ((J.stop i H/\∀p,H p=b6->Q (.ref p) (upd H p (.lst ys))) \/
     (J.go i H/\∃c:List V->Hp->Prop,(∀e H',c e H'->∃f,f<m/\W (i+1) f e H')/\∀x H',J.Qz i H x H'->g x (mu k b6++σ) H' λd n=>∃a:St,a.length=k/\d=a++σ /\
        j d n λb h=>if b=bD then te d h λy o=>c (ys++[y]) o else c ys h))
abbrev xh(k:Nat)(a:TI)(g:TG)(b:TT)(te:TE):TE:=λσ H Q=>a σ H λJ c=>sZ k J g b te Q σ c
section
def xi
  (S:cR X N B scope) (hc:X.calm=bD) (hg:∀C s H ex,PG (Jo X N scope C s H ex) tg g) (hf:∀C s H ex,Mx (Jo X N scope C s H ex) ac tt) (he:∀C s H ex,PE (Jo X N scope C s H ex) elt te)
  (I:Inv X ag σ H s) (T:Turn X.prog X.w X.K tg J G it tn) (st:tn 0 s.heap) (f2:∀b∈G,g_ X ag H b) (W:sZ B.length J g tt te Q σ H)
  (hD:@Eq Nat D s.heap.objs.size) (hC:@Eq Nat C (s.heap.objs.size+1)) (Md:∀x c,(Lp X scope C).lookup x=a5 c->s4.heap.IsCell c b6\/(bx X.env scope.names []).lookup x=a5 c) (Kh:s4.os=s.os) (Wm:s4.gens=s.gens) (keep:∀b o,s.heap.get? b=a5 o->s4.heap.get? b=a5 o) (ns:∃m,s4.heap.Ns C m) (pl:s4.heap.PlainList D #[])
  (al:∀s5 O ys k,Inv (Jo X N scope C s H G) [] (mu B.length b6++σ) O s5->O D=b6->Vals ys k->s5.heap.PlainList D k.toArray->ys.length<=cL->(∀p,O p=b6->Q (.ref p) (upd O p (.lst ys)))->R (.ok .next) s5) :
  R3 (i5 X.prog X.w) X.A (.compStart (.ListComp elt [⟨tg,am,ac,0⟩] scope pos) 0 (.ref it) (.ref D) (WW scope (Lp X scope C) C X.env)) R s4:=by
 have LF:∀b∈G,@Rj Nat _ b s.heap.objs.size:=λb h=>by
  obtain⟨o,e,_⟩:=T.obj 0 s.heap st b h;show i9 e
 have I4:Inv (Jo X N scope C s H G) [] (mu B.length b6++σ) H s4:=xg S I ⋯ Md Kh Wm keep ns λb h=>⟨f2 b h,LF b h⟩
 have Ox:tn 0 s4.heap:=T.keep 0 s.heap s4.heap st λb _ o e=>keep b o e;have nD:H D=b6:=I.HR.fresh ⋯;obtain⟨W,⟨m0,w0⟩,Ù⟩:=W;generalize l:Jo X N scope C s H G=f at I4 al;have eP:f.prog=X.prog:=by rw[<-l];rfl
 have ew:f.w=X.w:=by rw[<-l];rfl
 have eK:f.K=X.K:=by rw[<-l];rfl
 have ec:f.calm=bD:=by rw[<-l];show hc
 have eA:f.A=X.A:=by rw[<-l];rfl
 have ee:f.env=WW scope (Lp X scope C) C X.env:=by rw[<-l];rfl
 have Si:f.xe=λ_ _=>False:=by rw[<-l];rfl
 have el:f.env.locals=C:=by rw[ee];rfl
 have QH:PG f tg g:=by rw[<-l];show hg _ _ _ _
 have Wn:Mx f ac tt:=by rw[<-l];show hf _ _ _ _
 have Sj:PE f elt te:=by rw[<-l];show he _ _ _ _
 have s0:f.s₀=s:=by rw[<-l];rfl
 have Pe:f.pn=[]:=by rw[<-l];rfl
 have Sk:∀{H':Hp} {o:Obj},(∀b∈G,H' b=b6)->∀b∈G,g_ f [(D,o)] H' b:=λ{H' o} hn b h=>by
  have ex:f.ex=G:=by rw[<-l];rfl
  show⟨hn b h,?_,?_,.inl (by rw[ex];show h),λx c e=>?_,λp L=>?_⟩
  .rw[el];have:=LF b h;show kj (by change @Rj Nat _ b C;lia)
  .have e1:f.fs=IH X.stack:=by rw[<-l];rfl
   rw[e1];intro z;have⟨f0,f1,Wo,f3,f4,f5⟩:=f2 b h;rcases gj.mp (I.km b z) with q|q
   .show f1 q
   .show Wo q
  .have e1:f.env.cells=Lp X scope C:=by rw[ee];rfl
   rw[e1]at e;rcases iF _ _ _ e with z|z
   .have:=LF b h;have:=z.2;show Mm (by change @Rj Nat _ b c;lia)
   .show(f2 b h).2.2.2.2.1 x c (eX scope.names [] (λn c e=>by simp at e) x c z)
  .rw[Pe,nC]at L;have:p=(D,o):=by simpa using L
   subst this;have:=LF b h;show Mm (by change @Rj Nat _ b D;lia)
 have Sl:∀{σ':St} {H':Hp} {s':hW} {o:Obj},Inv f [] σ' H' s'->H' D=b6->s'.heap.get? D=a5 o->(∀v,o.data≠.cell v)->Inv f [(D,o)] σ' H' s':=λ{σ' H' s' o} I' n e d =>
  I'.gw λp L=>by
   have:p=(D,o):=by simpa using L
   subst this;show⟨e,n,?_,?_,d⟩
   .rw[el];show kj (by change @Rj Nat _ D C;lia)
   .have e1:f.fs=IH X.stack:=by rw[<-l];rfl
    rw[e1];intro z;have zz:(D:hH)∈IH X.stack:=z;rcases gj.mp (I.km D zz) with q|q
    .have:=I.lt;rw[<-q]at this;show absurd this (by change ¬@Rj Nat _ D s.heap.objs.size;lia)
    .show I.E8 (a:=D) ⋯ q
 have start:∀s':hW,s'=s4->R3 (i5 X.prog X.w) X.A (.compLoop (.ListComp elt [⟨tg,am,ac,0⟩] scope pos) 0 (.ref it) (.ref D) (WW scope (Lp X scope C) C X.env)) R s':=by
  rintro s' rfl;show nX (λn s'=>∃i ys k H',Inv f [] (mu B.length b6++σ) H' s'/\tn i s'.heap/\(∀b∈G,H' b=b6)/\H' D=b6/\Vals ys k/\s'.heap.PlainList D k.toArray/\W i n ys H') ?_ m0
   ⟨0,[],[],H,I4,Ox,λb h=>(f2 b h).1,nD,.nil,pl,w0⟩
  rintro n s3 ⟨i,ys,k,H3,I3,IA,O5,UL,QI,⟨nn,Wq⟩,w3⟩;have⟨Y,KP⟩:=Ù i n ys H3 w3;have IP:=Sl I3 UL Wq (λv z=>by have z':Data.seq _ _=Ñ v:=z;cases z');rcases KP with⟨an,qn⟩|⟨go,NN,UM,ap⟩
  .have d:=T.done f eP ew eK ec i _ s3 _ H3 (TU (i5 X.prog X.w) X.A (WW scope (Lp X scope C) C X.env) λe s'=>R (.error e) s') IP (Sk O5) IA an;rw[eA]at d;show HS d λr s4 Sm=>?_;have⟨hr,I5⟩:=Sm;subst hr;have e5:=(I5.pin (D,({cls:=.type "list",data:=.seq k.toArray nn}:Obj)) (by rw[Pe];simp)).1;show al s4 H3 ys k (I5.gw λp L=>by cases L) UL QI ⟨nn,e5⟩ Y qn
  .have d:=T.item f eP ew eK ec i _ s3 _ H3 (TU (i5 X.prog X.w) X.A (WW scope (Lp X scope C) C X.env) λe s'=>R (.error e) s') IP (Sk O5) IA go;rw[eA]at d;show HS d λr s4 Sn=>?_;have⟨u,hr,h4⟩:=Sn;subst hr;show HS h4 λ_ s5 So=>?_;have⟨x,O,I5,r5,y5,Ln,RN⟩:=So;have YR:O D=b6:=(I5.pin (D,({cls:=.type "list",data:=.seq k.toArray nn}:Obj)) (by rw[Pe];simp)).2.1;have RO:=I5.pinned (Sk RN) (T.obj _ _ Ln);have a6:=QH _ s5 _ O x u _ RO r5 (ap x O y5);rw[eP,ew,eA,ee,Si]at a6;show uv a6 (λ_ s6 ⟨σ6,H6,I6,q6⟩=>?_) λ_ _ z=>Lb z;have⟨ow,as,rfl,q6⟩:=q6;have a7:=Wn _ s6 _ H6 _ I6 q6;rw[eP,ew,eA,ee,Si]at a7;show uv a7 (λb s7 ⟨H7,I7,q7⟩=>?_) λ_ _ z=>Lb z;have back:∀{s8:hW} {t:Hp} {JX:List V} {its':List dV} {nn':Nat},Inv f [] (ow++σ) t s8->tn (i+1) s8.heap->(∀b∈G,t b=b6)->t D=b6->Vals JX its'->s8.heap.PlainList D its'.toArray->(∃m',m'<n/\W (i+1) m' JX t) ->
     ∃m,m<n/\∃i ys k H',Inv f [] (mu B.length b6++σ) H' s8/\tn i s8.heap/\(∀b∈G,H' b=b6)/\H' D=b6/\Vals ys k/\s8.heap.PlainList D k.toArray/\W i m ys H':=λ{s8 t JX its' nn'} I8 Wr Ws n8 Wt Wu w8=>by
    have⟨m',hm,w8⟩:=w8;show⟨m',hm,i+1,JX,its',t,I8.weak (by simp[as]) (λj v e=>?_),Wr,Ws,n8,Wt,Wu,w8⟩;by_cases hj:j<B.length
    .rw[ro (by simpa using hj),LC]at e;split at e<;>cases e
    .rw[nH (by simpa using(Nat.not_lt.mp hj)),Ro]at e;rw[nH ⋯,as];show e
   have ab:∀{σ':St} {t:Hp} {s8:hW},Inv f ([(D,({cls:=.type "list",data:=.seq k.toArray nn}:Obj))]++kr G s5.heap) σ' t s8->s8.heap.get? D=a5 {cls:=.type "list",data:=.seq k.toArray nn}/\t D=b6/\tn (i+1) s8.heap/\∀b∈G,t b=b6:=λ{σ' t s8} I8=>by
    have p1:=I8.pin (D,({cls:=.type "list",data:=.seq k.toArray nn}:Obj)) (by rw[Pe];simp);show⟨p1.1,p1.2.1,T.keep _ _ _ Ln λb h o e=>(I8.pin (b,o) (va _ (va _ (eU h e)))).1,λb h=>?_⟩;have⟨o,e,d⟩:=T.obj _ _ Ln b h;show(I8.pin (b,o) (va _ (va _ (eU h e)))).2.1
   cases b with
   |false =>
    rw[ĺ mx]at q7 ⊢;have⟨p1,p2,p3,p4⟩:=ab I7;show back (nn':=0) (I7.gw λp L=>by cases L) p3 p4 p2 QI ⟨nn,p1⟩ (UM _ _ q7)
   |true =>
    rw[Ĺ rfl]at q7 ⊢;have a8:=Sj _ s7 _ H7 _ I7 q7;rw[eP,ew,eA,ee,Si]at a8;show uv a8 (λy s8 ⟨yv,t,I8,r8,q8⟩=>?_) λ_ _ z=>Lb z;have⟨p1,p2,p3,p4⟩:=ab I8;have hsz:k.toArray.size<=cL:=by rw[hQ,<-QI.length];show Y
    show wpAny_list_append_plain (hsz:=hsz) ⟨nn,p1⟩ λh9 Wv UN=>?_;have Ww:Inv f [] (ow++σ) t s8:=I8.gw λp L=>by cases L
    have QJ:∀x c,f.env.cells.lookup x=a5 c->c≠D:=λx c e=>by
     have e1:f.env.cells=Lp X scope C:=by rw[ee];rfl
     rw[e1]at e;rcases iF _ _ _ e with z|z
     .have:=z.2;show Mm (by change @Rj Nat _ D c;lia)
     .have⟨v,z⟩:=I.cell x c (eX scope.names [] (λn c e=>by simp at e) x c z);have:@Rj Nat _ c s.heap.objs.size:=z.lt;show kj (by change @Rj Nat _ c D;lia)
    have I9:Inv f [] (ow++σ) t {s8 with heap:=h9,toks:=s8.toks}:=Ww.turned (it:=D) (λb o h e=>(UN.2 b h).trans e) p2 (by rw[el];show kj (by change @Rj Nat _ D C;lia)) (.inr (by rw[s0];change @ç Nat _ s.heap.objs.size D;lia)) QJ (λp L=>by rw[Pe]at L;cases L);have Wx:(k++[y]).toArray=k.toArray.push y:=by simp
    show back (nn':=0) (s8:={s8 with heap:=h9,toks:=s8.toks}) I9 (T.keep _ _ _ p3 λb h o e=>(UN.2 b ?_).trans e) p4 p2 (QI.append (.cons r8 .nil)) (by rw[Wx];show Wv) (UM _ _ q8);have:=LF b h;show kj (by change @Rj Nat _ b D;lia)
 show codeAny_compStart_list (start _ rfl) (T.self _ _ _ _ _ Ox (start _ rfl))
def rg
  (f:Q (newEnv scope s.heap.objs.size b (NM (s.heap.objs.size+1) scope.names cl) d b6 .none (a5 c) a) {s with heap:=Sq (s.heap.push {cls:=.type "dict",data:=.dict #[]}) scope.names}) :
  g9 M A (Zq scope b cl [] d b6 .none (a5 c) a) Q E s:=by
 simp only[Zq,ZC,if_true];show b7 (wpAny_alloc ?_);show b7 (wpAny_layCells _ (λname kind e=>by cases g:kind==LP<;>simp[g]) _ _ _ _ ?_);rw[show({s with heap:=s.heap.push {cls:=.type "dict",data:=.dict #[]}}:hW).heap.objs.size=s.heap.objs.size+1 from NY ..];show b7 ?_;rw[List.forIn_nil];show dt (dt f)
def kK{RR:dV->hH->Result->hW->Prop}
    (S:cR X N f scope) (B:X.calm=bD) (G:∀C s H ex,PG (Jo X N scope C s H ex) r g) (L:∀C s H ex,Mx (Jo X N scope C s H ex) l O) (Y:∀C s H ex,PE (Jo X N scope C s H ex) elt te)
 (I:Inv X h σ H s) (T:Turn X.prog X.w X.K r J t it tn) (st:tn 0 s.heap) (f2:∀b∈t,g_ X h H b) (W:sZ f.length J g O te Q σ H)
    (m:∀D C i d ys k,@Eq Nat D s.heap.objs.size->@Eq Nat C (s.heap.objs.size+1)->Inv (Jo X N scope C s H t) [] (mu f.length b6++σ) d i->d D=b6->Vals ys k->i.heap.PlainList D k.toArray->ys.length<=cL->(∀p,d p=b6->Q (.ref p) (upd d p (.lst ys)))->RR (.ref D) C (.ok .next) i) :
    g9 (i5 X.prog X.w) X.A (ă []) (λj s₃=>g9 (i5 X.prog X.w) X.A (Zq scope X.env.globals (bx X.env scope.names []) [] X.env.qual b6 .none (a5 X.env)) (λu s₄ =>
      R3 (i5 X.prog X.w) X.A (.compStart (.ListComp elt [⟨r,v,l,0⟩] scope pos) 0 (.ref it) j {u with scope:=TR scope X.env}) (RR j u.locals) s₄) E s₃) E s:=by
  show sx (rg ?_)
  dsimp only
  generalize n:s.heap.push {cls:=.type "list",dict:=b6,data:=.seq ([]:List dV).toArray}=a;have y:a.objs.size=s.heap.objs.size+1:=by rw[<-n,NY]
  have z:∀b o,a.get? b=a5 o->(Sq (a.push {cls:=.type "dict",data:=.dict #[]}) scope.names).get? b=a5 o:=λb o e=>YP _ _ b o (c4 _ e);have q:∀b o,s.heap.get? b=a5 o->(Sq (a.push {cls:=.type "dict",data:=.dict #[]}) scope.names).get? b=a5 o:=λb o e=>z b o (n▸c4 _ e);have J9:(Sq (a.push {cls:=.type "dict",data:=.dict #[]}) scope.names).PlainList s.heap.objs.size #[]:=⟨_,z _ _ (n▸fx _ rfl)⟩
  have Md:∀x c,(Lp X scope a.objs.size).lookup x=a5 c->(Sq (a.push {cls:=.type "dict",data:=.dict #[]}) scope.names).IsCell c b6\/(bx X.env scope.names []).lookup x=a5 c:=λx c e=>by
    show nW scope.names (a.push {cls:=.type "dict",data:=.dict #[]}) _ ?_;rw[NY];show e
  show xi (s:=s) (s4:={s with heap:=Sq (a.push {cls:=.type "dict",data:=.dict #[]}) scope.names}) (C:=a.objs.size) (D:=s.heap.objs.size) S B G L Y I T st f2 W rfl y Md rfl rfl q ⟨_,(Heap.Ns.new a (.type "dict")).keeps (YP _ _)⟩ J9
    λi d ys k I5 n5 Ph Pj Pk q5=>m _ _ i d ys k rfl y I5 n5 Ph Pj Pk q5
def Am(S:cR X N c scope)(n:X.calm=bD)(hi:PI X i a o)(p:∀C s H ex,PG (Jo X N scope C s H ex) i g)(q:∀C s H ex,Mx (Jo X N scope C s H ex) d r)(t:∀C s H ex,PE (Jo X N scope C s H ex) elt te)
  (hs:∀x,NQ a X.env x=pure x:=by intro _;rfl):PE X (.ListComp elt [⟨i,a,d,0⟩] scope pos) (xh c.length o g r te):=by
 intro b s σ H Q I h;rw[eval_ListComp];show ZH (use:=b6) (cl:=bx X.env scope.names []) rfl hs (eE (S.cells I.ok)) S.kind S.names ?_;show HS (hi b s σ H _ I h) λv s1 u=>HS u λQA s2 y=>?_;have⟨it,fp,tn,J,H2,e,j,T,st2,k,W⟩:=y;subst e;show kK (RR:=λf C=>compPost (i5 X.prog X.w) X.A X.xe b6 (EP X b σ Q) f C) S n p q t j T st2 k W ?_;intro D C s5 H5 ys G' z hC l m B G L O;obtain⟨Y,Ss,_⟩:=l.loc;show⟨Y,Ss,λh' sb=>⟨.ref D,_,pJ j l (VY z.symm) (by change @ç Nat _ s2.heap.objs.size C;lia) (kj (by change @Rj Nat _ D C;lia)) m B G L sb k,rfl,O D m⟩⟩
def An(S:cR X N r scope)(hc:X.calm=bD)(hN:X.N.Nodup)(QK:X.N[i]?=a5 y)(L:X.env.scope.names.lookup y=a5 .local)
  (hi:PI X n d wi) (hg:∀C s H ex,PG (Jo X N scope C s H ex) n g) (hf:∀C s H ex,Mx (Jo X N scope C s H ex) k tt) (he:∀C s H ex,PE (Jo X N scope C s H ex) elt te)
  (M5:PV (.ListComp elt [⟨n,d,k,0⟩] scope pos) (a5 (.Name y m)) K4.line X.env=pure bD:=by rfl)
  (hs:∀x,NQ d X.env x=pure x:=by intro _;rfl):PS X (.Assign [.Name y m] (.ListComp elt [⟨n,d,k,0⟩] scope pos) K4) (CZ (xh r.length wi g tt te) (sN i)):=by
 intro f s σ H D I h;rw[exec_Assign_Name_used _ _ _ _ M5];show b7 (ZF (b7 ?_));change g9 _ X.A (do let _ <-comprehension (.ListComp elt [⟨n,d,k,0⟩] scope pos) scope X.env _ (ă []) cb (vr d X.env) (a5 (Sz (.Name y m) X.env))) _ _ s;show b7 (uv (ZH (use:=a5 (Sz (.Name y m) X.env)) (cl:=bx X.env scope.names []) (Q:=λ_ s'=>SP X f D .next s') rfl hs (eE (S.cells I.ok)) S.kind S.names ?_) (λ_ s' hq=>dt (dt hq)) λ_ _ e=>e);show HS (hi f s σ H _ I h) λv s1 h1=>HS h1 λQA s2 h2=>?_;have⟨it,fp,tn,J,H2,e,l,T,st2,O,W⟩:=h2;subst e;show kK (RR:=λt C=>compPost (i5 X.prog X.w) X.A X.xe (a5 (Sz (.Name y m) X.env)) (λ_ s'=>SP X f D .next s') t C) S hc hg hf he l T st2 O W ?_;intro j C q u ys G' hD hC G Y Ph Pj Pk q5;obtain⟨m5,Ss,_⟩:=G.loc;have Wz:u C=b6:=G.free;have B:Inv X f σ (upd u j (.lst ys)) {q with heap:=q.heap}:=pJ l G (VY hD.symm) (by change @ç Nat _ s2.heap.objs.size C;lia) (kj (by change @Rj Nat _ j C;lia)) Y Ph Pj Pk (Yr ..) O;change g9 _ X.A (Sz (.Name y m) X.env (.ref j)) _ _ q;show ā (mC (s:=q) B hN QK (.inl L) (show RelV (.ref j) (.ref j) from rfl) (λs6 I6 ⟨a,sb,ha⟩=>?_) (.inr L));have QJ:@Rj Nat _ X.env.locals C:=by have:@Rj Nat _ X.env.locals s2.heap.objs.size:=l.lt;lia
 have LG:∀x c,X.env.cells.lookup x=a5 c->c≠C:=λx c e=>by
  have⟨v,z⟩:=l.cell x c e;have:@Rj Nat _ c s2.heap.objs.size:=z.lt;show kj (by change @Rj Nat _ c C;lia)
 have WA:C≠a:=by
  rcases ha with z|z
  .rw[z];show Mm QJ
  .show(LG _ _ z).symm
 show⟨m5,Ss.sameBut sb WA,λh' WB=>?_⟩;show⟨σ.set i (a5 (.ref j)),upd u j (.lst ys),I6.turned (it:=C) (t':=s6.toks) (λb o hb e=>(WB.2 b hb).trans e) ?_ (Mm QJ) (.inr (by have:@ç Nat _ X.s₀.heap.objs.size s2.heap.objs.size:=l.sz;change @ç Nat _ X.s₀.heap.objs.size C;lia)) LG (λp hp=>?_),q5 j Y⟩
 .rw[ak (Mm (by change @Rj Nat _ j C;lia))];show Wz
 .have:@Rj Nat _ p.1 s2.heap.objs.size:=i9 (l.pin p hp).1;show kj (by change @Rj Nat _ p.1 C;lia)
end
section
abbrev Su(x:Str):It:=⟨λi _=>i<x.cps.toList.length,λi H v H'=>H'=H/\∃c,x.cps.toList[i]?=a5 c/\v=.str ⟨#[c]⟩,λi _=>x.cps.toList.length<=i⟩
def pK{K:PySem.W.Frag}(it:hH)(J:["enumerate","zip","dict_itemiterator","dict_reverseitemiterator","odict_iterator","itertools.zip_longest","itertools.pairwise"].contains g=cb)
  (L:∀(A:MW) (s:hW) (i c:Nat) (Q:Option dV->hW->Prop) (E:dV->hW->Prop),s.heap.IsStrIter it g x t i->x.cps[i]?=a5 c->(∀h',h'.IsStrIter it g x t (i+1)->KH it s.heap h'->Q (a5 (.str ⟨#[c]⟩ s.toks)) {s with heap:=h',toks:=s.toks+1})->g9 (i5 P w) A (Sy (.ref it)) Q E s)
  (N:∀(A:MW) (s:hW) (i:Nat) (Q:Option dV->hW->Prop) (E:dV->hW->Prop),A.handled=b6->s.heap.IsStrIter it g x t i->x.cps[i]?=b6->(∀h',Zy it s.heap h'->Q b6 {s with heap:=h' })->g9 (i5 P w) A (Sy (.ref it)) Q E s)
  (O:∀(A:MW) (i:Nat) (s:hW) (Q:dV->hW->Prop) (E:dV->hW->Prop),s.heap.IsStrIter it g x t i->Q (.ref it) s->g9 (i5 P w) A (Yn (.ref it)) Q E s) :
  Turn P w K tg (Su x) [it] it (λi h=>h.IsStrIter it g x t i) where
 mem:=by simp
 obj:=λi h st b f=>by
  have e:b=it:=by simpa using f
  subst e;have⟨o,e,c,d⟩:=st;show⟨o,e,λv z=>by rw[d]at z;cases z⟩
 keep:=λi h h' st k=>let ⟨o,ho,r⟩:=st;⟨o,k it (by simp) o ho,r⟩
 item:=by
  intro X l m n D i a s σ H E I j st p;subst l m n;have⟨q,u,T,y,B,C⟩:=j it (by simp);have G:i<x.cps.toList.length:=p;show L X.A s i x.cps.toList[i] _ _ st (by simp) λh' st' Y=>?_;have I1:Inv X a σ H {s with heap:=h',toks:=s.toks+1}:=I.turned (λb o f e=>(Y.2 b f).trans e) q u y B C;have⟨o,e,cc,d⟩:=id st';show⟨_,rfl,sQ (s:={s with heap:=h',toks:=s.toks+1}) e cc d J ⟨.str ⟨#[x.cps.toList[i]]⟩,H,I1,⟨_,rfl⟩,⟨rfl,_,by simp,rfl⟩,st',λb f=>(j b f).1⟩⟩
 done:=by
  intro X l m n D i a s σ H E I j st p;subst l m n;have⟨q,u,T,y,B,C⟩:=j it (by simp);have G:x.cps.toList.length<=i:=p;show N X.A s i _ _ (I.ok.hd D) st (by simpa using G) λh' eb=>⟨rfl,I.turned (t':=s.toks) (λb o f e=>eb b o f e) q u y B C⟩
 self:=λA i s Q E st h=>O A i s Q E st h
abbrev Ht(a:TE):TI:=λσ H R=>a σ H λv b=>∃x,v=.str x/\R (Su x) b
def Dt(hl:PE X l p):PI X y l (Ht p):=by
 intro d s σ H R I h;show HS (hl d s σ H _ I h) λv s1 r=>?_;have⟨x,j,g,r1,u⟩:=r;have⟨z,rfl,q⟩:=u;have⟨t,rfl⟩:=r1;have m:∀b∈[s1.heap.objs.size],g_ X d j b:=λb w=>by
  have e:b=s1.heap.objs.size:=by simpa using w
  subst e;show g.wC (hY _) (g.HR.fresh (hY _))
 cases n:z.cps.all (·<128) with
 |true =>
  show wpAny_pyIter_ascii n ?_;show⟨s1.heap.objs.size,[s1.heap.objs.size],_,_,j,rfl,g.kept (t':=s1.toks) λb o e=>c4 _ e,
   pK (x:=z) (t:=t) _ (by decide) (λA s i c Q E st f a=>wpAny_pyNext_ascii_item st f a) (λA s i Q E k st f a=>wpAny_pyNext_ascii_end k st f a) (λA i s Q E st a=>wpAny_pyIter_striter_ascii st a),
   ⟨_,fx _ rfl,rfl,rfl⟩,m,q⟩
 |false =>
  show wpAny_pyIter_wide n ?_;show⟨s1.heap.objs.size,[s1.heap.objs.size],_,_,j,rfl,g.kept (t':=s1.toks) λb o e=>c4 _ e,
   pK (x:=z) (t:=t) _ (by decide) (λA s i c Q E st f a=>wpAny_pyNext_wide_item st f a) (λA s i Q E k st f a=>wpAny_pyNext_wide_end k st f a) (λA i s Q E st a=>wpAny_pyIter_striter_wide st a),
   ⟨_,fx _ rfl,rfl,rfl⟩,m,q⟩
end
section
abbrev FI:V->Option Int->Option Int->Hp->VK->Prop:=λx lo hi H Q=>∃z,x=.str z/\z.length<=cL/\Q (.str (PySem.StrLaws.sliceText z lo hi)) H
def l9(x:Str)(lo hi:Option Int)(hz:x.length<=cL):(PySem.StrLaws.sliceText x lo hi).length<=cL:=B' (Txt.slice_le x lo hi) hz
def Du:Mc X FI:=by
 intro b s σ H x v g m lo hi n Q I f hs pl d h;have⟨z,rfl,hz,q⟩:=h;have⟨t,rfl⟩:=f;show⟨"str",_,ĕ.lookup,Sv _ _ _,?_⟩;have a:(PySem.StrLaws.sliceText z lo hi).length<=cL/\∀t' k,EP X b σ Q (.str (PySem.StrLaws.sliceText z lo hi) t') {s with toks:=k}:=⟨l9 z lo hi hz,λt' k=>⟨.str _,H,I.tok k,⟨_,rfl⟩,q⟩⟩
 cases pl with
 |none =>
  cases d with
  |none=>show Ri (l:=b6) (u:=b6) (st:=b6) hs rfl (Ub a)
  |int j c=>show Ri (l:=b6) (u:=a5 (j,c)) (st:=b6) hs rfl (Ub a)
 |int i e =>
  cases d with
  |none=>show Ri (l:=a5 (i,e)) (u:=b6) (st:=b6) hs rfl (Ub a)
  |int j c=>show Ri (l:=a5 (i,e)) (u:=a5 (j,c)) (st:=b6) hs rfl (Ub a)
def pL:Ot X "str.endswith" (λx xs H Q=>∃a b,x=.str a/\xs=[.str b]/\Q (.bl (đ a b)) H):=by
 intro c s σ H x xs v us Q I d rs h;have⟨a,b,rfl,rfl,q⟩:=h;have⟨t,rfl⟩:=d;have⟨u,rfl,t',rfl⟩:=vals1 rs;show SC.endswith ⟨.bl _,H,I,rfl,q⟩
def nY:Ot X "str.partition" (λx xs H Q=>∃a b,x=.str a/\xs=[.str b]/\(b.length==0)=cb/\a.length<=cL /\
  ∀p,H p=b6->Q (.ref p) (upd H p (.tup [.str (ti a b).1,.str (ti a b).2.1,.str (ti a b).2.2]))):=by
 intro d s σ H x xs v us Q I j rs h;have⟨a,b,rfl,rfl,l,hz,q⟩:=h;have⟨t,rfl⟩:=j;have⟨u,rfl,t',rfl⟩:=vals1 rs;show QL F.slot_str_partition (Sv _ _ _) F.entry_str_partition (F.args_str_partition_2 _ _) (meets_str_partition a b t t' l hz) ?_;have m:H s.heap.objs.size=b6:=I.HR.fresh (hY _);have n:=q _ m;have c:∀(f g i:Tok) (k:Nat),EP X d σ Q (.ref s.heap.objs.size) {s with toks:=k,heap:=s.heap.push {cls:=.type "tuple",data:=.seq [.str (ti a b).1 f,.str (ti a b).2.1 g,.str (ti a b).2.2 i].toArray}}:=λf g i k =>
  ⟨.ref s.heap.objs.size,_,I.laid (t':=k) (o:=.tup [.str (ti a b).1,.str (ti a b).2.1,.str (ti a b).2.2]) (λb u e=>c4 _ e) (hY _)
   ⟨by change 3<=cL;decide,_,.cons ⟨f,rfl⟩ (.cons ⟨g,rfl⟩ (.cons ⟨i,rfl⟩ .nil)),⟨_,fx _ rfl,rfl,_,rfl⟩⟩,rfl,n⟩
 revert c;unfold ti;cases wk a b 0 a.length 1 with
 |_=>intro c;show c _ _ _ _
theorem mO:∀(l:List (Str×Tok)),Vals (l.map λp=>V.str p.1) (ZV l)
 |[]=>.nil
 |(x,t)::r=>.cons ⟨t,rfl⟩ (mO r)
theorem iG:∀{ys:List Str}{a:List dV},Vals (ys.map V.str) a->∃l:List (Str×Tok),a=ZV l/\l.map (·.1)=ys
 |[],_,.nil=>⟨[],rfl,rfl⟩
 |y::ys,_,.cons r t=>by
  have⟨b,rfl⟩:=r;have⟨l,rfl,e⟩:=iG t;show⟨(y,b)::l,rfl,by rw[il,e]⟩
def xj:Ot X "str.split" (λx xs H Q=>∃a b,x=.str a/\xs=[.str b]/\(b.length==0)=cb/\a.length+2<=cL /\
  ∀p,H p=b6->Q (.ref p) (upd H p (.lst ((Ql a b).map V.str)))):=by
 intro g s σ H x xs v us Q I j rs h;have⟨x,y,rfl,rfl,i,hz,q⟩:=h;have⟨t,rfl⟩:=j;have⟨u0,rfl,u,rfl⟩:=vals1 rs;have d:H s.heap.objs.size=b6:=I.HR.fresh (hY _);have m:=q _ d;have c:∀(l:List (Str×Tok)) (k:Nat),l.length<=cL->l.map (·.1)=Ql x y->EP X g σ Q (.ref s.heap.objs.size) {s with toks:=k,heap:=s.heap.push {cls:=.type "list",data:=.seq (ZV l).toArray}}:=λl k hl e =>
  ⟨.ref s.heap.objs.size,_,I.laid (t':=k) (o:=.lst ((Ql x y).map V.str)) (λb u e=>c4 _ e) (hY _)
   ⟨by rw[<-e,df,df];show hl,ZV l,_,by rw[<-e,ko];show mO l,fx _ rfl⟩,rfl,m⟩
 have one:1<=cL:=by decide
 cases f:(cK (x.length<y.length)||decide (Xo x<Xo y))
 .cases d:(wk x y 0 x.length (x.length+1)).isEmpty
  .have n:(O2 x (wk x y 0 x.length (x.length+1)) y.length).length<=cL:=by
    have:=PySem.StrLaws.occ_length_le x y 0 x.length (x.length+1);simp only[O2,df,Wd,lx,j0];lia
   show QL Xa (Sv _ _ _) V8 (VJ _ _) (meets_str_split_sep x y t u f i d ⋯ n) ?_;change wants _ _ _ {s with toks:=_,heap:=s.heap.push {cls:=.type "list",data:=.seq (strsFrom s.toks (O2 x (wk x y 0 x.length (x.length+1)) y.length)).toArray}};rw[strsFrom_eq];show c (numbered s.toks _) _ ?_ ((Ħ _ _).trans ((ĺ (ne_true_of_eq_false f)).trans (ĺ (ne_true_of_eq_false d))).symm);have e:=ľ KN (Ħ s.toks (O2 x (wk x y 0 x.length (x.length+1)) y.length));rw[df]at e;lia
  .show QL Xa (Sv _ _ _) V8 (VJ _ _) (meets_str_split_not_found x y t u f i d)
    (c [(x,t)] _ one ((ĺ (ne_true_of_eq_false f)).trans (Ĺ d)).symm)
 .show QL Xa (Sv _ _ _) V8 (VJ _ _) (meets_str_split_cannot_occur x y t u f)
   (c [(x,t)] _ one (Ĺ f).symm)
def Ao:Ot X "str.join" (λx xs H Q=>∃a p ys,x=.str a/\xs=[.ref p]/\IF X.K H p (ys.map V.str)/\ö a ys=bD/\Q (.str (VG a ys)) H):=by
 intro b s σ H x xs v us Q I c rs h;have⟨a,p,ys,rfl,rfl,d,f,q⟩:=h;have⟨t,rfl⟩:=c;have⟨u,rfl,r⟩:=vals1 rs;cases r;have⟨g,rv,pl,hz⟩:=I.list d;have⟨l,rfl,e⟩:=iG rv;show SC.join pl.isList e f λt' k=>⟨.str _,H,I.tok k,⟨_,rfl⟩,q⟩
theorem fK:∀{bs:List Bool}{a:List dV},Vals (bs.map V.bl) a->a=bs.map Nu
 |[],_,.nil=>rfl
 |b::bs,_,.cons r t=>by
  cases r;rw[fK t];rfl
def xm:X.calm=bD->fw X (.builtin "all") (λxs H Q=>∃(p:hH) (bs:List Bool),xs=[.ref p]/\IF X.K H p (bs.map V.bl)/\Q (.bl (bs.all id)) H):=by
 intro f c s σ H xs us Q I rs h;have⟨p,bs,rfl,g,q⟩:=h;have⟨u,rfl,r⟩:=vals1 rs;cases r;have⟨m,rv,pl,hz⟩:=I.list g;have e:=fK rv;subst e;have j:p<s.heap.objs.size:=by obtain⟨_,_,e,_⟩:=pl;show i9 e
 show call_all_walk (SY pl.isList ?_);show⟨s.heap.objs.size,[s.heap.objs.size,p],[s.heap.objs.size],(bs.map Nu).toArray.size,_,_,λi=>(bs[i]?).getD bD,rfl,ZK (A:=X.A.in1) (I.ok.hd f) _ p (kj j) (bs.map Nu).toArray,
  ⟨⟨_,fx _ rfl,rfl,rfl⟩,pl.isList.push _⟩,λi v s' Q' n k d=>?_,λh' l hk=>?_⟩
 .have a:(bs.map Nu)[i]?=a5 v:=by simpa using k
  rw[k9]at a;cases e:bs[i]? with
  |none=>rw[e]at a;cases a
  |some b =>
   rw[e]at a;cases a;simp only[e,Z2]at d;show JS d
 .have e:((i4 (bs.map Nu).toArray.size).all λi=>(bs[i]?).getD bD)=bs.all id:=by
   rw[hQ,df];show ë bs
  rw[e];show⟨.bl _,H,I.kept (t':=l) (Tt hk),rfl,q⟩
end
section
end
abbrev Dv(N a:List Str)(scope:M0)(out:List (Str×Mu)):Bool :=
 cK (scope.kind=.function)&&scope.names.all (λy=>cK (scope.names.lookup y.1=a5 y.2))&&scope.names.all (λy=>cK (y.2≠.cell)||decide (y.1∈a))&&decide N.Nodup&&cK (N.take a.length=a) &&
 scope.names.all (λy=>cK (y.2≠.local)||decide (y.1∈a)||decide (y.1=".0"))&&cK ((".0":Str)∉N)&&scope.names.all (λy=>cK (y.2≠.free)||decide (out.lookup y.1=a5 .cell)||decide (out.lookup y.1=a5 .free))&&scope.names.all (λy=>cK (y.1≠".")&&cK (y.1≠".."))
def xn(c:X.env.scope.names=out)(d:d_ (N.drop a.length) X.N)(h:Dv N a scope out=bD):cR X N a scope:=by
 unfold Dv at h;simp only[b8,ux,P1,ĸ]at h;obtain⟨⟨⟨⟨⟨⟨⟨⟨f,g⟩,i⟩,j⟩,k⟩,l⟩,m⟩,n⟩,o⟩:=h;show⟨f,g,λy b e=>?_,j,k,λy b e=>?_,m,d,λy b e=>?_,o⟩
 .rcases i y b with z|z
  .show absurd e z
  .show z
 .rcases l y b with(z|z)|z
  .show absurd e z
  .show .inl z
  .show .inr z
 .rw[c];rcases n y b with(z|z)|z
  .show absurd e z
  .show .inl z
  .show .inr z
section
end
section
end
abbrev J_(a b:Str):Bool:=!cK (b.cps.toList<a.cps.toList)
def j4(a b:Str):J_ a b=bD↔a.cps.toList<=b.cps.toList:=by
 simp only[J_,uk,decide_eq_false_iff_not];show List.not_lt
def mP(a b c:Str)(d:J_ a b=bD)(e:J_ b c=bD):J_ a c=bD:=by
 rw[j4]at d e ⊢;show List.le_trans d e
def u9(a b:Str):(J_ a b||J_ b a)=bD:=by
 rw[P1,j4,j4];show List.le_total _ _
def xp{x y:Str}(h:x.cps.toList=y.cps.toList):x=y:=by
 cases x;cases y;congr
 show V1.mp h
def nZ(c:J_ a b=bD)(d:J_ b a=bD):a=b:=by
 rw[j4]at c d;show xp (List.le_antisymm c d)
abbrev bu(l:List Str):List Str:=l.mergeSort J_
def cD(l:List Str):(bu l).Perm l:=List.mergeSort_perm l J_
def kL(l:List Str):(bu l).Pairwise (λa b=>J_ a b=bD):=List.pairwise_mergeSort mP u9 l
theorem iH:∀(l:List Str) (p:Str),risingS p l=bD->(p::l).Pairwise (λa b=>J_ a b=bD)
 |[],p,_=>by simp
 |x::r,p,h=>by
  have h':(!ltCps x.cps.toList p.cps.toList&&risingS x r)=bD:=h;have⟨c,g⟩:=IE.mp h';have d:=iH r x g;have f:J_ p x=bD:=by rw[ltCps_eq]at c;show c
  show R_.mpr ⟨λy i=>?_,d⟩;rcases gj.mp i with e|e
  .rw[e];show f
  .show mP _ _ _ f ((R_.mp d).1 y e)
def n9(h:sortedS l=bD):l.Pairwise (λa b=>J_ a b=bD):=by
 cases l with
 |nil=>show .nil
 |cons x r=>show iH r x h
theorem jk:∀{l m:List Str},l.Perm m->l.Pairwise (λa b=>J_ a b=bD)->m.Pairwise (λa b=>J_ a b=bD)->l=m
 |[],m,c,_,_=>(List.Perm.nil_eq c)
 |x::l,m,c,d,f=>by
  cases m with
  |nil=>show absurd c.length_eq (by simp)
  |cons y m =>
   have⟨g,h⟩:=R_.mp d;have⟨b1,i⟩:=R_.mp f;have j:x=y:=by
    have m1:x∈y::m:=c.mem_iff.mp mh;have m2:y∈x::l:=c.mem_iff.mpr mh;rcases gj.mp m1 with e|e
    .show e
    .rcases gj.mp m2 with e'|e'
     .show e'.symm
     .show nZ (g y e') (b1 x e)
   subst j;rw[jk (List.Perm.cons_inv c) h i]
def xq(a:l.Perm m)(hs:sortedS l=bD):l=bu m:=jk (a.trans (cD m).symm) (n9 hs) (kL m)
def fL(a:l.Perm m):bu l=bu m:=jk ((cD l).trans (a.trans (cD m).symm)) (kL l) (kL m)
def eY(l:List Str):(bu l).length=l.length:=(cD l).length_eq
section
theorem dC:∀{ys:List Str}{a:List dV},Vals (ys.map V.str) a->RH a ys
 |[],_,.nil=>.nil
 |y::ys,_,.cons r t=>by
  have⟨b,rfl⟩:=r;show .cons y b (dC t)
theorem du:∀{a:List dV}{ys:List Str},RH a ys->Vals (ys.map V.str) a
 |_,_,.nil=>.nil
 |_,_,.cons x t h=>.cons ⟨t,rfl⟩ (du h)
theorem eZ(hc:g9 (i5 prog w) A.in1 (Z9 x) (λvs s1=>∃ss,RH vs ss/\vs.length<64 /\
      ∀(h':K1) (vs':List dV) (e:Nat),(∀b o,s1.heap.get? b=a5 o->h'.get? b=a5 o)->h'.get? s1.heap.objs.size=a5 (J7 "list" vs'.toArray e)->RH vs' (bu ss)->Q (.ref s1.heap.objs.size) {s1 with heap:=h' }) E s) :
    g9 (i5 prog w) A (Qg (.builtin "sorted") [x]) Q E s:=by
  refine Xn kind_sorted plain_sorted entry_sorted (args_sorted1 _) ?_;unfold QC.«sorted»;refine b7 (m:=checkCount "sorted" 1 1 _) (dt ?_);refine b7 (uv hc (λvs s1 h1=>?_) λ_ _ e=>e);obtain⟨ss,hS,Lq,h⟩:=h1
  refine wpAny_bind (wpAny_newList ?_ (by have : (64 : Nat) ≤ sizeLine := by decide
                                          lia))
  have Mq:(s1.heap.push (J7 "list" vs.toArray 0)).get? s1.heap.objs.size=a5 (J7 "list" vs.toArray 0):=fx _ rfl;show g9 _ _ _ _ _ {s1 with heap:=s1.heap.push (J7 "list" vs.toArray 0)};refine b7 (Jq (JF ĵ ⟨_,Mq,rfl⟩ ġ (list_sort_treeK strKind_oneLt Mq hS.keysOf (λv₁ v₂ rest e=>keyKind_strs (by rw[<-e];exact hS)) Lq λst' a1 a2=>⟨_,rfl,?_⟩) (ķ _)));obtain⟨Kt,b1,b2,b3⟩:=sorted_out_str hS a1 a2;obtain⟨e,he⟩:=sortedHeap_at (out:=(arrOf st').map (·.2)) Mq;rw[xq b2 b3]at b1;refine dt ⟨_,rfl,h _ ((arrOf st').map (·.2)).toList e (λb o q=>?_) (by rw[Array.toArray_toList];exact he) b1⟩;have IG:b<s1.heap.objs.size:=i9 q;show(ù (s1.heap.push (J7 "list" vs.toArray 0)) s1.heap.objs.size vs ((arrOf st').map (·.2))).get? b=a5 o;rw[Ĵ (kj IG) (by rw[OM];exact Rh IG)];exact c4 _ q
def l_(hl:Z1 s.heap l vs.toArray)
  (h:Q vs {s with heap:=(s.heap.push (J7 "list" #[] 0)).update s.heap.objs.size (vl (·++vs.toArray))}) (hsz:vs.length<=cL) :
  g9 (i5 prog w) A (Z9 (.ref l)) Q E s:=by
 have⟨o,ho,b,n,c⟩:=id hl;unfold Z9;show b7 (Zl (NF entry_proto_collect' ?_));change g9 _ _ (do į (.builtin "list.__iadd__" ⟨[<-ă [],.ref l],[]⟩)) _ _ s;show b7 (ZG (dt ⟨Z0 _ (by decide +kernel),NF entry_list_iadd' ?_⟩));change g9 _ _ (N' (.ref s.heap.objs.size) (.ref l) (.ref s.heap.objs.size)) _ _ {s with heap:=s.heap.push (J7 "list" #[] 0)};unfold N';have a:(s.heap.push (J7 "list" #[] 0)).get? l=a5 o:=c4 _ ho;show b7 (Ry (T:="tuple") ⟨o,a,b⟩ ?_);have d:(K2 "tuple"==K2 "tuple")=bD:=by rfl
 rw[Ĺ (by rw[d];simp)];show b7 (Ç a c ?_);show b7 (Ç (xs:=#[]) (n:=0) (fx _ rfl) rfl ?_);rw[ĺ (by simp)];show b7 (V7 (xs:=#[]) (n:=0) (fx _ rfl) rfl ?_ (mN _) (by change(#[]++vs.toArray).size<=cL+1;simp only[U_,hQ,Tb];lia));show dt ?_;change g9 (i5 prog w) A (do
   let o <-load s.heap.objs.size
   match o.data with
   |.seq xs _=>pure xs.toList
   |_=>unsupported "internal:collect") Q E {s with heap:=(s.heap.push (J7 "list" #[] 0)).update s.heap.objs.size (vl (·++vs.toArray))}
 show b7 (ï (Ġ (fx _ rfl) _) ?_);change g9 _ _ (pure ((#[]:Array dV)++vs.toArray).toList) Q E _;rw[show((#[]:Array dV)++vs.toArray).toList=vs by simp];show dt h
end
section
def mf{h:K1}{vs:List dV}(e:h.get? b=a5 o):((h.push (J7 "list" #[] 0)).update h.objs.size (vl (·++vs.toArray))).get? b=a5 o:=by
 rw[Py _ _ _ _ (kj (i9 e))];show c4 _ e
def pM(I:Inv X a σ H s)(k1:∀b o,s.heap.get? b=a5 o->s1.heap.get? b=a5 o)(g:∃d c,s1={s with heap:=d,toks:=c})
  (hk:∀b o,s1.heap.get? b=a5 o->h'.get? b=a5 o) (h:h'.get? s1.heap.objs.size=a5 (J7 "list" vs'.toArray e)) (i:RH vs' (bu ss)) (hsz:s.heap.objs.size<=s1.heap.objs.size) (hl:ss.length<=cL)
  (q:∀p,H p=b6->Q (.ref p) (upd H p (.lst ((bu ss).map V.str)))):EP X a σ Q (.ref s1.heap.objs.size) {s1 with heap:=h' }:=by
 have⟨d,c,rfl⟩:=g;have f:Inv X a σ H {s with heap:=d,toks:=c}:=I.kept (t':=c) k1;show⟨.ref d.objs.size,_,f.laid (t':=c) (o:=.lst ((bu ss).map V.str)) hk (hY _) ⟨by rw[df,eY];show hl,vs',e,du i,h⟩,rfl,q _ (f.HR.fresh (hY _))⟩
def jG:fw X (.builtin "sorted") (λxs H Q=>∃(p:hH) (ys:List Str),xs=[.ref p]/\(IF X.K H p (ys.map V.str)\/II X.K H p (ys.map V.str))/\ys.length<64/\∀q,H q=b6->Q (.ref q) (upd H q (.lst ((bu ys).map V.str)))):=by
 intro c s σ H xs us Q I rs h;have⟨p,ys,rfl,hq,i,q⟩:=h;have⟨u,rfl,r⟩:=vals1 rs;cases r;have hl:ys.length<=cL:=Ol (ku i (by decide));have d:∀(a:List dV),Vals (ys.map V.str) a->∀(h':K1) (vs':List dV) (e:Nat),(∀b o,((s.heap.push (J7 "list" #[] 0)).update s.heap.objs.size (vl (·++a.toArray))).get? b=a5 o->h'.get? b=a5 o) ->
   h'.get? ((s.heap.push (J7 "list" #[] 0)).update s.heap.objs.size (vl (·++a.toArray))).objs.size=a5 (J7 "list" vs'.toArray e)->RH vs' (bu ys) ->
   EP X c σ Q (.ref ((s.heap.push (J7 "list" #[] 0)).update s.heap.objs.size (vl (·++a.toArray))).objs.size) {s with heap:=h' }:=λa rv h' vs' e hk f g =>
  pM (s1:={s with heap:=(s.heap.push (J7 "list" #[] 0)).update s.heap.objs.size (vl (·++a.toArray))}) I (λb o z=>mf z) ⟨_,s.toks,rfl⟩ hk f g (by change s.heap.objs.size<=((s.heap.push (J7 "list" #[] 0)).update s.heap.objs.size (vl (·++a.toArray))).objs.size;rw[Heap.size_update,OM];show O' _) hl q
 rcases hq with hq|hq
 .have⟨a,rv,pl,hz⟩:=I.list hq;have j:a.length=ys.length:=by rw[<-rv.length,df]
  show eZ (collect_list pl.isList ⟨ys,dC rv,⋯,λh' vs' e hk f g=>d a rv h' vs' e hk f g⟩ ⋯)
 .have⟨a,rv,pl,hz⟩:=I.tuple hq;have j:a.length=ys.length:=by rw[<-rv.length,df]
  show eZ (l_ pl ⟨ys,dC rv,⋯,λh' vs' e hk f g=>d a rv h' vs' e hk f g⟩ ⋯)
end
@[reducible]def sK(P:y0)(w:Jn):=PySem.strKind P w
abbrev e_(P:y0)(w:Jn)(h:K1)(a:hH)(b:Bool)(D:List Str):Prop :=
 ∃(L:List (Str×Tok)) (es:Array (Int×dV)) (ep:Nat) (t:SD),h.get? a=a5 {cls:=.type "set",dict:=b6,data:=.set es ep t}/\es.toList=L.map (λp=>((sK P w).hash p.1,J4 p.1 p.2)) /\
  (L.map (·.1)).Perm D/\D.Nodup/\t.fits es.size=bD/\es.size<ND/\t.led=b/\(es.size=0\/t.plain=cb)
section
def xr{L:List (Str×Tok)}:ElemsOf (sK prog w) (L.map λp=>((sK prog w).hash p.1,J4 p.1 p.2)):=by
 intro e a;obtain⟨p,_,rfl⟩:=kl.mp a;show⟨⟨p.1,by simp[PySem.strKind,Ug],rfl⟩,rfl⟩
def s9(x y:Str)(t:Tok):(sK prog w).is x (.str y t)=cK (x=y):=by
 rw[Nm];simp[PySem.strKind,Ug];show⟨λh=>h.symm,λh=>h.symm⟩
def rh(t:SD)(es:Array (Int×dV))(h:Int)(x:dV):(layNew t es h x).2.1.led=t.led:=by
 unfold layNew;split
 .change(Zf (t.put _).1 _).led=t.led;unfold Zf;split<;>rfl
 .rfl
def n_(t:SD)(es:Array (Int×dV))(n:Nat):(Zo t es n).2.1.led=t.led:=by
 unfold Zo;split
 .rename_i t' b a;have:t'.led=t.led:=by
   unfold ZM Z' at a;cases c:Zs (Ze n - 1) (es.map (·.1)) with
   |none=>rw[c]at a;cases a
   |some o=>rw[c]at a;cases a;rfl
  dsimp only
  split
  .show this
  .rfl
 .rfl
def kM(t:SD)(es:Array (Int×dV))(n:Nat)(h:t.plain=cb):(Zo t es n).2.1.plain=cb:=by
 unfold Zo;split
 .rename_i t' b a;have:t'.plain=t.plain:=by
   unfold ZM Z' at a;cases c:Zs (Ze n - 1) (es.map (·.1)) with
   |none=>rw[c]at a;cases a
   |some o=>rw[c]at a;cases a;rfl
  dsimp only
  split
  .rw[this];show h
  .rfl
 .rfl
def hV(h:l.Perm (L.map λp=>((sK prog w).hash p.1,J4 p.1 p.2))):∃a:List (Str×Tok),l=a.map (λp=>((sK prog w).hash p.1,J4 p.1 p.2))/\a.Perm L:=by
 have all:∀e∈l,∃p:Str×Tok,e=((sK prog w).hash p.1,J4 p.1 p.2):=λe b=>by
  obtain⟨p,_,rfl⟩:=kl.mp (h.mem_iff.mp b);show⟨p,rfl⟩
 have ex:∀l:List (Int×dV),(∀e∈l,∃p:Str×Tok,e=((sK prog w).hash p.1,J4 p.1 p.2))->∃a:List (Str×Tok),l=a.map (λp=>((sK prog w).hash p.1,J4 p.1 p.2)):=by
  intro l;induction l with
  |nil=>intro _;show⟨[],rfl⟩
  |cons e l d =>
   intro c;have⟨p,rfl⟩:=c e mh;have⟨a,rfl⟩:=d λe b=>c e (ki _ b);show⟨p::a,rfl⟩
 have⟨a,rfl⟩:=ex l all;show⟨a,rfl,?_⟩;have g:(a.map λp=>((sK prog w).hash p.1,J4 p.1 p.2)).map (λe=>match e.2 with|.str x t=>(x,t)|_=>(wh,0))=a:=by
  rw[ko];show ė _
 have f:(L.map λp=>((sK prog w).hash p.1,J4 p.1 p.2)).map (λe=>match e.2 with|.str x t=>(x,t)|_=>(wh,0))=L:=by
  rw[ko];show ė _
 have:=h.map (λe=>match e.2 with|.str x t=>(x,t)|_=>(wh,0));rw[g,f]at this;show this
theorem rj(hS:e_ prog w s.heap a led D)(M6:D.length+1<ND)
    (h:∀h',KH a s.heap h'->e_ prog w h' a led (if x∈D then D else D++[x])->Q (cK (x∉D)) {s with heap:=h' }) :
    g9 (i5 prog w) A (setAddHashed a (.str x tk) ((sK prog w).hash x)) Q E s:=by
  obtain⟨L,es,ep,t,ho,LK,Jd,Io,hf,hb,K5,IK⟩:=hS;have Nw:(sK prog w).is x (.str x tk)=bD:=by rw[s9];simp
  have UP:ElemsOf (sK prog w) es.toList:=by rw[LK];exact xr
  have hlen:es.size=D.length:=by rw[<-rl,LK,df,<-df (f:=ì) (as:=L),Jd.length_eq]
  unfold setAddHashed setAddHashedIn;refine Jq (b7 (KX ho rfl hf ?_))
  dsimp only
  rw[byScan_of (knd:=sK prog w) rfl hb UP];simp only[↓reduceIte];unfold setAddByScan;refine b7 ?_;refine b7 (RU ?_);refine b7 (wpAny_setScan_of (knd:=sK prog w) Nw ho rfl hf UP ?_);have mem_iff:(∃e∈es.toList,(sK prog w).is x e.2=bD)↔x∈D:=by
    rw[LK,<-Jd.mem_iff,kl];constructor
    · rintro⟨e,he,hi⟩
      obtain⟨p,hp,rfl⟩:=kl.mp he;rw[s9,ĸ]at hi;exact⟨p,hp,hi.symm⟩
    · rintro⟨p,hp,e⟩
      exact⟨_,kl.mpr ⟨p,hp,rfl⟩,by rw[s9];simp[e]⟩
  cases hr:ú (λe=>(sK prog w).is x e.2) es.toList with
  | some j =>
    dsimp only
    obtain⟨hj,WD,_⟩:=List.findIdx?_eq_some_iff_getElem.mp hr;have hx:x∈D:=mem_iff.mp ⟨es.toList[j],Ms hj,WD⟩;refine dt (dt ?_);have e:s={s with heap:=s.heap}:=by cases s;rfl
    have:=h s.heap (Yr a s.heap) (by rw[Ĺ hx];exact⟨L,es,ep,t,ho,LK,Jd,Io,hf,hb,K5,IK⟩);rw[Ļ (λz=>z hx)]at this;rw[e];exact this
  | none =>
    dsimp only
    have hx:x∉D:=λhx=>by
      obtain⟨e,he,hp⟩:=mem_iff.mpr hx;have:=List.findIdx?_eq_none_iff.mp hr e he;rw[hp]at this;exact Bool.noConfusion this
    have WE:∀(b:Bool) {s₁:hW} {Q':Unit->hW->Prop},Q' () s₁->g9 (i5 prog w) A (match b with|true=>ó "set.scan.the-table-gave-way"|false=>pure ()) Q' E s₁ :=
      λb s₁ Q' hq=>by cases b<;>first|exact dt hq|exact RU hq
    have Pn:=layNew_perm t es ((sK prog w).hash x) (.str x tk);have KQ:=layNew_fits t es ((sK prog w).hash x) (.str x tk);have Lr:=rh t es ((sK prog w).hash x) (.str x tk);generalize hL:layNew t es ((sK prog w).hash x) (.str x tk)=NL at Pn KQ Lr ⊢;obtain⟨IW,t1,LL,WG⟩:=NL
    dsimp only at Pn KQ Lr ⊢
    rw[Z4,LK,show [((sK prog w).hash x,J4 x tk)]=[(x,tk)].map (λp=>((sK prog w).hash p.1,J4 p.1 p.2)) from rfl,<-pd]at Pn;obtain⟨L1,e1,WH⟩:=hV Pn;have NG:IW.size=D.length+1:=by rw[<-rl,Pn.length_eq,df,j0,<-hlen,<-rl,LK,df];rfl
    have UQ:IW.size<ND:=by lia
    have M7:(L1.map (·.1)).Perm (D++[x]):=(WH.map _).trans (by rw[pd];exact Jd.append_right _);have UR:(D++[x]).Nodup:=by
      rw[tA]
      exact ⟨Io, by simp, fun y hy z hz => by have : z = x := by simpa using hz
                                              subst this;rintro rfl;exact hx hy⟩
    refine b7 (WE _ ?_);have My:∀h',KH a s.heap h'->e_ prog w h' a led (D++[x])->Q bD {s with heap:=h' }:=λh' sb hs=>by
      have:=h h' sb (by rw[ĺ hx];exact hs);rw[ļ hx]at this;exact this
    have tail:∀(g:Bool->Sem Unit),(∀(b:Bool) (s₁:hW) (Q':Unit->hW->Prop),Q' () s₁->g9 (i5 prog w) A (g b) Q' E s₁)->∀(R:Option Bool->hW->Prop),(∀h',KH a s.heap h'->e_ prog w h' a led (D++[x])->R (a5 bD) {s with heap:=h' })->∀t2:SD,t2.fits IW.size=bD->t2.led=led->t2.plain=cb->g9 (i5 prog w) A (do
        storeSet a IW t2
        if (!LL&&t2.tooFull)=true then do
            g (relayAll t2 IW (SetTable.grown IW.size)).2.2
            storeSet a (relayAll t2 IW (SetTable.grown IW.size)).1 (relayAll t2 IW (SetTable.grown IW.size)).2.1
            pure (some true)
          else pure (a5 bD)) R E s:=by
      intro g hg R hR t2 WI LM Mz;refine b7 (ÿ ho rfl ?_ (Ą UQ));have Po:(s.heap.update a (Ta IW t2)).get? a=a5 {cls:=.type "set",dict:=b6,data:=.set IW (ep+1) t2}:=by
        have:=JM (Ta IW t2) ho rfl;exact this
      have Pp:=Lj s.heap a (Ta IW t2);split
      · have hp:=relayAll_perm t2 IW (RS IW.size)
        have NH:=relayAll_fits t2 IW (RS IW.size);have NI:=n_ t2 IW (RS IW.size);have Sw:=kM t2 IW (RS IW.size) Mz;generalize Sx:Zo t2 IW (RS IW.size)=Rl at hp NH NI Sw ⊢;obtain⟨IX,t3,US⟩:=Rl
        dsimp only at hp NH NI Sw ⊢
        rw[e1]at hp;obtain⟨L2,e2,WJ⟩:=hV hp;have hsz:IX.size=IW.size:=by rw[<-rl,hp.length_eq,<-e1,rl]
        refine b7 (hg _ _ _ ?_);refine b7 (ÿ Po rfl ?_ (Ą ⋯));have Pq:((s.heap.update a (Ta IW t2)).update a (Ta IX t3)).get? a=a5 {cls:=.type "set",dict:=b6,data:=.set IX (ep+1+1) t3}:=JM (Ta IX t3) Po rfl;refine dt (hR _ (Pp.trans (Lj _ a _)) ⟨L2,IX,_,t3,Pq,e2,(WJ.map _).trans M7,UR,NH,⋯,NI.trans LM,.inr Sw⟩)
      · exact dt (hR _ Pp ⟨L1,IW,_,t2,Po,e1,M7,UR,WI,UQ,LM,.inr Mz⟩)
    split
    · rename_i hp
      refine b7 ?_;rw[hashByValue_scannable 8 rfl];refine dt ?_;have ep:(if plainKind (J4 x tk)=bD then t1 else {t1 with plain:=cb})={t1 with plain:=cb}:=rfl;rw[ep];refine tail _ ?_ _ ?_ {t1 with plain:=cb} (SetTable.fits_plain_off KQ) (Lr.trans K5) rfl
      · intro b s₁ Q' hq;cases b<;>first|exact dt hq|exact RU hq
      · intro h' Oy Ls;dsimp only;exact dt (My h' Oy Ls)
    · rename_i hp
      refine b7 (dt ?_);simp only[↓reduceIte];refine tail _ ?_ _ ?_ t1 KQ (Lr.trans K5) (Í.mpr hp)
      · intro b s₁ Q' hq;cases b<;>first|exact dt hq|exact RU hq
      · intro h' Oy Ls;dsimp only;exact dt (My h' Oy Ls)
end
abbrev jU(D:List Str)(x:Str):List Str:=if x∈D then D else D++[x]
abbrev br(l:List Str):List Str:=l.foldl jU []
theorem rm(h:D.Nodup):(jU D x).Nodup:=by
  unfold jU;split
  · exact h
  · rename_i hx
    rw[tA]
    exact ⟨h, by simp, fun y hy z hz => by have : z = x := by simpa using hz
                                           subst this;rintro rfl;exact hx hy⟩
theorem hZ:∀(l D:List Str),D.Nodup->(l.foldl jU D).Nodup/\(∀x,x∈l.foldl jU D↔x∈D\/x∈l)/\(l.foldl jU D).length<=D.length+l.length
 |[],D,h=>⟨h,by simp,by simp⟩
 |y::l,D,h=>by
  have⟨a,b,f⟩:=hZ l (jU D y) (rm h);have c:∀x,x∈jU D y↔x∈D\/x=y:=λx=>by
   unfold jU;split
   .rename_i d;show⟨.inl,λz=>z.elim id (λe=>e▸d)⟩
   .simp
  have hl:(jU D y).length<=D.length+1:=by
   unfold jU;split
   .lia
   .simp
  show⟨a,λx=>?_,by rw[We,lx];lia⟩;rw[We,b,c,gj,or_assoc]
def rn(l:List Str)(x:Str):x∈br l↔x∈l:=by rw[br,(hZ l [] XU).2.1];simp
def kN(l:List Str):(br l).length<=l.length:=by have:=(hZ l [] XU).2.2;simpa[br] using this
def pN(l:List Str)(x:Str):br (l++[x])=jU (br l) x:=by unfold br;rw[List.foldl_append];rfl
section
variable{prog:y0}{w:Jn}{A:MW}{R:Result->hW->Prop}{I:hH}{fp wr:List hH}{G:Array GenState->Array GenState->Prop}{n:Nat}{P:Nat->dV->Prop}{St:Nat->hW->Prop}
def jl(W:WalksS prog w A.in1 I fp wr G n P St)(S:hH)(m:S∉fp)(a:Bool)
  (ys:List Str) (hn:ys.length=n) (y:∀i v,P i v->∃x t,ys[i]?=a5 x/\v=.str x t) (d:n+1<ND) :
  ∀(k i:Nat) (s:hW),n - i=k->i<=n->St i s->e_ prog w s.heap S a (br (ys.take i)) ->
   (∀s',Moved (S::wr) G s s'->e_ prog w s'.heap S a (br ys)->R (.ok (.ret .none)) s') ->
   R3 (i5 prog w) A (.builtin "set.update.loop" ⟨[.ref S,.ref I],[]⟩) R s:=by
 have p:S∉wr:=λh=>m (W.sub _ h);have q:∀b∈wr,b∈S::wr:=λb d=>ki _ d;intro k;induction k with
 |zero =>
  intro i s hk hi j g l;have z:i=n:=by lia
  subst z;show NF Sr ?_;rw[OU Oo _];change g9 _ A.in1 (Sy (.ref I) >>= _) _ _ s;show b7 (W.done s _ _ j λs' f=>?_);change g9 _ A.in1 (ret qs) _ _ s';rw[Mb ⋯]at g;show dt (l s' (f.mono q) (by
   have⟨L,es,ep,t,ho,c⟩:=g;show⟨L,es,ep,t,f.heap S _ p ho,c⟩))
 |succ k B =>
  intro i s hk hi j g l;have r:i<n:=by lia
  show NF Sr ?_;rw[OU Oo _];change g9 _ A.in1 (Sy (.ref I) >>= _) _ _ s;show b7 (W.item i s _ _ r j λv s' C D f=>?_);have⟨x,t,H,rfl⟩:=y i v C;have J:e_ prog w s'.heap S a (br (ys.take i)):=by
   have⟨L,es,ep,tb,ho,c⟩:=g;show⟨L,es,ep,tb,f.heap S _ p ho,c⟩
  change g9 _ A.in1 (L8 [J4 x t] (setAdd S (.str x t)) >>= _) _ _ s';show b7 (Jq ?_);unfold setAdd;show Jq ?_;show b7 ((sK prog w).pyHash (k:=x) (by rw[s9];simp) ?_);have N:(br (ys.take i)).length+1<ND:=by have:=kN (ys.take i);rw[tj]at this;lia
  show rj (s:={s' with toks:=s'.toks+1}) J N λh' u O=>?_;have Q:e_ prog w h' S a (br (ys.take (i+1))):=by
   rw[List.take_add_one,H];change e_ prog w h' S a (br (ys.take i++[x]));rw[pN];show O
  show dt ⟨V3 Oo _,B (i+1) _ ⋯ r (W.frame _ s' _ _ D (O' _) λb d o e=>?_) Q λT Y SA=>?_⟩
  .rw[u.2 b (λh:b=S=>m (by rw[<-h];show d))];show e
  .show l T (Moved.trans W.gtrans ((f.mono q).then_heap (O' _) λb o d e=>?_) Y) SA;rw[u.2 b (λh:b=S=>d (by rw[h];show mh))];show e
end
section
def mj(a:dV)
  (h:Q₁ (.ref s.heap.objs.size) {s with heap:=s.heap.push {cls:=.type "set",dict:=b6,data:=.set #[] 0 (.fresh 0 0 (!w.params.followText "set-order"))}}) :
  R3 (i5 prog w) A (.call (.builtin "set.__new__") ⟨[.type "set",a],[]⟩) (wants Q₁ E) s:=by
 show ĝ ?_;change g9 _ A.in1 (do checkBuiltinCall "set.__new__" ⟨[.type "set",a],[]⟩;į (.builtin "set.__new__" ⟨[.type "set",a],[]⟩)) _ _ s;show b7 (Yx (PySem.F.newCall_set_1 a) (dt ⟨V3 PySem.F.plain_set_new _,NF PySem.F.entry_set_new ?_⟩));rw[OU PySem.F.plain_set_new _];unfold QC.«set.__new__» á;have b:=sub_set_self;have⟨c,g,d,e,os⟩:=s
 dsimp only
 wp_walk
 show XZ (dt ?_)
 dsimp only
 simp only[newObj];show b7 (wpAny_alloc (dt ?_));show dt h
def rp(c:h.get? a=a5 {cls:=.type "set",dict:=b6,data:=.set #[] 0 (.fresh 0 0 b)}):e_ prog w h a b [] :=
 ⟨[],#[],0,_,c,rfl,.nil,XU,rfl,by unfold ND;decide,rfl,.inl rfl⟩
end
def sub_tuple_set:ZX (.type "tuple") (.type "set")=pure cb:=by rw[UT];kernel_rfl
def sub_tuple_frozenset:ZX (.type "tuple") (.type "frozenset")=pure cb:=by rw[UT];kernel_rfl
section
@[reducible]def dc(w:Jn):Bool:=!w.params.followText "set-order"
@[reducible]def rq(a:Bool):Obj:={cls:=.type "set",dict:=b6,data:=.set #[] 0 (.fresh 0 0 a)}
def iI
  (J:s.TypeIs (.ref l) T) (WM:ZX (.type T) (.type "set")=pure cb) (WN:ZX (.type T) (.type "frozenset")=pure cb) (Je:(K2 T==K2 "dict")=cb)
  (L:ys.length+1<ND)
  (j:∀(s1:hW) (B:MW) (Q':dV->hW->Prop),B.handled=A.handled->(∀b o,s.heap.get? b=a5 o->s1.heap.get? b=a5 o)->s.heap.objs.size<s1.heap.objs.size ->
   (∀I k m G P St a,WalksS prog w B.in1 I k m G ys.length P St->(∀g g',G g g'->g'=g)->s.heap.objs.size∉k->(∀b∈m,s.heap.objs.size<b)->(∀i v,P i v->∃x t,ys[i]?=a5 x/\v=.str x t)->St 0 {s1 with heap:=a}->(∀b o,s1.heap.get? b=a5 o->a.get? b=a5 o)->Q' (.ref I) {s1 with heap:=a})->g9 (i5 prog w) B (Yn (.ref l)) Q' E s1)
  (h:∀(h':K1) (d:Nat),e_ prog w h' s.heap.objs.size (dc w) (br ys)->(∀b o,b<s.heap.objs.size->s.heap.get? b=a5 o->h'.get? b=a5 o)->Q (.ref s.heap.objs.size) {s with heap:=h',toks:=d}) :
  g9 (i5 prog w) A (Qg (.type "set") [.ref l]) Q E s:=by
 have⟨c,tl,WO⟩:=PySem.F.called_set.mro;have UU:=PySem.F.called_set.made;have LN:=PySem.F.called_set.sub;show Zm (ĝ ?_);change g9 _ _ (callAny (.type "set") _) _ _ _;show dt ⟨Z0 _ (by decide +kernel),NF PySem.F.entry_type_call ?_⟩;rw[Around.under_plain (weight_type_call_type "set" [.ref l] []) rfl];have a:=PySem.F.called_set.notType;have h2:=PySem.F.called_set.canCreate;have YS:=PySem.F.typeCall_set_1 (.ref l)
 repeat (any_goals (first|assumption|wp_step))
 show RA (mj (.ref l) (E:=E) (Q₁:=λobj y=>obj=.ref s.heap.objs.size/\y={s with heap:=s.heap.push (rq (dc w))}) ⟨rfl,rfl⟩) λr y n=>?_;cases r with
 |error e=>show n
 |ok N =>
  cases N with
  |ret obj =>
   have⟨rfl,rfl⟩:=n;have C:(s.heap.push (rq (dc w))).get? s.heap.objs.size=a5 (rq (dc w)):=fx _ rfl;have O:Sd {s with heap:=s.heap.push (rq (dc w))} (.ref s.heap.objs.size) "set":=⟨_,C,rfl⟩
   have YT:=PySem.F.called_set.init.lookup;have YU:=PySem.F.called_set.init.bind (.ref s.heap.objs.size)
   repeat (any_goals (first|assumption|wp_step))
   show RA (codeAny_call_builtin (R:=wants (λr D=>r=.none/\∃h' d,D={s with heap:=h',toks:=d} /\
     e_ prog w h' s.heap.objs.size (dc w) (br ys) /\
     (∀b o,b<s.heap.objs.size->s.heap.get? b=a5 o->h'.get? b=a5 o)) E) PySem.F.called_set.init.plain PySem.F.entry_set_init (check_set_init_1 O ?_)) λY D p=>?_
   .have⟨ol,Oz,H⟩:=J;have⟨WQ,Pu,Pw,NK⟩:=ol;simp only at H;subst H;have SE:(s.heap.push (rq (dc w))).get? l=a5 {cls:=.type T,dict:=Pu,data:=Pw,slots:=NK}:=c4 _ Oz;have YV:Sd {s with heap:=s.heap.push (rq (dc w))} (.ref l) T:=⟨_,SE,rfl⟩
    unfold QC.«set.__init__» noKeywords Þ;generalize WR:Yn=PI
    wp_walk
    subst WR;show j {s with heap:=s.heap.push (rq (dc w))} _ _ rfl (λb o e=>c4 _ e) (by rw[OM];show Pt _) λI k m G P St a W hG hf WS NJ HU hk=>?_;show b7 (Zl ?_);show jl W s.heap.objs.size hf (dc w) ys rfl NJ L (ys.length - 0) 0 _ ⋯ (mN _) HU (rp (hk _ _ C)) ?_;intro s' f q;have⟨h',g',d',WT,MY⟩:=s';have eg:g'=s.gens:=hG _ _ f.gens;have ed:d'=s.drawn:=f.drawn;have eo:MY=s.os:=f.os;subst eg;subst ed;subst eo;change g9 _ _ _ _ _ _;show dt ?_;change g9 _ _ (ret qs) _ _ _;show dt ⟨rfl,h',WT,rfl,q,λb o u e=>?_⟩;show f.heap b o (λz=>by
     rcases gj.mp z with z|z
     .rw[z]at u;show H8 _ u
     .show absurd (WS b z) (Nat.not_lt_of_lt u)) (hk _ _ (c4 _ e))
   .cases Y with
    |error e=>show p
    |ok WU =>
     cases WU with
     |ret r =>
      have⟨rfl,h',d,rfl,q,IY⟩:=p
      repeat (any_goals (first|assumption|wp_step))
      show h _ _ q IY
     |_=>show p.elim
  |_=>show n.elim
end
section
theorem oa:∀{vs:List dV}{ss:List Str},RH vs ss->∀(i:Nat) (v:dV),vs[i]?=a5 v->∃x t,ss[i]?=a5 x/\v=.str x t
 |_,_,.nil,i,v,h=>by simp at h
 |_,_,.cons x t h,0,v,e=>by simp at e;show⟨x,t,rfl,e.symm⟩
 |_,_,.cons x t h,i+1,v,e=>by rw[N1]at e;rw[N1];show oa h i v e
theorem iJ:∀{vs:List dV}{ss:List Str},RH vs ss->vs.length=ss.length
 |_,_,.nil=>rfl
 |_,_,.cons x t h=>by simp[iJ h]
def s_(a:n≠S)(b:n≠l):n∉[S,l]:=by simp[a,b]
def kO(g:A.handled=b6)(hl:s.heap.IsList l vs.toArray)(d:RH vs ys)(a:ys.length+1<ND)
  (h:∀(h':K1) (j:Nat),e_ prog w h' s.heap.objs.size (dc w) (br ys)->(∀b o,b<s.heap.objs.size->s.heap.get? b=a5 o->h'.get? b=a5 o)->Q (.ref s.heap.objs.size) {s with heap:=h',toks:=j}) :
  g9 (i5 prog w) A (Qg (.type "set") [.ref l]) Q E s:=by
 have f:l<s.heap.objs.size:=let ⟨o,ho,_⟩:=hl;i9 ho;show iI hl.typeIs PySem.F.sub_list_set PySem.F.sub_list_frozenset (by decide) a (λs1 B Q' k hk c m=>?_) h;have Lr:s1.heap.IsList l vs.toArray:=let ⟨o,ho,r⟩:=hl;⟨o,hk _ _ ho,r⟩;show SY Lr ?_;have n:l≠s1.heap.objs.size:=kj (VW f c);have W:=(ZK (prog:=prog) (w:=w) (A:=B.in1) (by simp[k,g]) s1.heap.objs.size l n vs.toArray).toS;have p:vs.toArray.size=ys.length:=by simp[iJ d]
 rw[p]at W;show m _ _ _ _ _ _ _ W (λ_ _ e=>e) (s_ (kj c) (Mm f)) (λb a=>by rw[nc.mp a];show c) (λi v q=>oa d i v (by simpa using q)) ⟨⟨_,fx _ rfl,rfl,rfl⟩,Lr.push _⟩ λb o e=>c4 _ e
def mn(g:A.handled=b6)(hl:s.heap.IsTuple l vs.toArray)(d:RH vs ys)(a:ys.length+1<ND)
  (h:∀(h':K1) (j:Nat),e_ prog w h' s.heap.objs.size (dc w) (br ys)->(∀b o,b<s.heap.objs.size->s.heap.get? b=a5 o->h'.get? b=a5 o)->Q (.ref s.heap.objs.size) {s with heap:=h',toks:=j}) :
  g9 (i5 prog w) A (Qg (.type "set") [.ref l]) Q E s:=by
 have f:l<s.heap.objs.size:=let ⟨o,ho,_⟩:=hl;i9 ho;show iI hl.typeIs sub_tuple_set sub_tuple_frozenset (by decide) a (λs1 B Q' k hk c m=>?_) h;have Lr:s1.heap.IsTuple l vs.toArray:=let ⟨o,ho,r⟩:=hl;⟨o,hk _ _ ho,r⟩;show QF Lr ?_;have n:l≠s1.heap.objs.size:=kj (VW f c);have W:=(Walks.tuple (prog:=prog) (w:=w) (A:=B.in1) (by simp[k,g]) s1.heap.objs.size l n vs.toArray).toS;have p:vs.toArray.size=ys.length:=by simp[iJ d]
 rw[p]at W;show m _ _ _ _ _ _ _ W (λ_ _ e=>e) (s_ (kj c) (Mm f)) (λb a=>by rw[nc.mp a];show c) (λi v q=>oa d i v (by simpa using q)) ⟨⟨_,fx _ rfl,rfl,rfl⟩,let ⟨o,ho,r⟩:=Lr;⟨o,c4 _ ho,r⟩⟩ λb o e=>c4 _ e
def og(a:n≠0)(h:∀i<n,Q i {s with drawn:=s.drawn.bump src}):g9 M A (choose src n) Q E s:=λΓ p b=>by
 change Sem.wp M Γ (.choose src n .pure) _ _ p s;rw[Sem.wp_choose];show⟨a,h _ (Yw _ (Nat.pos_of_ne_zero a))⟩
theorem h_:∀{xs:List α}{i:Nat}{x:α},xs[i]?=a5 x->(x::xs.eraseIdx i).Perm xs
 |[],i,x,h=>by simp at h
 |y::ys,0,x,h=>by simp at h;subst h;show .refl _
 |y::ys,i+1,x,h=>by
  rw[N1]at h;rw[YY];show(List.Perm.swap y x _).trans ((h_ h).cons y)
theorem gW:∀(n:Nat) (xs:List α) (s:hW) (Q:List α->hW->Prop),xs.length=n->(∀ys d,ys.Perm xs->Q ys {s with drawn:=d})->g9 M A (drawOrder n xs) Q E s
 |0,xs,s,Q,a,h=>by
  have:xs=[]:=SN.mp a;subst this;show dt (h [] s.drawn (.refl _))
 |n+1,[],s,Q,a,h=>by simp at a
 |n+1,y::ys,s,Q,a,h=>by
  change g9 M A (choose .order (y::ys).length >>= _) Q E s;show b7 (og (by simp) λi hi=>?_);have e:(y::ys)[i]?=a5 ((y::ys)[i]'hi):=H4 hi;have b:=h_ e;generalize (y::ys)[i]'hi=x at e b;simp only[e];show b7 (gW n _ _ _ (by have:=b.length_eq;simp at this a ⊢;lia) λc d hz=>?_);show dt (h (x::c) d ((hz.cons x).trans b))
theorem jH(next:Nat->Nat):∀(fuel k:Nat) (left:List α) (out:Array α),left.length=fuel->(WL next fuel k left out).toList.Perm (out.toList++left)
 |0,k,left,out,hl=>by
  have:left=[]:=SN.mp hl;subst this;simp[WL]
 |fuel+1,k,left,out,hl=>by
  unfold WL;have a:next k % left.length<left.length:=Yw _ ⋯;have e:left[next k % left.length]?=a5 (left[next k % left.length]'a):=H4 a;have b:=h_ e;generalize left[next k % left.length]'a=x at e b;simp only[e];show(jH next fuel _ _ _ (by have:=b.length_eq;simp at this;lia)).trans ?_;rw[Z4,ON];show(b.append_left _)
def fM(next:Nat->Nat)(xs:Array α):(Yo next xs).toList.Perm xs.toList:=by
 have:=jH next xs.size 0 xs.toList #[] (by simp);simpa[Yo] using this
end
namespace SI
def pO:Manifest.owners.lookup (String.ofList ['r','o','t','a','r','e','t','i','_','t','e','s'].reverse)=a5 Manifest.sig_set_iterator:=by kernel_rfl
def slot_next:Slot "set_iterator" "__next__" "set_iterator.__next__" :=
 .of (owner:="set_iterator") (n:="__next__") (by rw[YN,Ur];kernel_rfl) (by decide +kernel) (by decide +kernel) (by decide +kernel)
  (by first|show .inl (by decide +kernel)|show .inr (by decide +kernel)) (by rw[UT];kernel_rfl)
def entry_next:ī table "set_iterator.__next__"=a5 QC.«set_iterator.__next__»:=entryFor_of_tree (by kernel_rfl)
def args_next(a:dV):Į "set_iterator.__next__" ⟨[a],[]⟩:=by
 unfold Į;rw[signature?_of (id:="set_iterator.__next__") (n:=['_','_','t','x','e','n','_','_']) (o:=['r','o','t','a','r','e','t','i','_','t','e','s']) (by kernel_rfl) pO];kernel_rfl
def mQ:Slot "set_iterator" "__iter__" "set_iterator.__iter__" :=
 .of (owner:="set_iterator") (n:="__iter__") (by rw[YN,Ur];kernel_rfl) (by decide +kernel) (by decide +kernel) (by decide +kernel)
  (by first|show .inl (by decide +kernel)|show .inr (by decide +kernel)) (by rw[UT];kernel_rfl)
def u_(a:dV):Į "set_iterator.__iter__" ⟨[a],[]⟩:=by
 unfold Į;rw[signature?_of (id:="set_iterator.__iter__") (n:=['_','_','r','e','t','i','_','_']) (o:=['r','o','t','a','r','e','t','i','_','t','e','s']) (by kernel_rfl) pO];kernel_rfl
def rA:ī table "set_iterator.__iter__"=a5 QC.«dict_keyiterator.__iter__» :=
 Ī (id':="dict_keyiterator.__iter__") (by kernel_rfl) (by first|rfl|decide +kernel|(unfold String.splitOn;simp +decide [String.splitOnAux])) (by decide +kernel) (by kernel_rfl)
def kP:ī table "set.__iter__"=a5 QC.«frozenset.__iter__» :=
 Ī (id':="frozenset.__iter__") (by kernel_rfl) rfl (by decide +kernel) (by kernel_rfl)
end SI
section
variable{prog:y0}{w:Jn}{A:MW}{E:dV->hW->Prop}{s:hW}
abbrev ia(h:K1)(I:hH)(first:dV)(i:Nat)(S:hH)(n ep:Nat):Prop:=∃o,h.get? I=a5 o/\o.cls=.type "set_iterator"/\o.data=.fields #[first,Iv i,.ref S,Iv n,Iv ep]
def ia.typeIs(x:ia s.heap I f i S n ep):s.TypeIs (.ref I) "set_iterator":=let ⟨o,ho,a,_⟩:=x;⟨o,ho,a⟩
def Ap(a:ia s.heap I f i S n ep)(h:Q (.ref I) s):g9 (i5 prog w) A (Yn (.ref I)) Q E s:=by
 show Ā a.typeIs SI.mQ (JF SI.mQ a.typeIs SI.rA ?_ (SI.u_ _));change g9 _ _ (ret (.ref I)) _ _ s;show dt ⟨_,rfl,"set_iterator",_,a.typeIs,SI.slot_next.lookup,h⟩
def fb(h:Q (M.w.params.followText "set-order") s):g9 M A setsByText Q E s:=by
 unfold setsByText;show b7 (XZ (dt h))
end
end L2
namespace L2
open PySem PySem.Spec PyProof.Rows
section
variable{prog:y0}{w:Jn}{A:MW}{E:dV->hW->Prop}{s:hW}
@[reducible]def gM(es:Array (Int×dV))(ep:Nat)(t:SD):Obj:={cls:=.type "set",dict:=b6,data:=.set es ep t}
def pP{I:hH}{B:MW}{Q:Option dV->hW->Prop}{c:K1}{k:dV->Sem (Option dV)}(d:B.handled=b6)
  (f:∀h',(∀b o,c.get? b=a5 o->h'.get? b=a5 o)->∀e,Sd {s with heap:=h' } e "StopIteration"->E e {s with heap:=h' }) {Q':Fin->hW->Prop} :
  g9 (i5 prog w) B (Z8 (.type "StopIteration") [] >>= λe=>(Zp e:Sem Fin)) Q' E {s with heap:=c}:=by
 show b7 ?_;simp only[Z8,ħ];show b7 (sx ?_ (by size_fits));show b7 (m:=UZ _ _) (Yx (a:=qs) (by first|rfl|(simp only[UZ];rfl)) ?_);show sx ?_ (by size_fits);simp only[Zp];show b7 (wpAny_handled ?_);rw[d];show b7 (dt (wpAny_throw ?_));show f _ (λb o e=>c4 _ (c4 _ e)) _ ⟨_,fx _ rfl,rfl⟩
def tf{I S:hH}{first:dV}{i ep:Nat}{es:Array (Int×dV)}{t:SD}(d:ia s.heap I first i S es.size ep)(ho:s.heap.get? S=a5 (gM es ep t))(j:t.fits es.size=bD)
  (k:∀(Q':Fin->hW->Prop) (h:dV->hW->Prop) ,(∀v s',Q (a5 v) s'->Q' (.done (.ret v)) s')->(∀e s',s'.TypeIs e "StopIteration"->Q b6 s'->h e s') ->
   g9 (i5 prog w) A.in1 (if let .int slot _:=first then(do
     match <-Wy S slot.toNat i ep with
     |some (x,next) =>
      WC (.ref I) 0 (Iv next)
      WC (.ref I) 1 (Iv ((i:Int)+1))
      ret x
     |none=>WC (.ref I) 2 .none;Zp (<-Z8 (.type "StopIteration") []))
    else(do
     let a5 c <-ZW first|unsupported "internal:set_iterator"
     match c[i]? with
     |some (.int f _) =>
      let x <-Z7 S f.toNat ep
      WC (.ref I) 1 (Iv ((i:Int)+1))
      ret x
     |some _=>unsupported "internal:set_iterator"
     |none=>WC (.ref I) 0 (Iv 0);WC (.ref I) 2 .none;Zp (<-Z8 (.type "StopIteration") []))) Q' h s):g9 (i5 prog w) A (Sy (.ref I)) Q E s:=by
 have⟨o,l,n,m⟩:=id d;unfold Sy;show b7 (wpAny_attempt (Kv (name:=Pl "__next__") d.typeIs SI.slot_next
  (JF SI.slot_next d.typeIs SI.entry_next ?_ (SI.args_next _))))
 unfold QC.«set_iterator.__next__»;show b7 (Yx (a:=(my I,[])) rfl ?_)
 try dsimp only
 show b7 (wpAny_fieldsOf l m ?_)
 try dsimp only
 show b7 (è ho rfl j ?_);rw[ĺ (by simp)];show uv (k (λg s'=>∃r,g=.done (.ret r)/\Q (a5 r) s') (λe s'=>s'.TypeIs e "StopIteration"/\Q b6 s') (λv s' q=>⟨v,rfl,q⟩) λe s' z q=>⟨z,q⟩) ?_ ?_
 .rintro g s' ⟨r,rfl,q⟩;show⟨r,rfl,dt q⟩
 .rintro e s' ⟨z,q⟩;show b7 (XY (T:="StopIteration") (b:=bD) z Ĩ ?_);show dt q
end
section
def tm{I S:hH}{f f':dV}{i n ep:Nat}{h:K1}{o:Obj}(b:h.get? I=a5 o)(c:o.cls=.type "set_iterator")(a:o.data=.fields #[f,Iv i,.ref S,Iv n,Iv ep]):
  ia (h.update I (Ċ (·.setIfInBounds 1 (Iv ((i:Int)+1))))) I f (i+1) S n ep :=
 ⟨_,JM _ b (Tg (Oi a _)),(VI ..).trans c,by rw[Oi a];simp⟩
def pQ{h:K1}(b:h.get? I=a5 o)(c:o.cls=.type "set_iterator")(a:o.data=.fields #[f,Iv i,.ref S,Iv n,Iv ep]):
  ∃o',(h.update I (Ċ (·.setIfInBounds 0 f'))).get? I=a5 o'/\o'.cls=.type "set_iterator"/\o'.data=.fields #[f',Iv i,.ref S,Iv n,Iv ep] :=
 ⟨_,JM _ b (Tg (Oi a _)),(VI ..).trans c,by rw[Oi a];simp⟩
def xu{I S:hH}{slot i ep:Nat}{es:Array (Int×dV)}{t:SD}{Q:Option dV->hW->Prop}(a:ia s.heap I (Iv slot) i S es.size ep)(ho:s.heap.get? S=a5 (gM es ep t))(j:t.fits es.size=bD)(l:A.handled=b6)
  {r:Option (dV×Nat)} (m:∀(B:MW) (f:dV->hW->Prop) (Q':Option (dV×Nat)->hW->Prop),Q' r s->g9 (i5 prog w) B (Wy S slot i ep) Q' f s)
  (n:∀x nx,r=a5 (x,nx)->∀h',ia h' I (Iv nx) (i+1) S es.size ep->KH I s.heap h'->Q (a5 x) {s with heap:=h' })
  (q:r=b6->∀h',(∀b o,b≠I->s.heap.get? b=a5 o->h'.get? b=a5 o)->Q b6 {s with heap:=h' }):g9 (i5 prog w) A (Sy (.ref I)) Q E s:=by
 show tf a ho j λQ' f u v=>?_;have⟨o,c,y,d⟩:=id a;change g9 _ _ (Wy S slot i ep >>= _) _ _ s;show b7 (m _ _ _ ?_);cases r with
 |some p =>
  have⟨x,nx⟩:=p
  dsimp only
  show b7 (Oe c d (by simp) ?_);have⟨o',g,e2,h⟩:=pQ (f':=Iv nx) c y d;show b7 (Oe (s:={s with heap:=_}) g h (by simp) ?_);show dt (u _ _ (n x nx rfl _ (tm (f':=Iv nx) g e2 h) ((Lj ..).trans (Lj ..))))
 |none =>
  dsimp only
  show b7 (Oe c d (by simp) ?_);show pP (I:=I) (k:=λ_=>pure b6) (Q:=λ_ _=>True) (s:=s) (by simpa using l) λh' hk e z=>v e _ z (q rfl h' λb C D G=>hk b C ?_);rw[Py _ _ _ _ D];show G
def Dw{I S T:hH}{i ep:Nat}{es:Array (Int×dV)}{t:SD}{pl:List Nat}{Q:Option dV->hW->Prop}(a:ia s.heap I (.ref T) i S es.size ep)(ho:s.heap.get? S=a5 (gM es ep t))(l:t.fits es.size=bD)(q:A.handled=b6)
  (r:s.heap.IsTuple T ((pl.map λ(j:Nat)=>Iv j).toArray))
  (u:∀(j:Nat) (e:Int×dV),pl[i]?=a5 j->es[j]?=a5 e->∀h',ia h' I (.ref T) (i+1) S es.size ep->KH I s.heap h'->Q (a5 e.2) {s with heap:=h' })
  (v:∀j∈pl,j<es.size)
  (x:pl[i]?=b6->∀h',(∀b o,b≠I->s.heap.get? b=a5 o->h'.get? b=a5 o)->Q b6 {s with heap:=h' }):g9 (i5 prog w) A (Sy (.ref I)) Q E s:=by
 show tf a ho l λQ' N y z=>?_;have⟨o,c,m,d⟩:=id a;have⟨O,B,Y,nT,C⟩:=r;change g9 _ _ (ZW (.ref T) >>= _) _ _ s;show b7 (Zk B C ?_);cases e:pl[i]? with
 |some j =>
  have f:(pl.map λ(j:Nat)=>Iv j).toArray[i]?=a5 (Iv j):=by simp[e]
  simp only[f];have g:j<es.size:=v j (tr e);have h:es[j]?=a5 (es[j]'g):=by simp[g]
  change g9 _ _ (Z7 S (j:Int).toNat ep >>= _) _ _ s;unfold Z7;rw[LJ];show b7 (b7 (KX ho rfl l ?_))
  dsimp only
  rw[ĺ (by simp)];generalize es[j]'g=p at h;simp only[h];show dt ?_;show b7 (Oe c d (by simp) ?_);show dt (y _ _ (u j p e h _ (tm (f':=.ref T) c m d) (Lj ..)))
 |none =>
  have f:(pl.map λ(j:Nat)=>Iv j).toArray[i]?=b6:=by simp at e ⊢;show e
  simp only[f];show b7 (Oe c d (by simp) ?_);have⟨o',D,e2,G⟩:=pQ (f':=Iv 0) c m d;show b7 (Oe (s:={s with heap:=_}) D G (by simp) ?_);show pP (I:=I) (k:=λ_=>pure b6) (Q:=λ_ _=>True) (s:=s) (by simpa using q) λh' hk ex H=>z ex _ H (x e h' λb J n L=>hk b J ?_);rw[Py _ _ _ _ n,Py _ _ _ _ n];show L
end
section
def ia.at(x:ia h I f i S n ep)(e:∀o,h.get? I=a5 o->h'.get? I=a5 o):ia h' I f i S n ep:=let ⟨o,ho,r⟩:=x;⟨o,e _ ho,r⟩
def kQ(q:A.handled=b6)(n:S≠I)(r:t.fits es.size=bD)(T:hH)(p:T≠I)(c:List dV)(k:c.length=es.size)
  (first:Nat->dV) (a:K1->Prop) (l:∀h h',a h->(∀o,h.get? T=a5 o->h'.get? T=a5 o)->a h')
  (m:∀(s:hW) (i:Nat) (E:dV->hW->Prop) (Q:Option dV->hW->Prop),i<=es.size->a s.heap->ia s.heap I (first i) i S es.size ep->s.heap.get? S=a5 (gM es ep t) ->
   (∀x,c[i]?=a5 x->∀h',ia h' I (first (i+1)) (i+1) S es.size ep->KH I s.heap h'->Q (a5 x) {s with heap:=h' }) ->
   (c[i]?=b6->∀h',(∀b o,b≠I->s.heap.get? b=a5 o->h'.get? b=a5 o)->Q b6 {s with heap:=h' })->g9 (i5 prog w) A (Sy (.ref I)) Q E s) :
  Walks prog w A I [I,S,T] [I] es.size (λi v=>c[i]?=a5 v) (λi h=>i<=es.size/\ia h I (first i) i S es.size ep/\h.get? S=a5 (gM es ep t)/\a h) where
 sub:=λb d=>by rw[nc.mp d];simp
 frame:=λi h h' x hk=>⟨x.1,x.2.1.at λo e=>hk I (by simp) o e,hk S (by simp) _ x.2.2.1,l h h' x.2.2.2 λo e=>hk T (by simp) o e⟩
 item:=λi s Q E hi x f=>by
  show m s i E Q x.1 x.2.2.2 x.2.1 x.2.2.1 (λv g h' j hs=>?_) λz=>absurd z (by simp;lia);show f v h' s.toks g ⟨hi,j,?_,l _ h' x.2.2.2 λo e=>?_⟩ λb o d e=>?_
  .rw[hs.2 S n];show x.2.2.1
  .rw[hs.2 T p];show e
  .rw[hs.2 b λz=>d (by simp[z])];show e
 done:=λs Q E x f=>by
  show m s es.size E Q x.1 x.2.2.2 x.2.1 x.2.2.1 (λv g=>absurd g (by rw[Tf ⋯];simp)) λ_ h' hk=>f h' s.toks λb o d e=>hk b o (λz=>d (by simp[z])) e
 self:=λi s Q E x f=>Ap x.2.1 f
def oh(ho:s.heap.get? S=a5 (gM es ep t))(a:t.fits es.size=bD)(h:Q (!w.params.followText "set-order"&&(!t.plain&&cK (es.size>1))) s):g9 (i5 prog w) A (setDrawn S) Q E s:=by
 unfold setDrawn;show b7 (KX ho rfl a ?_)
 dsimp only
 show b7 (fb (dt h))
def oi(a:w.params.followText "set-order"=bD)(ho:s.heap.get? S=a5 (gM es ep t))(b:t.fits es.size=bD)
  (h:Q ((Yo (w.params.setOrder S ep) es)[i]?.map λe=>(e.2,0)) s):g9 (i5 prog w) A (Wy S 0 i ep) Q E s:=by
 unfold Wy;show b7 (KX ho rfl b ?_)
 dsimp only
 show b7 (fb ?_);change g9 _ _ (if (w.params.followText "set-order")=bD then _ else _) _ _ s;rw[Ĺ a];rw[ĺ (by simp)];unfold setWalk;show b7 (b7 (KX ho rfl b ?_))
 dsimp only
 show b7 (fb ?_);change g9 _ _ (if (w.params.followText "set-order")=bD then _ else _) _ _ s;rw[Ĺ a];show b7 (XZ (dt ?_));show dt h
theorem pR(hw:w.params.followText "set-order"=cb)(ho:s.heap.get? S=a5 (gM es ep t))(hf:t.fits es.size=bD)(hl:t.led=bD)(h1:es.size<=1)
    (h:Q (match es[NC t.place slot]?,t.place[NC t.place slot]? with|some (_,x),a5 j=>a5 (x,j+1)|_,_=>b6) s):g9 (i5 prog w) A (Wy S slot i ep) Q E s:=by
  unfold Wy;refine b7 (KX ho rfl hf ?_)
  dsimp only
  refine b7 (fb ?_);show g9 _ _ (if (w.params.followText "set-order")=bD then _ else _) _ _ s;rw[ĺ (by rw[hw];simp)];show g9 _ _ (if (!t.plain&&cK (es.size>1))=bD then _ else _) _ _ s
  rw [if_neg (by have : decide (es.size > 1) = false := decide_eq_false (by lia)
                 rw[this];simp)]
  show g9 _ _ ((if (!t.led&&!es.isEmpty)=bD then _ else _) >>= _) _ _ s;rw[ĺ (by rw[hl];simp)];exact b7 (dt (dt h))
def pS(es:Array (Int×dV))(pl:Array Nat)(i:Nat)(b:es.size<=1)(c:pl.size=es.size)(a:i<=es.size):
  (match es[NC pl (if i=0 then 0 else(pl[0]?).getD 0+1)]?,pl[NC pl (if i=0 then 0 else(pl[0]?).getD 0+1)]? with|some (_,x),a5 j=>a5 (x,j+1)|_,_=>b6)=es[i]?.map λe=>(e.2,(pl[0]?).getD 0+1):=by
 have⟨es⟩:=es;have⟨pl⟩:=pl
 match es,pl,b,c,a with
 |[],[],_,_,a=>simp
 |[e],[p],_,_,a =>
  match i,a with
  |0,_ =>
   have:NC #[p] 0=0:=by simp[NC,W8]
   simp[this]
  |1,_ =>
   have:NC #[p] (p+1)=1:=by simp[NC,W8]
   simp[this]
  |n+2,h=>simp at h
 |[],_::_,_,h,_=>simp at h
 |[_],[],_,h,_=>simp at h
 |[_],_::_::_,_,h,_=>simp at h
 |_::_::_,_,h,_,_=>simp at h
def xv(y:B.handled=b6)(hS:e_ prog w s.heap S (dc w) D)
  (h:∀(I:hH) (fp:List hH) (n:Nat) (P:Nat->dV->Prop) (St:Nat->K1->Prop) (ys:List Str) (h':K1) (d':Drawn),Walks prog w B I fp [I] n P St->ys.Perm D->n=ys.length->(∀i v,P i v->∃x O,ys[i]?=a5 x/\v=.str x O)->s.heap.objs.size<=I->(∀b∈fp,b=S\/s.heap.objs.size<=b)->St 0 h' ->
   (∀b o,s.heap.get? b=a5 o->h'.get? b=a5 o)->Q (.ref I) {s with heap:=h',drawn:=d' }):g9 (i5 prog w) A (Yn (.ref S)) Q E s:=by
 have⟨L,es,ep,t,ho,LK,T,Io,a,c,K5,IK⟩:=hS;have UW:s.TypeIs (.ref S) "set":=⟨_,ho,rfl⟩
 have Y:S<s.heap.objs.size:=i9 ho;show Ā UW PySem.F.slot_set_iter (JF PySem.F.slot_set_iter UW SI.kP ?_ (PySem.F.args_set_iter_1 _));unfold QC.«frozenset.__iter__» ß slotArgs;simp only[List.isEmpty_nil,ý,Oc,↓reduceIte,bind_assoc,Tb,bne_self_eq_false];unfold â à;show b7 (dt ?_)
 try dsimp only
 show b7 (dt ?_);show b7 (b7 (è ho rfl a (dt ?_)));have WX:D.length=es.size:=by rw[<-T.length_eq,df,<-rl,LK,df]
 have d:∀(l:List (Int×dV)),l.Perm es.toList->∃ys:List Str,ys.Perm D/\ys.length=es.size/\∀(i:Nat) (v:dV),(l.map (·.2))[i]?=a5 v->∃(x:Str) (O:Tok),ys[i]?=a5 x/\v=J4 x O:=by
  intro l hl;rw[LK]at hl;have⟨L',e',p'⟩:=hV hl;show⟨L'.map (·.1),(p'.map _).trans T,by rw[((p'.map _).trans T).length_eq,WX],λi v C=>?_⟩;subst e';rw[ko,k9]at C;rw[k9];cases q:L'[i]? with
  |none=>rw[q]at C;simp at C
  |some p=>rw[q]at C;simp at C;show⟨p.1,p.2,rfl,C.symm⟩
 show b7 (oh ho a ?_);cases hw:w.params.followText "set-order" with
 |true =>
  simp only[ý,î,Oc,↓reduceIte];show b7 (dt ?_);show b7 (b7 (KX ho rfl a (dt ?_)));show b7 (sx ?_);have g:S≠s.heap.objs.size:=kj Y;have⟨ys,G,H,J⟩:=d (Yo (w.params.setOrder S ep) es).toList (fM _ _);have W:=kQ (prog:=prog) (w:=w) (A:=B) (I:=s.heap.objs.size) (S:=S) (es:=es) (ep:=ep) (t:=t) y g a S g ((Yo (w.params.setOrder S ep) es).toList.map (·.2)) (by rw[df,(fM _ _).length_eq,rl]) (λ_=>Iv 0) (λ_=>True) (λ_ _ _ _=>trivial)
   (λs i E Q _ _ f m k1 k2=>xu (slot:=0) f m a y (λB E' Q' q=>oi hw m a q) (λx nx e h' N hs=>by
    rw[ez]at e;have⟨p,u,e2⟩:=e;cases e2;show k1 _ (by rw[k9,Ie,u];rfl) h' N hs) (λe=>k2 (by rw[k9,Ie,SH];rwa [SH]at e)))
  show dt ⟨_,rfl,"set_iterator",_,⟨_,fx _ rfl,rfl⟩,SI.slot_next.lookup,?_⟩;show h _ _ _ _ _ ys _ s.drawn W G H.symm J (hY _) (λb c=>by
   simp only[gj,Rv,or_false]at c;rcases c with rfl|rfl|rfl
   .show .inr (hY _)
   .show .inl rfl
   .show .inl rfl) ⟨mN _,⟨_,fx _ rfl,rfl,rfl⟩,c4 _ ho,trivial⟩ λb o e=>c4 _ e
 |false =>
  by_cases hsz:es.size>1
  .have JJ:t.plain=cb:=by
    rcases IK with z|z
    .lia
    .show z
   have u:(!cb&&(!t.plain&&cK (es.size>1)))=bD:=by rw[JJ,ļ hsz];rfl
   rw[u];simp only[↓reduceIte];show b7 (gW _ _ _ _ Sg λpl d' hp=>?_);simp only[ħ];have Mz:∀j∈pl,j<es.size:=λj hj=>by have:=hp.mem_iff.mp hj;simpa using this
   have Pz:pl.length=es.size:=by rw[hp.length_eq];simp
   show b7 (sx ?_ (by
    change(pl.map λ(j:Nat)=>Iv j).toArray.size<=_;have:es.size<4096:=c;simp only[hQ,df,Pz];have:(4096:Nat)<=cL:=by decide
    lia))
   have K6:(s.heap.push {cls:=.type "tuple",data:=.seq (pl.map λ(j:Nat)=>Iv j).toArray}).get? S=a5 (gM es ep t):=c4 _ ho;show b7 (b7 (KX (s:={s with heap:=_,drawn:=d' }) K6 rfl a (dt ?_)));show b7 (sx ?_);have WY:s.heap.objs.size≠(s.heap.push {cls:=.type "tuple",data:=.seq (pl.map λ(j:Nat)=>Iv j).toArray}).objs.size:=by rw[OM];show kj (Pt _)
   have g:S≠(s.heap.push {cls:=.type "tuple",data:=.seq (pl.map λ(j:Nat)=>Iv j).toArray}).objs.size:=by rw[OM];show kj (Rh Y)
   have NO:(pl.map λj=>(es[j]?).getD (0,qs)).Perm es.toList:=by
    show(hp.map _).trans ?_;have:(i4 es.size).map (λj=>(es[j]?).getD (0,qs))=es.toList:=by
     apply N5
     .simp
     .intro i h1 h2;simp at h1 ⊢;simp[h1]
    rw[this]
   have⟨ys,G,H,J⟩:=d _ NO;have W:=kQ (prog:=prog) (w:=w) (A:=B) (I:=(s.heap.push {cls:=.type "tuple",data:=.seq (pl.map λ(j:Nat)=>Iv j).toArray}).objs.size) (S:=S) (es:=es) (ep:=ep) (t:=t) y g a s.heap.objs.size WY ((pl.map λj=>(es[j]?).getD (0,qs)).map (·.2)) (by simp[Pz]) (λ_=>.ref s.heap.objs.size) (λh=>h.IsTuple s.heap.objs.size (pl.map λ(j:Nat)=>Iv j).toArray) (λh h' ⟨o,ho,r⟩ k=>⟨o,k _ ho,r⟩)
    (λs' i E Q _ KR f m k1 k2=>Dw f m a y KR (λj e ej ee h' N hs=>k1 _ (by rw[k9,k9,ej];simp[ee]) h' N hs) Mz (λe=>k2 (by rw[k9,k9,e];rfl)))
   show dt ⟨_,rfl,"set_iterator",_,⟨_,fx _ rfl,rfl⟩,SI.slot_next.lookup,?_⟩;show h _ _ _ _ _ ys _ d' W G H.symm J (by rw[OM];show O' _) (λb c=>?_) ⟨mN _,⟨_,fx _ rfl,rfl,rfl⟩,c4 _ K6,⟨_,c4 _ (fx _ rfl),rfl,_,rfl⟩⟩ λb o e=>c4 _ (c4 _ e);rw[OM]at c;simp only[gj,Rv,or_false]at c;rcases c with rfl|rfl|rfl
   .show .inr (O' _)
   .show .inl rfl
   .show .inr (hY _)
  .have u:(!cb&&(!t.plain&&cK (es.size>1)))=cb:=by rw[Ļ hsz];simp
   rw[u];simp only[Oc,↓reduceIte];show b7 (dt ?_);show b7 (b7 (KX ho rfl a (dt ?_)));show b7 (sx ?_);have g:S≠s.heap.objs.size:=kj Y;have SF:t.led=bD:=by rw[K5];change(!w.params.followText "set-order")=bD;rw[hw];rfl
   have⟨ys,G,H,J⟩:=d es.toList (.refl _);have Kj:t.place.size=es.size:=by
    unfold SetTable.fits at a;simp only[b8,beq_iff_eq]at a;show a.1
   have W:=kQ (prog:=prog) (w:=w) (A:=B) (I:=s.heap.objs.size) (S:=S) (es:=es) (ep:=ep) (t:=t) y g a S g (es.toList.map (·.2)) (by simp) (λi=>Iv ((if i=0 then 0 else(t.place[0]?).getD 0+1:Nat):Nat)) (λ_=>True) (λ_ _ _ _=>trivial)
    (λs' i E Q hi _ f m k1 k2=>xu (slot:=if i=0 then 0 else(t.place[0]?).getD 0+1) f m a y (λB E' Q' q=>pR hw m a SF ⋯ q) (λx nx e h' N hs=>by
     rw[pS es t.place i ⋯ Kj hi,ez]at e;have⟨p,u,e2⟩:=e;cases e2;show k1 _ (by rw[k9,Ie,u];rfl) h' ?_ hs;rw[ĺ (Nat.succ_ne_zero i)];show N) (λe=>by
     rw[pS es t.place i ⋯ Kj hi,SH]at e;show k2 (by rw[k9,Ie,e];rfl)))
   show dt ⟨_,rfl,"set_iterator",_,⟨_,fx _ rfl,rfl⟩,SI.slot_next.lookup,?_⟩;show h _ _ _ _ _ ys _ s.drawn W G H.symm J (hY _) (λb c=>by
    simp only[gj,Rv,or_false]at c;rcases c with rfl|rfl|rfl
    .show .inr (hY _)
    .show .inl rfl
    .show .inl rfl) ⟨mN _,⟨_,fx _ rfl,rfl,rfl⟩,c4 _ ho,trivial⟩ λb o e=>c4 _ e
end
def pT:ò (.type "set") "__len__"=pure (a5 (.builtin "set.__len__")):=by rw[YN,Ur];kernel_rfl
section
theorem kR:∀{vs:List dV}{ys:List Str},vs.length=ys.length->(∀(i:Nat) (v:dV),vs[i]?=a5 v->∃x t,ys[i]?=a5 x/\v=.str x t)->RH vs ys
 |[],[],_,_=>.nil
 |[],_::_,h,_=>by simp at h
 |_::_,[],h,_=>by simp at h
 |v::vs,y::ys,h,k=>by
  have⟨x,t,a,e2⟩:=k 0 v rfl;cases a;subst e2;show .cons y t (kR (by simpa using h) λi w b=>k (i+1) w b)
def pU(J:A.handled=b6)(N:e_ prog w s.heap S (dc w) D)(O:D.length<=cL)
  (T:∀(vs:List dV) (ys:List Str) (h':K1) (d':Drawn) (h:Nat),ys.Perm D->RH vs ys->s.heap.objs.size<=h'.objs.size->s.toks<=h->(∀b o,s.heap.get? b=a5 o->h'.get? b=a5 o)->Q vs {s with heap:=h',drawn:=d',toks:=h}) :
  g9 (i5 prog w) A (Z9 (.ref S)) Q E s:=by
 have⟨L,es,ep,t,ho,c⟩:=id N;have Y:S<s.heap.objs.size:=i9 ho;unfold Z9;show b7 (Zl (NF PySem.F.entry_proto_collect ?_));rw[OU PySem.F.plain_proto_collect _];change g9 _ A.in1 (ă [] >>= λl=>į (.builtin "list.__iadd__" ⟨[l,.ref S],[]⟩)) _ _ s;show b7 (sx ?_);show dt ⟨V3 PySem.F.plain_list_iadd _,NF PySem.F.entry_list_iadd ?_⟩;rw[OU PySem.F.plain_list_iadd _];have f:(s.heap.push {cls:=.type "list",data:=.seq ([]:List dV).toArray}).get? S=a5 {cls:=.type "set",dict:=b6,data:=.set es ep t}:=c4 _ ho;have hT:Sd {s with heap:=s.heap.push {cls:=.type "list",data:=.seq ([]:List dV).toArray}} (.ref S) "set":=⟨_,f,rfl⟩
 change g9 _ A.in1 (N' (.ref s.heap.objs.size) (.ref S) (.ref s.heap.objs.size)) _ _ _;unfold N';show b7 (Ry hT ?_);have j:s.heap.objs.size≠S:=Mm Y;have h1:Vt (.ref s.heap.objs.size) (.ref S)=cb:=by simp[Vt,j]
 have h2:(K2 "set"==K2 "list")=cb:=by decide
 have h3:(K2 "set"==K2 "tuple")=cb:=by decide
 simp only[h1,h2,h3,ü,Oc,if_false];show b7 (xv (B:=A.in1) (by simpa using J) ⟨L,es,ep,t,f,c⟩ ?_);intro I fp n P St ys h' d' W k m hP p WZ HU hk;have g:Sd {s with heap:=h',drawn:=d' } (.ref S) "set":=⟨_,hk _ _ f,rfl⟩
 show b7 (Jq ?_);unfold ğ;show b7 (Ĝ g pT ?_);have Jx:splitId "set.__len__"=a5 ("set","__len__"):=by decide +kernel
 dsimp only
 rw[Jx]
 dsimp only
 show b7 (XY g sub_set_self ?_);rw[ĺ (by decide)];rw[Ĺ (by decide +kernel)];show b7 (Ry g ?_);show dt ?_;rw[Ĺ (by decide +kernel)];have q:s.heap.objs.size∉fp:=λa=>by
  rcases WZ _ a with z|z
  .show j z
  .rw[OM]at z;show absurd z (Nat.not_succ_le_self _)
 have r:h'.get? s.heap.objs.size=a5 {cls:=.type "list",data:=.seq ([]:List dV).toArray}:=hk _ _ (fx _ rfl);show b7 (RU ?_);show b7 ?_;change g9 _ A.in1 (updateSeq s.heap.objs.size (·.push .none) >>= λ_=>updateSeq s.heap.objs.size (·.pop)) _ _ _;show b7 (T6 r rfl ?_);have u:=JM (vl (·.push qs)) r rfl;show T6 u rfl ?_;have W0:=JM (vl (·.pop)) u rfl;have x:∀b o,b≠s.heap.objs.size->h'.get? b=a5 o->((h'.update s.heap.objs.size (vl (·.push qs))).update s.heap.objs.size (vl (·.pop))).get? b=a5 o :=
  λb o d e=>(Qx _ _ (tv d)).trans ((Qx _ _ (tv d)).trans e)
 show dt ⟨V3 PySem.F.plain_extend_loop _,codeAny_extend_loopS W.toS (by rw[m,k.length_eq];show O) _ q _ n 0 _ _ _ rfl (mN _) (W.frame 0 h' _ HU λb d o e=>x b o (λz=>q (z▸d)) e) W0 (ItemsOf.nil P) λs' PB c' a y C=>?_⟩;change g9 _ A (load s.heap.objs.size >>= _) _ _ s';show b7 (ï y ?_);have⟨QN,g2,G,W2,W3⟩:=s';have eg:g2=s.gens:=a.gens;have ed:G=d':=a.drawn;have eo:W3=s.os:=a.os;subst eg;subst ed;subst eo;show dt (T _ ys QN G W2 k (kR (by rw[rl,C.1,m]) λi v hv=>hP i v (C.2 i v (by rwa [Ie]at hv))) (Ol (i9 y)) a.toks λb o e=>?_);have H:b≠s.heap.objs.size:=λz=>by rw[z]at e;show absurd (i9 e) (H8 _)
 show a.heap b o (λz=>?_) (x b o H (hk _ _ (c4 _ e)));rcases gj.mp z with z|z
 .show H z
 .rw[nc.mp z]at e;have:=i9 e;rw[OM]at p;show absurd (ku this (B' (O' _) p)) (H8 _)
end
section
def Inv.drawn(I:Inv X a σ H s)(d:Drawn):Inv X a σ H {s with drawn:=d}:=⟨I.ok,I.os,I.bare,I.base,I.loc,I.cell,I.free,I.Iz,I.pin,I.HR,I.len⟩
def iK(i:X.calm=bD)(I:Inv X c σ H s)(hq:IF X.K H p (ys.map V.str)\/II X.K H p (ys.map V.str))(f:ys.length+1<ND)
  (h:∀(S:hH) (h':K1) (a:Nat),e_ X.prog X.w h' S (dc X.w) (br ys)->Inv X c σ H {s with heap:=h',toks:=a}->Q (.ref S) {s with heap:=h',toks:=a}) :
  g9 (i5 X.prog X.w) X.A (Qg (.type "set") [.ref p]) Q X.xe s:=by
 have g:X.A.handled=b6:=I.ok.hd i;rcases hq with hq|hq
 .have⟨j,rv,pl,hz⟩:=I.list hq;show kO g pl.isList (dC rv) f λh' a d k=>h _ h' a d (I.kept λb o e=>k b o (i9 e) e)
 .have⟨j,rv,pl,hz⟩:=I.tuple hq;show mn g pl (dC rv) f λh' a d k=>h _ h' a d (I.kept λb o e=>k b o (i9 e) e)
def mq(i:X.calm=bD)(I:Inv X a σ H s)(j:e_ X.prog X.w s.heap S (dc X.w) D)(d:D.length<64)
  (q:∀p,H p=b6->Q (.ref p) (upd H p (.lst ((bu D).map V.str)))):g9 (i5 X.prog X.w) X.A (Qg (.builtin "sorted") [.ref S]) (EP X a σ Q) X.xe s:=by
 have k:X.A.handled=b6:=I.ok.hd i;have hl:D.length<=cL:=Ol (ku d (by decide));show eZ (pU (A:=X.A.in1) (by simpa using k) j hl λvs ys h' d' b f g hsz m hk=>⟨ys,g,by rw[iJ g,f.length_eq];show d,λn vs' e k2 c s2=>?_⟩);rw[fL f]at s2;have l:Inv X a σ H {s with heap:=h',toks:=b}:=I.kept (t':=b) hk;have h:Inv X a σ H {s with heap:=h',drawn:=d',toks:=b}:=l.drawn d';show⟨.ref h'.objs.size,_,h.laid (t':=b) (o:=.lst ((bu D).map V.str)) k2 (hY _) ⟨by rw[df,eY];show hl,vs',e,du s2,c⟩,rfl,q _ (h.HR.fresh (hY _))⟩
def rB(I:Inv X a σ H s)(c:e_ X.prog X.w s.heap S (dc X.w) D)
  (q:Q (.int D.length) H):g9 (i5 X.prog X.w) X.A (Qg (.builtin "len") [.ref S]) (EP X a σ Q) X.xe s:=by
 have⟨L,es,ep,t,ho,d,g,j,h,i,k,l⟩:=c;have b:es.size=D.length:=by rw[<-rl,d,df,<-df (f:=ì) (as:=L),g.length_eq]
 have m:es.size<4096:=i;show call_len_set ho ⟨rfl,rfl,rfl⟩ rfl h ⋯ ?_;show⟨.int es.size,_,I.kept (t':=s.toks+1+1) (λ_ _ e=>e),⟨_,rfl⟩,by rw[b];show q⟩
end
section
def iL(a:s.heap.IsTupleIter it l i)
  (hl:s.heap.IsTuple l b) (d:b[i]?=a5 x)
  (e:∀h',h'.IsTupleIter it l (i+1)->KH it s.heap h'->Q x {s with heap:=h' }) :
  g9 (i5 prog w) A (Lx (.ref it)) Q E s:=by
 have⟨o,ho,f,c⟩:=id a;obtain⟨j,g,_,k,h⟩:=hl;unfold Lx;show b7 (Kv (name:=Pl "__next__") a.typeIs PySem.F.slot_tuple_iterator_next
  (JF PySem.F.slot_tuple_iterator_next a.typeIs PySem.F.entry_tuple_iterator_next ?_ (PySem.F.args_tuple_iterator_next_1 _)))
 change g9 _ _ (ĩ (.ref it) 0 >>= _) _ _ s;show b7 (NP ho c (x:=.ref l) rfl ?_);change g9 _ _ (if (my l==qs)=bD then _ else _) _ _ s;rw[ĺ (show ¬((my l==qs)=bD) from mx)];change g9 _ _ (ĩ (.ref it) 1 >>= _) _ _ s;show b7 (NP ho c (x:=.int i 0) rfl ?_);change g9 _ _ (ZW (.ref l) >>= _) _ _ s;show b7 (Zk g h ?_);simp only[LJ,d];show b7 (Oe ho c (by simp) (dt ⟨x,rfl,dt (e _ ?_ (Lj ..))⟩));show⟨_,JM _ ho (Tg (Oi c _)),(VI ..).trans f,by
  rw[Oi c];simp[Iv]⟩
def eF(f:A.handled=b6)
  (b:s.heap.IsTupleIter it l i) (hl:s.heap.IsTuple l c) (g:c[i]?=b6)
  (h:∀h' e,Zy it s.heap h'->(∃o,h'.get? e=a5 o/\o.cls=.type "StopIteration")->E (.ref e) {s with heap:=h' }) :
  g9 (i5 prog w) A (Lx (.ref it)) Q E s:=by
 have⟨o,ho,n,d⟩:=id b;obtain⟨p,j,_,q,k⟩:=hl;unfold Lx;show b7 (Kv (name:=Pl "__next__") b.typeIs PySem.F.slot_tuple_iterator_next
  (JF PySem.F.slot_tuple_iterator_next b.typeIs PySem.F.entry_tuple_iterator_next ?_ (PySem.F.args_tuple_iterator_next_1 _)))
 change g9 _ _ (ĩ (.ref it) 0 >>= _) _ _ s;show b7 (NP ho d (x:=.ref l) rfl ?_);change g9 _ _ (if (my l==qs)=bD then _ else _) _ _ s;rw[ĺ (show ¬((my l==qs)=bD) from mx)];change g9 _ _ (ĩ (.ref it) 1 >>= _) _ _ s;show b7 (NP ho d (x:=.int i 0) rfl ?_);change g9 _ _ (ZW (.ref l) >>= _) _ _ s;show b7 (Zk j k ?_);simp only[LJ,g];show b7 (RU (b7 (Oe ho d (by simp) ?_)));change g9 _ _ (Z8 (.type "StopIteration") [] >>= _) _ _ _;show b7 ?_;simp only[Z8,ħ];show b7 (sx ?_ (by size_fits));show b7 (m:=UZ _ _) (Yx (a:=qs) (by first|rfl|(simp only[UZ];rfl)) ?_);show sx ?_ (by size_fits);simp only[Zp];show b7 (wpAny_handled ?_)
 first|rw[show A.in1.handled=b6 from f]|rw[f]
 show b7 (dt (wpAny_throw ?_));show h _ _ (((Lj ..).extBut.push _).push _) ⟨_,fx _ rfl,rfl⟩
end
def pV(c:A.handled=b6)(it l:hH)(d:l≠it)(a:Array dV):
  Draws prog w A it [it,l] a.size (λi v=>a[i]?=a5 v) (λi h=>h.IsTupleIter it l i/\h.IsTuple l a) where
 live:=λ_ _ st=>let ⟨o,ho,_⟩:=st.1;⟨o,ho⟩
 frame:=λ_ _ _ st hk=>⟨st.1.at λo e=>hk it (by simp) o e,let ⟨o,ho,r⟩:=st.2;⟨o,hk l (by simp) o ho,r⟩⟩
 item:=λi s Q E hi st f=>by
  show iL st.1 st.2 (x:=a[i]) (by simp[hi]) λh' g b=>?_;show f _ h' s.toks (by simp[hi]) ⟨g,let ⟨o,ho,r⟩:=st.2;⟨o,(b.2 l d).trans ho,r⟩⟩ b
 done:=λs Q E st j=>eF c st.1 st.2 (by simp) j
open AutoSeq1 (wpAny_loadPart') in
def kS(l:hH)(a:Array dV)(n:Nat)(e:Option hH)(f:Array (Option dV)):
  Meets (QC.«enumerate.__new__» ⟨[.type "enumerate",.ref l],[]⟩) (λ_ R s=>s.heap.get? l=a5 {cls:=.type "tuple",dict:=e,data:=.seq a n,slots:=f} /\
   R (.ok (.ret (.ref (s.heap.push {cls:=.type "tuple_iterator",data:=.fields #[.ref l,.int 0 0]}).objs.size)))
    {s with heap:=(s.heap.push {cls:=.type "tuple_iterator",data:=.fields #[.ref l,.int 0 0]}).push {cls:=.type "enumerate",data:=.fields #[.none,.bool cb,.ref s.heap.objs.size,Iv 0,.none,.none]}}) :=
 .of_wp λprog w A R s h=>by
  have⟨i,g,d,j,os⟩:=s;have⟨hl,h⟩:=h;have k:=sub_enumerate;have b:Heap.IsTuple (Shared.heap ⟨i,g,d,j,os⟩) l a:=⟨_,hl,rfl,n,rfl⟩
  wp_walk using T7 hl
  show wpAny_stack_any λst=>dt ?_;split
  .rename_i c _ _ _ _ _;cases(c==K2 "enumerate")
   .wp_walk using T7 hl,QF b
    show⟨_,rfl,h⟩
   .wp_walk using T7 hl,QF b
    show⟨_,rfl,h⟩
  .wp_walk using T7 hl,QF b
   show⟨_,rfl,h⟩
section
def fN(g:s.heap.IsTuple l a)
  (h:∀h',Â h' (s.heap.objs.size+1) s.heap.objs.size 0 .none->h'.IsTupleIter s.heap.objs.size l 0->h'.objs.size=s.heap.objs.size+2 ->
   (∀b o,s.heap.get? b=a5 o->h'.get? b=a5 o)->Q (.ref (s.heap.objs.size+1)) {s with heap:=h' }) :
  g9 (i5 prog w) A (Qg (.type "enumerate") [.ref l]) Q E s:=by
 obtain⟨⟨c,i,j,k⟩,hl,d,n,e⟩:=g
 replace d:c=.type "tuple":=d
 replace e:j=.seq a n:=e
 subst d e;show callType_new PySem.F.called_enumerate (by decide) (PySem.F.typeCall_enumerate_1 _) (PySem.F.newCall_enumerate_1 _) (λobj=>PySem.F.args_object_init_2 obj _) PySem.F.entry_enumerate_new
  (kS l a n i k) ⟨hl,?_⟩
 have hz:(s.heap.push {cls:=.type "tuple_iterator",data:=.fields #[.ref l,.int 0 0]}).objs.size=s.heap.objs.size+1:=NY ..;change _/\_;rw[hz];have f:Â ((s.heap.push {cls:=.type "tuple_iterator",data:=.fields #[.ref l,.int 0 0]}).push
   {cls:=.type "enumerate",data:=.fields #[.none,.bool cb,.ref s.heap.objs.size,Iv 0,.none,.none]}) (s.heap.objs.size+1) s.heap.objs.size 0 .none:=by
  have:=fx (s.heap.push {cls:=.type "tuple_iterator",data:=.fields #[.ref l,.int 0 0]})
   (o:={cls:=.type "enumerate",data:=.fields #[.none,.bool cb,.ref s.heap.objs.size,Iv 0,.none,.none]}) rfl
  rw[hz]at this;show this
 show⟨⟨_,f,rfl⟩,h _ f ⟨_,c4 _ (fx _ rfl),rfl,rfl⟩ (by rw[NY,hz]) λb o x=>c4 _ (c4 _ x)⟩
end
end L2
namespace L2
open PySem PySem.Spec PyProof.Rows
section
def Inv.tq{ch:List hH}(I:Inv X a σ H s)(f:∀b∈ch,g_ X a H b)(k:∀b o,b∉ch->s.heap.get? b=a5 o->h'.get? b=a5 o):Inv X a σ H {s with heap:=h',toks:=t' }:=by
 have g:∀b u,H b=a5 u->b∉ch:=λb u e z=>by rw[(f b z).1]at e;cases e
 show I.step (g':=s.gens) (d':=s.drawn) (ch:=ch) (λb h=>?_) (λb o _ _ d e _=>k b o d e) (λb o _ _ d e _=>⟨o.slots,k b o d e⟩) (λ_ _ _ _ n=>n)
  (λb o d e=>⟨o,k b o d e⟩) (λ_ _ e=>e) (λ_ _ _ e=>e) (λb ps e=>⟨#[],by rw[e];simp⟩) (λm i=>?_) (λb u e=>?_) I.bare
 .have⟨w,j,x,l,p,t⟩:=f b h;show⟨l,j,p,t⟩
 .have⟨o,es,ep,ho,r⟩:=i;show⟨o,es,ep,k _ o (λz=>(f _ z).2.1 rfl) ho,r⟩
 .show(I.HR b u e).kh (λc v d q=>k c v ?_ q) (λ_ q=>q) λ_ _ q=>q;rcases d with z|z
  .rw[z];show g b u e
  .show g c _ z
def Inv.rC{ch:List hH}(I:Inv X a σ H s)(h:∀b∈ch,g_ X a H b)(k:∀b o,b∉ch->s.heap.get? b=a5 o->h'.get? b=a5 o)(i:s.heap.objs.size<=T)(new:bH X.prog X.w (upd H T o) h' T o):
  Inv X a σ (upd H T o) {s with heap:=h',toks:=t' }:=by
 have j:Inv X a σ H {s with heap:=h',toks:=t' }:=I.tq h k;have l:H T=b6:=I.HR.fresh i;have p:∀b o,s.heap.get? b=a5 o->b≠T:=λb o e z=>by rw[z]at e;show absurd (ku (i9 e) i) (H8 _)
 have d:∀b u,H b=a5 u->b≠T:=λb u e z=>by rw[z,l]at e;cases e
 show I.step (g':=s.gens) (d':=s.drawn) (ch:=ch) (λb g=>?_) (λb o _ _ f e _=>k b o f e) (λb o _ _ f e _=>⟨o.slots,k b o f e⟩) (λb o _ e n=>by rw[ak (p b o e)];show n)
  (λb o f e=>⟨o,k b o f e⟩) (λb _ e=>by rw[ak (d b _ e)];show e) (λb _ _ e=>by rw[ak (d b _ e)];show e) (λb ps e=>⟨#[],by rw[ak (d b _ e),e];simp⟩) (λm t=>?_) (λb u e=>?_) I.bare
 .have⟨C,x,D,y,A,B⟩:=h b g;show⟨y,x,A,B⟩
 .have⟨o,es,ep,ho,r⟩:=t;show⟨o,es,ep,k _ o (λz=>(h _ z).2.1 rfl) ho,r⟩
 .by_cases g:b=T
  .subst g;rw[aq]at e;cases e;show new
  .rw[ak g]at e;show(j.HR b u e).kh (λc v _ q=>q) (λc q=>by rw[ak (d c _ q)];show q) λc xs q=>by rw[ak (d c _ q)];show q
end
abbrev OB(a:Hp->List V->Prop):It :=
 ⟨λi H=>∃xs x,a H xs/\xs[i]?=a5 x,λi H x H'=>∃p,H p=b6/\x=.ref p/\∀xs v,a H xs->xs[i]?=a5 v->H'=upd H p (.tup [.int i,v]),λi H=>∃xs,a H xs/\xs.length<=i⟩
def mR{K:PySem.W.Frag}(r:Hp->List V->Prop)(a e it:hH)(N:e≠it)(At:Nat->K1->Prop)(t:K1->Array dV->Prop)
  (JE:∀i h h',At i h->(∀o,h.get? it=a5 o->h'.get? it=a5 o)->At i h') (UX:∀i h,At i h->∃o,h.get? it=a5 o/\∀v,o.data≠.cell v)
  (QP:∀(X:Cx) (d:List (hH×Obj)) (s:hW) (σ:St) (H:Hp) (xs:List V),X.K=K->Inv X d σ H s->r H xs->∃l:List dV,Vals xs l/\t s.heap l.toArray)
  (SJ:∀(X:Cx) (d:List (hH×Obj)) (s:hW) (σ:St) (H:Hp) (xs ys:List V),X.K=K->Inv X d σ H s->r H xs->r H ys->xs=ys)
  (QQ:∀h c i f,t h c->Â h e it i f->e≠a)
  (hD:∀(A:MW) (c:Array dV),A.handled=b6->Draws P w A it [it,a] c.size (λi v=>c[i]?=a5 v) (λi h=>At i h/\t h c))
  (My:∀(A:MW) (s:hW) (i:Nat) (c:Array dV) (Q:dV->hW->Prop) (E:dV->hW->Prop),A.handled=b6->At i s.heap->t s.heap c->c[i]?=b6 ->
   (∀h' x,Zy it s.heap h'->(∃o,h'.get? x=a5 o/\o.cls=.type "StopIteration")->E (.ref x) {s with heap:=h' })->g9 (i5 P w) A (Lx (.ref it)) Q E s) :
  Turn P w K (.Tuple es kx ps) (OB r) [e,it] e (λi h=>(∃f,Â h e it i f)/\At i h) where
 mem:=by simp
 obj:=λi h st b g=>by
  obtain⟨⟨f,j⟩,hl⟩:=st;rcases gj.mp g with z|z
  .rw[z];show⟨_,j,λv z=>by
    have z':Ē _=Ñ v:=z;cases z'⟩
  .rw[nc.mp z];show UX i h hl
 keep:=λi h h' ⟨⟨f,j⟩,hl⟩ k=>⟨⟨f,k e (by simp) _ j⟩,JE i h h' hl λo q=>k it (by simp) o q⟩
 item:=by
  intro X O Y B hc i d s σ H E I C ⟨⟨f,j⟩,hl⟩ hg;subst O Y;have⟨xs,x,G,hx⟩:=hg;have⟨l,rv,p⟩:=QP X d s σ H xs B I G;have⟨u,hu,ru⟩:=rv.get hx;have IG:i<l.toArray.size:=by simpa using(d4.mp hu).1
  have D:=hD X.A.in1 l.toArray (by simpa using I.ok.hd hc);have SM:=QQ _ _ _ _ p j;show wpAny_pyNext_enum_itemD D j ⟨hl,p⟩ IG N (by simp[N,SM]) λy h1 m J ho st1 L hsz hk=>?_;have ey:y=u:=by
   have:l.toArray[i]?=a5 u:=by simpa using hu
   rw[this]at J;cases J;rfl
  subst ey;show⟨_,rfl,wpAny_letOwnedTupleGo_enum (s:={s with heap:=h1,toks:=m+1}) ho λn W4 JO=>?_⟩;have UY:e<s.heap.objs.size:=i9 j;have W5:n.get? s.heap.objs.size=a5 {cls:=.type "tuple",data:=.seq #[.int i m,y]}:=(JO.2 _ (Mm UY)).trans L;have k2:∀b o,b∉[e,it]->s.heap.get? b=a5 o->n.get? b=a5 o:=λb o g q=>by
   simp only[gj,Rv,or_false,not_or]at g;show(JO.2 b g.1).trans (hk b o g.1 g.2 q)
  have I2:Inv X d σ (upd H s.heap.objs.size (.tup [.int i,x])) {s with heap:=n,toks:=m+1}:=I.rC C k2 (hY _)
   (show bH X.prog X.w _ n _ (.tup [.int i,x]) from⟨by change 2<=cL;decide,[.int i m,y],.cons ⟨m,rfl⟩ (.cons ru .nil),⟨_,W5,rfl,_,rfl⟩⟩)
  show⟨.ref s.heap.objs.size,_,I2,rfl,⟨_,I.HR.fresh (hY _),rfl,λys v J hv=>?_⟩,⟨⟨_,W4⟩,JE (i+1) h1 n st1.1 λo q=>(JO.2 it (tv N)).trans q⟩,λb g=>?_⟩
  .have:=SJ X d s σ H ys xs B I J G;subst this;rw[hx]at hv;cases hv;rfl
  .have KO:b≠s.heap.objs.size:=by
    rcases gj.mp g with z|z
    .rw[z];show kj UY
    .rw[nc.mp z];obtain⟨o,q,_⟩:=UX i _ hl;show kj (i9 q)
   rw[ak KO];show(C b g).1
 done:=by
  intro X O Y B hc i d s σ H E I C ⟨⟨f,j⟩,hl⟩ hg;subst O Y;have⟨xs,G,hx⟩:=hg;have⟨l,rv,p⟩:=QP X d s σ H xs B I G;have ab:=rv.length;have L:s.TypeIs (.ref e) "enumerate":=⟨_,j,rfl⟩
  unfold Sy;show b7 (wpAny_attempt (Kv (name:=Pl "__next__") L PySem.F.slot_enumerate_next
   (JF PySem.F.slot_enumerate_next L PySem.F.entry_enumerate_next ?_ (PySem.F.args_enumerate_next_1 _))))
  change g9 _ _ (ĩ (.ref e) 2 >>= _) _ _ _;show b7 (NP j rfl (x:=.ref it) rfl ?_);show b7 (My _ _ i l.toArray _ _ (by simpa using I.ok.hd hc) hl p (by simp;lia) λh' x Sj Sh=>?_);have⟨o,ho,Md⟩:=Sh;show b7 (XY (T:="StopIteration") (b:=bD) ⟨o,ho,Md⟩ Ĩ ?_);show dt ⟨rfl,I.tq (t':=s.toks) (ch:=[it]) (λb g=>C b (ki _ g)) λb o g q=>Sj b o (λz=>g (by simp[z])) q⟩
 self:=λA i s Q E ⟨⟨f,j⟩,hl⟩ h=>Wk j h
section
variable{X:Cx}{es:List pb}{kx:Nat}{ps p pos:Pos}
def vb:Ly "enumerate"=a5 (.type "enumerate"):=by decide +kernel
abbrev Hu(K:PySem.W.Frag)(c:TA):TI:=λσ H R=>c σ H λvs b=>∃a,vs=[.ref a]/\((∃xs,IF K b a xs)/\R (OB λH xs=>IF K H a xs) b\/(∃xs,II K b a xs)/\R (OB λH xs=>II K H a xs) b)
def Dx(a e it:hH)(q:e≠it)(r:a≠it):Turn X.prog X.w X.K (.Tuple es kx ps) (OB λH xs=>IF X.K H a xs) [e,it] e (λi h=>(∃c,Â h e it i c)/\h.IsListIter it a i):=by
 show mR _ a e it q (λi h=>h.IsListIter it a i) (λh b=>h.IsList a b) (λi h h' x k=>x.at k) (λi h ⟨o,ho,l,t⟩=>⟨o,ho,λv z=>by rw[t]at z;cases z⟩)
  (λY d s σ H xs g I m=>?_) (λY d s σ H xs ys g I f n=>?_) (λh b i c ⟨o,ho,l,_⟩ u z=>?_) (λA b j=>Draws.list j it a r b) (λA s i b Q E j hl y f B=>wpAny_nextOf_list_end j hl y f B)
 .rw[<-g]at m;have⟨C,rv,p,hz⟩:=I.list m;show⟨C,rv,p.isList⟩
 .rw[<-g]at f n;show I.pw f n
 .rw[<-z,u]at ho;cases ho;have D:K2 "enumerate"=K2 "list":=l;show absurd D (by decide)
def Dy(a e it:hH)(q:e≠it)(r:a≠it):Turn X.prog X.w X.K (.Tuple es kx ps) (OB λH xs=>II X.K H a xs) [e,it] e (λi h=>(∃c,Â h e it i c)/\h.IsTupleIter it a i):=by
 show mR _ a e it q (λi h=>h.IsTupleIter it a i) (λh b=>h.IsTuple a b) (λi h h' x k=>x.at k) (λi h ⟨o,ho,l,t⟩=>⟨o,ho,λv z=>by rw[t]at z;cases z⟩)
  (λY d s σ H xs g I m=>?_) (λY d s σ H xs ys g I f n=>?_) (λh b i c ⟨o,ho,l,_⟩ u z=>?_) (λA b j=>pV j it a r b) (λA s i b Q E j hl y f B=>eF j hl y f B)
 .rw[<-g]at m;have⟨C,rv,p,hz⟩:=I.tuple m;show⟨C,rv,p⟩
 .rw[<-g]at f n;show I.mD f n
 .rw[<-z,u]at ho;cases ho;have D:K2 "enumerate"=K2 "tuple":=l;show absurd D (by decide)
def Aq(n:Gl X "enumerate")(t:X.mg "enumerate"=b6)(v:PA X [a] w)(hs:js [a] X.env=[(cb,vr a X.env)]):PI X (.Tuple es kx ps) (.Call (.Name "enumerate" p) [a] [] pos) (Hu X.K w):=by
 intro c s σ H R I h;show Call_ (d0 I n t vb (Lw (HS (v pos c s σ H _ I h) λus s1 ⟨vs,j,d,r1,x⟩=>?_) hs rfl));have⟨a',e,q⟩:=x;subst e;have⟨u,rfl,r⟩:=vals1 r1;cases r;have f:s1.heap.objs.size+1≠s1.heap.objs.size:=Nat.succ_ne_self _;have g:∀(h':K1),(∀b∈[s1.heap.objs.size+1,s1.heap.objs.size],g_ X c j b):=λh' b y=>by
  have m:s1.heap.objs.size<=b:=by
   rcases gj.mp y with z|z
   .rw[z];show O' _
   .rw[nc.mp z];show hY _
  show d.wC m (d.HR.fresh m)
 rcases q with⟨⟨xs,k⟩,q⟩|⟨⟨xs,k⟩,q⟩
 .have⟨A,rv,p,hz⟩:=d.list k;have l:a'<s1.heap.objs.size:=let ⟨o,ho,_⟩:=p.isList;i9 ho;show call_enumerate_list p.isList λh' i hl hsz hk=>?_;show Wk i ⟨_,[s1.heap.objs.size+1,s1.heap.objs.size],_,_,j,rfl,d.kept (t':=s1.toks) hk,Dx a' _ _ f (kj l),⟨⟨_,i⟩,hl⟩,g h',q⟩
 .have⟨A,rv,p,hz⟩:=d.tuple k;have l:a'<s1.heap.objs.size:=let ⟨o,ho,_⟩:=p;i9 ho;show fN p λh' i hl hsz hk=>?_;show Wk i ⟨_,[s1.heap.objs.size+1,s1.heap.objs.size],_,_,j,rfl,d.kept (t':=s1.toks) hk,Dy a' _ _ f (kj l),⟨⟨_,i⟩,hl⟩,g h',q⟩
end
def vc(l:hH)(a:Array dV)(n:Nat)(b:hH)(c:Array dV)(e:Nat)(dd:Option hH)(f:Array (Option dV))(o:¬(!a.isEmpty&&MJ (a.size+c.size))=bD)(i:a.size<=cL)(j:a.size+c.size<=cL+1):
  Meets (QC.«list.extend» ⟨[.ref l,.ref b],[]⟩) (λ_ R s=>s.heap.get? l=a5 {cls:=.type "list",dict:=b6,data:=.seq a n,slots:=#[]}/\s.heap.get? b=a5 {cls:=.type "list",dict:=dd,data:=.seq c e,slots:=f}/\R (.ok (.ret qs)) {s with heap:=s.heap.update l (vl λx=>x++c),toks:=s.toks}) :=
 .of_wp λprog w A R s h=>by
  have⟨p,g,d,q,os⟩:=s;have⟨hl,k,h⟩:=h;have r:=ZA;have t:=Wc;have u:=XB;have v:=Xc;have y:=Xl;
  have m:(a++c).size<=cL+1:=by rw[U_];show j
  wp_walk using(T6 hl rfl (hz:=i) (_hz':=m)),Pd hl,Pd k;show⟨_,rfl,h⟩
def vd(l:hH)(a:Array dV)(n:Nat)(b:hH)(c:Array dV)(e:Nat)(dd:Option hH)(f:Array (Option dV))(o:¬(!a.isEmpty&&MJ (a.size+c.size))=bD)(i:a.size<=cL)(j:a.size+c.size<=cL+1):
  Meets (QC.«list.extend» ⟨[.ref l,.ref b],[]⟩) (λ_ R s=>s.heap.get? l=a5 {cls:=.type "list",dict:=b6,data:=.seq a n,slots:=#[]}/\s.heap.get? b=a5 {cls:=.type "tuple",dict:=dd,data:=.seq c e,slots:=f}/\R (.ok (.ret qs)) {s with heap:=s.heap.update l (vl λx=>x++c),toks:=s.toks}) :=
 .of_wp λprog w A R s h=>by
  have⟨p,g,d,q,os⟩:=s;have⟨hl,k,h⟩:=h;have r:=ZA;have t:=Wc;have u:=XB;have v:=Xc;have y:=Xl;
  have m:(a++c).size<=cL+1:=by rw[U_];show j
  wp_walk using(T6 hl rfl (hz:=i) (_hz':=m)),Pd hl,Pd k;show⟨_,rfl,h⟩
section
def rE:QE X "list.extend" (λx vs H Q=>∃l b xs c,x=.ref l/\vs=[.ref b]/\H l=a5 (.lst xs)/\(IF X.K H b c\/II X.K H b c)/\xs.length+c.length<=cL/\Q .HX (upd H l (.lst (xs++c)))):=by
 intro f s σ H x vs v us Q I w rv h;have⟨l,b,xs,c,rfl,rfl,p,hB,hz,q⟩:=h;cases w;have⟨u,rfl,y⟩:=rv.one;cases y;have⟨z,d,n,r,hl,e⟩:=I.Af p;have g:∀a:List dV,Vals c a->EP X f σ Q qs {s with heap:=s.heap.update l (vl λx=>x++a.toArray),toks:=s.toks}:=λa r2=>by
  show⟨.HX,_,I.iB (its':=d++a) p e (by simp) (r.append r2) ?_,rfl,q⟩;rw[j0];lia
 have k:∀a:List dV,c.length=a.length->d.toArray.size+a.toArray.size<=cL:=λa h=>by rw[hQ,hQ];lia
 have t:∀a:List dV,c.length=a.length->¬(!d.toArray.isEmpty&&MJ (d.toArray.size+a.toArray.size))=bD:=λa h=>by
  rw[wR (k a h),XX];show mx
 rcases hB with hB|hB
 .obtain⟨a,r2,pl,_⟩:=I.list hB;obtain⟨⟨cls,dd,data,m⟩,ho,i,o,j⟩:=pl.isList;simp only at i j;subst i j;have LM:=r2.length;have A:=k a LM;show QL Ý ⟨_,e,rfl⟩ Ð (Ä _ _) (vc l d.toArray n b a.toArray o dd m (t a LM) ⋯ ⋯) ⟨e,ho,g a r2⟩
 .obtain⟨a,r2,pl,_⟩:=I.tuple hB;obtain⟨⟨cls,dd,data,m⟩,ho,i,o,j⟩:=pl;simp only at i j;subst i j;have LM:=r2.length;have A:=k a LM;show QL Ý ⟨_,e,rfl⟩ Ð (Ä _ _) (vd l d.toArray n b a.toArray o dd m (t a LM) ⋯ ⋯) ⟨e,ho,g a r2⟩
end
end L2
namespace L2
open PySem PySem.Spec PyProof.Rows PySem.SeqAt
open PySem.AutoSeq1 (wpAny_loadPart')
open PySem.MeetsSeq PySem.MeetsSeq2 PySem.MeetsSeq3
section
def xx(xs:Array dV):((i4 xs.size).filterMap λ(m:Nat)=>xs[((xs.size:Int) - 1+(m:Int) * -1).toNat]?).toArray=xs.toList.reverse.toArray:=by
 congr 1
 apply Ë;intro i;have e:(i4 xs.size).filterMap (λ(m:Nat)=>xs[((xs.size:Int) - 1+(m:Int) * -1).toNat]?)=(i4 xs.size).map λm=>xs.toList.reverse.getD m .none:=by
  have:∀l:List Nat,(∀m∈l,m<xs.size)->l.filterMap (λ(m:Nat)=>xs[((xs.size:Int) - 1+(m:Int) * -1).toNat]?)=l.map λm=>xs.toList.reverse.getD m .none:=λl hl=>by
   induction l with
   |nil=>rfl
   |cons a l c =>
    have d:=hl a (by simp);have f:((xs.size:Int) - 1+(a:Int) * -1).toNat=xs.size - 1 - a:=by lia
    have e2:xs[xs.size - 1 - a]?=a5 (xs.toList.reverse.getD a .none):=by
     rw[R',List.getElem?_reverse (by simpa using d),rl,Ie,Array.getElem?_eq_getElem (show xs.size - 1 - a<xs.size by lia)];rfl
    rw[JD,f,e2,il,c λm b=>hl m (by simp[b])]
  show this _ λm b=>x4.mp b
 rw[e,k9];by_cases hi:i<xs.size
 .rw[RZ hi,SR,R',H4 (by simpa using hi)];rfl
 .rw[Tf (by simp;lia),Tf (by simp;lia)];rfl
def iM(b:Z1 s.heap t a)(hs:s.heap.IsSliceOf f .none .none (.int (-1) g))
  (h:Q (.ref s.heap.objs.size) {s with heap:=s.heap.push {cls:=.type "tuple",data:=.seq a.toList.reverse.toArray}}) (hsz:a.size<=cL):g9 (i5 prog w) A (Rz (.ref t) (.ref f)) Q E s:=by
 have c:sizeOk (.seq a.toList.reverse.toArray):=by
  change a.toList.reverse.toArray.size<=cL;rw[hQ,Ui,rl];show hsz
 have⟨os,d,i,e⟩:=id hs;have j:s.TypeIs (.ref f) "slice":=⟨os,d,i⟩
 unfold Rz
 try with_reducible show Jq ?_
 first|show b7 (dt ?_)|skip
 show b7 (Wg b.typeIs (by decide) ?_);show b7 (Kv (name:=Pl "__getitem__") b.typeIs ri
  (JF ri b.typeIs VP ?_ (V9 _ _)))
 change g9 _ _ (Rk (.ref t) >>= _) _ _ s;show b7 (ZP b ?_);show b7 (Ry j ?_);rw[Ĺ (by decide)];show b7 ?_;unfold Rn UE;show b7 (b7 (NP d e (x:=.none) rfl (b7 (NP d e (x:=.none) rfl (b7 (NP d e (x:=.int (-1) g) rfl (dt ?_)))))));show b7 (slicePart_int ?_);change g9 _ _ (if ((-1:Int)==0)=bD then _ else _) _ _ s;rw[ĺ (by decide)];show b7 (U5 (b7 (U5 (b7 (dt ?_)))));have k:IB ((a.size:Int) - 1) (-1) (-1)=a.size:=by
  unfold IB;simp only[show ¬((-1:Int)>0) by lia,if_false,show(- (-1:Int))=1 from rfl,Ě];split<;>lia
 change g9 _ _ (pure ((a.size:Int) - 1,(-1:Int),IB ((a.size:Int) - 1) (-1) (-1))) _ _ s;rw[k];show dt ?_;change g9 _ _ (if ((a.size:Int) - 1==0&&(-1:Int)==1&&a.size==a.size)=bD then _ else _) _ _ s;rw[ĺ (by simp),xx]
 first
  |show b7 (m:=z8 _) (sx (dt ⟨_,rfl,dt h⟩) c)
  |show b7 (m:=z8 _) (sx (b7 (dt (dt ⟨_,rfl,dt h⟩))) c)
  |show b7 (b7 (m:=z8 _) (sx (dt (dt ⟨_,rfl,dt h⟩)) c))
  |show b7 (b7 (m:=z8 _) (sx (dt ⟨_,rfl,dt h⟩) c))
end
section
abbrev Hv(K:PySem.W.Frag)(te:TE):TE:=λσ H Q=>te σ H λx b=>∃a xs,x=.ref a/\II K b a xs/\∀p,b p=b6->Q (.ref p) (upd b p (.tup xs.reverse))
def xy:∀{xs:List V}{us:List dV},Vals xs us->Vals xs.reverse us.reverse:=λ{xs us} h=>by
 induction h with
 |nil=>show .nil
 |cons r _ a =>
  rw[Se,Se];show a.append (.cons r .nil)
def Dz(w:PE X e te):PE X (.Subscript e (.Slice b6 b6 (a5 (.UnaryOp .USub (.Constant (.int 1) G J) L)) p2) pos) (Hv X.K te):=by
 intro c s σ H Q I h;show Zt (HS (w c s σ H _ I h) λv s1 y=>?_);have⟨x,j,z,r1,A⟩:=y;have⟨a,xs,rfl,k,q⟩:=A;cases r1;show wpAny_Slice ?_;rw[ZJ,evalPart_some];show dt (dt ?_);show HS (Cg wD qI c s1 σ j (λv g=>v=.int (-1)/\g=j) z ⟨1,rfl,rfl,rfl⟩) λu s2 B=>?_;have⟨N,g,l,r2,C,D⟩:=B;subst C D;have⟨m,rfl⟩:=r2;have⟨O,r,T,hz⟩:=l.tuple k;have k1:∀b f,s2.heap.get? b=a5 f->(s2.heap.push {cls:=.type "slice",data:=.fields #[qs,qs,.int (-1) m]}).get? b=a5 f:=λb f q=>c4 _ q;have i:Inv X c σ g {s2 with heap:=s2.heap.push {cls:=.type "slice",data:=.fields #[qs,qs,.int (-1) m]}}:=l.kept (t':=s2.toks) k1;have⟨its',n,p,t⟩:=i.tuple k;have d:its'.toArray.size=xs.length:=by rw[hQ];show n.length.symm
 show ĳ (ops:=[.ref a,.ref s2.heap.objs.size]) p.typeIs ri.lookup (iM p (V_ ..) ?_ (by rw[d];show t)) (by with_unfolding_all rfl);show⟨.ref _,_,i.laid (t':=s2.toks) (o:=.tup xs.reverse) (λb f q=>c4 _ q) (hY _) ⟨by rw[Ui];show t,its'.reverse,xy n,⟨_,fx _ rfl,rfl,_,rfl⟩⟩,rfl,q _ (i.HR.fresh (hY _))⟩
end
end L2
namespace L2
open PySem PySem.W PyProof.Rows
abbrev ib{α:Type}(lt:Nat->Nat->Bool):KasT α->α
 |.ret x=>x
 |.ask i j k=>ib lt (k (lt i j))
def Ju{α:Type}(n:Nat)(P:α->Prop):KasT α->Prop
 |.ret x=>P x
 |.ask i j k=>i<n/\j<n/\∀b,Ju n P (k b)
theorem Ju.OC{P:α->Prop}{Q:β->Prop}{f:α->KasT β}(a:∀x,P x->Ju n Q (f x)):∀{t:KasT α},Ju n P t->Ju n Q (t.bind f)
 |.ret x,h=>a x h
 |.ask i j k,h=>⟨h.1,h.2.1,λb=>Ju.OC a (h.2.2 b)⟩
theorem Ju.got:∀{t:KasT α},Ju n P t->P (ib lt t)
 |.ret _,h=>h
 |.ask i j k,h=>Ju.got (t:=k (lt i j)) (h.2.2 _)
theorem Ju.wp(b:∀i j,i<n->j<n->∀C:Bool->hW->Prop,C (lt i j) s->a i j C s):
  ∀{t:KasT α},Ju n P t->Q (ib lt t) s->t.kasWp a Q s
 |.ret _,_,q=>q
 |.ask i j k,h,q=>b i j h.1 h.2.1 _ (Ju.wp b (t:=k (lt i j)) (h.2.2 _) q)
abbrev Pm(n:Nat)(p:Array Nat):Prop:=p.toList.Perm (i4 n)
section
variable{n:Nat}(hn:0<n)
include hn
def Pm.at(h:Pm n p)(i:Nat):p.getD i 0<n:=by
 by_cases hi:i<p.size
 .have:p.getD i 0=p[i]:=by simp[ě,hi]
  rw[this];have a:p[i]∈p.toList:=by simp
  show x4.mp (h.mem_iff.mp a)
 .have:p.getD i 0=0:=by simp[ě,hi]
  rw[this];show hn
omit hn in
def Pm.rev(h:Pm n p)(i j:Nat):Pm n (kas_rev p i j):=(mirror_perm p i j _).toList.trans h
omit hn in
def Pm.W6(h:Pm n p)(i j:Nat):Pm n (bubble p i j):=(bubble_perm p i j).toList.trans h
theorem rF(h:Pm n p):∀(f m:Nat),Ju n (λ_=>True) (kas_asc p f m)
 |0,m=>trivial
 |f+1,m=>⟨h.at hn _,h.at hn _,λb=>by
  cases b
  .show rF h f (m+1)
  .show trivial⟩
theorem j5:∀(f:Nat) (p:Array Nat) (m q:Nat),Pm n p->Ju n (λr=>Pm n r.1) (kas_desc f p m q)
 |0,p,m,q,h=>h
 |f+1,p,m,q,h=>⟨h.at hn _,h.at hn _,λb=>by
  cases b
  .show⟨h.at hn _,h.at hn _,λb=>by
    cases b
    .show j5 f p (m+1) (q+1) h
    .show h⟩
  .change Ju n _ (if q>0 then _ else _);split
   .show j5 f _ _ _ (h.rev _ _)
   .show j5 f _ _ _ h⟩
def tu(h:Pm n p)(m r:Nat):Ju n (λx=>Pm n x.2) (kas_tail3 m r p):=by
 unfold kas_tail3;show Ju.OC (λx _=>?_) (rF hn (h.rev _ _) _ _);show h.rev _ _
def tw(h:Pm n p)(m r:Nat):Ju n (λx=>Pm n x.2) (kas_descPart m r p):=by
 unfold kas_descPart;show Ju.OC (λx a=>?_) (j5 hn _ _ _ _ h);split
 .show tu hn (a.rev _ _) _ _
 .show tu hn a _ _
def xA(h:Pm n p)(r:Nat):Ju n (λx=>Pm n x.2) (kas_count r p):=by
 unfold kas_count;show Ju.OC (λm _=>?_) (rF hn h _ _);split
 .show h
 .split
  .show⟨h.at hn _,h.at hn _,λb=>by
    cases b
    .show tw hn (h.rev _ _) _ _
    .show h⟩
  .show tw hn h _ _
theorem kU(h:Pm n p)(k:Nat):∀(f l r:Nat),Ju n (λ_=>True) (kas_place p k f l r)
 |0,l,r=>trivial
 |f+1,l,r=>by
  unfold kas_place;split
  .show trivial
  .show⟨h.at hn _,h.at hn _,λb=>by
    cases b
    .show kU h k f _ _
    .show kU h k f _ _⟩
theorem xB:∀(f:Nat) (p:Array Nat) (k:Nat),Pm n p->Ju n (Pm n) (kas_bin f p k)
 |0,p,k,h=>h
 |f+1,p,k,h=>Ju.OC (λl _=>xB f _ _ (h.W6 _ _)) (kU hn h _ _ _ _)
def tD:Ju n (Pm n) (O1 n):=by
 unfold O1;show Ju.OC (λx a=>?_) (xA hn (p:=List.toArray (i4 n)) (by unfold Pm;simp) n);split
 .show xB hn _ _ _ a
 .show a
end
def kW(lt:Nat->Nat->Bool)(n:Nat):(ib lt (O1 n)).toList.Perm (i4 n):=by
 cases n with
 |zero=>show List.Perm.refl _
 |succ n=>show(tD (Nat.succ_pos n)).got
section
def vf(ho:s.heap.get? a=a5 (J7 "list" vs.toArray n))(l:vs.length<64)
  (m:2<=vs.length->∀s1:hW,(∀b o,b≠a->s.heap.get? b=a5 o->s1.heap.get? b=a5 o)->g9 (i5 prog w) A (keyKind' vs.toArray) (λκ s'=>s'=s1/\∀i j,i<vs.length->j<vs.length->∀C:Bool->hW->Prop,C (lt i j) s1->ą prog w A κ vs i j C s1) (λ_ _=>False) s1)
  (h:P (.done (.ret .none)) {s with heap:=ù s.heap a vs (((ib lt (O1 vs.length)).toList.map λi=>vs.getD i qs).toArray)}) :
  g9 (i5 prog w) A (QC.«list.sort» ⟨[.ref a],[]⟩) P E s:=by
 have N:a<s.heap.objs.size:=i9 ho;have u:(64:Nat)<=cL:=by decide
 rw[list_sort_plain];show b7 (Ç ho rfl (b7 (V7 ho rfl ?_ (by rw[hQ];lia) (mN _))));obtain⟨k,q⟩:∃k,(s.heap.update a (vl λ_=>(#[]:Array dV))).get? a=a5 (J7 "list" #[] k):=⟨_,Ġ ho λ_=>#[]⟩
 show b7 (ã q rfl (b7 (wpAny_newTuple (b7 (ZG (Jq ?_) (mN _))) (by change vs.length<=_;lia))));have d:(((s.heap.update a (vl λ_=>(#[]:Array dV))).push (J7 "tuple" vs.toArray 0)).push (J7 "list" #[] 0)).get? a=a5 (J7 "list" #[] k):=c4 _ (c4 _ q);have f:∀b o,b≠a->s.heap.get? b=a5 o->(((s.heap.update a (vl λ_=>(#[]:Array dV))).push (J7 "tuple" vs.toArray 0)).push (J7 "list" #[] 0)).get? b=a5 o:=λb o y e =>
  c4 _ (c4 _ (by rw[Py _ _ _ _ y];show e))
 change g9 (i5 prog w) A _ P E {s with heap:=((s.heap.update a (vl λ_=>(#[]:Array dV))).push (J7 "tuple" vs.toArray 0)).push (J7 "list" #[] 0)}
 dsimp only
 have r:((ib lt (O1 vs.length)).toList.map λi=>vs.getD i qs).length=vs.length:=by rw[df,(kW lt _).length_eq,Sg]
 by_cases c:vs.toArray.size<2
 .rw[Ĺ c,Ĺ c];show b7 (dt ?_);rw[StateT.run_pure];show b7 (dt ?_);have z:((ib lt (O1 vs.length)).toList.map λi=>vs.getD i qs).toArray=(vs.toArray.zip vs.toArray).map (·.2):=by
   have g:=kW lt vs.length;clear h m r f d ho l
   match vs,c,g with
   |[],_,g=>rw[show(ib lt (O1 ([]:List dV).length)).toList=[] from List.perm_nil.mp g];simp
   |[v],_,g=>rw[show(ib lt (O1 [v].length)).toList=[0] from List.perm_singleton.mp g];simp
   |_::_::_,c,_=>simp at c;lia
  rw[z]at h
  dsimp only
  show b7 (ã d rfl (b7 (V7 d rfl ?_ (mN _) (by rw[Array.size_map];change(pairsOf vs).size<=_;rw[pairsOf_size];lia))));simp only[bne_self_eq_false,Oc,if_false];show dt h
 .rw[ĺ c,ĺ c];have t:2<=vs.length:=by rw[hQ]at c;lia
  show b7 (uv (m t _ f) (λκ O hk=>?_) λ_ _ x=>x.elim);have⟨rfl,hk⟩:=hk;show b7 (uv (kat_run (κ:=κ) (ks:=vs) (vs:=vs) (G:=λp s'=>p=ib lt (O1 vs.length)/\s'={s with heap:=((s.heap.update a (vl λ_=>(#[]:Array dV))).push (J7 "tuple" vs.toArray 0)).push (J7 "list" #[] 0)})
   (Q:=λst' s'=>∃p:Array Nat,arrOf st'=p.map (kas_item (vs.toArray.zip vs.toArray))/\failedOf st'=b6/\p=ib lt (O1 vs.length)/\s'={s with heap:=((s.heap.update a (vl λ_=>(#[]:Array dV))).push (J7 "tuple" vs.toArray 0)).push (J7 "list" #[] 0)})
   rfl t l (λp st' s' T B D H=>⟨p,B,D,H⟩) (Ju.wp hk (tD ⋯) ⟨rfl,rfl⟩)) ?_ λ_ _ e=>e)
  rintro⟨⟨⟩,st'⟩ s' ⟨p,I,J,rfl,rfl⟩
  dsimp only
  have L:=kat_snds rfl I;rw[L,J];show b7 (ã d rfl (b7 (V7 d rfl ?_ (mN _) (by rw[hQ,r];lia))));simp only[bne_self_eq_false,Oc,if_false];show dt h
end
@[reducible]def Ar:=Str×Int
abbrev M8(ks:List Str)(i j:Nat):Bool:=cK ((ks.getD i wh).cps.toList<(ks.getD j wh).cps.toList)
abbrev jV(ks:List Str):List Nat:=(ib (M8 ks) (O1 ks.length)).toList
def gz(ks:List Str):(jV ks).Perm (i4 ks.length):=kW _ _
abbrev FJ(x:Str)(n:Int)(t u:Tok):Obj:={cls:=.type "tuple",data:=.seq #[.str x t,.int n u]}
abbrev fy(h:K1)(as:List hH)(ps:List Ar):Prop:=as.length=ps.length/\∀(j:Nat) (a:hH),as[j]?=a5 a->∃p t u,ps[j]?=a5 p/\h.get? a=a5 (FJ p.1 p.2 t u)
def fy.keeps(x:fy h as ps)(k:∀b o,b∈as->h.get? b=a5 o->h'.get? b=a5 o):fy h' as ps :=
 ⟨x.1,λj a e=>let ⟨p,t,u,c,e2⟩:=x.2 j a e;⟨p,t,u,c,k a _ (tr e) e2⟩⟩
def fy.tail(x:fy h (a::as) (p::ps)):fy h as ps :=
 ⟨by have:=x.1;simpa using this,λj b e=>by
  have⟨q,t,u,c,e2⟩:=x.2 (j+1) b (by simpa using e);show⟨q,t,u,by simpa using c,e2⟩⟩
theorem fy.gN:∀{as:List hH}{ps:List Ar},fy h as ps->∃b:List dV,KatTups h (as.map my) b/\b.length=as.length/\∀v∈b,∃x t,v=J4 x t
 |[],_,_=>⟨[],KatTups.nil,rfl,by simp⟩
 |a::as,[],x=>by have:=x.1;simp at this
 |a::as,p::ps,x=>by
  have⟨b,c,d,e⟩:=fy.gN x.tail;have⟨q,t,u,f,e2⟩:=x.2 0 a rfl;show⟨.str q.1 t::b,KatTups.cons e2 rfl rfl rfl c,by simp[d],λv hv=>?_⟩;rcases gj.mp hv with rfl|hv
  .show⟨_,_,rfl⟩
  .show e v hv
theorem mS:∀{l:List α}{m:List β}{i:Nat}{x:α},Paired F l m->l[i]?=a5 x->∃y,m[i]?=a5 y/\F x y
 |_,_,_,_,.nil,e=>by simp at e
 |_,_,0,_,.cons r _,e=>by simp at e;subst e;show⟨_,rfl,r⟩
 |_,_,i+1,x,.cons _ t,e=>by
  have⟨u,a,b⟩:=mS (i:=i) (x:=x) t (by simpa using e);show⟨u,by simpa using a,b⟩
section
def DA(x:fy s.heap as ps)(f:(ps.map (·.1)).Nodup)(hi:i<as.length)(e:j<as.length)(q:C (M8 (ps.map (·.1)) i j) s):
  ą prog w A (tuples' bD) (as.map my) i j C s:=by
 have⟨p,t,u,d,e2⟩:=x.2 i as[i] (by simp[hi]);have⟨a,t',u',c,g⟩:=x.2 j as[j] (by simp[e]);have hl:=x.1;have k:i<ps.length:=by lia
 have l:j<ps.length:=by lia
 have m:(as.map my).getD i qs=.ref as[i]:=by simp[Ni,hi]
 have n:(as.map my).getD j qs=.ref as[j]:=by simp[Ni,e]
 have o:(ps.map (·.1)).getD i wh=p.1:=by simp[Ni,d]
 have r:(ps.map (·.1)).getD j wh=a.1:=by simp[Ni,c]
 unfold ą;rw[m,n];show kat_lt (b:=bD) e2 rfl g rfl ?_;unfold M8 at q;rw[o,r]at q;change KatLex prog w A bD (cK (2<2)) C [(.str p.1 t,.str a.1 t'),(.int p.2 u,.int a.2 u')] 0 s;show kat_cons (ď ?_);by_cases h:p.1=a.1
 .have v:i=j:=by
   have y:(ps.map (·.1))[i]'(by simpa using k)=(ps.map (·.1))[j]'(by simpa using l):=by
    obtain⟨_,z⟩:=d4.mp d;obtain⟨_,B⟩:=d4.mp c;simp[z,B,h]
   show(Õ f).mp y
  subst v;rw[d]at c;cases c;rw[ļ rfl];show kat_yes (kat_cons (Đ ?_));rw[show(p.2==p.2)=bD by simp];show kat_yes (kat_nil ?_);have:cK (p.1.cps.toList<p.1.cps.toList)=cb:=Ļ (List.lt_irrefl _);rw[this]at q;show q
 .rw[Ļ h];show kat_no (oneLt_str q)
def DB(x:fy s.heap as ps)(b:(ps.map (·.1)).Nodup)(f:2<=as.length):
  g9 (i5 prog w) A (keyKind' (as.map my).toArray) (λκ s'=>s'=s/\∀i j,i<(as.map my).length->j<(as.map my).length->∀C:Bool->hW->Prop,C (M8 (ps.map (·.1)) i j) s->ą prog w A κ (as.map my) i j C s) (λ_ _=>False) s:=by
 have⟨g,c,h,d⟩:=x.gN;show kat_kind (T:=.type "str") c ⋯ (λv e=>?_) rfl ⟨rfl,λi j hi a C q=>?_⟩
 .have⟨y,t,rfl⟩:=d v e;show Looks.of_pure rfl
 .rw[df]at hi a;show DA x b hi a q
end
abbrev jW(H:Hp):List (hH×List V)->Hp
 |[]=>H
 |(a,vs)::r=>upd (jW H r) a (.tup vs)
theorem kX:∀{l:List (hH×List V)}{b:hH}{o:HO},jW H l b=a5 o->(∃vs,(b,vs)∈l/\o=.tup vs)\/H b=a5 o
 |[],b,o,h=>.inr h
 |(a,vs)::r,b,o,h=>by
  by_cases c:b=a
  .subst c;rw[jW,aq]at h;cases h;show .inl ⟨vs,by simp,rfl⟩
  .rw[jW,ak c]at h;rcases kX h with⟨ws,d,e⟩|q
   .show .inl ⟨ws,by simp[d],e⟩
   .show .inr q
theorem kY:∀{l:List (hH×List V)}{b:hH},(∀p∈l,p.1≠b)->jW H l b=H b
 |[],b,_=>rfl
 |(a,vs)::r,b,h=>by
  rw[jW,ak (tv (h _ mh))];show kY λp c=>h p (by simp[c])
theorem tE:∀{l:List (hH×List V)}{b:hH}{vs:List V},(l.map (·.1)).Nodup->(b,vs)∈l->jW H l b=a5 (.tup vs)
 |(a,ws)::r,b,vs,d,h=>by
  have c:a∉r.map (·.1)/\(r.map (·.1)).Nodup:=by simpa using d
  rcases gj.mp h with h|h
  .cases h;show aq
  .have:b≠a:=λz=>c.1 (by rw[<-z];show kl.mpr ⟨_,h,rfl⟩);rw[jW,ak this];show tE c.2 h
section
def Inv.many(I:Inv X a σ H s)(k:∀b u,s.heap.get? b=a5 u->h'.get? b=a5 u)(d:∀b o,H b=a5 o->H' b=a5 o)
  (f:∀b o,H' b=a5 o->H b=a5 o\/(s.heap.objs.size<=b/\bH X.prog X.w H' h' b o)):Inv X a σ H' {s with heap:=h',toks:=t' }:=by
 show I.un ⟨λb u q _ _ _=>k b u q,λb u q _ _ _=>⟨u.slots,k b u q⟩,λb u q n _=>?_,λb u q _=>⟨u,k b u q⟩,λb xs q=>d b _ q,λb u xs q=>d b _ q,λb ps q=>⟨#[],by rw[d b _ q];simp⟩⟩ λb o e=>?_
 .cases e:H' b with
  |none=>rfl
  |some o =>
   rcases f b o e with z|⟨z,_⟩
   .rw[n]at z;cases z
   .show absurd (ku (i9 q) z) (H8 _)
 .rcases f b o e with z|⟨_,z⟩
  .show(I.HR b o z).kh (λc v _ q=>k c v q) (λc q=>d c _ q) λc xs q=>d c _ q
  .show z
abbrev Mh(p:Ar):List V:=[.str p.1,.int p.2]
def oj{ps:List Ar}(hc:X.calm=bD)(I:Inv X g σ H s)(e:H d=a5 (.dK (ps.map λp=>((sL p.1:Key),V.int p.2))))(Io:(ps.map (·.1)).Nodup)(Lq:ps.length<64)
  (q:∀(as:List hH) (L:hH),as.length=ps.length->as.Nodup->(∀a∈L::as,H a=b6)->L∉as->Q (.ref L) (upd (jW H (as.zip (ps.map Mh))) L (.lst ((jV (ps.map (·.1))).map λi=>V.ref (as.getD i 0))))) :
  g9 (i5 X.prog X.w) X.A (Qg (.builtin "dict.items") [.ref d]) (λv s1=>g9 (i5 X.prog X.w) X.A (Qg (.builtin "sorted") [v]) (EP X g σ Q) X.xe s1) X.xe s:=by
 have ab:(64:Nat)<=cL:=by decide
 have⟨hz,lo,vs,kv,dd⟩:=wY I.HR e;have C:vs.length=ps.length:=by
  have:=Paired.length kv;simpa using this.symm
 have⟨o,es,ep,r⟩:=id dd;show Z_ PySem.F.slot_dict_items (show s.TypeIs (.ref d) "dict" from⟨o,r.1,r.2.1.1⟩) PySem.F.entry_dict_items (PySem.F.args_dict_items_1 _) (meets_dict_items (a9 X.prog X.w) d lo) ⟨⟨vs,dd⟩,?_⟩;change g9 (i5 X.prog X.w) X.A (Qg (.builtin "sorted") [.ref s.heap.objs.size]) (EP X g σ Q) X.xe {s with heap:=s.heap.push {cls:=.type "dict_items",data:=.fields #[.ref d]}};have k1:∀b u,s.heap.get? b=a5 u->(s.heap.push {cls:=.type "dict_items",data:=.fields #[.ref d]}).get? b=a5 u:=λb u z=>c4 _ z;have YX:(s.heap.push {cls:=.type "dict_items",data:=.fields #[.ref d]}).DictOf (a9 X.prog X.w) d vs:=⟨o,es,ep,k1 _ _ r.1,r.2⟩
 have JE:(s.heap.push {cls:=.type "dict_items",data:=.fields #[.ref d]}).DictAt (a9 X.prog X.w) d vs ep:=⟨o,es,k1 _ _ r.1,r.2⟩
 show Xn kind_sorted plain_sorted entry_sorted (args_sorted1 _) ?_;unfold QC.«sorted»;show b7 (m:=checkCount "sorted" 1 1 _) (dt ?_);show b7 (kdx_collect (A:=X.A.in1) (knd:=a9 X.prog X.w) (kvs:=vs) (ep:=ep) (I.ok.hd hc) ⟨_,fx _ rfl,rfl,rfl⟩ JE ⋯ λc tk as hk hl D=>?_);have G:as.length=ps.length:=hl.trans C;have f:∀a∈as,s.heap.objs.size<=a:=λa ha=>by
  have:=D.above a ha;have z:(s.heap.push {cls:=.type "dict_items",data:=.fields #[.ref d]}).objs.size=s.heap.objs.size+1:=OM ..;have U2:(s.heap.push {cls:=.type "dict_items",data:=.fields #[.ref d]}).objs.size<a:=this;lia
 have Y:fy c as ps:=⟨G,λj a ea=>by
  have⟨key,k,x,N,e2,e3⟩:=D.pairs j a ea;have B:j<ps.length:=by rw[<-G];show(d4.mp ea).1
  have⟨y,ey,r1,r2⟩:=mS kv (i:=j) (x:=((sL ps[j].1:Key),V.int ps[j].2)) (by simp[B]);rw[N]at ey;cases ey;obtain⟨tx,rfl⟩:∃t,x=.int ps[j].2 t:=r2;have W9:k=sL ps[j].1:=r1.symm;subst W9;have⟨t,rfl⟩:=Zw (x:=ps[j].1) (v:=key) e2;show⟨ps[j],t,tx,by simp[B],e3⟩⟩
 have nd:as.Nodup:=D.rise.imp λh=>kj h;show b7 (ZG ?_ (by rw[df];lia));have O:(c.push (J7 "list" (as.map my).toArray 0)).get? c.objs.size=a5 (J7 "list" (as.map my).toArray 0):=fx _ rfl;change g9 _ _ _ _ _ {s with heap:=c.push (J7 "list" (as.map my).toArray 0),toks:=tk};have U3:∀a∈as,a<c.objs.size:=λa ha=>D.there ha;show b7 (Jq (JF ĵ ⟨_,O,rfl⟩ ġ (vf (lt:=M8 (ps.map (·.1))) O (by rw[df];lia) (λh2 s1 ks=>?_) ⟨_,rfl,?_⟩) (ķ _)))
 .show DB (Y.keeps λb o J z=>ks b o (kj (U3 b J)) (c4 _ z)) Io (by rw[df]at h2;show h2)
 .have⟨ee,he⟩:=sortedHeap_at (out:=((ib (M8 (ps.map (·.1))) (O1 (as.map my).length)).toList.map λi=>(as.map my).getD i qs).toArray) O;have n:∀b o,c.get? b=a5 o->(ù (c.push (J7 "list" (as.map my).toArray 0)) c.objs.size (as.map my) ((ib (M8 (ps.map (·.1))) (O1 (as.map my).length)).toList.map λi=>(as.map my).getD i qs).toArray).get? b=a5 o:=λb o z=>by
   have IG:b<c.objs.size:=i9 z;rw[Ĵ (kj IG) (by rw[OM];show Rh IG)];show c4 _ z
  have NG:s.heap.objs.size<=c.objs.size:=Ol (i9 (hk _ _ (fx _ rfl)));have eP:((ib (M8 (ps.map (·.1))) (O1 (as.map my).length)).toList)=jV (ps.map (·.1)):=by
   unfold jV;rw[df,df,G]
  have OD:H c.objs.size=b6:=I.HR.fresh NG;have W_:c.objs.size∉as:=λz=>H8 _ (U3 _ z);have U4:∀a∈as,H a=b6:=λa ha=>I.HR.fresh (f a ha);have SU:∀{b:hH} {ws:List V},(b,ws)∈as.zip (ps.map Mh)->b∈as:=λz=>(RT z).1;show dt ⟨_,rfl,.ref c.objs.size,upd (jW H (as.zip (ps.map Mh))) c.objs.size (.lst ((jV (ps.map (·.1))).map λi=>V.ref (as.getD i 0))),?_,rfl,q as _ G nd (λa ha=>?_) W_⟩
  .show I.many (λb u z=>n b u (hk b u (k1 b u z))) (λb o z=>?_) λb o z=>?_
   .have n1:b≠c.objs.size:=λy=>by rw[y,OD]at z;cases z
    rw[ak n1,kY λp hp y=>?_]
    .show z
    .have:=U4 p.1 (SU (b:=p.1) (ws:=p.2) hp);rw[y,z]at this;cases this
   .by_cases J:b=c.objs.size
    .subst J;rw[aq]at z;cases z;show .inr ⟨NG,by rw[df,(gz _).length_eq,Sg,df];lia,(jV (ps.map (·.1))).map λi=>(as.map my).getD i qs,ee,?_,?_⟩
     .have T:∀i∈jV (ps.map (·.1)),i<as.length:=λi hi=>by
       have:=x4.mp ((gz _).mem_iff.mp hi);rw[df]at this;lia
      generalize jV (ps.map (·.1))=l at T;induction l with
      |nil=>show .nil
      |cons i l ih =>
       show .cons ?_ (ih λj B=>T j (by simp[B]));have hi:=T i (by simp);change RelV (.ref (as.getD i 0)) ((as.map my).getD i qs);have:(as.map my).getD i qs=.ref (as.getD i 0):=by simp[Ni,hi]
       rw[this];rfl
     .rw[<-eP];show he
    .rw[ak J]at z;rcases kX z with⟨ws,z1,rfl⟩|z1
     .have⟨j,B,ej⟩:=Tv.mp z1;have SV:j<as.length:=by simp at B;lia
      have SS:j<ps.length:=by lia
      have W':as[j]=b/\Mh ps[j]=ws:=by simpa using ej
      have⟨rfl,rfl⟩:=W';have⟨p,t,u,N,e2⟩:=Y.2 j as[j] (by simp[SV]);have:p=ps[j]:=by simpa[SS] using N.symm
      subst this;show .inr ⟨f _ (by simp),by change 2<=cL;lia,[.str ps[j].1 t,.int ps[j].2 u],.cons ⟨t,rfl⟩ (.cons ⟨u,rfl⟩ .nil),_,n _ _ e2,rfl,0,rfl⟩
     .show .inl z1
  .rcases gj.mp ha with rfl|ha
   .show OD
   .show U4 a ha
end
section
end
section
def xC:X.calm=bD->fw X (.builtin "any") (λxs H Q=>∃(p:hH) (bs:List Bool),xs=[.ref p]/\IF X.K H p (bs.map V.bl)/\Q (.bl (bs.any id)) H):=by
 intro f c s σ H xs us Q I rs h;have⟨p,bs,rfl,g,q⟩:=h;have⟨u,rfl,r⟩:=vals1 rs;cases r;have⟨m,rv,pl,hz⟩:=I.list g;have e:=fK rv;subst e;have j:p<s.heap.objs.size:=by obtain⟨_,_,e,_⟩:=pl;show i9 e
 show call_any_walk (SY pl.isList ?_);show⟨s.heap.objs.size,[s.heap.objs.size,p],[s.heap.objs.size],(bs.map Nu).toArray.size,_,_,λi=>(bs[i]?).getD cb,rfl,ZK (A:=X.A.in1) (I.ok.hd f) _ p (kj j) (bs.map Nu).toArray,
  ⟨⟨_,fx _ rfl,rfl,rfl⟩,pl.isList.push _⟩,λi v s' Q' n k d=>?_,λh' l hk=>?_⟩
 .have a:(bs.map Nu)[i]?=a5 v:=by simpa using k
  rw[k9]at a;cases e:bs[i]? with
  |none=>rw[e]at a;cases a
  |some b =>
   rw[e]at a;cases a;simp only[e,Z2]at d;show JS d
 .have e:((i4 (bs.map Nu).toArray.size).any λi=>(bs[i]?).getD cb)=bs.any id:=by
   rw[hQ,df];show ê bs
  rw[e];show⟨.bl _,H,I.kept (t':=l) (Tt hk),rfl,q⟩
end
section
def vg{vs:List (Key×dV)}(hk:vs.map (·.1)=ks.map sL)(hl:a.length=vs.length)(h:∀(j:Nat) (v:dV),a[j]?=a5 v->∃k x,vs[j]?=a5 (k,x)/\(a9 P w).is k v=bD):RH a ks:=by
 induction a generalizing ks vs with
 |nil =>
  cases vs with
  |nil=>cases ks with
   |nil=>show .nil
   |cons _ _=>cases hk
  |cons _ _=>cases hl
 |cons v a c =>
  cases vs with
  |nil=>cases hl
  |cons p vs =>
   cases ks with
   |nil=>cases hk
   |cons k ks =>
    simp only[il,Ru]at hk;have⟨k',x,b,e2⟩:=h 0 v rfl;simp only[List.getElem?_cons_zero,Ts]at b;subst b;have d:k'=sL k:=hk.1;subst d;rcases bt (show kg (sL k) v=bD from e2) with⟨i,t,e,rfl⟩|⟨y,t,e,rfl⟩
    .cases e
    .cases e;show .cons _ _ (c hk.2 (by simpa using hl) λj u f=>h (j+1) u (by simpa using f))
def jm:X.calm=bD->fw X (.builtin "sorted") (λxs H Q=>∃(d:hH) (kvs:List (Key×V)) (ks:List Str),xs=[.ref d]/\H d=a5 (.dK kvs)/\kvs.map (·.1)=ks.map sL/\ks.length<64/\∀q,H q=b6->Q (.ref q) (upd H q (.lst ((bu ks).map V.str)))):=by
 intro l a s σ H xs us Q I rs h;have⟨d,kvs,ks,rfl,e,hk,C,q⟩:=h;have⟨u,rfl,r⟩:=vals1 rs;cases r;have⟨hz,lo,vs,kv,dd⟩:=wY I.HR e;have b:vs.length=kvs.length:=(Paired.length kv).symm;have m:kvs.length=ks.length:=by rw[<-df (f:=(·.1)),hk,df]
 have n:vs.map (·.1)=ks.map sL:=by
  rw[<-hk];clear dd b hk m e q hz;induction kv with
  |nil=>rfl
  |cons r _ p=>rw[il,il,p,r.1]
 have⟨o,es,ep,t⟩:=id dd;have x:(64:Nat)<=cL:=by decide
 show eZ (kdu_collect (A:=X.A.in1) (kdl_dict (knd:=a9 X.prog X.w) (kvs:=vs) (ep:=ep) lo) (I.ok.hd l) ⟨o,es,t⟩ ⋯ λh' c y z g=>⟨ks,vg n (by rw[rl];show g.1) (λj v B=>g.2 j v (by rw[<-Ie];show B)),by rw[rl,g.1];lia,λD vs' e2 k2 i s2=>?_⟩);have k:Inv X a σ H {s with heap:=h',toks:=c}:=I.kept (t':=c) z;show⟨.ref h'.objs.size,_,k.laid (t':=c) (o:=.lst ((bu ks).map V.str)) k2 (hY _) ⟨by rw[df,eY];lia,vs',e2,du s2,i⟩,rfl,q _ (k.HR.fresh (hY _))⟩
end
end L2
namespace L2
open PySem PyProof.Rows PySem.W
abbrev Hw(h:K1)(e C:hH)(a0:dV)(T:Option hH)(b:dV):Prop:=∃oe vs,h.get? e=a5 oe/\oe.cls=.ref C/\oe.data=.fields vs/\vs[0]?=a5 a0/\match T with
 |none=>vs[1]?=a5 .none
 |some T=>T≠e/\vs[1]?=a5 (.ref T)/\∃a ts,h.get? T=a5 a/\a.data=.fields ts/\ts[3]?=a5 b
structure bX(P:y0)(w:Jn)(stack:List Env)(H:Hp)(s:hW)(e C:hH)(T:Option hH)(fl:dV)(H':Hp)(s':hW):Prop where
 os:s'.os=s.os
 bare:S6 s'.gens
 un:Un (IH stack) [] H H' s.heap s'.heap
 HR:Jf P w H' s'.heap
 new:s.heap.get? e=b6
 he:H' e=b6
 exc:∃a0,Hw s'.heap e C a0 T fl
 hT:∀a,T=a5 a->s.heap.get? a=b6/\H' a=b6
abbrev K7(P:y0)(w:Jn):Ny:=λouter H s E v s'=>∃e C T H',v=.ref e/\bX P w outer H s e C (a5 T) .none H' s'/\E (.ref C) b6 H'
def bH.there(x:bH P w H h a o):∃u,h.get? a=a5 u:=by
 cases o with
 |lst xs=>obtain⟨_,_,_,_,e⟩:=x;show⟨_,e⟩
 |tup xs=>obtain⟨_,_,_,_,e,_⟩:=x;show⟨_,e⟩
 |set S n=>obtain⟨o,_,_,_,e,_⟩:=x;show⟨_,e⟩
 |ins C c b=>obtain⟨_,_,_,e,_⟩:=x;show⟨_,e⟩
 |own y=>show x
 |xd b=>obtain⟨_,⟨_,_,_,e,_⟩,_⟩:=x;show⟨_,e⟩
 |Qv lo hi=>obtain⟨_,_,_,e⟩:=x;show⟨_,e⟩
 |KJ d u=>show⟨_,x.1⟩
 |MS ps=>show⟨_,x⟩
 |met f y=>show⟨_,x⟩
 |ext φ=>show x.2.1
 |_=>obtain⟨_,_,_,_,o,_,_,e,_⟩:=x;show⟨_,e⟩
section
variable{P:y0}{w:Jn}{stack outer:List Env}{H H':Hp}{s s':hW}{e C L:hH}{T:Option hH}{fl:dV}{base:K1}{env:Env}{M:Model}{A:MW}{E:dV->hW->Prop}{Q:Unit->hW->Prop}
theorem tF(u:Un (IH stack) [] H H' s.heap s'.heap)(a:∀b∈IH stack,H b=b6):∀l:List Env,(∀b∈IH l,b∈IH stack)->s.heap.FunFrames base l->s'.heap.FunFrames base l
 |[],_,_=>trivial
 |env::l,hs,⟨hk,⟨L,o,c,d,ho,f⟩,g⟩=>by
  have h:IH (env::l)=L::IH l:=by unfold IH;rw[JD,c]
  rw[h]at hs;have⟨j,q⟩:=u.any ho (a L (hs L mh)) λz=>nomatch z
  show⟨hk,⟨L,_,c,d,q,f⟩,tF u a l (λb i=>hs b (ki _ i)) g⟩
def bX.next(F:bX P w stack H s e C T fl H' s')(k:s.heap.FunFrames base stack)(l:∀b∈IH stack,H b=b6)(G:B=hideAll s'.heap (e::(T.toList++IH stack))):
  B.StaysIn s'.heap/\s'.heap.FunFrames B stack/\B.get? e=b6/\(∀a,T=a5 a->B.get? a=b6) /\
   ∀h' i,B.StaysIn h'->h'.FunFrames B stack->h'.TracedAtW B e (.ref C) a0 i->s'.heap.UpToSlots h'->∃c,bX P w stack H s e C (a5 c) i H' {s' with heap:=h' }:=by
 have m:=tF F.un l _ (λ_ z=>z) k;subst G;show⟨λb o q=>of_hideAll _ q,funFrames_hide m λI J a N=>ki _ (va _ (Qf.mpr ⟨I,J,N⟩)),hideAll_none _ mh,λa z=>hideAll_none _ (ki _ (J8 _ (by simp[z]))),λh' i k1 k2 ⟨O,vs',c,Y,Xd,b1,⟨b2,b0⟩,b3,b4,b5,p,r,t,b9⟩ k4=>?_⟩;have Xe:∀a,a∈e::(T.toList++IH stack)->H' a=b6:=λa ha=>by
  rcases gj.mp ha with rfl|ha
  .show F.he
  rcases ke.mp ha with ha|ha
  .show(F.hT a (by simpa using ha)).2
  .obtain⟨_,o,ho,_⟩:=k.mem ha;show F.un.free a o ho (l a ha) λz=>nomatch z
 have keep:∀b o,b∉e::(T.toList++IH stack)->s'.heap.get? b=a5 o->h'.get? b=a5 o:=λb o hb q=>k1 b o (hideAll_get _ q hb);have slot:∀b o,b∈IH stack->s'.heap.get? b=a5 o->∃v,h'.get? b=a5 {o with slots:=v}:=λb o hb q=>by
  obtain⟨_,o',d,j⟩:=m.mem hb;rw[q]at d;cases d;show k4 b o q j
 have x:∀b o,s.heap.get? b=a5 o->b∉IH stack->b∉e::(T.toList++IH stack):=λb o q hb z=>by
  rcases gj.mp z with z|z
  .rw[z,F.new]at q;cases q
  rcases ke.mp z with z|z
  .rw[(F.hT b (by simpa using z)).1]at q;cases q
  .show hb z
 have tn:s.heap.get? c=b6/\H' c=b6:=by
  by_cases z:c∈e::(T.toList++IH stack)
  .rcases gj.mp z with z|z
   .show absurd z p
   rcases ke.mp z with z|z
   .show F.hT c (by simpa using z)
   .obtain⟨_,o',d,j⟩:=k2.mem z;rw[r]at d;cases d;show absurd t (j _)
  .have q:s'.heap.get? c=b6:=by
    cases q:s'.heap.get? c with
    |none=>rfl
    |some o=>have:=hideAll_get _ q z;rw[b5]at this;cases this
   show⟨?_,?_⟩
   .cases f:s.heap.get? c with
    |none=>rfl
    |some o=>have⟨o',y⟩:=F.un.there _ o f λz=>nomatch z;rw[q]at y;cases y
   .cases f:H' c with
    |none=>rfl
    |some u =>
     have⟨o,z⟩:=(F.HR c u f).there;rw[q]at z;cases z
 show⟨c,F.os,F.bare,⟨λb o q n hb g=>keep b o (x b o q hb) (F.un.keep b o q n hb g),λb o q n hb g=>?_,F.un.free,λb o q g=>?_,F.un.gN,F.un.Jl,F.un.Jt⟩,λa u q=>(F.HR a u q).kh (λb o hb d=>?_) (λ_ z=>z) λ_ _ z=>z,F.new,F.he,⟨_,O,vs',b1,b2,b3,b0,p,b4,Y,Xd,r,t,b9⟩,λa z=>by cases z;show tn⟩
 .have⟨v,h⟩:=F.un.slot b o q n hb g;have⟨D,f⟩:=slot b _ hb h;show⟨D,f⟩
 .have⟨o',h⟩:=F.un.there b o q g;by_cases hb:b∈IH stack
  .have⟨D,f⟩:=slot b _ hb h;show⟨_,f⟩
  .show⟨_,keep b _ (x b o q hb) h⟩
 .show keep b o (λz=>?_) d;have:=Xe b z;rcases hb with rfl|hb
  .rw[q]at this;cases this
  .rw[hb]at this;cases this
def bX.leave(F:bX P w (env::outer) H s e C T .none H' s')(c:A.frames=a5 (env::outer))(d:env.frame=a5 L)(q:s.heap.FunFrames base (env::outer))(r:∀b∈IH (env::outer),H b=b6)
  (h:∀f g,bX P w (env::outer) H s e C (a5 f) .none H' g->Q () g):g9 M A (leaving env (.ref e)) Q E s':=by
 have⟨a0,oe,vs,i,j,k,l,m⟩:=F.exc;obtain⟨B,t⟩:∃B,B=hideAll s'.heap (e::(T.toList++IH (env::outer))):=⟨_,rfl⟩
 have⟨n,o,p,u,v⟩:=F.next (a0:=a0) q r t;have a:∀h',Heap.LeftW B (env::outer) e (.ref C) a0 s'.heap h'->Q () {s' with heap:=h' }:=λh' x=>by
  have⟨k1,k2,k3,y⟩:=x;have⟨f,z⟩:=v h' .none k1 k2 k3 y;show h _ _ z
 cases T with
 |none=>show wpAny_leaving_firstW c o d i n p k m l λh' z=>a h' (j▸z)
 |some T =>
  have⟨D,G,I,ts,J,N,O⟩:=m;show wpAny_leaving_nextW c o d ⟨oe,vs,T,I,ts,i,⟨j,l⟩,k,G,u T rfl,D,J,N,O⟩ n p a
def bX.note{T:hH}(F:bX P w (env::outer) H s e C (a5 T) .none H' s')(d:A.frames=a5 (env::outer))(f:env.frame=a5 L)(g:s.heap.FunFrames base (env::outer))(i:∀b∈IH (env::outer),H b=b6)
  (h:∀a c,bX P w (env::outer) H s e C (a5 a) (Iv L) H' c->Q () c):g9 M A (noteFrame (.ref e) env) Q E s':=by
 have⟨a0,oe,vs,j,k,l,m,n,o,p,ts,q,r,t⟩:=F.exc;have⟨u,v,x,y,B⟩:=F.next (a0:=a0) g i rfl;show wpAny_noteFrame_onW d v f ⟨oe,vs,T,p,ts,j,⟨k,m⟩,l,o,y T rfl,n,q,r,t⟩ u x λh' D=>?_;have⟨k1,k2,k3,G⟩:=D;have⟨a,z⟩:=B h' _ k1 k2 k3 G;show h _ _ z
def bX.land{T:hH}(F:bX P w stack H s e C (a5 T) fl H' s')(d:s.heap.FunFrames base stack)(f:∀b∈IH stack,H b=b6)
  (h:∀a c,bX P w stack H s e C (a5 a) .none H' c->Q () c):g9 M A (setFlight (.ref e) b6) Q E s':=by
 have⟨a0,oe,vs,g,i,j,k,l,m,p,ts,r,t,u⟩:=F.exc;have⟨v,x,G,y,B⟩:=F.next (a0:=a0) d f rfl;show wpAny_setFlight_noneW v x ⟨oe,vs,T,p,ts,g,⟨i,k⟩,j,m,y T rfl,l,r,t,u⟩ λh' k1 k2 k3 D=>?_;have⟨a,z⟩:=B h' _ k1 k2 k3 λb o q n=>⟨o.slots,D b o q n⟩
 show h _ _ z
end
section
def bX.down(I:Inv X i σ H s)(k:X.ex=[])(hs:X.stack=X.env::X.outer)(l:X.env.frame=a5 X.env.locals)(F:bX X.prog X.w X.stack H s e C T m H' s'):bX X.prog X.w X.outer X.H₀ X.s₀ e C T m H' s':=by
 have nx:∀b:hH,b∉X.ex:=λb z=>by rw[k]at z;cases z
 have j:IH X.stack=X.env.locals::IH X.outer:=by rw[hs];unfold IH;rw[JD,l]
 have c:∀b,s.heap.get? b=b6->X.s₀.heap.get? b=b6:=λb q=>by
  cases z:X.s₀.heap.get? b with
  |none=>rfl
  |some o=>have⟨o',z⟩:=I.base.there b o z (nx b);rw[q]at z;cases z
 have hl:∀b o,X.s₀.heap.get? b=a5 o->b≠X.env.locals:=λb o q=>kj (ku (i9 q) I.ok.above);have g:∀b:hH,b∉([]:List hH):=λb z=>nomatch z
 show⟨F.os.trans I.os,F.bare,⟨λb o q n f _=>?_,λb o q n f _=>?_,λb o q n _=>?_,λb o q _=>?_,λb xs q=>F.un.gN b xs (I.base.gN b xs q),λb o u q=>F.un.Jl b o u (I.base.Jl b o u q),λb ps q=>?_⟩,F.HR,c _ F.new,F.he,F.exc,λa z=>⟨c _ (F.hT a z).1,(F.hT a z).2⟩⟩
 .show F.un.keep b o (I.base.keep b o q n f (nx b)) (I.base.free b o q n (nx b)) (λz=>by rw[j]at z;show(gj.mp z).elim (hl b o q) f) (g b)
 .have⟨r,d⟩:=I.base.slot b o q n f (nx b);have⟨p,h⟩:=F.un.slot b _ d (I.base.free b o q n (nx b)) (by rw[j];show ki _ f) (g b);show⟨p,h⟩
 .have⟨o',d⟩:=I.base.there b o q (nx b);show F.un.free b o' d (I.base.free b o q n (nx b)) (g b)
 .have⟨o',d⟩:=I.base.there b o q (nx b);show F.un.there b o' d (g b)
 .have⟨m1,d⟩:=I.base.Jt b ps q;have⟨m2,h⟩:=F.un.Jt b _ d;show⟨m1++m2,by rw[h,ZT]⟩
def bX.made(I:Inv X c σ H s)(b:Heap.MadeExcOf s.heap h' e (.ref C) vs):bX X.prog X.w X.stack H s e C b6 .none H {s with heap:=h' }:=by
 obtain⟨t,d,_⟩:=b.there;show⟨rfl,I.bare,Un.kept b.keeps,I.HR.kept b.keeps,b.new,?_,⟨_,_,_,d,rfl,rfl,rfl,rfl⟩,λa z=>nomatch z⟩;cases z:H e with
 |none=>rfl
 |some u=>have⟨o,q⟩:=(I.HR e u z).there;rw[b.new]at q;cases q
abbrev OE:List dV:=[.type "ValueError",.type "Exception",.type "BaseException",.type "object"]
abbrev Xf(p:hH->List dV->Option dV->Option dV->Option dV->Option dV->String->Option dV->Bool)(M:List dV)(S:List (Option dV)):Prop:=∃C a k0 k1 k2 k3 n k5,M=.ref C::a/\S=[k0,k1,k2,k3,a5 (.builtin n),k5]/\p C a k0 k1 k2 k3 n k5=bD
def nf{P:Prop}(h:cb=bD):P:=nomatch h
def DC(q:excIn.match_1 (λ_ _=>Bool) M S p (λ_ _=>cb)=bD):Xf p M S:=by
 cases M with
 |nil=>show nf q
 |cons v a =>
  cases v with
  |ref C =>
   cases S with
   |nil=>show nf q
   |cons k0 S =>
   cases S with
   |nil=>show nf q
   |cons k1 S =>
   cases S with
   |nil=>show nf q
   |cons k2 S =>
   cases S with
   |nil=>show nf q
   |cons k3 S =>
   cases S with
   |nil=>show nf q
   |cons b S =>
   cases b with
   |none=>show nf q
   |some v =>
   cases v with
   |builtin n =>
    cases S with
    |nil=>show nf q
    |cons k5 S =>
    cases S with
    |nil=>show⟨C,a,k0,k1,k2,k3,n,k5,rfl,rfl,q⟩
    |cons _ _=>show nf q
   |_=>show nf q
  |_=>show nf q
abbrev Xg(p:Option hH->ClassData->Array (Option dV)->Bool)(o:Option Obj):Prop:=∃d a b,o=a5 ⟨.type "type",d,.cls a,b⟩/\p d a b=bD
def DE(q:excIn.match_6 (λ_=>Bool) o p (λ_=>cb)=bD):Xg p o:=by
 split at q
 .show⟨_,_,_,rfl,q⟩
 .show nf q
def DF{K:Frag}{P:Prop}(b:K.In h)(q:excIn K C OE a=bD)(k:∀c N nm d bs hdct sn sub ab col dd k0 k1 k2 k3 k5 f,h.get? C=a5 (excClassObj nm d C N bs c hdct sn sub ab col dd k0 k1 k2 k3 k5 a)->h.Ns N f->f "__init__"=b6->OwnTail h OE c->P):P:=by
 have⟨dd,p,r,ho,g⟩:=DE q;have⟨v,c,k0,k1,k2,k3,n,k5,i,hs,j⟩:=DC g;clear q g;have⟨nm,bs,mro,ns,d,s,sn,sub,ab,col,t⟩:=p;have⟨l⟩:=r;simp only[b8,beq_iff_eq,uk]at j;obtain⟨⟨⟨⟨⟨rfl,rfl⟩,m⟩,u⟩,e⟩,o⟩:=j
 dsimp only at i m e o
 subst i m;obtain rfl:l=_:=hs;show k c ns nm d bs s sn sub ab col dd k0 k1 k2 k3 k5 _ (b _ _ ho) (.of_isNs (isNs_of_in b e)) (nsMap_none_of_in b e o) (tail_of_in b u)
def xD(i:X.calm=bD)(j:Gl X x)(f:X.mg x=a5 (.ref C))(k:(x==("__debug__":Str))=cb)(l:excIn X.K C OE "ValueError.__new__"=bD)(m:PE X a n)
  (g:js [a] X.env=[(cb,vr a X.env)]) :
  PS X (.Raise (a5 (.Call (.Name x p) [a] [] A)) b6 pos) (λD σ H=>n σ H λv d=>∀b s e s',Inv X b σ d s->bX X.prog X.w X.stack d s e C b6 .none d s'->X.xe (.ref e) s'):=by
 intro b s σ H D I h;show DF I.mod.MT l λB N nm o bs hdct sn sub ab col dd k0 k1 k2 k3 k5 G r t y T=>?_;show wpAny_Raise_call_subT (nm:=nm) (q:=o) (N:=N) (bs:=bs) (hdct:=hdct) (sn:=sn) (sub:=sub) (ab:=ab) (col:=col) (dd:=dd) (k0:=k0) (k1:=k1) (k2:=k2) (k3:=k3) (k5:=k5) Ã (T.hasType Ã.hasBase) (I.ok.hd i) (by rw[g];rfl) y (dU I j f ⟨rfl,?_⟩ k);rw[g];show M9 (Oa (HS (m b s σ H _ I h) λu s1 ⟨v,d,c,r1,z⟩=>Qu ⟨rfl,?_,c.bk _ _ r,t.keeps c.bk,T.keeps c.bk,λh' e f=>z b s1 e _ c (.made c f)⟩));show(by decide:1<=cL)
def tH:Passes (K7 X.prog X.w) X E0:=λ_ _ _ _ _ _ _ ⟨_,_,_,_,_,_,h⟩=>h.elim
def tI(F:dR X.prog X.w X.K X.mg X.base CX k f d ps sp)(g:cN k X.A)(i:Binds X.K d ps [])(I:Inv X a σ H s)(r:Vals vs us)(h:sp vs H Q E)
  (j:∀e s',CX X.stack H s E e s'->EE e s'):g9 (i5 X.prog X.w) X.A (Qg (.ref f) us) (EP X a σ Q) EE s:=by
 have hl:us.length=ps.length:=by rw[<-r.length];show F.len _ _ _ _ h
 have c:=i s us I.JU (by rw[ve];show hl);rw[ve]at c;show Zm (RA (F.run X.A X.stack s H ⟨us,[]⟩ us vs Q E g I.De c r h) λr s' b=>?_);cases r with
 |error e=>show j e s' b
 |ok l =>
  cases l with
  |ret u=>show I.after b
  |_=>show Lb b
end
def DG(a:s.heap.get? e=a5 oe)(b:oe.cls=.ref C)(h:Q (.bool bD) s):
  g9 (i5 prog w) A (Qg (.builtin "isinstance") [.ref e,.ref C]) Q E s:=by
 show call_isinstance (S:=λ_ R s=>s.heap.get? e=a5 oe/\R (.ok (.ret (.bool bD))) s) (λprog w A R s hs=>isinstance_outer ?_ λz=>nomatch z) ⟨a,h⟩;have⟨c,g,d,i,os⟩:=s;have⟨a,f⟩:=hs;have LT:Looks (i5 prog w) c (Zn (.ref e)) (.ref C):=by
  show(İ a).andThen ?_;rw[b];show .now
 unfold QC.«isinstance.nested»;show b7 (LT.at ?_);rw[Ĺ (by simp)]
 repeat (any_goals (first|show f|assumption|wp_step))
@[reducible]def Cx.Lu(X:Cx)(e:hH)(oe:Obj)(E:dV->hW->Prop):Cx:={X with A:=X.A.mark (a5 (.ref e)),calm:=cb,pn:=(e,oe)::X.pn,xe:=E}
section
def Inv.Lu(I:Inv X a σ H s)(b:s.heap.get? e=a5 oe)(c:H e=b6)(d:e≠X.env.locals)(f:e∉X.fs)(g:∀v,oe.data≠.cell v):Inv (X.Lu e oe E) a σ H s :=
 ⟨⟨I.ok.mod,I.ok.kind,I.ok.glob,I.ok.blt,I.ok.above,I.ok.inj,I.ok.has,I.ok.Oj,λz=>(nomatch z),I.ok.frames,I.ok.O0,I.ok.Rm,I.ok.bs,I.ok.L9,I.ok.KZ,I.ok.Lz,I.ok.jg,I.ok.MU⟩,I.os,I.bare,I.base,I.loc,I.cell,I.free,I.Iz,
  λp h=>(gj.mp (show p∈(e,oe)::(X.pn++a) from h)).elim (λz=>by subst z;show⟨b,c,d,f,g⟩) λz=>I.pin p z,I.HR,I.len⟩
def Inv.Hx(b:X.Ok)(I:Inv (X.Lu e oe E) a σ H s):Inv X a σ H s :=
 ⟨b,I.os,I.bare,I.base,I.loc,I.cell,I.free,I.Iz,λp c=>I.pin p (ki _ c),I.HR,I.len⟩
def Inv.gone(I:Inv X f σ H s)(D:X.N.Nodup)(w:X.N[j]?=a5 n)(hl:X.env.scope.names.lookup n=a5 .local)
  (h:∀s',Inv X f (σ.set j b6) H s'->Q () s'):g9 M A (do bindName X.env n .none;unbindBehindTheSuite X.env n pos) Q E s:=by
 have⟨m,G,J⟩:=id I.loc;have L:(X.env.scope.kind==.class||(X.env.scope.kind==.module&&X.env.locals != X.env.globals))=cb:=by rw[I.ok.kind];rfl
 show wpAny_nameGoes_keeps hl G L λh' v O hs=>h _ ?_;have x:=I.LA;have T:j < σ.length:=by rw[I.len];show(d4.mp w).1
 have k:∀b o,X.s₀.heap.get? b=a5 o->b≠X.env.locals:=λb o q=>kj (ku (i9 q) I.ok.above);show⟨I.ok,I.os,I.bare,⟨λb o e n t g=>(hs.2 b (k b o e)).trans (I.base.keep b o e n t g),λb o e n t g=>?_,I.base.free,λb o e g=>?_,I.base.gN,I.base.Jl,I.base.Jt⟩,⟨_,O,λi y u B e2 Y=>?_⟩,λy c e=>?_,I.free,I.Iz,λp hp=>?_,λb ob e=>(I.HR b ob e).kh (λc w' hc q=>(hs.2 c ?_).trans q) (λ_ q=>q) λ_ _ q=>q,by simpa using I.len⟩
 .have⟨sl,q⟩:=I.base.slot b o e n t g;show⟨sl,(hs.2 b (k b o e)).trans q⟩
 .have⟨o',q⟩:=I.base.there b o e g;show⟨o',(hs.2 b (k b o e)).trans q⟩
 .have C:i≠j:=λz=>by subst z;rw[d6 T]at e2;cases e2
  rw[i7 (tv C)]at e2;have⟨u',r,l⟩:=J i y u B e2 Y;show⟨u',r,l.imp (λ⟨a,b⟩=>⟨a,?_⟩) λ⟨a,c,b,d⟩=>⟨a,c,b,d.sameBut hs (x y c b)⟩⟩;change(if y=n then v else m y)=a5 u';rw[ĺ λ(z:y=n)=>C (iw D B (by rw[z];show w))];show b
 .have⟨u,z⟩:=I.cell y c e;show⟨u,z.sameBut hs (x y c e)⟩
 .have⟨a,b,c,d⟩:=I.pin p hp;show⟨(hs.2 p.1 c).trans a,b,c,d⟩
 .rintro rfl;rcases hc with hc|hc
  .rw[<-hc,I.free]at e;cases e
  .rw[I.free]at hc;cases hc
end
end L2
namespace TM
open PySem L2
inductive U where
 |HX|bl (b:Bool)|int (i:Int)|str (x:Str)
 |tup (xs:List U)|lst (xs:List U)
 |HP (ks:List Str) (vs:List U)
 |ob (u:U) (us:List U)
mutual
noncomputable def Ig:U->Bool
 |.tup xs=>cE xs
 |.lst _=>cb
 |.HP _ _=>cb
 |.ob _ _=>cb
 |.HX=>bD|.bl _=>bD|.int _=>bD|.str _=>bD
noncomputable def cE:List U->Bool
 |[]=>bD
 |u::us=>Ig u&&cE us
end
inductive Kd where|own|io|loc|any|bor (j:Nat)|A'
deriving DecidableEq
abbrev Kd.root:Kd->Bool
 |.own=>bD
 |.io=>bD
 |_=>cb
@[reducible]def au:=List (Option (Kd×U))
structure Ct where
 P:y0
 w:Jn
 K:PySem.W.Frag
 H₀:Hp
 JG:hH->Prop
 IO:hH->Prop
 xw:U->Hp->Prop
abbrev KL(K:PySem.W.Frag)(a:hH)(xs:List V):Prop :=
 ∃(o:Obj) (b:Array dV) (n:Nat),K.lookup a=a5 o/\o.cls=.type "list"/\o.dict=b6/\o.data=.seq b n/\b.size<=cL/\Vals xs b.toList
abbrev PJ(K:PySem.W.Frag)(S:hH->Prop)(H:Hp)(a:hH)(vs:List V):Prop:=(S a/\Rd H a (.lst vs))\/KL K a vs
def PJ.sq(h:PJ K S H a vs):IF K H a vs:=h.elim (λz=>.inl z.2) .inr
abbrev M'(H:Hp)(R:List V->Prop)(a:hH)(ks:List Str):Prop:=∃kvs:List (Key×V),H a=a5 (.dK kvs)/\kvs.map (·.1)=ks.map sL/\R (kvs.map (·.2))
section
variable(C:Ct)(S:hH->Prop)(H:Hp)
mutual
def Rep:U->V->Prop
 |.HX,v=>v=.HX
 |.bl b,v=>v=.bl b
 |.int i,v=>v=.int i
 |.str x,v=>v=.str x
 |.tup us,v=>∃a vs,v=.ref a/\II C.K H a vs/\ar us vs
 |.lst us,v=>∃a vs,v=.ref a/\PJ C.K S H a vs/\ar us vs
 |.HP ks us,v=>∃a,v=.ref a/\S a/\M' H (ar us) a ks
 |.ob _ _,_=>False
def ar:List U->List V->Prop
 |[],vs=>vs=[]
 |u::us,vs=>∃v r,vs=v::r/\Rep u v/\ar us r
end
end
def Tp:HO->Prop
 |.tup _=>True
 |.KJ _ (.tup _)=>True
 |_=>False
structure Mv(S:hH->Prop)(H:Hp)(S':hH->Prop)(H':Hp):Prop where
 sub:∀a,S a->S' a
 OF:∀a o,H a=a5 o->Tp o->H' a=a5 o
 QR:∀a o,S a->H a=a5 o->H' a=a5 o
def Mv.Xh(m:Mv S H S' H')(h:II K H a vs):II K H' a vs:=by
 rcases h with(h|⟨o,h⟩)|h
 .show .inl (.inl (m.OF a _ h trivial))
 .show .inl (.inr ⟨o,m.OF a _ h trivial⟩)
 .show .inr h
def Mv.Xi(m:Mv S H S' H')(h:PJ K S H a vs):PJ K S' H' a vs:=by
 rcases h with⟨s,h|⟨o,h⟩⟩|h
 .show .inl ⟨m.sub a s,.inl (m.QR a _ s h)⟩
 .show .inl ⟨m.sub a s,.inr ⟨o,m.QR a _ s h⟩⟩
 .show .inr h
def M'.mv(b:∀o,H a=a5 o->H' a=a5 o)(c:∀vs,R vs->d vs)(h:M' H R a ks):M' H' d a ks :=
 let ⟨kvs,e,f,g⟩:=h;⟨kvs,b _ e,f,c _ g⟩
section
mutual
theorem Rep.Na(m:Mv S H S' H'):∀(u:U) (v:V),Rep C S H u v->Rep C S' H' u v
 |.HX,_,h=>h
 |.bl _,_,h=>h
 |.int _,_,h=>h
 |.str _,_,h=>h
 |.tup us,v,h=>by
  have⟨a,vs,e,b,c⟩:=h;show⟨a,vs,e,m.Xh b,ar.Na m us vs c⟩
 |.lst us,v,h=>by
  have⟨a,vs,e,b,c⟩:=h;show⟨a,vs,e,m.Xi b,ar.Na m us vs c⟩
 |.HP ks us,v,h=>by
  have⟨a,e,b,c⟩:=h;show⟨a,e,m.sub a b,c.mv (λo q=>m.QR a o b q) λvs q=>ar.Na m us vs q⟩
 |.ob _ _,_,h=>Lb h
theorem ar.Na(m:Mv S H S' H'):∀(us:List U) (vs:List V),ar C S H us vs->ar C S' H' us vs
 |[],_,h=>h
 |u::us,vs,h=>by
  have⟨v,r,e,a,b⟩:=h;show⟨v,r,e,Rep.Na m u v a,ar.Na m us r b⟩
end
mutual
theorem Rep.vh:∀(u:U) (v:V),Ig u=bD->Rep C S H u v->Rep C S' H u v
 |.HX,_,_,h=>h
 |.bl _,_,_,h=>h
 |.int _,_,_,h=>h
 |.str _,_,_,h=>h
 |.tup us,v,i,h=>by
  have⟨a,vs,e,b,c⟩:=h;show⟨a,vs,e,b,ar.vh us vs (by simpa[TM.Ig] using i) c⟩
 |.lst us,v,i,h=>by simp[TM.Ig]at i
 |.HP ks us,v,i,h=>by simp[TM.Ig]at i
 |.ob _ _,_,_,h=>Lb h
theorem ar.vh:∀(us:List U) (vs:List V),cE us=bD->ar C S H us vs->ar C S' H us vs
 |[],_,_,h=>h
 |u::us,vs,i,h=>by
  have⟨v,r,e,b,c⟩:=h;have a:TM.Ig u=bD/\cE us=bD:=by simpa[cE] using i
  show⟨v,r,e,Rep.vh u v a.1 b,ar.vh us r a.2 c⟩
end
def Rep.mv(m:Mv S H S' H')(h:Rep C S H u v):Rep C S' H' u v:=Rep.Na m u v h
def ar.mv(m:Mv S H S' H')(h:ar C S H us vs):ar C S' H' us vs:=ar.Na m us vs h
def Rep.Ig(i:TM.Ig u=bD)(h:Rep C S H u v):Rep C S' H u v:=Rep.vh u v i h
def ar.Ig(i:cE us=bD)(h:ar C S H us vs):ar C S' H us vs:=ar.vh us vs i h
def Mv.up(sub:∀a,S a->S' a):Mv S H S' H:=⟨sub,λ_ _ h _=>h,λ_ _ _ h=>h⟩
theorem ar.len:∀{us:List U}{vs:List V},ar C S H us vs->us.length=vs.length
 |[],_,h=>by cases h;rfl
 |u::us,vs,h=>by
  obtain⟨v,r,rfl,_,a⟩:=h;rw[lx,lx,ar.len a]
theorem ar.get:∀{us:List U}{vs:List V}{i:Nat}{u:U},ar C S H us vs->us[i]?=a5 u->∃v,vs[i]?=a5 v/\Rep C S H u v
 |[],_,_,_,_,e=>by simp at e
 |u::us,vs,0,w,h,e=>by
  obtain⟨v,r,rfl,a,_⟩:=h;simp at e;subst e;show⟨v,rfl,a⟩
 |u::us,vs,i+1,w,h,e=>by
  obtain⟨v,r,rfl,_,b⟩:=h;have⟨v',c,h'⟩:=ar.get (i:=i) (u:=w) b (by simpa using e);show⟨v',by simpa using c,h'⟩
theorem ar.append:∀{us ws:List U}{vs ys:List V},ar C S H us vs->ar C S H ws ys->ar C S H (us++ws) (vs++ys)
 |[],_,_,_,h,h'=>by cases h;show h'
 |u::us,ws,vs,ys,h,h'=>by
  have⟨v,r,rfl,a,b⟩:=h;show⟨v,r++ys,rfl,a,b.append h'⟩
theorem ar.take:∀{us:List U}{vs:List V} (n:Nat),ar C S H us vs->ar C S H (us.take n) (vs.take n)
 |_,_,0,_=>by simp[ar]
 |[],_,n+1,h=>by cases h;simp[ar]
 |u::us,vs,n+1,h=>by
  have⟨v,r,rfl,a,b⟩:=h;show⟨v,r.take n,rfl,a,b.take n⟩
theorem ar.drop:∀{us:List U}{vs:List V} (n:Nat),ar C S H us vs->ar C S H (us.drop n) (vs.drop n)
 |_,_,0,h=>h
 |[],_,n+1,h=>by cases h;simp[ar]
 |u::us,vs,n+1,h=>by
  have⟨v,r,rfl,b,a⟩:=h;show a.drop n
theorem ar.set:∀{us:List U}{vs:List V} (n:Nat) {u:U}{v:V},ar C S H us vs->Rep C S H u v->ar C S H (us.set n u) (vs.set n v)
 |[],_,n,_,_,h,_=>by cases h;simp[ar]
 |u::us,vs,0,_,_,h,h'=>by
  have⟨v,r,rfl,b,a⟩:=h;show⟨_,r,rfl,h',a⟩
 |u::us,vs,n+1,_,_,h,h'=>by
  have⟨v,r,rfl,b,a⟩:=h;show⟨v,_,rfl,b,a.set n h'⟩
def ar.snoc(h:ar C S H us vs)(h':Rep C S H u v):ar C S H (us++[u]) (vs++[v]):=h.append ⟨v,[],rfl,h',rfl⟩
theorem ar.strs:∀{xs:List Str}{vs:List V},ar C S H (xs.map .str) vs↔vs=xs.map V.str
 |[],vs=>by simp[ar]
 |x::xs,vs=>by
  constructor
  .rintro⟨v,r,rfl,a,b⟩;rw[ar.strs.mp b];have:v=.str x:=a;rw[this];rfl
  .rintro rfl;show⟨_,_,rfl,rfl,ar.strs.mpr rfl⟩
end
structure Ct.Eqv(C C':Ct):Prop where
 P:C.P=C'.P
 w:C.w=C'.w
 K:C.K=C'.K
section
mutual
theorem Rep.Nb(q:C.Eqv d):∀(u:U) (v:V),Rep C S H u v->Rep d S H u v
 |.HX,_,h=>h
 |.bl _,_,h=>h
 |.int _,_,h=>h
 |.str _,_,h=>h
 |.tup us,v,h=>by
  have⟨a,vs,e,b,c⟩:=h;show⟨a,vs,e,q.K▸b,ar.Nb q us vs c⟩
 |.lst us,v,h=>by
  have⟨a,vs,e,b,c⟩:=h;show⟨a,vs,e,q.K▸b,ar.Nb q us vs c⟩
 |.HP ks us,v,h=>by
  have⟨a,e,b,c⟩:=h;show⟨a,e,b,c.mv (λ_ q=>q) λvs z=>ar.Nb q us vs z⟩
 |.ob _ _,_,h=>Lb h
theorem ar.Nb(q:C.Eqv a):∀(us:List U) (vs:List V),ar C S H us vs->ar a S H us vs
 |[],_,h=>h
 |u::us,vs,h=>by
  have⟨v,r,e,b,c⟩:=h;show⟨v,r,e,Rep.Nb q u v b,ar.Nb q us r c⟩
end
def Rep.cg(q:C.Eqv a)(h:Rep C S H u v):Rep a S H u v:=Rep.Nb q u v h
def ar.cg(q:C.Eqv a)(h:ar C S H us vs):ar a S H us vs:=ar.Nb q us vs h
end
def cO(C:Ct)(S:hH->Prop)(H:Hp)(r:hH):U->Prop
 |.lst us=>∃vs,H r=a5 (.lst vs)/\ar C S H us vs
 |.HP ks us=>M' H (ar C S H us) r ks
 |_=>False
def cO.mv(m:Mv S H S' H')(a:∀o,H r=a5 o->H' r=a5 o)(h:cO C S H r u):cO C S' H' r u:=by
 cases u with
 |lst us=>have⟨vs,b,c⟩:=h;show⟨vs,a _ b,c.mv m⟩
 |HP ks us=>show M'.mv a (λvs q=>q.mv m) h
 |_=>show h
def cO.rep(hs:∀a,S a->S' a)(b:S' r)(h:cO C S H r u):Rep C S' H u (.ref r):=by
 cases u with
 |lst us=>have⟨vs,c,d⟩:=h;show⟨r,vs,rfl,.inl ⟨b,.inl c⟩,d.mv (.up hs)⟩
 |HP ks us=>show⟨r,rfl,b,M'.mv (λ_ q=>q) (λvs q=>q.mv (.up hs)) h⟩
 |_=>show h.elim
def cO.cg(q:C.Eqv a)(h:cO C S H r u):cO a S H r u:=by
 cases u with
 |lst us=>have⟨vs,b,c⟩:=h;show⟨vs,b,c.cg q⟩
 |HP ks us=>show M'.mv (λ_ q=>q) (λvs z=>z.cg q) h
 |_=>show h
def cO.some(h:cO C S H r u):∃o,H r=a5 o/\¬Tp o:=by
 cases u with
 |lst us=>obtain⟨vs,a,_⟩:=h;show⟨_,a,λz=>z⟩
 |HP ks us=>obtain⟨kvs,a,_⟩:=h;show⟨_,a,λz=>z⟩
 |_=>show h.elim
structure Cf where
 S:hH->Prop
 H:Hp
 σ:St
 st:au
 kid:Nat->List hH
abbrev Cf.R1(c:Cf)(a:hH):Prop:=∃(j:Nat) (k:Kd) (u:U),k.root=bD/\c.st[j]?=a5 (a5 (k,u))/\c.σ[j]?=a5 (a5 (.ref a))
abbrev Cf.RD(c:Cf)(j:Nat)(a:hH):Prop:=∃(u:U) (r:hH),c.st[j]?=a5 (a5 (.A',u))/\c.σ[j]?=a5 (a5 (.ref r))/\(a=r\/a∈c.kid j)
abbrev Cf.R(c:Cf)(a:hH):Prop:=c.R1 a\/∃j,c.RD j a
abbrev PS(C:Ct)(S:hH->Prop):hH->Prop:=λa=>C.JG a\/S a
def fO(C:Ct)(S:hH->Prop)(H:Hp):Kd->U->V->Prop
 |.own,u,v=>∃r,v=.ref r/\¬S r/\¬C.JG r/\C.H₀ r=b6/\cO C S H r u
 |.io,u,v=>∃r,v=.ref r/\¬S r/\¬C.JG r/\C.IO r/\cO C S H r u
 |.loc,u,v=>Rep C S H u v
 |.any,u,v=>Rep C (PS C S) H u v
 |.bor _,_,_=>False
 |.A',_,v=>∃r,v=.ref r
def di(C:Ct)(S:hH->Prop)(H:Hp):List U->List hH->Prop
 |[],as=>as=[]
 |u::us,as=>∃a as' ys vs,as=a::as'/\u=.lst ys/\H a=a5 (.lst vs)/\ar C S H ys vs/\di C S H us as'
abbrev Lv(K:PySem.W.Frag)(cl:hH):Prop:=PySem.W.nsIn K oT "Shelf"=a5 (a5 (.ref cl))
abbrev MA(v:V)(a:hH):List (Str×V):=[("rows",v),("earlier",.ref a)]
structure Nc(C:Ct)(S:hH->Prop)(H:Hp)(r a:hH)(u:U)(us:List U)(cl dx:hH)(v:V)(vs:List V):Prop where
 hc:Lv C.K cl
 ins:H r=a5 (.ins cl dx (MA v a))
 ne:r≠a
 fr:∀x∈[r,a],¬S x/\¬C.JG x/\(C.H₀ x=b6\/C.IO x)
 im:Ig u=bD
 rep:Rep C S H u v
 lst:H a=a5 (.lst vs)
 NT:cE us=bD
 JA:ar C S H us vs
def bf(C:Ct)(S:hH->Prop)(H:Hp)(r:hH)(as:List hH):U->Prop
 |.HP ks us=>∃kvs:List (Key×V),H r=a5 (.dK kvs)/\kvs.map (·.1)=ks.map sL/\kvs.map (·.2)=as.map V.ref/\(r::as).Nodup/\(∀a∈r::as,¬S a/\¬C.JG a/\C.H₀ a=b6)/\di C S H us as
 |.ob u us=>∃cl b v a vs,as=[a]/\Nc C S H r a u us cl b v vs
 |_=>False
structure K9(C:Ct)(c:Cf):Prop where
 kd:∀(j:Nat) (u:U) (r:hH),c.st[j]?=a5 (a5 (.A',u))->c.σ[j]?=a5 (a5 (.ref r))->bf C c.S c.H r (c.kid j) u
 dj:∀(i j:Nat) (a:hH),c.RD i a->c.RD j a->i=j
 d1:∀(j:Nat) (a:hH),c.RD j a->¬c.R1 a
structure Ok(C:Ct)(c:Cf):Prop where
 same:∀a o,C.H₀ a=a5 o->¬C.IO a->c.H a=a5 o
 JY:∀a,c.S a->C.H₀ a=b6/\∃o,c.H a=a5 o
 par:∀a,C.JG a->(∃o,C.H₀ a=a5 o)/\¬C.IO a
 io:∀a,C.IO a->(∃o,C.H₀ a=a5 o)/\∃o,c.H a=a5 o
 len:c.st.length=c.σ.length
 sl:∀(i:Nat) (k:Kd) (u:U),c.st[i]?=a5 (a5 (k,u))->∃v,c.σ[i]?=a5 (a5 v)/\fO C c.S c.H k u v
 inj:∀(i j:Nat) (k k':Kd) (u u':U) (r:hH),k.root=bD->k'.root=bD->c.st[i]?=a5 (a5 (k,u))->c.st[j]?=a5 (a5 (k',u'))->c.σ[i]?=a5 (a5 (.ref r))->c.σ[j]?=a5 (a5 (.ref r))->i=j
 dd:K9 C c
structure Ns(c c':Cf):Prop where
 keep:∀a o,c.H a=a5 o->¬c.R a->c'.H a=a5 o
 there:∀a o,c.H a=a5 o->∃o',c'.H a=a5 o'
 roots:∀a,c'.R a->c.R a\/c.H a=b6
 sub:∀a,c.S a->c'.S a
 new:∀a,c'.S a->c.S a\/c.R a\/c.H a=b6
section
def Ns.refl(c:Cf):Ns c c:=⟨λ_ _ h _=>h,λ_ o h=>⟨o,h⟩,λ_ h=>.inl h,λ_ h=>h,λ_ h=>.inl h⟩
def Ns.none(n:Ns c b)(h:b.H a=.none):c.H a=.none:=by
 cases e:c.H a with
 |none=>rfl
 |some o=>have⟨o',q⟩:=n.there a o e;rw[h]at q;cases q
def Ns.trans(m:Ns c d)(n:Ns d e):Ns c e where
 keep:=λa o h b=>by
  show n.keep a o (m.keep a o h b) λz=>?_;rcases m.roots a z with z|z
  .show b z
  .rw[h]at z;cases z
 there:=λa o h=>let ⟨o',h'⟩:=m.there a o h;n.there a o' h'
 roots:=λa h=>by
  rcases n.roots a h with z|z
  .show m.roots a z
  .show .inr (m.none z)
 sub:=λa h=>n.sub a (m.sub a h)
 new:=λa h=>by
  rcases n.new a h with z|z|z
  .show m.new a z
  .rcases m.roots a z with z|z
   .show .inr (.inl z)
   .show .inr (.inr z)
  .show .inr (.inr (m.none z))
def fO.rt(hk:k.root=bD)(h:fO C S H k u v):∃r,v=.ref r/\¬S r/\¬C.JG r/\(C.H₀ r=b6\/C.IO r)/\cO C S H r u:=by
 cases k with
 |own=>have⟨r,a,b,c,d,e⟩:=h;show⟨r,a,b,c,.inl d,e⟩
 |io=>have⟨r,a,b,c,d,e⟩:=h;show⟨r,a,b,c,.inr d,e⟩
 |_=>cases hk
theorem di.mem:∀{us:List U}{as:List hH}{a:hH},di C S H us as->a∈as->∃vs,H a=a5 (.lst vs)
 |[],as,a,h,ha=>by cases h;cases ha
 |u::us,as,a,h,ha=>by
  obtain⟨a',as',ys,vs,rfl,_,b,_,c⟩:=h;rcases gj.mp ha with rfl|ha
  .show⟨vs,b⟩
  .show di.mem c ha
theorem di.mv(m:Mv S H S' H'):∀{us:List U}{as:List hH},(∀a∈as,∀o,H a=a5 o->H' a=a5 o)->di C S H us as->di C S' H' us as
 |[],as,_,h=>h
 |u::us,as,b,h=>by
  have⟨a,as',ys,vs,rfl,e,c,d,f⟩:=h;show⟨a,as',ys,vs,rfl,e,b a (by simp) _ c,d.mv m,di.mv m (λa g=>b a (by simp[g])) f⟩
def bf.fr(h:bf C S H r as u):∀a∈r::as,¬S a/\¬C.JG a/\(C.H₀ a=b6\/C.IO a):=by
 cases u<;>first|show h.elim|(obtain⟨kvs,_,_,_,_,b,_⟩:=h;show λa c=>let ⟨p,q,r⟩:=b a c;⟨p,q,.inl r⟩)|(obtain⟨_,_,_,_,_,rfl,h⟩:=h;show h.fr)
def bf.S3(h:bf C S H r as (.HP ks us)):∀a∈r::as,¬S a/\¬C.JG a/\C.H₀ a=b6:=by
 obtain⟨kvs,_,_,_,_,b,_⟩:=h;show b
def bf.there(h:bf C S H r as u):∀a∈r::as,∃o,H a=a5 o/\¬Tp o:=by
 cases u<;>first|show h.elim|(obtain⟨_,_,_,a,_,rfl,h⟩:=h;intro x hx;rcases gj.mp hx with rfl|hx;show⟨_,h.ins,λz=>z⟩;rw[nc.mp hx];show⟨_,h.lst,λz=>z⟩)|skip
 obtain⟨kvs,b,_,_,_,_,c⟩:=h;intro a ha;rcases gj.mp ha with rfl|ha
 .show⟨_,b,λz=>z⟩
 .have⟨vs,e⟩:=c.mem ha;show⟨_,e,λz=>z⟩
def bf.mv(m:Mv S H S' H')(b:∀a∈r::as,¬S' a/\∀o,H a=a5 o->H' a=a5 o)(h:bf C S H r as u):bf C S' H' r as u:=by
 cases u<;>first|show h.elim|(have⟨cl,e,v,a,vs,rfl,h⟩:=h;show⟨cl,e,v,a,vs,rfl,h.hc,(b r (by simp)).2 _ h.ins,h.ne,λx d=>⟨(b x d).1,(h.fr x d).2⟩,h.im,h.rep.mv m,(b a (by simp)).2 _ h.lst,h.NT,h.JA.mv m⟩)|skip
 have⟨kvs,f,g,i,j,k,l⟩:=h;show⟨kvs,(b r (by simp)).2 _ f,g,i,j,λa c=>⟨(b a c).1,(k a c).2⟩,l.mv m λa c=>(b a (by simp[c])).2⟩
def K9.of(d:K9 C c)(hk:b.kid=c.kid)(l:∀(j:Nat) (u:U),b.st[j]?=a5 (a5 (.A',u))->c.st[j]?=a5 (a5 (.A',u))/\b.σ[j]?=c.σ[j]?)(p:∀a,b.R1 a->c.R1 a\/∀j,¬c.RD j a)
  (m:Mv c.S c.H b.S b.H) (q:∀j a,c.RD j a->¬b.S a/\∀o,c.H a=a5 o->b.H a=a5 o):K9 C b:=by
 have back:∀j a,b.RD j a->c.RD j a:=λj a s=>by
  have⟨u,r,g,e2,n⟩:=s;have⟨e,h⟩:=l j u g;rw[h]at e2;rw[hk]at n;show⟨u,r,e,e2,n⟩
 show⟨λj u r g e2=>?_,λi j a f k=>d.dj i j a (back i a f) (back j a k),λj a f k=>?_⟩
 .have⟨e,h⟩:=l j u g;rw[h]at e2;rw[hk];show bf.mv m (λa t=>q j a ⟨u,r,e,e2,gj.mp t⟩) (d.kd j u r e e2)
 .rcases p a k with z|z
  .show d.d1 j a (back j a f) z
  .show z j (back j a f)
def K9.hs(d:K9 C c)(m:Mv c.S c.H S' H')(b:∀j a,c.RD j a->¬S' a/\∀o,c.H a=a5 o->H' a=a5 o):K9 C {c with H:=H',S:=S' } :=
 d.of rfl (λ_ _ e=>⟨e,rfl⟩) (λ_ z=>.inl z) m b
def Ok.root(f:Ok C c)(h:c.R r):¬c.S r/\¬C.JG r/\(C.H₀ r=b6\/C.IO r)/\∃o,c.H r=a5 o/\¬Tp o:=by
 rcases h with⟨j,k,u,hk,b,d⟩|⟨j,u,g,b,d,a⟩
 .have⟨v,e,hs⟩:=f.sl j _ _ b;have⟨g,ev,a,l,m,n⟩:=hs.rt hk;rw[d]at e;cases e;cases ev;show⟨a,l,m,n.some⟩
 .have i:=f.dd.kd j u g b d;have⟨p,q,s⟩:=bf.fr i r (gj.mpr a);show⟨p,q,s,bf.there i r (gj.mpr a)⟩
def Ok.mv(b:Ok C c)(n:Ns c d):Mv c.S c.H d.S d.H:=⟨n.sub,λa o h t=>n.keep a o h λz=>by
  obtain⟨_,_,_,o',h',e⟩:=b.root z;rw[h]at h';cases h';show e t,λa o s h=>n.keep a o h λz=>(b.root z).1 s⟩
def Ok.MB(b:Ok C c)(n:Ns c d):Mv (PS C c.S) c.H (PS C d.S) d.H:=⟨λa h=>h.imp id (n.sub a),(b.mv n).OF,λa o s h=>n.keep a o h λz=>by
  rcases s with s|s
  .show(b.root z).2.1 s
  .show(b.root z).1 s⟩
def Ok.gO(a:Ok C c)(h:c.H p=b6):C.H₀ p=b6/\¬c.S p/\¬C.JG p/\¬C.IO p/\¬c.R p:=by
 have b:¬C.IO p:=λz=>by obtain⟨_,o,q⟩:=a.io p z;rw[h]at q;cases q
 have d:C.H₀ p=b6:=by
  cases e:C.H₀ p with
  |none=>rfl
  |some o=>have:=a.same p o e b;rw[h]at this;cases this
 show⟨d,λz=>?_,λz=>?_,b,λz=>?_⟩
 .obtain⟨_,o,q⟩:=a.JY p z;rw[h]at q;cases q
 .obtain⟨⟨o,q⟩,_⟩:=a.par p z;rw[d]at q;cases q
 .obtain⟨_,_,_,o,q,_⟩:=a.root z;rw[h]at q;cases q
def fO.mv(m:Mv S H S' H')(i:Mv (PS C S) H (PS C S') H')(g:k.root=bD->∀r,v=.ref r->¬S' r/\∀o,H r=a5 o->H' r=a5 o)(h:fO C S H k u v):fO C S' H' k u v:=by
 cases k with
 |own =>
  have⟨r,e,l,a,b,c⟩:=h;have⟨d,f⟩:=g rfl r e;show⟨r,e,d,a,b,c.mv m f⟩
 |io =>
  have⟨r,e,l,a,b,c⟩:=h;have⟨d,f⟩:=g rfl r e;show⟨r,e,d,a,b,c.mv m f⟩
 |loc=>show Rep.mv m h
 |any=>show Rep.mv i h
 |bor j=>show h.elim
 |A'=>show h
structure Nx(c c':Cf):Prop extends Ns c c' where
instance {c a:Cf}:Coe (Nx c a) (Ns c a):=⟨Nx.toNs⟩
def Nx.refl(c:Cf):Nx c c:=⟨.refl c⟩
def Nx.trans(m:Nx c a)(n:Nx a b):Nx c b:=⟨m.toNs.trans n.toNs⟩
def Nx.none(n:Nx c b)(h:b.H a=.none):c.H a=.none:=n.toNs.none h
def Ok.lay(b:Ok C c)(h:c.H p=b6):Ok C {c with H:=upd c.H p o}/\Nx c {c with H:=upd c.H p o}:=by
 have g:∀{a:hH} {o':HO},c.H a=a5 o'->a≠p:=λe z=>by subst z;rw[h]at e;cases e
 have d:∀a o',c.H a=a5 o'->(upd c.H p o) a=a5 o':=λa o' e=>by rw[ak (g e)];show e
 have nx:Nx c {c with H:=upd c.H p o}:=⟨⟨λa o' e _=>d a o' e,λa o' e=>⟨o',d a o' e⟩,λa z=>.inl z,λ_ z=>z,λ_ z=>.inl z⟩⟩
 show⟨⟨λa o' e z=>d a o' (b.same a o' e z),λa z=>⟨(b.JY a z).1,let ⟨o',q⟩:=(b.JY a z).2;⟨o',d a o' q⟩⟩,b.par,λa z=>⟨(b.io a z).1,let ⟨o',q⟩:=(b.io a z).2;⟨o',d a o' q⟩⟩,b.len,λi k u e=>?_,b.inj,b.dd.hs (b.mv nx.toNs) λj a z=>⟨(b.root (.inr ⟨j,z⟩)).1,λo' e=>d a o' e⟩⟩,nx⟩;have⟨v,l,e2⟩:=b.sl i k u e;show⟨v,l,e2.mv (b.mv nx.toNs) (b.MB nx.toNs) λhk r m=>?_⟩;obtain⟨s,f,n,_⟩:=e2.rt hk;rw[m]at f;cases f;show⟨n,λo' e=>d r o' e⟩
def Ok.grow(b:Ok C c)(hs:pF c.H H')(g:∀a,S' a->c.S a\/(c.H a=b6/\∃o,H' a=a5 o))(n:∀a,c.S a->S' a):Ok C {c with H:=H',S:=S' }/\Nx c {c with H:=H',S:=S' }:=by
 have nx:Nx c {c with H:=H',S:=S' }:=⟨⟨λa o' e _=>hs a o' e,λa o' e=>⟨o',hs a o' e⟩,λa z=>.inl z,n,λa z=>(g a z).imp id λq=>.inr q.1⟩⟩
 show⟨⟨λa o' e z=>hs a o' (b.same a o' e z),λa z=>?_,b.par,λa z=>⟨(b.io a z).1,let ⟨o',q⟩:=(b.io a z).2;⟨o',hs a o' q⟩⟩,b.len,λi k u e=>?_,b.inj,b.dd.hs (b.mv nx.toNs) λj a z=>⟨λd=>?_,λo' e=>hs a o' e⟩⟩,nx⟩
 rotate_left 2
 .obtain⟨f,_,_,o,h,_⟩:=b.root (.inr ⟨j,z⟩);rcases g a d with d|⟨d,_⟩
  .show f d
  .rw[h]at d;cases d
 .rcases g a z with q|⟨f,l⟩
  .show⟨(b.JY a q).1,let ⟨o',q⟩:=(b.JY a q).2;⟨o',hs a o' q⟩⟩
  .show⟨(b.gO f).1,l⟩
 .have⟨v,p,e2⟩:=b.sl i k u e;show⟨v,p,e2.mv (b.mv nx.toNs) (b.MB nx.toNs) λhk r s=>?_⟩;have⟨t,m,f,l,w,h⟩:=e2.rt hk;rw[s]at m;cases m;obtain⟨o,ho,_⟩:=h.some;show⟨λz=>?_,λo' e=>hs r o' e⟩;rcases g r z with z|⟨z,_⟩
  .show f z
  .rw[z]at ho;cases ho
def aH(C:Ct)(c0 c:Cf):Kd->U->V->Prop
 |.own,u,v=>∃r,v=.ref r/\c0.H r=b6/\¬c.S r/\¬c.R r/\cO C c.S c.H r u
 |.loc,u,v=>Rep C c.S c.H u v
 |.any,u,v=>Rep C (PS C c.S) c.H u v
 |.bor j,u,v=>(∃k:Kd,k.root=bD/\c.st[j]?=a5 (a5 (k,u)))/\c.σ[j]?=a5 (a5 v)
 |.io,_,_=>False
 |.A',_,_=>False
def fP(C:Ct)(c0 c:Cf):Kd->U->V->Prop
 |.own,u,v=>∃r,v=.ref r/\c0.H r=b6/\¬c.S r/\¬c.R r/\cO C c.S c.H r u
 |.loc,u,v=>Rep C c.S c.H u v
 |.any,u,v=>Rep C (PS C c.S) c.H u v
 |.bor j,u,v=>c.σ[j]?=a5 (a5 v)
 |.io,_,_=>False
 |.A',_,_=>False
def aH.w(h:aH C c0 c k u v):fP C c0 c k u v:=by
 cases k with
 |bor j=>show h.2
 |_=>show h
def fP.U7(a:Ok C c)(n:Ns c b)(g:∀j,k=.bor j->b.σ[j]?=c.σ[j]?)(h:fP C c0 c k u v):fP C c0 b k u v:=by
 cases k with
 |own =>
  have⟨r,e,i,l,d,f⟩:=h;obtain⟨o,ho,_⟩:=f.some;show⟨r,e,i,λz=>?_,λz=>?_,f.mv (a.mv n) λo q=>n.keep r o q d⟩
  .rcases n.new r z with z|z|z
   .show l z
   .show d z
   .rw[z]at ho;cases ho
  .rcases n.roots r z with z|z
   .show d z
   .rw[z]at ho;cases ho
 |loc=>show Rep.mv (a.mv n) h
 |any=>show Rep.mv (a.MB n) h
 |bor j=>change b.σ[j]?=_;rw[g j rfl];show h
 |_=>show h
def fP.on(b:Ok C c)(n:Ns c a)(d:a.σ=c.σ)(h:fP C c0 c k u v):fP C c0 a k u v:=h.U7 b n λj _=>by rw[d]
def fP.from(n:Ns c0 a)(h:fP C a c k u v):fP C c0 c k u v:=by
 cases k with
 |own=>have⟨r,e,b,d⟩:=h;show⟨r,e,n.none b,d⟩
 |_=>show h
def aH.from(n:Ns c0 a)(h:aH C a c k u v):aH C c0 c k u v:=by
 cases k with
 |own=>have⟨r,e,b,d⟩:=h;show⟨r,e,n.none b,d⟩
 |_=>show h
def SK(C:Ct)(c:Cf):Kd->hH->Prop
 |.any=>PS C c.S
 |_=>c.S
abbrev kE:Kd->Kd
 |.any=>.any
 |_=>.loc
def Ok.rootOf(b:Ok C c){j:Nat}(h:∃k:Kd,k.root=bD/\c.st[j]?=a5 (a5 (k,u)))(e:c.σ[j]?=a5 (a5 v)):∃r,v=.ref r/\¬c.S r/\¬C.JG r/\(C.H₀ r=b6\/C.IO r)/\cO C c.S c.H r u:=by
 have⟨k,hk,h⟩:=h;have⟨v',a,e2⟩:=b.sl j _ _ h;rw[e]at a;cases a;show e2.rt hk
def aH.list(f:Ok C c)(h:aH C c0 c k (.lst us) v):∃a vs,v=.ref a/\IF C.K c.H a vs/\ar C (SK C c k) c.H us vs:=by
 cases k with
 |own=>obtain⟨r,e,_,_,_,vs,b,d⟩:=h;show⟨r,vs,e,IF.of b,d⟩
 |bor j=>obtain⟨r,e,_,_,_,vs,b,d⟩:=f.rootOf h.1 h.2;show⟨r,vs,e,IF.of b,d⟩
 |io=>show h.elim
 |A'=>show h.elim
 |_=>have⟨a,vs,e,b,d⟩:=h;show⟨a,vs,e,b.sq,d⟩
def aH.tuple(b:Ok C c)(h:aH C c0 c k (.tup us) v):∃a vs,v=.ref a/\II C.K c.H a vs/\ar C (SK C c k) c.H us vs:=by
 cases k with
 |own=>obtain⟨r,e,_,_,_,h⟩:=h;show h.elim
 |bor j=>obtain⟨r,e,_,_,_,h⟩:=b.rootOf h.1 h.2;show h.elim
 |io=>show h.elim
 |A'=>show h.elim
 |_=>have⟨a,vs,e,d,f⟩:=h;show⟨a,vs,e,d,f⟩
def aH.flat(b:Ok C c)(a:Ig u=bD)(h:aH C c0 c k u v):Rep C c.S c.H u v:=by
 cases k with
 |own=>obtain⟨r,e,_,_,_,h⟩:=h;cases u<;>simp[Ig]at a<;>show h.elim
 |loc=>show h
 |any=>show Rep.Ig a h
 |bor j=>obtain⟨r,e,_,_,_,h⟩:=b.rootOf h.1 h.2;cases u<;>simp[Ig]at a<;>show h.elim
 |_=>show h.elim
def aH.int(a:Ok C c)(h:aH C c0 c k (.int i) v):v=.int i:=h.flat a rfl
def aH.str(a:Ok C c)(h:aH C c0 c k (.str x) v):v=.str x:=h.flat a rfl
def aH.bl(a:Ok C c)(h:aH C c0 c k (.bl b) v):v=.bl b:=h.flat a rfl
def aH.item(h:Rep C (SK C c k) c.H u v):aH C c0 c (kE k) u v:=by
 cases k<;>show h
abbrev JH(H:Hp):hH->Prop:=λa=>∃o,H a=a5 o
def Ok.vi(b:Ok C c):∀a,c.S a->JH c.H a:=λa h=>(b.JY a h).2
def Ok.DH(b:Ok C c):∀a,PS C c.S a->JH c.H a:=λa h=>by
 rcases h with h|h
 .obtain⟨⟨o,e⟩,n⟩:=b.par a h;show⟨o,b.same a o e n⟩
 .show b.vi a h
def aH.read(a:Ok C c)(h:aH C c0 c k u v):Rep C (JH c.H) c.H u v:=by
 cases k with
 |own =>
  obtain⟨r,e,_,_,_,b⟩:=h;rw[e];obtain⟨o,ho,_⟩:=b.some;show b.rep a.vi ⟨o,ho⟩
 |loc=>show Rep.mv (.up a.vi) h
 |any=>show Rep.mv (.up a.DH) h
 |bor j =>
  obtain⟨r,e,_,_,_,b⟩:=a.rootOf h.1 h.2;rw[e];obtain⟨o,ho,_⟩:=b.some;show b.rep a.vi ⟨o,ho⟩
 |_=>show h.elim
def Ok.newList(a:Ok C c)(n:Nx c0 c)(h:c.H p=b6)(d:ar C c.S c.H us vs):
  Ok C {c with H:=upd c.H p (.lst vs)}/\Nx c0 {c with H:=upd c.H p (.lst vs)}/\aH C c0 {c with H:=upd c.H p (.lst vs)} .own (.lst us) (.ref p):=by
 have⟨e,b⟩:=a.lay (o:=.lst vs) h;have⟨i,f,j,k,g⟩:=a.gO h;show⟨e,n.trans b,p,rfl,n.none h,f,g,vs,aq,d.mv (a.mv b.toNs)⟩
def Ok.DI(a:Ok C c)(n:Nx c0 c)(h:c.H p=b6)(d:ar C c.S c.H us vs):
  Ok C {c with H:=upd c.H p (.tup vs)}/\Nx c0 {c with H:=upd c.H p (.tup vs)}/\aH C c0 {c with H:=upd c.H p (.tup vs)} .loc (.tup us) (.ref p):=by
 have⟨e,b⟩:=a.lay (o:=.tup vs) h;show⟨e,n.trans b,p,vs,rfl,II.of aq,d.mv (a.mv b.toNs)⟩
end
inductive Ex(α:Type) where|ok (a:α)|exc (c:Str)
abbrev M(α:Type):=au->Option (Ex α×au)
namespace M
abbrev pure(a:α):M α:=λst=>a5 (.ok a,st)
abbrev fail:M α:=λ_=>b6
abbrev bind(m:M α)(f:α->M β):M β:=λst=>match m st with
 |none=>b6
 |some (.ok a,st')=>f a st'
 |some (.exc c,st')=>a5 (.exc c,st')
abbrev Il(o:Option α):M α:=λst=>match o with
 |none=>b6
 |some a=>a5 (.ok a,st)
end M
noncomputable instance:Monad M:={pure:=M.pure,bind:=M.bind}
abbrev W{α:Type}(m:M α)(st:au)(Q:α->au->Prop):Prop:=∃a st',m st=a5 (.ok a,st')/\Q a st'
section
def ao:W (pure a) st Q↔Q a st:=by
 constructor
 .rintro⟨b,st',e,h⟩;cases e;show h
 .intro h;show⟨a,st,rfl,h⟩
def ah:W (m >>= f) st Q↔W m st λa st'=>W (f a) st' Q:=by
 constructor
 .rintro⟨b,st',e,h⟩;have d:M.bind m f st=a5 (.ok b,st'):=e;unfold M.bind at d;cases q:m st with
  |none=>rw[q]at d;cases d
  |some r =>
   have⟨r,s1⟩:=r;rw[q]at d;cases r with
   |ok a=>show⟨a,s1,q,b,st',d,h⟩
   |exc c=>cases d
 .rintro⟨a,s1,q,b,st',e,h⟩;show⟨b,st',?_,h⟩;change M.bind m f st=_;unfold M.bind;rw[q];show e
def cH:W (M.Il o) st Q↔∃a,o=a5 a/\Q a st:=by
 cases o with
 |none=>show⟨λ⟨_,_,e,_⟩=>(by cases e),λ⟨_,e,_⟩=>(by cases e)⟩
 |some a=>show⟨λ⟨_,_,e,h⟩=>(by cases e;show⟨a,rfl,h⟩),λ⟨_,e,h⟩=>(by cases e;show⟨a,st,rfl,h⟩)⟩
def ba:W (M.fail:M α) st Q↔False:=⟨λ⟨_,_,e,_⟩=>(by cases e),Lb⟩
def W.mono(h:W m st Q)(i:∀a s,Q a s->Q' a s):W m st Q':=let ⟨a,s,e,q⟩:=h;⟨a,s,e,i a s q⟩
end
inductive QS where|add|sub|mul|Kw|mod|pow
deriving DecidableEq
inductive PK where|eq|ne|lt|le|gt|ge|isin|HQ|is|S4
deriving DecidableEq
inductive Bf where|len|sorted|list|tuple|str|int|repr|max|min|all|any
deriving DecidableEq
inductive B2 where|LQ|LR|sset|iB
deriving DecidableEq
inductive Mf where|split|join|partition|endswith
deriving DecidableEq
inductive Xj where|str|list|tuple|int|bool
deriving DecidableEq
inductive Ik where|seq|IL|MC|Nd|zip|rev
deriving DecidableEq
inductive E where
 |var (i:Nat)
 |cst (u:U)
 |Kx (x:Str) (u:U)
 |bin (op:QS) (a b:E)
 |cmp (op:PK) (a b:E)
 |LU (o1 o2:PK) (a b c:E)
 |and (es:List E)|or (es:List E)|not (a:E)
 |ite (c a b:E)
 |tup (es:List E)|lst (es:List E)|JZ (r:Bool)
 |idx (a b:E)
 |Ky (a:E) (lo hi:List E)
 |bi (f:Bf) (es:List E)
 |Nf (f:B2) (es:List E)
 |KS (m:Mf) (a:E) (es:List E)
 |call (f:Str) (es:List E)
 |comp (k:Nat) (t:Bool) (ik:Ik) (src:List E) (cond:List E) (e:E)
 |neg (a:E)|bad|QT (a:E) (T:Xj)|fst (es:List E)|inD (neg:Bool) (a:E) (i:Nat)|OG (i:Nat)|Kz (i:Nat) (k d:E)|OH (i:Nat)|QU (ln:Bool) (a b:E)
 |LV (f:Str) (es:List E) (is:List Nat)
 |pop (i:Nat)|MD (i:Nat) (e:E)
 |Ng (a:E)
 |IS (i:Nat)|K_ (i:Nat)|J' (i:Nat)|jY (i:Nat)|IZ (f:Str) (i:Nat) (es IX:List E)|JK (f m:Str) (i:Nat) (es:List E)
inductive S where
 |set (i:Nat) (e:E)
 |K' (is:List Nat) (e:E)
 |put (i:Nat) (k v:E)
 |app (i:Nat) (e:E)|ext (i:Nat) (e:E)|bad|newD (i:Nat)|putD (i:Nat) (k v:E)|Ka (i:Nat) (k v:E)|aug (sub:Bool) (i:Nat) (k v:E)|QV (i:Nat)
 |exp (e:E)
 |ret (e:E)|ME
 |ite (c:E) (a b:List S)
 |Ip (t:Bool) (is:List Nat) (ik:Ik) (src:List E) (body:List S)
 |Mi (c:E) (body:List S)
 |brk|cnt|QW
 |PL (is:List Nat)
 |MF (c:Str) (e:E)
 |Kk (p:Nat)|J0 (i:Nat)|gM (i:Nat) (e:E)|La (i:Nat)|MG (y:Nat) (f m:Str) (i:Nat) (es:List E) (x c:Str) (j:Nat)
abbrev isAny:Kd->Bool
 |.any=>bD
 |_=>cb
abbrev iN(k:Kd)(xs:List U):Bool:=!isAny k||cE xs
abbrev kT(k k':Kd):Kd:=if isAny k||isAny k' then .any else .loc
abbrev cut{α:Type}(xs:List α)(lo hi:Option Int):List α:=(xs.drop (HT.Ia xs.length 0 lo)).take (HT.Ia xs.length xs.length hi - HT.Ia xs.length 0 lo)
abbrev vj:Kd×U->Kd×U->Option (Kd×U)
 |(_,.int i),(_,.int j)=>a5 (.loc,.int (i+j))
 |(_,.str x),(_,.str y)=>if x.length+y.length<=cL then a5 (.loc,.str (x++y)) else b6
 |(k,.lst xs),(k',.lst ys)=>if xs.length+ys.length<=cL/\iN k xs=bD/\iN k' ys=bD then a5 (.own,.lst (xs++ys)) else b6
 |(k,.tup xs),(k',.tup ys)=>if xs.length+ys.length<=cL then a5 (kT k k',.tup (xs++ys)) else b6
 |_,_=>b6
abbrev rG(f:Int->Int->Option Int):U->U->Option (Kd×U)
 |.int i,.int j=>(f i j).map λn=>(.loc,.int n)
 |_,_=>b6
abbrev As(i j:Int):Option Int:=if ((-(2 ^ 64)<i/\i<2 ^ 64)\/(-(2 ^ 64)<j/\j<2 ^ 64)) then a5 (i * j) else b6
abbrev Au(i j:Int):Option Int:=if 0<j/\j<1073741824 then a5 (i / j) else b6
abbrev Av(i j:Int):Option Int:=if 0<j then a5 (i % j) else b6
abbrev Aw(i j:Int):Option Int:=if 0<=j/\j<=1000000/\i.natAbs<2 ^ 64 then a5 (i ^ j.toNat) else b6
abbrev Kb(op:QS)(x y:Kd×U):Option (Kd×U):=match op with
 |.add=>vj x y
 |.sub=>rG (λi j=>a5 (i - j)) x.2 y.2
 |.mul=>rG As x.2 y.2
 |.Kw=>rG Au x.2 y.2
 |.mod=>rG Av x.2 y.2
 |.pow=>rG Aw x.2 y.2
mutual
noncomputable def I0:Nat->U->Bool
 |_,.HP _ _=>cb
 |_,.ob _ _=>cb
 |0,.tup _=>cb
 |0,.lst _=>cb
 |n+1,.tup xs=>cS n xs
 |n+1,.lst xs=>cS n xs
 |_,.HX=>bD|_,.bl _=>bD|_,.int _=>bD|_,.str _=>bD
noncomputable def cS:Nat->List U->Bool
 |_,[]=>bD
 |n,u::us=>I0 n u&&cS n us
end
mutual
noncomputable def cq:U->U->Bool
 |.HX,.HX=>bD
 |.bl a,.bl b=>a==b
 |.bl a,.int b=>(if a then 1 else 0)==b
 |.int a,.bl b=>a==(if b then 1 else 0)
 |.int a,.int b=>a==b
 |.str a,.str b=>a==b
 |.tup xs,.tup ys=>cT xs ys
 |.lst xs,.lst ys=>cT xs ys
 |_,_=>cb
noncomputable def cT:List U->List U->Bool
 |[],[]=>bD
 |u::us,w::ws=>cq u w&&cT us ws
 |_,_=>cb
end
abbrev Nh(x:U)(ys:List U):Option Bool:=if I0 50 x=bD/\cS 50 ys=bD then a5 (ys.any λy=>cq y x) else b6
abbrev OI(x y:Str):Bool:=!(wk y x 0 y.length 1).isEmpty
abbrev strsOf:List U->Option (List Str)
 |[]=>a5 []
 |.str x::us=>(strsOf us).map (x::·)
 |_::_=>b6
abbrev Ax:U->U->Option Bool
 |x,.lst ys=>Nh x ys
 |x,.tup ys=>Nh x ys
 |.str x,.str y=>a5 (OI x y)
 |.str x,.HP ks _=>a5 (cK (x∈ks))
 |_,_=>b6
abbrev dE:List Str->List U->Str->Option U
 |y::ks,u::us,x=>if y=x then a5 u else dE ks us x
 |_,_,_=>b6
abbrev dput(ks:List Str)(us:List U)(x:Str)(u:U):List Str×List U :=
 if x∈ks then(ks,(ks.zip us).map λp=>if p.1=x then u else p.2) else(ks++[x],us++[u])
abbrev bG:PK->U->U->Option Bool
 |.eq,a,b=>if I0 50 a=bD/\I0 50 b=bD then a5 (cq a b) else b6
 |.ne,a,b=>if I0 50 a=bD/\I0 50 b=bD then a5 (!cq a b) else b6
 |.lt,.int i,.int j=>a5 (cK (i<j))
 |.gt,.int i,.int j=>a5 (cK (j<i))
 |.ge,.int i,.int j=>a5 (cK (j<=i))
 |.isin,x,y=>Ax x y
 |.HQ,x,y=>(Ax x y).map (!·)
 |_,_,_=>b6
abbrev fQ:List U->Option (List Bool)
 |[]=>a5 []
 |.bl x::us=>(fQ us).map (x::·)
 |_::_=>b6
abbrev iO:Kd×U->U->Option (Kd×U)
 |(k,.lst xs),.int i=>(Iq xs i).map λu=>(kE k,u)
 |(k,.tup xs),.int i=>(Iq xs i).map λu=>(kE k,u)
 |(_,.str x),.int i=>if x.length<=cL then(Iq x.cps.toList i).map λc=>(.loc,.str ⟨#[c]⟩) else b6
 |_,_=>b6
abbrev kZ:Kd×U->Option Int->Option Int->Option (Kd×U)
 |(k,.lst xs),lo,hi=>if iN k xs=bD then a5 (.own,.lst (cut xs lo hi)) else b6
 |(k,.tup xs),lo,hi=>a5 (kE k,.tup (cut xs lo hi))
 |(_,.str x),lo,hi=>if x.length<=cL then a5 (.loc,.str (PySem.StrLaws.sliceText x lo hi)) else b6
 |_,_,_=>b6
abbrev Ay:U->Option Nat
 |.lst xs=>a5 xs.length
 |.tup xs=>a5 xs.length
 |.str x=>if x.length<=cL then a5 x.length else b6
 |_=>b6
mutual
noncomputable def gP:U->Option Á
 |.HX=>a5 .none
 |.bl b=>a5 (.bool b)
 |.int i=>a5 (.int i)
 |.str x=>a5 (.str x)
 |.tup us=>(jn us).map .tuple
 |.lst us=>(jn us).map .list
 |.HP _ _=>b6
 |.ob _ _=>b6
noncomputable def jn:List U->Option (List Á)
 |[]=>a5 []
 |u::us=>(gP u).bind λd=>(jn us).map (d::·)
end
abbrev Cn:U->Bool
 |.tup _=>bD
 |.lst _=>bD
 |_=>cb
abbrev tJ(u:U):Option (Kd×U):=(gP u).bind λd=>if d.showable=bD/\d.depth<=50/\d.shown.length<=cL/\Cn u=bD then a5 (.loc,.str d.shown) else b6
abbrev fR{β:Type}(f:Kd×U->Option β):List (Kd×U)->Option β
 |[x]=>f x
 |_=>b6
abbrev intsOf:List U->Option (List Int)
 |[]=>a5 []
 |.int x::us=>(intsOf us).map (x::·)
 |_::_=>b6
abbrev DJ:Kd×U->Option (Kd×U)
 |(_,.lst xs)=>(strsOf xs).bind λss=>if ss.length<64 then a5 (.own,.lst ((bu ss).map .str)) else b6
 |(_,.HP ks _)=>if ks.length<64 then a5 (.own,.lst ((bu ks).map .str)) else b6
 |(_,.tup xs)=>(strsOf xs).bind λss=>if ss.length<64 then a5 (.own,.lst ((bu ss).map .str)) else b6
 |_=>b6
abbrev DK:Kd×U->Option (Kd×U)
 |(k,.lst xs)=>if iN k xs=bD then a5 (.own,.lst xs) else b6
 |(k,.tup xs)=>if iN k xs=bD then a5 (.own,.lst xs) else b6
 |_=>b6
abbrev DL:Kd×U->Option (Kd×U)
 |(k,.lst xs)=>a5 (kE k,.tup xs)
 |(k,.tup xs)=>a5 (kE k,.tup xs)
 |_=>b6
abbrev xE:Kd×U->Option (Kd×U)
 |(_,.int i)=>if i.natAbs.log2<1920 then a5 (.loc,.str (Wf i)) else b6
 |_=>b6
abbrev DM:Kd×U->Option (Kd×U)
 |(_,.int i)=>if i.natAbs.log2<1920 then a5 (.loc,.str (Wf i)) else b6
 |(_,.lst xs)=>tJ (.lst xs)
 |(_,.tup xs)=>tJ (.tup xs)
 |_=>b6
abbrev DN:Kd×U->Option (Kd×U)
 |(_,.lst xs)=>(fQ xs).map λbs=>(.loc,.bl (bs.all id))
 |_=>b6
abbrev DO:Kd×U->Option (Kd×U)
 |(_,.lst xs)=>(fQ xs).map λbs=>(.loc,.bl (bs.any id))
 |_=>b6
abbrev Js(f:Bf)(rs:List (Kd×U)):Option (Kd×U):=match f with
 |.len=>fR (λx=>(Ay x.2).map λ(n:Nat)=>(Kd.loc,U.int (n:Int))) rs
 |.sorted=>fR DJ rs
 |.list=>fR DK rs
 |.tuple=>fR DL rs
 |.str=>fR xE rs
 |.repr=>fR DM rs
 |.all=>fR DN rs
 |.any=>fR DO rs
 |_=>b6
abbrev pW:U->Option (List Str)
 |.lst xs=>(strsOf xs).bind λss=>if ss.length+1<ND then a5 (br ss) else b6
 |.tup xs=>(strsOf xs).bind λss=>if ss.length+1<ND then a5 (br ss) else b6
 |_=>b6
abbrev vk(f:B2)(rs:List (Kd×U)):Option (Kd×U):=match f with
 |.LQ=>b6
 |.LR=>b6
 |.sset=>fR (λx=>(pW x.2).bind λss=>if ss.length<64 then a5 (.own,.lst ((bu ss).map .str)) else b6) rs
 |.iB=>fR (λx=>(pW x.2).map λss=>(.loc,.int ss.length)) rs
abbrev jX:Mf->U->List (Kd×U)->Option (Kd×U)
 |.split,.str a,[(_,.str b)]=>if (b.length==0)=cb/\a.length+2<=cL then a5 (.own,.lst ((Ql a b).map .str)) else b6
 |.join,.str a,[(_,.lst xs)]=>(strsOf xs).bind λss=>if ö a ss=bD then a5 (.loc,.str (VG a ss)) else b6
 |.endswith,.str a,[(_,.str b)]=>a5 (.loc,.bl (đ a b))
 |.partition,.str a,[(_,.str b)]=>if (b.length==0)=cb/\a.length<=cL then a5 (.loc,.tup [.str (ti a b).1,.str (ti a b).2.1,.str (ti a b).2.2]) else b6
 |_,_,_=>b6
abbrev Hy:Kd×U->Option (List (Kd×U))
 |(k,.lst xs)=>a5 (xs.map λu=>(kE k,u))
 |(k,.tup xs)=>a5 (xs.map λu=>(kE k,u))
 |(_,.str x)=>a5 (x.cps.toList.map λc=>(.loc,.str ⟨#[c]⟩))
 |_=>b6
abbrev vm:Kd×U->Option (List (Kd×U))
 |(_,.int n)=>if n<2 ^ 62/\-(2 ^ 62)<n then a5 ((i4 n.toNat).map λi:Nat=>(Kd.loc,U.int (0+(i:Int)))) else b6
 |_=>b6
abbrev DP:List (Kd×U)->Option (List (Kd×U))
 |[(_,.int lo),(_,.int hi)]=>if hi<2 ^ 62/\-(2 ^ 62)<lo/\lo<2 ^ 62/\-(2 ^ 62)<hi then a5 ((i4 (hi - lo).toNat).map λi:Nat=>(Kd.loc,U.int (lo+(i:Int)))) else b6
 |_=>b6
abbrev DQ:Kd×U->Option (List (Kd×U))
 |(k,.lst xs)=>a5 (xs.zipIdx.map λp=>(kE k,.tup [.int p.2,p.1]))
 |(k,.tup xs)=>a5 (xs.zipIdx.map λp=>(kE k,.tup [.int p.2,p.1]))
 |_=>b6
abbrev KA(ik:Ik)(rs:List (Kd×U)):Option (List (Kd×U)):=match ik with
 |.seq=>fR Hy rs
 |.IL=>fR vm rs
 |.MC=>DP rs
 |.Nd=>fR DQ rs
 |_=>b6
abbrev Az(ps:List (Str×Int)):List (Str×Int):=(jV (ps.map (·.1))).map λi=>ps.getD i (wh,0)
abbrev vn(p:Str×Int):U:=.tup [.str p.1,.int p.2]
abbrev xF:U->Option (Kd×U)
 |.HP ks us=>(intsOf us).bind λns=>if ks.length<64/\ks.Nodup/\ks.length=ns.length then a5 (.own,.lst ((Az (ks.zip ns)).map vn)) else b6
 |_=>b6
abbrev rH:U->Option Bool
 |.bl b=>a5 b
 |.lst xs=>a5 !xs.isEmpty
 |.tup xs=>a5 !xs.isEmpty
 |.str x=>if x.length<=cL then a5 ((x.length:Int) != 0) else b6
 |_=>b6
abbrev lift:Kd×U->M U
 |(.own,u)=>pure u
 |(.loc,u)=>pure u
 |(.any,u)=>if Ig u=bD then pure u else M.fail
 |(.bor j,_)=>λst=>match st[j]? with
  |some (a5 (.own,u))=>a5 (.ok u,st.set j (a5 (.loc,u)))
  |_=>b6
 |(.io,_)=>M.fail
 |(.A',_)=>M.fail
abbrev de:List (Kd×U)->M (List U)
 |[]=>pure []
 |r::rs=>do let u <-lift r;let us <-de rs;pure (u::us)
abbrev eG(i:Nat):Kd×U->M Unit
 |(.bor j,_)=>λst=>match st[j]? with
  |some (a5 (.own,u))=>a5 (.ok (),(st.set j (a5 (.loc,u))).set i (a5 (.loc,u)))
  |_=>b6
 |(.io,_)=>M.fail
 |(.A',_)=>M.fail
 |(k,u)=>λst=>a5 (.ok (),st.set i (a5 (k,u)))
def bo:List (Kd×U)->au->Prop
 |[],_=>True
 |(.bor j,u)::rs,st=>(∃k:Kd,k.root=bD/\st[j]?=a5 (a5 (k,u)))/\bo rs st
 |_::rs,st=>bo rs st
open Classical in
abbrev aw(rs:List (Kd×U)):M Unit:=λst=>if bo rs st then a5 (.ok (),st) else b6
@[reducible]def Tab:=Str->List U->Option (Ex (Kd×U))
abbrev k7(Γ:Tab)(f:Str)(us:List U):M (Kd×U):=λst=>match Γ f us with
 |some (.ok (.any,_))=>b6
 |none=>b6
 |some r=>a5 (r,st)
abbrev k8(rs:List (Kd×U))(p:Nat):Option Nat:=match rs[p]? with
 |some (.bor j,.lst us)=>if cE us=bD then a5 j else b6
 |_=>b6
abbrev Co(a:List (Option Nat)):Kd×U->Bool
 |(.bor j,_)=>cK (a5 j∉a)
 |_=>bD
abbrev Cp(rs:List (Kd×U))(is:List Nat):Bool:=is.all (λp=>(k8 rs p).isSome)&&cK ((is.map (k8 rs)).Nodup)&&(i4 rs.length).all λq=>cK (q∈is)||Co (is.map (k8 rs)) (rs.getD q (.loc,.HX))
abbrev tK(rs:List (Kd×U)):List Nat->List U->au->Option au
 |[],[],st=>a5 st
 |p::is,w::ws,st=>match k8 rs p with
  |some j=>match w,st[j]? with
   |.lst us,a5 (a5 (k,_))=>tK rs is ws (st.set j (a5 (k,.lst us)))
   |_,_=>b6
  |none=>b6
 |_,_,_=>b6
abbrev O6:Kd×U->Option (Kd×U×List U)
 |(.own,.tup (u::ws))=>a5 (.own,u,ws)
 |(.loc,.tup (u::ws))=>a5 (.loc,u,ws)
 |_=>b6
abbrev AA(st:au):Kd×U->Kd×U
 |(.bor j,u)=>(.bor j,match st[j]? with|some (a5 (k,u'))=>if k.root=bD then u' else u|_=>u)
 |r=>r
abbrev FK(rs:List (Kd×U)):M (List (Kd×U)):=λst=>a5 (.ok (rs.map (AA st)),st)
abbrev xG(Γ:Tab)(f:Str)(rs:List (Kd×U))(is:List Nat):M (Kd×U):=λst=>match Γ f (rs.map (·.2)) with
 |some (.ok r)=>match O6 r with
  |some (k,u,ws)=>if Cp rs is=bD then(match tK rs is ws st with|some st'=>a5 (.ok (k,u),st')|none=>b6) else b6
  |none=>b6
 |_=>b6
abbrev xH(i:Nat):M (Kd×U):=λst=>match st[i]? with
 |some (a5 (k,.lst us))=>if k.root=bD then(match us[us.length - 1]? with|some u=>a5 (.ok (.loc,u),st.set i (a5 (k,.lst us.dropLast)))|none=>b6) else b6
 |_=>b6
abbrev AB(i:Nat):U->M (Kd×U)
 |.int j=>λst=>match st[i]? with
  |some (a5 (k,.lst us))=>if k.root=bD/\0<=j/\j<1000000 then(match us[j.toNat]? with|some u=>a5 (.ok (.loc,u),st.set i (a5 (k,.lst (us.eraseIdx j.toNat))))|none=>b6) else b6
  |_=>b6
 |_=>M.fail
abbrev dg(i:Nat):M (Kd×U):=λst=>match st[i]? with
 |some (a5 (.A',_))=>b6
 |some (a5 (k,u))=>a5 (.ok (if k.root=bD then .bor i else k,u),st)
 |_=>b6
abbrev J1(i:Nat):M (U×List U):=λst=>match st[i]? with
 |some (a5 (.A',.ob u us))=>a5 (.ok (u,us),st)
 |_=>b6
abbrev MH(i:Nat)(f:U->List U->Option (U×List U)):M Unit:=λst=>match st[i]? with
 |some (a5 (.A',.ob u us))=>match f u us with
  |some (w,ws)=>if Ig w=bD/\cE ws=bD then a5 (.ok (),st.set i (a5 (.A',.ob w ws))) else b6
  |none=>b6
 |_=>b6
abbrev AD(u:U)(us:List U):Option (U×List U):=if us.length<cL then a5 (u,us++[u]) else b6
abbrev jY(i:Nat):M (Kd×U):=λst=>match st[i]? with
 |some (a5 (.A',.ob u us))=>match us[us.length - 1]? with
  |some w=>a5 (.ok (.loc,w),st.set i (a5 (.A',.ob u us.dropLast)))
  |none=>b6
 |_=>b6
abbrev fS{α:Type}(p:Nat)(o:α)(us:List α):List α:=us.take p++o::us.drop p
abbrev fT(Γ:Tab)(f:Str)(p i:Nat)(rs:List (Kd×U)):M (Kd×U):=λst=>match st[i]? with
 |some (a5 (.A',.ob u us))=>match Γ f (fS p (.ob u us) (rs.map (·.2))) with
  |some (.ok (k,.tup [w,.ob u' a]))=>if (k=.own\/k=.loc)/\p<=rs.length then a5 (.ok (k,w),st.set i (a5 (.A',.ob u' a))) else b6
  |_=>b6
 |_=>b6
abbrev mT(Γ:Tab)(f:Str)(i:Nat)(c:Str)(rs:List (Kd×U)):M Bool:=λst=>match st[i]? with
 |some (a5 (.A',.ob u us))=>match Γ f (.ob u us::rs.map (·.2)) with
  |some (.ok (k,.tup [w,.ob u' a]))=>match k,w with
   |.own,_=>a5 (.ok cb,st.set i (a5 (.A',.ob u' a)))
   |.loc,_=>a5 (.ok cb,st.set i (a5 (.A',.ob u' a)))
   |.io,.str b=>if b=c then a5 (.ok bD,st.set i (a5 (.A',.ob u' a))) else b6
   |_,_=>b6
  |_=>b6
 |_=>b6
abbrev gQ(i:Nat):M (List Str×List U):=λst=>match st[i]? with
 |some (a5 (.A',.HP ks us))=>a5 (.ok (ks,us),st)
 |_=>b6
abbrev iP(x:Kd×U):M Str:=match x.2 with
 |.str y=>pure y
 |_=>M.fail
abbrev PM(neg:Bool)(y:Str)(ks:List Str):Bool:=if neg=bD then !cK (y∈ks) else cK (y∈ks)
abbrev xI(i:Nat):M (Kd×U):=λst=>match st[i]? with
 |some (a5 (.A',.HP ks us))=>a5 (.ok (.bor i,.HP ks us),st.set i (a5 (.own,.HP ks us)))
 |_=>dg i st
abbrev Cq(i:Nat):M Unit:=λst=>a5 (.ok (),st.set i (a5 (.A',.HP [] [])))
abbrev k_(i:Nat)(y:Str):Kd×U->M Unit
 |(.own,.lst us)=>λst=>match st[i]? with
  |some (a5 (.A',.HP ks vs))=>if y∉ks/\ks.length<cL then a5 (.ok (),st.set i (a5 (.A',.HP (ks++[y]) (vs++[.lst us])))) else b6
  |_=>b6
 |_=>M.fail
abbrev jZ:List Str->List U->Str->U->List U
 |k::ks,v::vs,y,u=>if k=y then u::vs else v::jZ ks vs y u
 |_,vs,_,_=>vs
abbrev la(i:Nat)(y:Str)(u:U):M Unit:=λst=>match st[i]? with
 |some (a5 (.A',.HP ks vs))=>match dE ks vs y with
  |some (.lst xs)=>if xs.length<cL then a5 (.ok (),st.set i (a5 (.A',.HP ks (jZ ks vs y (.lst (xs++[u])))))) else b6
  |_=>b6
 |_=>b6
abbrev S8:U->M Unit
 |.HP _ _=>pure ()
 |_=>M.fail
abbrev AE(x:Kd×U)(y:Str)(u:U):Option (Kd×U):=match x with
 |(k,.HP ks us)=>a5 (match dE ks us y with|some v=>(kE k,v)|none=>(.loc,u))
 |_=>b6
abbrev pX(i:Nat):M (List U):=λst=>match st[i]? with
 |some (a5 (k,.lst us))=>if k.root=bD then a5 (.ok us,st) else b6
 |_=>b6
abbrev vp(x:Kd×U):M Int:=match x.2 with
 |.int j=>pure j
 |_=>M.fail
abbrev pY(us:List U)(j:Int):Option Int:=if 0<=j then(match us[j.toNat]? with|some (.int o)=>a5 o|_=>b6) else b6
abbrev vq(sub:Bool)(o w:Int):Int:=if sub=bD then o - w else o+w
abbrev Hz:U->Option U
 |.lst us=>a5 (.lst us.reverse)
 |_=>b6
abbrev sets:List Nat->List (Kd×U)->M Unit
 |[],[]=>pure ()
 |i::is,r::rs=>do eG i r;sets is rs
 |_,_=>M.fail
abbrev c7(t:Bool)(is:List Nat)(r:Kd×U):M Unit:=match t,is,r with
 |false,[i],r=>eG i r
 |true,is,(k,.tup xs)=>sets is (xs.map λu=>(kE k,u))
 |_,_,_=>M.fail
abbrev inScope{α:Type}(k:Nat)(m:M α):M α:=λst=>match m (mu k b6++st) with
 |none=>b6
 |some (r,st')=>a5 (r,st'.drop k)
abbrev bI(k:Nat)(t:Bool)(cond:M Bool)(elt:M (Kd×U))(src:List (Kd×U)):List (Kd×U)->List U->M (List U)
 |[],a=>do aw src;pure a
 |x::xs,a=>do
  aw src
  let r <-inScope k (c7 t (i4 k) x >>= λ_=>cond >>= λb=>if b=bD then(elt >>= λr=>lift r >>= λu=>pure (a5 u)) else pure b6)
  match r with
  |some u=>if a.length<cL then bI k t cond elt src xs (a++[u]) else M.fail
  |none=>bI k t cond elt src xs a
abbrev AF:Kd×U->Option (Kd×U)
 |(k,.tup xs)=>a5 (kE k,.tup xs.reverse)
 |_=>b6
abbrev AG:Kd×U->Option (Kd×U)
 |(_,.int i)=>a5 (.loc,.int (-i))
 |_=>b6
abbrev DR(x:Kd×U):M (Option Int):=match x.2 with
 |.int i=>pure (a5 i)
 |_=>M.fail
abbrev MI:U->M Unit
 |.lst _=>pure ()
 |_=>M.fail
section
variable(Γ:Tab)
mutual
noncomputable def ev:E->M (Kd×U)
 |.var i=>dg i
 |.cst u=>pure (.loc,u)
 |.Kx _ u=>pure (.loc,u)
 |.bin op a b=>do
  let x <-ev a
  let y <-ev b
  aw [x,y]
  M.Il (Kb op x y)
 |.cmp op a b=>do
  let x <-ev a
  let y <-ev b
  aw [x,y]
  let c <-M.Il (bG op x.2 y.2)
  pure (.loc,.bl c)
 |.LU o1 o2 a b c=>do
  let x <-ev a
  let y <-ev b
  aw [x,y]
  let p <-M.Il (bG o1 x.2 y.2)
  if p=bD then do
   let z <-ev c
   aw [y,z]
   let q <-M.Il (bG o2 y.2 z.2)
   pure (.loc,.bl q)
  else pure (.loc,.bl cb)
 |.and es=>iQ es
 |.or es=>AH es
 |.not a=>do
  let x <-ev a
  match x.2 with
  |.bl c=>pure (.loc,.bl !c)
  |_=>M.fail
 |.ite c a b=>do
  let p <-Ib c
  if p=bD then ev a else ev b
 |.tup es=>do
  let rs <-aR es
  aw rs
  let us <-de rs
  if us.length<=cL then pure (.loc,.tup us) else M.fail
 |.lst es=>do
  let rs <-aR es
  aw rs
  let us <-de rs
  if us.length<=cL then pure (.own,.lst us) else M.fail
 |.JZ r=>pure (.own,.HP [] [])
 |.idx a b=>do
  let x <-ev a
  let y <-ev b
  aw [x,y]
  M.Il (iO x y.2)
 |.Ky a lo hi=>do
  let x <-ev a
  let l <-NU lo
  let h <-NU hi
  aw [x]
  M.Il (kZ x l h)
 |.bi f es=>do
  let rs <-aR es
  aw rs
  M.Il (Js f rs)
 |.Nf f es=>do
  let rs <-aR es
  aw rs
  M.Il (vk f rs)
 |.KS m a es=>do
  let x <-ev a
  let rs <-aR es
  aw (x::rs)
  M.Il (jX m x.2 rs)
 |.call f es=>do
  let rs <-aR es
  aw rs
  k7 Γ f (rs.map (·.2))
 |.comp k t ik src cond e=>do
  let rs <-aR src
  aw rs
  let xs <-M.Il (KA ik rs)
  let us <-bI k t (aO cond) (ev e) rs xs []
  pure (.own,.lst us)
 |.neg a=>do
  let x <-ev a
  M.Il (AG x)
 |.bad=>M.fail
 |.inD neg a i=>do
  let x <-ev a
  let y <-iP x
  let d <-gQ i
  pure (.loc,.bl (PM neg y d.1))
 |.OG i=>xI i
 |.Kz i k d=>do
  let x <-dg i
  S8 x.2
  let y <-ev k
  let y <-iP y
  let z <-ev d
  let u <-lift z
  let x <-dg i
  M.Il (AE x y u)
 |.OH i=>do
  let x <-dg i
  M.Il (xF x.2)
 |.Ng a=>do
  let x <-ev a
  M.Il (AF x)
 |.LV f es is=>do
  let rs <-(aR es >>= FK)
  aw rs
  xG Γ f rs is
 |.IS i=>J1 i >>= λp=>pure (.loc,p.1)
 |.K_ i=>J1 i >>= λp=>pure (.loc,.int (p.2.length:Nat))
 |.J' _=>M.fail
 |.jY i=>TM.jY i
 |.IZ f i es g=>J1 i >>= λ_=>(aR es >>= λr1=>aR g >>= λr2=>pure (r1++r2)) >>= λrs=>aw rs >>= λ_=>fT Γ f es.length i rs
 |.JK f _ i es=>J1 i >>= λ_=>aR es >>= λrs=>aw rs >>= λ_=>fT Γ f 0 i rs
 |.pop i=>xH i
 |.MD i e=>do
  let x <-dg i
  MI x.2
  let y <-ev e
  AB i y.2
 |.QU _ _ _=>M.fail
 |.fst es=>M.fail
 |.QT a T=>M.fail
noncomputable def aR:List E->M (List (Kd×U))
 |[]=>pure []
 |e::es=>do let r <-ev e;let rs <-aR es;pure (r::rs)
noncomputable def NU:List E->M (Option Int)
 |[]=>pure b6
 |[e]=>do let x <-ev e;DR x
 |_=>M.fail
noncomputable def iQ:List E->M (Kd×U)
 |[]=>M.fail
 |[e]=>ev e
 |e::es=>do
  let x <-ev e
  match x.2 with
  |.bl bD=>iQ es
  |.bl cb=>pure (.loc,.bl cb)
  |_=>M.fail
noncomputable def AH:List E->M (Kd×U)
 |[]=>M.fail
 |[e]=>ev e
 |e::es=>do
  let x <-ev e
  match x.2 with
  |.bl bD=>pure (.loc,.bl bD)
  |.bl cb=>AH es
  |_=>M.fail
noncomputable def Ib:E->M Bool
 |.and es=>aO es
 |.or es=>jI es
 |.not a=>do let b <-Ib a;pure !b
 |.cmp op a b=>do
  let x <-ev a
  let y <-ev b
  aw [x,y]
  M.Il (bG op x.2 y.2)
 |.var i=>do let x <-dg i;M.Il (rH x.2)
 |.bi f es=>do
  let rs <-aR es
  aw rs
  let r <-M.Il (Js f rs)
  M.Il (rH r.2)
 |.call f es=>do
  let rs <-aR es
  aw rs
  let r <-k7 Γ f (rs.map (·.2))
  M.Il (rH r.2)
 |.LU o1 o2 a b c=>do
  let x <-ev a
  let y <-ev b
  aw [x,y]
  let p <-M.Il (bG o1 x.2 y.2)
  if p=bD then do
   let z <-ev c
   aw [y,z]
   M.Il (bG o2 y.2 z.2)
  else pure cb
 |.inD neg a i=>do
  let x <-ev a
  let y <-iP x
  let d <-gQ i
  pure (PM neg y d.1)
 |.J' i=>J1 i >>= λp=>if I0 50 (.lst p.2)=bD then pure p.2.isEmpty else M.fail
 |.IZ f i es e=>(J1 i >>= λ_=>(aR es >>= λr1=>aR e >>= λr2=>pure (r1++r2)) >>= λrs=>aw rs >>= λ_=>fT Γ f es.length i rs) >>= λr=>M.Il (rH r.2)
 |_=>M.fail
noncomputable def aO:List E->M Bool
 |[]=>pure bD
 |[e]=>Ib e
 |e::es=>do let b <-Ib e;if b=bD then aO es else pure cb
noncomputable def jI:List E->M Bool
 |[]=>pure cb
 |[e]=>Ib e
 |e::es=>do let b <-Ib e;if b=bD then pure bD else jI es
end
inductive Fl where|nx|rt (k:Kd) (u:U)|bk|ct
abbrev retS:Kd×U->M Fl
 |(.own,u)=>pure (.rt .own u)
 |(.loc,u)=>pure (.rt .loc u)
 |(.any,u)=>if Ig u=bD then pure (.rt .loc u) else pure (.rt .any u)
 |(.bor j,_)=>λst=>match st[j]? with
  |some (a5 (.own,u))=>a5 (.ok (.rt .own u),st.set j b6)
  |_=>b6
 |(.io,_)=>M.fail
 |(.A',_)=>M.fail
abbrev forM(t:Bool)(is:List Nat)(body:M Fl)(src:List (Kd×U)):List (Kd×U)->M Fl
 |[]=>do aw src;pure .nx
 |x::xs=>do
  aw src
  c7 t is x
  let f <-body
  match f with
  |.nx=>forM t is body src xs
  |.ct=>forM t is body src xs
  |.bk=>pure .nx
  |.rt k u=>pure (.rt k u)
abbrev fU(c:M Bool)(body:M Fl):Nat->M Fl
 |0=>M.fail
 |n+1=>do
  let b <-c
  if b=bD then do
   let f <-body
   match f with
   |.nx=>fU c body n
   |.ct=>fU c body n
   |.bk=>pure .nx
   |.rt k u=>pure (.rt k u)
  else pure .nx
abbrev mr(i j:Nat):Option (Kd×U)->M Fl
 |some _=>pure .nx
 |none=>λst=>match st[j]? with
  |some b6=>if i≠j then(eG i (.loc,.bl bD) >>= λ_=>pure .nx) st else b6
  |_=>b6
abbrev modS(i:Nat)(f:U->Option U):M Unit:=λst=>match st[i]? with
 |some (a5 (k,u))=>if k.root=bD then match f u with
   |some u'=>a5 (.ok (),st.set i (a5 (k,u')))
   |none=>b6
  else b6
 |_=>b6
abbrev xJ(u:U):U->Option U
 |.lst xs=>if xs.length<cL then a5 (.lst (xs++[u])) else b6
 |_=>b6
abbrev mw:Kd×U->U->Option U
 |(k,.lst ys),.lst xs=>if xs.length+ys.length<=cL/\iN k ys=bD then a5 (.lst (xs++ys)) else b6
 |(k,.tup ys),.lst xs=>if xs.length+ys.length<=cL/\iN k ys=bD then a5 (.lst (xs++ys)) else b6
 |_,_=>b6
abbrev fG(x u:U):U->Option U
 |.HP ks vs=>match x with
  |.str y=>if ks.length<cL then a5 (.HP (dput ks vs y u).1 (dput ks vs y u).2) else b6
  |_=>b6
 |.lst xs=>match x with
  |.int i=>(Lo xs.length i).map λj=>.lst (xs.set j u)
  |_=>b6
 |_=>b6
abbrev tL:List U->U->Option U
 |[u,x]=>fG x u
 |_=>λ_=>b6
abbrev fuel:Nat:=1000000000000
mutual
noncomputable def OJ:S->Nat->Bool
 |.set i _,j=>cK (j≠i)
 |.K' is _,j=>cK (j∉is)
 |.ite _ a b,j=>JR a j&&JR b j
 |.Ip _ is _ _ body,j=>cK (j∉is)&&JR body j
 |.Mi _ body,j=>JR body j
 |.put _ _ _,_=>bD
 |.app _ _,_=>bD
 |.ext _ _,_=>bD
 |.bad,_=>bD
 |.newD i,j=>cK (j≠i)
 |.putD _ _ _,_=>bD
 |.Ka _ _ _,_=>bD
 |.aug _ _ _ _,_=>bD
 |.QV _,_=>bD
 |.exp _,_=>bD
 |.ret _,_=>bD
 |.ME,_=>bD
 |.brk,_=>bD
 |.cnt,_=>bD
 |.QW,_=>bD
 |.PL _,_=>bD
 |.MF _ _,_=>bD
 |.Kk _,_=>bD
 |.J0 i,j=>cK (j≠i)
 |.gM _ _,_=>bD
 |.La _,_=>bD
 |.MG y _ _ _ _ _ _ k,j=>cK (j≠y)&&cK (j≠k)
noncomputable def JR:List S->Nat->Bool
 |[],_=>bD
 |s::ss,j=>OJ s j&&JR ss j
end
abbrev tM(rs:List (Kd×U))(is:List Nat)(body:List S):Bool:=rs.all λr=>match r.1 with
 |.bor j=>cK (j∉is)&&JR body j
 |_=>bD
mutual
noncomputable def exec:S->M Fl
 |.set i e=>do let r <-ev Γ e;eG i r;pure .nx
 |.K' is e=>do let r <-ev Γ e;c7 bD is r;pure .nx
 |.put i k v=>do
  let r <-ev Γ v
  let _ <-dg i
  let x <-ev Γ k
  let us <-de [r,x]
  modS i (tL us)
  pure .nx
 |.app i e=>do
  let x <-dg i
  MI x.2
  let r <-ev Γ e
  let u <-lift r
  modS i (xJ u)
  pure .nx
 |.ext i e=>do
  let x <-dg i
  MI x.2
  let r <-ev Γ e
  modS i (mw r)
  pure .nx
 |.bad=>M.fail
 |.newD i=>do Cq i;pure .nx
 |.putD i k v=>do
  let r <-ev Γ v
  let d <-gQ i
  let x <-ev Γ k
  let y <-iP x
  k_ i y r
  pure .nx
 |.Ka i k v=>do
  let _ <-gQ i
  let x <-ev Γ k
  let y <-iP x
  let d <-gQ i
  if y∈d.1 then do
   let r <-ev Γ v
   let u <-lift r
   la i y u
   pure .nx
  else M.fail
 |.aug sub i k v=>do
  let _ <-pX i
  let y <-ev Γ k
  let j <-vp y
  let us <-pX i
  let o <-M.Il (pY us j)
  let z <-ev Γ v
  let w <-vp z
  modS i (fG (.int j) (.int (vq sub o w)))
  pure .nx
 |.QV i=>do
  modS i Hz
  pure .nx
 |.exp e=>do let _ <-ev Γ e;pure .nx
 |.ret e=>do let r <-ev Γ e;retS r
 |.ME=>pure (.rt .loc .HX)
 |.ite c a b=>do let p <-Ib Γ c;if p=bD then execs a else execs b
 |.Ip t is ik src body=>do
  let rs <-aR Γ src
  aw rs
  let xs <-M.Il (KA ik rs)
  if tM rs is body=bD then forM t is (execs body) rs xs else M.fail
 |.Mi c body=>fU (Ib Γ c) (execs body) fuel
 |.brk=>pure .bk
 |.cnt=>pure .ct
 |.QW=>pure .nx
 |.PL _=>M.fail
 |.MF c e=>do let _ <-ev Γ e;pure (.rt .io (.str c))
 |.Kk _=>M.fail
 |.J0 i=>λst=>a5 (.ok .nx,st.set i (a5 (.A',.ob (.tup []) [])))
 |.gM i e=>ev Γ e >>= λr=>lift r >>= λu=>MH i (λ_ us=>a5 (u,us)) >>= λ_=>pure .nx
 |.La i=>MH i AD >>= λ_=>pure .nx
 |.MG y f _ i es _ c j=>J1 i >>= λ_=>aR Γ es >>= λrs=>aw rs >>= λ_=>mT Γ f i c rs >>= λb=>mr y j (if b=bD then b6 else a5 (.loc,.HX))
noncomputable def execs:List S->M Fl
 |[]=>pure .nx
 |s::ss=>do
  let f <-exec s
  match f with
  |.nx=>execs ss
  |f=>pure f
end
end
structure Fn where
 name:Str
 np:Nat
 ns:Nat
 body:List S
abbrev start(us:List U)(n:Nat):au:=us.map (λu=>a5 (if Ig u=bD then Kd.loc else Kd.any,u))++mu (n - us.length) b6
abbrev bP(Γ:Tab)(fn:Fn)(us:List U):Option (Ex (Kd×U)):=if us.length=fn.np then match execs Γ fn.body (start us fn.ns) with
  |some (.ok (.rt .own u),_)=>a5 (.ok (.own,u))
  |some (.ok (.rt .loc u),_)=>a5 (.ok (.loc,u))
  |some (.ok (.rt .any u),_)=>a5 (.ok (.any,u))
  |some (.ok .nx,_)=>a5 (.ok (.loc,.HX))
  |some (.ok (.rt .io (.str c)),_)=>a5 (.exc c)
  |_=>b6
 else b6
abbrev DS(is:List Nat)(us:List U)(n:Nat):au:=(us.zipIdx.map λp=>a5 (if p.2∈is then Kd.io else if Ig p.1=bD then Kd.loc else Kd.any,p.1))++mu (n - us.length) b6
abbrev U8:List Nat->au->Option (List U)
 |[],_=>a5 []
 |i::is,st=>match st[i]? with
  |some (a5 (.io,u))=>(U8 is st).map (u::·)
  |_=>b6
abbrev Xk:Fl->Option (Kd×U)
 |.rt .own u=>a5 (.own,u)
 |.rt .loc u=>a5 (.loc,u)
 |.nx=>a5 (.loc,.HX)
 |_=>b6
abbrev HA(Γ:Tab)(fn:Fn)(is:List Nat)(body:List S)(us:List U):Option (Ex (Kd×U)):=if us.length=fn.np then match execs Γ body (DS is us fn.ns) with
  |some (.ok f,st)=>(Xk f).bind λr=>(U8 is st).map λws=>.ok (r.1,.tup (r.2::ws))
  |_=>b6
 else b6
abbrev Fn.io(fn:Fn):Option (List Nat×List S):=match fn.body with
 |.PL is::body=>a5 (is,body)
 |_=>b6
abbrev aY(p:Nat)(us:List U)(n:Nat):au:=(us.zipIdx.map λq=>a5 (if q.2=p then Kd.A' else if Ig q.1=bD then Kd.loc else Kd.any,q.1))++mu (n - us.length) b6
abbrev PN:Fl->Option (Kd×U)
 |.rt .own u=>a5 (.own,u)
 |.rt .loc u=>a5 (.loc,u)
 |.rt .io (.str c)=>a5 (.io,.str c)
 |.nx=>a5 (.loc,.HX)
 |_=>b6
abbrev OK(p:Nat)(st:au):Option U:=match st[p]? with
 |some (a5 (.A',.ob u us))=>a5 (.ob u us)
 |_=>b6
abbrev eI(Γ:Tab)(fn:Fn)(p:Nat)(body:List S)(us:List U):Option (Ex (Kd×U)):=if us.length=fn.np/\p<fn.np then match execs Γ body (aY p us fn.ns) with
  |some (.ok f,st)=>(PN f).bind λr=>(OK p st).map λo=>.ok (r.1,.tup [r.2,o])
  |_=>b6
 else b6
abbrev Fn.ob(fn:Fn):Option (Nat×List S):=match fn.body with
 |.Kk p::body=>a5 (p,body)
 |_=>b6
abbrev lb(Γ:Tab)(fn:Fn)(us:List U):Option (Ex (Kd×U)):=match fn.ob with
 |some (p,body)=>eI Γ fn p body us
 |none=>match fn.io with
  |some (is,body)=>HA Γ fn is body us
  |none=>bP Γ fn us
abbrev Im(P:List Fn):Nat->Tab
 |0=>λ_ _=>b6
 |d+1=>λf us=>match P.find? λfn=>cK (fn.name=f) with
  |some fn=>lb (Im P d) fn us
  |none=>b6
end TM
namespace TM
open PySem L2
section
variable{X:Cx}{pins:List (hH×Obj)}{σ:St}{H:Hp}{s:hW}{C:Ct}{S:hH->Prop}
def tN(I:Inv X pins σ H s)(h:IF X.K H a vs):∃b:List dV,Vals vs b/\s.heap.IsList a b.toArray/\vs.length<=cL:=by
 have⟨b,r,p,z⟩:=I.list h;show⟨b,r,p.isList,z⟩
inductive IM(s:hW):Nat->U->dV->Prop where
 |HX {n:Nat}:IM s n .HX .none
 |bl {n:Nat} {b:Bool}:IM s n (.bl b) (.bool b)
 |int {n:Nat} {i:Int} {t:Tok}:IM s n (.int i) (.int i t)
 |str {n:Nat} {y:Str} {t:Tok}:IM s n (.str y) (.str y t)
 |tup {n:Nat} {us:List U} {G':List dV} {a:hH}:us.length=G'.length->(∀j (hj:j<G'.length),IM s n (us.getD j .HX) G'[j])->cT us us=bD->s.heap.IsTuple a G'.toArray->IM s (n+1) (.tup us) (.ref a)
 |lst {n:Nat} {us:List U} {G':List dV} {a:hH}:us.length=G'.length->(∀j (hj:j<G'.length),IM s n (us.getD j .HX) G'[j])->cT us us=bD->s.heap.IsList a G'.toArray->IM s (n+1) (.lst us) (.ref a)
def IM.self(h:IM s n u x):cq u u=bD:=by
 cases h<;>first|assumption|simp[cq]
theorem IM.vt(f:∀u v x,I0 n u=bD->Rep C S H u v->RelV v x->IM s n u x):∀{us:List U}{vs:List V}{a:List dV},cS n us=bD->ar C S H us vs->Vals vs a->us.length=a.length/\(∀j (b:j<a.length),IM s n (us.getD j .HX) a[j])/\cT us us=bD
 |[],_,_,_,h,r=>by cases h;cases r;show⟨rfl,λj b=>(nomatch b),rfl⟩
 |u::us,_,_,e,h,r=>by
  have⟨v,vs,rfl,c,d⟩:=h;simp only[cS,b8]at e;cases r with
  |cons r1 r2 =>
   have⟨l,k,y⟩:=IM.vt f e.2 d r2;show⟨by simp[l],λj b=>?_,by rw[cT,(f _ _ _ e.1 c r1).self,y];rfl⟩;cases j with
   |zero=>show f _ _ _ e.1 c r1
   |succ j=>show k j (by simpa using b)
def IM.of(I:Inv X pins σ H s)(d:C.K=X.K):∀(n:Nat) (u:U) (v:V) (x:dV),I0 n u=bD->Rep C S H u v->RelV v x->IM s n u x:=by
 intro n;induction n with
 |zero=>intro u v x e h r;cases u<;>first|(simp[I0]at e;done)|(simp only[Rep]at h;subst h;first|(cases r;constructor)|(have⟨t,rfl⟩:=r;constructor))
 |succ n f =>
  intro u v x e h r;cases u with
  |tup us =>
   have⟨a,vs,rfl,b,c⟩:=h;cases r;obtain⟨g,rv,p,_⟩:=I.tuple (d▸b);have⟨l,k,y⟩:=IM.vt f (by simpa[I0] using e) c rv;show .tup l k y p
  |lst us =>
   have⟨a,vs,rfl,b,c⟩:=h;cases r;obtain⟨g,rv,p,_⟩:=tN I (d▸b.sq);have⟨l,k,y⟩:=IM.vt f (by simpa[I0] using e) c rv;show .lst l k y p
  |_=>first|(simp[I0]at e;done)|(simp only[Rep]at h;subst h;first|(cases r;constructor)|(have⟨t,rfl⟩:=r;constructor))
def IM.inj:∀{n:Nat}{u w:U}{x:dV},IM s n u x->IM s n w x->u=w:=by
 intro n;induction n with
 |zero=>intro u w x h h';cases h<;>cases h'<;>rfl
 |succ n q =>
  have go:∀{us ws:List U} {c its':List dV} {a:hH} {o o':Obj} {m g:Nat},us.length=c.length->(∀j (r:j<c.length),IM s n (us.getD j .HX) c[j])->ws.length=its'.length->(∀j (r:j<its'.length),IM s n (ws.getD j .HX) its'[j])->s.heap.get? a=a5 o->o.data=.seq c.toArray m->s.heap.get? a=a5 o'->o'.data=.seq its'.toArray g->us=ws:=by
   intro us ws c its' a o o' m g l k l' k' e d f d';rw[e]at f;cases f;rw[d]at d';injection d' with t _
   have:c=its':=by simpa using ľ Y8 t
   subst this;show N5 ⋯ λj v z=>?_;have:=q (k j ⋯) (k' j ⋯);simpa[v,z] using this
  intro u w x h h';cases h with
  |tup l k y p =>
   cases h' with
   |tup l' k' i b=>obtain⟨o,e,_,m,d⟩:=p;obtain⟨o',f,_,g,d'⟩:=b;rw[go l k l' k' e d f d']
   |lst l' k' i b=>show absurd rfl (YQ b p)
  |lst l k y p =>
   cases h' with
   |lst l' k' i b=>obtain⟨o,e,_,m,d⟩:=p;obtain⟨o',f,_,g,d'⟩:=b;rw[go l k l' k' e d f d']
   |tup l' k' i b=>show absurd rfl (YQ p b)
  |_=>cases h';rfl
theorem jo:∀{us ws:List U},us.length≠ws.length->cT us ws=cb
 |[],[],h=>absurd rfl h
 |[],_::_,_=>rfl
 |_::_,[],_=>rfl
 |u::us,w::ws,h=>by
  rw[cT,jo (us:=us) (ws:=ws) (λe=>h (by simp[e])),XX]
theorem fV:∀{us ws:List U},us.length=ws.length->cT us ws=(i4 us.length).all λj=>cq (us.getD j .HX) (ws.getD j .HX)
 |[],[],_=>rfl
 |[],_::_,h=>by simp at h
 |_::_,[],h=>by simp at h
 |u::us,w::ws,h=>by
  have h':us.length=ws.length:=by simpa using h
  rw[cT,fV h',lx,List.range_succ_eq_map,List.all_cons,č];rfl
def FL{a its':List dV}(c:us.length=a.length)(d:ws.length=its'.length):cT us ws=((i4 (min a.toArray.size its'.toArray.size)).all (λj=>cq (us.getD j .HX) (ws.getD j .HX))&&a.toArray.size==its'.toArray.size):=by
 simp only[hQ];by_cases b:us.length=ws.length
 .rw[fV b,show min a.length its'.length=us.length by lia,show(a.length==its'.length)=bD by simp;lia,YM]
 .rw[jo b,show(a.length==its'.length)=cb by simp;lia,XX]
def tP(b:IM s n u y)(h:ZN A s y x k)(hs:y=x->k=bD):SQ A s y x k:=λprog w E Q a=>by
 unfold eqBool;show Jq ?_;show wpAny_ite_split (λc=>?_) (λ_=>?_)
 .rw[hs (ę c)]at a;show b7 (RU (dt a))
 .cases b<;>show b7 (h prog w E _ (JS a))
def S9(q:∀m,m+1=n->∀{u w:U}{x d:dV}{A:MW},IM s m u x->IM s m w d->A.units+m<L_->SQ A s x d (cq u w))(h:IM s n u x)(h':IM s n w d)(t:A.units+n<L_):ZN A s x d (cq u w)/\õ A s x d (!cq u w):=by
 have a:A.units<L_:=by lia
 have go:∀{m:Nat} {us ws:List U} {f its':List dV},m+1=n->(∀j (r:j<f.length),IM s m (us.getD j .HX) f[j])->(∀j (r:j<its'.length),IM s m (ws.getD j .HX) its'[j])->∀j (g:j<f.toArray.size) (i:j<its'.toArray.size),SQ A.in1 s f.toArray[j] its'.toArray[j] (cq (us.getD j .HX) (ws.getD j .HX)):=λ{m us ws f its'} e k k' j g i=>q m e (k j g) (k' j i) (by change A.units+1+m < _;lia);cases h with
 |HX =>
  cases h' with
  |HX=>show⟨.none_none,.none_none⟩
  |bl=>show⟨.none_bool _,.none_bool _⟩
  |int=>show⟨.none_int _ _,.none_int _ _⟩
  |str=>show⟨.none_str _ _,.none_str _ _⟩
  |tup l' k' c b=>show⟨.none_tuple b a,.none_tuple b a⟩
  |lst l' k' c b=>show⟨.none_list b a,.none_list b a⟩
 |bl =>
  cases h' with
  |HX=>show⟨.bool_none _,.bool_none _⟩
  |bl=>show⟨.bool_bool _ _,.bool_bool _ _⟩
  |int=>show⟨.bool_int _ _ _,.bool_int _ _ _⟩
  |str=>show⟨.bool_str _ _ _,.bool_str _ _ _⟩
  |tup l' k' c b=>show⟨.bool_tuple _ b a,.bool_tuple _ b a⟩
  |lst l' k' c b=>show⟨.bool_list _ b a,.bool_list _ b a⟩
 |int =>
  cases h' with
  |HX=>show⟨.int_none _ _,.int_none _ _⟩
  |bl=>show⟨.int_bool _ _ _,.int_bool _ _ _⟩
  |int=>show⟨.int_int _ _ _ _,.int_int _ _ _ _⟩
  |str=>show⟨.int_str _ _ _ _,.int_str _ _ _ _⟩
  |tup l' k' c b=>show⟨.int_tuple _ _ b a,.int_tuple _ _ b a⟩
  |lst l' k' c b=>show⟨.int_list _ _ b a,.int_list _ _ b a⟩
 |str =>
  cases h' with
  |HX=>show⟨.str_none _ _,.str_none _ _⟩
  |bl=>show⟨.str_bool _ _ _,.str_bool _ _ _⟩
  |int=>show⟨.str_int _ _ _ _,.str_int _ _ _ _⟩
  |str=>show⟨.str_str _ _ _ _,.str_str _ _ _ _⟩
  |tup l' k' c b=>show⟨.str_tuple _ _ b a,.str_tuple _ _ b a⟩
  |lst l' k' c b=>show⟨.str_list _ _ b a,.str_list _ _ b a⟩
 |tup l k y p =>
  cases h' with
  |HX=>show⟨.tuple_none p a,.tuple_none p a⟩
  |bl=>show⟨.tuple_bool _ p a,.tuple_bool _ p a⟩
  |int=>show⟨.tuple_int _ _ p a,.tuple_int _ _ p a⟩
  |str=>show⟨.tuple_str _ _ p a,.tuple_str _ _ p a⟩
  |tup l' k' c b=>rw[show cq (.tup _) (.tup _)=_ from FL l l'];show⟨.tuples p b a (go rfl k k'),.tuples p b a (go rfl k k')⟩
  |lst l' k' c b=>show⟨.tuple_list p b a,.tuple_list p b a⟩
 |lst l k y p =>
  cases h' with
  |HX=>show⟨.list_none p a,.list_none p a⟩
  |bl=>show⟨.list_bool _ p a,.list_bool _ p a⟩
  |int=>show⟨.list_int _ _ p a,.list_int _ _ p a⟩
  |str=>show⟨.list_str _ _ p a,.list_str _ _ p a⟩
  |tup l' k' c b=>show⟨.list_tuple p b a,.list_tuple p b a⟩
  |lst l' k' c b =>
   rename_i us _ _ ws _ _;by_cases o:us.length=ws.length
   .rw[show cq (.lst us) (.lst ws)=_ from fV o,l,<-hQ];show⟨.lists p b (by simp;lia) a (go rfl k k'),.lists p b (by simp;lia) a (go rfl k k')⟩
   .rw[show cq (.lst us) (.lst ws)=cb from jo o];show⟨.lists_lengths p b (by simp;lia) a,.lists_lengths p b (by simp;lia) a⟩
def FN:∀{n:Nat}{u w:U}{x a:dV}{A:MW},IM s n u x->IM s n w a->A.units+n<L_->SQ A s x a (cq u w):=by
 intro n;induction n with
 |zero=>intro u w x a A h h' b;show tP h (S9 (λm e=>by cases e) h h' b).1 λe=>by subst e;rw[h.inj h'];show h'.self
 |succ n c=>intro u w x a A h h' b;show tP h (S9 (λm e=>by cases e;show c) h h' b).1 λe=>by subst e;rw[h.inj h'];show h'.self
def DT(h:IM s n u x)(h':IM s n w a)(b:A.units+n<L_):ZN A s x a (cq u w)/\õ A s x a (!cq u w):=S9 (λm e=>by cases e;show FN) h h' b
end
end TM
namespace TM
open PySem L2 PyProof.Rows
abbrev HW(C:Ct)(m:M (Kd×U)):TE:=λσ H Q=>∃c0:Cf,c0.σ=σ/\c0.H=H/\Ok C c0/\W m c0.st λr st'=>∀c v,c.σ=σ->c.st=st'->Ok C c->Nx c0 c->aH C c0 c r.1 r.2 v->Q v c.H
abbrev Jz(C:Ct)(m:M Bool):TT:=λσ H Q=>∃c0:Cf,c0.σ=σ/\c0.H=H/\Ok C c0/\W m c0.st λb st'=>∀c,c.σ=σ->c.st=st'->Ok C c->Nx c0 c->Q b c.H
def cB(C:Ct)(c0 c:Cf):List (Kd×U)->List V->Prop
 |[],vs=>vs=[]
 |r::rs,vs=>∃v t,vs=v::t/\fP C c0 c r.1 r.2 v/\cB C c0 c rs t/\(r.1=.own->∀(i:Nat) a v',rs[i]?=a5 a->t[i]?=a5 v'->a.1=.own->v'≠v)
abbrev Jh(C:Ct)(m:M (List (Kd×U))):TA:=λσ H Q=>∃c0:Cf,c0.σ=σ/\c0.H=H/\Ok C c0/\W m c0.st λrs st'=>∀c vs,c.σ=σ->c.st=st'->Ok C c->Nx c0 c->cB C c0 c rs vs->Q vs c.H
section
def PE.weak(h:PE X e t)(i:∀σ H Q,t' σ H Q->t σ H Q):PE X e t':=λa s σ H Q I q=>h a s σ H Q I (i σ H Q q)
def PT.weak(h:PT X e t)(i:∀σ H Q,t' σ H Q->t σ H Q):PT X e t':=λa s σ H Q I q=>h a s σ H Q I (i σ H Q q)
def bY{st:au}:W (aw rs) st Q↔bo rs st/\Q () st:=by
 constructor
 .rintro⟨a,st',e,h⟩;unfold aw at e;split at e
  .cases e;show⟨by assumption,h⟩
  .cases e
 .rintro⟨b,c⟩;show⟨(),st,by unfold aw;rw[Ĺ b],c⟩
def eJ{st:au}:bo (r::rs) st↔bo [r] st/\bo rs st:=by
 have⟨k,u⟩:=r;cases k<;>simp[bo]
def fP.t(h:fP C c0 c k u v)(s:bo [(k,u)] c.st):aH C c0 c k u v:=by
 cases k with
 |bor j=>show⟨s.1,h⟩
 |_=>show h
structure PQ(C:Ct)(c0 c:Cf)(x y:Kd×U)(vx vy:V):Prop where
 hσ:c.σ=c0.σ
 ok:Ok C c
 nx:Nx c0 c
 rx:aH C c0 c x.1 x.2 vx
 ry:aH C c0 c y.1 y.2 vy
 ne:x.1=.own->y.1=.own->vy≠vx
def lj(h:fP C c0 b k u v)(h':fP C b c k' u' v'):k=.own->k'=.own->v'≠v:=by
 rintro rfl rfl e;obtain⟨r,d,_,_,_,f⟩:=h;obtain⟨g,e2,a,_⟩:=h';obtain⟨o,ho,_⟩:=f.some;subst d;rw[e2]at e;cases e;rw[ho]at a;cases a
def two{k:Kd×U->Kd×U->M β}{Post:β->au->Prop}{f:dV->dV->Sem α}{Q':dV->dV->α->hW->Prop}(J:PE X a (HW C L))(N:PE X b (HW C r))(I:Inv X d c0.σ c0.H s)(O:Ok C c0)
  (h:W (L >>= λx=>r >>= λy=>aw [x,y] >>= λ_=>k x y) c0.st Post)
  (Q:∀x y c g j v u s2,PQ C c0 c x y g j->Inv X d c.σ c.H s2->RelV g v->RelV j u->W (k x y) c.st Post->g9 (i5 X.prog X.w) X.A (f v u) (Q' v u) X.xe s2) :
  g9 (i5 X.prog X.w) X.A (vr a X.env) (λv T=>g9 (i5 X.prog X.w) X.A (vr b X.env) (λu Y=>g9 (i5 X.prog X.w) X.A (f v u) (Q' v u) X.xe Y) X.xe T) X.xe s:=by
 rw[ah]at h;show HS (J d s c0.σ c0.H (λg z=>∃x e,e.H=z/\e.σ=c0.σ/\Ok C e/\Nx c0 e/\aH C c0 e x.1 x.2 g/\W (r >>= λy=>aw [x,y] >>= λ_=>k x y) e.st Post) I ⟨c0,rfl,rfl,O,h.mono λx st1 n e g o e2 p q r1=>⟨x,e,rfl,o,p,q,r1,by rw[e2];show n⟩⟩) ?_;rintro v s1 ⟨g,z,I1,rv,x,e,rfl,o,p,q,r1,n⟩;rw[ah]at n;show HS (N d s1 c0.σ e.H (λj B=>∃y i,i.H=B/\PQ C c0 i x y g j/\W (k x y) i.st Post) I1 ⟨e,o,rfl,p,n.mono λy st2 l i j D e4 Iu G r2=>?_⟩) ?_
 .rw[ah,bY]at l;subst e4;rw[eJ]at l;show⟨y,i,rfl,⟨D,Iu,q.trans G,(r1.w.on p G (D.trans o.symm)).t l.1.1,(r2.from q),lj r1.w r2.w⟩,l.2⟩
 .rintro u s2 ⟨j,B,I2,ru,y,i,rfl,m,l⟩;have hs:i.σ=c0.σ:=m.hσ;show Q x y i g j v u s2 m (by rw[hs];show I2) rv ru l
structure PR(C:Ct)(c0 c:Cf)(x:Kd×U)(vx:V):Prop where
 hσ:c.σ=c0.σ
 ok:Ok C c
 nx:Nx c0 c
 rx:aH C c0 c x.1 x.2 vx
abbrev cu(C:Ct)(c0:Cf)(Q:VK)(r:Kd×U)(st':au):Prop:=∀c v,c.σ=c0.σ->c.st=st'->Ok C c->Nx c0 c->aH C c0 c r.1 r.2 v->Q v c.H
section
def cu.flat(h:cu C c0 Q (.loc,u) c.st)(a:c.σ=c0.σ)(b:Ok C c)(n:Nx c0 c)(r:Rep C c.S c.H u v):Q v c.H:=h c v a rfl b n r
def cu.list(h:cu C c0 Q (.own,.lst us) c.st)(a:c.σ=c0.σ)(b:Ok C c)(n:Nx c0 c)(r:ar C c.S c.H us vs)(p:hH)(d:c.H p=b6):Q (.ref p) (upd c.H p (.lst vs)):=by
 have⟨e,f,g⟩:=b.newList n d r;show h {c with H:=upd c.H p (.lst vs)} _ a rfl e f g
def cu.tup(h:cu C c0 Q (.loc,.tup us) c.st)(a:c.σ=c0.σ)(b:Ok C c)(n:Nx c0 c)(r:ar C c.S c.H us vs)(p:hH)(d:c.H p=b6):Q (.ref p) (upd c.H p (.tup vs)):=by
 have⟨e,f,g⟩:=b.DI n d r;show h {c with H:=upd c.H p (.tup vs)} _ a rfl e f g
def cu.tupK(h:cu C c0 Q (kE k,.tup us) c.st)(d:c.σ=c0.σ)(a:Ok C c)(n:Nx c0 c)(r:ar C (SK C c k) c.H us vs)(p:hH)(e:c.H p=b6):Q (.ref p) (upd c.H p (.tup vs)):=by
 have⟨f,b⟩:=a.lay (o:=.tup vs) e;show h {c with H:=upd c.H p (.tup vs)} _ d rfl f (n.trans b) (aH.item ?_);cases k<;>show⟨p,vs,rfl,II.of aq,by first|show r.mv (a.MB b)|show r.mv (a.mv b)⟩
def dF(h:iN k us=bD)(r:ar C (SK C c k) c.H us vs):ar C c.S c.H us vs:=by
 cases k with
 |any=>show r.Ig (by simpa[iN,isAny] using h)
 |_=>show r
end
def DU(k k':Kd):∀a,SK C c k a->SK C c (kT k k') a:=by
 intro a h;cases k<;>cases k'<;>first|show h|show .inr h
def AI(k k':Kd):∀a,SK C c k' a->SK C c (kT k k') a:=by
 intro a h;cases k<;>cases k'<;>first|show h|show .inr h
def FO(k k':Kd):kE (kT k k')=kT k k':=by cases k<;>cases k'<;>rfl
def AJ:JV X (Qr .Add) (λx y H Q=>∃l b xs c,x=.ref l/\y=.ref b/\IF X.K H l xs/\IF X.K H b c/\xs.length+c.length<=cL/\∀p,H p=b6->Q (.ref p) (upd H p (.lst (xs++c)))):=by
 intro f s σ H x y v u Q I m o h;have⟨l,b,xs,c,rfl,rfl,t,w,hz,q⟩:=h;cases m;cases o;have⟨d,r,pl,z⟩:=I.list t;have⟨e,r2,A,L⟩:=I.list w;have hl:=r.length;have LM:=r2.length;obtain⟨⟨cls,dd,data,B⟩,ho,g,n,i⟩:=pl.isList;obtain⟨⟨N,C,data2,D⟩,j,k,G,a⟩:=A.isList;simp only at g i k a;subst g i k a;show WV ⟨_,ho,rfl⟩ ⟨_,j,rfl⟩ noFill_list_add seq_list_add PySem.F.slot_list_add PySem.F.entry_list_add (PySem.F.args_list_add_2 _ _)
   (list_addW l b d.toArray e.toArray n G dd C B D (by rw[hQ,hQ];lia)) ⟨ho,j,?_⟩
 have J:d.toArray++e.toArray=(d++e).toArray:=by simp
 rw[J];show⟨.ref _,_,I.Hn (t':=s.toks) (r.append r2) (by rw[j0];lia),rfl,q _ I.fresh⟩
end
section
variable{X:Cx}{C:Ct}{pins:List (hH×Obj)}{s:hW}{c0 c:Cf}{Q:VK}
def xK:JV X (Qr .Add) (λx y H Q=>∃a b ys,x=.ref a/\y=.ref b/\II X.K H a []/\II X.K H b ys/\Q (.ref b) H):=by
 intro pins s σ H x y v u Q I j k h;have⟨a,b,ys,rfl,rfl,l,m,q⟩:=h;cases j;cases k;obtain⟨A,r1,o,_⟩:=I.tuple l;obtain⟨p,r2,p2,_⟩:=I.tuple m;cases r1;obtain⟨⟨cls,dd,data,r⟩,ho,e,n,f⟩:=id o;obtain⟨⟨B,t,data2,w⟩,g,i,z,d⟩:=id p2;simp only at e f i d;subst e f i d;show WV ⟨_,ho,rfl⟩ ⟨_,g,rfl⟩ Yp ZI PySem.F.slot_tuple_add PySem.F.entry_tuple_add (PySem.F.args_tuple_add_2 _ _)
   (tuple_addW0 a b _ p.toArray n z dd t r w (by rfl)) ⟨ho,g,.ref b,H,I,rfl,q⟩
abbrev QS.op:QS->Ü
 |.add=>.Add|.sub=>.Sub|.mul=>.Mult|.Kw=>.FloorDiv|.mod=>.Mod|.pow=>.Pow
def eL(h:rG f a b=a5 r):∃i j o,a=.int i/\b=.int j/\f i j=a5 o/\r=(.loc,.int o):=by
 unfold rG at h;split at h
 .rw[ez]at h;have⟨o,e,rfl⟩:=h;show⟨_,_,o,rfl,rfl,e,rfl⟩
 .cases h
def DV(Y:C.K=X.K)(t:PQ C c0 c x y g l)(I:Inv X pins c.σ c.H s)(z:RelV g v)(B:RelV l u)(h:Kb op x y=a5 r)(q:cu C c0 Q r c.st):
  g9 (i5 X.prog X.w) X.A (Qr op.op v u) (EP X pins c.σ Q) X.xe s:=by
 obtain⟨m,d,n,D,G,_⟩:=t;cases op with
 |add =>
  have h:vj x y=a5 r:=h;unfold vj at h;split at h
  .have ex:=D.int d;have e:=G.int d;cases h;show d7 pins s c.σ c.H g l v u Q I z B ⟨_,_,ex,e,q.flat m d n rfl⟩
  .have ex:=D.str d;have e:=G.str d;split at h
   .cases h;show qO pins s c.σ c.H g l v u Q I z B ⟨_,_,ex,e,by assumption,q.flat m d n rfl⟩
   .cases h
  .have⟨a,vs,ex,O,J⟩:=D.list d;have⟨b,ws,e,T,L⟩:=G.list d;split at h
   .rename_i N;cases h;show AJ pins s c.σ c.H g l v u Q I z B ⟨a,b,vs,ws,ex,e,Y▸O,Y▸T,by rw[<-J.len,<-L.len];show N.1,λp hp=>q.list m d n ((dF N.2.1 J).append (dF N.2.2 L)) p hp⟩
   .cases h
  .rename_i k xs k' ys _ _;have⟨a,vs,ex,O,J⟩:=D.tuple d;have⟨b,ws,e,T,L⟩:=G.tuple d;have Km:=O;have Ow:=T;rw[Y]at Km Ow;split at h
   .rename_i N;cases h;have m1:ar C (SK C c (kT k k')) c.H xs vs:=J.mv (.up (DU k k'));have m2:ar C (SK C c (kT k k')) c.H ys ws:=L.mv (.up (AI k k'));have q':cu C c0 Q (kE (kT k k'),.tup (xs++ys)) c.st:=by rw[FO];show q
    by_cases e1:vs=[]
    .subst e1;show xK pins s c.σ c.H g l v u Q I z B ⟨a,b,ws,ex,e,Km,Ow,?_⟩;show q' c (.ref b) m rfl d n (aH.item ⟨b,ws,rfl,T,?_⟩);have:xs=[]:=by have:=m1.len;simpa using this
     rw[this];show m2
    .show Ab pins s c.σ c.H g l v u Q I z B ⟨a,b,vs,ws,ex,e,Km,Ow,e1,by rw[<-J.len,<-L.len];show N,λe2=>?_,λ_ p hp=>q'.tupK m d n (m1.append m2) p hp⟩;subst e2;show q' c (.ref a) m rfl d n (aH.item ⟨a,vs,rfl,O,?_⟩);have:ys=[]:=by have:=m2.len;simpa using this
     rw[this,ve];show m1
   .cases h
  .cases h
 |sub =>
  have⟨i,j,o,ex,e,f,rfl⟩:=eL h;have ex:=(ex▸D).int d;have e:=(e▸G).int d;cases f;show qM pins s c.σ c.H g l v u Q I z B ⟨_,_,ex,e,q.flat m d n rfl⟩
 |mul =>
  have⟨i,j,o,ex,e,f,rfl⟩:=eL h;have ex:=(ex▸D).int d;have e:=(e▸G).int d;unfold As at f;split at f
  .cases f;show nI pins s c.σ c.H g l v u Q I z B ⟨_,_,ex,e,by assumption,q.flat m d n rfl⟩
  .cases f
 |Kw =>
  have⟨i,j,o,ex,e,f,rfl⟩:=eL h;have ex:=(ex▸D).int d;have e:=(e▸G).int d;unfold Au at f;split at f
  .cases f;show zW pins s c.σ c.H g l v u Q I z B ⟨_,_,ex,e,by assumption,q.flat m d n rfl⟩
  .cases f
 |mod =>
  have⟨i,j,o,ex,e,f,rfl⟩:=eL h;have ex:=(ex▸D).int d;have e:=(e▸G).int d;unfold Av at f;split at f
  .cases f;show cj pins s c.σ c.H g l v u Q I z B ⟨_,_,ex,e,by assumption,q.flat m d n rfl⟩
  .cases f
 |pow =>
  have⟨i,j,o,ex,e,f,rfl⟩:=eL h;have ex:=(ex▸D).int d;have e:=(e▸G).int d;unfold Aw at f;split at f
  .cases f;show nJ pins s c.σ c.H g l v u Q I z B ⟨_,_,ex,e,by assumption,q.flat m d n rfl⟩
  .cases f
def AK(d:C.K=X.K)(f:PE X a (HW C g))(i:PE X b (HW C j)):PE X (.BinOp a op.op b pos) (HW C (g >>= λx=>j >>= λy=>aw [x,y] >>= λ_=>M.Il (Kb op x y))):=by
 rintro pins s σ H Q I ⟨c0,rfl,rfl,k,h⟩;show wpAny_BinOp (two f i I k h λx y c o p v u s2 t l m n w=>?_);have⟨r,e,q⟩:=cH.mp w;show HS (DV d t l m n e q) λ_ _ z=>by rw[t.hσ]at z;show z
abbrev PK.op:PK->CmpOp
 |.eq=>.Eq|.ne=>.NotEq|.lt=>.Lt|.le=>.LtE|.gt=>.Gt|.ge=>.GtE|.isin=>.In|.HQ=>.NotIn|.is=>.Is|.S4=>.IsNot
def FP{neg:Bool}(I:Inv X pins c.σ c.H s)(i:C.K=X.K)(J:X.A.units+60<L_){S:hH->Prop}(n:Rep C S c.H x m)(o:RelV m v)(r:ar C S c.H ys vs)
  (ha:IF C.K c.H a vs\/II C.K c.H a vs) (t:I0 50 x=bD) (e2:cS 50 ys=bD) {Q:dV->hW->Prop} (q:Q (.bool (if neg then !(ys.any λy=>cq y x) else ys.any λy=>cq y x)) s) :
  g9 (i5 X.prog X.w) X.A (O9 (if neg then .NotIn else .In) v (.ref a)) Q X.xe s:=by
 have u:=IM.of I i 50 x m v t n o;have go:∀d:List dV,Vals vs d->∃e:dV->Bool,(∀y,y∈d.toArray->SQ X.A.in1 s y v (e y))/\d.toArray.any e=ys.any λy=>cq y x:=by
  intro d rv;obtain⟨l,k,_⟩:=IM.vt (IM.of I i 50) e2 r rv
  classical
  have q:∀j (b:j<d.length),cK (∃w,IM s 50 w d[j]/\cq w x=bD)=cq (ys.getD j .HX) x:=λj b=>by
   rw[Nm,decide_eq_true_iff];show⟨λ⟨w,f,g⟩=>by rw[<-f.inj (k j b)];show g,λh=>⟨_,k j b,h⟩⟩
  show⟨λy=>cK (∃w,IM s 50 w y/\cq w x=bD),λy z=>?_,?_⟩
  .have⟨j,b,e⟩:=RX (show y∈d by simpa using z);subst e;change SQ _ _ _ _ (decide _);rw[q j b];show FN (k j b) u (by change X.A.units+1+50 < _;lia)
  .rw[Nm];simp only[List.any_toArray,Rx];constructor
   .rintro⟨y,B,h⟩;have⟨j,b,rfl⟩:=RX B;rw[q j b]at h;show⟨_,Ms (l▸b),by simpa[l▸b] using h⟩
   .rintro⟨w,D,G⟩;have⟨j,b,rfl⟩:=RX D;show⟨_,Ms (l▸b),by rw[q j (l▸b)];simpa[b] using G⟩
 rcases ha with ha|ha
 .obtain⟨d,rv,p,_⟩:=tN I (i▸ha);have⟨e,f,g⟩:=go d rv;cases neg with
  |false=>show SeqAt.in_listAt e p f (by rw[g];show q)
  |true=>show SeqAt.notIn_listAt e p f (by rw[g];show q)
 .rw[i]at ha;obtain⟨d,rv,p,_⟩:=I.tuple ha;have⟨e,f,g⟩:=go d rv;cases neg with
  |false=>show SeqAt.in_tupleAt e p f (by rw[g];show q)
  |true=>show SeqAt.notIn_tupleAt e p f (by rw[g];show q)
end
section
theorem cI:∀{us:List U}{ss:List Str},strsOf us=a5 ss->us=ss.map .str
 |[],ss,h=>by cases h;rfl
 |.str x::us,ss,h=>by
  simp only[strsOf,ez]at h;have⟨t,a,rfl⟩:=h;rw[cI a];rfl
 |.HX::_,_,h=>by cases h
 |.bl _::_,_,h=>by cases h
 |.int _::_,_,h=>by cases h
 |.tup _::_,_,h=>by cases h
 |.lst _::_,_,h=>by cases h
 |.HP _ _::_,_,h=>by cases h
theorem jJ:∀{us:List U}{ns:List Int},intsOf us=a5 ns->us=ns.map .int
 |[],ns,h=>by cases h;rfl
 |u::us,ns,h=>by
  cases u<;>first|(cases h;done)|skip
  rename_i x;have h':(intsOf us).map (x::·)=a5 ns:=h;rw[ez]at h';have⟨ms,e,rfl⟩:=h';rw[jJ e];rfl
theorem ar.ints{S:hH->Prop}:∀{ns:List Int}{vs:List V},ar C S H (ns.map .int) vs->vs=ns.map V.int
 |[],vs,h=>h
 |n::ns,vs,h=>by
  have⟨v,r,rfl,a,b⟩:=h;rw[ar.ints b];have:v=.int n:=a;rw[this];rfl
theorem ic:∀{us:List U}{ss:List Bool},fQ us=a5 ss->us=ss.map .bl
 |[],ss,h=>by cases h;rfl
 |.bl x::us,ss,h=>by
  simp only[fQ,ez]at h;have⟨t,a,rfl⟩:=h;rw[ic a];rfl
 |.HX::_,_,h=>by cases h
 |.str _::_,_,h=>by cases h
 |.int _::_,_,h=>by cases h
 |.tup _::_,_,h=>by cases h
 |.lst _::_,_,h=>by cases h
 |.HP _ _::_,_,h=>by cases h
theorem ar.S_{S:hH->Prop}:∀{xs:List Bool}{vs:List V},ar C S H (xs.map .bl) vs->vs=xs.map V.bl
 |[],vs,h=>h
 |x::xs,vs,h=>by
  have⟨v,r,rfl,a,b⟩:=h;rw[ar.S_ b];have:v=.bl x:=a;rw[this];rfl
abbrev DW(X:Cx)(a:List (hH×Obj))(c:Cf)(b:Bool)(v:dV)(s':hW):Prop:=v=.bool b/\Inv X a c.σ c.H s'
def iR(o:JV X f r)(I:Inv X a c.σ c.H s)(g:RelV d v)(i:RelV e u)(h:r d e c.H λx H'=>x=.bl b/\H'=c.H):
  g9 (i5 X.prog X.w) X.A (f v u) (DW X a c b) X.xe s :=
 HS (o a s c.σ c.H d e v u _ I g i h) λw s' j=>by
  have⟨z,H',k,r,l,e2⟩:=j;subst l e2;show⟨r,k⟩
def aH.dict(g:Ok C c)(h:aH C c0 c k (.HP ks us) v):∃a kvs,v=.ref a/\c.H a=a5 (.dK kvs)/\kvs.map (·.1)=ks.map sL/\ar C (SK C c k) c.H us (kvs.map (·.2)):=by
 cases k with
 |own=>obtain⟨r,e,_,_,_,kvs,b,d,f⟩:=h;show⟨r,kvs,e,b,d,f⟩
 |bor j=>obtain⟨r,e,_,_,_,kvs,b,d,f⟩:=g.rootOf h.1 h.2;show⟨r,kvs,e,b,d,f⟩
 |io=>show h.elim
 |A'=>show h.elim
 |_=>obtain⟨a,e,_,kvs,b,d,f⟩:=h;show⟨a,kvs,e,b,d,f⟩
theorem dA{S:hH->Prop}:∀{ks:List Str}{us:List U}{kvs:List (Key×V)},kvs.map (·.1)=ks.map sL->ar C S H us (kvs.map (·.2)) ->
  (∀u,dE ks us x=a5 u->∃v,dr kvs (sL x)=a5 v/\Rep C S H u v)/\(dr kvs (sL x)).isSome=cK (x∈ks)
 |[],us,kvs,a,b=>by
  have:kvs=[]:=by simpa using a
  subst this;show⟨λu h=>by cases us<;>simp[dE]at h,by simp[dr]⟩
 |k::ks,us,[],a,b=>by simp at a
 |k::ks,[],p::kvs,a,b=>by simp[ar]at b
 |k::ks,u0::us,p::kvs,a,b=>by
  have⟨v,r,e,d,f⟩:=b;rw[il]at e;cases e;rw[il,il,Ru]at a;have⟨g,i⟩:=dA (x:=x) a.2 f;by_cases hk:k=x
  .subst hk;show⟨λu h=>?_,?_⟩
   .simp[dE]at h;subst h;show⟨p.2,eB a.1,d⟩
   .rw[eB a.1];simp
  .have c:¬p.1=sL x:=by rw[a.1];intro z;show hk (Va z)
   show⟨λu h=>?_,?_⟩
   .simp[dE,hk]at h;have⟨v,e,q⟩:=g u h;show⟨v,by rw[eC c];show e,q⟩
   .rw[eC c,i];simp[tv hk]
def xM(hP:C.P=X.prog)(hw:C.w=X.w)(o:C.K=X.K)(L:X.A.units+60<L_)(t:PQ C c0 c x y D N)(I:Inv X i c.σ c.H s)(e:RelV D v)(g:RelV N u)(h:bG op x.2 y.2=a5 b):
  g9 (i5 X.prog X.w) X.A (O9 op.op v u) (DW X i c b) X.xe s:=by
 obtain⟨hσ,d,n,m,j,_⟩:=t;have⟨kx,Q⟩:=x;have⟨ky,T⟩:=y
 dsimp only at h m j
 have q:∀neg:Bool,∀p,Ax Q T=a5 p->g9 (i5 X.prog X.w) X.A (O9 (if neg then .NotIn else .In) v u) (DW X i c (if neg then !p else p)) X.xe s:=by
  intro neg p h;have B:=m.read d;have G:=j.read d;unfold Ax at h;split at h
  .have⟨a,vs,rfl,l,r⟩:=G;cases g;unfold Nh at h;split at h
   .rename_i f;cases h;show FP I o L B e r (.inl l.sq) f.1 f.2 ⟨by cases neg<;>rfl,I⟩
   .cases h
  .have⟨a,vs,rfl,l,r⟩:=G;cases g;unfold Nh at h;split at h
   .rename_i f;cases h;show FP I o L B e r (.inr l) f.1 f.2 ⟨by cases neg<;>rfl,I⟩
   .cases h
  .cases h;have ex:D=_:=B;have O:N=_:=G;cases neg with
   |false=>show iR uW I e g ⟨_,_,ex,O,rfl,rfl⟩
   |true=>show iR nQ I e g ⟨_,_,ex,O,rfl,rfl⟩
  .cases h;have ex:D=_:=B;have⟨a,kvs,rfl,l,r,Y⟩:=j.dict d;cases g;subst ex;have hs:=λz:Str=>(dA (x:=z) r Y).2;cases neg with
   |false=>show FG ⋯ I (d9.k (k:=sL _) l) e λs' J=>⟨by rw[hs];rfl,J⟩
   |true=>show sV ⋯ I (d9.k (k:=sL _) l) e λs' J=>⟨by rw[hs];rfl,J⟩
  .cases h
 unfold bG at h;split at h
 .split at h
  .rename_i f;cases h;show(DT (n:=50) (.of I o _ _ _ _ f.1 (m.read d) e) (.of I o _ _ _ _ f.2 (j.read d) g) ⋯).1 _ _ _ _ ⟨rfl,I⟩
  .cases h
 .split at h
  .rename_i f;cases h;show(DT (n:=50) (.of I o _ _ _ _ f.1 (m.read d) e) (.of I o _ _ _ _ f.2 (j.read d) g) ⋯).2 _ _ _ _ ⟨rfl,I⟩
  .cases h
 .cases h;show iR Fq I e g ⟨_,_,m.int d,j.int d,rfl,rfl⟩
 .cases h;show iR Fs I e g ⟨_,_,m.int d,j.int d,rfl,rfl⟩
 .cases h;show iR Ft I e g ⟨_,_,m.int d,j.int d,rfl,rfl⟩
 .show q cb b h
 .rw[ez]at h;have⟨p,l,rfl⟩:=h;show q bD p l
 .cases h
def AL(f:C.P=X.prog)(g:C.w=X.w)(i:C.K=X.K)(j:X.A.units+60<L_)(k:PE X a (HW C l))(m:PE X b (HW C n))(o:O_ op.op b=cb):
  PE X (.Compare a [op.op] [b] pos) (HW C (l >>= λx=>n >>= λy=>aw [x,y] >>= λ_=>M.Il (bG op x.2 y.2) >>= λc=>pure (.loc,.bl c))):=by
 rintro d s σ H Q I ⟨c0,rfl,rfl,p,h⟩;show ģ (two k m I p h λx y c N O v u s2 t B D G w=>?_) o;rw[ah]at w;have⟨r,e,q⟩:=cH.mp w;rw[ao]at q;show HS (xM f g i j t B D G e) λz s' J=>?_;have⟨e,L⟩:=J;subst e;show⟨.bl r,c.H,by rw[<-t.hσ];show L,rfl,q c (.bl r) t.hσ rfl t.ok t.nx rfl⟩
def AM(g:C.P=X.prog)(i:C.w=X.w)(j:C.K=X.K)(k:X.A.units+60<L_)(l:PE X a (HW C m))(n:PE X b (HW C o))(p:O_ op.op b=cb):
  PT X (.Compare a [op.op] [b] pos) (Jz C (m >>= λx=>o >>= λy=>aw [x,y] >>= λ_=>M.Il (bG op x.2 y.2))):=by
 rintro d s σ H Q I ⟨c0,rfl,rfl,B,h⟩;show Ul (two (f:=λv u=>O9 op.op v u) (Q':=λ_ _ c s=>g9 (i5 X.prog X.w) X.A (Ĥ c) (TP X d c0.σ Q) X.xe s) l n I B h λx y c O T v u s2 t D G J w=>?_) p;have⟨r,e,q⟩:=cH.mp w;show HS (xM g i j k t D G J e) λz s' L=>?_;have⟨e,N⟩:=L;subst e;show JS ⟨c.H,by rw[<-t.hσ];show N,q c t.hσ rfl t.ok t.nx⟩
end
section
abbrev FQ(C:Ct)(c0:Cf)(Q:Bool->Hp->Prop)(b:Bool)(st':au):Prop:=∀c,c.σ=c0.σ->c.st=st'->Ok C c->Nx c0 c->Q b c.H
def xN(b:a.σ=c0.σ)(c:Ok C a)(n:Nx c0 a)(h:W m a.st (cu C c0 Q)):HW C m c0.σ a.H Q :=
 ⟨a,b,rfl,c,h.mono λr st d e v f g i j r2=>d e v f g i (n.trans j) (r2.from n)⟩
def xO(b:a.σ=c0.σ)(c:Ok C a)(n:Nx c0 a)(h:W m a.st (FQ C c0 Q)):Jz C m c0.σ a.H Q :=
 ⟨a,b,rfl,c,h.mono λr st d e f g i j=>d e f g i (n.trans j)⟩
def aD(a:Ok C c0)(h:W (b >>= k) c0.st Post)
  (hz:∀x c v,PR C c0 c x v->W (k x) c.st Post->Z v c.H):HW C b c0.σ c0.H Z:=by
 rw[ah]at h;show⟨c0,rfl,rfl,a,h.mono λx st1 d e f g e2 i j r1=>hz x e f ⟨g,i,j,r1⟩ (by rw[e2];show d)⟩
def fW(a:Ok C c0)(h:W (d >>= k) c0.st Post)
  (hz:∀b c,c.σ=c0.σ->Ok C c->Nx c0 c->W (k b) c.st Post->Z b c.H):Jz C d c0.σ c0.H Z:=by
 rw[ah]at h;show⟨c0,rfl,rfl,a,h.mono λx st1 e f g e2 i j=>hz x f g i j (by rw[e2];show e)⟩
abbrev FR(m:M (Kd×U))(x:Kd×U):M (Kd×U):=match x.2 with
 |.bl bD=>m
 |.bl cb=>pure (.loc,.bl cb)
 |_=>M.fail
abbrev U9(m:M (Kd×U))(x:Kd×U):M (Kd×U):=match x.2 with
 |.bl bD=>pure (.loc,.bl bD)
 |.bl cb=>m
 |_=>M.fail
abbrev FT(x:Kd×U):M (Kd×U):=match x.2 with
 |.bl c=>pure (.loc,.bl !c)
 |_=>M.fail
def snd_and(i:PE X a (HW C j))(l:PE X (.BoolOp .And (b::d) pos) (HW C m)):PE X (.BoolOp .And (a::b::d) pos) (HW C (j >>= FR m)):=by
 show PE.weak (CT i l) ?_;rintro σ H Q ⟨c0,rfl,rfl,o,h⟩;show aD o h λx c v t w=>?_;have⟨k,u⟩:=x;have⟨g,f,n,r⟩:=t;unfold FR at w;split at w
 .rename_i e
  dsimp only at e r
  subst e;show⟨bD,r.bl f,by rw[Ĺ rfl];show xN g f n w⟩
 .rename_i e
  dsimp only at e r
  subst e;rw[ao]at w;show⟨cb,r.bl f,by rw[ĺ mx];show w c (.bl cb) g rfl f n rfl⟩
 .show(ba.mp w).elim
def DX(i:PE X a (HW C j))(l:PE X (.BoolOp .Or (b::d) pos) (HW C m)):PE X (.BoolOp .Or (a::b::d) pos) (HW C (j >>= U9 m)):=by
 show PE.weak (Fc i l) ?_;rintro σ H Q ⟨c0,rfl,rfl,o,h⟩;show aD o h λx c v t w=>?_;have⟨k,u⟩:=x;have⟨g,f,n,r⟩:=t;unfold U9 at w;split at w
 .rename_i e
  dsimp only at e r
  subst e;rw[ao]at w;show⟨bD,r.bl f,by rw[Ĺ rfl];show w c (.bl bD) g rfl f n rfl⟩
 .rename_i e
  dsimp only at e r
  subst e;show⟨cb,r.bl f,by rw[ĺ mx];show xN g f n w⟩
 .show(ba.mp w).elim
def AN(d:PE X a (HW C f)):PE X (.UnaryOp .Not a pos) (HW C (f >>= FT)):=by
 show PE.weak (CU d) ?_;rintro σ H Q ⟨c0,rfl,rfl,g,h⟩;show aD g h λx c v t w=>?_;have⟨k,u⟩:=x;have⟨i,b,n,r⟩:=t;unfold FT at w;split at w
 .rename_i e
  dsimp only at e r
  subst e;rw[ao]at w;show⟨_,r.bl b,w c (.bl _) i rfl b n rfl⟩
 .show(ba.mp w).elim
def AO(d:PE X a (HW C f)):PE X (.UnaryOp .USub a pos) (HW C (f >>= λx=>M.Il (AG x))):=by
 show PE.weak (Cg wD d) ?_;rintro σ H Q ⟨c0,rfl,rfl,g,h⟩;show aD g h λx c v t w=>?_;have⟨k,u⟩:=x;have⟨i,b,n,r⟩:=t;have⟨j,e,w⟩:=cH.mp w;unfold AG at e;split at e
 .rename_i q;cases q;cases e;show⟨_,r.int b,w c (.int _) i rfl b n rfl⟩
 .cases e
def AQ(d:PT X a (Jz C e)):PT X (.UnaryOp .Not a pos) (Jz C (e >>= λb=>pure !b)):=by
 show PT.weak (CS d) ?_;rintro σ H Q ⟨c0,rfl,rfl,f,h⟩;show fW f h λp c g i n w=>?_;rw[ao]at w;show w c g rfl i n
def AR(i:PT X a (Jz C j))(k:PW X (.BoolOp .And (b::d) pos) (Jz C tb)):PW X (.BoolOp .And (a::b::d) pos) (Jz C (j >>= λp=>if p=bD then tb else pure cb)):=by
 have l:=CQ i k;rintro m e s σ H Q I ⟨c0,rfl,rfl,o,h⟩;show l m e s c0.σ c0.H Q I (fW o h λp c f g n w=>?_);cases p with
 |true=>rw[Ĺ rfl]at w ⊢;show xO f g n w
 |false=>rw[ĺ mx]at w ⊢;rw[ao]at w;show w c f rfl g n
def DY(i:PT X a (Jz C j))(k:PW X (.BoolOp .Or (b::d) pos) (Jz C tb)):PW X (.BoolOp .Or (a::b::d) pos) (Jz C (j >>= λp=>if p=bD then pure bD else tb)):=by
 have l:=E9 i k;rintro m e s σ H Q I ⟨c0,rfl,rfl,o,h⟩;show l m e s c0.σ c0.H Q I (fW o h λp c f g n w=>?_);cases p with
 |true=>rw[Ĺ rfl]at w ⊢;rw[ao]at w;show w c f rfl g n
 |false=>rw[ĺ mx]at w ⊢;show xO f g n w
def tQ{us:List α}{vs:List β}(h:us.length=vs.length):(!us.isEmpty)=!vs.isEmpty:=by
 cases us<;>cases vs<;>simp_all
def j6(j:PE X a (HW C l))(i:C.K=X.K)(m:∀b,isTrue a X.env b=(do let v <-b;S5 a.pos;L8 [v] (Ĥ v))):PT X a (Jz C (l >>= λx=>M.Il (rH x.2))):=by
 show PT.weak (wF j m) ?_;rintro σ H Q ⟨c0,rfl,rfl,o,h⟩;show aD o h λx c v t w=>?_;have⟨k,u⟩:=x;have⟨s,d,n,r⟩:=t;have⟨p,e,q⟩:=cH.mp w
 dsimp only at e r
 show⟨p,?_,q c s rfl d n⟩;unfold rH at e;split at e
 .cases e;rw[r.bl d];rfl
 .cases e;have⟨a,vs,rfl,f,g⟩:=r.list d;show .inl ⟨vs,i▸f,tQ g.len⟩
 .cases e;have⟨a,vs,rfl,f,g⟩:=r.tuple d;rw[i]at f;show .inr (.inl ⟨vs,f,tQ g.len⟩)
 .split at e
  .cases e;rw[r.str d];show⟨by assumption,rfl⟩
  .cases e
 .cases e
end
section
def cB.from(n:Nx c0 a):cB C a c rs vs->cB C c0 c rs vs:=by
 intro h;induction rs generalizing vs with
 |nil=>show h
 |cons r rs b=>have⟨v,t,e,d,f,g⟩:=h;show⟨v,t,e,d.from n,b f,g⟩
def cB.get{i:Nat}(h:cB C c0 c rs vs)(e:rs[i]?=a5 r)(a:vs[i]?=a5 v):fP C c0 c r.1 r.2 v:=by
 induction rs generalizing vs i with
 |nil=>simp at e
 |cons g rs b =>
  have⟨v',t,rfl,d,f,j⟩:=h;cases i with
  |zero=>simp at e a;subst e a;show d
  |succ i=>show b f (by simpa using e) (by simpa using a)
def AS:PA X [] (Jh C (pure [])):=by
 rintro pos a s σ H Q I ⟨c0,rfl,rfl,b,h⟩;rw[ao]at h;show dB pos a s c0.σ c0.H Q I (h c0 [] rfl rfl b (Nx.refl c0) rfl)
def xP(f:PE X e (HW C m))(g:PA X es (Jh C ms))(hs:js (e::es) X.env=(cb,vr e X.env)::js es X.env):PA X (e::es) (Jh C (m >>= λr=>ms >>= λrs=>pure (r::rs))):=by
 rintro pos a s σ H Q I ⟨c0,rfl,rfl,j,h⟩;show cP f g hs pos a s c0.σ c0.H Q I (aD j h λr k v t w=>?_);rw[ah]at w;show⟨k,t.hσ,rfl,t.ok,w.mono λrs st2 b l vs c n o d r2=>?_⟩;rw[ao]at b;show b l (v::vs) c n o (t.nx.trans d) ⟨v,vs,rfl,t.rx.w.on t.ok d (c.trans t.hσ.symm),r2.from t.nx,λhk i x v' p q u=>?_⟩;show lj t.rx.w (r2.get p q) hk u
structure JI(C:Ct)(c0 c:Cf)(rs:List (Kd×U))(vs:List V):Prop where
 hσ:c.σ=c0.σ
 ok:Ok C c
 nx:Nx c0 c
 rep:cB C c0 c rs vs
 MK:bo rs c.st
def args{k:List (Kd×U)->M β}{Post:β->au->Prop}(f:PA X es (Jh C ms))(I:Inv X a c0.σ c0.H s)(g:Ok C c0)(h:W (ms >>= λrs=>aw rs >>= λ_=>k rs) c0.st Post)(pos:Pos):
  g9 (i5 X.prog X.w) X.A (Z6 (Hf pos (js es X.env))) (λus s1=>∃rs c vs,JI C c0 c rs vs/\Inv X a c.σ c.H s1/\Vals vs us/\W (k rs) c.st Post) X.xe s:=by
 rw[ah]at h;show HS (f pos a s c0.σ c0.H (λvs e=>∃rs c,c.H=e/\JI C c0 c rs vs/\W (k rs) c.st Post) I ⟨c0,rfl,rfl,g,h.mono λrs st1 b d vs i e2 j l r1=>?_⟩) ?_
 .rw[ah,bY]at b;subst e2;show⟨rs,d,rfl,⟨i,j,l,r1,b.1⟩,b.2⟩
 .rintro us s1 ⟨vs,e,m,rv,rs,d,rfl,t,w⟩;show⟨rs,d,vs,t,by rw[t.hσ];show m,rv,w⟩
def JI.one(t:JI C c0 c [r] vs):∃v,vs=[v]/\aH C c0 c r.1 r.2 v:=by
 obtain⟨v,t',rfl,a,b,_⟩:=t.rep;cases b;show⟨v,rfl,a.t t.MK⟩
def JI.two(t:JI C c0 c [r,a] vs):∃v v',vs=[v,v']/\aH C c0 c r.1 r.2 v/\aH C c0 c a.1 a.2 v':=by
 obtain⟨v,t',rfl,b,⟨v',f,rfl,d,e,_⟩,_⟩:=t.rep;cases e;have hs:=eJ.mp t.MK;show⟨v,v',rfl,b.t hs.1,d.t hs.2⟩
def Ok.share(b:Ok C c)(g:C.H₀ r=b6)(h:∃o,c.H r=a5 o)(hl:st'.length=c.st.length)
  (d:∀(i:Nat) k u,st'[i]?=a5 (a5 (k,u))->(∃v,c.σ[i]?=a5 (a5 v)/\fO C (λa=>c.S a\/a=r) c.H k u v)/\(k.root=bD->c.st[i]?=a5 (a5 (k,u)))) (l:K9 C {c with S:=λa=>c.S a\/a=r,st:=st' }) :
  Ok C {c with S:=λa=>c.S a\/a=r,st:=st' }:=by
 show⟨b.same,λa z=>?_,b.par,b.io,by rw[show({c with S:=λa=>c.S a\/a=r,st:=st' }:Cf).st.length=st'.length from rfl,hl];show b.len,λi k u e=>(d i k u e).1,λi j k k' u u' m hk f n e2 p q=>?_,l⟩
 .rcases z with z|rfl
  .show b.JY a z
  .show⟨g,h⟩
 .show b.inj i j k k' u u' m hk f ((d i k u n).2 hk) ((d j k' u' e2).2 f) p q
def Ok.DZ(m:Ok C c0)(b:Ok C c)(n:Nx c0 c)(d:c0.H r=b6)(f:¬c.R r)(p:cO C c.S c.H r u):
  Ok C {c with S:=λa=>c.S a\/a=r}/\Nx c0 {c with S:=λa=>c.S a\/a=r}:=by
 obtain⟨o,ho,_⟩:=p.some;show⟨b.share (st':=c.st) (m.gO d).1 ⟨o,ho⟩ rfl (λi k u e=>⟨?_,λ_=>e⟩) (b.dd.hs (.up λa=>.inl) λj a z=>⟨λq=>q.elim (b.root (.inr ⟨j,z⟩)).1 λe=>f (.inr ⟨j,e▸z⟩),λo q=>q⟩),⟨⟨n.keep,n.there,n.roots,λa z=>.inl (n.sub a z),λa z=>?_⟩⟩⟩
 .have⟨v,g,e2⟩:=b.sl i k u e;have s:Mv c.S c.H (λa=>c.S a\/a=r) c.H:=.up λa=>.inl;show⟨v,g,e2.mv s (.up λa z=>z.imp id .inl) λhk w h=>⟨?_,λo q=>q⟩⟩;obtain⟨x,l,t,_⟩:=e2.rt hk;rw[h]at l;cases l;rintro(z|rfl)
  .show t z
  .show f (.inl ⟨i,k,u,hk,e,by rw[g,h]⟩)
 .rcases z with z|rfl
  .show n.new a z
  .show .inr (.inr d)
def Ok.xQ(d:Ok C c)(n:Nx c0 c)(g:c.st[j]?=a5 (a5 (.own,u)))(h:c.σ[j]?=a5 (a5 (.ref r))):
  Ok C {c with S:=λa=>c.S a\/a=r,st:=c.st.set j (a5 (.loc,u))}/\Nx c0 {c with S:=λa=>c.S a\/a=r,st:=c.st.set j (a5 (.loc,u))}/\Rep C (λa=>c.S a\/a=r) c.H u (.ref r):=by
 have⟨v',f,l,m,Q,T,B,w⟩:=d.sl j _ _ g;rw[h]at f;cases f;cases m;have x:Rep C (λa=>c.S a\/a=r) c.H u (.ref r):=w.rep (λa=>.inl) (.inr rfl);obtain⟨o,ho,_⟩:=w.some;have p:j<c.st.length:=(d4.mp g).1;have s:∀(i:Nat) k u',(c.st.set j (a5 (.loc,u)))[i]?=a5 (a5 (k,u'))->i≠j->c.st[i]?=a5 (a5 (k,u')):=λi k u' e D=>by rw[i7 (tv D)]at e;show e
 have G:c.R1 r:=⟨j,.own,u,rfl,g,h⟩
 have y:∀(i:Nat) (u':U),(c.st.set j (a5 (.loc,u)))[i]?=a5 (a5 (.A',u'))->c.st[i]?=a5 (a5 (.A',u')):=λi u' e=>by
  by_cases b:i=j
  .subst b;rw[d6 p]at e;cases e
  .show s i .A' u' e b
 have b1:∀a,({c with S:=λa=>c.S a\/a=r,st:=c.st.set j (a5 (.loc,u))}:Cf).R1 a->c.R1 a:=λa I=>by
  have⟨i,k,u',hk,e,J⟩:=I;by_cases b:i=j
  .subst b;rw[d6 p]at e;cases e;cases hk
  .show⟨i,k,u',hk,s i k u' e b,J⟩
 have L:K9 C {c with S:=λa=>c.S a\/a=r,st:=c.st.set j (a5 (.loc,u))}:=d.dd.of rfl (λi u' e=>⟨y i u' e,rfl⟩) (λa z=>.inl (b1 a z)) (.up λa=>.inl) λi a z=>⟨λq=>q.elim (d.root (.inr ⟨i,z⟩)).1 λe=>d.dd.d1 i a z (e▸G),λo q=>q⟩
 show⟨d.share (st':=c.st.set j (a5 (.loc,u))) B ⟨o,ho⟩ (by simp) (λi k u' e=>?_) L,⟨⟨n.keep,n.there,λa z=>?_,λa z=>.inl (n.sub a z),λa z=>?_⟩⟩,x⟩
 .by_cases b:i=j
  .subst b;rw[d6 p]at e;cases e;show⟨⟨.ref r,h,x⟩,λz=>nomatch z⟩
  .have t:=s i k u' e b;have⟨v,f,e2⟩:=d.sl i k u' t;show⟨⟨v,f,e2.mv (.up λa=>.inl) (.up λa z=>z.imp id .inl) λhk l m=>⟨?_,λo q=>q⟩⟩,λ_=>t⟩;obtain⟨Y,A,N,_⟩:=e2.rt hk;rw[m]at A;cases A;rintro(z|rfl)
   .show N z
   .show b (d.inj i j k .own u' u l hk rfl t g (by rw[f,m]) h)
 .rcases z with z|⟨i,u',l,f,e2,O⟩
  .show n.roots a (.inl (b1 a z))
  .show n.roots a (.inr ⟨i,u',l,y i u' f,e2,O⟩)
 .rcases z with z|rfl
  .show n.new a z
  .rcases n.roots a (.inl ⟨j,.own,u,rfl,g,h⟩) with z|z
   .show .inr (.inl z)
   .show .inr (.inr z)
def gA(A:Ok C c0)(b:Ok C c)(n:Nx c0 c)(d:fP C c0 c r.1 r.2 v)(h:W (lift r) c.st Post):
  ∃(S':hH->Prop) (st':au) (u:U),(∀a,c.S a->S' a)/\Ok C {c with S:=S',st:=st' }/\Nx c0 {c with S:=S',st:=st' }/\Rep C S' c.H u v/\Post u st' /\
   (∀a,S' a->c.S a\/v=.ref a/\(r.1=.own\/c.R a))/\∀a,({c with S:=S',st:=st' }:Cf).R a->c.R a:=by
 have⟨k,u⟩:=r;cases k with
 |own =>
  rw[show lift (.own,u)=pure u from rfl,ao]at h;have⟨r,e,B,N,D,t⟩:=d;have⟨l,m⟩:=Ok.DZ A b n B D t;show⟨_,c.st,u,λa=>.inl,l,m,by rw[e];show t.rep (λa=>.inl) (.inr rfl),h,λa z=>?_,λa z=>z⟩;rcases z with z|rfl
  .show .inl z
  .show .inr ⟨e,.inl rfl⟩
 |loc =>
  rw[show lift (.loc,u)=pure u from rfl,ao]at h;show⟨c.S,c.st,u,λa=>id,b,n,d,h,λa z=>.inl z,λa z=>z⟩
 |any =>
  rw[show lift (.any,u)=if Ig u=bD then pure u else M.fail from rfl]at h;split at h
  .rw[ao]at h;show⟨c.S,c.st,u,λa=>id,b,n,Rep.Ig (by assumption) d,h,λa z=>.inl z,λa z=>z⟩
  .show(ba.mp h).elim
 |bor j =>
  have⟨x,st',e,G⟩:=h;rw[show lift (.bor j,u) c.st=match c.st[j]? with|some (a5 (.own,u))=>a5 (Ex.ok u,c.st.set j (a5 (.loc,u)))|_=>b6 from rfl]at e;split at e
  .rename_i w f;cases e;obtain⟨v',y,r,I,_⟩:=b.sl j _ _ f;have o:c.σ[j]?=a5 (a5 v):=d;rw[o]at y;cases y;subst I;have⟨l,m,p⟩:=b.xQ n f o;show⟨_,_,_,λa=>.inl,l,m,p,G,λa z=>?_,λa z=>?_⟩
   .rcases z with z|rfl
    .show .inl z
    .show .inr ⟨rfl,.inr (.inl ⟨j,.own,_,rfl,f,o⟩)⟩
   .rcases z with⟨i,k,u',hk,e,q⟩|⟨i,u',J,e,q,L⟩
    rotate_left 1
    .by_cases g:i=j
     .subst g;have s:i<c.st.length:=(d4.mp f).1;rw[d6 s]at e;cases e
     .rw[i7 (tv g)]at e;show .inr ⟨i,u',J,e,q,L⟩
    by_cases g:i=j
    .subst g;have s:i<c.st.length:=(d4.mp f).1;rw[d6 s]at e;cases e;cases hk
    .rw[i7 (tv g)]at e;show .inl ⟨i,k,u',hk,e,q⟩
  .cases e
 |_=>show d.elim
theorem iS:∀{rs:List (Kd×U)}{vs:List V}{c:Cf}{Post:List U->au->Prop},Ok C c0->Ok C c->Nx c0 c->cB C c0 c rs vs->W (de rs) c.st Post ->
  ∃(S':hH->Prop) (st':au) (us:List U),(∀a,c.S a->S' a)/\Ok C {c with S:=S',st:=st' }/\Nx c0 {c with S:=S',st:=st' }/\ar C S' c.H us vs/\Post us st'
 |[],vs,c,Post,j,k,n,m,h=>by
  rw[show de []=pure [] from rfl,ao]at h;show⟨c.S,c.st,[],λa=>id,k,n,m,h⟩
 |r::rs,vs,c,Post,j,k,n,m,h=>by
  have⟨v,t,rfl,G,I,J⟩:=m;rw[show de (r::rs)=lift r >>= λu=>de rs >>= λus=>pure (u::us) from rfl,ah]at h;have⟨S1,st1,u,s1,L,N,b,p,O,Q⟩:=gA j k n G h;rw[ah]at p;have T:cB C c0 {c with S:=S1,st:=st1} rs t:=by
   clear h p;have s:∀(l:List (Kd×U)) (w:List V),cB C c0 c l w->(r.1=.own->∀(i:Nat) f v',l[i]?=a5 f->w[i]?=a5 v'->f.1=.own->v'≠v)->cB C c0 {c with S:=S1,st:=st1} l w:=by
    intro l;induction l with
    |nil=>intro w q _;show q
    |cons r2 l Y =>
     intro w q x;have⟨y,A,rfl,g,q2,q3⟩:=q;show⟨y,A,rfl,?_,Y A q2 (λhk i f v' e1 e2 IY=>x hk (i+1) f v' (by simpa using e1) (by simpa using e2) IY),q3⟩;have⟨k2,u2⟩:=r2;cases k2 with
     |own =>
      have⟨a,e,p1,p2,B,p4⟩:=g;show⟨a,e,p1,λz=>?_,λz=>B (Q a z),p4.mv (.up s1) λo q=>q⟩;rcases O a z with z|⟨z,z'|z'⟩
      .show p2 z
      .show x z' 0 _ y rfl rfl rfl (e.trans z.symm)
      .show B z'
     |loc=>show Rep.mv (.up s1) g
     |any=>show Rep.mv (.up λa z=>z.imp id (s1 a)) g
     |_=>show g
   show s rs t I J
  have⟨S2,st2,us,s2,Iu,n2,d,D⟩:=iS (c:={c with S:=S1,st:=st1}) j L N T p;rw[ao]at D;show⟨S2,st2,u::us,λa z=>s2 a (s1 a z),Iu,n2,⟨v,t,rfl,b.mv (.up s2),d⟩,D⟩
def AU(j:PA X es (Jh C ms)):PE X (.Tuple es p pos) (HW C (ms >>= λrs=>aw rs >>= λ_=>de rs >>= λus=>if us.length<=cL then pure (.loc,.tup us) else M.fail)):=by
 rintro a s σ H Q I ⟨c0,rfl,rfl,g,h⟩;show é (HS (args j I g h pos) λus s1 k=>?_);have⟨rs,c,vs,t,i,rv,w⟩:=k;rw[ah]at w;have⟨S',st',ws,q,l,m,d,f⟩:=iS g t.ok t.nx t.rep w;split at f
 .rename_i hz;rw[ao]at f;have hl:vs.length<=cL:=by rw[<-d.len];show hz
  show⟨by rw[<-rv.length];show hl,?_⟩;have n:c.H s1.heap.objs.size=b6:=i.HR.fresh (hY _);have o:Inv X a c0.σ c.H s1:=by rw[<-t.hσ];show i
  show⟨.ref s1.heap.objs.size,upd c.H s1.heap.objs.size (.tup vs),o.laid (t':=s1.toks) (λb u e=>c4 _ e) (hY _) ⟨hl,us,rv,YI _ _⟩,rfl,?_⟩;show cu.tup (c:={c with S:=S',st:=st' }) f t.hσ l m d _ n
 .show(ba.mp f).elim
def AV(j:PA X es (Jh C ms)):PE X (.List es pos) (HW C (ms >>= λrs=>aw rs >>= λ_=>de rs >>= λus=>if us.length<=cL then pure (.own,.lst us) else M.fail)):=by
 rintro a s σ H Q I ⟨c0,rfl,rfl,g,h⟩;show ñ (HS (args j I g h pos) λus s1 k=>?_);have⟨rs,c,vs,t,i,rv,w⟩:=k;rw[ah]at w;have⟨S',st',ws,p,l,m,d,f⟩:=iS g t.ok t.nx t.rep w;split at f
 .rename_i hz;rw[ao]at f;have hl:vs.length<=cL:=by rw[<-d.len];show hz
  show⟨by rw[<-rv.length];show hl,?_⟩;have n:c.H s1.heap.objs.size=b6:=i.HR.fresh (hY _);have o:Inv X a c0.σ c.H s1:=by rw[<-t.hσ];show i
  show⟨.ref s1.heap.objs.size,upd c.H s1.heap.objs.size (.lst vs),o.laid (t':=s1.toks) (λb u e=>c4 _ e) (hY _) ⟨hl,us,0,rv,fx _ rfl⟩,rfl,?_⟩;show cu.list (c:={c with S:=S',st:=st' }) f t.hσ l m d _ n
 .show(ba.mp f).elim
end
section
def om(c:X.N[i]?=a5 x)(d:Jg X.env.scope x)(f:(x==("__debug__":Str))=cb)(g:(x==("__classdict__":Str))=cb):PE X (.Name x pos) (HW C (dg i)):=by
 show PE.weak (aX c d f g) ?_;rintro σ H Q ⟨c0,rfl,rfl,a,r,st',e,h⟩;unfold dg at e;split at e
 .cases e
 .rename_i k u l hs;cases e;have⟨v,b,e2⟩:=a.sl i k u hs;show⟨v,b,h c0 v rfl rfl a (Nx.refl c0) ?_⟩;by_cases hk:k.root=bD
  .rw[Ĺ hk];show⟨⟨k,hk,hs⟩,b⟩
  .rw[ĺ hk];cases k with
   |loc=>show e2
   |any=>show e2
   |bor j=>show e2.elim
   |A'=>show(l rfl).elim
   |_=>show absurd rfl hk
 .cases e
def iT(h:PE X e (tC v))(r:∀S H,Rep C S H u v):PE X e (HW C (pure (.loc,u))):=by
 show PE.weak h ?_;rintro σ H Q ⟨c0,rfl,rfl,a,h⟩;rw[ao]at h;show h c0 v rfl rfl a (Nx.refl c0) (r _ _)
def cu.root(h:cu C c0 Q (.own,u) c.st)(d:c.σ=c0.σ)(b:Ok C c)(n:Nx c0 c)(p:hH)(a:c.H p=b6)(r:cO C c.S (upd c.H p o) p u):Q (.ref p) (upd c.H p o):=by
 have⟨e,f⟩:=b.lay (o:=o) a;have⟨j,g,k,l,i⟩:=b.gO a;show h {c with H:=upd c.H p o} _ d rfl e (n.trans f) ⟨p,rfl,n.none a,g,i,r⟩
def xR(c:C.P=X.prog)(d:C.w=X.w)(r:Bool):PE X (.Dict [] [] pos) (HW C (pure (.own,.HP [] []))):=by
 show PE.weak pH ?_;rintro σ H Q ⟨c0,rfl,rfl,a,h⟩ p b;rw[ao]at h;show cu.root h rfl a (Nx.refl c0) p b ⟨[],aq,rfl,rfl⟩
def ar.Iq{S:hH->Prop}(h:ar C S H us vs)(e:Iq us i=a5 u):∃v,L2.Iq vs i=a5 v/\Rep C S H u v:=by
 unfold L2.Iq at e ⊢;rw[h.len]at e;cases q:Lo vs.length i with
 |none=>rw[q]at e;cases e
 |some j =>
  rw[q]at e;show h.get e
def D0(J:C.K=X.K)(L:X.A.units+60<L_)(hs:nO b)(t:PQ C c0 c x y g j)(I:Inv X d c.σ c.H s)(o:RelV g v)(p:RelV j u)(h:iO x y.2=a5 r)(q:cu C c0 Q r c.st):
  g9 (i5 X.prog X.w) X.A (V4 a b v u) (EP X d c.σ Q) X.xe s:=by
 obtain⟨z,f,n,B,l,-⟩:=t;have⟨N,O⟩:=y
 dsimp only at h l
 unfold iO at h;split at h
 .rename_i k xs i;rw[ez]at h;have⟨w,e,rfl⟩:=h;have⟨a',vs,ex,m,D⟩:=B.list f;have⟨vw,G,e2⟩:=D.Iq e;show Ac a b d s c.σ c.H g j v u Q I o p ⟨a',vs,i,vw,ex,l.int f,J▸m,G,q c vw z rfl f n (aH.item e2)⟩ (hs _ _)
 .rename_i k xs i;rw[ez]at h;have⟨w,e,rfl⟩:=h;have⟨a',vs,ex,m,D⟩:=B.tuple f;have⟨vw,G,e2⟩:=D.Iq e;rw[J]at m;show kG a b d s c.σ c.H g j v u Q I o p ⟨a',vs,i,vw,ex,l.int f,m,G,q c vw z rfl f n (aH.item e2)⟩ (hs _ _)
 .split at h
  .rw[ez]at h;have⟨w,e,rfl⟩:=h;show kH a b d s c.σ c.H g j v u Q I o p ⟨_,_,w,B.str f,l.int f,by assumption,e,q c _ z rfl f n rfl⟩ (hs _ _)
  .cases h
 .cases h
def AW(f:C.K=X.K)(g:X.A.units+60<L_)(hs:nO b)(i:PE X a (HW C j))(k:PE X b (HW C l)):PE X (.Subscript a b pos) (HW C (j >>= λx=>l >>= λy=>aw [x,y] >>= λ_=>M.Il (iO x y.2))):=by
 rintro d s σ H Q I ⟨c0,rfl,rfl,m,h⟩;show Zt (two i k I m h λx y c B D v u s2 t n o p w=>?_);have⟨r,e,q⟩:=cH.mp w;show HS (D0 f g hs t n o p e q) λ_ _ z=>by rw[t.hσ]at z;show z
def ar.cut{S:hH->Prop}(h:ar C S H us vs)(lo hi:Option Int):ar C S H (TM.cut us lo hi) (pC vs lo hi):=by
 unfold TM.cut pC;rw[h.len];show(h.drop _).take _
def vv{lo hi:Option Int}(h:HT.Ia xs.length 0 lo=0/\HT.Ia xs.length xs.length hi=xs.length):cut xs lo hi=xs:=by
 unfold cut;rw[h.1,h.2];simp
end
section
variable{prog:y0}{w:Jn}{A:MW}{E:dV->hW->Prop}{s:hW}
def gR{lo hi:Option Int}(b:Z1 s.heap t a)(hs:s.heap.IsSliceOf c e f .none)(pl:U1 e lo)(g:U1 f hi)
  (d:HT.Ia a.size 0 lo=0/\HT.Ia a.size a.size hi=a.size) (h:Q (.ref t) s):g9 (i5 prog w) A (Rz (.ref t) (.ref c)) Q E s:=by
 have⟨os,i,j,m⟩:=id hs;have k:s.TypeIs (.ref c) "slice":=⟨os,i,j⟩
 unfold Rz
 try with_reducible show Jq ?_
 first|show b7 (dt ?_)|skip
 show b7 (Wg b.typeIs (by decide) ?_);show b7 (Kv (name:=Pl "__getitem__") b.typeIs ri
  (JF ri b.typeIs VP ?_ (V9 _ _)))
 change g9 _ _ (Rk (.ref t) >>= _) _ _ s;show b7 (ZP b ?_);show b7 (Ry k ?_);rw[Ĺ (by decide)];show b7 (HT.et hs pl g ?_);have l:(((HT.Ia a.size 0 lo:Nat):Int)==0&&(1:Int)==1&&(HT.Ia a.size a.size hi - HT.Ia a.size 0 lo)==a.size)=bD:=by
  rw[d.1,d.2];simp
 change g9 _ _ (if (((HT.Ia a.size 0 lo:Nat):Int)==0&&(1:Int)==1&&(HT.Ia a.size a.size hi - HT.Ia a.size 0 lo)==a.size)=bD then _ else _) _ _ s;rw[Ĺ l];change g9 (i5 prog w) A.in1 ((Zn (my t) >>= λx=>pure (x==.type "tuple")) >>= _) _ _ s;show b7 (b7 (Ry b.typeIs (dt ?_)));rw[Ĺ (by decide)];show b7 (RU (dt ⟨_,rfl,dt h⟩))
end
section
variable{X:Cx}{C:Ct}{pins:List (hH×Obj)}{s:hW}{c0 c c1:Cf}
variable{a b d e:pb}{es:List pb}{m ma mb md:M (Kd×U)}{ms:M (List (Kd×U))}{ta tb:M Bool}{pos p p2:Pos}
def AX:Mc X (λx lo hi H Q=>∃a xs,x=.ref a/\II X.K H a xs/\(HT.Ia xs.length 0 lo=0/\HT.Ia xs.length xs.length hi=xs.length)/\Q (.ref a) H):=by
 intro pins s σ H x v o t lo hi u Q I i hs pl j h;have⟨a,xs,rfl,k,l,q⟩:=h;cases i;have⟨n,r,g,hz⟩:=I.tuple k;have f:n.toArray.size=xs.length:=by rw[hQ];show r.length.symm
 show⟨"tuple",_,ri.lookup,g.typeIs,gR g hs pl j (by rw[f];show l) ⟨.ref a,H,I,rfl,q⟩⟩
abbrev tO(C:Ct)(m:M (Option Int)):TO:=λσ H Q=>∃c0:Cf,c0.σ=σ/\c0.H=H/\Ok C c0/\W m c0.st λi st'=>∀c,c.σ=σ->c.st=st'->Ok C c->Nx c0 c->Q i c.H
def vA:PO X b6 (tO C (pure b6)):=by
 rintro pins s σ H Q I ⟨c0,rfl,rfl,f,h⟩;rw[ao]at h;show z_ pins s c0.σ c0.H Q I (h c0 rfl rfl f (Nx.refl c0))
def vB(f:PE X a (HW C ma)):PO X (a5 a) (tO C (ma >>= DR)):=by
 rintro pins s σ H Q I ⟨c0,rfl,rfl,g,h⟩;show Aa f pins s c0.σ c0.H Q I (aD g h λx c v t w=>?_);have⟨k,u⟩:=x;unfold DR at w;split at w
 .rename_i i e
  dsimp only at e
  subst e;rw[ao]at w;show⟨i,t.rx.int t.ok,w c t.hσ rfl t.ok t.nx⟩
 .show(ba.mp w).elim
def D1{lo hi:Option Int}(v:C.K=X.K)(i:c.σ=c0.σ)(f:Ok C c)(n:Nx c0 c)(l:aH C c0 c x.1 x.2 j)(h:kZ x lo hi=a5 r)(q:cu C c0 Q r c.st):
  ((FE X.K j lo hi c.H Q\/FA X.K j lo hi c.H Q)\/(∃a xs,j=.ref a/\II X.K c.H a xs/\(HT.Ia xs.length 0 lo=0/\HT.Ia xs.length xs.length hi=xs.length)/\Q (.ref a) c.H))\/FI j lo hi c.H Q:=by
 unfold kZ at h;split at h
 .split at h
  .rename_i w;cases h;have⟨a',vs,ex,k,g⟩:=l.list f;show .inl (.inl (.inl ⟨a',vs,ex,v▸k,λp o=>q.list i f n ((dF w g).cut lo hi) p o⟩))
  .cases h
 .cases h;have⟨a',vs,ex,k,g⟩:=l.tuple f;have t:=k;rw[v]at t;by_cases u:HT.Ia vs.length 0 lo=0/\HT.Ia vs.length vs.length hi=vs.length
  .show .inl (.inr ⟨a',vs,ex,t,u,?_⟩);show q c (.ref a') i rfl f n (aH.item ⟨a',vs,rfl,k,?_⟩);rw[vv (by rw[g.len];show u)];show g
  .show .inl (.inl (.inr ⟨a',vs,ex,t,u,λp o=>q.tupK i f n (g.cut lo hi) p o⟩))
 .split at h
  .cases h;show .inr ⟨_,l.str f,by assumption,q.flat i f n rfl⟩
  .cases h
 .cases h
def AY{lo hi:Option pb}(k:C.K=X.K)(n:PE X a (HW C ma))(hl:PO X lo (tO C ml))(o:PO X hi (tO C u)):
  PE X (.Subscript a (.Slice lo hi b6 p2) pos) (HW C (ma >>= λx=>ml >>= λl=>u >>= λh=>aw [x] >>= λ_=>M.Il (kZ x l h))):=by
 show PE.weak (wO (((Mc.or Ae Dg).or AX).or Du) n hl o) ?_;rintro σ H Q ⟨c0,rfl,rfl,y,h⟩;show aD y h λx c v t w=>?_;rw[ah]at w;show⟨c,t.hσ,rfl,t.ok,w.mono λl st2 g z A e2 B D=>?_⟩;subst e2;rw[ah]at g;show⟨z,A,rfl,B,g.mono λl' N f G i I J L=>?_⟩;subst I;rw[ah,bY]at f;have⟨r,e,q⟩:=cH.mp f.2;have j:Nx c G:=D.trans L;show D1 k i J (t.nx.trans j) ((t.rx.w.on t.ok j (i.trans t.hσ.symm)).t f.1) e q
def ar.rz{S:hH->Prop}(h:ar C S H us vs):ar C S H us.reverse vs.reverse:=by
 induction us generalizing vs with
 |nil=>cases h;show rfl
 |cons u us f =>
  have⟨v,r,rfl,g,i⟩:=h;rw[Se,Se];show(f i).snoc g
def AZ(g:C.K=X.K)(i:PE X a (HW C ma)):PE X (.Subscript a (.Slice b6 b6 (a5 (.UnaryOp .USub (.Constant (.int 1) G I) J)) p2) pos) (HW C (ma >>= λx=>M.Il (AF x))):=by
 show PE.weak (Dz i) ?_;rintro σ H Q ⟨c0,rfl,rfl,j,h⟩;show aD j h λx c v t w=>?_;have⟨r,e,w⟩:=cH.mp w;have⟨k,u⟩:=x;unfold AF at e;split at e
 .rename_i k' xs q;cases q;cases e;have⟨a',vs,ex,f,l⟩:=t.rx.tuple t.ok;rw[g]at f;show⟨a',vs,ex,f,λp n=>cu.tupK (λo v' y z A B D=>w o v' y z A B D) t.hσ t.ok t.nx l.rz p n⟩
 .cases e
end
section
variable{X:Cx}{C:Ct}{pins:List (hH×Obj)}{s:hW}{c0 c c1:Cf}
variable{a b d e:pb}{es:List pb}{m ma mb md:M (Kd×U)}{ms:M (List (Kd×U))}{ta tb:M Bool}{pos p p2:Pos}
abbrev Bf.val:Bf->dV
 |.len=>.builtin "len"|.sorted=>.builtin "sorted"|.repr=>.builtin "repr"|.max=>.builtin "max"|.min=>.builtin "min"|.all=>.builtin "all"|.any=>.builtin "any"
 |.list=>.type "list"|.tuple=>.type "tuple"|.str=>.type "str"|.int=>.type "int"
abbrev Bf.name:Bf->Str
 |.len=>"len"|.sorted=>"sorted"|.repr=>"repr"|.max=>"max"|.min=>"min"|.all=>"all"|.any=>"any"
 |.list=>"list"|.tuple=>"tuple"|.str=>"str"|.int=>"int"
def call_of(g:fw X f r)(I:Inv X pins c.σ c.H s)(rv:Vals vs us)(h:r vs c.H Q):g9 (i5 X.prog X.w) X.A (Qg f us) (EP X pins c.σ Q) X.xe s:=g pins s c.σ c.H vs us Q I rv h
mutual
theorem tR{S:hH->Prop}(f:C.K=X.K)(I:Inv X pins c.σ c.H s):∀(u:U) (v:V) (val:dV) (d:Á),Rep C S c.H u v->RelV v val->gP u=a5 d->∃as,Reads s.heap val d as
 |.HX,v,val,d,h,r,e=>by cases h;cases r;cases e;show⟨_,.none⟩
 |.bl b,v,val,d,h,r,e=>by cases h;cases r;cases e;show⟨_,.bool b⟩
 |.int i,v,val,d,h,r,e=>by cases h;have⟨t,rfl⟩:=r;cases e;show⟨_,.int i t⟩
 |.str x,v,val,d,h,r,e=>by cases h;have⟨t,rfl⟩:=r;cases e;show⟨_,.str x t⟩
 |.tup us,v,val,d,h,r,e=>by
  have⟨a,vs,rfl,g,j⟩:=h;cases r;simp only[gP,ez]at e;have⟨ds,k,rfl⟩:=e;rw[f]at g;obtain⟨l,rv,⟨o,ho,q,n,w⟩,_⟩:=I.tuple g;have⟨as,y⟩:=oo f I us vs l ds j rv k;show⟨as,.tuple ho q w (by simpa using y)⟩
 |.lst us,v,val,d,h,r,e=>by
  have⟨a,vs,rfl,g,j⟩:=h;cases r;simp only[gP,ez]at e;have⟨ds,k,rfl⟩:=e;have z:=g.sq;rw[f]at z;obtain⟨l,rv,pl,_⟩:=I.list z;have⟨o,ho,q,n,w⟩:=pl.isList;have⟨as,y⟩:=oo f I us vs l ds j rv k;show⟨a::as,.list ho q w (by simpa using y)⟩
 |.HP _ _,v,val,d,h,r,e=>by simp[gP]at e
theorem oo{S:hH->Prop}(g:C.K=X.K)(I:Inv X pins c.σ c.H s):∀(us:List U) (vs:List V) (f:List dV) (ds:List Á),ar C S c.H us vs->Vals vs f->jn us=a5 ds->∃as,ReadsAll s.heap f ds as
 |[],vs,f,ds,h,r,e=>by
  cases h;cases r;cases e;show⟨_,.nil⟩
 |u::us,vs,f,ds,h,r,e=>by
  have⟨v,vs',rfl,i,j⟩:=h;cases r with
  |cons r1 r2 =>
   simp only[jn,oD,ez]at e;have⟨d,k,l,e2,rfl⟩:=e;have⟨as,n⟩:=tR g I u v _ d i r1 k;have⟨bs,o⟩:=oo g I us vs' _ l j r2 e2;show⟨as++bs,.cons n o⟩
end
mutual
theorem ll:∀(u:U) (d:Á),gP u=a5 d->d.hasDict=cb
 |.HX,d,e=>by cases e;rfl
 |.bl b,d,e=>by cases e;rfl
 |.int i,d,e=>by cases e;rfl
 |.str x,d,e=>by cases e;rfl
 |.tup us,d,e=>by
  simp only[gP,ez]at e;have⟨ds,f,rfl⟩:=e;simpa only[Î] using fX us ds f
 |.lst us,d,e=>by
  simp only[gP,ez]at e;have⟨ds,f,rfl⟩:=e;simpa only[Î] using fX us ds f
 |.HP _ _,d,e=>by simp[gP]at e
theorem fX:∀(us:List U) (ds:List Á),jn us=a5 ds->ZO ds=cb
 |[],ds,e=>by cases e;rfl
 |u::us,ds,e=>by
  simp only[jn,oD,ez]at e;have⟨d,f,g,e2,rfl⟩:=e;simp only[ZO,ll u d f,fX us g e2,Bool.or_self]
end
def tS{S:hH->Prop}(i:C.K=X.K)(j:X.A.guards=a5 [])(x:X.A.units+60<L_)(I:Inv X pins c.σ c.H s)(rv:Vals [v] us)(f:Rep C S c.H u v)(h:tJ u=a5 r)(q:cu C c0 Q r c.st)(k:c.σ=c0.σ)(l:Ok C c)(n:Nx c0 c):
  g9 (i5 X.prog X.w) X.A (Qg (.builtin "repr") us) (EP X pins c.σ Q) X.xe s:=by
 have⟨val,rfl,g⟩:=vals1 rv;unfold tJ at h;rw[oD]at h;have⟨d,e,h⟩:=h;split at h
 .rename_i hz;cases h;have⟨as,o⟩:=tR i I u v val d f g e;have t:∃a,val=.ref a:=by
   cases u with
   |tup us=>obtain⟨a,vs,rfl,_⟩:=f;cases g;show⟨a,rfl⟩
   |lst us=>obtain⟨a,vs,rfl,_⟩:=f;cases g;show⟨a,rfl⟩
   |_=>simp[Cn]at hz
  have⟨a,rfl⟩:=t;show repr_of_reads' o hz.1 (PyData.noDict_hsm (ll u d e)) j (by have:=hz.2.1;lia) (λ_ _ z=>z) (λh' u' y hk=>?_) hz.2.2.1;show⟨.str d.shown,c.H,I.kept hk,⟨_,rfl⟩,q.flat k l n rfl⟩
 .cases h
def mz:fw X (.builtin "repr") (λxs H Q=>∃i,xs=[.int i]/\i.natAbs.log2<1920/\Q (.str (Wf i)) H):=by
 intro pins s σ H xs us Q I rs h;have⟨i,rfl,hl,q⟩:=h;have⟨u,rfl,r⟩:=vals1 rs;have⟨t,rfl⟩:=r;show PySem.P.repr_of_int hl ⟨.str _,H,I.tok _,⟨_,rfl⟩,q⟩
def bB(h:fR f rs=a5 r):∃x,rs=[x]/\f x=a5 r:=by
 unfold fR at h;split at h
 .show⟨_,rfl,h⟩
 .cases h
def Cr(D:X.calm=bD)(u:C.K=X.K)(J:X.A.guards=a5 [])(L:X.A.units+60<L_)(t:JI C c0 c rs vs)(I:Inv X pins c.σ c.H s)(rv:Vals vs us)(h:Js f rs=a5 r)(q:cu C c0 Q r c.st):
  g9 (i5 X.prog X.w) X.A (Qg f.val us) (EP X pins c.σ Q) X.xe s:=by
 have o:=t.hσ;have g:=t.ok;have n:=t.nx;cases f with
 |len =>
  have⟨x,rfl,hz⟩:=bB (f:=λx=>(Ay x.2).map λ(n:Nat)=>(Kd.loc,U.int (n:Int))) h;clear h;have h:=hz;clear hz;rw[ez]at h;have⟨k,e,rfl⟩:=h;have⟨v,rfl,j⟩:=t.one;have⟨O,G⟩:=x;unfold Ay at e;split at e
  .rename_i xs y;have y:G=.lst xs:=y;subst y;cases e;have⟨a',ws,ex,i,l⟩:=j.list g;rw[l.len]at q;show call_of eV I rv ⟨a',ws,by rw[ex],.inl (u▸i),q.flat o g n rfl⟩
  .rename_i xs y;have y:G=.tup xs:=y;subst y;cases e;have⟨a',ws,ex,i,l⟩:=j.tuple g;rw[u]at i;rw[l.len]at q;show call_of eV I rv ⟨a',ws,by rw[ex],.inr i,q.flat o g n rfl⟩
  .rename_i xs y;have y:G=.str xs:=y;subst y;split at e
   .cases e;show call_of nR I rv ⟨_,by rw[j.str g],by assumption,q.flat o g n rfl⟩
   .cases e
  .cases e
 |sorted =>
  have⟨x,rfl,hz⟩:=bB (f:=DJ) h;clear h;have h:=hz;clear hz;have⟨v,rfl,j⟩:=t.one;unfold DJ at h;split at h
  .rw[oD]at h;have⟨ss,e,h⟩:=h;have B:=cI e;subst B;have⟨a',ws,ex,i,l⟩:=j.list g;rw[ar.strs]at l;subst l;split at h
   .cases h;show call_of jG I rv ⟨a',ss,by rw[ex],.inl (u▸i),by assumption,λp z=>q.list o g n (ar.strs.mpr rfl) p z⟩
   .cases h
  .obtain⟨a',kvs,ex,i,l,_⟩:=j.dict g;split at h
   .cases h;show call_of (jm D) I rv ⟨a',kvs,_,by rw[ex],i,l,by assumption,λp z=>q.list o g n (ar.strs.mpr rfl) p z⟩
   .cases h
  .rw[oD]at h;have⟨ss,e,h⟩:=h;have B:=cI e;subst B;have⟨a',ws,ex,i,l⟩:=j.tuple g;rw[u]at i;rw[ar.strs]at l;subst l;split at h
   .cases h;show call_of jG I rv ⟨a',ss,by rw[ex],.inr i,by assumption,λp z=>q.list o g n (ar.strs.mpr rfl) p z⟩
   .cases h
  .cases h
 |list =>
  have⟨x,rfl,hz⟩:=bB (f:=DK) h;clear h;have h:=hz;clear hz;have⟨v,rfl,j⟩:=t.one;unfold DK at h;split at h
  .have⟨a',ws,ex,i,l⟩:=j.list g;split at h
   .cases h;show call_of iA I rv ⟨a',ws,by rw[ex],.inl (u▸i),λp z=>q.list o g n (dF (by assumption) l) p z⟩
   .cases h
  .have⟨a',ws,ex,i,l⟩:=j.tuple g;rw[u]at i;split at h
   .cases h;show call_of iA I rv ⟨a',ws,by rw[ex],.inr i,λp z=>q.list o g n (dF (by assumption) l) p z⟩
   .cases h
  .cases h
 |tuple =>
  have⟨x,rfl,hz⟩:=bB (f:=DL) h;clear h;have h:=hz;clear hz;have⟨v,rfl,j⟩:=t.one;unfold DL at h;split at h
  .have⟨a',ws,ex,i,l⟩:=j.list g;cases h;show call_of gV I rv ⟨a',ws,by rw[ex],.inl ⟨u▸i,λp z=>q.tupK o g n l p z⟩⟩
  .have⟨a',ws,ex,i,l⟩:=j.tuple g;have N:=i;rw[u]at N;cases h;show call_of gV I rv ⟨a',ws,by rw[ex],.inr ⟨N,q c (.ref a') o rfl g n (aH.item ⟨a',ws,rfl,i,l⟩)⟩⟩
  .cases h
 |str =>
  have⟨x,rfl,hz⟩:=bB (f:=xE) h;clear h;have h:=hz;clear hz;have⟨v,rfl,j⟩:=t.one;unfold xE at h;split at h
  .split at h
   .cases h;show call_of nK I rv ⟨_,by rw[j.int g],by assumption,q.flat o g n rfl⟩
   .cases h
  .cases h
 |repr =>
  have⟨x,rfl,hz⟩:=bB (f:=DM) h;clear h;have h:=hz;clear hz;have⟨v,rfl,j⟩:=t.one;unfold DM at h;split at h
  .split at h
   .cases h;show call_of mz I rv ⟨_,by rw[j.int g],by assumption,q.flat o g n rfl⟩
   .cases h
  .show tS u J L I rv (j.read g) h q o g n
  .show tS u J L I rv (j.read g) h q o g n
  .cases h
 |all =>
  have⟨x,rfl,hz⟩:=bB (f:=DN) h;clear h;have h:=hz;clear hz;have⟨v,rfl,j⟩:=t.one;unfold DN at h;split at h
  .rw[ez]at h;have⟨bs,e,rfl⟩:=h;have B:=ic e;subst B;have⟨a',ws,ex,i,l⟩:=j.list g;have:=l.S_;subst this;show call_of (xm D) I rv ⟨a',bs,by rw[ex],u▸i,q.flat o g n rfl⟩
  .cases h
 |any =>
  have⟨x,rfl,hz⟩:=bB (f:=DO) h;clear h;have h:=hz;clear hz;have⟨v,rfl,j⟩:=t.one;unfold DO at h;split at h
  .rw[ez]at h;have⟨bs,e,rfl⟩:=h;have B:=ic e;subst B;have⟨a',ws,ex,i,l⟩:=j.list g;have:=l.S_;subst this;show call_of (xC D) I rv ⟨a',bs,by rw[ex],u▸i,q.flat o g n rfl⟩
  .cases h
 |_=>cases h
def A0{id:String}(g:X.calm=bD)(i:C.K=X.K)(j:X.A.guards=a5 [])(k:X.A.units+60<L_)(l:f.val=.builtin id)(n:Gl X x)(o:X.mg x=b6)(u:Ly x=a5 (.builtin id))(v:x≠"__name__")(y:(x==("__debug__":Str))=cb)
  (B:PA X (e::es) (Jh C ms)) (D:js (e::es) X.env=(cb,vr e X.env)::js es X.env) (G:(Hf pos (js es X.env)).any (·.1)=cb) :
  PE X (.Call (.Name x p) (e::es) [] pos) (HW C (ms >>= λrs=>aw rs >>= λ_=>M.Il (Js f rs))):=by
 rintro pins s σ H Q I ⟨c0,rfl,rfl,J,h⟩;show DD (d0 I n o u ?_ v y);show P8 (HS (args B I J h pos) λus s1 ⟨rs,c,vs,t,L,rv,w⟩=>?_) D G;have⟨r,e,q⟩:=cH.mp w;have z:=Cr g i j k t L rv e q;rw[l,t.hσ]at z;show z
def A4(g:X.calm=bD)(i:C.K=X.K)(j:X.A.guards=a5 [])(k:X.A.units+60<L_)(l:f.val=.type T)(n:Gl X x)(o:X.mg x=b6)(u:Ly x=a5 (.type T))(v:x≠"__name__")(y:(x==("__debug__":Str))=cb)
  (B:PA X (e::es) (Jh C ms)) (D:js (e::es) X.env=(cb,vr e X.env)::js es X.env) (G:(Hf pos (js es X.env)).any (·.1)=cb) :
  PE X (.Call (.Name x p) (e::es) [] pos) (HW C (ms >>= λrs=>aw rs >>= λ_=>M.Il (Js f rs))):=by
 rintro pins s σ H Q I ⟨c0,rfl,rfl,J,h⟩;show DD (d0 I n o u ?_ v y);show Lw (HS (args B I J h pos) λus s1 ⟨rs,c,vs,t,L,rv,w⟩=>?_) D G;have⟨r,e,q⟩:=cH.mp w;have z:=Cr g i j k t L rv e q;rw[l,t.hσ]at z;show z
@[reducible]def NV(P:y0)(w:Jn)(K:PySem.W.Frag)(H:Hp)(f:hH->Prop):Ct:=⟨P,w,K,H,f,λ_=>False,λ_ _=>False⟩
structure Back(C:Ct)(H H':Hp)(S':hH->Prop)(k:Kd)(u:U)(v:V):Prop where
 same:pF H H'
 new:∀a,S' a->H a=b6/\∃o,H' a=a5 o
 own:k=.own->∃r,v=.ref r/\H r=b6/\¬S' r/\cO C S' H' r u
 loc:k=.loc->Rep C S' H' u v
 any:k=.any->Rep C (PS C S') H' u v
abbrev spT(P:y0)(w:Jn)(K:PySem.W.Frag)(F:List U->Option (Ex (Kd×U)))(g:Nat):Sp:=λvs H Q E=>vs.length=g/\∃us r f,F us=a5 r/\(∀a,f a->JH H a)/\ar (NV P w K H f) f H us vs/\match r with
 |.ok (k,u)=>(k=.own\/k=.loc\/k=.any)/\∀v H' S',Back (NV P w K H f) H H' S' k u v->Q v H'
 |.exc c=>∀C H',PySem.W.nsIn K oT c=a5 (a5 (.ref C))->pF H H'->E (.ref C) b6 H'
def JI.read(t:JI C c0 c rs vs):ar C (JH c.H) c.H (rs.map (·.2)) vs:=by
 have f:∀(l:List (Kd×U)) (w:List V),cB C c0 c l w->bo l c.st->ar C (JH c.H) c.H (l.map (·.2)) w:=by
  intro l;induction l with
  |nil=>intro w h _;show h
  |cons r l g =>
   intro w h hs;obtain⟨v,t',rfl,i,j,_⟩:=h;rw[eJ]at hs;show⟨v,t',rfl,(i.t hs.1).read t.ok,g t' j hs.2⟩
 show f rs vs t.rep t.MK
def Back.here(hk:k=.own\/k=.loc)(i:c.σ=c0.σ)(f:Ok C c)(n:Nx c0 c)(q:j.Eqv C)(h:Back j c.H H' S' k u v)(w:cu C c0 Q (k,u) c.st):Q v H':=by
 have⟨l,t⟩:=f.grow (S':=λa=>c.S a\/S' a) h.same (λa z=>z.imp id λz=>h.new a z) λa=>.inl;have x:=n.trans t;show w {c with H:=H',S:=λa=>c.S a\/S' a} v i rfl l x ?_;rcases hk with rfl|rfl
 .have⟨r,e,g,y,A⟩:=h.own rfl;have⟨G,B,I,J,D⟩:=f.gO g;show⟨r,e,n.none g,λz=>z.elim B y,D,(A.cg q).mv (.up λa=>.inr) λo q=>q⟩
 .show((h.loc rfl).cg q).mv (.up λa=>.inr)
def xS(n:C.P=X.prog)(o:C.w=X.w)(x:C.K=X.K)(J:Γ f=F)(hk:∀us k u,F us=a5 (.ok (k,u))->(k=.own\/k=.loc\/k=.any)/\us.length=y)
  (G:dR X.prog X.w X.K X.mg X.base (K7 X.prog X.w) k fa L ps (spT X.prog X.w X.K F y)) (N:cN k X.A) (O:Gl X f) (T:X.mg f=a5 (.ref fa)) (Y:PySem.W.keepIn X.K (.ref fa)=bD) (i:Binds X.K L ps [])
  (J6:(f==("__debug__":Str))=cb) (ha:PA X (e::es) (Jh C ms)) (he:js (e::es) X.env=(cb,vr e X.env)::js es X.env) (IK:(Hf pos (js es X.env)).any (·.1)=cb) :
  PE X (.Call (.Name f p) (e::es) [] pos) (HW C (ms >>= λrs=>aw rs >>= λ_=>k7 Γ f (rs.map (·.2)))):=by
 rintro pins s σ H Q I ⟨c0,rfl,rfl,ok,h⟩;show DD (dU I O T ?_ J6);show PySem.W.callWith_K (h₀:=X.base) I.ok.mod.MT Y (HS (args ha I ok h pos) λus s1 ⟨rs,c,vs,t,B,rv,w⟩=>⟨B.JU,?_⟩) he IK;have⟨r,st',g,q⟩:=w;unfold k7 at g;rw[J]at g;cases e2:F (rs.map (·.2)) with
 |none=>rw[e2]at g;cases g
 |some r' =>
  rw[e2]at g;split at g
  .cases g
  .rename_i z;cases z
  rename_i Th e3;cases e3;cases g;have⟨j,u⟩:=r;have⟨k0,k2⟩:=hk _ _ _ e2;have k1:j=.own\/j=.loc:=by
   rcases k0 with z|z|z
   .show .inl z
   .show .inr z
   .subst z;show(Th u rfl).elim
  have l:C.Eqv (NV X.prog X.w X.K c.H (JH c.H)):=⟨n,o,x⟩
  have LW:(NV X.prog X.w X.K c.H (JH c.H)).Eqv C:=⟨n.symm,o.symm,x.symm⟩
  have D:=t.read;have Jx:spT X.prog X.w X.K F y vs c.H (λv H'=>Q v H') E0:=⟨by rw[<-D.len];show k2,rs.map (·.2),.ok (j,u),JH c.H,e2,λ_ z=>z,D.cg l,k0,λv H' S' i=>i.here k1 t.hσ t.ok t.nx LW q⟩
  have z:=kD (Q:=Q) G N i .nil tH B rv (by rw[ve];show Jx);rw[t.hσ]at z;show z
end
section
abbrev Mf.id:Mf->String
 |.split=>"str.split"|.join=>"str.join"|.partition=>"str.partition"|.endswith=>"str.endswith"
abbrev Mf.name:Mf->Str
 |.split=>"split"|.join=>"join"|.partition=>"partition"|.endswith=>"endswith"
def xT(h:jX f u rs=a5 r):∃x,u=.str x:=by
 unfold jX at h;split at h
 .show⟨_,rfl⟩
 .show⟨_,rfl⟩
 .show⟨_,rfl⟩
 .show⟨_,rfl⟩
 .cases h
def D2(z:C.K=X.K)(t:JI C c0 c (x::rs) (g::vs))(I:Inv X a c.σ c.H s)(k:RelV g v)(rv:Vals vs us)(h:jX f x.2 rs=a5 r)(q:cu C c0 Q r c.st):
  g9 (i5 X.prog X.w) X.A (Qg (.builtin f.id) (v::us)) (EP X a c.σ Q) X.xe s:=by
 have l:=t.hσ;have b:=t.ok;have n:=t.nx;have⟨B,D⟩:=x;have hs:=eJ.mp t.MK;obtain⟨N,O,G,o,i,-⟩:=t.rep;cases G;have m:aH C c0 c B D g:=o.t hs.1;have one:∀{r:Kd×U},cB C c0 c [r] vs->bo [r] c.st->∃v,vs=[v]/\aH C c0 c r.1 r.2 v:=λ{r} h s=>by
  obtain⟨v,t',rfl,o,i,_⟩:=h;cases i;show⟨v,rfl,o.t s⟩
 dsimp only at h
 unfold jX at h;split at h
 .have⟨w,rfl,d⟩:=one i hs.2;split at h
  .rename_i j;cases h;show xj a s c.σ c.H g [w] v us Q I k rv ⟨_,_,m.str b,by rw[d.str b],j.1,j.2,λp u=>q.list l b n (ar.strs.mpr rfl) p u⟩
  .cases h
 .rw[oD]at h;have⟨ss,e,h⟩:=h;have J:=cI e;subst J;have⟨w,rfl,d⟩:=one i hs.2;have⟨a',ws,ex,L,y⟩:=d.list b;rw[ar.strs]at y;subst y;split at h
  .cases h;show Ao a s c.σ c.H g [w] v us Q I k rv ⟨_,a',ss,m.str b,by rw[ex],z▸L,by assumption,q.flat l b n rfl⟩
  .cases h
 .have⟨w,rfl,d⟩:=one i hs.2;cases h;show pL a s c.σ c.H g [w] v us Q I k rv ⟨_,_,m.str b,by rw[d.str b],q.flat l b n rfl⟩
 .have⟨w,rfl,d⟩:=one i hs.2;split at h
  .rename_i j;cases h;show nY a s c.σ c.H g [w] v us Q I k rv ⟨_,_,m.str b,by rw[d.str b],j.1,j.2,λp u=>?_⟩;show q.tup l b n ⟨_,_,rfl,rfl,_,_,rfl,rfl,_,_,rfl,rfl,rfl⟩ p u
  .cases h
 .cases h
def A5(J:C.K=X.K)(slot:Slot "str" name f.id)(L:Zn (.builtin f.id)=pure (.type "method_descriptor"))(ho:PE X o (HW C m))(N:PA X (e::es) (Jh C ms))
  (O:N9 o name X.env (vr o X.env)=vr o X.env)
  (T:((Hf d (js (e::es) X.env)).all (λx=>!x.1)&&(NX d (JT [] X.env)).all (λx=>x.1.isSome)
   && cK ((e::es).length+([]:List MV).length+(if ([]:List MV).isEmpty then 0 else 1)<30))=bD)
  (Y:(apos.endLine==d.line)=bD) (hs:js (e::es) X.env=(cb,vr e X.env)::js es X.env) (JJ:(Hf d (js es X.env)).any (·.1)=cb) :
  PE X (.Call (.Attribute o name apos) (e::es) [] d) (HW C (m >>= λx=>ms >>= λrs=>aw (x::rs) >>= λ_=>M.Il (jX f x.2 rs))):=by
 rintro a s σ H Q I ⟨c0,rfl,rfl,ok,h⟩;show Z5 O T Y rfl (HS (ho a s c0.σ c0.H (λj n=>∃x b,b.H=n/\PR C c0 b x j/\W (ms >>= λrs=>aw (x::rs) >>= λ_=>M.Il (jX f x.2 rs)) b.st (cu C c0 Q)) I (aD ok h λx c v t w=>⟨x,c,rfl,t,w⟩)) ?_);rintro v s1 ⟨j,n,p,u,x,b,rfl,t,w⟩;have NW:∃z,x.2=.str z:=by
  rw[ah]at w;obtain⟨rs,st2,_,w⟩:=w;rw[ah]at w;obtain⟨_,IA,_,w⟩:=w;obtain⟨r,e,_⟩:=cH.mp w;show xT e
 have⟨z,hz⟩:=NW;have y:=t.rx;rw[hz]at y;have ev:=y.str t.ok;have ty:QD X.K "str" j b.H:=by rw[ev];rfl
 have⟨h1,h2⟩:=nS p u ty;show⟨"str",f.id,PySem.F.plainAttrs_str,slot,L,h1,h2,?_⟩;rw[ah]at w;have A:=N d a s1 c0.σ b.H (λvs B=>∃rs g,g.H=B/\JI C c0 g (x::rs) (j::vs)/\W (M.Il (jX f x.2 rs)) g.st (cu C c0 Q)) p ⟨b,t.hσ,rfl,t.ok,w.mono λrs st2 k g vs D e4 Iu G r2=>by
  rw[ah,bY]at k;subst e4;show⟨rs,g,rfl,⟨D,Iu,t.nx.trans G,⟨j,vs,rfl,t.rx.w.on t.ok G (D.trans t.hσ.symm),r2.from t.nx,λhk i r' v' e5 e6 IY=>lj t.rx.w (r2.get e5 e6) hk IY⟩,k.1⟩,k.2⟩⟩
 rw[hs]at A ⊢;show L0 (by change(cb||(Hf d (js es X.env)).any (·.1))=cb;rw[JJ]<;>rfl) (M9 ?_);show HS A ?_;rintro us s2 ⟨vs,B,I2,r2,rs,g,rfl,l,w2⟩;have⟨r,e,q⟩:=cH.mp w2;have z:=D2 J l (by rw[l.hσ];show I2) u r2 e q;rw[l.hσ]at z;show z
end
section
variable{X:Cx}{C:Ct}{pins:List (hH×Obj)}{s:hW}{c0 c c1:Cf}
variable{e:pb}{es:List pb}{ms:M (List (Kd×U))}{pos p p2 pos2:Pos}
abbrev B2.out:B2->dV
 |.LQ=>.type "tuple"|.LR=>.type "list"|.sset=>.builtin "sorted"|.iB=>.builtin "len"
abbrev B2.MN:B2->dV
 |.LQ=>.type "reversed"|.LR=>.type "reversed"|.sset=>.type "set"|.iB=>.type "set"
abbrev B2.oq:B2->Str
 |.LQ=>"tuple"|.LR=>"list"|.sset=>"sorted"|.iB=>"len"
abbrev B2.iU:B2->Str
 |.LQ=>"reversed"|.LR=>"reversed"|.sset=>"set"|.iB=>"set"
def mU(g:C.K=X.K)(i:Ok C c)(j:aH C c0 c k u v)(h:pW u=a5 ss):∃a ys,v=.ref a/\(IF X.K c.H a (ys.map V.str)\/II X.K c.H a (ys.map V.str))/\ys.length+1<ND/\ss=br ys:=by
 unfold pW at h;split at h
 .rw[oD]at h;have⟨ys,e,h⟩:=h;have f:=cI e;subst f;have⟨a',ws,ex,d,b⟩:=j.list i;rw[ar.strs]at b;subst b;split at h
  .cases h;show⟨a',ys,ex,.inl (g▸d),by assumption,rfl⟩
  .cases h
 .rw[oD]at h;have⟨ys,e,h⟩:=h;have f:=cI e;subst f;have⟨a',ws,ex,d,b⟩:=j.tuple i;rw[ar.strs]at b;subst b;rw[g]at d;split at h
  .cases h;show⟨a',ys,ex,.inr d,by assumption,rfl⟩
  .cases h
 .cases h
def D3(b:X.calm=bD)(o:C.K=X.K)(t:JI C c0 c rs vs)(I:Inv X pins c.σ c.H s)(rv:Vals vs us)(h:vk f rs=a5 r)(q:cu C c0 Q r c.st):
  g9 (i5 X.prog X.w) X.A (Qg f.MN us) (λv s1=>g9 (i5 X.prog X.w) X.A (Qg f.out [v]) (EP X pins c.σ Q) X.xe s1) X.xe s:=by
 have y:=t.hσ;have a:=t.ok;have n:=t.nx;cases f with
 |sset =>
  have⟨x,rfl,hz⟩:=bB (f:=λx=>(pW x.2).bind λss=>if ss.length<64 then a5 (Kd.own,U.lst ((bu ss).map .str)) else b6) h;clear h;have h:=hz;clear hz;have⟨ss,e,h⟩:=oD.mp h;have⟨v,rfl,d⟩:=t.one;have⟨a',ys,rfl,g,i,rfl⟩:=mU o a d e;have⟨u,rfl,j⟩:=vals1 rv;cases j;split at h
  .cases h;show iK b I g i λS h' z k m=>mq b m k (by assumption) λl hl=>q.list y a n (ar.strs.mpr rfl) l hl
  .cases h
 |iB =>
  have⟨x,rfl,hz⟩:=bB (f:=λx:Kd×U=>(pW x.2).map λss:List Str=>(Kd.loc,U.int (ss.length:Int))) h;clear h;have h:=hz;clear hz;have⟨ss,e,rfl⟩:=ez.mp h;have⟨v,rfl,d⟩:=t.one;have⟨a',ys,rfl,g,i,rfl⟩:=mU o a d e;have⟨u,rfl,j⟩:=vals1 rv;cases j;show iK b I g i λS h' z k m=>rB m k (q.flat y a n rfl)
 |_=>cases h
def tT:∀f:B2,Ly f.oq=a5 f.out/\Ly f.iU=a5 f.MN/\f.oq≠"__name__"/\f.iU≠"__name__"/\(f.oq==("__debug__":Str))=cb/\(f.iU==("__debug__":Str))=cb:=by
 intro f;cases f<;>show⟨by decide +kernel,by decide +kernel,by decide +kernel,by decide +kernel,by decide +kernel,by decide +kernel⟩
def D4(f:B2):∃T,f.MN=.type T:=by cases f<;>show⟨_,rfl⟩
def D5(f:B2):(∃T,f.out=.type T)\/∃T,f.out=.builtin T:=by cases f<;>first|show .inl ⟨_,rfl⟩|show .inr ⟨_,rfl⟩
def A6{M:Model}{E:dV->hW->Prop}(h:g9 M A t (λv a=>g9 M A (Qg (.type T) [v]) Q E a) E s):g9 M A (W7 pos (.type T) [] [(cb,t)] []) Q E s :=
 PySem.callWith_type rfl (M9 (Oa (uv h (λ_ _ b=>Qu b) λ_ _ e=>e)))
def xU{M:Model}{E:dV->hW->Prop}(h:g9 M A t (λv a=>g9 M A (Qg (.builtin T) [v]) Q E a) E s):g9 M A (W7 pos (.builtin T) [] [(cb,t)] []) Q E s :=
 L0 rfl (M9 (Oa (uv h (λ_ _ b=>Qu b) λ_ _ e=>e)))
def xV(b:X.calm=bD)(d:C.K=X.K)(g:Gl X f.iU)(i:X.mg f.iU=b6)
  (j:PA X (e::es) (Jh C ms)) (k:js (e::es) X.env=(cb,vr e X.env)::js es X.env) (l:(Hf pos2 (js es X.env)).any (·.1)=cb)
  (I:Inv X pins c0.σ c0.H s) (m:Ok C c0) (h:W (ms >>= λrs=>aw rs >>= λ_=>M.Il (vk f rs)) c0.st (cu C c0 Q)) :
  g9 (i5 X.prog X.w) X.A (vr (.Call (.Name f.iU p2) (e::es) [] pos2) X.env) (λv s1=>g9 (i5 X.prog X.w) X.A (Qg f.out [v]) (EP X pins c0.σ Q) X.xe s1) X.xe s:=by
 have⟨b1,n,b3,b4,B,o⟩:=tT f;show DD (d0 I g i n ?_ b4 o);have a:g9 (i5 X.prog X.w) X.A (Z6 (Hf pos2 (js (e::es) X.env))) (λus s1=>g9 (i5 X.prog X.w) X.A (Qg f.MN us) (λv s1=>g9 (i5 X.prog X.w) X.A (Qg f.out [v]) (EP X pins c0.σ Q) X.xe s1) X.xe s1) X.xe s :=
  HS (args j I m h pos2) λus s1 u=>by
   have⟨rs,c,vs,t,x,rv,w⟩:=u;have⟨r,e,q⟩:=cH.mp w;have z:=D3 b d t x rv e q;rw[t.hσ]at z;show z
 have⟨T,y⟩:=D4 f;rw[y]at a ⊢;show Lw a k l
def A7(d:X.calm=bD)(g:C.K=X.K)(i:Gl X f.oq)(j:X.mg f.oq=b6)(k:Gl X f.iU)(l:X.mg f.iU=b6)
  (m:PA X (e::es) (Jh C ms)) (n:js (e::es) X.env=(cb,vr e X.env)::js es X.env) (o:(Hf pos2 (js es X.env)).any (·.1)=cb) :
  PE X (.Call (.Name f.oq p) [.Call (.Name f.iU p2) (e::es) [] pos2] [] pos) (HW C (ms >>= λrs=>aw rs >>= λ_=>M.Il (vk f rs))):=by
 rintro pins s σ H Q I ⟨c0,rfl,rfl,q,h⟩;have⟨b1,v,b3,b4,r,w⟩:=tT f;show DD (d0 I i j b1 ?_ b3 r);have a:=xV (p2:=p2) (pos2:=pos2) d g k l m n o I q h;have t:Hf pos (js [.Call (.Name f.iU p2) (e::es) [] pos2] X.env)=[(cb,vr (.Call (.Name f.iU p2) (e::es) [] pos2) X.env)]:=rfl;have u:NX pos (JT [] X.env)=[]:=rfl;rw[t,u];rcases D5 f with⟨T,b⟩|⟨T,b⟩
 .rw[b]at a ⊢;show A6 a
 .rw[b]at a ⊢;show xU a
end
section
variable{X:Cx}{C:Ct}{pins:List (hH×Obj)}{s:hW}{c0 c c1:Cf}
variable{a b d e o tg:pb}{es:List pb}{m ma mb md:M (Kd×U)}{ms:M (List (Kd×U))}{ta tb:M Bool}{pos p p2 apos HL:Pos}
abbrev lp(rs:List (Kd×U))(c f:Cf):Prop:=∀j u,(Kd.bor j,u)∈rs->f.σ[j]?=c.σ[j]?
abbrev Walk(C:Ct)(c:Cf)(rs:List (Kd×U))(xs:List (Kd×U))(J:It):Prop:=∀f,Ok C f->Ns c f->lp rs c f->bo rs f.st ->
 (∀(i:Nat) r,xs[i]?=a5 r->(r.1=.loc\/r.1=.any)/\J.go i f.H/\∀x H',J.Qz i f.H x H'->∃g:Cf,g.H=H'/\g.σ=f.σ/\g.st=f.st/\Ok C g/\Nx f g/\aH C f g r.1 r.2 x) /\
 ∀i:Nat,xs.length<=i->J.stop i f.H
abbrev LX(C:Ct)(ik:Ik)(ms:M (List (Kd×U))):TI:=λσ H R=>∃c0:Cf,c0.σ=σ/\c0.H=H/\Ok C c0/\W (ms >>= λrs=>aw rs >>= λ_=>M.Il (KA ik rs) >>= λxs=>pure (rs,xs)) c0.st λq st' =>
 ∀c J,c.σ=σ->c.st=st'->Ok C c->Nx c0 c->bo q.1 c.st->Walk C c q.1 q.2 J->R J c.H
def aH.walk(g:Ok C c)(n:Ns c f)(i:lp [r] c f)(hs:bo [r] f.st)(h:aH C c0 c r.1 r.2 v):aH C c0 f r.1 r.2 v :=
 (h.w.U7 g n λj e=>i j r.2 (by rw[<-e];simp)).t hs
def xW(k:Kd):kE k=.loc\/kE k=.any:=by cases k<;>simp[kE]
def vC(z:C.K=X.K)(A:Ok C c)(h:aH C c0 c k (.lst us) (.ref a')):Walk C c [(k,.lst us)] (us.map λu=>(kE k,u)) (RF X.K a'):=by
 intro l q n B hs;have h':=aH.walk (r:=(k,.lst us)) A n B hs h;have⟨G,vs,e,f,t⟩:=h'.list q;cases e;rw[z]at f;show⟨λi r w=>?_,λi hi=>⟨vs,f,by rw[<-t.len];simpa using hi⟩⟩;rw[k9,ez]at w;have⟨u,D,rfl⟩:=w;have⟨v,y,g⟩:=t.get D;show⟨xW k,⟨vs,v,f,y⟩,λx H' j=>?_⟩;have⟨e,j⟩:=j;subst e;have:=j vs f;rw[y]at this;cases this;show⟨l,rfl,rfl,rfl,q,Nx.refl l,aH.item g⟩
def rJ(z:C.K=X.K)(A:Ok C c)(h:aH C c0 c k (.tup us) (.ref a')):Walk C c [(k,.tup us)] (us.map λu=>(kE k,u)) (RG X.K a'):=by
 intro l q n B hs;have h':=aH.walk (r:=(k,.tup us)) A n B hs h;have⟨G,vs,e,f,t⟩:=h'.tuple q;cases e;rw[z]at f;show⟨λi r w=>?_,λi hi=>⟨vs,f,by rw[<-t.len];simpa using hi⟩⟩;rw[k9,ez]at w;have⟨u,D,rfl⟩:=w;have⟨v,y,g⟩:=t.get D;show⟨xW k,⟨vs,v,f,y⟩,λx H' j=>?_⟩;have⟨e,j⟩:=j;subst e;have:=j vs f;rw[y]at this;cases this;show⟨l,rfl,rfl,rfl,q,Nx.refl l,aH.item g⟩
def xX:Walk C c [(k,.str x)] (x.cps.toList.map λch=>(.loc,.str ⟨#[ch]⟩)) (Su x):=by
 intro f l n t hs;show⟨λi r g=>?_,λi hi=>by change x.cps.toList.length<=i;simpa using hi⟩;rw[k9,ez]at g;have⟨ch,h,rfl⟩:=g;show⟨.inl rfl,(d4.mp h).1,λy H' q=>?_⟩;have⟨e,u,j,rfl⟩:=q;subst e;rw[h]at j;cases j;show⟨f,rfl,rfl,rfl,l,Nx.refl f,rfl⟩
def lq{lo:Int}:Walk C c rs ((i4 n).map λi:Nat=>(Kd.loc,U.int (lo+(i:Int)))) (O4 lo n):=by
 intro g k nx q hs;show⟨λi r h=>?_,λi hi=>by change n<=i;simpa using hi⟩;rw[k9,ez]at h;have⟨j,f,rfl⟩:=h;have hi:i<n:=by simpa using(d4.mp f).1
 rw[RZ hi]at f;cases f;show⟨.inl rfl,hi,λy H' l=>?_⟩;have⟨e,rfl⟩:=l;subst e;show⟨g,rfl,rfl,rfl,k,Nx.refl g,rfl⟩
def D6(j:C.K=X.K)(l:PE X a (HW C ma)):PI X tg a (LX C .seq (ma >>= λr=>pure [] >>= λrs=>pure (r::rs))):=by
 rintro pins s σ H R I ⟨c0,rfl,rfl,q,h⟩;rw[ah,ah]at h;have⟨r,st1,t,h⟩:=h;rw[ah,ao,ao,ah,bY,ah]at h;have⟨w,h⟩:=h;have⟨xs,e2,h⟩:=cH.mp h;rw[ao]at h;have⟨k,u⟩:=r;cases u with
 |lst us =>
  cases e2;show zV l pins s c0.σ c0.H R I ⟨c0,rfl,rfl,q,_,st1,t,λc v i hs g n f=>?_⟩;have⟨a',vs,rfl,y,A⟩:=f.list g;subst hs;show⟨a',rfl,⟨vs,j▸y⟩,h c _ i rfl g n w (vC j g f)⟩
 |tup us =>
  cases e2;show C4 l pins s c0.σ c0.H R I ⟨c0,rfl,rfl,q,_,st1,t,λc v i hs g n f=>?_⟩;have⟨a',vs,rfl,y,A⟩:=f.tuple g;subst hs;have z:=y;rw[j]at z;show⟨a',rfl,⟨vs,z⟩,h c _ i rfl g n w (rJ j g f)⟩
 |str x =>
  cases e2;show Dt l pins s c0.σ c0.H R I ⟨c0,rfl,rfl,q,_,st1,t,λc v i hs g n f=>?_⟩;subst hs;show⟨_,f.str g,h c _ i rfl g n w xX⟩
 |_=>cases e2
def rK{k:List (Kd×U)->M β}{Post:β->au->Prop}(g:Ok C c0)(h:W (ms >>= λrs=>aw rs >>= λ_=>k rs) c0.st Post)
  (hz:∀rs c vs,JI C c0 c rs vs->W (k rs) c.st Post->Z vs c.H):Jh C ms c0.σ c0.H Z:=by
 rw[ah]at h;show⟨c0,rfl,rfl,g,h.mono λrs st1 f c1 vs i e2 j l r1=>?_⟩;rw[ah,bY]at f;subst e2;show hz rs c1 vs ⟨i,j,l,r1,f.1⟩ f.2
def A8(g:Gl X "range")(i:X.mg "range"=b6)(hs:js [a] X.env=[(cb,vr a X.env)])(j:PA X [a] (Jh C ms)):PI X tg (.Call (.Name "range" p) [a] [] pos) (LX C .IL ms):=by
 rintro pins s σ H R I ⟨c0,rfl,rfl,k,h⟩;show uT g i j hs pins s c0.σ c0.H R I (rK k h λrs c vs t w=>?_);rw[ah]at w;have⟨xs,e2,w⟩:=cH.mp w;rw[ao]at w;have⟨x,rfl,hz⟩:=bB (f:=vm) e2;clear e2;have e2:=hz;clear hz;have⟨v,rfl,l⟩:=t.one;unfold vm at e2;split at e2
 .split at e2
  .rename_i n;cases e2;show⟨_,by rw[l.int t.ok],⋯,⋯,w c _ t.hσ rfl t.ok t.nx t.MK lq⟩
  .cases e2
 .cases e2
def A9(f:Gl X "range")(g:X.mg "range"=b6)(hs:js [a,b] X.env=[(cb,vr a X.env),(cb,vr b X.env)])(i:js [b] X.env=[(cb,vr b X.env)])(j:PA X [a,b] (Jh C ms)):PI X tg (.Call (.Name "range" p) [a,b] [] pos) (LX C .MC ms):=by
 rintro pins s σ H R I ⟨c0,rfl,rfl,k,h⟩;show uU f g j hs i pins s c0.σ c0.H R I (rK k h λrs c vs t w=>?_);rw[ah]at w;have⟨xs,e2,w⟩:=cH.mp w;rw[ao]at w;have e2:DP rs=a5 xs:=e2;unfold DP at e2;split at e2
 .split at e2
  .rename_i q;cases e2;have⟨v,v',rfl,l,n⟩:=t.two;show⟨_,_,by rw[l.int t.ok,n.int t.ok],⋯,w c _ t.hσ rfl t.ok t.nx t.MK lq⟩
  .cases e2
 .cases e2
def pZ{k:Kd}{us:List U}{u0:U}{a':hH}{t:Hp->List V->Prop}(B:∀f,Ok C f->Ns c f->lp [(k,u0)] c f->bo [(k,u0)] f.st->∃vs,t f.H vs/\ar C (SK C f k) f.H us vs):Walk C c [(k,u0)] (us.zipIdx.map λp=>(kE k,.tup [.int p.2,p.1])) (OB t):=by
 intro f g n D hs;have⟨vs,h,w⟩:=B f g n D hs;show⟨λi r y=>?_,λi hi=>⟨vs,h,by rw[<-w.len];simpa using hi⟩⟩;rw[k9,ez]at y;have⟨p,z,rfl⟩:=y;rw[Tz,ez]at z;have⟨u,G,rfl⟩:=z;have⟨v,A,j⟩:=w.get G;show⟨xW k,⟨vs,v,h,A⟩,λx H' l=>?_⟩;have⟨p,I,rfl,l⟩:=l;have J:=l vs v h A;subst J;have⟨L,q⟩:=g.lay (o:=.tup [.int i,v]) I;show⟨{f with H:=upd f.H p (.tup [.int i,v])},rfl,rfl,rfl,L,q,aH.item ?_⟩;have r2:ar C (SK C f k) f.H [.int ((0+i:Nat):Int),u] [.int (i:Int),v]:=by
  rw[VV];show⟨_,_,rfl,rfl,_,_,rfl,j,rfl⟩
 cases k<;>show⟨p,_,rfl,II.of aq,by first|show r2.mv (g.MB q)|show r2.mv (g.mv q)⟩
def D7{es:List pb}{y:Nat}{ps:Pos}(j:C.K=X.K)(z:Gl X "enumerate")(A:X.mg "enumerate"=b6)(hs:js [a] X.env=[(cb,vr a X.env)])(B:PA X [a] (Jh C ms)):PI X (.Tuple es y ps) (.Call (.Name "enumerate" p) [a] [] pos) (LX C .Nd ms):=by
 rintro pins s σ H R I ⟨c0,rfl,rfl,D,h⟩;show Aq z A B hs pins s c0.σ c0.H R I (rK D h λrs c vs t w=>?_);rw[ah]at w;have⟨xs,e2,w⟩:=cH.mp w;rw[ao]at w;have⟨x,rfl,hz⟩:=bB (f:=DQ) e2;clear e2;have e2:=hz;clear hz;have⟨v,rfl,k⟩:=t.one;unfold DQ at e2;split at e2
 .cases e2;have⟨a',ws,l,g,i⟩:=k.list t.ok;subst l;show⟨a',rfl,.inl ⟨⟨ws,j▸g⟩,w c _ t.hσ rfl t.ok t.nx t.MK ?_⟩⟩;show pZ (a':=a') λG q n r u=>?_;have⟨J,vs,e,g,i⟩:=(aH.walk t.ok n r u k).list q;cases e;show⟨vs,j▸g,i⟩
 .cases e2;have⟨a',ws,l,g,i⟩:=k.tuple t.ok;subst l;rw[j]at g;show⟨a',rfl,.inr ⟨⟨ws,g⟩,w c _ t.hσ rfl t.ok t.nx t.MK ?_⟩⟩;show pZ (a':=a') λG q n r u=>?_;have⟨J,vs,e,g,i⟩:=(aH.walk t.ok n r u k).tuple q;cases e;rw[j]at g;show⟨vs,g,i⟩
 .cases e2
def Ok.put(l:Ok C c)(n:Nx c0 c)(hi:i<c.σ.length)(hk:k=.own\/k=.loc\/k=.any)(JB:Ok C c0)(h:aH C c0 c k u v):
  Ok C {c with σ:=c.σ.set i (a5 v),st:=c.st.set i (a5 (k,u))}/\Nx c0 {c with σ:=c.σ.set i (a5 v),st:=c.st.set i (a5 (k,u))}:=by
 have N:i<c.st.length:=by rw[l.len];show hi
 have O:∀(j:Nat) k' u',(c.st.set i (a5 (k,u)))[j]?=a5 (a5 (k',u'))->j≠i->c.st[j]?=a5 (a5 (k',u')):=λj k' u' e Q=>by rw[i7 (tv Q)]at e;show e
 have Ji:∀(j:Nat) v',(c.σ.set i (a5 v))[j]?=a5 (a5 v')->j≠i->c.σ[j]?=a5 (a5 v'):=λj v' e Q=>by rw[i7 (tv Q)]at e;show e
 have sl:fO C c.S c.H k u v:=by
  rcases hk with rfl|rfl|rfl
  .have⟨r,e,A,G,x,I⟩:=h;have⟨z0,z1,J,z3,z4⟩:=JB.gO A;show⟨r,e,G,J,z0,I⟩
  .show h
  .show h
 have T:∀(j:Nat) k' u' r,k'.root=bD->(c.st.set i (a5 (k,u)))[j]?=a5 (a5 (k',u'))->(c.σ.set i (a5 v))[j]?=a5 (a5 (.ref r))->j=i/\k=.own/\v=.ref r\/j≠i/\c.st[j]?=a5 (a5 (k',u'))/\c.σ[j]?=a5 (a5 (.ref r)):=λj k' u' r B g e2=>by
  by_cases f:j=i
  .subst f;rw[d6 N]at g;rw[d6 hi]at e2;cases g;cases e2;rcases hk with rfl|rfl|rfl
   .show .inl ⟨rfl,rfl,rfl⟩
   .cases B
   .cases B
  .show .inr ⟨f,O j k' u' g f,Ji j _ e2 f⟩
 have dD:∀(j:Nat) (u':U),(c.st.set i (a5 (k,u)))[j]?=a5 (a5 (.A',u'))->c.st[j]?=a5 (a5 (.A',u'))/\(c.σ.set i (a5 v))[j]?=c.σ[j]?:=λj u' e=>by
  by_cases f:j=i
  .subst f;rw[d6 N]at e;cases e;rcases hk with hk|hk|hk<;>cases hk
  .show⟨O j .A' u' e f,i7 (tv f)⟩
 have b1:∀a,({c with σ:=c.σ.set i (a5 v),st:=c.st.set i (a5 (k,u))}:Cf).R1 a->c.R1 a\/k=.own/\v=.ref a:=λa Ih=>by
  have⟨j,k',u',B,g,e2⟩:=Ih;rcases T j k' u' a B g e2 with⟨L,t,w⟩|⟨L,t,w⟩
  .show .inr ⟨t,w⟩
  .show .inl ⟨j,k',u',B,t,w⟩
 have ML:K9 C {c with σ:=c.σ.set i (a5 v),st:=c.st.set i (a5 (k,u))}:=l.dd.of rfl dD (λa z=>(b1 a z).imp id λ⟨Y,q2⟩ j z'=>by
  subst Y;obtain⟨D,e,_,_,x,_⟩:=h;rw[q2]at e;cases e;show x (.inr ⟨j,z'⟩)) (.up λ_ z=>z) λj a z=>⟨(l.root (.inr ⟨j,z⟩)).1,λo q=>q⟩
 show⟨⟨l.same,l.JY,l.par,l.io,by simp[l.len],λj k' u' e=>?_,λj1 j2 k1 k2 u1 u2 r Tj PU g e2 e3 e4=>?_,ML⟩,⟨⟨n.keep,n.there,λa z=>?_,n.sub,n.new⟩⟩⟩
 .by_cases f:j=i
  .subst f;rw[d6 N]at e;cases e;show⟨v,by rw[d6 hi],sl⟩
  .have⟨v',g,e2⟩:=l.sl j k' u' (O j k' u' e f);show⟨v',by rw[i7 (tv f)];show g,e2⟩
 .have z1:=T j1 k1 u1 r Tj g e3;have J:=T j2 k2 u2 r PU e2 e4;rcases z1 with⟨L,t,w⟩|⟨L,t,w⟩
  .rcases J with⟨b1,y,b3⟩|⟨b1,y,b3⟩
   .show L.trans b1.symm
   .subst t;have⟨D,e,A,G,x,I⟩:=h;rw[w]at e;cases e;show(x (.inl ⟨j2,k2,u2,PU,y,b3⟩)).elim
  .rcases J with⟨b1,y,b3⟩|⟨b1,y,b3⟩
   .subst y;have⟨D,e,A,G,x,I⟩:=h;rw[b3]at e;cases e;show(x (.inl ⟨j1,k1,u1,Tj,t,w⟩)).elim
   .show l.inj j1 j2 k1 k2 u1 u2 r Tj PU t y w b3
 .rcases z with z|⟨j,u',D,g,e2,e3⟩
  .rcases b1 a z with z|⟨t,w⟩
   .show n.roots a (.inl z)
   .subst t;have⟨D,e,A,G,x,I⟩:=h;rw[w]at e;cases e;show .inr A
  .have⟨Y,q2⟩:=dD j u' g;show n.roots a (.inr ⟨j,u',D,Y,q2▸e2,e3⟩)
def ot(z:Ok C c0)(q:Ok C c)(n:Nx c0 c)(hi:i<c.σ.length)(t:aH C c0 c r.1 r.2 v)(h:W (eG i r) c.st Post):
  ∃y,y.σ=c.σ.set i (a5 v)/\y.H=c.H/\Ok C y/\Nx c0 y/\Post () y.st:=by
 have⟨k,u⟩:=r;cases k with
 |own =>
  have⟨x,st',e,f⟩:=h;cases e;have⟨g,l⟩:=q.put n hi (.inl rfl) z t;show⟨{c with σ:=c.σ.set i (a5 v),st:=c.st.set i (a5 (.own,u))},rfl,rfl,g,l,f⟩
 |loc =>
  have⟨x,st',e,f⟩:=h;cases e;have⟨g,l⟩:=q.put n hi (.inr (.inl rfl)) z t;show⟨{c with σ:=c.σ.set i (a5 v),st:=c.st.set i (a5 (.loc,u))},rfl,rfl,g,l,f⟩
 |any =>
  have⟨x,st',e,f⟩:=h;cases e;have⟨g,l⟩:=q.put n hi (.inr (.inr rfl)) z t;show⟨{c with σ:=c.σ.set i (a5 v),st:=c.st.set i (a5 (.any,u))},rfl,rfl,g,l,f⟩
 |bor j =>
  have⟨x,st',e,f⟩:=h;rw[show eG i (.bor j,u) c.st=match c.st[j]? with|some (a5 (.own,u))=>a5 (Ex.ok (),(c.st.set j (a5 (.loc,u))).set i (a5 (.loc,u)))|_=>b6 from rfl]at e;split at e
  .rename_i w B;cases e;obtain⟨v',D,r,I,_⟩:=q.sl j _ _ B;have G:c.σ[j]?=a5 (a5 v):=t.2;rw[G]at D;cases D;subst I;have⟨J,L,A⟩:=q.xQ n B G;have⟨g,l⟩:=Ok.put (c:={c with S:=λa=>c.S a\/a=r,st:=c.st.set j (a5 (.loc,w))}) J L (k:=.loc) (u:=w) (v:=.ref r) hi (.inr (.inl rfl)) z A;show⟨{S:=λa=>c.S a\/a=r,H:=c.H,σ:=c.σ.set i (a5 (.ref r)),st:=(c.st.set j (a5 (.loc,w))).set i (a5 (.loc,w)),kid:=c.kid},rfl,rfl,g,l,f⟩
  .cases e
 |_=>show t.elim
end
section
abbrev tG(C:Ct)(t:Bool)(is:List Nat):TG:=λv σ H Q=>∃c0 c r,c.σ=σ/\c.H=H/\Ok C c0/\Ok C c/\Nx c0 c/\aH C c0 c r.1 r.2 v/\W (c7 t is r) c.st λ_ st' =>
 ∀a,a.st=st'->Ok C a->Nx c0 a->(∀j,j∉is->a.σ[j]?=c.σ[j]?)->a.σ.length=c.σ.length->Q a.σ a.H
structure rL(X:Cx)(e:pb)(i:Nat):Prop where
 is:∃x pos,e=.Name x pos/\X.N[i]?=a5 x/\Loc X.env.scope x/\(X.fn x=bD\/X.env.scope.names.lookup x=a5 .local)
def D8(g:X.N.Nodup)(h:rL X e i):PG X e (tG C cb [i]):=by
 have⟨x,pos,rfl,f,k,l⟩:=h.is;rintro a s σ H v u Q I rv ⟨c0,c,r,rfl,rfl,m,o,n,b,w⟩;have hi:i<c.σ.length:=by rw[I.len];show(d4.mp f).1
 have⟨p,d,e2,t,y,q⟩:=ot (r:=r) m o n hi b w;show sO g f k l a s c.σ c.H v u Q I rv ?_;have z:=q p rfl t y (λj A=>by rw[d,i7 (by intro z;show A (by simp[z]))]) (by rw[d];simp);rw[d,e2]at z;show z
abbrev Tn:List Nat->Om
 |[]=>Fg
 |i::is=>Ce (sN i) (Tn is)
inductive fc(X:Cx):List pb->List Nat->Prop where
 |nil:fc X [] []
 |cons {e:pb} {es:List pb} {i:Nat} {is:List Nat} (h:rL X e i) (t:fc X es is):fc X (e::es) (i::is)
def vD(a:X.N.Nodup)(h:fc X es is):O3 X es (Tn is):=by
 induction h with
 |nil=>show zT
 |cons h t b =>
  have⟨x,pos,rfl,c,d,e⟩:=h.is;show wy (sO a c d e) b rfl
def rM(h:fc X es is):(Q4 es X.env).length=is.length/\(Q4 es X.env).findIdx? (·.1)=b6:=by
 induction h with
 |nil=>show⟨rfl,rfl⟩
 |cons h t a =>
  have⟨x,pos,rfl,b,c,d⟩:=h.is;show⟨?_,?_⟩
  .change(_::_).length=_;simp[a.1]
  .change ú _ (_::_)=b6;rw[List.findIdx?_cons,ĺ (by simp),a.2];rfl
theorem tU(hk:kE k=k)(f:Ok C c0):∀{is:List Nat}{us:List U}{vs:List V}{c:Cf}{Post:Unit->au->Prop}{Q:L2.St->Hp->Prop},Ok C c->Nx c0 c->(∀i∈is,i<c.σ.length)->ar C (SK C c k) c.H us vs->W (sets is (us.map λu=>(k,u))) c.st Post ->
  (∀b,Post () b.st->Ok C b->Nx c0 b->(∀j,j∉is->b.σ[j]?=c.σ[j]?)->b.σ.length=c.σ.length->Q b.σ b.H)->Tn is vs c.σ c.H Q
 |[],[],vs,c,Post,Q,ok,n,hi,a,w,q=>by
  rw[show sets [] (Tw (λu=>(k,u)) [])=pure () from rfl,ao]at w;show⟨a,q c w ok n (λ_ _=>rfl) rfl⟩
 |[],u::us,vs,c,Post,Q,ok,n,hi,a,w,q=>(ba.mp w).elim
 |i::is,[],vs,c,Post,Q,ok,n,hi,a,w,q=>(ba.mp w).elim
 |i::is,u::us,vs,c,Post,Q,ok,n,hi,a,w,q=>by
  rw[show sets (i::is) (Tw (λu=>(k,u)) (u::us))=eG i (k,u) >>= λ_=>sets is (us.map λu=>(k,u)) from rfl,ah]at w;have⟨v,r,rfl,g,h⟩:=a;have l:k=.own\/k=.loc\/k=.any:=by cases k<;>simp[kE]at hk<;>simp
  have A:k≠.own:=by cases k<;>simp[kE]at hk<;>simp
  have rt:aH C c0 c k u v:=by rw[<-hk];show aH.item g
  have⟨m,o⟩:=ok.put n (hi i (by simp)) l f rt;have es:eG i (k,u)=λst=>a5 (.ok (),st.set i (a5 (k,u))):=by cases k<;>simp[kE]at hk<;>rfl
  obtain⟨_,st',e,s⟩:=w;rw[es]at e;cases e;show⟨v,r,rfl,tU (c:={c with σ:=c.σ.set i (a5 v),st:=c.st.set i (a5 (k,u))}) hk f m o (λj d=>by simpa using hi j (by simp[d])) (by cases k<;>show h) s λb p t x y hl=>?_⟩;show q b p t x (λj d=>?_) (by rw[hl];simp);rw[y j (λz=>d (by simp[z])),i7 (λz=>d (by simp[z]))]
def FU(m:X.calm=bD)(o:C.K=X.K)(q:X.N.Nodup)(h:fc X es is)(hl:∀i∈is,i<X.N.length):PG X (.Tuple es O pos) (tG C bD is):=by
 rintro a s σ H v u Q I rv ⟨c0,c,r,rfl,rfl,t,f,n,d,w⟩;have⟨y,e2⟩:=rM h;show CY m (vD q h) y e2 a s c.σ c.H v u Q I rv ?_;have⟨k,z⟩:=r;cases z with
 |tup us =>
  rw[show c7 bD is (k,.tup us)=sets is (us.map λu=>(kE k,u)) from by cases is<;>rfl]at w;have⟨a',vs,rfl,g,j⟩:=d.tuple f;rw[o]at g;have b:us.length=is.length:=by
   have e:∀(is:List Nat) (l:List (Kd×U)) (st:au) (P:Unit->au->Prop),W (sets is l) st P->l.length=is.length:=by
    intro is;induction is with
    |nil=>intro l st P w;cases l with
     |nil=>rfl
     |cons _ _=>show(ba.mp w).elim
    |cons i is A=>intro l st P w;cases l with
     |nil=>show(ba.mp w).elim
     |cons x l =>
      rw[show sets (i::is) (x::l)=eG i x >>= λ_=>sets is l from rfl,ah]at w;obtain⟨_,_,_,w⟩:=w;rw[lx,lx,A l _ _ w]
   simpa using e _ _ _ _ w
  show⟨a',vs,rfl,g,by rw[<-j.len,b],?_⟩;show tU (k:=kE k) (by cases k<;>rfl) t f n (λi hi=>by rw[I.len];show hl i hi) (by cases k<;>show j) w λB p D G J L=>p B rfl D G J L
 |_=>cases is<;>show(ba.mp w).elim
end
section
variable{X:Cx}{C:Ct}{pins:List (hH×Obj)}{s:hW}{c0 c c1:Cf}
variable{a b d e o tg iter elt:pb}{es ifs:List pb}{m ma mb md me:M (Kd×U)}{ms:M (List (Kd×U))}{ta tb tc:M Bool}{pos p p2 apos HL:Pos}
def vE{m:M α}{st:au}{Q:α->au->Prop}:W (inScope k m) st Q↔W m (mu k b6++st) λa st'=>Q a (st'.drop k):=by
 constructor
 .rintro⟨a,st',e,h⟩;unfold inScope at e;cases q:m (mu k b6++st) with
  |none=>rw[q]at e;cases e
  |some r=>have⟨r1,r2⟩:=r;rw[q]at e;cases e;show⟨a,r2,q,h⟩
 .rintro⟨a,st',e,h⟩;show⟨a,st'.drop k,by unfold inScope;rw[e],h⟩
abbrev Cf.ext(k:Nat)(c:Cf):Cf:={c with σ:=mu k b6++c.σ,st:=mu k b6++c.st,kid:=λj=>c.kid (j - k)}
abbrev Cf.cut(k:Nat)(c:Cf):Cf:={c with σ:=c.σ.drop k,st:=c.st.drop k,kid:=λj=>c.kid (k+j)}
def gB(h:(mu k b6++l)[j]?=a5 (a5 x)):∃i,j=k+i/\l[i]?=a5 (a5 x):=by
 by_cases f:j<k
 .rw[ro (by simpa using f)]at h;rw[LC]at h;rw[Ĺ f]at h;cases h
 .show⟨j - k,⋯,?_⟩;rw[nH (by simp;lia)]at h;simpa using h
def fe:(mu k b6++l)[k+i]?=l[i]?:=by
 rw[nH (by simp)];simp
def xY:(c.ext k).R1 r↔c.R1 r:=by
 constructor
 .rintro⟨j,g,u,h,l,f⟩;have⟨i,rfl,e⟩:=gB l;rw[Cf.ext,fe]at f;show⟨i,g,u,h,e,f⟩
 .rintro⟨i,g,u,h,l,f⟩;show⟨k+i,g,u,h,by rw[Cf.ext,fe];show l,by rw[Cf.ext,fe];show f⟩
def ou{a:hH}(h:(c.ext k).RD j a):∃i,j=k+i/\c.RD i a:=by
 have⟨u,r,g,e2,f⟩:=h;have⟨i,rfl,e⟩:=gB g;rw[Cf.ext,fe]at e2;show⟨i,rfl,u,r,e,e2,?_⟩;have:(c.ext k).kid (k+i)=c.kid i:=by change c.kid (k+i - k)=_;rw[Qn]
 rw[this]at f;show f
def FV(h:(c.ext k).R r):c.R r:=by
 rcases h with h|⟨j,h⟩
 .show .inl (xY.mp h)
 .obtain⟨i,_,h⟩:=ou h;show .inr ⟨i,h⟩
def Ok.ext(k:Nat)(f:Ok C c):Ok C (c.ext k)/\Nx c (c.ext k):=by
 show⟨⟨f.same,f.JY,f.par,f.io,by simp[Cf.ext,f.len],λj z u e=>?_,λi j k1 k2 u u' r A B g e2 x y=>?_,⟨λj u r g e2=>?_,λi j a l n=>?_,λj a l n=>?_⟩⟩,⟨⟨λ_ _ h _=>h,λ_ o h=>⟨o,h⟩,λa h=>.inl (FV h),λ_ h=>h,λ_ h=>.inl h⟩⟩⟩
 .have⟨i,rfl,D⟩:=gB e;have⟨v,g,e2⟩:=f.sl i z u D;show⟨v,by rw[Cf.ext,fe];show g,e2⟩
 .have⟨q,rfl,G⟩:=gB g;have⟨t,rfl,H⟩:=gB e2;rw[Cf.ext,fe]at x y;rw[f.inj q t k1 k2 u u' r A B G H x y]
 .have⟨i,rfl,e⟩:=gB g;rw[Cf.ext,fe]at e2;have:(c.ext k).kid (k+i)=c.kid i:=by change c.kid (k+i - k)=_;rw[Qn]
  rw[this];show f.dd.kd i u r e e2
 .have⟨q,rfl,w⟩:=ou l;have⟨t,rfl,I⟩:=ou n;rw[f.dd.dj q t a w I]
 .have⟨i,rfl,w⟩:=ou l;show f.dd.d1 i a w (xY.mp n)
def xZ{a:hH}(h:(c.cut k).R1 a):c.R1 a:=by
 have⟨j,i,u,l,f,g⟩:=h;rw[Cf.cut,J3]at f g;show⟨k+j,i,u,l,f,g⟩
def oy{a:hH}(h:(c.cut k).RD j a):c.RD (k+j) a:=by
 have⟨u,r,f,g,i⟩:=h;rw[Cf.cut,J3]at f g;show⟨u,r,f,g,i⟩
def Ok.cut(k:Nat)(f:Ok C c):Ok C (c.cut k)/\Nx c (c.cut k):=by
 show⟨⟨f.same,f.JY,f.par,f.io,by simp[Cf.cut,f.len],λj w u e=>?_,λi j k1 k2 u u' r x y g e2 q t=>?_,⟨λj u r g e2=>?_,λi j a l n=>?_,λj a l n=>f.dd.d1 _ a (oy l) (xZ n)⟩⟩,⟨⟨λ_ _ h _=>h,λ_ o h=>⟨o,h⟩,λa h=>.inl (h.elim (λz=>.inl (xZ z)) λ⟨j,z⟩=>.inr ⟨k+j,oy z⟩),λ_ h=>h,λ_ h=>.inl h⟩⟩⟩
 .rw[Cf.cut,J3]at e;have⟨v,g,e2⟩:=f.sl _ w u e;show⟨v,by rw[Cf.cut,J3];show g,e2⟩
 .rw[Cf.cut,J3]at g e2 q t;have:=f.inj _ _ k1 k2 u u' r x y g e2 q t;lia
 .rw[Cf.cut,J3]at g e2;show f.dd.kd _ u r g e2
 .have:=f.dd.dj _ _ a (oy l) (oy n);lia
def A_(h:∀j,j∉i4 k->g[j]?=(mu k b6++σ)[j]?)(hl:g.length=(mu k (b6:Option V)++σ).length):∃f:L2.St,f.length=k/\g=f++σ:=by
 show⟨g.take k,by rw[tj,hl];simp,?_⟩;apply Ë;intro j;by_cases i:j<k
 .rw[ro (by rw[tj,hl];simp;lia),List.getElem?_take,Ĺ i]
 .rw[h j (by simpa using i),nH (by simp;lia),nH (by rw[tj,hl];simp;lia)];congr 1
  rw[tj,hl];simp
def vF(e1:c1.σ=c0.σ)(HV:Ok C c1)(n1:Nx c0 c1)(hw:Walk C c1 rs xs J)(h3:W (bI k t tc me rs xs []) c1.st λus st'=>W (pure (Kd.own,U.lst us)) st' (cu C c0 Q)):
  sZ k J (tG C t (i4 k)) (Jz C tc) (HW C me) Q c0.σ c1.H:=by
 show⟨λi m ys H=>∃c f,c.H=H/\c.σ=c0.σ/\Ok C c/\Nx c1 c/\m=xs.length - i/\i<=xs.length/\ar C c.S c.H f ys/\f.length<=cL/\W (bI k t tc me rs (xs.drop i) f) c.st λus st'=>W (pure (Kd.own,U.lst us)) st' (cu C c0 Q),⟨xs.length,c1,[],rfl,e1,HV,Nx.refl c1,by simp,mN _,rfl,mN _,by simpa using h3⟩,?_⟩;rintro i m ys H ⟨c,f,rfl,G,y,A,rfl,hi,h,l,w⟩;show⟨by rw[<-h.len];show l,?_⟩;have g:lp rs c1 c:=λj u _=>by rw[G,e1]
 by_cases I:i<xs.length
 .right
  rw[Px I]at w;rw[show bI k t tc me rs (xs[i]::xs.drop (i+1)) f=aw rs >>= λ_=>inScope k (c7 t (i4 k) xs[i] >>= λ_=>tc >>= λb=>if b=bD then(me >>= λr=>lift r >>= λu=>pure (a5 u)) else pure b6) >>= λr=>match r with|some u=>if f.length<cL then bI k t tc me rs (xs.drop (i+1)) (f++[u]) else M.fail|none=>bI k t tc me rs (xs.drop (i+1)) f from rfl,ah,bY]at w;have⟨LY,w⟩:=w;obtain⟨L,_⟩:=hw c y A g LY;have⟨PY,To,QZ⟩:=L i xs[i] (by simp[I]);show⟨To,λJX H'=>∃c f,c.H=H'/\c.σ=c0.σ/\Ok C c/\Nx c1 c/\ar C c.S c.H f JX/\f.length<=cL/\W (bI k t tc me rs (xs.drop (i+1)) f) c.st λus st'=>W (pure (Kd.own,U.lst us)) st' (cu C c0 Q),λJX H' ⟨c',PB,z1,z2,z3,z4,z5,z6,z7⟩=>⟨xs.length - (i+1),⋯,c',PB,z1,z2,z3,z4,rfl,I,z5,z6,z7⟩,λx H' hy=>?_⟩;have⟨n,rfl,e4,e5,Iu,n2,rt⟩:=QZ x H' hy;rw[ah,vE,ah]at w;have⟨Q0,nx⟩:=Iu.ext k;have Xp:aH C (n.ext k) (n.ext k) xs[i].1 xs[i].2 x:=by
   rcases PY with z|z
   .rw[z]at rt ⊢;show rt
   .rw[z]at rt ⊢;show rt
  have eσ:(n.ext k).σ=mu k b6++c0.σ:=by rw[Cf.ext];change mu k b6++n.σ=_;rw[e4,G]
  show⟨n.ext k,n.ext k,xs[i],eσ,rfl,Q0,Q0,Nx.refl _,Xp,?_⟩;have Xq:(n.ext k).st=mu k b6++c.st:=by rw[Cf.ext];change mu k b6++n.st=_;rw[e5]
  rw[Xq];show w.mono λ_ IA w3 c3 e6 KD n3 PZ OL=>?_;subst e6;rw[eσ]at PZ OL;have⟨N,O,T⟩:=A_ PZ OL;show⟨N,O,T,?_⟩;have U':Nx c c3:=(n2.trans nx).trans n3;rw[ah]at w3;show⟨c3,rfl,rfl,KD,w3.mono λb Ox q D e7 e8 Y n4=>?_⟩;subst e8;cases b with
  |false =>
   rw[ĺ mx]at q ⊢;rw[ao]at q;have⟨Tq,nk⟩:=Y.cut k;have nn:Nx c (D.cut k):=(U'.trans n4).trans nk;show⟨D.cut k,f,rfl,?_,Tq,A.trans nn,h.mv (y.mv nn),l,q⟩;change D.σ.drop k=_;rw[e7,T,Td O]
  |true =>
   rw[Ĺ rfl]at q ⊢;rw[ah]at q;show⟨D,e7,rfl,Y,q.mono λr Ln w5 c5 v e9 Xr Xs n5 Xt=>?_⟩;subst Xr;rw[ah]at w5;obtain⟨S',st',u,sS,Xu,n6,Tr,B,_,_⟩:=gA Y Xs n5 Xt.w w5;rw[ao]at B
   dsimp only at B
   split at B
   .rename_i hz;have⟨Tq,nk⟩:=Xu.cut k;have nn:Nx c (Cf.cut k {c5 with S:=S',st:=st' }):=((U'.trans n4).trans n6).trans nk;show⟨Cf.cut k {c5 with S:=S',st:=st' },f++[u],rfl,?_,Tq,A.trans nn,(h.mv (y.mv nn)).snoc Tr,by rw[j0];show hz,B⟩;change c5.σ.drop k=_;rw[e9,T,Td O]
   .show(ba.mp B).elim
 .left
  have Lc:i=xs.length:=by lia
  subst Lc;rw[Ö,show bI k t tc me rs [] f=aw rs >>= λ_=>pure f from rfl,ah,bY,ao,ao]at w;obtain⟨_,L⟩:=hw c y A g w.1;show⟨L _ (hY _),λp hp=>cu.list w.2 G y (n1.trans A) h p hp⟩
def mV(l:Ok C c0)
  (h:W (ms >>= λrs=>aw rs >>= λ_=>M.Il (KA ik rs) >>= λxs=>bI k t tc me rs xs [] >>= λus=>pure (Kd.own,U.lst us)) c0.st (cu C c0 Q)) :
  xh k (LX C ik ms) (tG C t (i4 k)) (Jz C tc) (HW C me) c0.σ c0.H Q:=by
 rw[ah]at h;show⟨c0,rfl,rfl,l,?_⟩;rw[ah];show h.mono λrs st1 f=>?_;rw[ah,bY]at f ⊢;show⟨f.1,?_⟩;have g:=f.2;rw[ah]at g ⊢;show g.mono λxs st2 i=>?_;rw[ao];intro c1 J n e2 q r u j;rw[ah]at i;subst e2
 dsimp only at u j
 show vF n q r j i
def x6(S:cR X N own scope)(f:X.calm=bD)(hi:PI X tg iter (LX C ik ms))
  (g:∀D s H ex,PG (Jo X N scope D s H ex) tg (tG C t (i4 own.length))) (i:∀D s H ex,Mx (Jo X N scope D s H ex) ifs (Jz C tc)) (j:∀D s H ex,PE (Jo X N scope D s H ex) elt (HW C me))
  (hs:∀x,NQ iter X.env x=pure x) :
  PE X (.ListComp elt [⟨tg,iter,ifs,0⟩] scope pos) (HW C (ms >>= λrs=>aw rs >>= λ_=>M.Il (KA ik rs) >>= λxs=>bI own.length t tc me rs xs [] >>= λus=>pure (.own,.lst us))):=by
 show PE.weak (Am S f hi g i j hs) ?_;rintro σ H Q ⟨c0,rfl,rfl,k,h⟩;show mV k h
end
section
variable{a b d e o tg iter elt:pb}{es ifs:List pb}{m ma mb md me:M (Kd×U)}{ms:M (List (Kd×U))}{ta tb tc:M Bool}{pos p p2 apos HL:Pos}{st:NB}{rest body:List NB}{f g mm:M Fl}{ns Q1:Nat->Bool}
def Ba(C:Ct)(c:Cf):Kd->U->V->Prop
 |.own,u,v=>∃r,v=.ref r/\C.H₀ r=b6/\¬c.S r/\¬c.R r/\cO C c.S c.H r u
 |.loc,u,v=>Rep C c.S c.H u v
 |.any,u,v=>Rep C (PS C c.S) c.H u v
 |_,_,_=>False
def HB(C:Ct)(Q:VK)(c:Cf):Kd->U->Prop
 |.io,u=>C.xw u c.H
 |k,u=>∀v,Ba C c k u v->Q v c.H
abbrev Fin(C:Ct)(D:Ends)(f:Fl)(c:Cf):Prop:=match f with
 |.nx=>D.nx c.σ c.H
 |.bk=>D.bk c.σ c.H
 |.ct=>D.ct c.σ c.H
 |.rt k u=>HB C D.rt c k u
abbrev Kept(ns:Nat->Bool)(c h:Cf):Prop:=(∀j,ns j=bD->h.σ[j]?=c.σ[j]?)/\h.σ.length=c.σ.length
def Kept.refl:Kept ns c c:=⟨λ_ _=>rfl,rfl⟩
def Kept.trans(h:Kept ns c i)(h':Kept ns i k):Kept ns c k:=⟨λj z=>(h'.1 j z).trans (h.1 j z),h'.2.trans h.2⟩
def Kept.le(i:∀j,Q1 j=bD->ns j=bD)(h:Kept ns c k):Kept Q1 c k:=⟨λj z=>h.1 j (i j z),h.2⟩
def Kept.of(h:i.σ=c.σ):Kept ns c i:=⟨λj z=>by rw[h],by rw[h]⟩
abbrev eN(C:Ct)(c0:Cf)(ns:Nat->Bool)(D:Ends)(f:Fl)(st':au):Prop:=∀c,c.st=st'->Ok C c->Ns c0 c->Kept ns c0 c->Fin C D f c
abbrev IQ(C:Ct)(ns:Nat->Bool)(m:M Fl):TS:=λD σ H=>∃c0:Cf,c0.σ=σ/\c0.H=H/\Ok C c0/\W m c0.st (eN C c0 ns D)
def rN(i:Ok C c)(n:Ns c0 c)(k:Kept ns c0 c)(h:W mm c.st (eN C c0 ns D)):IQ C ns mm D c.σ c.H :=
 ⟨c,rfl,rfl,i,h.mono λf st j l e q r k2=>j l e q (n.trans r) (k.trans k2)⟩
def PS.weak(h:L2.PS X st t)(i:∀D σ H,t' D σ H->t D σ H):L2.PS X st t':=λc s σ H D I q=>h c s σ H D I (i D σ H q)
def Jr.weak(h:Jr X rest t)(i:∀D σ H,t' D σ H->t D σ H):Jr X rest t':=λc s σ H D I q=>h c s σ H D I (i D σ H q)
def oz(i:∀j,Q1 j=bD->ns j=bD)(h:IQ C Q1 mm D σ H):IQ C ns mm D σ H :=
 let ⟨c0,c,e2,k,w⟩:=h;⟨c0,c,e2,k,w.mono λf st l n e q r k2=>l n e q r (k2.le i)⟩
def FW:Jr X [] (IQ C ns (pure .nx)):=by
 show Jr.weak nE ?_;rintro D σ H ⟨c0,rfl,rfl,c,h⟩;rw[ao]at h;show h c0 rfl c (Ns.refl c0) Kept.refl
abbrev Bb(m:M Fl)(f:Fl):M Fl:=match f with
 |.nx=>m
 |f=>pure f
def D9(l:L2.PS X st (IQ C ns f))(n:Jr X rest (IQ C ns g)):Jr X (st::rest) (IQ C ns (f >>= Bb g)):=by
 show Jr.weak (ix l n) ?_;rintro D σ H ⟨c0,rfl,rfl,q,h⟩;rw[ah]at h;show⟨c0,rfl,rfl,q,h.mono λr st1 w j e c i k1=>?_⟩;subst e;cases r with
 |nx=>show rN c i k1 w
 |bk=>rw[show Bb g .bk=pure .bk from rfl,ao]at w;show w j rfl c i k1
 |ct=>rw[show Bb g .ct=pure .ct from rfl,ao]at w;show w j rfl c i k1
 |rt k u=>rw[show Bb g (.rt k u)=pure (.rt k u) from rfl,ao]at w;show w j rfl c i k1
def FX(i:PE X a (HW C ma))(hs:PV a b6 pos.line X.env=pure cb):L2.PS X (.Expr a pos) (IQ C ns (ma >>= λ_=>pure .nx)):=by
 show PS.weak (iy i hs) ?_;rintro D σ H ⟨c0,rfl,rfl,j,h⟩;show aD j h λx c v t w=>?_;rw[ao]at w;have:=w c rfl t.ok t.nx (Kept.of t.hσ);rw[<-t.hσ];show this
def D_:L2.PS X (.Return b6 pos) (IQ C ns (pure (.rt .loc .HX))):=by
 show PS.weak zS ?_;rintro D σ H ⟨c0,rfl,rfl,c,h⟩;rw[ao]at h;show h c0 rfl c (Ns.refl c0) Kept.refl .HX rfl
def x8(T:Ok C c0)(t:PR C c0 c x v)(w:W (retS x) c.st (eN C c0 ns D)):D.rt v c.H:=by
 have⟨k,u⟩:=x;have⟨B,l,n,r⟩:=t;cases k with
 |own =>
  rw[show retS (.own,u)=pure (.rt .own u) from rfl,ao]at w;have⟨A,e,Y,h2,h3,h4⟩:=r;show w c rfl l n (Kept.of B) v ⟨A,e,(T.gO Y).1,h2,h3,h4⟩
 |loc =>
  rw[show retS (.loc,u)=pure (.rt .loc u) from rfl,ao]at w;show w c rfl l n (Kept.of B) v r
 |any =>
  rw[show retS (.any,u)=if Ig u=bD then pure (.rt .loc u) else pure (.rt .any u) from rfl]at w;split at w
  .rw[ao]at w;show w c rfl l n (Kept.of B) v (Rep.Ig (by assumption) r)
  .rw[ao]at w;show w c rfl l n (Kept.of B) v r
 |bor j =>
  have⟨fl,st',e,w⟩:=w;rw[show retS (.bor j,u) c.st=match c.st[j]? with|some (a5 (.own,u))=>a5 (Ex.ok (Fl.rt .own u),c.st.set j b6)|_=>b6 from rfl]at e;split at e
  .rename_i u' I;cases e;have KC:j<c.st.length:=(d4.mp I).1;have y:∀(i:Nat) k u',(c.st.set j b6)[i]?=a5 (a5 (k,u'))->i≠j/\c.st[i]?=a5 (a5 (k,u')):=λi k u' e=>by
    by_cases J:i=j
    .subst J;rw[d6 KC]at e;cases e
    .rw[i7 (tv J)]at e;show⟨J,e⟩
   have⟨v',s,A,er,q1,q2,q3,q4⟩:=l.sl j _ _ I;have L:c.σ[j]?=a5 (a5 v):=r.2;rw[L]at s;cases s;subst er;have N:∀a,({c with st:=c.st.set j b6}:Cf).R1 a->c.R1 a:=λa ⟨i,k,h,hk,s,e2⟩=>⟨i,k,h,hk,(y i k h s).2,e2⟩
   have hR:∀a,({c with st:=c.st.set j b6}:Cf).R a->c.R a:=λa z=>z.elim (λz=>.inl (N a z)) λ⟨i,h,r2,s,e2,G⟩=>.inr ⟨i,h,r2,(y i .A' h s).2,e2,G⟩;have ML:K9 C {c with st:=c.st.set j b6}:=l.dd.of rfl (λi h e=>⟨(y i .A' h e).2,rfl⟩) (λa z=>.inl (N a z)) (.up λ_ z=>z) λi a z=>⟨(l.root (.inr ⟨i,z⟩)).1,λo q=>q⟩
   have Xv:Ok C {c with st:=c.st.set j b6}:=⟨l.same,l.JY,l.par,l.io,by simp[l.len],λi k h e=>l.sl i k h (y i k h e).2,λi O k k' Q h r hk IY s e2 G e4=>l.inj i O k k' Q h r hk IY (y i k Q s).2 (y O k' h e2).2 G e4,ML⟩
   have nn:Ns c0 {c with st:=c.st.set j b6}:=⟨n.keep,n.there,λa z=>n.roots a (hR a z),n.sub,n.new⟩
   show w {c with st:=c.st.set j b6} rfl Xv nn (Kept.of B) (.ref A) ⟨A,rfl,q3,q1,λz=>?_,q4⟩
   .rcases z with⟨i,k,h,hk,s,e2⟩|⟨i,h,r2,s,e2,G⟩
    .have⟨ne,I_⟩:=y i k h s;show ne (l.inj i j k .own h _ A hk rfl I_ I e2 L)
    .show l.dd.d1 i A ⟨h,r2,(y i .A' h s).2,e2,G⟩ ⟨j,.own,_,rfl,I,L⟩
  .cases e
 |_=>show r.elim
def FY(j:PE X a (HW C ma)):L2.PS X (.Return (a5 a) pos) (IQ C ns (ma >>= retS)):=by
 show PS.weak (CV j) ?_;rintro D σ H ⟨c0,rfl,rfl,i,h⟩;show aD i h λx c v t w=>x8 i t w
end
section
def p7(e:∀j,ns j=bD->j≠i)(f:Ok C c0)(t:PR C c0 c r v)(hi:i<c.σ.length)(w:W (eG i r >>= λ_=>(pure .nx:M Fl)) c.st (eN C c0 ns D)):D.nx (c0.σ.set i (a5 v)) c.H:=by
 rw[ah]at w;have⟨a,b,e2,g,h,q⟩:=ot (r:=r) f t.ok t.nx hi t.rx w;rw[ao]at q;have z:=q a rfl g h ⟨λj k=>by rw[b,t.hσ,i7 (tv (e j k))],by rw[b,t.hσ];simp⟩;have d:D.nx a.σ a.H:=z;rw[b,e2,t.hσ]at d;show d
def Cs(e:∀j,ns j=bD->j≠i)(f:X.N.Nodup)(hi:X.N[i]?=a5 x)(g:Loc X.env.scope x)(k:X.fn x=bD\/X.env.scope.names.lookup x=a5 .local)(l:PE X a (HW C m))
  (hs:PV a (a5 (.Name x pos')) pos.line X.env=pure cb):L2.PS X (.Assign [.Name x pos'] a pos) (IQ C ns (m >>= λr=>eG i r >>= λ_=>pure .nx)):=by
 rintro b s σ H D I ⟨c0,rfl,rfl,d,h⟩;have n:i<c0.σ.length:=by rw[I.len];show(d4.mp hi).1
 show nG f hi g l hs k b s c0.σ c0.H D I (aD d h λr c v t w=>p7 e d t (by rw[t.hσ];show n) w)
def Ea(l:∀j,ns j=bD->j≠i)(S:cR X N own scope)(m:X.calm=bD)(o:X.N.Nodup)(f:X.N[i]?=a5 y)(p:X.env.scope.names.lookup y=a5 .local)
  (hi:PI X e a (LX C ik ms)) (q:∀D s H ex,PG (Jo X N scope D s H ex) e (tG C t (i4 own.length))) (u:∀D s H ex,Mx (Jo X N scope D s H ex) b (Jz C z)) (A:∀D s H ex,PE (Jo X N scope D s H ex) elt (HW C B))
  (G:PV (.ListComp elt [⟨e,a,b,0⟩] scope pos) (a5 (.Name y J)) L.line X.env=pure bD) (hs:∀x,NQ a X.env x=pure x) :
  L2.PS X (.Assign [.Name y J] (.ListComp elt [⟨e,a,b,0⟩] scope pos) L)
   (IQ C ns ((ms >>= λrs=>aw rs >>= λ_=>M.Il (KA ik rs) >>= λxs=>bI own.length t z B rs xs [] >>= λus=>pure (.own,.lst us)) >>= λr=>eG i r >>= λ_=>pure .nx)):=by
 rintro d s σ H D I ⟨c0,rfl,rfl,g,h⟩;have O:i<c0.σ.length:=by rw[I.len];show(d4.mp f).1
 show An S m o f p hi q u A G hs d s c0.σ c0.H D I ?_;rw[ah]at h;show mV g (h.mono λr st1 w c v k e2 Q n rt=>?_);subst e2;show p7 l g ⟨k,Q,n,rt⟩ (by rw[k];show O) w
def Eb(g:∀j,ns j=bD->j∉is)(i:PE X a (HW C k))(l:PG X b (tG C bD is))(hs:R0 [b] a pos.line X.env=pure cb)(m:V2 [b] a X.env=pure b6)(n:(Q4 [b] X.env).map (·.2)=[Sz b X.env]):
  L2.PS X (.Assign [b] a pos) (IQ C ns (k >>= λr=>c7 bD is r >>= λ_=>pure .nx)):=by
 show PS.weak (qJ i l hs m n) ?_;rintro D σ H ⟨c0,rfl,rfl,d,h⟩;show aD d h λr c v t w=>?_;rw[ah]at w;show⟨c0,c,r,t.hσ,rfl,d,t.ok,t.nx,t.rx,w.mono λ_ st1 f o e p q s hl=>?_⟩;subst e;rw[ao]at f;show f o rfl p q ⟨λj u=>by rw[s j (g j u),t.hσ],by rw[hl,t.hσ]⟩
def FZ(i:PT X a (Jz C j))(k:Jr X l (IQ C ns f))(m:Jr X o (IQ C ns g)):L2.PS X (.If a l o pos) (IQ C ns (j >>= λp=>if p=bD then f else g)):=by
 show PS.weak (Ff i k m) ?_;rintro D σ H ⟨c0,rfl,rfl,q,h⟩;show fW q h λp c b d n w=>?_;have e:c0.σ=c.σ:=b.symm;rw[e];cases p with
 |true=>rw[Ĺ rfl]at w ⊢;show rN d n (Kept.of b) w
 |false=>rw[ĺ mx]at w ⊢;show rN d n (Kept.of b) w
def F0(J:Yq (i5 X.prog X.w) X.A X.env X.xe)(L:PT X a (Jz C d))(N:Jr X body (IQ C ns f)):L2.PS X (.While a body [] pos) (IQ C ns (fU d f n)):=by
 show PS.weak (wA J L N) ?_;rintro D σ H ⟨c0,rfl,rfl,O,h⟩;show⟨λm s H'=>∃c,c.H=H'/\c.σ=s/\Ok C c/\Ns c0 c/\Kept ns c0 c/\W (fU d f m) c.st (eN C c0 ns D),⟨n,c0,rfl,rfl,O,Ns.refl c0,Kept.refl,h⟩,?_⟩;rintro m s H' ⟨c,rfl,rfl,Q,t,v,w⟩;cases m with
 |zero=>show(ba.mp w).elim
 |succ m =>
  rw[show fU d f (m+1)=d >>= λb=>if b=bD then(f >>= λf'=>match f' with|.nx=>fU d f m|.ct=>fU d f m|.bk=>pure .nx|.rt k u=>pure (.rt k u)) else pure .nx from rfl]at w;show fW Q w λp j x y B g=>?_;have k2:Kept ns c j:=Kept.of x;rw[<-x];cases p with
  |false =>
   rw[ĺ mx]at g ⊢;rw[ao]at g;show g j rfl y (t.trans B) (v.trans k2)
  |true =>
   rw[Ĺ rfl]at g ⊢;show⟨λG I=>∃c,c.H=I/\c.σ=G/\Ok C c/\Ns c0 c/\Kept ns c0 c/\W (fU d f m) c.st (eN C c0 ns D),λG I z=>⟨m,Pt m,z⟩,?_⟩;rw[ah]at g;show⟨j,rfl,rfl,y,g.mono λT IA i l e o Y k3=>?_⟩;subst e;have q:=(t.trans B).trans Y;have r:=(v.trans k2).trans k3;cases T with
   |nx=>show⟨l,rfl,rfl,o,q,r,i⟩
   |ct=>show⟨l,rfl,rfl,o,q,r,i⟩
   |_=>rw[ao]at i;show i l rfl o q r
def F5(hp:Yq (i5 X.prog X.w) X.A X.env X.xe)(hc:X.calm=bD)(hi:PI X tg a (LX C ik ms))(hg:PG X tg (tG C t is))(hb:Jr X body (IQ C (JR r) f))(hs:∀x,NQ a X.env x=pure x)
  (Jk:∀j,ns j=bD->j∉is/\JR r j=bD) :
  L2.PS X (.For tg a body [] pos) (IQ C ns (ms >>= λrs=>aw rs >>= λ_=>M.Il (KA ik rs) >>= λxs=>if tM rs is r=bD then forM t is f rs xs else M.fail)):=by
 show PS.weak (C5 hp hc hi hg hb hs) ?_;rintro D σ H ⟨c0,rfl,rfl,ok,h⟩;rw[ah]at h;show⟨c0,rfl,rfl,ok,?_⟩;rw[ah];show h.mono λrs st1 s=>?_;rw[ah,bY]at s ⊢;show⟨s.1,?_⟩;have h2:=s.2;rw[ah]at h2 ⊢;show h2.mono λxs st2 v=>?_;rw[ao];intro b J e1 e2 HV n1 HU y;subst e2
 dsimp only at HU y
 split at v
 .rename_i NZ;have Tu:∀j u,(Kd.bor j,u)∈rs->j∉is/\JR r j=bD:=λj u n=>by
   have:=ux.mp NZ _ n;simpa using this
  show⟨λi m g H'=>∃c,c.H=H'/\c.σ=g/\Ok C c/\Ns b c/\Kept ns c0 c/\lp rs b c/\m=xs.length - i/\i<=xs.length/\W (forM t is f rs (xs.drop i)) c.st (eN C c0 ns D),
   ⟨xs.length,b,rfl,e1,HV,Ns.refl b,Kept.of e1,λ_ _ _=>rfl,by simp,mN _,by simpa using v⟩,?_⟩
  rintro i m g H' ⟨c,rfl,rfl,B,o,kc,G,rfl,Lc,w⟩;by_cases I:i<xs.length
  .right
   rw[Px I,show forM t is f rs (xs[i]::xs.drop (i+1))=aw rs >>= λ_=>c7 t is xs[i] >>= λ_=>f >>= λf'=>match f' with|.nx=>forM t is f rs (xs.drop (i+1))|.ct=>forM t is f rs (xs.drop (i+1))|.bk=>pure .nx|.rt k u=>pure (.rt k u) from rfl,ah,bY]at w;have⟨LY,w⟩:=w;obtain⟨L,_⟩:=y c B o G LY;have⟨PY,To,QZ⟩:=L i xs[i] (by simp[I]);show⟨To,λg H'=>∃c,c.H=H'/\c.σ=g/\Ok C c/\Ns b c/\Kept ns c0 c/\lp rs b c/\W (forM t is f rs (xs.drop (i+1))) c.st (eN C c0 ns D),λg H' ⟨c',z1,z2,z3,z4,z5,z6,z7⟩=>⟨xs.length - (i+1),⋯,c',z1,z2,z3,z4,z5,z6,rfl,I,z7⟩,λx H' hy=>?_⟩;have⟨l,rfl,p,e5,Iu,n2,rt⟩:=QZ x H' hy;rw[ah]at w;have Xw:aH C l l xs[i].1 xs[i].2 x:=by
    rcases PY with z|z
    .rw[z]at rt ⊢;show rt
    .rw[z]at rt ⊢;show rt
   show⟨l,l,xs[i],p,rfl,Iu,Iu,Nx.refl l,Xw,?_⟩;rw[e5];show w.mono λ_ IA w3 c3 e6 KD n3 Vc OL=>?_;subst e6;rw[ah]at w3;show⟨c3,rfl,rfl,KD,w3.mono λfl Ox q d e N n4 O=>?_⟩;subst e;have Q:Ns b d:=((o.trans n2.toNs).trans n3.toNs).trans n4;have T:Kept ns c0 d:=by
    show kc.trans ⟨λj hj=>?_,by rw[O.2,OL,p]⟩;have⟨Y,j2⟩:=Jk j hj;rw[O.1 j j2,Vc j Y,p]
   have Vd:lp rs b d:=λj u n=>by
    have⟨Y,j2⟩:=Tu j u n;rw[O.1 j j2,Vc j Y,p];show G j u n
   cases fl with
   |nx=>show⟨d,rfl,rfl,N,Q,T,Vd,q⟩
   |ct=>show⟨d,rfl,rfl,N,Q,T,Vd,q⟩
   |_=>rw[ao]at q;show q d rfl N (n1.toNs.trans Q) T
  .left
   have Xx:i=xs.length:=by lia
   subst Xx;rw[Ö,show forM t is f rs []=aw rs >>= λ_=>pure .nx from rfl,ah,bY,ao]at w;obtain⟨_,L⟩:=y c B o G w.1;show⟨L _ (hY _),w.2 c rfl B (n1.toNs.trans o) kc⟩
 .show(ba.mp v).elim
end
section
def Ok.mod(b:Ok C c)(n:Ns c0 c)(hk:k.root=bD)(hi:c.st[i]?=a5 (a5 (k,u)))(y:c.σ[i]?=a5 (a5 (.ref r)))(Je:∀a,a≠r->H' a=c.H a)(T:∃o,H' r=a5 o)
  (new:Mv c.S c.H c.S H'->cO C c.S H' r u'):Ok C {c with H:=H',st:=c.st.set i (a5 (k,u'))}/\Ns c0 {c with H:=H',st:=c.st.set i (a5 (k,u'))}:=by
 have Y:c.R1 r:=⟨i,k,u,hk,hi,y⟩
 have hR:c.R r:=.inl Y;have⟨B,q2,q3,o,ho,N0⟩:=b.root hR;have D:i<c.st.length:=(d4.mp hi).1;have h:∀{a:hH} {o':HO},a≠r->c.H a=a5 o'->H' a=a5 o':=λG e=>by rw[Je _ G];show e
 have A:Mv c.S c.H c.S H':=⟨λ_ z=>z,λa o' e t=>h (λz=>by subst z;rw[ho]at e;cases e;show N0 t) e,λa o' z e=>h (λd=>B (d▸z)) e⟩
 have MB:Mv (PS C c.S) c.H (PS C c.S) H':=⟨λ_ z=>z,A.OF,λa o' z e=>h (λd=>by subst d;show z.elim q2 B) e⟩
 have I:∀(j:Nat) k' w,(c.st.set i (a5 (k,u')))[j]?=a5 (a5 (k',w))->j≠i->c.st[j]?=a5 (a5 (k',w)):=λj k' w e G=>by rw[i7 (tv G)]at e;show e
 have back:∀(j:Nat) k' w,k'.root=bD->(c.st.set i (a5 (k,u')))[j]?=a5 (a5 (k',w))->∃J,c.st[j]?=a5 (a5 (k',J)):=λj k' w _ e=>by
  by_cases l:j=i
  .subst l;rw[d6 D]at e;cases e;show⟨u,hi⟩
  .show⟨w,I j k' w e l⟩
 have b1:∀a,({c with H:=H',st:=c.st.set i (a5 (k,u'))}:Cf).R1 a->c.R1 a:=λa Ih=>by
  have⟨j,k',w,f,g,e2⟩:=Ih;have⟨J,L⟩:=back j k' w f g;show⟨j,k',J,f,L,e2⟩
 have dD:∀(j:Nat) (w:U),(c.st.set i (a5 (k,u')))[j]?=a5 (a5 (.A',w))->c.st[j]?=a5 (a5 (.A',w)):=λj w e=>by
  by_cases l:j=i
  .subst l;rw[d6 D]at e;cases e;cases hk
  .show I j .A' w e l
 have ML:K9 C {c with H:=H',st:=c.st.set i (a5 (k,u'))}:=b.dd.of rfl (λj w e=>⟨dD j w e,rfl⟩) (λa z=>.inl (b1 a z)) A λj a z=>⟨(b.root (.inr ⟨j,z⟩)).1,λo' e=>h (λd=>b.dd.d1 j a z (d▸Y)) e⟩
 show⟨⟨λa o' e z=>?_,λa z=>?_,b.par,λa z=>?_,by simp[b.len],λj k' w e=>?_,λj1 j2 k1 k2 w1 w2 m f p g e2 N e4=>?_,ML⟩,n.trans ⟨λa o' e z=>h (λd=>z (d▸hR)) e,λa o' e=>?_,λa z=>?_,λ_ z=>z,λ_ z=>.inl z⟩⟩
 .have f:=b.same a o' e z;show h (λd=>?_) f;subst d;rcases q3 with q3|q3
  .rw[e]at q3;cases q3
  .show z q3
 .have⟨f,o',p⟩:=b.JY a z;show⟨f,o',h (λd=>B (d▸z)) p⟩
 .have⟨f,o',p⟩:=b.io a z;show⟨f,?_⟩;by_cases s:a=r
  .subst s;show T
  .show⟨o',h s p⟩
 .by_cases l:j=i
  .subst l;rw[d6 D]at e;cases e;have⟨v,g,e2⟩:=b.sl j _ _ hi;rw[y]at g;cases g;show⟨.ref r,y,?_⟩;have nr:=new A;cases k with
   |own=>obtain⟨m,q,x,O,Q,_⟩:=e2;cases q;show⟨r,rfl,x,O,Q,nr⟩
   |io=>obtain⟨m,q,x,O,Q,_⟩:=e2;cases q;show⟨r,rfl,x,O,Q,nr⟩
   |_=>cases hk
  .have e0:=I j k' w e l;have⟨v,g,e2⟩:=b.sl j k' w e0;show⟨v,g,e2.mv A MB λIY m q=>?_⟩;obtain⟨QX,JQ,x,_⟩:=e2.rt IY;rw[q]at JQ;cases JQ;show⟨x,λo' e=>h (λz=>?_) e⟩;subst z;show l (b.inj j i k' k w u m IY hk e0 hi (by rw[g,q]) y)
 .have⟨Q2,L⟩:=back j1 k1 w1 f g;have⟨Ve,a2⟩:=back j2 k2 w2 p e2;show b.inj j1 j2 k1 k2 Q2 Ve m f p L a2 N e4
 .by_cases s:a=r
  .subst s;show T
  .show⟨o',h s e⟩
 .rcases z with z|⟨j,w,m,g,e2,N⟩
  .show .inl (.inl (b1 a z))
  .show .inl (.inr ⟨j,w,m,dD j w g,e2,N⟩)
def gC{f:U->Option U}{st:au}(h:W (modS i f) st Q):∃k u u',k.root=bD/\st[i]?=a5 (a5 (k,u))/\f u=a5 u'/\Q () (st.set i (a5 (k,u'))):=by
 obtain⟨_,st',e,q⟩:=h;unfold modS at e;split at e
 .rename_i k u hs;split at e
  .rename_i hk;cases e2:f u with
   |none=>rw[e2]at e;cases e
   |some u'=>rw[e2]at e;cases e;show⟨k,u,u',hk,hs,e2,q⟩
  .cases e
 .cases e
def c8{st:au}(h:W (dg i) st Q):∃k u,k≠.A'/\st[i]?=a5 (a5 (k,u))/\Q (if k.root=bD then .bor i else k,u) st:=by
 have⟨r,st',e,q⟩:=h;unfold dg at e;split at e
 .cases e
 .rename_i k u a hs;cases e;show⟨k,u,λz=>a z,hs,q⟩
 .cases e
def F6(L:C.K=X.K)(O:X.N[i]?=a5 x)(Q:Jg X.env.scope x)(T:(x==("__debug__":Str))=cb)(Y:(x==("__classdict__":Str))=cb)(ha:PE X a (HW C ma))
  (IV:((Hf f (js [a] X.env)).all (λx=>!x.1)&&(NX f (JT [] X.env)).all (λx=>x.1.isSome)
   && cK ([a].length+([]:List MV).length+(if ([]:List MV).isEmpty then 0 else 1)<30))=bD)
  (H9:(apos.endLine==f.line)=bD) (n:js [a] X.env=[(cb,vr a X.env)]) :
  L2.PS X (.Expr (.Call (.Attribute (.Name x px) "append" apos) [a] [] f) pos) (IQ C ns (dg i >>= λx=>MI x.2 >>= λ_=>ma >>= λr=>lift r >>= λu=>modS i (xJ u) >>= λ_=>pure .nx)):=by
 show PS.weak (iy (pD PySem.F.plainAttrs_list PySem.F.slot_list_append PySem.F.type_list_append ji (aX O Q T Y) (cP ha dB n) rfl IV H9 n rfl)) ?_;rintro D σ H ⟨c0,rfl,rfl,e,h⟩;rw[ah]at h;have⟨k0,u0,Le,o,h⟩:=c8 h;have⟨p,g,l⟩:=e.sl i k0 u0 o;show⟨p,g,?_⟩;cases u0 with
 |lst s =>
  rw[ah,show MI (U.lst s)=pure () from rfl,ao]at h;have P0:aH C c0 c0 (if k0.root=bD then .bor i else k0) (.lst s) p:=by
   by_cases hk:k0.root=bD
   .rw[Ĺ hk];show⟨⟨k0,hk,o⟩,g⟩
   .rw[ĺ hk];cases k0 with
    |loc=>show l
    |any=>show l
    |bor j=>show l.elim
    |A'=>show(Le rfl).elim
    |_=>show absurd rfl hk
  obtain⟨a0,KG,m,Ou,_⟩:=P0.list e;show⟨by rw[m];show .inl ⟨rfl,KG,L▸Ou⟩,?_⟩;show aD e h λr c v t w=>?_;rw[ah]at w;obtain⟨S',st',u,sS,y,n1,b,A,_,_⟩:=gA e t.ok t.nx t.rx.w w;rw[ah]at A;have⟨k,u1,u2,hk,hs,d,q⟩:=gC A;have B:c.σ[i]?=a5 (a5 (.ref a0)):=by rw[t.hσ,g,m]
  cases u1 with
  |lst ys =>
   simp only[xJ]at d;split at d
   .rename_i hz;cases d;have⟨v',e1,e2⟩:=y.sl i k (.lst ys) hs;have G:c.σ[i]?=a5 (a5 v'):=e1;rw[B]at G;cases G;obtain⟨r',er,_,_,_,ws,hw,I⟩:=e2.rt hk;cases er;have Nk:c.H a0=a5 (.lst ws):=hw;show⟨a0,ws,v,m,rfl,Nk,by rw[<-I.len];show hz,?_⟩;rw[ao]at q;have⟨Iu,n2⟩:=Ok.mod (c:={c with S:=S',st:=st' }) (H':=upd c.H a0 (.lst (ws++[v]))) (u':=.lst (ys++[u])) y n1.toNs hk hs B (λa ne=>ak ne) ⟨_,aq⟩ λJ=>⟨ws++[v],aq,(I.mv J).snoc (b.mv J)⟩
    have z:=q _ rfl Iu n2 (Kept.of t.hσ);rw[<-t.hσ];show z
   .cases d
  |_=>cases d
 |_=>rw[ah]at h;show(ba.mp h).elim
def F7(u:C.K=X.K)(Q:X.N[i]?=a5 x)(T:Jg X.env.scope x)(Y:(x==("__debug__":Str))=cb)(Ic:(x==("__classdict__":Str))=cb)(ha:PE X a (HW C ma))
  (IV:((Hf f (js [a] X.env)).all (λx=>!x.1)&&(NX f (JT [] X.env)).all (λx=>x.1.isSome)
   && cK ([a].length+([]:List MV).length+(if ([]:List MV).isEmpty then 0 else 1)<30))=bD)
  (H9:(apos.endLine==f.line)=bD) (y:js [a] X.env=[(cb,vr a X.env)]) :
  L2.PS X (.Expr (.Call (.Attribute (.Name x px) "extend" apos) [a] [] f) pos) (IQ C ns (dg i >>= λx=>MI x.2 >>= λ_=>ma >>= λr=>modS i (mw r) >>= λ_=>pure .nx)):=by
 show PS.weak (iy (pD PySem.F.plainAttrs_list PySem.F.slot_list_extend PySem.F.type_list_extend rE (aX Q T Y Ic) (cP ha dB y) rfl IV H9 y rfl)) ?_;rintro D σ H ⟨c0,rfl,rfl,g,h⟩;rw[ah]at h;have⟨k0,u0,Le,A,h⟩:=c8 h;have⟨B,l,m⟩:=g.sl i k0 u0 A;show⟨B,l,?_⟩;cases u0 with
 |lst G =>
  rw[ah,show MI (U.lst G)=pure () from rfl,ao]at h;have P0:aH C c0 c0 (if k0.root=bD then .bor i else k0) (.lst G) B:=by
   by_cases hk:k0.root=bD
   .rw[Ĺ hk];show⟨⟨k0,hk,A⟩,l⟩
   .rw[ĺ hk];cases k0 with
    |loc=>show m
    |any=>show m
    |bor j=>show m.elim
    |A'=>show(Le rfl).elim
    |_=>show absurd rfl hk
  obtain⟨a0,KG,n,Ou,_⟩:=P0.list g;show⟨by rw[n];show .inl ⟨rfl,KG,u▸Ou⟩,?_⟩;show aD g h λr c v t w=>?_;rw[ah]at w;have⟨k,o,u2,hk,hs,d,q⟩:=gC w;have I:c.σ[i]?=a5 (a5 (.ref a0)):=by rw[t.hσ,l,n]
  have⟨rk,ru⟩:=r;have key:∃ys e b vs,o=.lst ys/\v=.ref b/\(IF C.K c.H b vs\/II C.K c.H b vs)/\ar C c.S c.H e vs/\ys.length+e.length<=cL/\u2=.lst (ys++e):=by
   cases ru with
   |lst e =>
    cases o with
    |lst ys =>
     simp only[mw]at d;split at d
     .rename_i hz;cases d;have⟨b,vs,ev,p,s⟩:=t.rx.list t.ok;show⟨_,_,b,vs,rfl,ev,.inl p,dF hz.2 s,hz.1,rfl⟩
     .cases d
    |_=>simp[mw]at d
   |tup e =>
    cases o with
    |lst ys =>
     simp only[mw]at d;split at d
     .rename_i hz;cases d;have⟨b,vs,ev,p,s⟩:=t.rx.tuple t.ok;show⟨_,_,b,vs,rfl,ev,.inr p,dF hz.2 s,hz.1,rfl⟩
     .cases d
    |_=>simp[mw]at d
   |_=>simp[mw]at d
  have⟨ys,e,b,vs,rfl,rfl,hB,hz,hl,rfl⟩:=key;have⟨v',J,e2⟩:=t.ok.sl i k (.lst ys) hs;rw[I]at J;cases J;obtain⟨r',er,_,_,_,ws,hw,L⟩:=e2.rt hk;cases er;show⟨a0,b,ws,vs,n,rfl,hw,u▸hB,by rw[<-L.len,<-hz.len];show hl,?_⟩;rw[ao]at q;have⟨Iu,n2⟩:=Ok.mod (c:=c) (H':=upd c.H a0 (.lst (ws++vs))) (u':=.lst (ys++e)) t.ok t.nx.toNs hk hs I (λa ne=>ak ne) ⟨_,aq⟩ λO=>⟨ws++vs,aq,(L.mv O).append (hz.mv O)⟩
  have z:=q _ rfl Iu n2 (Kept.of t.hσ);rw[<-t.hσ];show z
 |_=>rw[ah]at h;show(ba.mp h).elim
def nF.or(h:nF X t)(h':nF X t'):nF X (λo i v H Q=>t o i v H Q\/t' o i v H Q):=λa s σ H o i v b c u Q I r1 r2 d q =>
 q.elim (h a s σ H o i v b c u Q I r1 r2 d) (h' a s σ H o i v b c u Q I r1 r2 d)
def set_dict(c:X.A.units+1<L_):nF X (λo i v H Q=>∃a H',o=.ref a/\u5 H a i v H'/\Q H'):=by
 rintro b s σ H o i v h j u Q I d e rv ⟨a,H',rfl,g,q⟩;cases d;show u7 c I g e rv λs' f=>⟨H',f,q⟩
def x9{S:hH->Prop}{kvs:List (Key×V)}(a:kvs.map (·.1)=ks.map sL)(c:ar C S H us (kvs.map (·.2)))(d:Rep C S H u v):
  (putK kvs (sL y) v).map (·.1)=(dput ks us y u).1.map sL/\ar C S H (dput ks us y u).2 ((putK kvs (sL y) v).map (·.2)):=by
 have e:(kvs.any λkv=>cK (kv.1=(sL y:Key)))=cK (y∈ks):=by
  rw[iC];show(dA (x:=y) a c).2
 unfold putK dput;rw[e];by_cases b:y∈ks
 .rw[Ĺ (by simpa using b),Ĺ b];constructor
  .rw[ko];rw[<-a];apply Jw;intro p _;change(if p.1=sL y then(p.1,v) else p).1=p.1;split<;>rfl
  .clear e b;induction kvs generalizing ks us with
   |nil =>
    have:ks=[]:=by simpa using a.symm
    subst this;simp[ar]
   |cons p kvs g =>
    cases ks with
    |nil=>simp at a
    |cons k ks =>
     cases us with
     |nil=>simp[ar]at c
     |cons u0 us =>
      rw[il,il,Ru]at a;have⟨j,l,f,h,i⟩:=c;rw[il]at f;cases f;rw[il,UO,il,il];show⟨_,_,rfl,?_,g a.2 i⟩;by_cases hk:k=y
      .rw[Ĺ (by show hk),Ĺ (by rw[a.1,hk])];show d
      .rw[ĺ (by show hk),ĺ (by rw[a.1];intro z;show hk (Va z))];show h
 .rw[ĺ (by simpa using b),ĺ b];show⟨by rw[pd,a,pd];rfl,by rw[pd];show c.snoc d⟩
def F8(hP:C.P=X.prog)(hw:C.w=X.w)(hK:C.K=X.K)(hu:X.A.units+60<L_)(hN:X.N[i]?=a5 x)(hv:Jg X.env.scope x)(hd:(x==("__debug__":Str))=cb)(Ic:(x==("__classdict__":Str))=cb)
  (ha:PE X a (HW C ma)) (hb:PE X b (HW C mb)) (hs:R0 [.Subscript (.Name x px) b p] a pos.line X.env=pure cb) (N2:V2 [.Subscript (.Name x px) b p] a X.env=pure b6)
  (L:∀v,Sz (.Subscript (.Name x px) b p) X.env v=(do
   let B <-L8 [v] (vr (.Name x px) X.env)
   let O <-L8 [v,B] (vr b X.env)
   S5 p
   L8 [v,B,O] (TB B O v)
   WK [v,B,O] [])) :
  L2.PS X (.Assign [.Subscript (.Name x px) b p] a pos) (IQ C ns (ma >>= λr=>dg i >>= λ_=>mb >>= λx=>de [r,x] >>= λus=>modS i (tL us) >>= λ_=>pure .nx)):=by
 show PS.weak (qJ ha (wz (aX hN hv hd Ic) hb (nF.or set_list (set_dict (X:=X) ⋯)) L) hs N2 rfl) ?_;rintro D σ H ⟨c0,rfl,rfl,ok,h⟩;show aD ok h λr c v t w=>?_;rw[ah]at w;have⟨k0,u0,Le,Jp,w⟩:=c8 w;have⟨v0,e0,KU⟩:=t.ok.sl i k0 u0 Jp;show⟨v0,by rw[<-t.hσ];show e0,?_⟩;rw[ah]at w;show⟨c,t.hσ,rfl,t.ok,w.mono λy st2 w2 f m G e4 Iu n2 r2=>?_⟩;subst e4;rw[ah]at w2;have Tx:=t.nx.trans n2;have rws:cB C c0 f [r,y] [v,m]:=⟨v,[m],rfl,t.rx.w.on t.ok n2 (G.trans t.hσ.symm),⟨m,[],rfl,(r2.w).from t.nx,rfl,λ_ i r' v' e _=>by simp at e⟩,λhk i r' v' Q e6 IY=>by
  cases i with
  |zero=>simp at Q e6;subst Q e6;show lj t.rx.w r2.w hk IY
  |succ i=>simp at Q⟩
 have⟨S',st',us,sS,HV,n1,g,w1⟩:=iS ok Iu Tx rws w2;rw[ah]at w1;have⟨k,I,u2,hk,Jy,d,q⟩:=gC w1;rw[ao]at q;have hσ:f.σ[i]?=a5 (a5 v0):=by rw[G,<-t.hσ];show e0
 have⟨v',e1,e2⟩:=HV.sl i k I Jy;have I_:f.σ[i]?=a5 (a5 v'):=e1;rw[hσ]at I_;cases I_;have⟨a0,er,z1,z2,z3,l⟩:=e2.rt hk;subst er;have Xy:({f with S:=S',st:=st' }:Cf).σ[i]?=a5 (a5 (.ref a0)):=hσ;obtain⟨Q2,ws,ew,Vf,Ve,YZ,Y0,Vg,Xz⟩:∃u ws,us=[u,ws]/\Rep C S' f.H u v/\∃(_:Unit) (_:Unit),True/\Rep C S' f.H ws m/\True:=by
  cases us with
  |nil=>simp[ar]at g
  |cons u us =>
   obtain⟨_,_,e,q1,q2⟩:=g;cases e;cases us with
   |nil=>simp[ar]at q2
   |cons u' us =>
    obtain⟨_,_,e,q3,q4⟩:=q2;cases e;cases us with
    |nil=>show⟨u,u',rfl,q1,(),(),trivial,q3,trivial⟩
    |cons _ _=>obtain⟨_,_,e,_⟩:=q4;cases e
 subst ew;rw[show tL [Q2,ws] I=fG ws Q2 I from rfl]at d;have n:∀{H':Hp} ,(∀a,a≠a0->H' a=f.H a)->(∃o,H' a0=a5 o)->(Mv S' f.H S' H'->cO C S' H' a0 u2)->D.nx c0.σ H':=λ{H'} Je hr new=>by
  have⟨KD,n3⟩:=Ok.mod (c:={f with S:=S',st:=st' }) (H':=H') (u':=u2) HV n1.toNs hk Jy Xy Je hr new;have z:=q _ rfl KD n3 (Kept.of G);rw[<-G];show z
 cases I with
 |lst xs =>
  cases ws with
  |int j =>
   simp only[fG,ez]at d;have⟨T,hj,rfl⟩:=d;have⟨vs,Y,s⟩:=l;have ey:m=.int j:=Vg;show .inl ⟨a0,vs,j,T,rfl,ey,Y,by rw[<-s.len];show hj,?_⟩;show n (λa ne=>ak ne) ⟨_,aq⟩ λJ=>⟨vs.set T v,aq,(s.mv J).set T (Vf.mv J)⟩
  |_=>simp[fG]at d
 |HP ks vs =>
  cases ws with
  |str y' =>
   simp only[fG]at d;split at d
   .rename_i hz;cases d;have⟨kvs,Y,s,h3⟩:=l;have ey:m=.str y':=Vg;subst ey;have hl:kvs.length=ks.length:=by have:=ľ KN s;simpa using this
    show .inr ⟨a0,_,rfl,u5.k (k:=sL y') Y (by rw[hl];show hz),?_⟩;show n (λa ne=>ak ne) ⟨_,aq⟩ λJ=>?_;have⟨g1,g2⟩:=x9 (y:=y') s h3 Vf;show⟨_,aq,g1,g2.mv J⟩
   .cases d
  |_=>simp[fG]at d
 |_=>simp[fG]at d
def Ok.slot(d:Ok C c)(e:k≠.A')(hs:c.st[i]?=a5 (a5 (k,u))):∃v,c.σ[i]?=a5 (a5 v)/\aH C c c (if k.root=bD then .bor i else k) u v:=by
 have⟨f,b,a⟩:=d.sl i k u hs;show⟨f,b,?_⟩;by_cases hk:k.root=bD
 .rw[Ĺ hk];show⟨⟨k,hk,hs⟩,b⟩
 .rw[ĺ hk];cases k with
  |loc=>show a
  |any=>show a
  |bor j=>show a.elim
  |A'=>show(e rfl).elim
  |_=>show absurd rfl hk
end
end TM
namespace TM
open PySem L2 PyProof.Rows PySem.W
section
def F9(d:X.calm=bD)(f:Gl X x)(g:X.mg x=a5 (.ref c))(i:(x==("__debug__":Str))=cb)(j:excIn X.K c OE "ValueError.__new__"=bD)(k:PE X a (HW C l))(m:js [a] X.env=[(cb,vr a X.env)])
  (n:∀H',C.xw (.str x) H'->∀b σ s e s',Inv X b σ H' s->bX X.prog X.w X.stack H' s e c b6 .none H' s'->X.xe (.ref e) s'):L2.PS X (.Raise (a5 (.Call (.Name x p) [a] [] r)) b6 pos) (IQ C ns (l >>= λ_=>pure (.rt .io (.str x)))):=by
 show PS.weak (xD d f g i j k m) ?_;rintro D σ H ⟨c0,rfl,rfl,o,h⟩;show aD o h λx q v t w=>?_;rw[ao]at w;show λb s e s' I F=>n _ (w q rfl t.ok t.nx (Kept.of t.hσ)) b _ s e s' I F
def Ok.kill(b:Ok C c)(n:c.st[j]?=a5 b6):Ok C {c with σ:=c.σ.set j b6}/\Nx c {c with σ:=c.σ.set j b6}:=by
 have f:∀(i:Nat) (r:Kd×U),c.st[i]?=a5 (a5 r)->(c.σ.set j b6)[i]?=c.σ[i]?:=λi r e=>i7 λz=>by subst z;rw[n]at e;cases e
 have l:∀a,({c with σ:=c.σ.set j b6}:Cf).R1 a->c.R1 a:=λa ⟨i,k,u,hk,d,e2⟩=>⟨i,k,u,hk,d,(f i _ d)▸e2⟩
 have p:K9 C {c with σ:=c.σ.set j b6}:=b.dd.of rfl (λi u e=>⟨e,f i _ e⟩) (λa z=>.inl (l a z)) (.up λ_ z=>z) λi a z=>⟨(b.root (.inr ⟨i,z⟩)).1,λo q=>q⟩
 show⟨⟨b.same,b.JY,b.par,b.io,by simp[b.len],λi k u e=>?_,λi m k k' u u' r hk s d e2 g t=>?_,p⟩,⟨λ_ _ h _=>h,λ_ o h=>⟨o,h⟩,λa z=>.inl ?_,λ_ h=>h,λ_ h=>.inl h⟩⟩
 .have⟨v,q,z⟩:=b.sl i k u e;show⟨v,(f i _ e).trans q,z⟩
 .show b.inj i m k k' u u' r hk s d e2 ((f i _ d)▸g) ((f m _ e2)▸t)
 .show z.imp (l a) λ⟨i,u,r,d,e2,g⟩=>⟨i,u,r,d,(f i _ d)▸e2,g⟩
def vG(g:∀m,ns m=bD->m≠i/\m≠j)(l:Ok C c0)(o:Ok C c)(n:Nx c0 c)(b:c.σ=c0.σ)(hi:i<c.σ.length)(hs:pF c.H H')(v:V)
  (w:W (mr i j b6) c.st (eN C c0 ns D)):D.nx (((c0.σ.set j (a5 v)).set i (a5 (.bl bD))).set j b6) H':=by
 have⟨r,st',e,q⟩:=w;unfold mr at e
 dsimp only at e
 split at e
 .rename_i p;split at e
  case isFalse=>cases e
  rename_i s;have h:c.st[j]?=a5 b6/\i≠j:=⟨p,s⟩
  have⟨t,u⟩:=o.kill h.1;have⟨x,y⟩:=t.grow (H':=H') (S':=c.S) hs (λa z=>.inl z) λa z=>z;have⟨d,f,e2,A,B,G⟩:=ot (r:=(.loc,.bl bD)) (v:=.bl bD) (i:=i) l x ((n.trans u).trans y) (by simpa using hi)
   (show Rep C c.S _ _ _ from rfl) (Post:=λ_ I=>eN C c0 ns D .nx I) (by
    have z:W (eG i (.loc,.bl bD) >>= λ_=>(pure .nx:M Fl)) c.st (eN C c0 ns D):=⟨r,st',e,q⟩
    rw[ah]at z;show z.mono λ_ st z=>ao.mp z)
  have es:(((c0.σ.set j (a5 v)).set i (a5 (.bl bD))).set j b6)=(c0.σ.set j b6).set i (a5 (.bl bD)):=by
   rw[List.set_comm _ _ h.2,List.set_set]
  have z:D.nx d.σ d.H:=G d rfl A B ⟨λm k=>by
   rw[f];change((c.σ.set j b6).set i _)[m]?=_;rw[i7 (tv (g m k).1),i7 (tv (g m k).2),b],by rw[f];simp[b]⟩
  rw[f,e2]at z;rw[es];rw[<-b];show z
 .cases e
end
end TM
namespace TM
open PySem L2 PyProof.Rows
section
def Ok.Bc(b:Ok C c)(n:Ns c0 c)(hi:c.st[i]?=a5 (a5 (.A',u)))(A:c.σ[i]?=a5 (a5 (.ref r)))(Je:∀a,¬c.RD i a->H' a=c.H a)(N:∀a o,c.H a=a5 o->∃o',H' a=a5 o')
  (new:Mv c.S c.H c.S H'->bf C c.S H' r as' u') (O:∀a∈as',a∈c.kid i\/(¬c.R a/\c0.H a=b6)) :
  Ok C {c with H:=H',st:=c.st.set i (a5 (.A',u')),kid:=λj=>if j=i then as' else c.kid j}/\Ns c0 {c with H:=H',st:=c.st.set i (a5 (.A',u')),kid:=λj=>if j=i then as' else c.kid j}:=by
 have Q:i<c.st.length:=(d4.mp hi).1;have rt:∀{a},c.RD i a->¬c.S a/\¬C.JG a/\(C.H₀ a=b6\/C.IO a)/\∃o,c.H a=a5 o/\¬Tp o:=λz=>b.root (.inr ⟨i,z⟩);have h0:∀{a},c.RD i a->C.H₀ a=b6\/C.IO a:=λ⟨u1,r1,f,e2,e3⟩=>(bf.fr (b.dd.kd i u1 r1 f e2) _ (gj.mpr e3)).2.2;have p:∀{a:hH} {o:HO},¬c.RD i a->c.H a=a5 o->H' a=a5 o:=λz e=>by rw[Je _ z];show e
 have L:Mv c.S c.H c.S H':=⟨λ_ z=>z,λa o e t=>p (λz=>by
  obtain⟨_,_,_,o',h,nt⟩:=rt z;rw[e]at h;cases h;show nt t) e,λa o z e=>p (λl=>(rt l).1 z) e⟩
 have MB:Mv (PS C c.S) c.H (PS C c.S) H':=⟨λ_ z=>z,L.OF,λa o z e=>p (λl=>z.elim (rt l).2.1 (rt l).1) e⟩
 have B:∀(j:Nat) k w,(c.st.set i (a5 (.A',u')))[j]?=a5 (a5 (k,w))->j≠i->c.st[j]?=a5 (a5 (k,w)):=λj k w e ne=>by rw[i7 (tv ne)]at e;show e
 have T:∀(j:Nat) k w,k.root=bD->(c.st.set i (a5 (.A',u')))[j]?=a5 (a5 (k,w))->c.st[j]?=a5 (a5 (k,w)):=λj k w hk e=>by
  by_cases d:j=i
  .subst d;rw[d6 Q]at e;cases e;cases hk
  .show B j k w e d
 have b1:∀a,({c with H:=H',st:=c.st.set i (a5 (.A',u')),kid:=λj=>if j=i then as' else c.kid j}:Cf).R1 a->c.R1 a:=λa ⟨j,k,w,hk,f,e2⟩=>⟨j,k,w,hk,T j k w hk f,e2⟩
 have D:∀j a,({c with H:=H',st:=c.st.set i (a5 (.A',u')),kid:=λj=>if j=i then as' else c.kid j}:Cf).RD j a->c.RD j a\/(j=i/\¬c.R a/\c0.H a=b6):=λj a Ih=>by
  have⟨w,g,f,e2,e3⟩:=Ih;by_cases d:j=i
  .subst d;have G:c.σ[j]?=a5 (a5 (.ref g)):=e2;rw[A]at G;cases G;rcases e3 with rfl|e3
   .show .inl ⟨u,_,hi,A,.inl rfl⟩
   .have Y:a∈as':=by simpa using e3
    rcases O a Y with z|z
    .show .inl ⟨u,_,hi,A,.inr z⟩
    .show .inr ⟨rfl,z⟩
  .have Y:a=g\/a∈c.kid j:=by simpa[d] using e3
   show .inl ⟨w,g,B j _ w f d,e2,Y⟩
 show⟨⟨λa o e z=>p (λl=>(h0 l).elim (λy=>by rw[y]at e;cases e) z) (b.same a o e z),λa z=>?_,b.par,λa z=>?_,by simp[b.len],λj k w e=>?_,λs q k1 k2 w1 w2 g h1 h2 f e2 e3 e4=>b.inj s q k1 k2 w1 w2 g h1 h2 (T s k1 w1 h1 f) (T q k2 w2 h2 e2) e3 e4,⟨λj w g f e2=>?_,λs q a I J=>?_,λj a I J=>?_⟩⟩,⟨λa o e z=>?_,λa o e=>?_,λa z=>?_,n.sub,n.new⟩⟩
 .have⟨q1,o,q2⟩:=b.JY a z;show⟨q1,N a o q2⟩
 .have⟨q1,o,q2⟩:=b.io a z;show⟨q1,N a o q2⟩
 .by_cases d:j=i
  .subst d;rw[d6 Q]at e;cases e;show⟨.ref r,A,r,rfl⟩
  .have⟨v,f,e2⟩:=b.sl j k w (B j k w e d);show⟨v,f,e2.mv L MB λhk g er=>?_⟩;obtain⟨QX,JQ,I,_⟩:=e2.rt hk;rw[er]at JQ;cases JQ;show⟨I,λo h=>p (λz=>b.dd.d1 i g z ⟨j,k,w,hk,B j k w e d,by rw[f,er]⟩) h⟩
 .by_cases d:j=i
  .subst d;rw[d6 Q]at f;cases f;have G:c.σ[j]?=a5 (a5 (.ref g)):=e2;rw[A]at G;cases G;have z:=new L;simpa using z
  .have I_:=B j _ w f d;have IY:(if j=i then as' else c.kid j)=c.kid j:=ĺ d;change bf C c.S H' g (if j=i then as' else c.kid j) w;rw[IY];show bf.mv L (λa ha=>⟨(b.root (.inr ⟨j,w,g,I_,e2,gj.mp ha⟩)).1,λo h=>p (λz=>d (b.dd.dj j i a ⟨w,g,I_,e2,gj.mp ha⟩ z)) h⟩) (b.dd.kd j w g I_ e2)
 .rcases D s a I with m|⟨rfl,m,_⟩
  .rcases D q a J with x|⟨rfl,x,_⟩
   .show b.dd.dj s q a m x
   .show(x (.inr ⟨s,m⟩)).elim
  .rcases D q a J with x|⟨rfl,x,_⟩
   .show(m (.inr ⟨q,x⟩)).elim
   .rfl
 .rcases D j a I with m|⟨rfl,m,_⟩
  .show b.dd.d1 j a m (b1 a J)
  .show m (.inl (b1 a J))
 .show p (λl=>by
   rcases n.roots a (.inr ⟨i,l⟩) with y|y
   .show z y
   .rw[e]at y;cases y) (n.keep a o e z)
 .have⟨o',h⟩:=n.there a o e;show N a o' h
 .rcases z with z|⟨j,z⟩
  .show n.roots a (.inl (b1 a z))
  .rcases D j a z with y|⟨_,_,y⟩
   .show n.roots a (.inr ⟨j,y⟩)
   .show .inr y
def Ok.newD(h:Ok C c)(x:c.H p=b6)(hi:i<c.σ.length):
  Ok C {c with H:=upd c.H p (.dK []),σ:=c.σ.set i (a5 (.ref p)),st:=c.st.set i (a5 (.A',.HP [] [])),kid:=λj=>if j=i then [] else c.kid j}/\Ns c {c with H:=upd c.H p (.dK []),σ:=c.σ.set i (a5 (.ref p)),st:=c.st.set i (a5 (.A',.HP [] [])),kid:=λj=>if j=i then [] else c.kid j}:=by
 have⟨m,O⟩:=h.lay (o:=.dK []) x;have⟨q1,q2,q3,q4,A⟩:=h.gO x;have B:i<c.st.length:=by rw[h.len];show hi
 have t:∀(j:Nat) k w,(c.st.set i (a5 (.A',.HP [] [])))[j]?=a5 (a5 (k,w))->j≠i->c.st[j]?=a5 (a5 (k,w)):=λj k w e D=>by rw[i7 (tv D)]at e;show e
 have n:∀(j:Nat),j≠i->(c.σ.set i (a5 (.ref p)))[j]?=c.σ[j]?:=λj D=>i7 (tv D);have G:∀(j:Nat) k w,k.root=bD->(c.st.set i (a5 (.A',.HP [] [])))[j]?=a5 (a5 (k,w))->j≠i/\c.st[j]?=a5 (a5 (k,w)):=λj k w hk e=>by
  by_cases b:j=i
  .subst b;rw[d6 B]at e;cases e;cases hk
  .show⟨b,t j k w e b⟩
 have b1:∀a,({c with H:=upd c.H p (.dK []),σ:=c.σ.set i (a5 (.ref p)),st:=c.st.set i (a5 (.A',.HP [] [])),kid:=λj=>if j=i then [] else c.kid j}:Cf).R1 a->c.R1 a:=λa I=>by
  have⟨j,k,w,hk,d,e2⟩:=I;have⟨b,J⟩:=G j k w hk d;show⟨j,k,w,hk,J,by rw[<-n j b];show e2⟩
 have q:∀j a,({c with H:=upd c.H p (.dK []),σ:=c.σ.set i (a5 (.ref p)),st:=c.st.set i (a5 (.A',.HP [] [])),kid:=λj=>if j=i then [] else c.kid j}:Cf).RD j a->(j≠i/\c.RD j a)\/(j=i/\a=p):=λj a I=>by
  have⟨w,f,d,e2,e3⟩:=I;by_cases b:j=i
  .subst b;have r:(c.σ.set j (a5 (.ref p)))[j]?=a5 (a5 (.ref f)):=e2;rw[d6 hi]at r;cases r;rcases e3 with rfl|e3
   .show .inr ⟨rfl,rfl⟩
   .simp at e3
  .have Ml:a=f\/a∈c.kid j:=by simpa[b] using e3
   show .inl ⟨b,w,f,t j _ w d b,by rw[<-n j b];show e2,Ml⟩
 show⟨⟨m.same,m.JY,m.par,m.io,by simp[h.len],λj k w e=>?_,λl g k1 k2 Q T f Y h2 d e2 e3 e4=>?_,⟨λj w f d e2=>?_,λl g a L s=>?_,λj a L s=>?_⟩⟩,⟨O.keep,O.there,λa z=>?_,λ_ z=>z,λ_ z=>.inl z⟩⟩
 .by_cases b:j=i
  .subst b;rw[d6 B]at e;cases e;show⟨.ref p,d6 hi,p,rfl⟩
  .have⟨v,d,e2⟩:=m.sl j k w (t j k w e b);show⟨v,(n j b).trans d,e2⟩
 .have⟨Mj,a1⟩:=G l k1 Q Y d;have⟨LZ,a2⟩:=G g k2 T h2 e2;show h.inj l g k1 k2 Q T f Y h2 a1 a2 ((n l Mj).symm.trans e3) ((n g LZ).symm.trans e4)
 .by_cases b:j=i
  .subst b;rw[d6 B]at d;cases d;have r:(c.σ.set j (a5 (.ref p)))[j]?=a5 (a5 (.ref f)):=e2;rw[d6 hi]at r;cases r;change bf C c.S (upd c.H p (.dK [])) p (if j=j then [] else c.kid j) (.HP [] []);rw[Ĺ rfl];show⟨[],aq,rfl,rfl,by simp,λa ha=>by rw[nc.mp ha];show⟨q2,q3,q1⟩,rfl⟩
  .have J:=t j _ w d b;have z:=m.dd.kd j w f J ((n j b).symm.trans e2);change bf C c.S (upd c.H p (.dK [])) f (if j=i then [] else c.kid j) w;rw[ĺ b];show z
 .rcases q l a L with⟨_,u⟩|⟨rfl,rfl⟩
  .rcases q g a s with⟨_,N⟩|⟨rfl,rfl⟩
   .show h.dd.dj l g a u N
   .show(A (.inr ⟨l,u⟩)).elim
  .rcases q g a s with⟨_,N⟩|⟨rfl,_⟩
   .show(A (.inr ⟨g,N⟩)).elim
   .rfl
 .rcases q j a L with⟨_,u⟩|⟨rfl,rfl⟩
  .show h.dd.d1 j a u (b1 a s)
  .show A (.inl (b1 a s))
 .rcases z with z|⟨j,z⟩
  .show .inl (.inl (b1 a z))
  .rcases q j a z with⟨_,y⟩|⟨_,rfl⟩
   .show .inl (.inr ⟨j,y⟩)
   .show .inr x
end
section
theorem di.rep{S S':hH->Prop}(hs:∀a,S a->S' a):∀{us:List U}{as:List hH},(∀a∈as,S' a)->di C S H us as->ar C S' H us (as.map V.ref)
 |[],as,_,h=>by cases h;show rfl
 |u::us,as,c,h=>by
  have⟨a,as',ys,vs,rfl,rfl,d,e,f⟩:=h;show⟨.ref a,as'.map V.ref,rfl,⟨a,vs,rfl,.inl ⟨c a (by simp),.inl d⟩,e.mv (.up hs)⟩,di.rep hs (λb g=>c b (by simp[g])) f⟩
def Ok.HC(b:Ok C c)(n:Nx c0 c)(A:∃ks us,u=.HP ks us)(hi:c.st[i]?=a5 (a5 (.A',u)))(p:c.σ[i]?=a5 (a5 (.ref r))):
  Ok C {c with S:=λa=>c.S a\/a∈c.kid i,st:=c.st.set i (a5 (.own,u))}/\Nx c0 {c with S:=λa=>c.S a\/a∈c.kid i,st:=c.st.set i (a5 (.own,u))}:=by
 have O:i<c.st.length:=(d4.mp hi).1;have⟨ks,us,A⟩:=A;have Q:=b.dd.kd i u r hi p;have fr:=bf.S3 (A▸Q);have mem:∀a,(a=r\/a∈c.kid i)->c.RD i a:=λa z=>⟨u,r,hi,p,z⟩
 have up:Mv c.S c.H (λa=>c.S a\/a∈c.kid i) c.H:=.up λa=>.inl;have XA:Mv (PS C c.S) c.H (PS C λa=>c.S a\/a∈c.kid i) c.H:=.up λa z=>z.imp id .inl;have Q3:r∉c.kid i/\cO C (λa=>c.S a\/a∈c.kid i) c.H r u:=by
  subst A;have⟨kvs,B,D,h3,h4,h5,h6⟩:=Q;show⟨(pa.mp h4).1,kvs,B,D,?_⟩;rw[h3];show h6.rep (λa=>.inl) λa G=>.inr G
 have m:∀(j:Nat) k w,(c.st.set i (a5 (.own,u)))[j]?=a5 (a5 (k,w))->j≠i->c.st[j]?=a5 (a5 (k,w)):=λj k w e ne=>by rw[i7 (tv ne)]at e;show e
 have b1:∀a,({c with S:=λa=>c.S a\/a∈c.kid i,st:=c.st.set i (a5 (.own,u))}:Cf).R1 a->c.R1 a\/a=r:=λa T=>by
  have⟨j,k,w,hk,f,e2⟩:=T;by_cases d:j=i
  .subst d;have Jv:c.σ[j]?=a5 (a5 (.ref a)):=e2;rw[p]at Jv;cases Jv;show .inr rfl
  .show .inl ⟨j,k,w,hk,m j k w f d,e2⟩
 have I:∀j a,({c with S:=λa=>c.S a\/a∈c.kid i,st:=c.st.set i (a5 (.own,u))}:Cf).RD j a->j≠i/\c.RD j a:=λj a T=>by
  have⟨w,g,f,e2,s⟩:=T;by_cases d:j=i
  .subst d;rw[d6 O]at f;cases f
  .show⟨d,w,g,m j _ w f d,e2,s⟩
 show⟨⟨b.same,λa z=>?_,b.par,b.io,by simp[b.len],λj k w e=>?_,λl h k1 k2 J L g B D f e2 s Y=>?_,⟨λj w g f e2=>?_,λl h a t z2=>b.dd.dj l h a (I l a t).2 (I h a z2).2,λj a t z2=>?_⟩⟩,⟨⟨n.keep,n.there,λa z=>?_,λa z=>.inl (n.sub a z),λa z=>?_⟩⟩⟩
 .rcases z with z|z
  .show b.JY a z
  .obtain⟨o,ho,_⟩:=bf.there Q a (ki _ z);show⟨(fr a (ki _ z)).2.2,o,ho⟩
 .by_cases d:j=i
  .subst d;rw[d6 O]at e;cases e;have⟨q1,q2,q3⟩:=fr r (mh ..);show⟨.ref r,p,r,rfl,λz=>z.elim q1 Q3.1,q2,q3,Q3.2⟩
  .have⟨v,f,e2⟩:=b.sl j k w (m j k w e d);show⟨v,f,e2.mv up XA λhk g er=>?_⟩;obtain⟨QX,JQ,t,_⟩:=e2.rt hk;rw[er]at JQ;cases JQ;show⟨λz=>z.elim t λz=>b.dd.d1 i g (mem g (.inr z)) ⟨j,k,w,hk,m j k w e d,by rw[f,er]⟩,λo q=>q⟩
 .by_cases N:l=i
  .by_cases x:h=i
   .rw[N,x]
   .subst N;have Ml:c.σ[l]?=a5 (a5 (.ref g)):=s;rw[p]at Ml;cases Ml;show(b.dd.d1 l r (mem r (.inl rfl)) ⟨h,k2,L,D,m h k2 L e2 x,Y⟩).elim
  .by_cases x:h=i
   .subst x;have Vh:c.σ[h]?=a5 (a5 (.ref g)):=Y;rw[p]at Vh;cases Vh;show(b.dd.d1 h r (mem r (.inl rfl)) ⟨l,k1,J,B,m l k1 J f N,s⟩).elim
   .show b.inj l h k1 k2 J L g B D (m l k1 J f N) (m h k2 L e2 x) s Y
 .by_cases d:j=i
  .subst d;rw[d6 O]at f;cases f
  .have I_:=m j _ w f d;show bf.mv up (λa G=>⟨λz=>z.elim (b.root (.inr ⟨j,w,g,I_,e2,gj.mp G⟩)).1 λz=>d (b.dd.dj j i a ⟨w,g,I_,e2,gj.mp G⟩ (mem a (.inr z))),λo q=>q⟩) (b.dd.kd j w g I_ e2)
 .have⟨d,y⟩:=I j a t;rcases b1 a z2 with z|z
  .show b.dd.d1 j a y z
  .subst z;show d (b.dd.dj j i a y (mem a (.inl rfl)))
 .rcases z with z|⟨j,z⟩
  .rcases b1 a z with z|rfl
   .show n.roots a (.inl z)
   .show n.roots a (.inr ⟨i,mem a (.inl rfl)⟩)
  .show n.roots a (.inr ⟨j,(I j a z).2⟩)
 .rcases z with z|z
  .show n.new a z
  .rcases n.roots a (.inr ⟨i,mem a (.inr z)⟩) with y|y
   .show .inr (.inl y)
   .show .inr (.inr y)
def Bd(f:X.N[i]?=a5 x)(g:Jg X.env.scope x)(j:(x==("__debug__":Str))=cb)(k:(x==("__classdict__":Str))=cb):PE X (.Name x pos) (HW C (xI i)):=by
 have m:=om (C:=C) (pos:=pos) f g j k;rintro b s σ H Q I ⟨c0,rfl,rfl,c,r,st',e,h⟩;unfold xI at e;split at e
 .rename_i ks us hs;cases e;have⟨v,d,l,rfl⟩:=c.sl i _ _ hs;have⟨n,o⟩:=c.HC (Nx.refl c0) ⟨_,_,rfl⟩ hs d;have p:i<c0.st.length:=(d4.mp hs).1;show aX f g j k b s c0.σ c0.H Q I ⟨.ref l,d,h {c0 with S:=λa=>c0.S a\/a∈c0.kid i,st:=c0.st.set i (a5 (.own,.HP ks us))} (.ref l) rfl rfl n o ⟨⟨.own,rfl,d6 p⟩,d⟩⟩
 .show m b s c0.σ c0.H Q I ⟨c0,rfl,rfl,c,r,st',e,h⟩
end
section
def gD{st:au}(h:W (gQ i) st Q):∃ks us,st[i]?=a5 (a5 (.A',.HP ks us))/\Q (ks,us) st:=by
 have⟨r,st',e,q⟩:=h;unfold gQ at e;split at e
 .rename_i ks us hs;cases e;show⟨ks,us,hs,q⟩
 .cases e
def gE{st:au}(h:W (iP x) st Q):∃y,x.2=.str y/\Q y st:=by
 unfold iP at h;split at h
 .rename_i y e;rw[ao]at h;show⟨y,e,h⟩
 .show(ba.mp h).elim
def Ok.HP(d:Ok C c)(hi:c.st[i]?=a5 (a5 (.A',.HP ks us))):∃(r:hH) (kvs:List (Key×V)),c.σ[i]?=a5 (a5 (.ref r))/\c.H r=a5 (.dK kvs)/\kvs.map (·.1)=ks.map sL/\kvs.map (·.2)=(c.kid i).map V.ref /\
  (r::c.kid i).Nodup/\di C c.S c.H us (c.kid i)/\(∀y:Str,(dr kvs (sL y)).isSome=cK (y∈ks))/\∀(y:Str) (u:U),dE ks us y=a5 u->∃v,dr kvs (sL y)=a5 v/\Rep C (λa=>c.S a\/a∈c.kid i) c.H u v:=by
 have⟨v,e,r,rfl⟩:=d.sl i _ _ hi;have⟨kvs,j,b,f,k,m,g⟩:=d.dd.kd i _ r hi e;have h:ar C (λa=>c.S a\/a∈c.kid i) c.H us (kvs.map (·.2)):=by rw[f];show g.rep (λa=>.inl) λa l=>.inr l
 show⟨r,kvs,e,j,b,f,k,g,λy=>(dA (x:=y) b h).2,λy=>(dA (x:=y) b h).1⟩
def iV{k:Str->List Str×List U->M β}{Post:β->au->Prop}{Z:V->V->Hp->Prop}(j:Ok C c0)(h:W (l >>= λx=>iP x >>= λy=>gQ i >>= λd=>k y d) c0.st Post)
  (hz:∀(c:Cf) (y:Str) (ks:List Str) (us:List U) (r:hH) (kvs:List (Key×V)),c.σ=c0.σ->Ok C c->Nx c0 c->c.H r=a5 (.dK kvs)->(dr kvs (sL y)).isSome=cK (y∈ks)->W (k y (ks,us)) c.st Post->Z (.str y) (.ref r) c.H) :
  HW C l c0.σ c0.H λv m=>∃v',c0.σ[i]?=a5 (a5 v')/\Z v v' m:=by
 show⟨c0,rfl,rfl,j,?_⟩;rw[ah]at h;show W.mono h λx st' w c v b hs a n r=>?_;subst hs;have⟨s,t⟩:=x;rw[ah]at w;have⟨y,e,f⟩:=gE w;clear w
 dsimp only at e r
 subst e;have ev:v=.str y:=r.str a;subst ev;rw[ah]at f;have⟨ks,us,hs,w⟩:=gD f;obtain⟨g,kvs,o,p,_,_,_,_,q,_⟩:=a.HP hs;show⟨.ref g,by rw[<-b];show o,hz c y ks us g kvs b a n p (q y) w⟩
abbrev x_(neg:Bool):CmpOp:=if neg=bD then .NotIn else .In
def Be(z:X.A.units+60<L_)(l:X.N[i]?=a5 x)(m:Jg X.env.scope x)(o:(x==("__debug__":Str))=cb)(p:(x==("__classdict__":Str))=cb)(q:PE X a (HW C v))(t:O_ (x_ neg) (.Name x p2)=cb):
  PE X (.Compare a [x_ neg] [.Name x p2] pos) (HW C (v >>= λx=>iP x >>= λy=>gQ i >>= λd=>pure (.loc,.bl (PM neg y d.1)))):=by
 rintro b s σ H Q I ⟨c0,rfl,rfl,u,h⟩;cases neg with
 |false =>
  show wt (wZ ⋯ q (aX l m o p)) t b s c0.σ c0.H Q I (iV u h λc y ks us r kvs e f n g j w=>?_);rw[ao]at w;show⟨r,_,rfl,d9.k (k:=sL y) g,?_⟩;rw[j];show w c (.bl _) e rfl f n rfl
 |true =>
  show wt (mM ⋯ q (aX l m o p)) t b s c0.σ c0.H Q I (iV u h λc y ks us r kvs e f n g j w=>?_);rw[ao]at w;show⟨r,_,rfl,d9.k (k:=sL y) g,?_⟩;rw[j];show w c (.bl _) e rfl f n rfl
def Ec(b:∀j,ns j=bD->j≠i)(c:X.N.Nodup)(hi:X.N[i]?=a5 x)(d:Loc X.env.scope x)(f:X.fn x=bD\/X.env.scope.names.lookup x=a5 .local)
  (hs:PV (.Dict [] [] p) (a5 (.Name x pos')) pos.line X.env=pure cb):L2.PS X (.Assign [.Name x pos'] (.Dict [] [] p) pos) (IQ C ns (Cq i >>= λ_=>pure .nx)):=by
 rintro a s σ H D I ⟨c0,rfl,rfl,g,h⟩;have k:i<c0.σ.length:=by rw[I.len];show(d4.mp hi).1
 show nG c hi d pH hs f a s c0.σ c0.H D I λq l=>?_;have⟨m,n⟩:=g.newD l k;rw[ah]at h;obtain⟨_,st',e,w⟩:=h;cases e;rw[ao]at w;show w _ rfl m n ⟨λj o=>i7 (tv (b j o)),by simp⟩
end
section
def Bg(G:X.A.units+60<L_)(p:X.N[i]?=a5 x)(q:Jg X.env.scope x)(t:(x==("__debug__":Str))=cb)(u:(x==("__classdict__":Str))=cb)(v:PE X a (HW C D))(z:O_ (x_ neg) (.Name x p2)=cb):
  PT X (.Compare a [x_ neg] [.Name x p2] pos) (Jz C (D >>= λx=>iP x >>= λy=>gQ i >>= λd=>pure (PM neg y d.1))):=by
 rintro e s σ H Q I ⟨c0,rfl,rfl,B,h⟩;cases neg with
 |false =>
  show wu (wZ ⋯ v (aX p q t u)) z e s c0.σ c0.H Q I (iV (Z:=λy x f=>∃a o,x=V.ref a/\d9 f a y o/\∃b,V.bl o.isSome=.bl b/\Q b f) B h λc y ks us r kvs g j n l m w=>?_);rw[ao]at w;show⟨r,_,rfl,d9.k (k:=sL y) l,?_⟩;rw[m];show⟨_,rfl,w c g rfl j n⟩
 |true =>
  show wu (mM ⋯ v (aX p q t u)) z e s c0.σ c0.H Q I (iV (Z:=λy x f=>∃a o,x=V.ref a/\d9 f a y o/\∃b,V.bl (!o.isSome)=.bl b/\Q b f) B h λc y ks us r kvs g j n l m w=>?_);rw[ao]at w;show⟨r,_,rfl,d9.k (k:=sL y) l,?_⟩;rw[m];show⟨_,rfl,w c g rfl j n⟩
theorem di.snoc{S:hH->Prop}{a:hH}(b:H a=a5 (.lst vs))(c:ar C S H ys vs):∀{us:List U}{as:List hH},di C S H us as->di C S H (us++[.lst ys]) (as++[a])
 |[],as,h=>by cases h;show⟨a,[],ys,vs,rfl,rfl,b,c,rfl⟩
 |u::us,as,h=>by
  have⟨a',as',d,vs',rfl,e,f,g,i⟩:=h;show⟨a',as'++[a],d,vs',rfl,e,f,g,di.snoc b c i⟩
def rO{st:au}(h:W (k_ i y r) st Q):∃us ks vs,r=(.own,.lst us)/\st[i]?=a5 (a5 (.A',.HP ks vs))/\y∉ks/\ks.length<cL/\Q () (st.set i (a5 (.A',.HP (ks++[y]) (vs++[.lst us])))):=by
 have⟨k,u⟩:=r;cases k<;>cases u<;>first|show(ba.mp h).elim|skip
 rename_i us;obtain⟨_,st',e,q⟩:=h;unfold k_ at e
 dsimp only at e
 split at e
 .rename_i ks vs hs;split at e
  .rename_i hz;cases e;show⟨us,ks,vs,rfl,hs,hz.1,hz.2,q⟩
  .cases e
 .cases e
def Ed{i:Nat}{x:Str}{px:Pos}(hu:X.A.units+60<L_)(hN:X.N[i]?=a5 x)(hv:Jg X.env.scope x)(hd:(x==("__debug__":Str))=cb)(Ic:(x==("__classdict__":Str))=cb)
  (ha:PE X a (HW C ma)) (s:PE X b (HW C mb)) (hs:R0 [.Subscript (.Name x px) b p] a pos.line X.env=pure cb) (N2:V2 [.Subscript (.Name x px) b p] a X.env=pure b6)
  (u:∀v,Sz (.Subscript (.Name x px) b p) X.env v=(do
   let l <-L8 [v] (vr (.Name x px) X.env)
   let B <-L8 [v,l] (vr b X.env)
   S5 p
   L8 [v,l,B] (TB l B v)
   WK [v,l,B] [])) :
  L2.PS X (.Assign [.Subscript (.Name x px) b p] a pos) (IQ C ns (ma >>= λr=>gQ i >>= λ_=>mb >>= λx=>iP x >>= λy=>k_ i y r >>= λ_=>pure .nx)):=by
 show PS.weak (qJ ha (wz (aX hN hv hd Ic) s (set_dict (X:=X) ⋯) u) hs N2 rfl) ?_;rintro D σ H ⟨c0,rfl,rfl,J,h⟩;show aD J h λr c v t w=>?_;rw[ah]at w;have⟨Vi,us0,Jp,w⟩:=gD w;obtain⟨L,N3,O,g0,_⟩:=t.ok.HP Jp;show⟨.ref L,by rw[<-t.hσ];show O,?_⟩;rw[ah]at w;show⟨c,t.hσ,rfl,t.ok,w.mono λy st2 Q G vy m e4 n T r2=>?_⟩;subst e4;rw[ah]at Q;have⟨ky,uy⟩:=y;have⟨y,Y,w3⟩:=gE Q
 dsimp only at Y r2
 subst Y;have ev:vy=.str y:=r2.str n;subst ev;rw[ah]at w3;have⟨us,ks,vs,I,g,QM,j,q⟩:=rO w3;subst I;rw[ao]at q;obtain⟨r1,kvs,d,g1,g2,g3,g4,g5,g6,_⟩:=n.HP g;have I:r1=L:=by rw[m,<-t.hσ,O]at d;cases d;rfl
 subst I;have⟨f,rfl,k1,k2,k3,vs',k4,k5⟩:=t.rx.w.on t.ok T.toNs (m.trans t.hσ.symm);have Tx:=t.nx.trans T;have hl:kvs.length=ks.length:=by have:=ľ KN g2;simpa using this
 have L3:dr kvs (sL y)=b6:=by
  have:=g6 y;rw[Ļ QM]at this;cases hq:dr kvs (sL y) with
  |none=>rfl
  |some _=>rw[hq]at this;cases this
 show⟨r1,_,rfl,u5.k (k:=sL y) g1 (by rw[hl];show j),?_⟩;rw[wX _ L3];have Q3:f∉G.kid i:=λz=>k3 (.inr ⟨i,_,_,g,d,.inr z⟩);have Vj:f≠r1:=λz=>k3 (.inr ⟨i,_,_,g,d,.inl z⟩);have rd:=n.dd.kd i _ _ g d;have fr:=bf.S3 rd;have⟨KD,n3⟩:=Ok.Bc (H':=upd G.H r1 (.dK (kvs++[(sL y,.ref f)]))) (u':=.HP (ks++[y]) (vs++[.lst us])) (as':=G.kid i++[f]) n Tx.toNs g d
  (λa ne=>ak λz=>ne ⟨_,_,g,d,.inl z⟩) (λa o e=>by
   by_cases hz:a=r1
   .subst hz;show⟨_,aq⟩
   .rw[ak hz];show⟨o,e⟩)
  (λmv=>by
   show⟨_,aq,by rw[pd,g2,pd];rfl,by rw[pd,g3,pd];rfl,?_,λa ha=>?_,?_⟩
   .rw[<-Ø,tA];show⟨g4,by simp,λa ha b s=>by
     have:b=f:=by simpa using s
     subst this;rintro rfl;rcases gj.mp ha with z|z
     .show Vj z
     .show Q3 z⟩
   .rw[<-Ø]at ha;rcases ke.mp ha with ha|ha
    .show fr a ha
    .have:a=f:=by simpa using ha
     subst this;obtain⟨z1,_,z3,_⟩:=J.gO k1;show⟨k2,z3,z1⟩
   .show di.snoc (by rw[ak Vj];show k4) (k5.mv mv) (di.mv mv (λa ha o e=>by
     rw[ak (λz=>(pa.mp g4).1 (by rw[<-z];show ha))];show e) g5))
  (λa ha=>by
   rcases ke.mp ha with ha|ha
   .show .inl ha
   .have:a=f:=by simpa using ha
    subst this;show .inr ⟨k3,k1⟩)
 have z:=q _ rfl KD n3 (Kept.of m);rw[<-m];show z
theorem di.at{S:hH->Prop}:∀{ks:List Str}{us:List U}{as:List hH}{kvs:List (Key×V)}{u:U},kvs.map (·.1)=ks.map sL->kvs.map (·.2)=as.map V.ref->as.Nodup->di C S H us as->dE ks us y=a5 u ->
  ∃a ws ys,dr kvs (sL y)=a5 (.ref a)/\a∈as/\u=.lst ys/\H a=a5 (.lst ws)/\ar C S H ys ws/\∀(H':Hp) (c:List U) (d:List V),Mv S H S H'->H' a=a5 (.lst d)->ar C S H' c d->(∀b∈as,b≠a->H' b=H b)->di C S H' (jZ ks us y (.lst c)) as
 |[],us,as,kvs,u,_,_,_,_,h=>by cases us<;>cases h
 |k::ks,[],as,kvs,u,_,_,_,_,h=>by cases h
 |k::ks,u0::us,as,kvs,u,f,n,g,hk,h=>by
  have⟨a,as',ys,ws,rfl,rfl,r,s,t⟩:=hk;cases kvs with
  |nil=>simp at f
  |cons p kvs =>
   rw[il,il,Ru]at f n;rw[pa]at g;by_cases i:k=y
   .subst i;simp only[dE,if_true]at h;cases h;show⟨a,ws,ys,by rw[eB f.1,n.1],by simp,rfl,r,s,λH' c d j q e2 l=>?_⟩;simp only[jZ,if_true];show⟨a,as',c,d,rfl,rfl,q,e2,di.mv j (λb m o e=>by rw[l b (by simp[m]) (λz=>g.1 (z▸m))];show e) t⟩
   .simp only[dE,ĺ i]at h;have⟨v,x,A,B,w,D,G,I,J⟩:=di.at f.2 n.2 g.2 t h;show⟨v,x,A,?_,by simp[w],D,G,I,λH' c d j q e2 l=>?_⟩
    .rw[eC (by rw[f.1];intro z;show i (Va z))];show B
    .simp only[jZ,ĺ i];have L:a≠v:=λz=>g.1 (z▸w);show⟨a,as',ys,ws,rfl,rfl,by rw[l a (by simp) L];show r,s.mv j,J H' c d j q e2 λb m=>l b (by simp[m])⟩
def rP{st:au}(h:W (la i y u) st Q):∃ks vs xs,st[i]?=a5 (a5 (.A',.HP ks vs))/\dE ks vs y=a5 (.lst xs)/\xs.length<cL/\Q () (st.set i (a5 (.A',.HP ks (jZ ks vs y (.lst (xs++[u])))))):=by
 obtain⟨_,st',e,q⟩:=h;unfold la at e;split at e
 .rename_i ks vs hs;split at e
  .rename_i xs a;split at e
   .rename_i hz;cases e;show⟨ks,vs,xs,hs,a,hz,q⟩
   .cases e
  .cases e
 .cases e
abbrev vH(C:Ct)(m:M (Kd×U)):TE:=λσ H Q=>∃c0:Cf,c0.σ=σ/\c0.H=H/\Ok C c0/\W m c0.st λr st'=>∀c v,c.σ=σ->c.st=st'->Ok C c->Nx c0 c->(∀a o,c0.H a=a5 o->c.H a=a5 o)->aH C c0 c r.1 r.2 v->Q v c.H
def mW(b:Ok C c0)(h:W (d >>= k) c0.st Post)
  (hz:∀x c v,PR C c0 c x v->(∀a o,c0.H a=a5 o->c.H a=a5 o)->W (k x) c.st Post->Z v c.H):vH C d c0.σ c0.H Z:=by
 rw[ah]at h;show⟨c0,rfl,rfl,b,h.mono λx st1 e f g i e2 j l m r1=>hz x f g ⟨i,j,l,r1⟩ m (by rw[e2];show e)⟩
def yb(c:X.N[i]?=a5 x)(d:Jg X.env.scope x)(f:(x==("__debug__":Str))=cb)(g:(x==("__classdict__":Str))=cb):PE X (.Name x pos) (vH C (dg i)):=by
 show PE.weak (aX c d f g) ?_;rintro σ H Q ⟨c0,rfl,rfl,a,r,st',e,h⟩;unfold dg at e;split at e
 .cases e
 .rename_i k u l hs;cases e;have⟨v,b,e2⟩:=a.sl i k u hs;show⟨v,b,h c0 v rfl rfl a (Nx.refl c0) (λ_ _ z=>z) ?_⟩;by_cases hk:k.root=bD
  .rw[Ĺ hk];show⟨⟨k,hk,hs⟩,b⟩
  .rw[ĺ hk];cases k with
   |loc=>show e2
   |any=>show e2
   |bor j=>show e2.elim
   |A'=>show(l rfl).elim
   |_=>show absurd rfl hk
 .cases e
def iW(h:PE X e (tC v))(r:∀S H,Rep C S H u v):PE X e (vH C (pure (.loc,u))):=by
 show PE.weak h ?_;rintro σ H Q ⟨c0,rfl,rfl,a,h⟩;rw[ao]at h;show h c0 v rfl rfl a (Nx.refl c0) (λ_ _ z=>z) (r _ _)
def Ee(hK:C.K=X.K)(hu:X.A.units+60<L_)(hN:X.N[i]?=a5 x)(hv:Jg X.env.scope x)(hd:(x==("__debug__":Str))=cb)(Ic:(x==("__classdict__":Str))=cb)(s:PE X a (vH C ma))(hb:PE X b (HW C mb))(N4:Dn b)
  (IV:((Hf B (js [a] X.env)).all (λx=>!x.1)&&(NX B (JT [] X.env)).all (λx=>x.1.isSome)
   && cK ([a].length+([]:List MV).length+(if ([]:List MV).isEmpty then 0 else 1)<30))=bD)
  (H9:(apos.endLine==B.line)=bD) (Y:js [a] X.env=[(cb,vr a X.env)]) :
  L2.PS X (.Expr (.Call (.Attribute (.Subscript (.Name x px) b p) "append" apos) [a] [] B) pos) (IQ C ns (gQ i >>= λ_=>mb >>= λx=>iP x >>= λy=>gQ i >>= λd=>if y∈d.1 then(ma >>= λr=>lift r >>= λu=>la i y u >>= λ_=>pure .nx) else M.fail)):=by
 show PS.weak (iy (pD PySem.F.plainAttrs_list PySem.F.slot_list_append PySem.F.type_list_append ji (Ak ⋯ (aX hN hv hd Ic) hb N4) (cP s dB Y) rfl IV H9 Y rfl)) ?_;rintro D σ H ⟨c0,rfl,rfl,ok,h⟩;rw[ah]at h;have⟨Vi,us0,Jp,h⟩:=gD h;obtain⟨r0,N3,G,g0,_⟩:=ok.HP Jp;show⟨.ref r0,G,?_⟩;show aD ok h λry c vy t w=>?_;rw[ah]at w;have⟨ky,uy⟩:=ry;have⟨y,ey,w1⟩:=gE w
 dsimp only at ey
 subst ey;have ev:vy=.str y:=t.rx.str t.ok;subst ev;rw[ah]at w1;have⟨ks,us,hs,j⟩:=gD w1
 dsimp only at j
 by_cases I:y∈ks
 case neg=>rw[ĺ I]at j;show(ba.mp j).elim
 rw[Ĺ I]at j;obtain⟨r1,kvs,f1,g1,g2,g3,g4,g5,g6,_⟩:=t.ok.HP hs;have J:r1=r0:=by rw[t.hσ,G]at f1;cases f1;rfl
 subst J;have Nl:=g6 y;rw[ļ I]at Nl;have⟨v0,m⟩:=PD.mp Nl;have JW:v0∈(c.kid i).map V.ref:=by
  rw[<-g3];unfold dr at m;have⟨q,hq,rfl⟩:=ez.mp m;show RW (List.mem_of_find?_eq_some hq)
 have⟨f,XD,rfl⟩:=kl.mp JW;have⟨JL,TC⟩:=g5.mem XD;show⟨r1,.ref f,rfl,by rw[<-m];show d9.k (k:=sL y) g1,Or.inl ⟨rfl,JL,.inl (.inl TC)⟩,?_⟩;rw[<-t.hσ];show mW t.ok j λr g v t' vt w3=>?_;rw[ah]at w3;obtain⟨S',st',u,sS,L,n1,l,w4,_,_⟩:=gA t.ok t'.ok t'.nx t'.rx.w w3;rw[ah]at w4;have⟨Vk,vs',xs,n,hx,hz,q⟩:=rP w4;rw[ao]at q;obtain⟨r2,O,k1,k2,k3,k4,k5,k6,_,_⟩:=L.HP n;have Vl:g.σ[i]?=a5 (a5 (.ref r2)):=k1;have J:r2=r1:=by rw[t'.hσ,t.hσ,G]at Vl;cases Vl;rfl
 subst J;have XE:g.H r2=a5 (.dK O):=k2;have TF:O=kvs:=by have:=vt _ _ g1;rw[XE]at this;cases this;rfl
 subst TF;have nd:=(pa.mp k5).2;have⟨a2,ws,ys,l1,l2,l3,l4,l5,l6⟩:=di.at k3 k4 nd k6 hx;cases l3;rw[m]at l1;cases l1;have XF:g.H f=a5 (.lst ws):=l4;show⟨f,ws,v,rfl,rfl,XF,by rw[<-l5.len];show hz,?_⟩;have Je:f≠r2:=λz=>(pa.mp k5).1 (z▸l2);have⟨Iu,n2⟩:=Ok.Bc (c:={g with S:=S',st:=st' }) (H':=upd g.H f (.lst (ws++[v]))) (u':=.HP Vk (jZ Vk vs' y (.lst (xs++[u])))) (as':=g.kid i) L (t.nx.trans n1).toNs n k1
  (λa Q=>ak λz=>Q ⟨_,_,n,k1,.inr (z▸l2)⟩) (λa o e=>by
   by_cases hz:a=f
   .subst hz;show⟨_,aq⟩
   .rw[ak hz];show⟨o,e⟩)
  (λT=>⟨O,by rw[ak (tv Je)];show k2,k3,k4,k5,bf.S3 (L.dd.kd i _ _ n k1),l6 _ _ _ T aq ((l5.mv T).snoc (l.mv T)) λb _ Q=>ak Q⟩)
  (λa s=>.inl s)
 have z:=q _ rfl Iu n2 (Kept.of (t'.hσ.trans t.hσ));rw[<-t'.hσ];show z
end
section
def yc{st:au}(h:W (S8 u) st Q):∃ks us,u=.HP ks us/\Q () st:=by
 cases u<;>first|show(ba.mp h).elim|skip
 show⟨_,_,rfl,ao.mp h⟩
def mX{st:au}(h:W (vp x) st Q):∃j,x.2=.int j/\Q j st:=by
 unfold vp at h;split at h
 .rename_i y e;rw[ao]at h;show⟨y,e,h⟩
 .show(ba.mp h).elim
def mY{st:au}(h:W (pX i) st Q):∃k us,k.root=bD/\st[i]?=a5 (a5 (k,.lst us))/\Q us st:=by
 have⟨r,st',e,q⟩:=h;unfold pX at e;split at e
 .rename_i k us hs;split at e
  .rename_i hk;cases e;show⟨k,_,hk,hs,q⟩
  .cases e
 .cases e
theorem p_:∀{ks:List Str}{us:List U},y∈ks->ks.length=us.length->dE ks us y=b6->False
 |[],us,h,_,_=>by cases h
 |k::ks,[],_,h,_=>by simp at h
 |k::ks,u::us,h,hl,e=>by
  by_cases hk:k=y
  .simp[dE,hk]at e
  .simp only[dE,ĺ hk]at e;rcases gj.mp h with h|h
   .show hk h.symm
   .show p_ h (by simpa using hl) e
def yd{i:Nat}{x:Str}{px:Pos}(hu:X.A.units+60<L_)(hN:X.N[i]?=a5 x)(hv:Jg X.env.scope x)(hd:(x==("__debug__":Str))=cb)(Ic:(x==("__classdict__":Str))=cb)
  (ha:PE X a (HW C ma)) (hb:PE X b (HW C mb)) (hm:M2 X (.Name x px) "get" apos a b HL) :
  PE X (.Call (.Attribute (.Name x px) "get" apos) [a,b] [] HL) (HW C (dg i >>= λx=>S8 x.2 >>= λ_=>ma >>= λy=>iP y >>= λy=>mb >>= λz=>lift z >>= λu=>dg i >>= λx=>M.Il (AE x y u))):=by
 rintro e s σ H Q I ⟨c0,rfl,rfl,o,h⟩;show w_ ⋯ (aX hN hv hd Ic) ha hb hm e s c0.σ c0.H Q I ?_;rw[ah]at h;have⟨k0,u0,TH,Jp,h⟩:=c8 h;have⟨v0,B,t0⟩:=o.slot TH Jp;rw[ah]at h;have⟨Vi,us0,D,h'⟩:=yc h
 dsimp only at D
 subst D;obtain⟨a0,N3,rfl,g0,_⟩:=t0.dict o;show⟨.ref a0,B,a0,rfl,.inl ⟨N3,.inl g0⟩,?_⟩;show aD o h' λry c vy t w=>?_;rw[ah]at w;have⟨ky,uy⟩:=ry;have⟨y,G,w1⟩:=gE w
 dsimp only at G
 subst G;have ev:vy=.str y:=t.rx.str t.ok;subst ev;rw[<-t.hσ];show aD t.ok w1 λz f vz g J=>?_;rw[ah]at J;obtain⟨S',st',u,sS,p,n1,j,L,_,_⟩:=gA t.ok g.ok g.nx g.rx.w J;rw[ah]at L;have⟨k,u1,XG,Jy,w5⟩:=c8 L;have⟨r,d,q⟩:=cH.mp w5;have⟨v1,e1,t1⟩:=p.slot XG Jy;have O:f.σ[i]?=a5 (a5 v1):=e1;rw[g.hσ,t.hσ,B]at O;cases O;cases u1<;>first|(simp only[AE]at d;cases d;done)|skip
 rename_i ks us;have⟨a1,kvs,ea,g1,T,Y⟩:=t1.dict p;cases ea;have Lf:f.H a0=a5 (.dK kvs):=g1;show⟨_,d9.k (k:=sL y) Lf,?_⟩;simp only[AE]at d;have⟨l1,l2⟩:=dA (x:=y) T Y;have l:∀v:V,aH C c0 {f with S:=S',st:=st' } r.1 r.2 v->Q v f.H:=λv z=>q {f with S:=S',st:=st' } v (g.hσ.trans t.hσ) rfl p (t.nx.trans n1) z;cases n:dE ks us y with
 |some w =>
  rw[n]at d;cases d;have⟨v,ev,rv⟩:=l1 w n;rw[ev];show l v ?_;show aH.item (k:=if k.root=bD then .bor i else k) rv
 |none =>
  rw[n]at d;cases d;have L3:dr kvs (sL y)=b6:=by
   cases hq:dr kvs (sL y) with
   |none=>rfl
   |some v =>
    exfalso
    rw[hq]at l2;have hy:y∈ks:=by simpa using l2.symm
    have m:ks.length=us.length:=by have h1:=ľ KN T;have h2:=Y.len;simp at h1 h2;lia
    show p_ hy m n
  rw[L3];show l vz j
def ye:Fi X (λo i H Q=>∃p xs j v,o=.ref p/\i=.int j/\H p=a5 (.lst xs)/\0<=j/\xs[j.toNat]?=a5 v/\Q v H):=by
 rintro a s σ H o i k l Q I c d ⟨p,xs,j,v,rfl,rfl,e,f,b,q⟩;cases c;have⟨t,rfl⟩:=d;have⟨m,r,pl,hz⟩:=I.list (.inl (.inl e));have⟨w,g,h⟩:=r.get b;have hl:=r.length;have n:=fI;have u:=(d4.mp b).1;show wpAny_getItem_list pl.isList f ⋯ (by simpa using g) ⟨v,H,I,h,q⟩
def Bh:Qy X (if sub=bD then .Sub else .Add) (RC (vq sub)):=by
 cases sub with
 |true=>show C2
 |false=>show C0
def F_(hN:X.N[i]?=a5 x)(hv:Jg X.env.scope x)(hd:(x==("__debug__":Str))=cb)(Ic:(x==("__classdict__":Str))=cb)
  (ha:PE X a (vH C ma)) (hb:PE X b (HW C mb))
  (m:∀e f new,ĭ b e f new=(do L8 [new,e,f] (TB e f new);WK [new,e,f] [];pure .next)) :
  L2.PS X (.AugAssign (.Subscript (.Name x px) b p) (if sub=bD then .Sub else .Add) a pos) (IQ C ns (pX i >>= λ_=>mb >>= λy=>vp y >>= λj=>pX i >>= λus=>M.Il (pY us j) >>= λo=>ma >>= λz=>vp z >>= λw=>modS i (fG (.int j) (.int (vq sub o w))) >>= λ_=>pure .nx)):=by
 show PS.weak (zU (aX hN hv hd Ic) hb ye ha Bh set_list m) ?_;rintro D σ H ⟨c0,rfl,rfl,s,h⟩;rw[ah]at h;have⟨k0,us0,P2,Jp,h⟩:=mY h;have⟨v0,n,KU⟩:=s.sl i _ _ Jp;obtain⟨a0,rfl,_,_,_,_⟩:=KU.rt P2;show⟨.ref a0,n,?_⟩;show aD s h λry c vy t w=>?_;rw[ah]at w;have⟨ky,uy⟩:=ry;have⟨j,u,v⟩:=mX w
 dsimp only at u
 subst u;have ev:vy=.int j:=t.rx.int t.ok;subst ev;rw[ah]at v;have⟨k1,XH,NR,Jy,A⟩:=mY v;rw[ah]at A;have⟨o,ho,w3⟩:=cH.mp A;have⟨v1,B,XI⟩:=t.ok.sl i _ _ Jy;obtain⟨a1,rfl,_,_,_,P4⟩:=XI.rt NR;rw[t.hσ,n]at B;cases B;have⟨vs,G,g2⟩:=P4;unfold pY at ho;split at ho
 case isFalse=>cases ho
 rename_i XJ;split at ho
 case h_2=>cases ho
 rename_i o' TJ;cases ho;have⟨vo,XM,XN⟩:=g2.get TJ;have XO:vo=.int o:=XN;subst XO;show⟨a0,vs,j,_,rfl,rfl,G,XJ,XM,?_⟩;rw[<-t.hσ];show mW t.ok w3 λz r vz d all2 I=>?_;rw[ah]at I;have⟨kz,uz⟩:=z;have⟨w,J,L⟩:=mX I
 dsimp only at J
 subst J;have ev:vz=.int w:=d.rx.int d.ok;subst ev;show⟨o,w,rfl,rfl,?_⟩;rw[ah]at L;have⟨k,u1,u2,hk,O,g,q⟩:=gC L;rw[ao]at q;have⟨v2,e2,MZ⟩:=d.ok.sl i _ _ O;obtain⟨a2,rfl,_,_,_,P5⟩:=MZ.rt hk;have XQ:=e2;rw[d.hσ,t.hσ,n]at e2;cases e2;have Q:r.H a0=a5 (.lst vs):=all2 _ _ G;cases u1 with
 |lst xs =>
  simp only[fG,ez]at g;have⟨l,K3,rfl⟩:=g;have⟨Q5,T,Y⟩:=P5;rw[Q]at T;cases T;show⟨a0,vs,j,l,rfl,rfl,Q,by rw[<-Y.len];show K3,?_⟩;have⟨KD,n3⟩:=Ok.mod (c:=r) (H':=upd r.H a0 (.lst (vs.set l (.int (vq sub o w))))) (u':=.lst (xs.set l (.int (vq sub o w)))) d.ok (t.nx.trans d.nx).toNs hk O XQ (λa ne=>ak ne) ⟨_,aq⟩ λmv=>⟨_,aq,(Y.mv mv).set l rfl⟩
  have z:=q _ rfl KD n3 (Kept.of (d.hσ.trans t.hσ));rw[<-d.hσ];show z
 |HP ks vs=>simp[fG]at g
 |_=>simp[fG]at g
end
section
def Bi{ks:List Str}(c:kvs.map (·.1)=ks.map sL)(d:kvs.map (·.2)=ns.map V.int):kvs=(ks.zip ns).map λp=>((sL p.1:Key),V.int p.2):=by
 induction kvs generalizing ks ns with
 |nil =>
  cases ks with
  |nil=>rfl
  |cons _ _=>cases c
 |cons kv kvs e =>
  cases ks with
  |nil=>cases c
  |cons k ks =>
   cases ns with
   |nil=>cases d
   |cons n ns =>
    have⟨a,b⟩:=kv;simp only[il,Ru]at c d;have⟨rfl,c⟩:=c;have⟨rfl,d⟩:=d;rw[e c d];rfl
theorem ar.of_map{S:hH->Prop}{f:α->U}{g:α->V}:∀{l:List α},(∀x∈l,Rep C S H (f x) (g x))->ar C S H (l.map f) (l.map g)
 |[],_=>rfl
 |x::l,h=>⟨g x,l.map g,rfl,h x (by simp),ar.of_map λy a=>h y (by simp[a])⟩
def Bj(J:X.calm=bD)(hK:C.K=X.K)(O:Gl X "sorted")(Y:X.mg "sorted"=b6)(hN:X.N[i]?=a5 x)(hv:Jg X.env.scope x)(hd:(x==("__debug__":Str))=cb)(Ic:(x==("__classdict__":Str))=cb)(H9:(apos.endLine==k.line)=bD):
  PE X (.Call (.Name "sorted" p) [.Call (.Attribute (.Name x px) "items" apos) [] [] k] [] pos) (HW C (dg i >>= λx=>M.Il (xF x.2))):=by
 rintro c s σ H Q I ⟨c0,rfl,rfl,l,h⟩;show DD (d0 I O Y (show Ly "sorted"=a5 (.builtin "sorted") by decide +kernel) ?_ (by decide +kernel) (by decide +kernel));rw[ah]at h;have⟨k0,u0,TH,Jp,h⟩:=c8 h;have⟨v0,e0,t0⟩:=l.slot TH Jp;have⟨r,b,g⟩:=cH.mp h
 dsimp only at b
 unfold xF at b;split at b
 rotate_left
 .cases b
 rename_i ks us;rw[oD]at b;have⟨ns,en,b⟩:=b;split at b
 rotate_left
 .cases b
 rename_i TK;cases b;have⟨Lq,Io,q⟩:=TK;have⟨d,kvs,rfl,t,P2,u⟩:=t0.dict l;rw[jJ en]at u;have TF:=Bi P2 (ar.ints u);subst TF;have ek:((ks.zip ns).map (·.1))=ks:=Ó ⋯;have f:g9 (i5 X.prog X.w) X.A (vr (.Call (.Attribute (.Name x px) "items" apos) [] [] k) X.env) (λv s1=>g9 (i5 X.prog X.w) X.A (Qg (.builtin "sorted") [v]) (EP X c c0.σ Q) X.xe s1) X.xe s:=by
  show ZU rfl H9 (HS (aX hN hv hd Ic c s c0.σ c0.H (λv B=>v=.ref d/\B=c0.H) I ⟨_,e0,rfl,rfl⟩) λv s1 TL=>?_);have⟨x1,B,D,r1,z1,z2⟩:=TL;subst z1 z2;cases(show v=my d from r1);have⟨h1,h2⟩:=nS (T:="dict") D (x:=.ref d) rfl (.inr (.inr (.inl ⟨rfl,.inl ⟨_,t⟩⟩)));show⟨"dict","dict.items",PySem.F.plainAttrs_dict,PySem.F.slot_dict_items,PySem.F.type_dict_items,h1,h2,L0 rfl (PySem.evalArgs_none (oj J D t (by rw[ek];show Io) (by rw[Wd];lia) λas L hl nd G hL=>?_))⟩;have m:c0.H L=b6:=G L (by simp);have XR:(as.zip ((ks.zip ns).map Mh)).map (·.1)=as:=Ó (by rw[df];lia);have XS:∀p∈as.zip ((ks.zip ns).map Mh),p.1∈as:=λp n=>(RT n).1;have same:pF c0.H (upd (jW c0.H (as.zip ((ks.zip ns).map Mh))) L (.lst ((jV ((ks.zip ns).map (·.1))).map λi=>V.ref (as.getD i 0)))):=λa o e=>by
   have n1:a≠L:=λy=>by rw[y,m]at e;cases e
   rw[ak n1,kY λp n y=>?_]
   .show e
   .have:=G p.1 (by simp[XS p n]);rw[y,e]at this;cases this
  have⟨H_,n'⟩:=l.grow (S':=c0.S) same (λa z=>.inl z) λa z=>z;have⟨q1,q2,q3,q4,q5⟩:=l.gO m;show g {c0 with H:=upd (jW c0.H (as.zip ((ks.zip ns).map Mh))) L (.lst ((jV ((ks.zip ns).map (·.1))).map λi=>V.ref (as.getD i 0))),S:=c0.S} _ rfl rfl H_ n' ⟨L,rfl,m,q2,q5,_,aq,?_⟩;change ar C c0.S _ ((Az (ks.zip ns)).map vn) _;unfold Az;rw[ko];show ar.of_map λj hj=>?_;have K3:j<(ks.zip ns).length:=by
   have:=x4.mp ((gz _).mem_iff.mp hj);rw[df]at this;show this
  have SV:j<as.length:=by lia
  have e1:(ks.zip ns).getD j (wh,0)=(ks.zip ns)[j]:=(List.getElem_eq_getD _).symm;have e2:as.getD j 0=as[j]:=by simp[Ni,SV]
  change Rep C c0.S _ (vn ((ks.zip ns).getD j (wh,0))) (V.ref (as.getD j 0));rw[e1,e2];show⟨as[j],Mh (ks.zip ns)[j],rfl,II.of ?_,⟨_,_,rfl,rfl,_,_,rfl,rfl,rfl⟩⟩;have Je:as[j]≠L:=λy=>hL (by rw[<-y];simp);show(ak Je).trans (tE (by rw[XR];show nd) (vs:=Mh (ks.zip ns)[j]) ?_);show Tv.mpr ⟨j,by rw[Wd,df];lia,?_⟩;rw[List.getElem_zip,Ô]
 have eb:Hf pos (js [.Call (.Attribute (.Name x px) "items" apos) [] [] k] X.env)=[(cb,vr (.Call (.Attribute (.Name x px) "items" apos) [] [] k) X.env)]:=rfl;have XT:NX pos (JT [] X.env)=[]:=rfl;rw[eb,XT];show xU f
end
section
variable{X:Cx}{C:Ct}{a:pb}{ma:M (Kd×U)}{apos HL:Pos}{i:Nat}{x:Str}{px:Pos}
def Ok.Cu(b:Ok C c)(hk:k.root=bD)(hs:c.st[i]?=a5 (a5 (k,.lst us))):∃a vs,c.σ[i]?=a5 (a5 (.ref a))/\c.H a=a5 (.lst vs)/\ar C c.S c.H us vs:=by
 have⟨v,d,e2⟩:=b.sl i k _ hs;obtain⟨r,rfl,_,_,_,vs,e,f⟩:=e2.rt hk;show⟨r,vs,d,e,f⟩
theorem ar.eraseIdx{S:hH->Prop}:∀{us:List U}{vs:List V} (n:Nat),ar C S H us vs->ar C S H (us.eraseIdx n) (vs.eraseIdx n)
 |[],_,n,h=>by cases h;simp[ar]
 |u::us,vs,0,h=>by
  have⟨v,r,rfl,c,b⟩:=h;show b
 |u::us,vs,n+1,h=>by
  have⟨v,r,rfl,c,b⟩:=h;show⟨v,_,rfl,c,b.eraseIdx n⟩
def Ok.out(d:Ok C c)(n:Nx c0 c)(h:c.σ=c0.σ)(hk:k.root=bD)(hs:c.st[i]?=a5 (a5 (k,.lst us)))(f:c.σ[i]?=a5 (a5 (.ref r)))(j:ar C c.S c.H b vs')(l:Rep C c.S c.H u v)(w:cu C c0 Q (.loc,u) (c.st.set i (a5 (k,.lst b)))):Q v (upd c.H r (.lst vs')):=by
 have m:Mv c.S c.H c.S (upd c.H r (.lst vs')):=by
  have⟨v',g,e2⟩:=d.sl i k _ hs;rw[f]at g;cases g;obtain⟨J,p,q,_,_,s⟩:=e2.rt hk;cases p;have⟨o,ho,y⟩:=s.some;show⟨λ_ z=>z,λa o' e t=>by rw[ak (λz=>by subst z;rw[ho]at e;cases e;show y t)];show e,λa o' z e=>by rw[ak (λA=>by subst A;show q z)];show e⟩
 have⟨B,D⟩:=d.mod (H':=upd c.H r (.lst vs')) (u':=.lst b) n.toNs hk hs f (λa G=>ak G) ⟨_,aq⟩ λI=>⟨vs',aq,j.mv I⟩
 show w {c with H:=upd c.H r (.lst vs'),st:=c.st.set i (a5 (k,.lst b))} v h rfl B ⟨D⟩ (l.mv m)
def Bl(g:X.N[i]?=a5 x)(j:Jg X.env.scope x)(l:(x==("__debug__":Str))=cb)(m:(x==("__classdict__":Str))=cb)(n:(apos.endLine==HL.line)=bD)(o:C.K=X.K):
  PE X (.Call (.Attribute (.Name x px) "pop" apos) [] [] HL) (HW C (xH i)):=by
 show PE.weak (wQ PySem.F.plainAttrs_list PySem.F.slot_list_pop PySem.F.type_list_pop wU (aX g j l m) rfl n) ?_;rintro σ H Q ⟨c0,rfl,rfl,c,h⟩;have⟨r,st',e,w⟩:=h;unfold xH at e;split at e
 .rename_i k us hs;split at e
  .rename_i hk;split at e
   .rename_i u q;cases e;have⟨p,vs,d,f,b⟩:=c.Cu hk hs;have⟨v,s,t⟩:=b.get q;have hl:=b.len;show⟨_,d,.inl ⟨rfl,vs,o▸IF.of f⟩,p,vs,v,rfl,rfl,f,by rw[<-hl];show s,?_⟩;show c.out (Nx.refl c0) rfl hk hs d ?_ t w;rw[Rr,Rr,hl];show b.take _
   .cases e
  .cases e
 .cases e
def Ga(b:0<=j)(h:j.toNat<n):X' j n=a5 j.toNat:=by
 simp only[X'];rw[ĺ (show ¬j<0 by lia),Ĺ (by rw[b8,ĸ,ĸ];lia)]
def vI{st:au}(h:W (AB i u) st Q):∃(j:Int) (k:Kd) (us:List U) (y:U),u=.int j/\k.root=bD/\0<=j/\j<1000000/\st[i]?=a5 (a5 (k,.lst us))/\us[j.toNat]?=a5 y/\Q (.loc,y) (st.set i (a5 (k,.lst (us.eraseIdx j.toNat)))):=by
 have⟨r,st',e,w⟩:=h;cases u with
 |int j =>
  unfold AB at e
  dsimp only at e
  split at e
  .rename_i k us hs;split at e
   .rename_i hk;split at e
    .rename_i y b;cases e;show⟨j,k,us,y,rfl,hk.1,hk.2.1,hk.2.2,hs,b,w⟩
    .cases e
   .cases e
  .cases e
 |_=>cases e
def yf(q:C.K=X.K)(s:X.N[i]?=a5 x)(u:Jg X.env.scope x)(A:(x==("__debug__":Str))=cb)(B:(x==("__classdict__":Str))=cb)(D:PE X a (HW C ma))
  (G:((Hf HL (js [a] X.env)).all (λx=>!x.1)&&(NX HL (JT [] X.env)).all (λx=>x.1.isSome)
   && cK ([a].length+([]:List MV).length+(if ([]:List MV).isEmpty then 0 else 1)<30))=bD)
  (I:(apos.endLine==HL.line)=bD) (e:js [a] X.env=[(cb,vr a X.env)]) :
  PE X (.Call (.Attribute (.Name x px) "pop" apos) [a] [] HL) (HW C (dg i >>= λx=>MI x.2 >>= λ_=>ma >>= λy=>AB i y.2)):=by
 show PE.weak (pD PySem.F.plainAttrs_list PySem.F.slot_list_pop PySem.F.type_list_pop wV (aX s u A B) (cP D dB e) rfl G I e rfl) ?_;rintro σ H Q ⟨c0,rfl,rfl,b,h⟩;rw[ah]at h;have⟨k0,u0,J,L,h⟩:=c8 h;have⟨O,f,T⟩:=b.slot J L;show⟨O,f,?_⟩;cases u0 with
 |lst Y =>
  rw[ah,show MI (U.lst Y)=pure () from rfl,ao]at h;obtain⟨a0,KG,d,Ou,_⟩:=T.list b;show⟨by rw[d];show .inl ⟨rfl,KG,q▸Ou⟩,?_⟩;show aD b h λr c v t w=>?_;have⟨j,k,us,y,ej,hk,g,j1,hs,hu,w⟩:=vI w;have⟨p,vs,l,h2,m⟩:=t.ok.Cu hk hs;have hp:p=a0:=by
   have:=l;rw[t.hσ,f,d]at this;cases this;rfl
  subst hp;have⟨z,n,g2⟩:=m.get hu;have KC:j.toNat<vs.length:=(d4.mp n).1;have o:=t.rx;rw[ej]at o;have ev:=o.int t.ok;show⟨p,vs,j,j.toNat,z,d,by rw[ev],h2,Int.le_trans (by decide) g,Int.lt_trans j1 (by decide),Ga g KC,n,t.ok.out t.nx t.hσ hk hs l (m.eraseIdx _) g2 w⟩
 |_=>rw[ah]at h;show(ba.mp h).elim
end
@[reducible]def J2(P:y0)(w:Jn)(K:PySem.W.Frag)(H:Hp)(a IO:hH->Prop):Ct:=⟨P,w,K,H,a,IO,λ_ _=>False⟩
structure Gb(C:Ct)(H H':Hp)(S':hH->Prop)(is:List Nat)(vs:List V)(ws:List U)(k:Kd)(u:U)(v:V):Prop where
 same:∀a o,H a=a5 o->¬C.IO a->H' a=a5 o
 new:∀a,S' a->H a=b6/\∃o,H' a=a5 o
 own:k=.own->∃r,v=.ref r/\H r=b6/\¬S' r/\cO C S' H' r u
 loc:k=.loc->Rep C S' H' u v
 len:ws.length=is.length
 Ja:∀(n i:Nat) (r:hH) (w:U),is[n]?=a5 i->vs[i]?=a5 (.ref r)->ws[n]?=a5 w->cO C S' H' r w
structure Ge(C:Ct)(H:Hp)(is:List Nat)(us:List U)(vs:List V):Prop where
 len:us.length=vs.length
 par:∀a,C.JG a->JH H a/\¬C.IO a
 Vo:∀a,C.IO a->JH H a
 io:∀(i:Nat) (u:U),i∈is->us[i]?=a5 u->∃r,vs[i]?=a5 (.ref r)/\C.IO r/\cO C (λ_=>False) H r u
 any:∀(i:Nat) (u:U),i∉is->us[i]?=a5 u->∃v,vs[i]?=a5 v/\Rep C C.JG H u v
 inj:∀(i j:Nat) (r:hH),i∈is->j∈is->vs[i]?=a5 (.ref r)->vs[j]?=a5 (.ref r)->i=j
 Ja:∀a,C.IO a->∃i∈is,vs[i]?=a5 (.ref a)
abbrev TN(P:y0)(w:Jn)(K:PySem.W.Frag)(F:List U->Option (Ex (Kd×U)))(b:Nat)(is:List Nat):Sp:=λvs H Q _=>vs.length=b/\∃us k u ws a IO,F us=a5 (.ok (k,.tup (u::ws)))/\(k=.own\/k=.loc)/\Ge (J2 P w K H a IO) H is us vs /\
 ∀v H' S',Gb (J2 P w K H a IO) H H' S' is vs ws k u v->Q v H'
theorem map_inj:∀{l:List α},(l.map f).Nodup->∀x∈l,∀y∈l,f x=f y->x=y
 |[],_,_,h,_,_,_=>by cases h
 |a::l,h,x,d,y,b,e=>by
  rw[il,pa]at h;rcases gj.mp d with c|h1
  .rcases gj.mp b with e2|h2
   .rw[c,e2]
   .show absurd (kl.mpr ⟨y,h2,by rw[<-e,c]⟩) h.1
  .rcases gj.mp b with e2|h2
   .show absurd (kl.mpr ⟨x,h1,by rw[e,e2]⟩) h.1
   .show map_inj h.2 x h1 y h2 e
section
def vJ(h:k8 rs p=a5 j):∃us,rs[p]?=a5 (.bor j,.lst us)/\cE us=bD:=by
 unfold k8 at h;split at h
 .split at h
  .cases h;show⟨_,by assumption,by assumption⟩
  .cases h
 .cases h
def JI.TQ(t:JI C c0 c rs vs){i:Nat}(h:rs[i]?=a5 r):∃v,vs[i]?=a5 v/\aH C c0 c r.1 r.2 v:=by
 have d:∀(l:List (Kd×U)) (w:List V),cB C c0 c l w->bo l c.st->∀(i:Nat) (r:Kd×U),l[i]?=a5 r->∃v,w[i]?=a5 v/\aH C c0 c r.1 r.2 v:=by
  intro l;induction l with
  |nil=>intro w _ _ i r e;simp at e
  |cons x l f =>
   intro w h hs i r e;obtain⟨v,t',rfl,g,j,_⟩:=h;rw[eJ]at hs;cases i with
   |zero=>simp at e;subst e;show⟨v,rfl,g.t hs.1⟩
   |succ i=>have⟨v',a,b⟩:=f t' j hs.2 i r (by simpa using e);show⟨v',by simpa using a,b⟩
 show d rs vs t.rep t.MK i r h
def JI.len(t:JI C c0 c rs vs):rs.length=vs.length:=by
 have:=t.read.len;rw[df]at this;show this
theorem tV(q:C'.Eqv C){vs:List V}(hs:∀a,S' a->S1 a){IO:hH->Prop}(O:∀a,S' a->¬IO a)(A:∀a o,IO a->H' a=a5 o->¬Tp o):
  ∀(ps:List Nat) (ws:List U) (c:Cf) (st':au),Ok C c->Ns c1 c->c.S=S1->tK rs ps ws c.st=a5 st'->(ps.map (k8 rs)).Nodup->(∀p∈ps,∀a,vs[p]?=a5 (.ref a)->IO a) ->
  (∀p∈ps,∀j,k8 rs p=a5 j->∃k u r,k.root=bD/\c.st[j]?=a5 (a5 (k,u))/\c.σ[j]?=a5 (a5 (.ref r))/\vs[p]?=a5 (.ref r)) ->
  (∀(n p:Nat) (r:hH) (w:U),ps[n]?=a5 p->vs[p]?=a5 (.ref r)->ws[n]?=a5 w->cO C' S' H' r w)->(∀a,(∀p∈ps,vs[p]?≠a5 (.ref a))->c.H a=H' a)->(∀a,¬IO a->c.H a=H' a) ->
  ∃g:Cf,Ok C g/\Ns c1 g/\g.σ=c.σ/\g.S=S1/\g.st=st'/\g.H=H'/\g.kid=c.kid/\∀(j:Nat) (k:Kd) (u:U),g.st[j]?=a5 (a5 (k,u))->∃u0,c.st[j]?=a5 (a5 (k,u0))
 |[],ws,c,st',B,n,y,e,_,_,_,_,D,_=>by
  cases ws with
  |nil=>cases e;show⟨c,B,n,rfl,y,rfl,funext λa=>D a λp hp=>(by cases hp),rfl,λj k u e=>⟨u,e⟩⟩
  |cons _ _=>cases e
 |p::ps,ws,c,st',B,n,y,e,G,Q,T,rt,D,I=>by
  cases ws with
  |nil=>cases e
  |cons w ws =>
   simp only[tK]at e;split at e
   .rename_i j Y;split at e
    .rename_i us k0 Y1 HU;have⟨k,u,r,hk,s,e2,J⟩:=T p (by simp) j Y;rw[HU]at s;cases s;have s:=HU;have hr:=rt 0 p r _ rfl J rfl;have⟨xs,g1,g2⟩:=hr;have L:IO r:=Q p (by simp) r J;rw[il,pa]at G;have⟨H_,n'⟩:=B.mod (H':=upd c.H r (.lst xs)) (u':=.lst us) n hk s e2 (λa v=>ak v) ⟨_,aq⟩ (λ_=>⟨xs,aq,by
      show(g2.cg q).mv ⟨λa z=>by rw[y];show hs a z,λa o h tp=>?_,λa o z h=>?_⟩
      .by_cases l:a=r
       .subst l;show absurd tp (A a o L h)
       .rw[ak l];by_cases x:IO a
        .show absurd tp (A a o x h)
        .rw[I a x];show h
      .have x:=O a z;have l:a≠r:=λe=>x (e▸L);rw[ak l,I a x];show h⟩)
     have IT:j<c.st.length:=(d4.mp s).1;have A1:∀f∈ps,∀t,k8 rs f=a5 t->∃k u r,Kd.root k=bD/\(c.st.set j (a5 (k0,.lst us)))[t]?=a5 (a5 (k,u))/\c.σ[t]?=a5 (a5 (.ref r))/\vs[f]?=a5 (.ref r):=λf hp t K3=>by
      have⟨k',u',N,a1,a2,a3,a4⟩:=T f (by simp[hp]) t K3;have v:j≠t:=λz=>G.1 (kl.mpr ⟨f,hp,by rw[K3,Y,z]⟩);show⟨k',u',N,a1,by rw[i7 v];show a2,a3,a4⟩
     have A2:∀a,(∀f∈ps,vs[f]?≠a5 (.ref a))->upd c.H r (.lst xs) a=H' a:=λa l=>by
      by_cases h:a=r
      .subst h;rw[aq,g1]
      .rw[ak h];show D a λf hp z=>?_;rcases gj.mp hp with rfl|hp
       .rw[J]at z;cases z;show h rfl
       .show l f hp z
     have A3:∀a,¬IO a->upd c.H r (.lst xs) a=H' a:=λa l=>by
      have v:a≠r:=λz=>l (by rw[z];show L);rw[ak v];show I a l
     have⟨g,f1,f2,f3,f4,f5,f6,f7,f8⟩:=tV q hs O A ps ws {c with H:=upd c.H r (.lst xs),st:=c.st.set j (a5 (k0,.lst us))} st' H_ n' y e G.2 (λf hp=>Q f (by simp[hp])) A1 (λm f N w' a b d=>rt (m+1) f N w' (by simpa using a) b (by simpa using d)) A2 A3;show⟨g,f1,f2,f3,f4,f5,f6,f7,λi k' u' z=>?_⟩;have⟨u0,z⟩:=f8 i k' u' z;by_cases hi:i=j
     .subst hi;have z:(c.st.set i (a5 (k0,.lst us)))[i]?=_:=z;rw[d6 IT]at z;cases z;show⟨_,s⟩
     .have z:(c.st.set j (a5 (k0,.lst us)))[i]?=_:=z;rw[i7 (tv hi)]at z;show⟨u0,z⟩
    .cases e
   .cases e
end
section
def Bm(st:au)(r:Kd×U):(AA st r).1=r.1:=by
 unfold AA;split<;>rfl
theorem cB.Vp{st:au}:∀{rs:List (Kd×U)}{vs:List V},cB C c0 c rs vs->cB C c0 c (rs.map (AA st)) vs
 |[],_,h=>h
 |r::rs,vs,h=>by
  have⟨v,t,rfl,d,e,f⟩:=h;show⟨v,t,rfl,?_,cB.Vp e,λhk i j v' a e2 b=>?_⟩
  .have⟨k,u⟩:=r;cases k<;>show d
  .rw[k9,ez]at a;have⟨g,a,rfl⟩:=a;rw[Bm]at hk b;show f hk i g v' a e2 b
def Bn(h:PA X es (Jh C ms)):PA X es (Jh C (ms >>= FK)):=by
 rintro pos a s σ H Q I ⟨c0,rfl,rfl,b,w⟩;show h pos a s c0.σ c0.H Q I ⟨c0,rfl,rfl,b,?_⟩;rw[ah]at w;show w.mono λrs st d c vs f e2 g n r=>?_;have⟨i,st',e,q⟩:=d;cases e;show q c vs f e2 g n r.Vp
def yg(h:O6 r=a5 (k,u,ws)):r=(k,.tup (u::ws))/\(k=.own\/k=.loc):=by
 unfold O6 at h;split at h
 .cases h;show⟨rfl,.inl rfl⟩
 .cases h;show⟨rfl,.inr rfl⟩
 .cases h
def yh(hP:C.P=X.prog)(hw:C.w=X.w)(hK:C.K=X.K)(hF:Γ f=F)(hk:∀us r,F us=a5 (.ok r)->us.length=np)
  (G:dR X.prog X.w X.K X.mg X.base M3 k fa fd ps (TN X.prog X.w X.K F np is)) (hr:cN k X.A) (hg:Gl X f) (hm:X.mg f=a5 (.ref fa)) (PX:PySem.W.keepIn X.K (.ref fa)=bD) (B:Binds X.K fd ps [])
  (J6:(f==("__debug__":Str))=cb) (ha:PA X (e::es) (Jh C ms)) (he:js (e::es) X.env=(cb,vr e X.env)::js es X.env) (IK:(Hf pos (js es X.env)).any (·.1)=cb) :
  PE X (.Call (.Name f p) (e::es) [] pos) (HW C (ms >>= λrs=>aw rs >>= λ_=>xG Γ f rs is)):=by
 rintro ag s σ H Q I ⟨c0,rfl,rfl,ok,h⟩;show DD (dU I hg hm ?_ J6);show PySem.W.callWith_K (h₀:=X.base) I.ok.mod.MT PX (HS (args ha I ok h pos) λus s1 ⟨rs,c,vs,t,I1,rv,w⟩=>⟨I1.JU,?_⟩) he IK;have⟨r,st',D,q⟩:=w;unfold xG at D;rw[hF]at D;split at D
 .rename_i r0 e2;split at D
  .rename_i kd u ws eu;split at D
   .rename_i JP;split at D
    .rename_i st2 TX;cases D;have⟨rfl,k1⟩:=yg eu;have k2:=hk _ _ e2;unfold Cp at JP;simp only[b8,ux,ĸ,P1,x4]at JP;obtain⟨⟨h1,h2⟩,h3⟩:=JP;have T:∀p∈is,∃j xs k r,k8 rs p=a5 j/\rs[p]?=a5 (.bor j,.lst xs)/\cE xs=bD/\Kd.root k=bD/\c.st[j]?=a5 (a5 (k,.lst xs))/\c.σ[j]?=a5 (a5 (.ref r))/\vs[p]?=a5 (.ref r)/\¬c.S r/\¬C.JG r/\cO C c.S c.H r (.lst xs):=λp L=>by
      have⟨j,O⟩:=PD.mp (h1 p L);have⟨xs,a1,a2⟩:=vJ O;have⟨v,b1,l⟩:=t.TQ a1;obtain⟨r,rfl,Y,d2,_,N⟩:=t.ok.rootOf l.1 l.2;have⟨k,m,x⟩:=l.1;show⟨j,xs,k,r,O,a1,a2,m,x,l.2,b1,Y,d2,N⟩
     let IO:hH->Prop:=λa=>∃p∈is,vs[p]?=a5 (.ref a);have P6:∀a,IO a->c.R a/\¬c.S a/\¬C.JG a/\JH c.H a:=λa Ih=>by
      have⟨p,L,e⟩:=Ih;obtain⟨j,xs,k,r,_,_,_,m,x,y,J,g5,g6,g7⟩:=T p L;rw[e]at J;cases J;obtain⟨o,ho,_⟩:=g7.some;show⟨.inl ⟨j,k,_,m,x,y⟩,g5,g6,o,ho⟩
     let Pr:hH->Prop:=λa=>JH c.H a/\¬IO a;have ab:C.Eqv (J2 X.prog X.w X.K c.H Pr IO):=⟨hP,hw,hK⟩
     have LW:(J2 X.prog X.w X.K c.H Pr IO).Eqv C:=⟨hP.symm,hw.symm,hK.symm⟩
     have sP:∀a,c.S a->Pr a:=λa z=>⟨t.ok.vi a z,λz'=>(P6 a z').2.1 z⟩
     have gi:∀{i:Nat} {u:U},(rs.map (·.2))[i]?=a5 u->∃k,rs[i]?=a5 (k,u):=λ{i u} e=>by
      rw[k9,ez]at e;obtain⟨⟨k,u'⟩,e,rfl⟩:=e;show⟨k,e⟩
     have ac:Ge (J2 X.prog X.w X.K c.H Pr IO) c.H is (rs.map (·.2)) vs:=by
      show⟨by rw[df];show t.len,λa z=>z,λa z=>(P6 a z).2.2.2,λi u hi e=>?_,λi u hi e=>?_,λi j r hi O e3 e4=>?_,λa z=>z⟩
      .obtain⟨j,xs,k,r,_,g0,gm,m,x,y,J,g5,g6,zs,g7,g8⟩:=T i hi;have⟨k',e⟩:=gi e;rw[g0]at e;cases e;show⟨r,J,⟨i,hi,J⟩,zs,g7,(ar.Ig gm g8).cg ab⟩
      .have⟨k',e⟩:=gi e;have⟨v,b1,l⟩:=t.TQ e;show⟨v,b1,?_⟩;have IT:i<rs.length:=(d4.mp e).1;have Vq:=(h3 i IT).resolve_left hi;rw[R',e]at Vq;show Rep.cg ab (u:=u) ?_;cases k' with
       |own =>
        obtain⟨r,rfl,_,Y,d2,N⟩:=l;obtain⟨o,ho,_⟩:=N.some;show N.rep sP ⟨⟨o,ho⟩,λz=>d2 (P6 r z).1⟩
       |loc=>show Rep.mv (.up sP) l
       |any=>show Rep.mv (.up λa z=>z.elim (λz=>⟨t.ok.DH a (.inl z),λz'=>(P6 a z').2.2.1 z⟩) (sP a)) l
       |bor j =>
        obtain⟨r,rfl,Y,d2,_,N⟩:=t.ok.rootOf l.1 l.2;obtain⟨o,ho,_⟩:=N.some;show N.rep sP ⟨⟨o,ho⟩,λ⟨p',N7,e'⟩=>?_⟩;obtain⟨j',xs,k2,r2,g,_,_,m,x,y,J,_⟩:=T p' N7;rw[e']at J;cases J;have⟨k3,z1,z2⟩:=l.1;have:=t.ok.inj j j' k3 k2 _ _ r z1 m z2 x l.2 y;subst this;have:a5 j∉is.map (k8 rs):=by simpa[Co] using Vq
        show this (kl.mpr ⟨p',N7,g⟩)
       |_=>show l.elim
      .obtain⟨j1,_,k1,r1,a0,_,_,a1,a2,a3,a4,_⟩:=T i hi;obtain⟨j2,_,k2,r2,b0,_,_,b1,l,b3,b4,_⟩:=T j O;rw[e3]at a4;cases a4;rw[e4]at b4;cases b4;have:=t.ok.inj j1 j2 k1 k2 _ _ r a1 b1 a2 l a3 b3;subst this;show map_inj h2 i hi j O (by rw[a0,b0])
     have Jx:TN X.prog X.w X.K F np is vs c.H (λv H'=>Q v H') E0:=⟨by rw[<-t.len,<-k2,df],rs.map (·.2),kd,u,ws,Pr,IO,e2,k1,ac,λv H' S' B=>by
      classical
      let H1:Hp:=λa=>if IO a then c.H a else H' a
      have MO:∀a,¬IO a->H1 a=H' a:=λa z=>ĺ z;have N6:∀a,S' a->¬IO a:=λa z z'=>by
       have⟨o,ho⟩:=(P6 a z').2.2.2;rw[(B.new a z).1]at ho;cases ho
      have L4:pF c.H H1:=λa o e=>by
       by_cases z:IO a
       .change(if IO a then _ else _)=_;rw[Ĺ z];show e
       .rw[MO a z];show B.same a o e z
      have⟨HV,n1⟩:=t.ok.grow (H':=H1) (S':=λa=>c.S a\/S' a) L4 (λa z=>z.imp id λz=>⟨(B.new a z).1,by rw[MO a (N6 a z)];show(B.new a z).2⟩) λa=>.inl;have P7:∀(n i:Nat) (r:hH),is[n]?=a5 i->vs[i]?=a5 (.ref r)->∃w,ws[n]?=a5 w/\cO (J2 X.prog X.w X.K c.H Pr IO) S' H' r w:=λn i r a b=>by
       have hn:n<ws.length:=by rw[B.len];show(d4.mp a).1
       show⟨_,H4 hn,B.Ja n i r _ a b (H4 hn)⟩
      have⟨cf,f1,f2,f3,f4,f5,f6,f7,f8⟩:=tV (C:=C) LW (rs:=rs) (vs:=vs) (H':=H') (S':=S') (S1:=λa=>c.S a\/S' a) (λa=>.inr) (IO:=IO) N6 (λa o ⟨i,hi,z⟩ e=>by
        have⟨n,hn⟩:=List.getElem?_of_mem hi;obtain⟨w,_,g⟩:=P7 n i a hn z;have⟨o',m,x⟩:=g.some;rw[e]at m;cases m;show x) is ws {c with H:=H1,S:=λa=>c.S a\/S' a} st' HV n1.toNs rfl TX h2 (λp L a z=>⟨p,L,z⟩) (λp L j O=>by
        obtain⟨j',xs,k,r,g0,_,_,m,x,y,J,_⟩:=T p L;rw[O]at g0;cases g0;show⟨k,_,r,m,x,y,J⟩) (λn i r w a b d=>B.Ja n i r w a b d) (λa ha=>MO a λ⟨p,L,z⟩=>ha p L z) MO
      subst f6;have XW:∀a,cf.R a->c.R a:=λa z=>by
       rcases z with⟨j,k,u,m,x,y⟩|⟨j,u,r,m,x,y⟩
       .have⟨u0,g⟩:=f8 j k u x;rw[f3]at y;show .inl ⟨j,k,u0,m,g,y⟩
       .have⟨u0,g⟩:=f8 j .A' u m;rw[f3]at x;rw[f7]at y;show .inr ⟨j,u0,r,g,x,y⟩
      show q cf v (f3.trans t.hσ) f5 f1 ⟨t.nx.toNs.trans f2⟩ ?_;rcases k1 with rfl|rfl
      .have⟨r,rfl,Y,d2,N⟩:=B.own rfl;obtain⟨_,z1,_,_,z4⟩:=t.ok.gO Y;show⟨r,rfl,t.nx.none Y,by rw[f4];show λz=>z.elim z1 d2,λz=>z4 (XW r z),(N.cg LW).mv (.up λa z=>by rw[f4];show .inr z) λo q=>q⟩
      .show((B.loc rfl).cg LW).mv (.up λa z=>by rw[f4];show .inr z)⟩
     have z:=kD (Q:=Q) G hr B .nil Ci I1 rv (by rw[ve];show Jx);rw[t.hσ]at z;show z
    .cases D
   .cases D
  .cases D
 .cases D
end
structure KW(K:PySem.W.Frag)(cl:hH):Prop where
 hc:Lv K cl
 cls:Mr K cl
 nr:fJ K cl "rows"
 ne:fJ K cl "earlier"
theorem qa:∀{us:List U},cE us=bD↔∀u∈us,Ig u=bD
 |[]=>by simp[cE]
 |u::us=>by rw[cE,b8,qa];simp
section
variable{X:Cx}{C:Ct}{pins:List (hH×Obj)}{s:hW}{c0 c c1:Cf}{i:Nat}{x:Str}{px apos p1 p2 pos HL:Pos}{u:U}{us:List U}
def Ok.j3(d:Ok C c)(hs:c.st[i]?=a5 (a5 (.A',.ob u us))):∃r cl b v a vs,c.σ[i]?=a5 (a5 (.ref r))/\c.kid i=[a]/\Nc C c.S c.H r a u us cl b v vs:=by
 have⟨h,e,r,rfl⟩:=d.sl i _ _ hs;have⟨cl,b,v,a,vs,f,g⟩:=d.dd.kd i _ r hs e;show⟨r,cl,b,v,a,vs,e,f,g⟩
def Lv.one{K:PySem.W.Frag}(h:Lv K cl)(h':Lv K a):cl=a:=by
 rw[Lv,show PySem.W.nsIn K oT "Shelf"=_ from h']at h;cases h;rfl
def dG{st:au}(h:W (J1 i) st Q):∃u us,st[i]?=a5 (a5 (.A',.ob u us))/\Q (u,us) st:=by
 have⟨p,st',e,h⟩:=h;unfold J1 at e;split at e
 .rename_i u us hs;cases e;show⟨u,us,hs,h⟩
 .cases e
def qb{st:au}(h:W (MH i f) st Q):∃u us w ws,st[i]?=a5 (a5 (.A',.ob u us))/\f u us=a5 (w,ws)/\Ig w=bD/\cE ws=bD/\Q () (st.set i (a5 (.A',.ob w ws))):=by
 have⟨p,st',e,h⟩:=h;unfold MH at e;split at e
 .rename_i u us hs;split at e
  .rename_i w ws a;split at e
   .rename_i z;cases e;show⟨u,us,w,ws,hs,a,z.1,z.2,h⟩
   .cases e
  .cases e
 .cases e
def yi(K:KW X.K cl)(d:C.K=X.K)(e:X.N[i]?=a5 x)(f:Jg X.env.scope x)(g:(x==("__debug__":Str))=cb)(j:(x==("__classdict__":Str))=cb):
  PE X (.Attribute (.Name x px) "rows" pos) (HW C (J1 i >>= λp=>pure (.loc,p.1))):=by
 show PE.weak (qS (aX e f g j) rfl) ?_;rintro σ H Q ⟨c0,rfl,rfl,b,h⟩;rw[ah]at h;have⟨u,us,hs,h⟩:=dG h;obtain⟨r,m,k,v,a,vs,l,_,o⟩:=b.j3 hs;cases(K.hc).one (d▸o.hc);rw[ao]at h;show⟨_,l,r,cl,k,_,v,rfl,o.ins,K.cls,K.nr,rfl,h c0 v rfl rfl b (Nx.refl c0) o.rep⟩
def oA(a:X.N[i]?=a5 x)(b:Jg X.env.scope x)(d:(x==("__debug__":Str))=cb)(e:(x==("__classdict__":Str))=cb):PE X (.Attribute (.Name x px) "earlier" pos) (C_ X.K (CO i) "earlier"):=qS (aX a b d e) rfl
def Nc.Q6{S:hH->Prop}(K:KW X.K cl)(b:C.K=X.K)(o:Nc C S H r a u us f d v vs)(e:σ[i]?=a5 (a5 (V.ref r)))(q:Q (.ref a) H):C_ X.K (CO i) "earlier" σ H Q:=by
 cases(K.hc).one (b▸o.hc);show⟨_,e,r,cl,d,_,_,rfl,o.ins,K.cls,K.ne,rfl,q⟩
def yj(K:KW X.K cl)(d:C.K=X.K)(e:X.N[i]?=a5 x)(f:Jg X.env.scope x)(g:(x==("__debug__":Str))=cb)(j:(x==("__classdict__":Str))=cb)(k:Gl X "len")(l:X.mg "len"=b6):
  PE X (.Call (.Name "len" p1) [.Attribute (.Name x px) "earlier" pos] [] HL) (HW C (J1 i >>= λp=>pure (.loc,.int (p.2.length:Nat)))):=by
 show PE.weak (wM eV k l PySem.boot_len (cP (oA e f g j) dB)) ?_;rintro σ H Q ⟨c0,rfl,rfl,b,h⟩;rw[ah]at h;have⟨u,us,hs,h⟩:=dG h;obtain⟨r,n,q,v,a,vs,m,_,o⟩:=b.j3 hs;rw[ao]at h;show o.Q6 K d m ⟨a,vs,rfl,.inl (IF.of o.lst),?_⟩;rw[<-o.JA.len];show h c0 _ rfl rfl b (Nx.refl c0) rfl
def yk(K:KW X.K cl)(d:C.K=X.K)(Y:X.A.units+60<L_)(k:X.N[i]?=a5 x)(m:Jg X.env.scope x)(q:(x==("__debug__":Str))=cb)(t:(x==("__classdict__":Str))=cb):
  PT X (.Compare (.Attribute (.Name x px) "earlier" p1) [.Eq] [.List [] p2] pos) (Jz C (J1 i >>= λp=>if I0 50 (.lst p.2)=bD then pure p.2.isEmpty else M.fail)):=by
 rintro pins s σ H Q I ⟨c0,rfl,rfl,b,h⟩;rw[ah]at h;have⟨u,us,hs,h⟩:=dG h;obtain⟨r,Lg,dx,v,a,vs,w,_,o⟩:=b.j3 hs
 dsimp only at h
 split at h
 rotate_left
 .show(ba.mp h).elim
 rename_i B;rw[ao]at h;show Ul (bin (R:=λx y j=>x=.ref a/\∃l,y=.ref l/\c0.H l=b6/\j=upd c0.H l (.lst [])) (oA k m q t) (wI dB) I (o.Q6 K d w ⟨mN _,λl hl=>⟨rfl,l,rfl,hl,rfl⟩⟩) λv' u' s2 x y j f D G ⟨e2,l,J,hl,L⟩=>?_) rfl;subst e2 J L;have⟨O,g⟩:=b.lay (o:=.lst []) hl;have T:a≠l:=λz=>by have:=o.lst;rw[z,hl]at this;cases this
 have r1:Rep C (λy=>c0.S y\/y=a\/y=l) (upd c0.H l (.lst [])) (.lst us) (.ref a):=⟨a,vs,rfl,.inl ⟨.inr (.inl rfl),.inl (by rw[ak T];show o.lst)⟩,o.JA.mv ⟨λy z=>.inl z,(b.mv g.toNs).OF,(b.mv g.toNs).QR⟩⟩
 have r2:Rep C (λy=>c0.S y\/y=a\/y=l) (upd c0.H l (.lst [])) (.lst []) (.ref l):=⟨l,[],rfl,.inl ⟨.inr (.inr rfl),.inl aq⟩,rfl⟩
 have z:=(DT (A:=X.A) (n:=50) (.of f d _ _ _ _ B r1 D) (.of f d _ _ _ _ (by simp[I0,cS]) r2 G) ⋯).1;show z _ _ _ _ (JS ⟨_,f,?_⟩);have e:cq (.lst us) (.lst [])=us.isEmpty:=by cases us<;>rfl
 rw[e];show h {c0 with H:=upd c0.H l (.lst [])} rfl rfl O g
def Ok.yl(y:Ok C c)(n:Ns c0 c)(hs:c.st[i]?=a5 (a5 (.A',.ob u us)))(f:c.σ[i]?=a5 (a5 (.ref r)))(hk:c.kid i=[a])(o:Nc C c.S c.H r a u us cl g v vs)
 (h:∀b,b≠r->b≠a->H' b=c.H b) (k:H' r=a5 (.ins cl g (MA v' a))) (l:H' a=a5 (.lst vs')) (A:Ig w=bD) (B:cE ws=bD) (D:Rep C c.S c.H w v') (rws:ar C c.S c.H ws vs') :
    ∃d:Cf,d.H=H'/\d.σ=c.σ/\d.S=c.S/\d.st=c.st.set i (a5 (.A',.ob w ws))/\Ok C d/\Ns c0 d:=by
  have⟨G,I⟩:=y.Bc (H':=H') (u':=.ob w ws) (as':=[a]) n hs f (λb z=>h b (λq=>z ⟨_,_,hs,f,.inl q⟩) λq=>z ⟨_,_,hs,f,.inr (by rw[hk,q];simp)⟩) (λb o' e=>by
      by_cases m:b=r
      . subst m;show⟨_,k⟩
      . by_cases p:b=a
        . subst p;show⟨_,l⟩
        . show⟨o',by rw[h b m p];show e⟩)
    (λt=>⟨cl,g,v',a,vs',rfl,o.hc,k,o.ne,o.fr,A,D.mv t,l,B,rws.mv t⟩) (λb J=>.inl (by rw[hk];show J))
  show⟨{c with H:=H',st:=c.st.set i (a5 (.A',.ob w ws)),kid:=λj=>if j=i then [a] else c.kid j},rfl,rfl,rfl,rfl,G,I⟩
def ym(K:KW X.K cl)(j:C.K=X.K)(k:X.N[i]?=a5 x)(l:Jg X.env.scope x)(m:(x==("__debug__":Str))=cb)(n:(x==("__classdict__":Str))=cb)(p:(apos.endLine==HL.line)=bD):
  PE X (.Call (.Attribute (.Attribute (.Name x px) "earlier" p1) "pop" apos) [] [] HL) (HW C (jY i)):=by
 show PE.weak (wQ PySem.F.plainAttrs_list PySem.F.slot_list_pop PySem.F.type_list_pop wU (oA k l m n) rfl p) ?_;rintro σ H Q ⟨c0,rfl,rfl,d,r',st',e,h⟩;unfold jY at e;split at e
 .rename_i u us hs;split at e
  .rename_i w q;cases e;have⟨r,Lg,dx,v,a,vs,f,hk,o⟩:=d.j3 hs;have⟨y,t,z⟩:=o.JA.get q;have hl:=o.JA.len;show o.Q6 K j f ⟨.inl ⟨rfl,vs,IF.of o.lst⟩,a,vs,y,rfl,rfl,o.lst,by rw[<-hl];show t,?_⟩;have A:ar C c0.S c0.H us.dropLast vs.dropLast:=by
    rw[Rr,Rr,hl];show o.JA.take _
   have B:cE us.dropLast=bD:=by
    have:=o.NT;rw[qa]at this ⊢;show λx D=>this x (List.dropLast_subset _ D)
   have⟨G,I,J,h3,L,O,g⟩:=d.yl (Ns.refl c0) hs f hk o (H':=upd c0.H a (.lst vs.dropLast)) (λb z1 T=>ak T) (by rw[ak o.ne];show o.ins) aq o.im B o.rep A;have Y:=d.mv g;rw[<-I];show h G y J L O ⟨g⟩ (z.mv Y)
  .cases e
 .cases e
end
section
def Ok.HD(f:Ok C c)(n:Ns c0 c)(hi:i<c.σ.length)(Y:bf C c.S c.H r as u)(A:∀b∈r::as,¬c.R b/\c0.H b=b6):
  Ok C {c with σ:=c.σ.set i (a5 (.ref r)),st:=c.st.set i (a5 (.A',u)),kid:=λj=>if j=i then as else c.kid j}/\Ns c0 {c with σ:=c.σ.set i (a5 (.ref r)),st:=c.st.set i (a5 (.A',u)),kid:=λj=>if j=i then as else c.kid j}:=by
 have D:i<c.st.length:=by rw[f.len];show hi
 have B:∀(j:Nat) k w,(c.st.set i (a5 (.A',u)))[j]?=a5 (a5 (k,w))->j≠i->c.st[j]?=a5 (a5 (k,w)):=λj k w e G=>by rw[i7 (tv G)]at e;show e
 have p:∀(j:Nat),j≠i->(c.σ.set i (a5 (.ref r)))[j]?=c.σ[j]?:=λj G=>i7 (tv G);have I:∀(j:Nat) k w,k.root=bD->(c.st.set i (a5 (.A',u)))[j]?=a5 (a5 (k,w))->j≠i/\c.st[j]?=a5 (a5 (k,w)):=λj k w hk e=>by
  by_cases d:j=i
  .subst d;rw[d6 D]at e;cases e;cases hk
  .show⟨d,B j k w e d⟩
 have b1:∀a,({c with σ:=c.σ.set i (a5 (.ref r)),st:=c.st.set i (a5 (.A',u)),kid:=λj=>if j=i then as else c.kid j}:Cf).R1 a->c.R1 a:=λa J=>by
  have⟨j,k,w,hk,g,e2⟩:=J;have⟨d,I_⟩:=I j k w hk g;show⟨j,k,w,hk,I_,by rw[<-p j d];show e2⟩
 have q:∀j a,({c with σ:=c.σ.set i (a5 (.ref r)),st:=c.st.set i (a5 (.A',u)),kid:=λj=>if j=i then as else c.kid j}:Cf).RD j a->(j≠i/\c.RD j a)\/(j=i/\a∈r::as):=λj a J=>by
  have⟨w,h,g,e2,e3⟩:=J;by_cases d:j=i
  .subst d;have s:(c.σ.set j (a5 (.ref r)))[j]?=a5 (a5 (.ref h)):=e2;rw[d6 hi]at s;cases s;rcases e3 with rfl|e3
   .show .inr ⟨rfl,by simp⟩
   .show .inr ⟨rfl,ki _ (by simpa using e3)⟩
  .have Ml:a=h\/a∈c.kid j:=by simpa[d] using e3
   show .inl ⟨d,w,h,B j _ w g d,by rw[<-p j d];show e2,Ml⟩
 show⟨⟨f.same,f.JY,f.par,f.io,by simp[f.len],λj k w e=>?_,λo l k1 k2 N O h Q T g e2 e3 e4=>?_,⟨λj w h g e2=>?_,λo l a L t=>?_,λj a L t=>?_⟩⟩,⟨n.keep,n.there,λa z=>?_,n.sub,n.new⟩⟩
 .by_cases d:j=i
  .subst d;rw[d6 D]at e;cases e;show⟨.ref r,d6 hi,r,rfl⟩
  .have⟨v,g,e2⟩:=f.sl j k w (B j k w e d);show⟨v,(p j d).trans g,e2⟩
 .have⟨Mj,a1⟩:=I o k1 N Q g;have⟨LZ,a2⟩:=I l k2 O T e2;show f.inj o l k1 k2 N O h Q T a1 a2 ((p o Mj).symm.trans e3) ((p l LZ).symm.trans e4)
 .by_cases d:j=i
  .subst d;rw[d6 D]at g;cases g;have s:(c.σ.set j (a5 (.ref r)))[j]?=a5 (a5 (.ref h)):=e2;rw[d6 hi]at s;cases s;change bf C c.S c.H r (if j=j then as else c.kid j) u;rw[Ĺ rfl];show Y
  .have z:=f.dd.kd j w h (B j _ w g d) ((p j d).symm.trans e2);change bf C c.S c.H h (if j=i then as else c.kid j) w;rw[ĺ d];show z
 .rcases q o a L with⟨_,m⟩|⟨rfl,m⟩
  .rcases q l a t with⟨_,x⟩|⟨rfl,x⟩
   .show f.dd.dj o l a m x
   .show((A a x).1 (.inr ⟨o,m⟩)).elim
  .rcases q l a t with⟨_,x⟩|⟨rfl,_⟩
   .show((A a m).1 (.inr ⟨l,x⟩)).elim
   .rfl
 .rcases q j a L with⟨_,m⟩|⟨rfl,m⟩
  .show f.dd.d1 j a m (b1 a t)
  .show(A a m).1 (.inl (b1 a t))
 .rcases z with z|⟨j,z⟩
  .show n.roots a (.inl (b1 a z))
  .rcases q j a z with⟨_,y⟩|⟨_,y⟩
   .show n.roots a (.inr ⟨j,y⟩)
   .show .inr (A a y).2
def Ef(K:KW X.K cl)(y:C.K=X.K)(A:X.N[i]?=a5 x)(B:Jg X.env.scope x)(G:(x==("__debug__":Str))=cb)(I:(x==("__classdict__":Str))=cb)(J:PE X e (HW C m))(hs:PV e (a5 (.Attribute (.Name x px) "rows" L)) pos.line X.env=pure cb):
  L2.PS X (.Assign [.Attribute (.Name x px) "rows" L] e pos) (IQ C ns (m >>= λr=>lift r >>= λu=>MH i (λ_ us=>a5 (u,us)) >>= λ_=>pure .nx)):=by
 show PS.weak (qT (aX A B G I) J hs) ?_;rintro D σ H ⟨c0,rfl,rfl,j,h⟩;show aD j h λr c v t w=>?_;rw[ah]at w;obtain⟨S',st',u,sS,k,O,d,l,_,_⟩:=gA j t.ok t.nx t.rx.w w;rw[ah]at l;have⟨u0,us,w',ws,hs,Q,T,i2,q⟩:=qb l;cases Q;rw[ao]at q;have⟨g,Lg,n,Y,a,vs,p,hk,o⟩:=k.j3 hs;cases(K.hc).one (y▸o.hc);have I_:c0.σ[i]?=a5 (a5 (.ref g)):=by rw[<-t.hσ];show p
 show⟨_,I_,g,cl,n,_,rfl,o.ins,K.cls,K.nr,by change 2<1000;lia,?_⟩;have⟨f,h1,s,h3,h4,H_,n'⟩:=k.yl (c0:=c0) O.toNs hs p hk o (H':=upd c.H g (.ins cl n (d8 "rows" v (MA Y a)))) (v':=v) (vs':=vs) (λb z1 z2=>ak z1) (by rw[aq];rfl) (by rw[ak (tv o.ne)];show o.lst) T o.NT d o.JA;have z:=q f h4 H_ n' (Kept.of (s.trans t.hσ));rw[show Fin C D .nx f=D.nx f.σ f.H from rfl,h1,s]at z;rw[<-t.hσ];show z
def Eg(K:KW X.K cl)(g:C.K=X.K)(j:X.N[i]?=a5 x)(k:Jg X.env.scope x)(l:(x==("__debug__":Str))=cb)(m:(x==("__classdict__":Str))=cb)(t:(apos.endLine==y.line)=bD):
  L2.PS X (.Expr (.Call (.Attribute (.Attribute (.Name x px) "earlier" Q) "append" apos) [.Attribute (.Name x p2) "rows" T] [] y) pos) (IQ C ns (MH i AD >>= λ_=>pure .nx)):=by
 show PS.weak (iy (pD PySem.F.plainAttrs_list PySem.F.slot_list_append PySem.F.type_list_append ji (oA j k l m) (cP (qS (f:="rows") (aX j k l m) rfl) dB) rfl rfl t rfl rfl)) ?_;rintro D σ H ⟨c0,rfl,rfl,n,h⟩;rw[ah]at h;have⟨u,us,w,ws,hs,c,Y,A,q⟩:=qb h;unfold AD at c;split at c
 rotate_left
 .cases c
 rename_i p;cases c;rw[ao]at q;have⟨r,Lg,B,v,a,vs,e,hk,o⟩:=n.j3 hs;have hl:=o.JA.len;unfold Cb UG;show o.Q6 K g e ⟨.inl ⟨rfl,vs,IF.of o.lst⟩,?_⟩;cases(K.hc).one (g▸o.hc);show⟨_,e,r,cl,B,_,v,rfl,o.ins,K.cls,K.nr,rfl,a,vs,v,rfl,rfl,o.lst,⋯,?_⟩;have⟨d,G,s,h3,I,J,L⟩:=n.yl (c0:=c0) (Ns.refl c0) hs e hk o (H':=upd c0.H a (.lst (vs++[v]))) (λb z1 O=>ak O) (by rw[ak o.ne];show o.ins) aq o.im A o.rep (o.JA.snoc o.rep);have z:=q d I J L (Kept.of s);rw[show Fin C D .nx d=D.nx d.σ d.H from rfl,G,s]at z;show z
abbrev TZ(cl:hH):Sp:=λvs H Q _=>∃x a,vs=[.ref x]/\H x=a5 (.ins cl a [])/\∀t l,H t=b6->H l=b6->t≠l->Q .HX (upd (upd (upd H t (.tup [])) l (.lst [])) x (.ins cl a (MA (.ref t) l)))
end
abbrev T1:List NB->Bool
 |[.Assign [.Attribute (.Name a _) b _] (.Tuple [] _ _) _,.Assign [.Attribute (.Name c _) d _] (.List [] _) _]=>cK (a="self")&&cK (b="rows")&&cK (c="self")&&cK (d="earlier")
 |_=>cb
def Bo{K:PySem.W.Frag}{st:NB}(F:Mw K "__init__" u st f C)(S:dq ["self"] ["self"] (aC st))(j:T1 (cp st)=bD)(v:Jg (aC st) "self")(E:KW K cl):
  dR P w K mg base M3 (k+1) f C ["self"] (TZ cl):=by
 show F.ok S (λvs H Q E h=>by obtain⟨x,g,rfl,_⟩:=h;rfl) λI A outer s H vs Q J L h=>?_;unfold T1 at j;split at j
 rotate_left
 .cases j
 rename_i a N b O _ _ _ c T d Y _ _ D;simp only[b8,ĸ]at j;obtain⟨⟨⟨rfl,rfl⟩,rfl⟩,rfl⟩:=j;rw[D];have⟨x,g,rfl,m,q⟩:=h;show⟨_,ix (qT (aX (i:=0) rfl v) (Dd dB) rfl) (ix (qT (aX (i:=0) rfl v) (wI dB) rfl) nE),?_⟩;show⟨mN _,λt o=>⟨_,rfl,x,cl,g,[],rfl,?_,E.cls,E.nr,by decide,?_⟩⟩
 .rw[ak (λz=>by rw[z,o]at m;cases m)];show m
 .have G:x≠t:=λz=>by rw[z,o]at m;cases m
  show⟨mN _,λl hl=>⟨_,rfl,x,cl,g,d8 "rows" (.ref t) [],rfl,?_,E.cls,E.ne,by change 1<1000;decide,?_⟩⟩
  .have p:x≠l:=λz=>by rw[<-z,aq]at hl;cases hl
   rw[ak p,aq]
  .have p:x≠l:=λz=>by rw[<-z,aq]at hl;cases hl
   have B:t≠l:=λz=>by rw[<-z,ak (tv G),aq]at hl;cases hl
   have z:=q t l o (by rw[ak (tv p),ak (tv B)]at hl;show hl) B;have e:upd (upd (upd (upd H t (.tup [])) x (.ins cl g (d8 "rows" (.ref t) []))) l (.lst [])) x (.ins cl g (d8 "earlier" (.ref l) (d8 "rows" (.ref t) [])))=upd (upd (upd H t (.tup [])) l (.lst [])) x (.ins cl g (MA (.ref t) l)):=by
    funext y
    by_cases n:y=x
    .subst n;rw[aq,aq];rfl
    .rw[ak n,ak n];by_cases r:y=l
     .subst r;rw[aq,aq]
     .rw[ak r,ak r,ak n]
   change Q .HX _;rw[e];show z
def tW(h:p<=l.length):(fS p o l)[p]?=a5 o:=by
 unfold fS;rw[nH (by rw[tj];lia),tj,RV h,Nat.sub_self];rfl
def Bp(h:p<=l.length)(hl:l.length=l'.length)(hi:i≠p):∃j:Nat,(fS p o l)[i]?=l[j]?/\(fS p o' l')[i]?=l'[j]?:=by
 unfold fS;by_cases z:i<p
 .show⟨i,?_,?_⟩
  .rw[ro (by rw[tj];lia),PH z]
  .rw[ro (by rw[tj];lia),PH z]
 .obtain⟨m,rfl⟩:∃m,i=p+(m+1):=⟨i - p - 1,⋯⟩
  show⟨p+m,?_,?_⟩
  .rw[nH (by rw[tj];lia),tj,RV h,Qn,N1,J3]
  .rw[nH (by rw[tj];lia),tj,RV ⋯,Qn,N1,J3]
def iX(h:p<=l.length):(fS p o l).length=l.length+1:=by
 unfold fS;simp;lia
structure Eh(C:Ct)(H:Hp)(p:Nat)(r a:hH)(us:List U)(vs:List V):Prop where
 len:us.length=vs.length
 par:∀x,C.JG x->JH H x/\¬C.IO x
 Vo:∀x,C.IO x↔x=r\/x=a
 at_:vs[p]?=a5 (.ref r)
 ob:∃u ws,us[p]?=a5 (.ob u ws)/\bf C (λ_=>False) H r [a] (.ob u ws)
 any:∀(i:Nat) (u:U),i≠p->us[i]?=a5 u->∃v,vs[i]?=a5 v/\Rep C C.JG H u v
structure qc(C:Ct)(H H':Hp)(S':hH->Prop)(r:hH)(o:U)(k:Kd)(u:U)(v:V):Prop where
 same:∀x y,H x=a5 y->¬C.IO x->H' x=a5 y
 there:∀x y,H x=a5 y->∃y',H' x=a5 y'
 new:∀x,S' x->H x=b6/\∃y,H' x=a5 y
 ob:∃a',(C.IO a'\/H a'=b6)/\bf C S' H' r [a'] o/\(k=.own->v≠.ref a')
 own:k=.own->∃q,v=.ref q/\H q=b6/\¬S' q/\cO C S' H' q u
 loc:k=.loc->Rep C S' H' u v
abbrev MQ(P:y0)(w:Jn)(K:PySem.W.Frag)(F:List U->Option (Ex (Kd×U)))(e p:Nat):Sp:=λvs H Q E=>vs.length=e/\∃us k u o b IO r a,F us=a5 (.ok (k,.tup [u,o]))/\Eh (J2 P w K H b IO) H p r a us vs /\
 ((k=.own\/k=.loc)/\(∀v H' S',qc (J2 P w K H b IO) H H' S' r o k u v->Q v H') \/
  k=.io/\∃c,u=.str c/\∀d H' S',PySem.W.nsIn K oT c=a5 (a5 (.ref d))->qc (J2 P w K H b IO) H H' S' r o .io .HX .HX->E (.ref d) b6 H')
section
variable{X:Cx}{C:Ct}{pins:List (hH×Obj)}{s:hW}{c0 c c1:Cf}{i p:Nat}{x:Str}{px apos p1 p2 p3 p4 pos HL:Pos}{u:U}{us:List U}{ns:Nat->Bool}{Q:VK}
def Ok.yn(D:Ok C c)(n:Ns c0 c)(q:d.Eqv C)(hs:c.st[i]?=a5 (a5 (.A',.ob u us)))(m:c.σ[i]?=a5 (a5 (.ref r)))(hk:c.kid i=[a])(o:Nc C c.S c.H r a u us cl dx v0 vs)(JP:∀x,d.IO x↔x=r\/x=a)
 (b:qc d c.H H' S' r (.ob u' h) k w v) :
    ∃g:Cf,g.H=H'/\g.σ=c.σ/\(∀x,g.S x↔c.S x\/S' x)/\g.st=c.st.set i (a5 (.A',.ob u' h))/\Ok C g/\Ns c0 g/\∀x,g.R x->c.R x\/(c.H x=b6/\(k=.own->v≠.ref x)):=by
  classical
  let t:Hp:=λx=>if d.IO x then c.H x else H' x
  have G:∀x,¬d.IO x->t x=H' x:=λx z=>ĺ z;have X0:∀x,d.IO x->t x=c.H x:=λx z=>Ĺ z;have rD:∀x,d.IO x->c.RD i x:=λx z=>⟨_,r,hs,m,((JP x).mp z).imp id λz=>by rw[hk,z];simp⟩
  have Vr:∀x,d.IO x->∃y,c.H x=a5 y:=λx z=>let ⟨_,_,_,y,e,_⟩:=D.root (.inr ⟨i,rD x z⟩);⟨y,e⟩;have N6:∀x,S' x->¬d.IO x:=λx z L=>by
    have⟨y,e⟩:=Vr x L;rw[(b.new x z).1]at e;cases e
  have L4:pF c.H t:=λx y e=>by
    by_cases z:d.IO x
    . rw[X0 x z];show e
    . rw[G x z];show b.same x y e z
  have⟨HV,n1⟩:=D.grow (H':=t) (S':=λx=>c.S x\/S' x) L4 (λx z=>z.imp id λz=>⟨(b.new x z).1,by rw[G x (N6 x z)];show(b.new x z).2⟩) λx=>.inl;have⟨a',Sf,rd,X1⟩:=b.ob;have⟨Lg,X2,v',a2,vs',ea,o'⟩:=rd;cases ea;have X3:d.IO a'->a'=a:=λz=>((JP a').mp z).resolve_left (tv o'.ne);have N:a'=a\/c.H a'=b6:=Sf.imp X3 id;have IH:∀y∈[r,a'],¬(c.S y\/S' y)/\¬C.JG y/\(C.H₀ y=b6\/C.IO y):=λy hy=>by
    have A:=o'.fr y hy;rcases gj.mp hy with rfl|hy
    . have B:=o.fr y (by simp)
      show⟨λz=>z.elim B.1 A.1,B.2⟩
    . rw[nc.mp hy]at A ⊢
      rcases N with z|z
      . have B:=o.fr a (by simp)
        rw[z]at A ⊢;show⟨λz=>z.elim B.1 A.1,B.2⟩
      . obtain⟨z1,z2,z3,_,_⟩:=D.gO z
        show⟨λz=>z.elim z2 A.1,z3,.inl z1⟩
  have⟨Iu,n2⟩:=Ok.Bc (c:={c with H:=t,S:=λx=>c.S x\/S' x}) (H':=H') (u':=.ob u' h) (as':=[a']) HV (n.trans n1.toNs) hs m
    (λx z=>(G x λL=>z (rD x L)).symm) (λx y e=>by
      by_cases z:d.IO x
      . have⟨y',e'⟩:=Vr x z
        show b.there x y' e'
      . show⟨y,by rw[<-G x z];show e⟩)
    (λmv=>⟨Lg,X2,v',a',vs',rfl,by rw[Lv,<-q.K];show o'.hc,o'.ins,o'.ne,IH,o'.im,(o'.rep.cg q).mv (.up λx=>.inr),o'.lst,o'.NT,(o'.JA.cg q).mv (.up λx=>.inr)⟩)
    (λy hy=>by
      rw[nc.mp hy];rcases N with z|z
      . show .inl (by change a'∈c.kid i;rw[hk,z];simp)
      . obtain⟨_,_,_,_,z4⟩:=D.gO z
        show .inr ⟨z4,n.none z⟩)
  show⟨{c with H:=H',S:=λx=>c.S x\/S' x,st:=c.st.set i (a5 (.A',.ob u' h)),kid:=λj=>if j=i then [a'] else c.kid j},rfl,rfl,λx=>Zv,rfl,Iu,n2,λy hy=>?_⟩;have IT:i<c.st.length:=(d4.mp hs).1;rcases hy with⟨j,k',O,IY,I,J⟩|⟨j,O,T,I,J,g3⟩
  . show .inl (.inl ⟨j,k',O,IY,?_,J⟩)
    by_cases l:j=i
    . subst l
      have f:(c.st.set j (a5 (.A',.ob u' h)))[j]?=_:=I;rw[d6 IT]at f;cases f;cases IY
    . have f:(c.st.set i (a5 (.A',.ob u' h)))[j]?=_:=I
      rw[i7 (tv l)]at f;show f
  . by_cases l:j=i
    . subst l
      have Vs:c.σ[j]?=a5 (a5 (.ref T)):=J;rw[m]at Vs;cases Vs;rcases g3 with rfl|g3
      . show .inl (.inr ⟨j,_,_,hs,m,.inl rfl⟩)
      . have Y:y=a':=by simpa using g3
        subst Y;rcases N with z|z
        . show .inl (.inr ⟨j,_,_,hs,m,.inr (by rw[hk,z];simp)⟩)
        . show .inr ⟨z,X1⟩
    . have f:(c.st.set i (a5 (.A',.ob u' h)))[j]?=_:=I
      rw[i7 (tv l)]at f;have Y:y=T\/y∈c.kid j:=by simpa[l] using g3
      show .inl (.inr ⟨j,O,T,f,J,Y⟩)
def JI.Gf(t:JI C c0 c rs vs)(I:C.P=X.prog)(J:C.w=X.w)(B:C.K=X.K)(hs:c.st[i]?=a5 (a5 (.A',.ob u us)))(L:c.σ[i]?=a5 (a5 (.ref r)))(hk:c.kid i=[a])(o:Nc C c.S c.H r a u us cl N O T)(n:p<=rs.length):
  Eh (J2 X.prog X.w X.K c.H (λx=>JH c.H x/\¬(x=r\/x=a)) λx=>x=r\/x=a) c.H p r a (fS p (.ob u us) (rs.map (·.2))) (fS p (.ref r) vs):=by
 have d:C.Eqv (J2 X.prog X.w X.K c.H (λx=>JH c.H x/\¬(x=r\/x=a)) λx=>x=r\/x=a):=⟨I,J,B⟩
 have hl:=t.len;have D:(rs.map (·.2)).length=vs.length:=by rw[df];show hl
 have h:∀x,(x=r\/x=a)->c.RD i x:=λx z=>⟨_,r,hs,L,z.imp id λz=>by rw[hk,z];simp⟩
 have k:∀x,c.S x->JH c.H x/\¬(x=r\/x=a):=λx z=>⟨t.ok.vi x z,λA=>(t.ok.root (.inr ⟨i,h x A⟩)).1 z⟩
 show⟨by rw[iX (by rw[df];show n),iX ⋯,D],λx z=>z,λx=>Zv,tW ⋯,⟨u,us,tW (by rw[df];show n),cl,N,O,a,T,rfl,by rw[Lv,show(J2 X.prog X.w X.K c.H (λx=>JH c.H x/\¬(x=r\/x=a)) λx=>x=r\/x=a).K=C.K from B.symm];show o.hc,o.ins,o.ne,λy f=>⟨λz=>z,λz=>z.2 (by simpa using f),.inr (by simpa using f)⟩,o.im,(o.rep.Ig o.im).cg d,o.lst,o.NT,(o.JA.Ig o.NT).cg d⟩,λm w Y e=>?_⟩;have⟨j,g1,g2⟩:=Bp (p:=p) (i:=m) (o:=U.ob u us) (o':=V.ref r) (l:=rs.map (·.2)) (l':=vs) (by rw[df];show n) D Y;rw[g1,k9,ez]at e;obtain⟨⟨k',w'⟩,e,rfl⟩:=e;have⟨v,b1,b⟩:=t.TQ e;show⟨v,g2.trans b1,Rep.cg d (u:=w') ?_⟩;cases k' with
 |own =>
  obtain⟨q,rfl,_,d1,G,g⟩:=b;obtain⟨y,f,_⟩:=g.some;show g.rep k ⟨⟨y,f⟩,λz=>G (.inr ⟨i,h q z⟩)⟩
 |loc=>show Rep.mv (.up k) b
 |any=>show Rep.mv (.up λy z=>z.elim (λz=>⟨t.ok.DH y (.inl z),λA=>(t.ok.root (.inr ⟨i,h y A⟩)).2.1 z⟩) (k y)) b
 |bor j' =>
  obtain⟨q,rfl,d1,G,_,g⟩:=t.ok.rootOf b.1 b.2;obtain⟨y,f,_⟩:=g.some;have⟨k3,z1,z2⟩:=b.1;show g.rep k ⟨⟨y,f⟩,λz=>t.ok.dd.d1 i q (h q z) ⟨j',k3,_,z1,z2,b.2⟩⟩
 |_=>show b.elim
def JI.yo(t:JI C c0 c rs vs)(B:C.P=X.prog)(D:C.w=X.w)(G:C.K=X.K){E:XK}(L:Γ f=F)(N:∀us r,F us=a5 (.ok r)->us.length=O)(w:W (fT Γ f p i rs) c.st (cu C c0 Q)):
  ∃r u us cl g a h j,c.st[i]?=a5 (a5 (.A',.ob u us))/\c.σ[i]?=a5 (a5 (.ref r))/\Nc C c.S c.H r a u us cl g h j/\MQ X.prog X.w X.K F O p (fS p (.ref r) vs) c.H Q E:=by
 have⟨r',st',e,q⟩:=w;unfold fT at e;split at e
 .rename_i u us hs;rw[L]at e;split at e
  .rename_i k w u' T I;split at e
   .rename_i hz;cases e;have⟨r,cl,g,h,a,j,l,hk,o⟩:=t.ok.j3 hs;have hl:=t.len;show⟨r,u,us,cl,g,a,h,j,hs,l,o,?_,_,k,w,.ob u' T,_,_,r,a,I,t.Gf B D G hs l hk o hz.2,.inl ⟨hz.1,λv H' S' b=>?_⟩⟩
    .have z:=N _ _ I;rw[iX (by rw[df];show hz.2),df]at z;rw[iX (by rw[<-hl];show hz.2),<-hl];show z
    .have m:(J2 X.prog X.w X.K c.H (λx=>JH c.H x/\¬(x=r\/x=a)) λx=>x=r\/x=a).Eqv C:=⟨B.symm,D.symm,G.symm⟩
     have⟨d,n,Y,A,h4,H_,n',hR⟩:=t.ok.yn (c0:=c0) t.nx.toNs m hs l hk o (λx=>Zv) b;rw[<-n];show q d v (Y.trans t.hσ) h4 H_ ⟨n'⟩ ?_;rcases hz.1 with rfl|rfl
     .have⟨y,rfl,J,d2,d3⟩:=b.own rfl;obtain⟨_,z1,_,_,z4⟩:=t.ok.gO J;show⟨y,rfl,t.nx.none J,λz=>((A y).mp z).elim z1 d2,λz=>?_,?_⟩
      .rcases hR y z with z|⟨_,z⟩
       .show z4 z
       .show z rfl rfl
      .rw[n];show(d3.cg m).mv (.up λx z=>(A x).mpr (.inr z)) λ_ q=>q
     .rw[show aH C c0 d .loc w v=Rep C d.S d.H w v from rfl,n];show((b.loc rfl).cg m).mv (.up λx z=>(A x).mpr (.inr z))
   .cases e
  .cases e
 .cases e
end
section
abbrev oB(C:Ct)(p i:Nat)(m:M (List (Kd×U))):TA:=λσ H Q=>∃v,∃c0:Cf,σ[i]?=a5 (a5 v)/\c0.σ=σ/\c0.H=H/\Ok C c0/\W m c0.st λrs st'=>∀c vs,c.σ=σ->c.st=st'->Ok C c->Nx c0 c->cB C c0 c rs vs->Q (fS p v vs) c.H
def Bq(b:X.N[i]?=a5 x)(c:Jg X.env.scope x)(d:(x==("__debug__":Str))=cb)(e:(x==("__classdict__":Str))=cb)(f:PA X es (Jh C ms)):PA X (.Name x px::es) (oB C 0 i ms):=by
 rintro pos a s σ H Q I ⟨v,c0,ev,rfl,rfl,g,h⟩;show cP (aX b c d e) f rfl pos a s c0.σ c0.H Q I ⟨v,ev,c0,rfl,rfl,g,h⟩
def Br(f:PE X e (HW C m))(g:PA X es (oB C p i ms))(hs:js (e::es) X.env=(cb,vr e X.env)::js es X.env):PA X (e::es) (oB C (p+1) i (m >>= λr=>ms >>= λrs=>pure (r::rs))):=by
 rintro pos a s σ H Q I ⟨j,c0,ev,rfl,rfl,k,h⟩;show cP f g hs pos a s c0.σ c0.H Q I (aD k h λr l v t w=>?_);rw[ah]at w;show⟨j,l,ev,t.hσ,rfl,t.ok,w.mono λrs st2 b n vs c o q d r2=>?_⟩;rw[ao]at b;show b n (v::vs) c o q (t.nx.trans d) ⟨v,vs,rfl,t.rx.w.on t.ok d (c.trans t.hσ.symm),r2.from t.nx,λhk i z v' u x y=>?_⟩;show lj t.rx.w (r2.get u x) hk y
def Gg{k:List (Kd×U)->M β}{Post:β->au->Prop}(f:PA X es (oB C p i ms))(ev:c0.σ[i]?=a5 (a5 v))(I:Inv X a c0.σ c0.H s)(g:Ok C c0)(h:W (ms >>= λrs=>aw rs >>= λ_=>k rs) c0.st Post)(pos:Pos):
  g9 (i5 X.prog X.w) X.A (Z6 (Hf pos (js es X.env))) (λus s1=>∃rs c vs,JI C c0 c rs vs/\Inv X a c.σ c.H s1/\Vals (fS p v vs) us/\W (k rs) c.st Post) X.xe s:=by
 rw[ah]at h;show HS (f pos a s c0.σ c0.H (λws e=>∃rs c vs,ws=fS p v vs/\c.H=e/\JI C c0 c rs vs/\W (k rs) c.st Post) I ⟨v,c0,ev,rfl,rfl,g,h.mono λrs st1 b d vs j e2 l m r1=>?_⟩) ?_
 .rw[ah,bY]at b;subst e2;show⟨rs,d,vs,rfl,rfl,⟨j,l,m,r1,b.1⟩,b.2⟩
 .rintro us s1 ⟨ws,e,n,rv,rs,d,vs,rfl,rfl,t,w⟩;show⟨rs,d,vs,t,by rw[t.hσ];show n,rv,w⟩
def yp(g:C.P=X.prog)(j:C.w=X.w)(l:C.K=X.K)(m:Γ f=F)(n:∀us r,F us=a5 (.ok r)->us.length=o)
  (G:dR X.prog X.w X.K X.mg X.base (K7 X.prog X.w) k fa q ps (MQ X.prog X.w X.K F o p)) (v:cN k X.A) (x:Gl X f) (y:X.mg f=a5 (.ref fa)) (B:PySem.W.keepIn X.K (.ref fa)=bD) (D:Binds X.K q ps [])
  (J:(f==("__debug__":Str))=cb) (L:PA X (e::es) (oB C p i ms)) (N:js (e::es) X.env=(cb,vr e X.env)::js es X.env) (O:(Hf pos (js es X.env)).any (·.1)=cb) :
  PE X (.Call (.Name f Y) (e::es) [] pos) (HW C (J1 i >>= λ_=>ms >>= λrs=>aw rs >>= λ_=>fT Γ f p i rs)):=by
 rintro a s σ H Q I ⟨c0,rfl,rfl,ok,h⟩;rw[ah]at h;have⟨u,us,hs,h⟩:=dG h;obtain⟨r,_,_,_,_,_,ev,_,_⟩:=ok.j3 hs;show DD (dU I x y ?_ J);show PySem.W.callWith_K (h₀:=X.base) I.ok.mod.MT B (HS (Gg L ev I ok h pos) λus s1 ⟨rs,c,vs,t,b,rv,w⟩=>⟨b.JU,?_⟩) N O;obtain⟨r',_,_,_,_,_,_,_,_,d,_,T⟩:=t.yo (E:=E0) g j l m n w;rw[t.hσ,ev]at d;cases d;have z:=kD (Q:=Q) G v D .nil tH b rv (by rw[ve];show T);rw[t.hσ]at z;show z
def tX(b:((Hf pos (js as env)).all (λx=>!x.1)&&(NX pos (JT [] env)).all (λx=>x.1.isSome)&&cK (as.length+([]:List MV).length+(if ([]:List MV).isEmpty then 0 else 1)<30))=bD)(c:(apos.endLine==pos.line)=bD):
  vr (.Call (.Attribute (.Name x px) y apos) as [] pos) env=(do
   let a <-vr (.Name x px) env
   S5 apos.atName
   let (f,first) <-L8 [a] (Vm a y (do return (<-importBound (.Name x px) env).getD bD))
   W7 pos f first (Hf pos (js as env)) (NX pos (JT [] env))):=by
 have d:methodCallForm (as.length+([]:List MV).length) (Hf pos (js as env)) (NX pos (JT [] env))=bD:=b;have e:methodCallPos bD (.Name x px) env apos pos=pure pos:=by unfold methodCallPos;simp[c]
 rw[arm_eval_Call,show N9 (.Name x px) y env (vr (.Name x px) env)=vr (.Name x px) env from rfl];unfold methodCall calleeOf;rw[d,e];rfl
def Bs(K:KW X.K cl)(B:C.P=X.prog)(D:C.w=X.w)(d:C.K=X.K)(J:X.N[i]?=a5 x)(L:Jg X.env.scope x)(O:(x==("__debug__":Str))=cb)(T:(x==("__classdict__":Str))=cb)(Y:Γ f=F)(L5:∀us r,F us=a5 (.ok r)->us.length=np)
  (G:dR X.prog X.w X.K X.mg X.base (K7 X.prog X.w) k fa fd ps (MQ X.prog X.w X.K F np 0)) (hr:cN k X.A) (g:Meth X.K cl y fa) (hb:Binds X.K fd ps []) (j:y≠"rows"/\y≠"earlier")
  (ha:PA X (e::es) (Jh C ms)) (he:js (e::es) X.env=(cb,vr e X.env)::js es X.env) (IK:(Hf pos (js es X.env)).any (·.1)=cb)
  (ht:vr (.Call (.Attribute (.Name x px) y apos) (e::es) [] pos) X.env=(do
   let l <-vr (.Name x px) X.env
   S5 apos.atName
   let (f,first) <-L8 [l] (Vm l y pl)
   W7 pos f first (Hf pos (js (e::es) X.env)) (NX pos (JT [] X.env)))) :
  PE X (.Call (.Attribute (.Name x px) y apos) (e::es) [] pos) (HW C (J1 i >>= λ_=>ms >>= λrs=>aw rs >>= λ_=>fT Γ f 0 i rs)):=by
 rintro b s σ H Q I ⟨c0,rfl,rfl,ok,h⟩;rw[ah]at h;have⟨u,us,hs,h⟩:=dG h;obtain⟨r,Lg,dx,v0,a,KG,ev,_,o⟩:=ok.j3 hs;cases(K.hc).one (d▸o.hc);show PySem.W.methodCall_KW (pl:=pl) (HS (aX J L O T b s c0.σ c0.H (λv m=>v=.ref r/\m=c0.H) I ⟨_,ev,rfl,rfl⟩) λu' s1 ⟨x',m,n,rx,ex,eH⟩=>?_) ht;subst ex eH;obtain rfl:u'=my r:=rx;show hJ n o.ins K.cls g (by unfold MA;simp[Nr,Ľ.mpr j.1,Ľ.mpr j.2]) ?_;show PySem.W.callWith_K (first:=[.ref r]) (h₀:=X.base) I.ok.mod.MT g.kp (HS (args ha n ok h pos) λus s2 ⟨rs,c,vs,t,p,rv,w⟩=>⟨p.JU,?_⟩) he IK;obtain⟨r',_,_,_,_,_,_,_,_,q,_,Jx⟩:=t.yo (E:=E0) B D d Y L5 w;rw[t.hσ,ev]at q;cases q;have z:=kD (us:=.ref r::us) (vs:=.ref r::vs) (Q:=Q) G hr hb .nil tH p (.cons rfl rv) (by rw[ve];show Jx);rw[t.hσ]at z;show z
def yq(K:KW X.K cl)(n:C.P=X.prog)(p:C.w=X.w)(d:C.K=X.K)(q:X.N[i]?=a5 x)(z:Jg X.env.scope x)(B:(x==("__debug__":Str))=cb)(D:(x==("__classdict__":Str))=cb)(J:Γ f=F)(L:∀us r,F us=a5 (.ok r)->us.length=O)
  (G:dR X.prog X.w X.K X.mg X.base (K7 X.prog X.w) k fa T ps (MQ X.prog X.w X.K F O 0)) (Y:cN k X.A) (e:Meth X.K cl y fa) (hb:Binds X.K T ps []) (g:y≠"rows"/\y≠"earlier")
  (ht:vr (.Call (.Attribute (.Name x px) y apos) [] [] pos) X.env=(do
   let j <-vr (.Name x px) X.env
   S5 apos.atName
   let (f,first) <-L8 [j] (Vm j y pl)
   W7 pos f first (Hf pos (js [] X.env)) (NX pos (JT [] X.env)))) :
  PE X (.Call (.Attribute (.Name x px) y apos) [] [] pos) (HW C (J1 i >>= λ_=>(pure []:M (List (Kd×U))) >>= λrs=>aw rs >>= λ_=>fT Γ f 0 i rs)):=by
 rintro b s σ H Q I ⟨c0,rfl,rfl,ok,h⟩;rw[ah]at h;have⟨u,us,hs,h⟩:=dG h;obtain⟨r,Lg,dx,v0,a,KG,ev,_,o⟩:=ok.j3 hs;cases(K.hc).one (d▸o.hc);rw[ah,ao,ah,bY]at h;have t:JI C c0 c0 [] []:=⟨rfl,ok,Nx.refl c0,rfl,trivial⟩
 show PySem.W.methodCall_KW (pl:=pl) (HS (aX q z B D b s c0.σ c0.H (λv l=>v=.ref r/\l=c0.H) I ⟨_,ev,rfl,rfl⟩) λu' s1 ⟨x',l,c,rx,ex,eH⟩=>?_) ht;subst ex eH;obtain rfl:u'=my r:=rx;show hJ c o.ins K.cls e (by unfold MA;simp[Nr,Ľ.mpr g.1,Ľ.mpr g.2]) ?_;obtain⟨r',_,_,_,_,_,_,_,_,m,_,Jx⟩:=t.yo (E:=E0) n p d J L h.2;rw[ev]at m;cases m;show PySem.W.callWith_K0 (first:=[.ref r]) c.JU e.kp (kD (us:=[.ref r]) (vs:=[.ref r]) (Q:=Q) G Y hb .nil tH c (.cons rfl .nil) (by rw[ve];show Jx))
def Ei(K:KW X.K cl)(B:C.K=X.K)(J:∀j,ns j=bD->j≠i)(L:X.N.Nodup)(q:X.N[i]?=a5 x)(O:Loc X.env.scope x)(Q:X.fn x=bD\/X.env.scope.names.lookup x=a5 .local)(M:Mk X.K cl fa)(G:dR X.prog X.w X.K X.mg X.base M3 k fa T ["self"] (TZ cl))(Y:cN (k+1) X.A)
  (hg:Gl X "Shelf") (hm:X.mg "Shelf"=a5 (.ref cl)) (hb:Binds X.K T ["self"] []) :
  L2.PS X (.Assign [.Name x px] (.Call (.Name "Shelf" p0) [] [] HL) pos) (IQ C ns (λst=>a5 (.ok .nx,st.set i (a5 (.A',.ob (.tup []) []))))):=by
 rintro f s σ H D I ⟨c0,rfl,rfl,ok,fl,st',e,h⟩;cases e;have IT:i<c0.σ.length:=by rw[I.len];show(d4.mp q).1
 show nG L q O (wK M G Y hg hm hb .nil Ci) rfl Q f s c0.σ c0.H D I ?_;intro r b o T8 Je;show⟨r,b,rfl,aq,λt l d hl MP=>⟨rfl,?_⟩⟩;have u:t≠r:=λz=>by rw[z,aq]at d;cases d
 have p:l≠r:=λz=>by rw[z,aq]at hl;cases hl
 rw[ak u]at d;rw[ak p]at hl;have T9:t≠b:=λz=>by rw[z,aq]at d;cases d
 have SF:l≠b:=λz=>by rw[z,aq]at hl;cases hl
 rw[ak T9]at d;rw[ak SF]at hl;let g:Hp:=upd (upd (upd (upd (upd c0.H b (.own r)) r (.ins cl b [])) t (.tup [])) l (.lst [])) r (.ins cl b (MA (.ref t) l));have P_:pF c0.H g:=λy o' a=>by
  have v:y≠r:=λz=>by rw[z,o]at a;cases a
  have y2:y≠l:=λz=>by rw[z,hl]at a;cases a
  have y3:y≠t:=λz=>by rw[z,d]at a;cases a
  have y4:y≠b:=λz=>by rw[z,T8]at a;cases a
  change upd _ r _ y=_;rw[ak v,ak y2,ak y3,ak v,ak y4];show a
 have⟨HV,n1⟩:=ok.grow (H':=g) (S':=c0.S) P_ (λy z=>.inl z) λy z=>z;have m:=ok.gO o;have n:=ok.gO hl;have rd:bf C c0.S g r [l] (.ob (.tup []) []):=⟨cl,b,.ref t,l,[],rfl,B▸K.hc,aq,tv p,λy hy=>by
  rcases gj.mp hy with rfl|hy
  .show⟨m.2.1,m.2.2.1,.inl m.1⟩
  .rw[nc.mp hy];show⟨n.2.1,n.2.2.1,.inl n.1⟩,rfl,⟨t,[],rfl,.inl (.inl (by change upd _ r _ t=_;rw[ak u,ak MP,aq])),rfl⟩,by change upd _ r _ l=_;rw[ak p,aq],rfl,rfl⟩
 have⟨Iu,n2⟩:=Ok.HD (c:={c0 with H:=g,S:=c0.S}) (i:=i) HV n1.toNs IT rd (λy hy=>by
  rcases gj.mp hy with rfl|hy
  .show⟨m.2.2.2.2,o⟩
  .rw[nc.mp hy];show⟨n.2.2.2.2,hl⟩)
 show h _ rfl Iu n2 ⟨λj hj=>i7 (tv (J j hj)),by simp⟩
end
end TM
namespace TM
open PySem L2 PyProof.Rows PySem.W
section
def Gh
  (Jk:∀m,ns m=bD->m≠i/\m≠j) (hN:X.N.Nodup) (hi:X.N[i]?=a5 y) (hy:Loc X.env.scope y) (X4:X.fn y=bD) (hj:X.N[j]?=a5 n) (hn:X.env.scope.names.lookup n=a5 .local)
  (K:KW X.K sc) (hP:C.P=X.prog) (hw:C.w=X.w) (hK:C.K=X.K) (QO:X.N[b]?=a5 o) (hv:Jg X.env.scope o) (hd:(o==("__debug__":Str))=cb) (Ic:(o==("__classdict__":Str))=cb) (hF:Γ f=F) (L5:∀us r,F us=a5 (.ok r)->us.length=np)
  (G:dR X.prog X.w X.K X.mg X.base (K7 X.prog X.w) kd fa fd ps (MQ X.prog X.w X.K F np 0)) (hr:cN kd X.A) (hm:Meth X.K sc m fa) (hb:Binds X.K fd ps []) (Vu:m≠"rows"/\m≠"earlier")
  (ha:PA X.Lm (e::es) (Jh C ms)) (he:js (e::es) X.env=(cb,vr e X.env)::js es X.env) (IK:(Hf p3 (js es X.env)).any (·.1)=cb)
  (ht:vr (.Call (.Attribute (.Name o p1) m p2) (e::es) [] p3) X.env=(do
   let ov <-vr (.Name o p1) X.env
   S5 p2.atName
   let (f,first) <-L8 [ov] (Vm ov m pl)
   W7 p3 f first (Hf p3 (js (e::es) X.env)) (NX p3 (JT [] X.env))))
  (HU:X.stack=X.env::X.outer/\X.env.frame=a5 X.env.locals) (X5:Gl X x) (Q8:X.mg x=a5 (.ref Dc)) (T8:(x==("__debug__":Str))=cb) (X6:Gl X cl) (X7:X.mg cl=a5 (.ref D)) (X8:nsIn X.K oT cl=a5 (a5 (.ref D))) (X9:(cl==("__debug__":Str))=cb) (ac:exmOne X.K (.ref D) (.ref Dc)=a5 bD)
  (X_:Gl X "isinstance") (Ya:X.mg "isinstance"=b6) (Io:(n==("__debug__":Str))=cb) (Yb:(n==("__classdict__":Str))=cb) :
  L2.PS X (.Try [.Expr (.Call (.Attribute (.Name o p1) m p2) (e::es) [] p3) p4] [.ExceptHandler (a5 (.Name x p5)) (a5 n) [.Assign [.Name y p6] (.Call (.Name "isinstance" p8) [.Name n p9,.Name cl P'] [] OO) Vv] Yc] [] [] pos)
   (IQ C ns (J1 b >>= λ_=>ms >>= λrs=>aw rs >>= λ_=>mT Γ f b cl rs >>= λq=>mr i j (if q=bD then b6 else a5 (.loc,.HX)))):=by
 rintro d s σ H D' I ⟨c0,rfl,rfl,ok,h⟩;have IT:i<c0.σ.length:=by rw[I.len];show(d4.mp hi).1
 rw[ah]at h;have⟨u,us,hs,h⟩:=dG h;obtain⟨r,Lg,dx,v0,a,KG,ev,_,ob⟩:=ok.j3 hs;cases(K.hc).one (hK▸ob.hc);let EE:dV->hW->Prop:=λv s'=>∃(c c2:Cf) (s1:hW) (g T:hH) (H':Hp),v=.ref g/\c2.σ=c0.σ/\Ok C c2/\Nx c0 c2/\Inv X d c0.σ c.H s1/\bX X.prog X.w X.stack c.H s1 g D (a5 T) .none H' s'/\c2.H=H'/\W (mr i j b6) c2.st (eN C c0 ns D');show wpAny_Try_except (uv (Q:=λf s1=>f=Ĳ/\SP X d D' .next s1) (E:=EE) ?_ (λf s1 z=>?_) λv s1 z=>?_)
 .show Ď (Ģ ?_ I.quiet rfl);show PySem.W.methodCall_KW (pl:=pl) (uv (aX (X:=X.Lm) QO hv hd Ic d s c0.σ c0.H (λv H1=>v=.ref r/\H1=c0.H) (I.kq _) ⟨_,ev,rfl,rfl⟩) (λu' s1 z=>?_) λ_ _ z=>z.elim) ht;have⟨x',H1,l,rx,ex,eH⟩:=z;subst ex eH;obtain rfl:u'=my r:=rx;show hJ l.fH ob.ins K.cls hm (by unfold MA;simp[Nr,Ľ.mpr Vu.1,Ľ.mpr Vu.2]) ?_;show PySem.W.callWith_K (first:=[.ref r]) (h₀:=X.base) I.ok.mod.MT hm.kp (uv (args (X:=X.Lm) ha l ok h p3) (λus s1 z=>?_) λ_ _ z=>z.elim) he IK;have⟨rs,c,vs,t,l,rv,w⟩:=z;have l:=l.fH;show⟨l.JU,?_⟩;rw[ah]at w;have⟨q',st',B,q⟩:=w;unfold mT at B;split at B
  rotate_left
  .cases B
  rename_i u1 XH Jy;rw[hF]at B;have⟨r1,Y2,Y3,v1,a1,JL,Qa,NR,o1⟩:=t.ok.j3 Jy;have er:r1=r:=by rw[t.hσ,ev]at Qa;cases Qa;rfl
  subst er;have qv:(J2 X.prog X.w X.K c.H (λx=>JH c.H x/\¬(x=r1\/x=a1)) λx=>x=r1\/x=a1).Eqv C:=⟨hP.symm,hw.symm,hK.symm⟩
  have hl:=t.len;split at B
  rotate_left
  .cases B
  rename_i k w u' ID IU;have ab:=t.Gf (X:=X) (p:=0) hP hw hK Jy Qa NR o1 (mN _);have L:(V.ref r1::vs).length=np:=by
   have z:=L5 _ _ IU;rw[<-z];simp[hl]
  have O:(k=.own\/k=.loc)->W (mr i j (a5 (.loc,.HX))) (c.st.set b (a5 (.A',.ob u' ID))) (eN C c0 ns D') ->
    g9 (i5 X.prog X.w) X.A (Qg (.ref fa) (.ref r1::us)) (λv s2=>g9 (i5 X.prog X.w) X.A (PySem.execs [] X.env) (λf s4=>f=Ĳ/\SP X d D' .next s4) EE s2) EE s1:=λhk q=>by
   rw[show mr i j (a5 ((.loc,.HX):Kd×U))=pure .nx from rfl,ao]at q;have Jx:MQ X.prog X.w X.K F np 0 (.ref r1::vs) c.H (λv H'=>D'.nx c0.σ H') E0:=⟨L,_,k,w,.ob u' ID,_,_,r1,a1,IU,ab,.inl ⟨hk,λv H' S' bk=>by
    obtain⟨c',g1,g2,g3,g4,H_,n',_⟩:=t.ok.yn (c0:=c0) t.nx.toNs qv Jy Qa NR o1 (λx=>Zv) bk;have z:D'.nx c'.σ c'.H:=q c' g4 H_ n' (Kept.of (g2.trans t.hσ));rw[g1,g2,t.hσ]at z;show z⟩⟩
   show uv (tI (us:=.ref r1::us) (vs:=.ref r1::vs) (EE:=EE) G hr hb l (.cons rfl rv) Jx λ_ _ ⟨_,_,_,_,_,_,z⟩=>z.elim) (λv s2 ⟨v',H2,I2,r2,q2⟩=>?_) λ_ _ z=>z;rw[t.hσ]at I2;show Sb ⟨rfl,_,H2,I2,q2⟩
  split at B
  .cases B;show O (.inl rfl) q
  .cases B;show O (.inr rfl) q
  .rename_i c';split at B
   case isFalse=>cases B
   rename_i Yd;subst Yd;cases B;have Jx:MQ X.prog X.w X.K F np 0 (.ref r1::vs) c.H (λ_ _=>False) (λv _ H'=>v=.ref D/\∃S',qc (J2 X.prog X.w X.K c.H (λx=>JH c.H x/\¬(x=r1\/x=a1)) λx=>x=r1\/x=a1) c.H H' S' r1 (.ob u' ID) .io .HX .HX):=⟨L,_,.io,_,.ob u' ID,_,_,r1,a1,IU,ab,.inr ⟨rfl,_,rfl,λC1 H1 S1 J Y=>by rw[X8]at J;cases J;show⟨rfl,S1,Y⟩⟩⟩
   show uv (tI (us:=.ref r1::us) (vs:=.ref r1::vs) (EE:=EE) G hr hb l (.cons rfl rv) Jx λv s' ⟨g,C1,T,H',e3,F',e4,S',bk⟩=>?_) (λv s2 ⟨_,_,_,_,z⟩=>z.elim) λ_ _ z=>z;cases e4;obtain⟨c',g1,g2,g3,g4,H_,n',_⟩:=t.ok.yn (c0:=c0) t.nx.toNs qv Jy Qa NR o1 (λx=>Zv) bk;show⟨c,c',s1,g,T,H',e3,g2.trans t.hσ,H_,⟨n'⟩,by rw[<-t.hσ];show l,F',g1,by rw[g4];show q⟩
  .cases B
 .have⟨rfl,z⟩:=z;show Sb z
 .have⟨c,c2,s0,g,T,H',rfl,hσ,Ii,n0,l,F1,Ye,w⟩:=z;have K8:s0.heap.FunFrames X.base (X.env::X.outer):=by rw[<-HU.1];show l.stack
  have NH:∀b∈IH (X.env::X.outer),c.H b=b6:=by rw[<-HU.1];show l.iu
  have hA:X.A.frames=a5 (X.env::X.outer):=by rw[<-HU.1];show l.ok.frames
  rw[HU.1]at F1;show F1.note hA HU.2 K8 NH λT2 s2 F2=>F2.land K8 NH λT3 s3 F3=>?_;have ag:∀{T:Option hH} {fl:dV} {s':hW},bX X.prog X.w (X.env::X.outer) c.H s0 g D T fl H' s'->Inv X d c0.σ H' s':=λ{T fl s'} F=>l.B_ (ch:=[]) F.os (by rw[HU.1];show F.un) F.HR F.bare λb z=>nomatch z
  have QQ:g≠X.env.locals/\g∉X.fs:=by
   obtain⟨m,⟨o,_,_,ho,_⟩,_⟩:=l.loc;show⟨λz=>?_,λz=>?_⟩
   .rw[<-z,F1.new]at ho;cases ho
   .obtain⟨_,o,q,_⟩:=K8.mem (Qf.mpr (by
     have⟨env,J,Y⟩:=Qf.mp z;show⟨env,ki _ J,Y⟩))
    rw[F1.new]at q;cases q
  have Lu:∀{T:Option hH} {fl:dV} {s':hW} (E:dV->hW->Prop),bX X.prog X.w (X.env::X.outer) c.H s0 g D T fl H' s'->∃oe,s'.heap.get? g=a5 oe/\oe.cls=.ref D/\Inv (X.Lu g oe E) d c0.σ H' s':=λ{T fl s'} E F=>by
   obtain⟨a0,oe,vs,J,Y,h3,_⟩:=F.exc;show⟨oe,J,Y,(ag F).Lu J F.he QQ.1 QQ.2 λv z=>by rw[h3]at z;cases z⟩
  show wpAny_handleBy_cons (codeAny_handlers_test ?_) λz=>nomatch z
  have⟨Y4,g1,g2,I3⟩:=Lu (TU (i5 X.prog X.w) (X.A.mark (a5 (.ref g))) X.env λx s'=>cameBackBy (i5 X.prog X.w) X.A X.env X.xe x s') F3;show dU I3 X5 Q8 ?_ T8;have LT:Looks (i5 X.prog X.w) s3.heap (Zn (.ref g)) (.ref D):=by
   show(İ g1).andThen ?_;rw[g2];show .now
  show(exm_one I3.JU LT ac).here (codeAny_handlers_suite_as ?_);show F3.land K8 NH λT4 s4 F4=>?_;have⟨Qb,g3,g4,I4⟩:=Lu (λ_ _=>False) F4;show kn (X:=X.Lu g Qb λ_ _=>False) I4 hN hj (.inl hn) (v:=.ref g) rfl (λs5 I5=>?_) (.inr hn);have pi:PE (X.Lu g Qb λ_ _=>False) (.Call (.Name "isinstance" p8) [.Name n p9,.Name cl P'] [] OO) (λσ H Q=>σ[j]?=a5 (a5 (.ref g))/\Q (.bl bD) H):=by
   rintro d s σ H Q I ⟨J,Y⟩;show DD (d0 I X_ Ya (show Ly "isinstance"=a5 (.builtin "isinstance") by decide +kernel) ?_ (by decide +kernel) (by decide +kernel));show P8 (HS (cP (X:=X.Lu g Qb λ_ _=>False) (aX hj (.inl hn) Io Yb) (cP (te:=λσ H Q=>Q (.ref D) H) (λd s σ H Q I h=>dU I X6 X7 ⟨.ref D,H,I,rfl,h⟩ X9) dB) rfl OO d s σ H (λvs H'=>vs=[.ref g,.ref D]/\Q (.bl bD) H') I ⟨_,J,rfl,Y⟩) λus s1 ⟨vs,H1,l,r1,B,q1⟩=>?_) rfl rfl;subst B;have⟨u1,u2,rfl,Yf,Yg⟩:=vals2 r1;cases Yf;cases Yg;show DG (l.pin (g,Qb) mh).1 g4 ⟨.bl bD,H1,l,rfl,q1⟩
  have pt:=nG (X:=X.Lu g Qb λ_ _=>False) (pos:=Vv) (pos':=p6) hN hi hy pi rfl (.inl X4);show uv ((ix pt nE) d s5 _ H' {nx:=λσ H=>σ=(c0.σ.set j (a5 (.ref g))).set i (a5 (.bl bD))/\H=H',rt:=λ_ _=>False} I5 ?_) (λfl s6 z=>?_) λ_ _ z=>z.elim
  .show⟨d6 (by rw[I.len];show(d4.mp hj).1),rfl,rfl⟩
  .cases fl with
   |next =>
    obtain⟨_,_,I6,rfl,rfl⟩:=z;show Inv.gone (I6.Hx I.ok) hN hj hn λs7 I7=>⟨_,_,I7,vG Jk ok Ii n0 hσ (by rw[hσ];show IT) (λa o e=>by rw[<-Ye];show e) _ w⟩
   |ret v=>obtain⟨_,_,_,_,_,z⟩:=z;show z.elim
   |_=>obtain⟨_,_,_,z⟩:=z;show z.elim
end
end TM
namespace TM
open PySem L2 PyProof.Rows
structure Ck where
 fns:List Str
 gl:List (Str×U)
 Ja:List (Str×List Nat)
 xc:List Str
 xd:List (Str×Str)
 obs:List (Str×Nat×Str)
abbrev oC:U->U->Bool
 |.int i,.int j=>cK (i=j)
 |.str x,.str y=>cK (x=y)
 |.bl a,.bl b=>a==b
 |.HX,.HX=>bD
 |_,_=>cb
def cv(h:oC u v=bD):u=v:=by
 cases u<;>cases v<;>simp[oC]at h<;>subst_vars<;>rfl
abbrev noStar:pb->Bool
 |.Starred _ _=>cb
 |_=>bD
abbrev dX:pb->Bool
 |.Slice _ _ _ _=>cb
 |_=>bD
abbrev rQ:pb->Bool
 |.Set _ _ _=>cb
 |_=>bD
abbrev oE:pb->Bool
 |.Call (.Name _ _) [] [] _=>cb
 |_=>bD
abbrev dv:pb->Bool
 |.ListComp _ _ _ _=>cb
 |.SetComp _ _ _ _=>cb
 |.DictComp _ _ _ _ _=>cb
 |_=>bD
abbrev Ej:pb->Bool
 |.Tuple _ _ _=>cb
 |_=>bD
abbrev JC(a:M0)(x:Str):Bool:=cK (a.names.lookup x=a5 .globalImplicit)
abbrev fY(a:M0)(x:Str):Bool:=cK (a.names.lookup x=a5 .local)||decide (a.names.lookup x=a5 .cell)||decide (a.names.lookup x=a5 .free)
abbrev lr(a:M0)(x:Str):Bool:=cK (a.names.lookup x=a5 .local)||decide (a.names.lookup x=a5 .cell)
abbrev Gi(a:M0)(x:Str):Bool:=cK (a.names.lookup x=a5 .local)
abbrev bb(x:Str):Bool:=!(x==("__debug__":Str))&&!(x==("__classdict__":Str))
abbrev tY(N:List Str)(a:M0)(fa:Str->Bool)(i:Nat):pb->Bool
 |.Name x _=>cK (N[i]?=a5 x)&&lr a x&&(fa x||Gi a x)
 |_=>cb
abbrev oF(N:List Str)(a:M0)(fa:Str->Bool):List Nat->List pb->Bool
 |[],[]=>bD
 |i::is,e::es=>tY N a fa i e&&oF N a fa is es
 |_,_=>cb
abbrev gY:pb->List Str
 |.Name x _=>[x]
 |.Tuple es _ _=>es.filterMap fun|.Name x _=>a5 x|_=>b6
 |_=>[]
abbrev hide(a N:List Str):List Str:=match a.filter λx=>cK (x∈N) with
 |[]=>N
 |[x]=>N.set (N.idxOf x) "."
 |x::y::_=>(N.set (N.idxOf x) ".").set (N.idxOf y) ".."
abbrev OP(t:Bool)(N:List Str)(a:M0)(fa:Str->Bool)(is:List Nat):pb->Bool
 |.Name x p=>!t&&(match is with|[i]=>tY N a fa i (.Name x p)|_=>cb)
 |.Tuple es _ _=>t&&oF N a fa is es&&is.all λi=>cK (i<N.length)
 |_=>cb
abbrev isTup:pb->Bool
 |.Tuple _ _ _=>bD
 |_=>cb
abbrev lu(e:pb):Option (Str×List pb):=match e with
 |.Call f as a _=>match f with
  |.Name x _=>if a.isEmpty=bD then a5 (x,as) else b6
  |_=>b6
 |_=>b6
def fZ(h:lu e=a5 (x,as)):∃p q,e=.Call (.Name x p) as [] q:=by
 unfold lu at h;split at h
 .split at h
  .split at h
   .rename_i hk;rw[ya]at hk;cases h;subst hk;show⟨_,_,rfl⟩
   .cases h
  .cases h
 .cases h
abbrev f9(a:M0)(b:pb)(ik:Ik)(e:pb):Option (List pb):=match ik with
 |.seq=>a5 [e]
 |.IL=>(lu e).bind λp=>if p.1="range"/\JC a p.1=bD/\p.2.length=1 then a5 p.2 else b6
 |.MC=>(lu e).bind λp=>if p.1="range"/\JC a p.1=bD/\p.2.length=2 then a5 p.2 else b6
 |.Nd=>(lu e).bind λp=>if p.1="enumerate"/\JC a p.1=bD/\p.2.length=1/\isTup b=bD then a5 p.2 else b6
 |_=>b6
abbrev simple:Bf->Bool:=λ_=>bD
abbrev Ek(scope a:M0):M0:={scope with names:=scope.names.map λ(n,k)=>if (k==LO&&a.kind==.function&&a.names.lookup n==a5 .cell)=bD then(n,.cell) else(n,k)}
abbrev aI(e:pb)(k:Str->Bool):Bool:=match e with|.Name x _=>k x|_=>cb
def aj(h:aI e k=bD):∃x p,e=.Name x p/\k x=bD:=by
 unfold aI at h;split at h
 .show⟨_,_,rfl,h⟩
 .cases h
abbrev cZ{α:Type}(l:List α)(k:α->Bool):Bool:=match l with|[a]=>k a|_=>cb
def aM(h:cZ l k=bD):∃a,l=[a]/\k a=bD:=by
 unfold cZ at h;split at h
 .show⟨_,rfl,h⟩
 .cases h
abbrev dk(e:pb)(k:pb->List pb->Pos->Bool):Bool:=match e with|.Call f as a p=>a.isEmpty&&k f as p|_=>cb
def aQ(h:dk e k=bD):∃f as p,e=.Call f as [] p/\k f as p=bD:=by
 unfold dk at h;split at h
 .rename_i f as a p;rw[b8,ya]at h;have⟨rfl,h⟩:=h;show⟨_,_,_,rfl,h⟩
 .cases h
abbrev eh(e:pb)(k:pb->Str->Pos->Bool):Bool:=match e with|.Attribute o m p=>k o m p|_=>cb
def bN(h:eh e k=bD):∃o m p,e=.Attribute o m p/\k o m p=bD:=by
 unfold eh at h;split at h
 .show⟨_,_,_,rfl,h⟩
 .cases h
abbrev yr(e:pb)(k:pb->Ü->pb->Bool):Bool:=match e with|.BinOp a op b _=>k a op b|_=>cb
def rR(h:yr e k=bD):∃a op b p,e=.BinOp a op b p/\k a op b=bD:=by
 unfold yr at h;split at h
 .show⟨_,_,_,_,rfl,h⟩
 .cases h
abbrev qd(e:pb)(k:pb->CmpOp->pb->Bool):Bool:=match e with|.Compare a ops bs _=>cZ ops λop=>cZ bs λb=>k a op b|_=>cb
def dH(h:qd e k=bD):∃a op b p,e=.Compare a [op] [b] p/\k a op b=bD:=by
 unfold qd at h;split at h
 .have⟨op,rfl,c⟩:=aM h;have⟨b,rfl,d⟩:=aM c;show⟨_,_,_,_,rfl,d⟩
 .cases h
abbrev c9(e:pb)(k:pb->Str->Pos->List pb->Pos->Bool):Bool:=dk e λf as a=>eh f λo m apos=>k o m apos as a
def aW(h:c9 e k=bD):∃o m apos as a,e=.Call (.Attribute o m apos) as [] a/\k o m apos as a=bD:=by
 have⟨f,as,p,rfl,h⟩:=aQ h;have⟨o,m,q,rfl,h⟩:=bN h;show⟨_,_,_,_,_,rfl,h⟩
abbrev iY(e:pb)(k:pb->pb->Bool):Bool:=match e with|.Subscript a b _=>k a b|_=>cb
def cF(h:iY e k=bD):∃a b p,e=.Subscript a b p/\k a b=bD:=by
 unfold iY at h;split at h
 .show⟨_,_,_,rfl,h⟩
 .cases h
abbrev El:pb->Bool
 |.Slice b6 b6 (a5 (.UnaryOp .USub (.Constant (.int 1) _ _) _)) _=>bD
 |_=>cb
def vK(h:El e=bD):∃a b c p2,e=.Slice b6 b6 (a5 (.UnaryOp .USub (.Constant (.int 1) a b) c)) p2:=by
 unfold El at h;split at h
 .show⟨_,_,_,_,rfl⟩
 .cases h
abbrev T_:E->Bool
 |.var _=>bD
 |.cst _=>bD
 |_=>cb
abbrev tZ{α:Type}(l:List α)(k:α->α->Bool):Bool:=match l with|[a,b]=>k a b|_=>cb
def ly(h:tZ l k=bD):∃a b,l=[a,b]/\k a b=bD:=by
 unfold tZ at h;split at h
 .show⟨_,_,rfl,h⟩
 .cases h
abbrev yt(e:pb)(k:Const->Bool):Bool:=match e with|.Constant c _ _=>k c|_=>cb
def lz(h:yt e k=bD):∃c q p,e=.Constant c q p/\k c=bD:=by
 unfold yt at h;split at h
 .show⟨_,_,_,rfl,h⟩
 .cases h
abbrev HE:Const->Option U
 |.int j=>a5 (.int j)
 |.str y=>a5 (.str y)
 |.bool y=>a5 (.bl y)
 |.none=>a5 .HX
 |_=>b6
abbrev HF(u:U)(c:Const):Bool:=match HE c with|some v=>oC u v|none=>cb
abbrev Bt(e:pb)(op:BoolOp)(k:List pb->Bool):Bool:=match e with|.BoolOp o es _=>cK (o=op)&&k es|_=>cb
def gF(h:Bt e op k=bD):∃es p,e=.BoolOp op es p/\k es=bD:=by
 unfold Bt at h;split at h
 .rw[b8,ĸ]at h;have⟨rfl,h⟩:=h;show⟨_,_,rfl,h⟩
 .cases h
abbrev Bu(e:pb)(op:UnaryOp)(k:pb->Bool):Bool:=match e with|.UnaryOp o a _=>cK (o=op)&&k a|_=>cb
def jq(h:Bu e op k=bD):∃a p,e=.UnaryOp op a p/\k a=bD:=by
 unfold Bu at h;split at h
 .rw[b8,ĸ]at h;have⟨rfl,h⟩:=h;show⟨_,_,rfl,h⟩
 .cases h
abbrev t5(e:pb)(k:List pb->Bool):Bool:=match e with|.Tuple l _ _=>k l|_=>cb
def lA(h:t5 e k=bD):∃l q p,e=.Tuple l q p/\k l=bD:=by
 unfold t5 at h;split at h
 .show⟨_,_,_,rfl,h⟩
 .cases h
abbrev yu(e:pb)(k:List pb->Bool):Bool:=match e with|.List l _=>k l|_=>cb
def rS(h:yu e k=bD):∃l p,e=.List l p/\k l=bD:=by
 unfold yu at h;split at h
 .show⟨_,_,rfl,h⟩
 .cases h
abbrev Bv(e:pb):Bool:=match e with|.Dict a b _=>a.isEmpty&&b.isEmpty|_=>cb
def mZ(h:Bv e=bD):∃p,e=.Dict [] [] p:=by
 unfold Bv at h;split at h
 .rw[b8,ya,ya]at h;have⟨rfl,rfl⟩:=h;show⟨_,rfl⟩
 .cases h
abbrev yw(e:pb)(k:Option pb->Option pb->Bool):Bool:=match e with|.Slice a b c _=>c.isNone&&k a b|_=>cb
def rT(h:yw e k=bD):∃a b p,e=.Slice a b b6 p/\k a b=bD:=by
 unfold yw at h;split at h
 .rw[b8,R6]at h;have⟨rfl,h⟩:=h;show⟨_,_,_,rfl,h⟩
 .cases h
abbrev Em(e:pb)(k:pb->pb->pb->List pb->M0->Bool):Bool:=match e with|.ListComp elt a b _=>cZ a λg=>cK (g.is_async=0)&&k elt g.target g.iter g.ifs b|_=>cb
def jr(h:Em e k=bD):∃elt d a b f p,e=.ListComp elt [⟨d,a,b,0⟩] f p/\k elt d a b f=bD:=by
 unfold Em at h;split at h
 .obtain⟨⟨d,a,b,z⟩,rfl,c⟩:=aM h;rw[b8,ĸ]at c;have⟨rfl,c⟩:=c;show⟨_,_,_,_,_,_,rfl,c⟩
 .cases h
abbrev isNm(e:pb)(n:Str):Bool:=aI e λx=>cK (x=n)
def gG(h:isNm e n=bD):∃p,e=.Name n p:=by
 have⟨x,p,e,z⟩:=aj h;show⟨p,Ŀ z▸e⟩
abbrev Bw(v:pb)(f:Str)(k:List pb->Bool):Bool:=dk v λg as _=>isNm g f&&k as
def jt(h:Bw v f k=bD):∃as p q,v=.Call (.Name f p) as [] q/\k as=bD:=by
 have⟨g,as,q,rfl,z⟩:=aQ h;rw[b8]at z;have⟨p,rfl⟩:=gG z.1;show⟨as,p,q,rfl,z.2⟩
abbrev Lh(N:List Str)(a:M0)(i:Nat)(x:Str):Bool:=cK (N[i]?=a5 x)&&fY a x&&bb x
abbrev En:pb->Bool
 |.List [] _=>bD
 |_=>cb
def vL(h:En e=bD):∃p,e=.List [] p:=by
 unfold En at h;split at h
 .show⟨_,rfl⟩
 .cases h
abbrev Qc(N:List Str)(a:M0)(i:Nat):Option pb->Bool
 |some (.Name y _)=>Lh N a i y
 |_=>cb
def qe(h:Qc N a i o=bD):∃y p,o=a5 (.Name y p)/\Lh N a i y=bD:=by
 unfold Qc at h;split at h
 .show⟨_,_,rfl,h⟩
 .cases h
mutual
noncomputable def bz(k:Ck):E->List Str->M0->pb->Bool
 |.var i,N,d,g=>aI g λx=>cK (N[i]?=a5 x)&&fY d x&&bb x
 |.cst u,N,d,g=>yt g λc=>HF u c
 |.Kx x u,N,d,g=>aI g λy=>cK (x=y)&&JC d x&&bb x&&k.gl.any λp=>cK (p.1=x)&&oC p.2 u
 |.bin op a b,N,d,g=>yr g λa' s j=>cK (op.op=s)&&bz k a N d a'&&bz k b N d j
 |.cmp op a b,N,d,g=>qd g λa' s j=>cK (op.op=s)&&!O_ s j&&bz k a N d a'&&bz k b N d j
 |.LU _ _ _ _ _,_,_,_=>cb
 |.and es,N,d,g=>Bt g .And λh=>az k es N d h
 |.or es,N,d,g=>Bt g .Or λh=>az k es N d h
 |.not a,N,d,g=>Bu g .Not λa'=>bz k a N d a'
 |.ite _ _ _,_,_,_=>cb
 |.neg a,N,d,g=>Bu g .USub λa'=>bz k a N d a'
 |.bad,_,_,_=>bD
 |.IS i,N,d,g=>eh g λo m _=>aI o λx=>cK (m="rows")&&Lh N d i x
 |.K_ i,N,d,g=>dk g λf' as _=>aI f' λf=>cZ as λa'=>eh a' λo m _=>aI o λx=>cK (f="len")&&cK (m="earlier")&&JC d f&&Lh N d i x
 |.J' i,N,d,g=>qd g λa' op j=>eh a' λo m _=>aI o λx=>En j&&cK (op=.Eq)&&cK (m="earlier")&&Lh N d i x
 |.jY i,N,d,g=>c9 g λo m apos as l=>eh o λo2 m2 _=>aI o2 λx=>as.isEmpty&&cK (m="pop")&&cK (m2="earlier")&&(apos.endLine==l.line)&&Lh N d i x
 |.IZ f i es w,N,d,g=>dk g λf' as _=>aI f' λx=>cK (x=f)&&cK ((f,es.length,("":Str))∈k.obs)&&JC d x&&bb x&&Qc N d i as[es.length]?&&az k es N d (as.take es.length)&&az k w N d (as.drop (es.length+1))
 |.JK f m i es,N,d,g=>c9 g λo y apos as l=>aI o λx=>cK (y=m)&&cK ((f,0,m)∈k.obs)&&(cK (m≠"")&&cK (m≠"rows")&&cK (m≠"earlier"))&&Lh N d i x&&(apos.endLine==l.line)&&cK (as.length<20)&&az k es N d as
 |.pop i,N,d,g=>c9 g λo m apos as l=>aI o λx=>as.isEmpty&&cK (m="pop")&&cK (N[i]?=a5 x)&&fY d x&&bb x&&(apos.endLine==l.line)
 |.MD i a,N,d,g=>c9 g λo m apos as l=>aI o λx=>cZ as λa'=>cK (m="pop")&&cK (N[i]?=a5 x)&&fY d x&&bb x&&(apos.endLine==l.line)&&noStar a'&&bz k a N d a'
 |.LV f es is,N,d,g=>dk g λf' h _=>aI f' λx=>cK (x=f)&&cK ((f,is)∈k.Ja)&&JC d x&&bb x&&!h.isEmpty&&az k es N d h
 |.inD neg a i,N,d,g=>qd g λa' s j=>aI j λx=>cK (x_ neg=s)&&!O_ s j&&cK (N[i]?=a5 x)&&fY d x&&bb x&&bz k a N d a'
 |.OG i,N,d,g=>aI g λx=>cK (N[i]?=a5 x)&&fY d x&&bb x
 |.Kz i a b,N,d,g=>c9 g λo m apos as l=>aI o λx=>tZ as λa' j=>cK (m="get")&&cK (N[i]?=a5 x)&&fY d x&&bb x&&(apos.endLine==l.line)&&noStar a'&&noStar j&&bz k a N d a'&&bz k b N d j
 |.OH i,N,d,g=>dk g λf' as _=>aI f' λf=>cZ as λc=>c9 c λo m apos bs l=>aI o λx=>bs.isEmpty&&cK (f="sorted")&&JC d f&&cK (m="items")&&cK (N[i]?=a5 x)&&fY d x&&bb x&&(apos.endLine==l.line)
 |.Ng a,N,d,g=>iY g λa' j=>El j&&bz k a N d a'
 |.QU _ _ _,_,_,_=>cb
 |.fst es,N,d,g=>cb
 |.QT a T,N,d,g=>cb
 |.tup es,N,d,g=>t5 g λh=>az k es N d h
 |.lst es,N,d,g=>yu g λh=>az k es N d h
 |.JZ _,N,d,g=>Bv g
 |.idx a b,N,d,g=>iY g λa' j=>dX j&&bz k a N d a'&&bz k b N d j
 |.Ky a lo hi,N,d,g=>iY g λa' j=>yw j λz A=>bz k a N d a'&&rV k lo N d z&&rV k hi N d A
 |.bi f es,N,d,g=>dk g λf' h _=>aI f' λx=>cK (x=f.name)&&simple f&&JC d x&&!h.isEmpty&&az k es N d h
 |.Nf f es,N,d,g=>dk g λf' as _=>aI f' λx=>cZ as λc=>dk c λg' h _=>aI g' λy=>cK (x=f.oq)&&cK (y=f.iU)&&JC d x&&JC d y&&!h.isEmpty&&az k es N d h
 |.KS m a es,N,d,g=>c9 g λo name apos h l=>cK (name=m.name)&&oE o&&(apos.endLine==l.line)&&!h.isEmpty&&cK (h.length<20)&&bz k a N d o&&az k es N d h
 |.call f es,N,d,g=>dk g λf' h _=>aI f' λx=>cK (x=f)&&cK (f∈k.fns)&&JC d x&&bb x&&!h.isEmpty&&az k es N d h
 |.comp n t ik src cond e,N,d,g=>Em g λelt q r v scope =>
   cK ((gY q).length=n)&&Dv (gY q++hide (gY q) N) (gY q) scope d.names&&OP t (gY q++hide (gY q) N) (Ek scope d) (λx=>cK (scope.names.lookup x=a5 .cell)) (i4 n) q&&rQ r &&
   (match f9 d q ik r with
    |some as=>az k src N d as
    |none=>cb) &&
   cK (v.length<=1)&&az k cond (gY q++hide (gY q) N) (Ek scope d) v&&bz k e (gY q++hide (gY q) N) (Ek scope d) elt
noncomputable def az(k:Ck):List E->List Str->M0->List pb->Bool
 |[],_,_,a=>a.isEmpty
 |e::es,N,b,a=>match a with
  |e'::a=>noStar e'&&bz k e N b e'&&az k es N b a
  |[]=>cb
noncomputable def rV(k:Ck):List E->List Str->M0->Option pb->Bool
 |[],_,_,o=>o.isNone
 |[e],N,a,o=>match o with
  |some b=>bz k e N a b
  |none=>cb
 |_::_::_,_,_,_=>cb
end
abbrev bR:List Str:=["len","sorted","repr","max","min","all","any","list","tuple","str","int","range","enumerate","zip","reversed","set","dict","sum","isinstance","bool"]
structure OQ(ck:Ck)(K:PySem.W.Frag)(mg:Str->Option dV):Prop where
 xc:∀x∈ck.xc,∃C,mg x=a5 (.ref C)/\PySem.W.nsIn K oT x=a5 (a5 (.ref C))/\PySem.W.excIn K C OE "ValueError.__new__"=bD
 xd:∀p∈ck.xd,∃C D,mg p.1=a5 (.ref C)/\PySem.W.nsIn K oT p.1=a5 (a5 (.ref C))/\mg p.2=a5 (.ref D)/\PySem.W.exmOne K (.ref C) (.ref D)=a5 bD
structure Bx(P:y0)(w:Jn)(K:PySem.W.Frag)(mg:Str->Option dV)(base:K1)(d:Nat)(F:List U->Option (Ex (Kd×U)))(f:Str):Prop where
 ex:∃(np:Nat) (fa:hH) (fd:R5) (ps:List Str),dR P w K mg base (K7 P w) d fa fd ps (spT P w K F np)/\mg f=a5 (.ref fa)/\PySem.W.keepIn K (.ref fa)=bD/\Binds K fd ps []/\(∀us k u,F us=a5 (.ok (k,u))->(k=.own\/k=.loc\/k=.any)/\us.length=np)/\∀us c,F us=a5 (.exc c)->us.length=np
structure HG(P:y0)(w:Jn)(K:PySem.W.Frag)(mg:Str->Option dV)(base:K1)(d:Nat)(F:List U->Option (Ex (Kd×U)))(f:Str)(p:Nat)(m:Str):Prop where
 ex:∃(np:Nat) (fa:hH) (fd:R5) (ps:List Str),dR P w K mg base (K7 P w) d fa fd ps (MQ P w K F np p)/\(m=""->mg f=a5 (.ref fa))/\PySem.W.keepIn K (.ref fa)=bD/\(m≠""->∀cl,Lv K cl->Meth K cl m fa)/\Binds K fd ps []/\∀us r,F us=a5 (.ok r)->us.length=np
structure Q9(P:y0)(w:Jn)(K:PySem.W.Frag)(mg:Str->Option dV)(base:K1):Prop where
 ex:∃cl fi fd,KW K cl/\Mk K cl fi/\dR P w K mg base M3 1 fi fd ["self"] (TZ cl)/\Binds K fd ["self"] []/\mg "Shelf"=a5 (.ref cl)
structure Gj(P:y0)(w:Jn)(K:PySem.W.Frag)(mg:Str->Option dV)(base:K1)(d:Nat)(F:List U->Option (Ex (Kd×U)))(f:Str)(is:List Nat):Prop where
 ex:∃(np:Nat) (fa:hH) (fd:R5) (ps:List Str),dR P w K mg base M3 d fa fd ps (TN P w K F np is)/\mg f=a5 (.ref fa)/\PySem.W.keepIn K (.ref fa)=bD/\Binds K fd ps []/\∀us r,F us=a5 (.ok r)->us.length=np
structure Q_(ck:Ck)(Γ:Tab)(P:y0)(w:Jn)(K:PySem.W.Frag)(mg:Str->Option dV)(base:K1)(d:Nat):Prop where
 f:∀p∈ck.Ja,Gj P w K mg base d (Γ p.1) p.1 p.2
 o:∀q∈ck.obs,HG P w K mg base d (Γ q.1) q.1 q.2.1 q.2.2
 sh:Q9 P w K mg base
 lv:2<=d
structure Gd(ck:Ck)(Γ:Tab)(C:Ct)(d:Nat)(X:Cx):Prop where
 P:C.P=X.prog
 w:C.w=X.w
 K:C.K=X.K
 u:X.A.units+60<L_
 calm:X.calm=bD
 room:cN d X.A
 blt:∀x∈bR,X.mg x=b6
 fns:∀f∈ck.fns,Bx X.prog X.w X.K X.mg X.base d (Γ f) f
 KY:∀p∈ck.gl,∃val v,X.mg p.1=a5 val/\RelV v val/\∀S H,Rep C S H p.2 v
 Ja:Q_ ck Γ X.prog X.w X.K X.mg X.base d
def Gd.cx(g:Gd ck Γ C d X)(N:List Str)(a:M0)(D:hH)(s:hW)(H:Hp)(ex:List hH):Gd ck Γ C d (Jo X N a D s H ex) :=
 ⟨g.P,g.w,g.K,g.u,g.calm,g.room,g.blt,g.fns,g.KY,g.Ja⟩
def bV(h:fY a x=bD):Jg a x:=by
 unfold fY at h;simp only[P1,ĸ]at h;rcases h with(h|h)|h
 .show .inl h
 .show .inr (.inl h)
 .show .inr (.inr h)
def ay(h:bb x=bD):(x==("__debug__":Str))=cb/\(x==("__classdict__":Str))=cb:=by
 unfold bb at h;simpa using h
def a_(h:noStar e=bD):js (e::es) env=(cb,vr e env)::js es env:=by
 cases e<;>first|rfl|cases h
def qf(h:dX e=bD):nO e:=by
 intro o i;cases e<;>first|rfl|cases h
def rW(h:rQ e=bD):∀x,NQ e env x=pure x:=by
 intro x;cases e<;>first|rfl|cases h
def j7(h:oE o=bD):N9 o name env a=a:=by
 cases o with
 |Call f as ks p =>
  cases f with
  |Name x q=>cases as with
   |nil=>cases ks with
    |nil=>cases h
    |cons _ _=>rfl
   |cons _ _=>rfl
  |_=>rfl
 |_=>rfl
def aN(h:∀e∈es,noStar e=bD):(Hf pos (js es env)).any (·.1)=cb/\(Hf pos (js es env)).all (λx=>!x.1)=bD:=by
 induction es with
 |nil=>show⟨rfl,rfl⟩
 |cons e es a =>
  rw[a_ (h e (by simp))];have:=a λb c=>h b (by simp[c]);constructor
  .change(cb||(Hf pos (js es env)).any (·.1))=cb;rw[this.1];rfl
  .change(!cb&&(Hf pos (js es env)).all (λx=>!x.1))=bD;rw[this.2];rfl
def bJ(h:az k es N c a=bD):∀e∈a,noStar e=bD:=by
 induction es generalizing a with
 |nil =>
  cases a with
  |nil=>intro e he;cases he
  |cons _ _=>simp[az]at h
 |cons x es b =>
  cases a with
  |nil=>intro e he;cases he
  |cons d a =>
   simp only[az,b8]at h;intro e he;rcases gj.mp he with rfl|he
   .show h.1.1
   .show b h.2 e he
def m6(a:∀x,fa x=bD->X.fn x=bD)(h:tY X.N X.env.scope fa i e=bD):rL X e i:=by
 cases e with
 |Name x p =>
  simp only[tY,b8,ĸ,lr,P1,Gi]at h;show⟨x,p,rfl,h.1.1,?_,?_⟩
  .rcases h.1.2 with z|z
   .show .inl z
   .show .inr z
  .rcases h.2 with z|z
   .show .inl (a x z)
   .show .inr z
 |_=>cases h
theorem lB(a:∀x,fa x=bD->X.fn x=bD):∀{is:List Nat}{es:List pb},oF X.N X.env.scope fa is es=bD->fc X es is
 |[],[],_=>.nil
 |[],_::_,h=>by cases h
 |_::_,[],h=>by cases h
 |i::is,e::es,h=>by
  simp only[oF,b8]at h;show .cons (m6 a h.1) (lB a h.2)
def t6(d:X.calm=bD)(e:C.K=X.K)(a:X.N.Nodup)(b:∀x,fa x=bD->X.fn x=bD)(h:OP t X.N X.env.scope fa is c=bD):PG X c (tG C t is):=by
 cases c with
 |Name x p =>
  simp only[OP,b8,uk]at h;have⟨rfl,h⟩:=h;cases is with
  |nil=>cases h
  |cons i is=>cases is with
   |nil=>show D8 a (m6 b h)
   |cons _ _=>cases h
 |Tuple es k p =>
  simp only[OP,b8,ux,ĸ]at h;obtain⟨⟨rfl,f⟩,g⟩:=h;show FU d e a (lB b f) g
 |_=>cases h
def m7(a N:List Str):d_ ((a++hide a N).drop a.length) N:=by
 rw[Td rfl];unfold hide;split
 .show .refl N
 .show(d_.refl N).set _ (.inl rfl)
 .show((d_.refl N).set _ (.inl rfl)).set _ (.inr rfl)
abbrev Bf.Y5:Bf->Bool
 |.len=>bD|.sorted=>bD|.repr=>bD|.max=>bD|.min=>bD|.all=>bD|.any=>bD|_=>cb
abbrev Bf.id:Bf->String
 |.len=>"len"|.sorted=>"sorted"|.repr=>"repr"|.max=>"max"|.min=>"min"|.all=>"all"|.any=>"any"
 |.list=>"list"|.tuple=>"tuple"|.str=>"str"|.int=>"int"
def By:∀f:Bf,simple f=bD->Ly f.name=a5 f.val/\f.name∈bR/\f.name≠"__name__"/\(f.name==("__debug__":Str))=cb:=by
 intro f h;cases f<;>first|show⟨by decide +kernel,by decide +kernel,by decide +kernel,by decide +kernel⟩|(cases h;done)
def Eo:∀f:Bf,simple f=bD->(f.val=.builtin f.id\/f.val=.type f.id):=by
 intro f h;cases f<;>first|show .inl rfl|show .inr rfl|(cases h;done)
def Ep:∀f:B2,f.oq∈bR/\f.iU∈bR:=by
 intro f;cases f<;>show⟨by decide +kernel,by decide +kernel⟩
def Bz:∀f:Mf,Slot "str" f.name f.id/\Zn (.builtin f.id)=pure (.type "method_descriptor"):=by
 intro f;cases f with
 |split=>show⟨PySem.F.slot_str_split,PySem.F.type_str_split⟩
 |join=>show⟨PySem.F.slot_str_join,PySem.F.type_str_join⟩
 |partition=>show⟨PySem.F.slot_str_partition,PySem.F.type_str_partition⟩
 |endswith=>show⟨PySem.F.slot_str_endswith,PySem.F.type_str_endswith⟩
section
def c6(h:JC X.env.scope x=bD):Gl X x:=by
 unfold JC at h;change X.env.kindOf x=a5 .globalImplicit;show Ŀ h
def BA:("enumerate":Str)∈bR:=by decide +kernel
def yx:("isinstance":Str)∈bR:=by decide +kernel
def t7:("range":Str)∈bR:=by decide +kernel
def Cv(g:Gd ck Γ C d X)(h:f9 X.env.scope o ik i=a5 as)(n:PA X as (Jh C (aR Γ src)))(r:∀a,as=[a]->∃e,src=[e]/\PE X a (HW C (ev Γ e)))(l:∀e∈as,noStar e=bD):PI X o i (LX C ik (aR Γ src)):=by
 unfold f9 at h;split at h
 .cases h;have⟨e,rfl,s⟩:=r _ rfl;show D6 g.K s
 .rw[oD]at h;obtain⟨⟨x,bs⟩,j,h⟩:=h;split at h
  .rename_i k;cases h;have⟨c,f,hl⟩:=k
   dsimp only at c f hl
   subst c;have⟨p,q,rfl⟩:=fZ j;have⟨b,rfl⟩:=Zi.mp hl;show A8 (c6 f) (g.blt _ t7) (a_ (l _ (by simp))) n
  .cases h
 .rw[oD]at h;obtain⟨⟨x,bs⟩,j,h⟩:=h;split at h
  .rename_i k;cases h;have⟨c,f,hl⟩:=k
   dsimp only at c f hl
   subst c;have⟨p,q,rfl⟩:=fZ j;obtain⟨b,m,rfl⟩:∃b m,bs=[b,m]:=by match bs,hl with|[b,m],_=>show⟨b,m,rfl⟩
   have s1:=a_ (env:=X.env) (es:=[]) (l _ (show _∈[_,_] from ki _ mh));show A9 (c6 f) (g.blt _ t7) (by rw[a_ (l _ mh),s1];rfl) s1 n
  .cases h
 .rw[oD]at h;obtain⟨⟨x,bs⟩,j,h⟩:=h;split at h
  .rename_i k;cases h;have⟨c,f,hl,t⟩:=k
   dsimp only at c f hl
   subst c;have⟨p,q,rfl⟩:=fZ j;have⟨b,rfl⟩:=Zi.mp hl;cases o with
   |Tuple es u ps=>show D7 g.K (c6 f) (g.blt _ BA) (a_ (l _ (by simp))) n
   |_=>cases t
  .cases h
 .cases h
def Gd.Lm(g:Gd ck Γ C d X):Gd ck Γ C d X.Lm :=
 ⟨g.P,g.w,g.K,g.u,g.calm,g.room,g.blt,g.fns,g.KY,g.Ja⟩
def Cw{a:M α}{b:α->M β}{c:α->M γ}{g:γ->M δ}{st:au}{Q:δ->au->Prop}(w:W (a >>= λx=>b x >>= λ_=>c x >>= g) st Q):W ((a >>= λx=>b x >>= λ_=>c x) >>= g) st Q:=by
 simp only[ah]at w ⊢;show w
def aZ:PT X e (Jz C M.fail):=λa s σ H Q I ⟨_,_,_,_,w⟩=>(ba.mp w).elim
def ie:PE X e (HW C M.fail):=λa s σ H Q I ⟨_,_,_,_,w⟩=>(ba.mp w).elim
def PT.eqv(h:PT X e (Jz C m))(i:∀st Q,W a st Q->W m st Q):PT X e (Jz C a):=PT.weak h λσ H Q ⟨c0,b,e2,c,w⟩=>⟨c0,b,e2,c,i _ _ w⟩
def Gk(g:Gd ck Γ C d X)(b:PA X a (Jh C (aR Γ es)))
  (h:(cK (x=f.name)&&simple f&&JC X.env.scope x&&!a.isEmpty&&az ck es X.N X.env.scope a)=bD):PE X (.Call (.Name x p) a [] pos) (HW C (ev Γ (.bi f es))):=by
 simp only[b8,ĸ,uk]at h;obtain⟨⟨⟨⟨rfl,c⟩,i⟩,m⟩,n⟩:=h;have⟨b1,j,b3,b4⟩:=By f c;have k:=bJ n;cases a with
 |nil=>cases m
 |cons o l =>
  have st:=a_ (env:=X.env) (es:=l) (k o (by simp));have sn:=(aN (pos:=pos) (env:=X.env) (es:=l) λe q=>k e (by simp[q])).1;rcases Eo f c with hv|hv
  .show A0 g.calm g.K g.room.gd g.u hv (c6 i) (g.blt _ j) (by rw[b1,hv]) b3 b4 b st sn
  .show A4 g.calm g.K g.room.gd g.u hv (c6 i) (g.blt _ j) (by rw[b1,hv]) b3 b4 b st sn
def Gm(g:Gd ck Γ C d X)(i:PA X a (Jh C (aR Γ es)))
  (h:(cK (x=f.oq)&&cK (y=f.iU)&&JC X.env.scope x&&JC X.env.scope y&&!a.isEmpty&&az ck es X.N X.env.scope a)=bD):PE X (.Call (.Name x p) [.Call (.Name y p2) a [] pos2] [] pos) (HW C (ev Γ (.Nf f es))):=by
 simp only[b8,ĸ,uk]at h;obtain⟨⟨⟨⟨⟨rfl,rfl⟩,j⟩,k⟩,l⟩,m⟩:=h;have⟨b1,n⟩:=Ep f;have b:=bJ m;cases a with
 |nil=>cases l
 |cons o c =>
  have st:=a_ (env:=X.env) (es:=c) (b o (by simp));have sn:=(aN (pos:=pos2) (env:=X.env) (es:=c) λe q=>b e (by simp[q])).1;show A7 g.calm g.K (c6 j) (g.blt _ b1) (c6 k) (g.blt _ n) i st sn
def Gn(g:Gd ck Γ C d X)(k:PE X o (HW C (ev Γ a)))(l:PA X b (Jh C (aR Γ es)))
  (h:(cK (name=m.name)&&oE o&&(apos.endLine==f.line)&&!b.isEmpty&&cK (b.length<20)&&bz ck a X.N X.env.scope o&&az ck es X.N X.env.scope b)=bD):PE X (.Call (.Attribute o name apos) b [] f) (HW C (ev Γ (.KS m a es))):=by
 simp only[b8,ĸ,uk]at h;obtain⟨⟨⟨⟨⟨⟨rfl,n⟩,p⟩,q⟩,r⟩,v⟩,s⟩:=h;have i:=bJ s;have⟨s1,s2⟩:=Bz m;cases b with
 |nil=>cases q
 |cons j c =>
  have st:=a_ (env:=X.env) (es:=c) (i j (by simp));have sn:=(aN (pos:=f) (env:=X.env) (es:=c) λe t=>i e (by simp[t])).1;have u:=(aN (pos:=f) (env:=X.env) (es:=j::c) i).2;show A5 g.K s1 s2 k l (j7 n) ?_ p st sn;rw[u];have:(j::c).length+([]:List MV).length+(if ([]:List MV).isEmpty=bD then 0 else 1)<30:=by simp at r ⊢;lia
  simp only[ļ this];rfl
def yy(g:Gd ck Γ C d X)(i:PA X a (Jh C (aR Γ es)))
  (h:(cK (x=f)&&cK (f∈ck.fns)&&JC X.env.scope x&&bb x&&!a.isEmpty&&az ck es X.N X.env.scope a)=bD):PE X (.Call (.Name x p) a [] pos) (HW C (ev Γ (.call f es))):=by
 simp only[b8,ĸ,uk]at h;obtain⟨⟨⟨⟨⟨rfl,j⟩,k⟩,l⟩,m⟩,n⟩:=h;have b:=bJ n;obtain⟨y,fa,z,ps,o,q,r,s,t,_⟩:=(g.fns _ j).ex;cases a with
 |nil=>cases m
 |cons u c =>
  have st:=a_ (env:=X.env) (es:=c) (b u (by simp));have sn:=(aN (pos:=pos) (env:=X.env) (es:=c) λe v=>b e (by simp[v])).1;show xS g.P g.w g.K rfl t o g.room (c6 k) q r s (ay l).1 i st sn
def Er(g:Gd ck Γ C d X)(i:PA X a (Jh C (aR Γ es)))
  (h:(cK (x=f)&&cK ((f,is)∈ck.Ja)&&JC X.env.scope x&&bb x&&!a.isEmpty&&az ck es X.N X.env.scope a)=bD):PE X (.Call (.Name x p) a [] pos) (HW C (ev Γ (.LV f es is))):=by
 simp only[b8,ĸ,uk]at h;obtain⟨⟨⟨⟨⟨rfl,j⟩,k⟩,l⟩,m⟩,n⟩:=h;have b:=bJ n;have⟨y,fa,z,ps,o,q,r,s,t⟩:=(g.Ja.f _ j).ex;cases a with
 |nil=>cases m
 |cons u c =>
  have st:=a_ (env:=X.env) (es:=c) (b u (by simp));have sn:=(aN (pos:=pos) (env:=X.env) (es:=c) λe v=>b e (by simp[v])).1;show yh g.P g.w g.K rfl t o g.room (c6 k) q r s (ay l).1 (Bn i) st sn
def ff{X:Cx}(h:Lh X.N X.env.scope i x=bD):X.N[i]?=a5 x/\Jg X.env.scope x/\(x==("__debug__":Str))=cb/\(x==("__classdict__":Str))=cb:=by
 simp only[Lh,b8,ĸ]at h;have⟨a,b⟩:=ay h.2;show⟨h.1.1,bV h.1.2,a,b⟩
def yz(g:Gd ck Γ C d X)(c:PA X as (oB C es.length i (aR Γ es >>= λr1=>aR Γ h >>= λr2=>pure (r1++r2))))(a:∀e∈as,noStar e=bD)(j:as≠[])
  (k:x=f) (l:(f,es.length,("":Str))∈ck.obs) (m:JC X.env.scope x=bD) (n:bb x=bD):PE X (.Call (.Name x p) as [] pos) (HW C (ev Γ (.IZ f i es h))):=by
 subst k;obtain⟨z,fa,A,ps,q,r,s,_,t,u⟩:=(g.Ja.o _ l).ex;cases as with
 |nil=>show absurd rfl j
 |cons v b =>
  have st:=a_ (env:=X.env) (es:=b) (a v (by simp));have sn:=(aN (pos:=pos) (env:=X.env) (es:=b) λe y=>a e (by simp[y])).1;show yp g.P g.w g.K rfl u q g.room (c6 m) (r rfl) s t (ay n).1 c st sn
def Gp(g:Gd ck Γ C d X)(u:PA X as (Jh C (aR Γ es)))(b:∀e∈as,noStar e=bD)(c:as=[]->es=[])(v:(apos.endLine==pos.line)=bD)(D:as.length<20)
  (z:(f,0,m)∈ck.obs) (a:m≠""/\m≠"rows"/\m≠"earlier") (A:Lh X.N X.env.scope i x=bD):PE X (.Call (.Attribute (.Name x px) m apos) as [] pos) (HW C (ev Γ (.JK f m i es))):=by
 obtain⟨G,fa,H,ps,h,_,I,j,k,l⟩:=(g.Ja.o _ z).ex;obtain⟨cl,_,_,K,_⟩:=g.Ja.sh.ex;have⟨n,p,q,r⟩:=ff A;have s:=tX (x:=x) (y:=m) (px:=px) (apos:=apos) (pos:=pos) (env:=X.env) (as:=as) (by rw[(aN b).2];change(bD&&bD&&cK (as.length+0+0<30))=bD;rw[ļ ⋯];rfl) v;cases as with
 |nil =>
  cases c rfl;show yq K g.P g.w g.K n p q r rfl l h g.room (j a.1 cl K.hc) k a.2 s
 |cons B t =>
  have st:=a_ (env:=X.env) (es:=t) (b B (by simp));have sn:=(aN (pos:=pos) (env:=X.env) (es:=t) λe c=>b e (by simp[c])).1;show Bs K g.P g.w g.K n p q r rfl l h g.room (j a.1 cl K.hc) k a.2 u st sn s
def Vx(d:Qc N c i as[n]?=bD)(f:az k es N c (as.take n)=bD)(g:az k h N c (as.drop (n+1))=bD):(∀e∈as,noStar e=bD)/\as≠[]/\True:=by
 have⟨y,p,e,z⟩:=qe d;have b:n<as.length:=(d4.mp e).1;show⟨λa ha=>?_,(λz=>by rw[z]at b;cases b),trivial⟩;rw[<-List.take_append_drop n as,Px b]at ha;rcases ke.mp ha with ha|ha
 .show bJ f a ha
 .rcases gj.mp ha with ha|ha
  .rw[ha,(d4.mp e).2];rfl
  .show bJ g a ha
def PA.Gq(h:PA X as (oB C p i m))(j:∀st Q,W b st Q->W m st Q):PA X as (oB C p i b):=λpos a s σ H Q I ⟨v,c0,c,d,e2,e,w⟩=>h pos a s σ H Q I ⟨v,c0,c,d,e2,e,j _ _ w⟩
def dI(h:(b&&az k es N a c)=bD):az k es N a c=bD:=(IE.mp h).2
mutual
theorem bE:∀(e:E) (X:Cx) (k:pb),Gd ck Γ C d X->bz ck e X.N X.env.scope k=bD->PE X k (HW C (ev Γ e))
 |.var i,X,k,g,h=>by
  have⟨x,L,rfl,G⟩:=aj h;clear h;have h:=G;simp only[b8,ĸ]at h;have⟨h3,h4⟩:=ay h.2;show om h.1.1 (bV h.1.2) h3 h4
 |.cst u,X,k,g,h=>by
  have⟨c,q0,L,rfl,G⟩:=lz h;cases c with
  |int j=>have:=cv G;subst this;show iT qI λ_ _=>rfl
  |str y=>have:=cv G;subst this;show iT wq λ_ _=>rfl
  |bool y=>have:=cv G;subst this;show iT Ca λ_ _=>rfl
  |none=>have:=cv G;subst this;show iT wo λ_ _=>rfl
  |_=>cases G
 |.Kx x u,X,k,g,h=>by
  have⟨y,L,rfl,G⟩:=aj h;clear h;have h:=G;simp only[b8,ĸ,Rx]at h;obtain⟨⟨⟨rfl,J⟩,O⟩,p,hp,e1,e2⟩:=h;have:=cv e2;subst this e1;have⟨val,v,q1,q2,q3⟩:=g.KY p hp;show iT (zQ (c6 J) q1 q2 (ay O).1) q3
 |.bin op a b,X,k,g,h=>by
  have⟨a',Li,b',L,rfl,G⟩:=rR h;clear h;have h:=G;simp only[b8,ĸ]at h;obtain⟨⟨rfl,J⟩,O⟩:=h;show AK g.K (bE a X _ g J) (bE b X _ g O)
 |.cmp op a b,X,k,g,h=>by
  have⟨a',Li,b',L,rfl,A⟩:=dH h;have h:=A;simp only[b8,ĸ,uk]at h;obtain⟨⟨⟨rfl,h0⟩,J⟩,O⟩:=h;show AL g.P g.w g.K g.u (bE a X _ g J) (bE b X _ g O) h0
 |.LU o1 o2 a b c,X,k,g,h=>absurd (show cb=bD from h) mx
 |.and es,X,k,g,h=>by
  have⟨HN,L,rfl,G⟩:=gF h;clear h;have h:=G;show yA es X _ g h
 |.or es,X,k,g,h=>by
  have⟨HN,L,rfl,G⟩:=gF h;clear h;have h:=G;show Cy es X _ g h
 |.not a,X,k,g,h=>by
  have⟨a',L,rfl,G⟩:=jq h;clear h;have h:=G;show AN (bE a X _ g h)
 |.neg a,X,k,g,h=>by
  have⟨a',L,rfl,G⟩:=jq h;clear h;have h:=G;show AO (bE a X _ g h)
 |.bad,X,k,g,h=>ie
 |.IS i,X,k,g,h=>by
  have⟨o,m,q,rfl,A⟩:=bN h;have⟨x,px,rfl,B⟩:=aj A;simp only[b8,ĸ]at B;have⟨rfl,J⟩:=B;have⟨w1,w2,w3,w4⟩:=ff J;obtain⟨cl,_,_,K,_⟩:=g.Ja.sh.ex;show yi K g.K w1 w2 w3 w4
 |.K_ i,X,k,g,h=>by
  have⟨f',as,L,rfl,A⟩:=aQ h;have⟨f,p1,rfl,B⟩:=aj A;have⟨a',rfl,z3⟩:=aM B;have⟨o,m,q,rfl,z4⟩:=bN z3;have⟨x,px,rfl,z5⟩:=aj z4;simp only[b8,ĸ]at z5;obtain⟨⟨⟨rfl,rfl⟩,J⟩,O⟩:=z5;have⟨w1,w2,w3,w4⟩:=ff O;obtain⟨cl,_,_,K,_⟩:=g.Ja.sh.ex;show yj K g.K w1 w2 w3 w4 (c6 J) (g.blt _ (by decide))
 |.J' i,X,k,g,h=>ie
 |.jY i,X,k,g,h=>by
  have⟨o,m,apos,as,HL,rfl,A⟩:=aW h;have⟨o2,m2,q,rfl,B⟩:=bN A;have⟨x,px,rfl,z3⟩:=aj B;simp only[b8,ĸ,ya]at z3;obtain⟨⟨⟨⟨rfl,rfl⟩,rfl⟩,J⟩,O⟩:=z3;have⟨w1,w2,w3,w4⟩:=ff O;obtain⟨cl,_,_,K,_⟩:=g.Ja.sh.ex;show ym K g.K w1 w2 w3 w4 J
 |.IZ f i es IX,X,k,g,h=>by
  have⟨f',as,L,rfl,A⟩:=aQ h;have⟨x,p1,rfl,B⟩:=aj A;simp only[b8,ĸ]at B;obtain⟨⟨⟨⟨⟨⟨J,O⟩,h3⟩,h4⟩,Y⟩,h6⟩,h7⟩:=B;have⟨e1,e2,e3⟩:=Vx Y h6 h7;show yz g (Es es IX X as g Y h6 (gS IX X _ g h7)) e1 e2 J O h3 h4
 |.JK f m i es,X,k,g,h=>by
  have⟨o,y,apos,as,HL,rfl,A⟩:=aW h;have⟨x,px,rfl,B⟩:=aj A;simp only[b8,ĸ]at B;obtain⟨⟨⟨⟨⟨⟨rfl,O⟩,⟨h3,h4⟩,Y⟩,h6⟩,h8⟩,h9⟩,h7⟩:=B;show Gp g (gS es X as g h7) (bJ h7) (λz=>by subst z;cases es with|nil=>rfl|cons _ _=>simp[az]at h7) h8 h9 O ⟨h3,h4,Y⟩ h6
 |.pop i,X,k,g,h=>by
  have⟨o,m,apos,as,HL,rfl,A⟩:=aW h;have⟨x,px,rfl,B⟩:=aj A;simp only[b8,ĸ,ya]at B;obtain⟨⟨⟨⟨⟨rfl,rfl⟩,J⟩,O⟩,h3⟩,h4⟩:=B;have⟨q1,q2⟩:=ay h3;show Bl J (bV O) q1 q2 h4 g.K
 |.MD i a,X,k,g,h=>by
  have⟨o,m,apos,as,HL,rfl,A⟩:=aW h;have⟨x,px,rfl,B⟩:=aj A;have⟨a',rfl,z3⟩:=aM B;simp only[b8,ĸ]at z3;obtain⟨⟨⟨⟨⟨⟨rfl,J⟩,O⟩,h3⟩,h4⟩,Y⟩,h6⟩:=z3;have⟨q1,q2⟩:=ay h3;have sa:=aN (pos:=HL) (env:=X.env) (es:=[a']) λe he=>by rw[nc.mp he];show Y
  show yf g.K J (bV O) q1 q2 (bE a X _ g h6) (by rw[sa.2];rfl) h4 (a_ Y)
 |.LV f es is,X,k,g,h=>by
  have⟨f',as,L,rfl,A⟩:=aQ h;have⟨x,p1,rfl,B⟩:=aj A;show Er g (gS es X _ g (dI B)) B
 |.Ng a,X,k,g,h=>by
  have⟨a',b',L,rfl,A⟩:=cF h;rw[b8]at A;have⟨kx,p1,p3,p2,rfl⟩:=vK A.1;show AZ g.K (bE a X _ g A.2)
 |.inD neg a i,X,k,g,h=>by
  have⟨a',Li,b',L,rfl,A⟩:=dH h;have⟨x,p1,rfl,B⟩:=aj A;have h:=B;simp only[b8,ĸ,uk]at h;obtain⟨⟨⟨⟨⟨rfl,h0⟩,J⟩,O⟩,h3⟩,h4⟩:=h;have⟨q1,q2⟩:=ay h3;show Be g.u J (bV O) q1 q2 (bE a X _ g h4) h0
 |.OG i,X,k,g,h=>by
  have⟨x,L,rfl,G⟩:=aj h;clear h;have h:=G;simp only[b8,ĸ]at h;have⟨h3,h4⟩:=ay h.2;show Bd h.1.1 (bV h.1.2) h3 h4
 |.Kz i a b,X,k,g,h=>by
  have⟨o,m,apos,as,HL,rfl,A⟩:=aW h;have⟨x,px,rfl,B⟩:=aj A;have⟨a',b',rfl,z3⟩:=ly B;clear h A;have B:=z3;simp only[b8,ĸ]at B;obtain⟨⟨⟨⟨⟨⟨⟨⟨rfl,J⟩,O⟩,h3⟩,h4⟩,Y⟩,h6⟩,h7⟩,h8⟩:=B;have⟨q1,q2⟩:=ay h3;have sa:=aN (pos:=HL) (env:=X.env) (es:=[a',b']) λe he=>by
   rcases gj.mp he with rfl|he
   .show Y
   .simp at he;subst he;show h6
  show yd g.u J (bV O) q1 q2 (bE a X _ g h7) (bE b X _ g h8) ⟨rfl,by rw[sa.2];rfl,h4,by rw[a_ Y,a_ h6];rfl⟩
 |.OH i,X,k,g,h=>by
  obtain⟨f',as,_,rfl,A⟩:=aQ h;obtain⟨f,_,rfl,B⟩:=aj A;have⟨c,rfl,z3⟩:=aM B;have⟨o,m,apos,bs,HL,rfl,z4⟩:=aW z3;have⟨x,px,rfl,z5⟩:=aj z4;simp only[b8,ĸ,ya]at z5;obtain⟨⟨⟨⟨⟨⟨⟨rfl,rfl⟩,J⟩,rfl⟩,h3⟩,h4⟩,Y⟩,h6⟩:=z5;have⟨q1,q2⟩:=ay Y;show Bj g.calm g.K (c6 J) (g.blt _ (by decide +kernel)) h3 (bV h4) q1 q2 h6
 |.QU ln a b,X,k,g,h=>ie
 |.fst es,X,k,g,h=>ie
 |.QT a T,X,k,g,h=>ie
 |.ite c a b,X,k,g,h=>absurd (show cb=bD from h) mx
 |.tup es,X,k,g,h=>by
  have⟨l,q0,L,rfl,G⟩:=lA h;clear h;have h:=G;show AU (gS es X _ g h)
 |.lst es,X,k,g,h=>by
  have⟨l,L,rfl,G⟩:=rS h;clear h;have h:=G;show AV (gS es X _ g h)
 |.JZ r,X,k,g,h=>by
  have⟨L,rfl⟩:=mZ h;show xR g.P g.w r
 |.idx a b,X,k,g,h=>by
  have⟨a',b',L,rfl,G⟩:=cF h;clear h;have h:=G;simp only[b8]at h;show AW g.K g.u (qf h.1.1) (bE a X _ g h.1.2) (bE b X _ g h.2)
 |.Ky a lo hi,X,k,g,h=>by
  have⟨a',b',L,rfl,A⟩:=cF h;have⟨Vw,Lc,p1,rfl,G⟩:=rT A;clear h A;simp only[b8]at G;show AY g.K (bE a X _ g G.1.1) (Gr lo X _ g G.1.2) (Gr hi X _ g G.2)
 |.bi f es,X,k,g,h=>by
  have⟨f',as,L,rfl,A⟩:=aQ h;have⟨x,p1,rfl,B⟩:=aj A;have h:=B;show Gk g (gS es X _ g (dI h)) h
 |.Nf f es,X,k,g,h=>by
  have⟨f',as,L,rfl,A⟩:=aQ h;have⟨x,p1,rfl,B⟩:=aj A;have⟨c,rfl,z3⟩:=aM B;have⟨g',as',p2,rfl,z4⟩:=aQ z3;have⟨y,p3,rfl,z5⟩:=aj z4;have h:=z5;show Gm g (gS es X _ g (dI h)) h
 |.KS m a es,X,k,g,h=>by
  have⟨o,name,apos,as,HL,rfl,A⟩:=aW h;have h:=A;have h':=h;simp only[b8]at h';show Gn g (bE a X _ g h'.1.2) (gS es X _ g (dI h)) h
 |.call f es,X,k,g,h=>by
  have⟨f',as,L,rfl,A⟩:=aQ h;have⟨x,p1,rfl,B⟩:=aj A;have h:=B;show yy g (gS es X _ g (dI h)) h
 |.comp n t ik src cond e,X,k,g,h=>by
  have⟨elt,tg,ab,ag,scope,L,rfl,G⟩:=jr h;clear h;have h:=G;simp only[b8,ĸ]at h;obtain⟨⟨⟨⟨⟨⟨⟨J,O⟩,h3⟩,h4⟩,Y⟩,h6⟩,h7⟩,h8⟩:=h;subst J;have S:=xn (X:=X) rfl (m7 _ _) O;split at Y
  .rename_i as al;have HU:=bJ Y;have hI:PI X tg ab (LX C ik (aR Γ src)):=Cv g al (gS src X _ g Y) (λa e=>by
    subst e;cases src with
    |nil=>simp[az]at Y
    |cons e1 IW =>
     cases IW with
     |nil =>
      simp only[az,b8]at Y;show⟨e1,rfl,bE e1 X _ g Y.1.2⟩
     |cons _ _=>simp[az]at Y) HU
   show x6 S g.calm hI (λD s H ex=>t6 (fa:=λx=>cK (scope.names.lookup x=a5 .cell)) g.calm g.K S.nd (λ_ z=>z) h3)
    (λD s H ex=>by
     cases ag with
     |nil =>
      cases cond with
      |nil=>show λac s σ H Q I ⟨c0,e1,e2,ok,w⟩=>sX ac s σ H Q I (by subst e1 e2;rw[show aO Γ []=pure bD from rfl,ao]at w;show w c0 rfl rfl ok (Nx.refl c0))
      |cons _ _=>simp[az]at h7
     |cons c1 cs =>
      cases cs with
      |nil =>
       cases cond with
       |nil=>simp[az]at h7
       |cons e1 IW =>
        cases IW with
        |nil =>
         simp only[az,b8]at h7;show sY (oG e1 (Jo X _ scope D s H ex) c1 (g.cx _ _ _ _ _ _) h7.1.2)
        |cons _ _=>simp[az]at h7
      |cons _ _=>simp at h6)
    (λD s H ex=>bE e (Jo X _ scope D s H ex) elt (g.cx _ _ _ _ _ _) h8) (rW h4)
  .cases Y
theorem gS:∀(es:List E) (X:Cx) (a:List pb),Gd ck Γ C d X->az ck es X.N X.env.scope a=bD->PA X a (Jh C (aR Γ es))
 |[],X,a,g,h=>by
  cases a with
  |nil=>show AS
  |cons _ _=>simp[az]at h
 |e::es,X,a,g,h=>by
  cases a with
  |nil=>simp[az]at h
  |cons b a =>
   simp only[az,b8]at h;show xP (bE e X b g h.1.2) (gS es X a g h.2) (a_ h.1.1)
theorem Es:∀(es b:List E) {i:Nat} (X:Cx) (as:List pb),Gd ck Γ C d X->Qc X.N X.env.scope i as[es.length]?=bD->az ck es X.N X.env.scope (as.take es.length)=bD->PA X (as.drop (es.length+1)) (Jh C (aR Γ b))->PA X as (oB C es.length i (aR Γ es >>= λr1=>aR Γ b >>= λr2=>pure (r1++r2)))
 |[],b,i,X,as,g,f,c,h=>by
  have⟨y,p,e,z⟩:=qe f;have⟨j,k,l,m⟩:=ff z;cases as with
  |nil=>cases e
  |cons a as =>
   cases e;show PA.Gq (Bq j k l m h) λst Q w=>by
    rw[ah,show aR Γ []=pure [] from rfl,ao,ah]at w;show w.mono λa st' z=>by rw[ao]at z;show z
 |e::es,b,i,X,as,g,f,c,h=>by
  cases as with
  |nil=>cases f
  |cons a as =>
   simp only[lx,List.take_succ_cons,az,b8]at c;show PA.Gq (Br (bE e X a g c.1.2) (Es es b (i:=i) X as g f c.2 h) (a_ c.1.1)) λst Q w=>?_;rw[ah,show aR Γ (e::es)=(ev Γ e >>= λr=>aR Γ es >>= λrs=>pure (r::rs)) from rfl,ah]at w;rw[ah];show w.mono λr st1 w=>?_;rw[ah]at w;rw[ah,ah];show w.mono λr1 st2 w=>?_;rw[ao,ah]at w;rw[ah];show w.mono λr2 n w=>?_;rw[ao]at w;rw[ao,ao];show w
theorem Gr:∀(es:List E) (X:Cx) (o:Option pb),Gd ck Γ C d X->rV ck es X.N X.env.scope o=bD->PO X o (tO C (NU Γ es))
 |[],X,o,g,h=>by
  cases o with
  |none=>show vA
  |some _=>simp[rV]at h
 |[e],X,o,g,h=>by
  cases o with
  |none=>simp[rV]at h
  |some a=>simp only[rV]at h;show vB (bE e X a g h)
 |_::_::_,X,o,g,h=>by simp[rV]at h
theorem yA:∀(es:List E) (X:Cx) (a:List pb),Gd ck Γ C d X->az ck es X.N X.env.scope a=bD->∀{pos},PE X (.BoolOp .And a pos) (HW C (iQ Γ es))
 |[],X,a,g,h,pos=>ie
 |[e],X,a,g,h,pos=>by
  cases a with
  |nil=>simp[az]at h
  |cons b a =>
   cases a with
   |nil=>simp only[az,b8]at h;show wx (bE e X b g h.1.2)
   |cons _ _=>simp[az]at h
 |e::c::es,X,a,g,h,pos=>by
  cases a with
  |nil=>simp[az]at h
  |cons b a =>
   have h':noStar b=bD/\bz ck e X.N X.env.scope b=bD/\az ck (c::es) X.N X.env.scope a=bD:=by
    rw[az]at h;simp only[b8]at h;show⟨h.1.1,h.1.2,h.2⟩
   cases a with
   |nil=>have:=h'.2.2;simp[az]at this
   |cons e2 f=>show snd_and (bE e X b g h'.2.1) (yA (c::es) X _ g h'.2.2)
theorem Cy:∀(es:List E) (X:Cx) (a:List pb),Gd ck Γ C d X->az ck es X.N X.env.scope a=bD->∀{pos},PE X (.BoolOp .Or a pos) (HW C (AH Γ es))
 |[],X,a,g,h,pos=>ie
 |[e],X,a,g,h,pos=>by
  cases a with
  |nil=>simp[az]at h
  |cons b a =>
   cases a with
   |nil=>simp only[az,b8]at h;show wx (bE e X b g h.1.2)
   |cons _ _=>simp[az]at h
 |e::c::es,X,a,g,h,pos=>by
  cases a with
  |nil=>simp[az]at h
  |cons b a =>
   have h':noStar b=bD/\bz ck e X.N X.env.scope b=bD/\az ck (c::es) X.N X.env.scope a=bD:=by
    rw[az]at h;simp only[b8]at h;show⟨h.1.1,h.1.2,h.2⟩
   cases a with
   |nil=>have:=h'.2.2;simp[az]at this
   |cons e2 f=>show DX (bE e X b g h'.2.1) (Cy (c::es) X _ g h'.2.2)
theorem oG:∀(e:E) (X:Cx) (j:pb),Gd ck Γ C d X->bz ck e X.N X.env.scope j=bD->PT X j (Jz C (Ib Γ e))
 |.and es,X,j,g,h=>by
  have⟨HN,s,rfl,l⟩:=gF h;clear h;have h:=l;show(t8 es X _ g h).pt
 |.or es,X,j,g,h=>by
  have⟨HN,s,rfl,l⟩:=gF h;clear h;have h:=l;show(yB es X _ g h).pt
 |.not a,X,j,g,h=>by
  have⟨a',s,rfl,l⟩:=jq h;clear h;have h:=l;show AQ (oG a X _ g h)
 |.cmp op a b,X,j,g,h=>by
  have⟨a',G,H,s,rfl,k⟩:=dH h;have h:=k;simp only[b8,ĸ,uk]at h;obtain⟨⟨⟨rfl,B⟩,v⟩,y⟩:=h;show AM g.P g.w g.K g.u (bE a X _ g v) (bE b X _ g y) B
 |.LU o1 o2 a b c,X,j,g,h=>absurd (show cb=bD from h) mx
 |.var i,X,j,g,h=>by
  have⟨x,s,rfl,l⟩:=aj h;simp only[b8,ĸ]at l;have⟨z,A⟩:=ay l.2;show j6 (om l.1.1 (bV l.1.2) z A) g.K λ_=>rfl
 |.idx a b,X,j,g,h=>aZ
 |.bi f es,X,j,g,h=>by
  have⟨f',as,s,rfl,k⟩:=aQ h;have⟨x,D,rfl,p⟩:=aj k;have h:=p;show PT.eqv (j6 (Gk g (gS es X _ g (dI h)) h) g.K λ_=>rfl) λst Q w=>Cw w
 |.Nf f es,X,j,g,h=>aZ
 |.KS m a es,X,j,g,h=>aZ
 |.call f es,X,j,g,h=>by
  have⟨f',as,s,rfl,k⟩:=aQ h;have⟨x,D,rfl,p⟩:=aj k;have h:=p;show PT.eqv (j6 (yy g (gS es X _ g (dI h)) h) g.K λ_=>rfl) λst Q w=>Cw w
 |.cst u,X,j,g,h=>aZ
 |.fst es,X,j,g,h=>aZ
 |.Kx x u,X,j,g,h=>aZ
 |.Ng a,X,j,g,h=>aZ
 |.neg a,X,j,g,h=>aZ
 |.QT a T,X,j,g,h=>aZ
 |.bad,X,j,g,h=>aZ
 |.IS i,X,j,g,h=>aZ
 |.K_ i,X,j,g,h=>aZ
 |.J' i,X,j,g,h=>by
  have⟨a',G,H,s,rfl,k⟩:=dH h;have⟨o,m,q,rfl,p⟩:=bN k;have⟨x,px,rfl,I⟩:=aj p;simp only[b8,ĸ]at I;obtain⟨⟨⟨v,rfl⟩,rfl⟩,y⟩:=I;have⟨p2,rfl⟩:=vL v;have⟨w1,w2,w3,w4⟩:=ff y;obtain⟨cl,_,_,K,_⟩:=g.Ja.sh.ex;show yk K g.K g.u w1 w2 w3 w4
 |.jY i,X,j,g,h=>aZ
 |.IZ f i es J,X,j,g,h=>by
  have⟨f',as,s,rfl,k⟩:=aQ h;have⟨x,D,rfl,p⟩:=aj k;simp only[b8,ĸ]at p;obtain⟨⟨⟨⟨⟨⟨v,y⟩,z⟩,A⟩,L⟩,O⟩,Y⟩:=p;have⟨e1,e2,e3⟩:=Vx L O Y;show j6 (yz g (Es es J X as g L O (gS J X _ g Y)) e1 e2 v y z A) g.K λ_=>rfl
 |.JK f m i es,X,j,g,h=>aZ
 |.pop i,X,j,g,h=>aZ
 |.MD i a,X,j,g,h=>aZ
 |.LV f es is,X,j,g,h=>aZ
 |.inD neg a i,X,j,g,h=>by
  have⟨a',G,H,s,rfl,k⟩:=dH h;have⟨x,D,rfl,p⟩:=aj k;have h:=p;simp only[b8,ĸ,uk]at h;obtain⟨⟨⟨⟨⟨rfl,B⟩,v⟩,y⟩,z⟩,A⟩:=h;have⟨q1,q2⟩:=ay z;show Bg g.u v (bV y) q1 q2 (bE a X _ g A) B
 |.OG i,X,j,g,h=>aZ
 |.QU ln a b,X,j,g,h=>aZ
 |.OH i,X,j,g,h=>aZ
 |.Kz i a b,X,j,g,h=>aZ
 |.bin op a b,X,j,g,h=>aZ
 |.ite c a b,X,j,g,h=>aZ
 |.tup es,X,j,g,h=>aZ
 |.lst es,X,j,g,h=>aZ
 |.JZ r,X,j,g,h=>aZ
 |.Ky a lo hi,X,j,g,h=>aZ
 |.comp n t ik src cond e,X,j,g,h=>aZ
theorem t8:∀(es:List E) (X:Cx) (a:List pb),Gd ck Γ C d X->az ck es X.N X.env.scope a=bD->∀{pos},PW X (.BoolOp .And a pos) (Jz C (aO Γ es))
 |[],X,a,g,h,pos=>by
  cases a with
  |nil =>
   rintro j c s σ H Q I ⟨c0,rfl,rfl,i,w⟩;rw[show aO Γ []=pure bD from rfl,ao]at w;show Ķ ⟨c0.H,I,w c0 rfl rfl i (Nx.refl c0)⟩
  |cons _ _=>simp[az]at h
 |[e],X,a,g,h,pos=>by
  cases a with
  |nil=>simp[az]at h
  |cons b a =>
   cases a with
   |nil=>simp only[az,b8]at h;show zR (oG e X b g h.1.2)
   |cons _ _=>simp[az]at h
 |e::f::es,X,a,g,h,pos=>by
  cases a with
  |nil=>simp[az]at h
  |cons b a =>
   have h':noStar b=bD/\bz ck e X.N X.env.scope b=bD/\az ck (f::es) X.N X.env.scope a=bD:=by
    rw[az]at h;simp only[b8]at h;show⟨h.1.1,h.1.2,h.2⟩
   cases a with
   |nil=>have:=h'.2.2;simp[az]at this
   |cons e2 k=>show AR (oG e X b g h'.2.1) (t8 (f::es) X _ g h'.2.2)
theorem yB:∀(es:List E) (X:Cx) (a:List pb),Gd ck Γ C d X->az ck es X.N X.env.scope a=bD->∀{pos},PW X (.BoolOp .Or a pos) (Jz C (jI Γ es))
 |[],X,a,g,h,pos=>by
  cases a with
  |nil =>
   rintro j c s σ H Q I ⟨c0,rfl,rfl,i,w⟩;rw[show jI Γ []=pure cb from rfl,ao]at w;show isTrue_or_nil ⟨c0.H,I,w c0 rfl rfl i (Nx.refl c0)⟩
  |cons _ _=>simp[az]at h
 |[e],X,a,g,h,pos=>by
  cases a with
  |nil=>simp[az]at h
  |cons b a =>
   cases a with
   |nil=>simp only[az,b8]at h;show CP (oG e X b g h.1.2)
   |cons _ _=>simp[az]at h
 |e::f::es,X,a,g,h,pos=>by
  cases a with
  |nil=>simp[az]at h
  |cons b a =>
   have h':noStar b=bD/\bz ck e X.N X.env.scope b=bD/\az ck (f::es) X.N X.env.scope a=bD:=by
    rw[az]at h;simp only[b8]at h;show⟨h.1.1,h.1.2,h.2⟩
   cases a with
   |nil=>have:=h'.2.2;simp[az]at this
   |cons e2 k=>show DY (oG e X b g h'.2.1) (yB (f::es) X _ g h'.2.2)
end
def Gu(g:Gd ck Γ C d X)(b:T_ e=bD)(h:bz ck e X.N X.env.scope f=bD):PE X f (vH C (ev Γ e)):=by
 cases e with
 |var i =>
  have⟨x,k,rfl,a⟩:=aj h;simp only[b8,ĸ]at a;have⟨l,m⟩:=ay a.2;show yb a.1.1 (bV a.1.2) l m
 |cst u =>
  have⟨c,n,k,rfl,a⟩:=lz h;cases c with
  |int j=>have:=cv a;subst this;show iW qI λ_ _=>rfl
  |str y=>have:=cv a;subst this;show iW wq λ_ _=>rfl
  |bool y=>have:=cv a;subst this;show iW Ca λ_ _=>rfl
  |none=>have:=cv a;subst this;show iW wo λ_ _=>rfl
  |_=>cases a
 |_=>cases b
end
abbrev Qd(b:M0)(x:Str)(a:Nat):pb->Bool
 |.ListComp elt gens s pos=>cK (b.names.lookup x=a5 .local)&&(a==pos.line)&&!(s.names.any λ(n,k)=>n==x&&(k==.local||k==.cell))
 |_=>cb
abbrev jK(s:NB)(k:pb->Bool):Bool:=match s with|.Expr e _=>k e|_=>cb
def c_(h:jK s k=bD):∃e p,s=.Expr e p/\k e=bD:=by
 unfold jK at h;split at h
 .show⟨_,_,rfl,h⟩
 .cases h
abbrev iZ(s:NB)(k:pb->pb->Bool):Bool:=match s with|.Assign ts v _=>cZ ts λt=>k t v|_=>cb
def cG(h:iZ s k=bD):∃t v p,s=.Assign [t] v p/\k t v=bD:=by
 unfold iZ at h;split at h
 .have⟨t,rfl,a⟩:=aM h;show⟨_,_,_,rfl,h⟩
 .cases h
abbrev yC(s:NB)(k:pb->Bool):Bool:=match s with|.Raise (a5 e) b6 _=>k e|_=>cb
def rX(h:yC s k=bD):∃e p,s=.Raise (a5 e) b6 p/\k e=bD:=by
 unfold yC at h;split at h
 .show⟨_,_,rfl,h⟩
 .cases h
abbrev yD(s:NB)(k:NB->ExceptHandler->Bool):Bool:=match s with|.Try b hs [] [] _=>cZ b λb=>cZ hs λh=>k b h|_=>cb
def rY(h:yD s k=bD):∃b a p,s=.Try [b] [a] [] [] p/\k b a=bD:=by
 unfold yD at h;split at h
 .have⟨b,rfl,c⟩:=aM h;have⟨a,rfl,d⟩:=aM c;show⟨_,_,_,rfl,d⟩
 .cases h
abbrev yE(s:ExceptHandler)(k:pb->Str->NB->Bool):Bool:=match s with|.ExceptHandler (a5 t) (a5 n) b _=>cZ b λb=>k t n b|_=>cb
def rZ(h:yE s k=bD):∃t n b p,s=.ExceptHandler (a5 t) (a5 n) [b] p/\k t n b=bD:=by
 unfold yE at h;split at h
 .have⟨b,rfl,a⟩:=aM h;show⟨_,_,_,_,rfl,a⟩
 .cases h
abbrev Et(s:NB)(k:Str->pb->Bool):Bool:=iZ s λt v=>aI t λy=>k y v
def m8(h:Et s k=bD):∃y p v a,s=.Assign [.Name y p] v a/\k y v=bD:=by
 have⟨t,v,a,rfl,z⟩:=cG h;have⟨y,p,rfl,z⟩:=aj z;show⟨y,p,v,a,rfl,z⟩
abbrev Eu(e:pb)(k:Str->Pos->Bool):Bool:=match e with|.Name x p=>k x p|_=>cb
def vM(h:Eu e k=bD):∃x p,e=.Name x p/\k x p=bD:=by
 unfold Eu at h;split at h
 .show⟨_,_,rfl,h⟩
 .cases h
abbrev yF(s:NB)(k:pb->Ü->pb->Bool):Bool:=match s with|.AugAssign t op b _=>k t op b|_=>cb
def r6(h:yF s k=bD):∃t op b p,s=.AugAssign t op b p/\k t op b=bD:=by
 unfold yF at h;split at h
 .show⟨_,_,_,_,rfl,h⟩
 .cases h
abbrev t9(s:NB)(k:Option pb->Bool):Bool:=match s with|.Return v _=>k v|_=>cb
def lC(h:t9 s k=bD):∃v p,s=.Return v p/\k v=bD:=by
 unfold t9 at h;split at h
 .show⟨_,_,rfl,h⟩
 .cases h
abbrev Gv(v:Option pb)(k:pb->Bool):Bool:=match v with|some e=>k e|none=>cb
def vN(h:Gv v k=bD):∃e,v=a5 e/\k e=bD:=by
 cases v with
 |none=>cases h
 |some e=>show⟨e,rfl,h⟩
abbrev yG(s:NB)(k:pb->List NB->List NB->Bool):Bool:=match s with|.If c a b _=>k c a b|_=>cb
def r_(h:yG s k=bD):∃c a b p,s=.If c a b p/\k c a b=bD:=by
 unfold yG at h;split at h
 .show⟨_,_,_,_,rfl,h⟩
 .cases h
abbrev yH(s:NB)(k:pb->pb->List NB->Bool):Bool:=match s with|.For t i b o _=>o.isEmpty&&k t i b|_=>cb
def sd(h:yH s k=bD):∃t i b p,s=.For t i b [] p/\k t i b=bD:=by
 unfold yH at h;split at h
 .rw[b8,ya]at h;have⟨rfl,h⟩:=h;show⟨_,_,_,_,rfl,h⟩
 .cases h
abbrev Ew(s:NB)(k:pb->List NB->Bool):Bool:=match s with|.While c b o _=>o.isEmpty&&k c b|_=>cb
def vO(h:Ew s k=bD):∃c b p,s=.While c b [] p/\k c b=bD:=by
 unfold Ew at h;split at h
 .rw[b8,ya]at h;have⟨rfl,h⟩:=h;show⟨_,_,_,rfl,h⟩
 .cases h
abbrev Gw(v:pb)(n c:Str):Bool:=Bw v "isinstance" λas=>tZ as λx y=>isNm x n&&isNm y c
def vP(h:Gw v n c=bD):∃b d e f,v=.Call (.Name "isinstance" b) [.Name n d,.Name c e] [] f:=by
 have⟨as,b,f,rfl,g⟩:=jt h;have⟨x,y,rfl,a⟩:=ly g;rw[b8]at a;have⟨d,rfl⟩:=gG a.1;have⟨e,rfl⟩:=gG a.2;show⟨_,_,_,_,rfl⟩
abbrev Gy(k:Ck)(x c:Str)(a:M0):Bool:=cK ((c,x)∈k.xd)&&JC a x&&bb x&&JC a c&&bb c&&JC a "isinstance"
abbrev Yh(k:Ck)(f m:Str)(i:Nat)(es:List E)(N:List Str)(a:M0)(v:pb):Bool:=c9 v λo b apos as c=>aI o λd=>cK (b=m)&&cK ((f,0,m)∈k.obs)&&(cK (m≠"")&&cK (m≠"rows")&&cK (m≠"earlier"))&&Lh N a i d&&(apos.endLine==c.line)&&cK (as.length<20)&&!as.isEmpty&&az k es N a as
mutual
noncomputable def yI(k:Ck):S->List Str->M0->NB->Bool
 |.set i e,N,d,s=>iZ s λt v=>Eu t λx p=>cK (N[i]?=a5 x)&&lr d x&&cK (d.kind=.function)&&bz k e N d v&&(dv v||Qd d x p.line v||(match v with|.ListComp _ _ _ _=>bD|_=>cb))&&(match e with|.comp _ _ _ _ _ _=>bD|_=>dv v)
 |.K' is e,N,d,s=>iZ s λt v=>t5 t λ_=>OP bD N d (λ_=>bD) is t&&dv v&&Ej v&&bz k e N d v
 |.put i a b,N,d,s=>iZ s λt h=>iY t λo a'=>aI o λx=>cK (N[i]?=a5 x)&&fY d x&&bb x&&dv h&&dX a'&&bz k a N d a'&&bz k b N d h
 |.app i e,N,d,s=>jK s λc=>c9 c λo m apos as l=>aI o λx=>cZ as λa=>cK (m="append")&&cK (N[i]?=a5 x)&&fY d x&&bb x&&(apos.endLine==l.line)&&noStar a&&bz k e N d a
 |.Kk _,_,_,_=>cb
 |.J0 i,N,d,s=>Et s λy v=>Bw v "Shelf" λas=>as.isEmpty&&cK (N[i]?=a5 y)&&lr d y&&JC d "Shelf"
 |.gM i e,N,d,s=>iZ s λt v=>eh t λo m _=>aI o λx=>aI v λ_=>cK (m="rows")&&Lh N d i x&&bz k e N d v
 |.La i,N,d,s=>jK s λc=>c9 c λo m apos as l=>eh o λo1 m1 _=>aI o1 λx=>cZ as λa=>eh a λo2 m2 _=>aI o2 λB=>cK (m="append")&&cK (m1="earlier")&&cK (m2="rows")&&cK (B=x)&&(apos.endLine==l.line)&&Lh N d i x
 |.MG y f m i es x c j,N,d,s=>yD s λb C=>yE C λt n D=>jK b λv=>Et D λz G=>isNm t x&&Gw G n c&&Gy k x c d&&Yh k f m i es N d v&&(cK (N[y]?=a5 z)&&lr d z&&cK (N[j]?=a5 n)&&cK (d.names.lookup n=a5 .local)&&bb n)
 |.ext i e,N,d,s=>jK s λc=>c9 c λo m apos as l=>aI o λx=>cZ as λa=>cK (m="extend")&&cK (N[i]?=a5 x)&&fY d x&&bb x&&(apos.endLine==l.line)&&noStar a&&bz k e N d a
 |.bad,_,_,_=>bD
 |.newD i,N,d,s=>iZ s λt v=>aI t λx=>Bv v&&cK (N[i]?=a5 x)&&lr d x
 |.putD i a b,N,d,s=>iZ s λt h=>iY t λo a'=>aI o λx=>cK (N[i]?=a5 x)&&fY d x&&bb x&&dv h&&dX a'&&bz k a N d a'&&bz k b N d h
 |.Ka i a e,N,d,s=>jK s λc=>c9 c λo m apos as l=>iY o λo' a'=>aI o' λx=>cZ as λb=>cK (m="append")&&cK (N[i]?=a5 x)&&fY d x&&bb x&&dX a'&&(apos.endLine==l.line)&&noStar b&&bz k a N d a'&&bz k e N d b&&T_ e
 |.aug sub i a e,N,d,s=>yF s λt op b=>iY t λo a'=>aI o λx=>cK (op=if sub=bD then .Sub else .Add)&&cK (N[i]?=a5 x)&&fY d x&&bb x&&dX a'&&bz k a N d a'&&bz k e N d b&&T_ e
 |.QV _,_,_,_=>cb
 |.exp e,N,d,s=>jK s λq=>dv q&&bz k e N d q
 |.ret e,N,d,s=>t9 s λv=>Gv v λq=>bz k e N d q
 |.ME,N,d,s=>t9 s λv=>v.isNone
 |.ite c a b,N,d,s=>yG s λu a' h=>bz k c N d u&&dJ k a N d a'&&dJ k b N d h
 |.Ip t is ik src body,N,d,s=>yH s λA g w=>OP t N d (λ_=>bD) is A&&rQ g&&(match f9 d A ik g with
    |some as=>az k src N d as
    |none=>cb)&&dJ k body N d w
 |.Mi c body,N,d,s=>Ew s λu w=>bz k c N d u&&dJ k body N d w
 |.brk,_,_,_=>cb
 |.cnt,_,_,_=>cb
 |.PL _,_,_,_=>cb
 |.MF c e,N,d,s=>yC s λr=>Bw r c λas=>cZ as λa=>cK (c∈k.xc)&&JC d c&&bb c&&noStar a&&bz k e N d a
 |.QW,_,_,_=>cb
noncomputable def dJ(k:Ck):List S->List Str->M0->List NB->Bool
 |[],_,_,a=>a.isEmpty
 |s::ss,N,b,a=>match a with
  |s'::a=>yI k s N b s'&&dJ k ss N b a
  |[]=>cb
end
section
variable{ck:Ck}{Γ:Tab}{C:Ct}{d:Nat}{X:Cx}
def lD(h:lr a x=bD):Loc a x:=by
 unfold lr at h;simp only[P1,ĸ]at h;show h
def i_(h:dv v=bD):PV v t a env=pure cb:=by
 cases v<;>first|rfl|cases h
def oH(h:dv v=bD):R0 [t] v a env=pure cb:=by
 rw[R0];show i_ h
def BB(h:dX i=bD):∀a b new,ĭ i a b new=(do L8 [new,a,b] (TB a b new);WK [new,a,b] [];pure .next):=by
 intro a b new;cases i<;>first|rfl|cases h
def t_(h:dX i=bD):∀v,Sz (.Subscript o i p) env v=(do
   let a <-L8 [v] (vr o env)
   let b <-L8 [v,a] (vr i env)
   S5 p
   L8 [v,a,b] (TB a b v)
   WK [v,a,b] []):=by
 intro v;cases i<;>first|rfl|cases h
structure Gs(ck:Ck)(Γ:Tab)(C:Ct)(d:Nat)(X:Cx):Prop where
 gd:Gd ck Γ C d X
 nd:X.N.Nodup
 fn:∀x,X.fn x=bD
 po:Yq (i5 X.prog X.w) X.A X.env X.xe
 kd:X.env.scope.kind=.function
 xs:OQ ck X.K X.mg
 xl:∀c H',C.xw (.str c) H'->∀C' T H pins σ s e s',PySem.W.nsIn X.K oT c=a5 (a5 (.ref C'))->Inv X pins σ H s->bX X.prog X.w X.stack H s e C' T .none H' s'->X.xe (.ref e) s'
 sk:X.stack=X.env::X.outer/\X.env.frame=a5 X.env.locals
def ua(g:Gd ck Γ C d X)(h:(match f9 X.env.scope i ik b with|some as=>az ck src X.N X.env.scope as|none=>cb)=bD):PI X i b (LX C ik (aR Γ src)):=by
 split at h
 .rename_i as c;show Cv g c (gS src X _ g h) (λa e=>by
   subst e;cases src with
   |nil=>simp[az]at h
   |cons f j =>
    cases j with
    |nil =>
     simp only[az,b8]at h;show⟨f,rfl,bE f X _ g h.1.2⟩
    |cons _ _=>simp[az]at h) (bJ h)
 .cases h
def lE{pos p a:Pos}(hk:X.env.scope.kind=.function):PV (.ListComp elt gens s pos) (a5 (.Name x p)) a.line X.env=pure (Qd X.env.scope x p.line (.ListComp elt gens s pos)):=by
 have b:X.env.blockKind=.function:=by
  unfold Env.blockKind;rw[hk];rfl
 change(pure (X.env.blockKind==.function&&X.env.kindOf x==a5 .local&&p.line==pos.line&&!(s.names.any λ(n,k)=>n==x&&(k==.local||k==.cell))):Sem Bool)=_;rw[b];unfold Qd;congr 1
 have:(X.env.kindOf x==a5 NameKind.local)=cK (X.env.scope.names.lookup x=a5 .local):=by
  unfold Env.kindOf;rw[Nm];simp
 rw[this];rfl
def Ey{src cond:List E}(G:Gs ck Γ C d X)(hi:X.N[i]?=a5 x)(v:lr X.env.scope x=bD)
  (h:bz ck (.comp n t ik src cond e) X.N X.env.scope (.ListComp elt [⟨m,a,b,0⟩] scope pos)=bD) (ns:Nat->Bool) (o:∀j,ns j=bD->j≠i) :
  L2.PS X (.Assign [.Name x p] (.ListComp elt [⟨m,a,b,0⟩] scope pos) K4) (IQ C ns (ev Γ (.comp n t ik src cond e) >>= λr=>eG i r >>= λ_=>pure .nx)):=by
 have g:=G.gd;have q:=bE (.comp n t ik src cond e) X _ g h;cases k:Qd X.env.scope x p.line (.ListComp elt [⟨m,a,b,0⟩] scope pos) with
 |false=>show Cs o G.nd hi (lD v) (.inl (G.fn x)) q (by rw[lE G.kd,k])
 |true =>
  have hl:X.env.scope.names.lookup x=a5 .local:=by
   simp only[Qd,b8,ĸ]at k;show k.1.1
  have⟨Yi,Y6,Vy,Yj,Ua,p',y,u⟩:=jr h;cases y;clear h q;simp only[b8,ĸ]at u;obtain⟨⟨⟨⟨⟨⟨⟨A,B⟩,J⟩,L⟩,O⟩,T⟩,c⟩,Y⟩:=u;subst A;have S:=xn (X:=X) rfl (m7 _ _) B;show Ea o S g.calm G.nd hi hl (ua g O) (λD s H ex=>t6 (fa:=λx=>cK (scope.names.lookup x=a5 .cell)) g.calm g.K S.nd (λ_ z=>z) J)
   (λD s H ex=>by
    cases b with
    |nil =>
     cases cond with
     |nil=>show λf s σ H Q I ⟨c0,l,e2,ok,w⟩=>sX f s σ H Q I (by subst l e2;rw[show aO Γ []=pure bD from rfl,ao]at w;show w c0 rfl rfl ok (Nx.refl c0))
     |cons _ _=>simp[az]at c
    |cons c1 cs =>
     cases cs with
     |nil =>
      cases cond with
      |nil=>simp[az]at c
      |cons l IW =>
       cases IW with
       |nil =>
        simp only[az,b8]at c;show sY (oG l (Jo X _ scope D s H ex) c1 (g.cx _ _ _ _ _ _) c.1.2)
       |cons _ _=>simp[az]at c
     |cons _ _=>simp at T)
   (λD s H ex=>bE e (Jo X _ scope D s H ex) elt (g.cx _ _ _ _ _ _) Y) (by rw[lE G.kd,k]) (rW L)
def BC(G:Gs ck Γ C d X)(h:yI ck (.MF c e) X.N X.env.scope s'=bD):L2.PS X s' (IQ C (OJ (.MF c e)) (exec Γ (.MF c e))):=by
 have⟨r,u,rfl,g⟩:=rX h;have⟨as,v,p2,rfl,i⟩:=jt g;have⟨a,rfl,f⟩:=aM i;simp only[b8,ĸ]at f;obtain⟨⟨⟨⟨j,k⟩,l⟩,m⟩,n⟩:=f;have⟨o,p,q,t⟩:=G.xs.xc _ j;show F9 G.gd.calm (c6 k) p (ay l).1 t (bE e X a G.gd n) (a_ (es:=[]) m) λH' w b σ s e s' I F=>G.xl _ H' w o b6 H' b σ s e s' q I F
def yJ(G:Gs ck Γ C d X)(h:yI ck (.J0 i) X.N X.env.scope s'=bD):L2.PS X s' (IQ C (OJ (.J0 i)) (exec Γ (.J0 i))):=by
 have⟨y,p,v,m,rfl,c⟩:=m8 h;have⟨as,p2,n,rfl,b⟩:=jt c;simp only[b8,ĸ,ya]at b;obtain⟨⟨⟨rfl,e⟩,f⟩,g⟩:=b;have⟨cl,o,q,K,M,F,k,l⟩:=G.gd.Ja.sh.ex;show Ei K G.gd.K (λj a=>by have a:cK (j≠i)=bD:=a;simpa using a) G.nd e (lD f) (.inl (G.fn _)) M F (G.gd.room.mono G.gd.Ja.lv) (c6 g) l k
def BD(G:Gs ck Γ C d X)(h:yI ck (.MG y f m i es x c j) X.N X.env.scope s'=bD):L2.PS X s' (IQ C (OJ (.MG y f m i es x c j)) (exec Γ (.MG y f m i es x c j))):=by
 have⟨b,hd,p,rfl,k⟩:=rY h;have⟨t0,n,l,Yc,rfl,q⟩:=rZ k;have⟨v,p4,rfl,r⟩:=c_ q;have⟨y',p6,v2,Vv,rfl,s⟩:=m8 r;clear h k q r;simp only[b8,ĸ,Gy]at s;obtain⟨⟨⟨⟨t,u⟩,⟨⟨⟨⟨b1,l⟩,b3⟩,b4⟩,L⟩,O⟩,z⟩,⟨⟨⟨Q,T⟩,Y⟩,d5⟩,A⟩:=s;have⟨p5,rfl⟩:=gG t;have⟨p8,p9,P',OO,rfl⟩:=vP u;have⟨o,m',apos,as,B,rfl,D⟩:=aW z;have⟨ox,px,rfl,H⟩:=aj D;simp only[b8,ĸ,uk]at H;obtain⟨⟨⟨⟨⟨⟨⟨rfl,g1⟩,⟨g2,g3⟩,g4⟩,g5⟩,g6⟩,g7⟩,g8⟩,I⟩:=H;clear t u z D;have a:=bJ I;obtain⟨np,fa,fd,ps,q1,_,q3,q2,q4,q5⟩:=(G.gd.Ja.o _ g1).ex;obtain⟨cl,_,_,K,_⟩:=G.gd.Ja.sh.ex;have⟨w1,w2,w3,w4⟩:=ff g5;have⟨Cc,Cd,r1,r2,r3,r4⟩:=G.xs.xd _ b1;have gn:Gd ck Γ C d X.Lm:=Gd.Lm G.gd;have ht:=tX (x:=ox) (y:=m') (px:=px) (apos:=apos) (pos:=B) (env:=X.env) (as:=as) (by rw[(aN a).2];change(bD&&bD&&cK (as.length+0+0<30))=bD;rw[ļ ⋯];rfl) g6;cases as with
 |nil=>cases g8
 |cons e0 J =>
  have st:=a_ (env:=X.env) (es:=J) (a e0 (by simp));have sn:=(aN (pos:=B) (env:=X.env) (es:=J) λe he=>a e (by simp[he])).1;show Gh (λn g=>by have g:(cK (n≠y)&&cK (n≠j))=bD:=g;simpa using g) G.nd Q (lD T) (G.fn _) Y d5 K G.gd.P G.gd.w G.gd.K w1 w2 w3 w4 rfl q5 q1 G.gd.room (q2 g2 cl K.hc) q4 ⟨g3,g4⟩ (gS es X.Lm _ gn I) st sn ht G.sk (c6 l) r3 (ay b3).1 (c6 b4) r1 r2 (ay L).1 r4 (c6 O) (G.gd.blt _ yx) (ay A).1 (ay A).2
mutual
theorem HH:∀(s:S) (X:Cx) (s':NB),Gs ck Γ C d X->yI ck s X.N X.env.scope s'=bD->L2.PS X s' (IQ C (OJ s) (exec Γ s))
 |.set i e,X,s',G,h=>by
  have⟨t,v,p1,rfl,g⟩:=cG h;have⟨x,p,rfl,k⟩:=vM g;clear h g;have h:=k;simp only[b8,ĸ]at h;obtain⟨⟨⟨⟨⟨l,r⟩,J⟩,A⟩,L⟩,O⟩:=h;have Jk:∀j,OJ (.set i e) j=bD->j≠i:=λj T=>Ŀ (show cK (j≠i)=bD from T);by_cases hc:dv v=bD
  .show Cs Jk G.nd l (lD r) (.inl (G.fn x)) (bE e X v G.gd A) (i_ hc)
  .cases e with
   |comp n t ik src cond e =>
    obtain⟨elt,tg,ab,ag,scope,p3,rfl,_⟩:=jr A;show Ey G l r A _ Jk
   |_=>show absurd O hc
 |.K' is e,X,s',G,h=>by
  have⟨t,v,p1,rfl,g⟩:=cG h;have⟨es,kk,p,rfl,k⟩:=lA g;clear h g;have h:=k;simp only[b8]at h;obtain⟨⟨⟨l,r⟩,J⟩,A⟩:=h;show Eb (λj T=>Ŀ (show cK (j∉is)=bD from T)) (bE e X v G.gd A) (t6 (fa:=λ_=>bD) G.gd.calm G.gd.K G.nd (λx _=>G.fn x) l) (oH r) ?_ rfl;cases v<;>first|rfl|cases J
 |.put i a b,X,s',G,h=>by
  have⟨t,v,p,rfl,g⟩:=cG h;have⟨o,a',p1,rfl,k⟩:=cF g;have⟨x,px,rfl,B⟩:=aj k;simp only[b8,ĸ]at B;obtain⟨⟨⟨⟨⟨⟨l,r⟩,J⟩,A⟩,L⟩,O⟩,h7⟩:=B;have⟨Y,q2⟩:=ay J;show F8 G.gd.P G.gd.w G.gd.K G.gd.u l (bV r) Y q2 (bE b X _ G.gd h7) (bE a X _ G.gd O) (oH A) rfl (t_ L)
 |.Kk _,X,s',G,h=>by cases h
 |.J0 i,X,s',G,h=>yJ G h
 |.gM i e,X,s',G,h=>by
  have⟨t,v,p1,rfl,g⟩:=cG h;have⟨o,m,q,rfl,k⟩:=bN g;have⟨x,px,rfl,B⟩:=aj k;have⟨y,py,rfl,z4⟩:=aj B;simp only[b8,ĸ]at z4;obtain⟨⟨rfl,l⟩,r⟩:=z4;have⟨w1,w2,w3,w4⟩:=ff l;obtain⟨cl,_,_,K,_⟩:=G.gd.Ja.sh.ex;show Ef K G.gd.K w1 w2 w3 w4 (bE e X _ G.gd r) rfl
 |.La i,X,s',G,h=>by
  have⟨c,p0,rfl,g⟩:=c_ h;have⟨o,m,apos,as,HL,rfl,k⟩:=aW g;have⟨o1,m1,Y,rfl,B⟩:=bN k;have⟨x,px,rfl,z4⟩:=aj B;have⟨a,rfl,z5⟩:=aM z4;have⟨o2,m2,q2,rfl,z6⟩:=bN z5;have⟨x2,Y7,rfl,z7⟩:=aj z6;simp only[b8,ĸ]at z7;obtain⟨⟨⟨⟨⟨rfl,rfl⟩,rfl⟩,rfl⟩,l⟩,r⟩:=z7;have⟨w1,w2,w3,w4⟩:=ff r;obtain⟨cl,_,_,K,_⟩:=G.gd.Ja.sh.ex;show Eg K G.gd.K w1 w2 w3 w4 l
 |.MG y f m i es x c j,X,s',G,h=>BD G h
 |.app i e,X,s',G,h=>by
  have⟨c,p0,rfl,g⟩:=c_ h;have⟨o,m,apos,as,HL,rfl,k⟩:=aW g;have⟨x,px,rfl,B⟩:=aj k;have⟨a,rfl,z4⟩:=aM B;simp only[b8,ĸ]at z4;obtain⟨⟨⟨⟨⟨⟨rfl,l⟩,r⟩,J⟩,A⟩,L⟩,O⟩:=z4;have⟨Y,q2⟩:=ay J;have st:=a_ (env:=X.env) (es:=[]) L;have sa:=(aN (pos:=HL) (env:=X.env) (es:=[a]) λe he=>by simp at he;subst he;show L).2;show F6 G.gd.K l (bV r) Y q2 (bE e X _ G.gd O) ?_ A st;rw[sa];rfl
 |.ext i e,X,s',G,h=>by
  have⟨c,p0,rfl,g⟩:=c_ h;have⟨o,m,apos,as,HL,rfl,k⟩:=aW g;have⟨x,px,rfl,B⟩:=aj k;have⟨a,rfl,z4⟩:=aM B;simp only[b8,ĸ]at z4;obtain⟨⟨⟨⟨⟨⟨rfl,l⟩,r⟩,J⟩,A⟩,L⟩,O⟩:=z4;have⟨Y,q2⟩:=ay J;have st:=a_ (env:=X.env) (es:=[]) L;have sa:=(aN (pos:=HL) (env:=X.env) (es:=[a]) λe he=>by simp at he;subst he;show L).2;show F7 G.gd.K l (bV r) Y q2 (bE e X _ G.gd O) ?_ A st;rw[sa];rfl
 |.bad,X,s',G,h=>λac sh σ H D I ⟨_,_,_,_,w⟩=>(ba.mp w).elim
 |.newD i,X,s',G,h=>by
  have⟨t,v,p1,rfl,g⟩:=cG h;have⟨x,p,rfl,k⟩:=aj g;clear h g;have h:=k;simp only[b8,ĸ]at h;have⟨p2,rfl⟩:=mZ h.1.1;show Ec (λj T=>Ŀ (show cK (j≠i)=bD from T)) G.nd h.1.2 (lD h.2) (.inl (G.fn _)) (i_ rfl)
 |.putD i a b,X,s',G,h=>by
  have⟨t,v,p,rfl,g⟩:=cG h;have⟨o,a',p1,rfl,k⟩:=cF g;have⟨x,px,rfl,B⟩:=aj k;simp only[b8,ĸ]at B;obtain⟨⟨⟨⟨⟨⟨l,r⟩,J⟩,A⟩,L⟩,O⟩,h7⟩:=B;have⟨Y,q2⟩:=ay J;show Ed G.gd.u l (bV r) Y q2 (bE b X _ G.gd h7) (bE a X _ G.gd O) (oH A) rfl (t_ L)
 |.Ka i a e,X,s',G,h=>by
  have⟨c,p0,rfl,g⟩:=c_ h;have⟨o,m,apos,as,HL,rfl,k⟩:=aW g;have⟨o',a',p1,rfl,B⟩:=cF k;have⟨x,px,rfl,z4⟩:=aj B;have⟨b,rfl,z5⟩:=aM z4;simp only[b8,ĸ]at z5;obtain⟨⟨⟨⟨⟨⟨⟨⟨⟨rfl,l⟩,r⟩,J⟩,A⟩,L⟩,O⟩,h7⟩,h8⟩,h9⟩:=z5;have ha:=Gu (C:=C) (Γ:=Γ) (d:=d) (ck:=ck) G.gd h9 h8;have⟨Y,q2⟩:=ay J;have st:=a_ (env:=X.env) (es:=[]) O;have sa:=(aN (pos:=HL) (env:=X.env) (es:=[b]) λe he=>by simp at he;subst he;show O).2;show Ee G.gd.K G.gd.u l (bV r) Y q2 ha (bE a X _ G.gd h7) (qf A) ?_ L st;rw[sa];rfl
 |.aug sub i a e,X,s',G,h=>by
  have⟨t,op,b,p,rfl,Q⟩:=r6 h;clear h;have h:=Q;have⟨o,a',p1,rfl,g⟩:=cF h;have⟨x,px,rfl,k⟩:=aj g;simp only[b8,ĸ]at k;obtain⟨⟨⟨⟨⟨⟨⟨rfl,l⟩,r⟩,J⟩,A⟩,L⟩,O⟩,h7⟩:=k;have ha:=Gu (C:=C) (Γ:=Γ) (d:=d) (ck:=ck) G.gd h7 O;have⟨Y,q2⟩:=ay J;show F_ l (bV r) Y q2 ha (bE a X _ G.gd L) (BB A)
 |.QV i,X,s',G,h=>absurd (show cb=bD from h) mx
 |.exp e,X,s',G,h=>by
  have⟨e',p,rfl,Q⟩:=c_ h;clear h;have h:=Q;simp only[b8]at h;show FX (bE e X _ G.gd h.2) (i_ h.1)
 |.ret e,X,s',G,h=>by
  have⟨v,p,rfl,Q⟩:=lC h;have⟨e',rfl,g⟩:=vN Q;clear h Q;have h:=g;show FY (bE e X _ G.gd h)
 |.ME,X,s',G,h=>by
  have⟨v,p,rfl,Q⟩:=lC h;cases v with
  |none=>show D_
  |some _=>cases Q
 |.ite c a b,X,s',G,h=>by
  have⟨c',a',b',p,rfl,Q⟩:=r_ h;clear h;have h:=Q;simp only[b8]at h;have ha:=lF a X _ G h.1.2;have hb:=lF b X _ G h.2;show FZ (oG c X _ G.gd h.1.1) (Jr.weak ha λD σ H z=>oz (λj T=>(IE.mp (show(JR a j&&JR b j)=bD from T)).1) z) (Jr.weak hb λD σ H z=>oz (λj T=>(IE.mp (show(JR a j&&JR b j)=bD from T)).2) z)
 |.Ip t is ik src body,X,s',G,h=>by
  have⟨tg,ab,Kc,p,rfl,Q⟩:=sd h;clear h;have h:=Q;rw[b8,b8,b8]at h;show F5 G.po G.gd.calm (ua G.gd h.1.2) (t6 (fa:=λ_=>bD) G.gd.calm G.gd.K G.nd (λx _=>G.fn x) h.1.1.1) (lF body X _ G h.2) (rW h.1.1.2) λj T=>by have T:(cK (j∉is)&&JR body j)=bD:=T;simpa using T
 |.Mi c body,X,s',G,h=>by
  have⟨c',Kc,p,rfl,Q⟩:=vO h;clear h;have h:=Q;simp only[b8]at h;show F0 G.po (oG c X _ G.gd h.1) (lF body X _ G h.2)
 |.brk,X,s',G,h=>absurd (show cb=bD from h) mx
 |.cnt,X,s',G,h=>absurd (show cb=bD from h) mx
 |.PL is,X,s',G,h=>absurd (show cb=bD from h) mx
 |.MF c e,X,s',G,h=>BC G h
 |.QW,X,s',G,h=>absurd (show cb=bD from h) mx
theorem lF:∀(ss:List S) (X:Cx) (a:List NB),Gs ck Γ C d X->dJ ck ss X.N X.env.scope a=bD->Jr X a (IQ C (JR ss) (execs Γ ss))
 |[],X,a,G,h=>by
  cases a with
  |nil=>show FW
  |cons _ _=>simp[dJ]at h
 |s::ss,X,a,G,h=>by
  cases a with
  |nil=>simp[dJ]at h
  |cons s' a =>
   simp only[dJ,b8]at h;have c:=HH s X s' G h.1;have e:=lF ss X a G h.2;show D9 (PS.weak c λD σ H z=>oz (λj b=>by simp only[JR,b8]at b;show b.1) z) (Jr.weak e λD σ H z=>oz (λj b=>by simp only[JR,b8]at b;show b.2) z)
end
end
section
variable{ck:Ck}{Γ:Tab}{d:Nat}{P:y0}{w:Jn}{K:PySem.W.Frag}{mg:Str->Option dV}{base:K1}
def ju{n i:Nat}(h:(start us n)[i]?=a5 (a5 (k,u))):us[i]?=a5 u/\k=if Ig u=bD then .loc else .any:=by
 unfold start at h;by_cases hi:i<us.length
 .rw[ro (by simpa using hi),k9]at h;rw[H4 hi]at h ⊢;simp only[SR,Ts,Ò]at h;have⟨a,b⟩:=h;subst b;show⟨rfl,a.symm⟩
 .rw[nH (by simp;lia),LC]at h;split at h<;>cases h
def dM{i:Nat}(h:vs[i]?=a5 v):(L2.start N vs)[i]?=a5 (a5 v):=by
 unfold L2.start;have hi:i<vs.length:=(d4.mp h).1;rw[ro (by simpa using hi),k9,h];rfl
def yK(m:∀a,c a->JH H a)(h:ar ⟨P,w,K,H,c,λ_=>False,p⟩ c H us vs)(q:N.length=n):Ok ⟨P,w,K,H,c,λ_=>False,p⟩ ⟨λ_=>False,H,L2.start N vs,start us n,λ_=>[]⟩:=by
 have f:∀(j:Nat) (u:U),(start us n)[j]?≠a5 (a5 (.A',u)):=λj u e=>by
  have:=(ju e).2;split at this<;>cases this
 show⟨λa o e _=>e,λa z=>z.elim,λa z=>⟨m a z,λz=>z⟩,λa z=>z.elim,?_,λi k u e=>?_,λi j k k' u u' r hk t g e2 x y=>?_,⟨λj u r e _=>(f j u e).elim,λi j a ⟨u,_,e,_⟩=>(f i u e).elim,λj a ⟨u,_,e,_⟩=>(f j u e).elim⟩⟩
 .have:=h.len;simp[start,L2.start,q];lia
 .have⟨g,e2⟩:=ju e;have⟨v,ev,b⟩:=h.get g;show⟨v,dM ev,?_⟩;subst e2;by_cases l:Ig u=bD
  .rw[Ĺ l];show Rep.Ig l b
  .rw[ĺ l];show Rep.mv (.up λa z=>.inl z) b
 .obtain⟨_,s⟩:=ju g;subst s;split at hk<;>cases hk
def oI(h:bP Γ fn us=a5 (.ok (k,u))):us.length=fn.np/\((k=.own\/k=.loc\/k=.any)/\(∃st',execs Γ fn.body (start us fn.ns)=a5 (.ok (.rt k u),st'))\/(k=.loc/\u=.HX/\∃st',execs Γ fn.body (start us fn.ns)=a5 (.ok .nx,st'))):=by
 unfold bP at h;split at h
 .rename_i hl;show⟨hl,?_⟩;split at h
  .rename_i e;cases h;show .inl ⟨.inl rfl,_,e⟩
  .rename_i e;cases h;show .inl ⟨.inr (.inl rfl),_,e⟩
  .rename_i e;cases h;show .inl ⟨.inr (.inr rfl),_,e⟩
  .rename_i e;cases h;show .inr ⟨rfl,rfl,_,e⟩
  .cases h
  .cases h
 .cases h
def qg(h:bP Γ fn us=a5 (.exc c)):us.length=fn.np/\∃st',execs Γ fn.body (start us fn.ns)=a5 (.ok (.rt .io (.str c)),st'):=by
 unfold bP at h;split at h
 .rename_i hl;show⟨hl,?_⟩;split at h
  .cases h
  .cases h
  .cases h
  .cases h
  .rename_i e;cases h;show⟨_,e⟩
  .cases h
 .cases h
def Cz{st:NB}(F:Mw K fn.name i st f fd)(S:dq N ps (aC st))(hN:N.length=fn.ns)(Kj:ps.length=fn.np)
  (N8:dJ ck fn.body N (aC st) (cp st)=bD) (t:∀x∈bR,mg x=b6) (y:∀g∈ck.fns,Bx P w K mg base d (Γ g) g)
  (KY:∀p∈ck.gl,∃val v,mg p.1=a5 val/\RelV v val/\∀(C:Ct) S H,Rep C S H p.2 v) (Ja:Q_ ck Γ P w K mg base d) (xs:OQ ck K mg):dR P w K mg base (K7 P w) (d+1) f fd ps (spT P w K (bP Γ fn) fn.np):=by
 have⟨oc,od,kV,ab,pm,an,J,ct,NA,rfl,lk,Ic⟩:=F.ex;show wL lk Ic S (λvs H Q E h=>h.1.trans Kj.symm) λA outer s H vs Q E L h=>?_;have⟨hl,us,r,q,O,Yk,B,b⟩:=h;have MM:=L.un;let l:Ct:=⟨P,w,K,H,q,λ_=>False,λu H'=>∃c,u=.str c/\∀j,PySem.W.nsIn K oT c=a5 (a5 (.ref j))->E (.ref j) b6 H'⟩
 have D:(NV P w K H q).Eqv l:=⟨rfl,rfl,rfl⟩
 have m:l.Eqv (NV P w K H q):=⟨rfl,rfl,rfl⟩
 have G:Gs ck Γ l d (pA (K7 P w) P w K mg base N i (aC st) f J A outer s H E) :=
  ⟨⟨rfl,rfl,rfl,by change(A.deeper (TY i (aC st) s.heap.objs.size f J)).units+60<L_;lia,rfl,L,t,y,λp hp=>let ⟨val,v,D,m,q3⟩:=KY p hp;⟨val,v,D,m,q3 _⟩,Ja⟩,S.nd,λ_=>rfl,Zg,S.kind,xs,
   λc H' ⟨c',e1,hE⟩ j T H2 Y σ s2 e s' hm I F=>by
    cases e1;show F.leave I.ok.frames rfl I.stack I.iu λT' Kg F'=>⟨e,j,T',H',rfl,F'.down I rfl rfl rfl,hE j hm⟩,rfl,rfl⟩
 show⟨_,lF fn.body _ _ G N8,⟨λ_=>False,H,L2.start N vs,start us fn.ns,λ_=>[]⟩,rfl,rfl,yK Yk (B.cg D) hN,?_⟩;cases r with
 |exc c =>
  obtain⟨_,st',e⟩:=qg O;show⟨_,st',e,λcf ec ok n kp=>⟨c,rfl,λj hC=>b j cf.H hC λa o z=>ok.same a o z λz=>z⟩⟩
 |ok x =>
 have⟨k,u⟩:=x;have⟨hk,b⟩:=b;obtain⟨_,Uc⟩:=oI O;have mk:∀(c:Cf),Ok l c->∀v,Ba l c k u v->Back (NV P w K H q) H c.H c.S k u v:=λc ok v r=>by
  show⟨λa o e=>ok.same a o e λz=>z,λa z=>ok.JY a z,λe=>?_,λe=>?_,λe=>?_⟩
  .subst e;have⟨r0,e,h1,h2,h3,h4⟩:=r;show⟨r0,e,h1,h2,h4.cg m⟩
  .subst e;show Rep.cg m r
  .subst e;show Rep.cg m r
 rcases Uc with⟨_,st',e⟩|⟨rfl,rfl,st',e⟩
 .rcases hk with rfl|rfl|rfl<;>show⟨_,st',e,λc ec ok n kp v r=>b v c.H c.S (mk c ok v r)⟩
 .show⟨_,st',e,λc ec ok n kp=>b .HX c.H c.S (mk c ok .HX rfl)⟩
def fg(h:(aY p us n)[i]?=a5 (a5 (k,u))):us[i]?=a5 u/\k=if i=p then .A' else if Ig u=bD then .loc else .any:=by
 unfold aY at h;by_cases hi:i<us.length
 .rw[ro (by simpa using hi),k9,Tz]at h;rw[H4 hi]at h ⊢;simp only[SR,Ts,Ò,VV]at h;have⟨a,b⟩:=h;subst b;show⟨rfl,a.symm⟩
 .rw[nH (by simp;lia),LC]at h;split at h<;>cases h
def bf.Vz{S:hH->Prop}(q:C.Eqv b)(f:∀x,b.JG x->C.JG x)(g:C.H₀=b.H₀)(i:∀x,C.IO x->b.IO x)(h:bf C S H r as (.ob u us)):bf b S H r as (.ob u us):=by
 have⟨cl,j,v,a,vs,e,o⟩:=h;show⟨cl,j,v,a,vs,e,by rw[Lv,<-q.K];show o.hc,o.ins,o.ne,λx c=>⟨(o.fr x c).1,λz=>(o.fr x c).2.1 (f x z),(o.fr x c).2.2.imp (λz=>by rw[<-g];show z) (i x)⟩,o.im,o.rep.cg q,o.lst,o.NT,o.JA.cg q⟩
def vQ(q:c.Eqv C)(g:c.JG=C.JG)(A:c.H₀=C.H₀)(h:c.IO=C.IO)(a:Eh c C.H₀ p r b us vs)(B:N.length=n):Ok C ⟨λ_=>False,C.H₀,L2.start N vs,aY p us n,λ_=>[b]⟩:=by
 have rt:∀(j:Nat) (k:Kd) (u:U),k.root=bD->(aY p us n)[j]?≠a5 (a5 (k,u)):=λj k u hk e=>by
  have:=(fg e).2;subst this;split at hk
  .cases hk
  .split at hk<;>cases hk
 have l:∀(j:Nat) (u:U),(aY p us n)[j]?=a5 (a5 (.A',u))->j=p:=λj u e=>by
  have:=(fg e).2;by_cases z:j=p
  .show z
  .rw[ĺ z]at this;split at this<;>cases this
 show⟨λa o e _=>e,λa z=>z.elim,λx z=>by have:=a.par x (g▸z);show⟨this.1,h▸this.2⟩,λx z=>?_,?_,λi k u e=>?_,λi j k k' u u' r hk L m e2 O Q=>(rt i k u hk m).elim,⟨λj u D e e2=>?_,λi j x ⟨u,_,e,_⟩ ⟨u',_,G,_⟩=>(l i u e).trans (l j u' G).symm,λj x _ ⟨i,k,u,hk,e,_⟩=>rt i k u hk e⟩⟩
 .have H:=(a.Vo x).mp (h▸z);obtain⟨u,ws,_,s⟩:=a.ob;obtain⟨o,ho,_⟩:=bf.there s x (by simpa using H);show⟨⟨o,ho⟩,o,ho⟩
 .have:=a.len;simp[aY,L2.start,B];lia
 .have⟨m,e2⟩:=fg e;by_cases z:i=p
  .rw[Ĺ z]at e2;subst e2 z;show⟨_,dM a.at_,r,rfl⟩
  .rw[ĺ z]at e2;have⟨v,b1,f⟩:=a.any i u z m;have f:=f.cg q;show⟨v,dM b1,?_⟩;subst e2;by_cases t:Ig u=bD
   .rw[Ĺ t];show Rep.Ig t f
   .rw[ĺ t];show Rep.mv (.up λa z=>.inl (g▸z)) f
 .have I:=l j u e;subst I;have y:(L2.start N vs)[j]?=a5 (a5 (.ref D)):=e2;rw[dM a.at_]at y;cases y;have⟨w,ws,J,s⟩:=a.ob;have:=(fg e).1;rw[J]at this;cases this;show s.Vz q (λx z=>g▸z) A λx z=>h▸z
def ub(h:eI Γ fn p body us=a5 (.ok r)):us.length=fn.np/\∃f st k u o,execs Γ body (aY p us fn.ns)=a5 (.ok f,st)/\PN f=a5 (k,u)/\OK p st=a5 o/\r=(k,.tup [u,o]):=by
 unfold eI at h;split at h
 .rename_i hl;show⟨hl.1,?_⟩;split at h
  .rename_i f st e;cases a:PN f with
   |none=>rw[a]at h;cases h
   |some c =>
    cases b:OK p st with
    |none=>rw[a,b]at h;cases h
    |some o =>
     rw[a,b]at h;cases h;show⟨f,st,c.1,c.2,o,e,a,b,rfl⟩
  .cases h
 .cases h
def Ez{st:NB}(F:Mw K x j st f fd)(S:dq N ps (aC st))(hN:N.length=fn.ns)(Kj:ps.length=fn.np)(Jk:JR body p=bD)
  (N8:dJ ck body N (aC st) (cp st)=bD) (ab:∀x∈bR,mg x=b6) (ac:∀g∈ck.fns,Bx P w K mg base d (Γ g) g)
  (KY:∀p∈ck.gl,∃val v,mg p.1=a5 val/\RelV v val/\∀(C:Ct) S H,Rep C S H p.2 v) (Ja:Q_ ck Γ P w K mg base d) (xs:OQ ck K mg):dR P w K mg base (K7 P w) (d+1) f fd ps (MQ P w K (eI Γ fn p body) fn.np p):=by
 have⟨oc,od,kV,al,pm,an,Jm,ct,NA,rfl,lk,Ic⟩:=F.ex;show wL lk Ic S (λvs H Q E h=>h.1.trans Kj.symm) λA outer s H vs Q E hr h=>?_;have⟨hl,us,k,u,o,D,IO,r,a,Iw,J,b⟩:=h;have MM:=hr.un;let m:Ct:=⟨P,w,K,H,D,IO,λu H'=>∃c,u=.str c/\∀t,PySem.W.nsIn K oT c=a5 (a5 (.ref t))->E (.ref t) b6 H'⟩
 have q1:(J2 P w K H D IO).Eqv m:=⟨rfl,rfl,rfl⟩
 have L:m.Eqv (J2 P w K H D IO):=⟨rfl,rfl,rfl⟩
 have G:Gs ck Γ m d (pA (K7 P w) P w K mg base N j (aC st) f Jm A outer s H E) :=
  ⟨⟨rfl,rfl,rfl,by change(A.deeper (TY j (aC st) s.heap.objs.size f Jm)).units+60<L_;lia,rfl,hr,ab,ac,λp hp=>let ⟨val,v,q1,L,q3⟩:=KY p hp;⟨val,v,q1,L,q3 _⟩,Ja⟩,S.nd,λ_=>rfl,Zg,S.kind,xs,
   λc H' ⟨c',i,hE⟩ t T H2 ag σ s2 e s' hm I F=>by
    cases i;show F.leave I.ok.frames rfl I.stack I.iu λT' Kg F'=>⟨e,t,T',H',rfl,F'.down I rfl rfl rfl,hE t hm⟩,rfl,rfl⟩
 show⟨_,lF body _ _ G N8,⟨λ_=>False,H,L2.start N vs,aY p us fn.ns,λ_=>[a]⟩,rfl,rfl,vQ (C:=m) q1 rfl rfl rfl J hN,?_⟩;obtain⟨_,O,st',k',u',o',e,i,e2,e3⟩:=ub Iw;cases e3;have B:∀(c:Cf),c.st=st'->Ok m c->Kept (JR body) ⟨λ_=>False,H,L2.start N vs,aY p us fn.ns,λ_=>[a]⟩ c->∀(k:Kd) (u:U) v,(k=.own->Ba m c .own u v)->(k=.loc->Ba m c .loc u v)->qc (J2 P w K H D IO) H c.H c.S r o k u v:=λc ec l kp k u v r1 r2=>by
  unfold OK at e2;split at e2
  rotate_left
  .cases e2
  rename_i uw ws Y;cases e2;rw[<-ec]at Y;have⟨v0,y1,r',y2⟩:=l.sl p _ _ Y;subst y2;have VA:=y1;rw[kp.1 p Jk,show(L2.start N vs)[p]?=a5 (a5 (.ref r)) from dM J.at_]at VA;cases VA;have rd:=l.dd.kd p _ _ Y y1;have⟨cl,dx,v1,a',JL,ea,ob⟩:=rd;have Yl:bf (J2 P w K H D IO) c.S c.H r [a'] (.ob uw ws):=bf.Vz L (λx z=>z) rfl (λx z=>z) ⟨cl,dx,v1,a',JL,rfl,ob⟩;show⟨λx y z1 z2=>l.same x y z1 z2,λx y z1=>?_,λx z=>l.JY x z,⟨a',((ob.fr a' (by simp)).2.2).symm,Yl,λhk=>?_⟩,λhk=>?_,λhk=>?_⟩
  .by_cases z:IO x
   .show(l.io x z).2
   .show⟨y,l.same x y z1 z⟩
  .obtain⟨q,rfl,_,_,h3,_⟩:=r1 hk;intro z;cases z;show h3 (.inr ⟨p,_,r,Y,y1,.inr (by rw[ea];simp)⟩)
  .obtain⟨q,rfl,h1,h2,_,h4⟩:=r1 hk;show⟨q,rfl,h1,h2,h4.cg L⟩
  .show Rep.cg L (r2 hk)
 show⟨O,st',e,λc ec l n kp=>?_⟩;have B:=B c ec l kp;rcases b with⟨hk,b⟩|⟨rfl,c',rfl,b⟩
 .cases O with
  |nx=>cases i;show b .HX c.H c.S (B .loc .HX .HX (λz=>by cases z) λ_=>rfl)
  |rt k0 u0 =>
   cases k0 with
   |own=>cases i;show λv r=>b v c.H c.S (B .own _ v (λ_=>r) λz=>by cases z)
   |loc=>cases i;show λv r=>b v c.H c.S (B .loc _ v (λz=>by cases z) λ_=>r)
   |io =>
    cases u0 with
    |str x=>cases i;rcases hk with z|z<;>cases z
    |_=>cases i
   |any=>cases i
   |bor _=>cases i
   |A'=>cases i
  |_=>cases i
 .have z:Fl.rt .io (.str c')=O:=by
   cases O with
   |rt k0 u0 =>
    cases k0 with
    |io =>
     cases u0 with
     |str x=>cases i;rfl
     |_=>cases i
    |own=>cases i
    |loc=>cases i
    |any=>cases i
    |bor _=>cases i
    |A'=>cases i
   |_=>cases i
  subst z;show⟨c',rfl,λt hC=>b t c.H c.S hC (B .io .HX .HX (λz=>by cases z) λz=>by cases z)⟩
abbrev Fn.bd(fn:Fn):List S:=match fn.ob with|some (_,b)=>b|none=>fn.body
abbrev Ra(fn:Fn):Bool:=match fn.ob with|some (p,b)=>JR b p|none=>bD
structure Ld(ck:Ck)(K:PySem.W.Frag)(mg:Str->Option dV)(fn:Fn)(m:Str):Prop where
 ex:∃(x qual:Str) (st:NB) (f:hH) (fd:R5) (N ps:List Str),Mw K x qual st f fd/\(m=""->x=fn.name/\mg fn.name=a5 (.ref f))/\(m≠""->∀cl,Lv K cl->Meth K cl m f)/\Binds K fd ps []/\dq N ps (aC st)/\N.length=fn.ns/\ps.length=fn.np/\dJ ck fn.bd N (aC st) (cp st)=bD/\Ra fn=bD
def BE{Pg:List Fn}(a:(Pg.map (·.name)).Nodup)(h:fn∈Pg):Pg.find? (λg=>cK (g.name=fn.name))=a5 fn:=by
 induction Pg with
 |nil=>cases h
 |cons g Pg b =>
  rw[il,pa]at a;rcases gj.mp h with rfl|h
  .simp
  .rw[Oq];have:cK (g.name=fn.name)=cb:=by
    apply Ļ;intro z;show a.1 (z▸RW h)
   rw[this];show b a.2 h
def se(a:(Pg.map (·.name)).Nodup)(h:fn∈Pg):Im Pg (d+1) fn.name=lb (Im Pg d) fn:=by
 funext us
 change(match Pg.find? λg=>cK (g.name=fn.name) with|some fn=>lb (Im Pg d) fn us|none=>b6)=_;rw[BE a h]
def m9(h:fn.ob=b6)(a:fn.io=b6):lb Γ fn=bP Γ fn:=by funext us;unfold lb;rw[h,a]
def BF(h:fn.ob=a5 (p,b)):lb Γ fn=eI Γ fn p b:=by funext us;unfold lb;rw[h]
def uc(Io:(Pg.map (·.name)).Nodup)(JP:ck.Ja=[])(t:∀x∈bR,mg x=b6)(KY:∀p∈ck.gl,∃val v,mg p.1=a5 val/\RelV v val/\∀(C:Ct) S H,Rep C S H p.2 v)
  (ld:∀g∈ck.fns,∃fn∈Pg,fn.name=g/\fn.ob=b6/\fn.io=b6/\Ld ck K mg fn "") (lo:∀q∈ck.obs,∃fn∈Pg,fn.name=q.1/\(∃b,fn.ob=a5 (q.2.1,b))/\Ld ck K mg fn q.2.2) (sh:Q9 P w K mg base) (xs:OQ ck K mg):∀d,(∀g∈ck.fns,Bx P w K mg base (d+2) (Im Pg d g) g)/\Q_ ck (Im Pg d) P w K mg base (d+2):=by
 have Qe:∀{d:Nat},∀p∈ck.Ja,Gj P w K mg base (d+2) (Im Pg d p.1) p.1 p.2:=λp hp=>by rw[JP]at hp;cases hp
 intro d;induction d with
 |zero =>
  show⟨λg T=>?_,Qe,λq Y=>?_,sh,hY _⟩
  .have⟨fn,B,rfl,D,J,l⟩:=ld g T;obtain⟨x,a,st,f,i,N,ps,F,j,_,n,S,G,o,_⟩:=l.ex;show⟨fn.np,f,i,ps,⟨λvs H Q E h=>h.1.trans o.symm,λA outer s H args us vs Q E _ _ _ _ h=>by obtain⟨_,us,r,_,e,_⟩:=h;cases e⟩,(j rfl).2,F.kp,n,λus k u e=>(by cases e),λus c e=>by cases e⟩
  .obtain⟨fn,B,e,_,l⟩:=lo q Y;obtain⟨x,a,st,f,i,N,ps,F,j,Nj,n,S,G,o,_⟩:=l.ex;show⟨fn.np,f,i,ps,⟨λvs H Q E h=>h.1.trans o.symm,λA outer s H args us vs Q E _ _ _ _ h=>by obtain⟨_,us,k,u,_,_,_,_,_,e,_⟩:=h;cases e⟩,λz=>e▸(j z).2,F.kp,Nj,n,λus k e=>by cases e⟩
 |succ d L =>
  show⟨λg T=>?_,Qe,λq Y=>?_,sh,⋯⟩
  .have⟨fn,B,rfl,D,J,l⟩:=ld g T;obtain⟨x,a,st,f,i,N,ps,F,j,_,n,S,G,o,I,_⟩:=l.ex;have⟨rfl,Ym⟩:=j rfl;rw[se Io B,m9 D J];rw[show fn.bd=fn.body by unfold Fn.bd;rw[D]]at I;show⟨fn.np,f,i,ps,Cz F S G o I t L.1 KY L.2 xs,Ym,F.kp,n,λus k u e=>?_,λus c e=>(qg e).1⟩;have⟨D,J⟩:=oI e;show⟨?_,D⟩;rcases J with⟨z,_⟩|⟨z,_⟩
   .show z
   .show .inr (.inl z)
  .obtain⟨fn,B,e,⟨b,O⟩,l⟩:=lo q Y;have⟨y,p,m⟩:=q
   dsimp only at e O l
   subst e;have⟨x,a,st,f,i,N,ps,F,j,Nj,n,S,G,o,I,hB⟩:=l.ex;rw[se Io B,BF O];rw[show fn.bd=b by unfold Fn.bd;rw[O]]at I;unfold Ra at hB;rw[O]at hB;show⟨fn.np,f,i,ps,Ez F S G o hB I t L.1 KY L.2 xs,λz=>(j z).2,F.kp,Nj,n,λus r e=>(ub e).1⟩
end
abbrev yL(ns:List Int):U:=.lst (ns.map .int)
theorem m_{S:hH->Prop}:∀(ns:List Int),ar C S H (ns.map .int) (ns.map V.int)
 |[]=>rfl
 |n::ns=>⟨_,_,rfl,rfl,m_ ns⟩
def sf(h:IF C.K H a (ns.map V.int)):Rep C (JH H) H (yL ns) (.ref a):=by
 show⟨a,_,rfl,?_,m_ ns⟩;rcases h with(h|⟨o,h⟩)|h
 .show .inl ⟨⟨_,h⟩,.inl h⟩
 .show .inl ⟨⟨_,h⟩,.inr ⟨o,h⟩⟩
 .show .inr h
theorem qh:∀{l:List α},(∀a∈l,f a=g a)->l.filterMap f=l.filterMap g
 |[],_=>rfl
 |a::l,h=>by rw[JD,JD,h a (by simp),qh λb c=>h b (by simp[c])]
theorem ud:∀(l:List Str) (us:List dV),l.Nodup->us.length=l.length->l.filterMap (λn=>((l.zip us).lookup n).map (n,·))=l.zip us
 |[],_,_,_=>rfl
 |a::l,[],_,h=>nomatch h
 |a::l,u::us,b,h=>by
  rw[pa]at b;have c:=ud l us b.2 (by simpa using h);simp only[UO,JD,rr,beq_self_eq_true,SR];congr 1
  conv=>rhs;rw[<-c]
  show qh λn d=>?_;have:(n==a)=cb:=by
   rw[Ľ];rintro rfl;show b.1 d
  rw[this]
def yM(l:List Str)(us:List dV)(h:us.length=l.length):l.filter (λn=>((l.zip us).lookup n).isNone)=[]:=by
 rw[Ob];intro n hn;induction l generalizing us with
 |nil=>cases hn
 |cons a l b =>
  cases us with
  |nil=>cases h
  |cons u us =>
   simp only[UO,rr];cases e:n==a with
   |true=>simp
   |false =>
    rcases gj.mp hn with rfl|hn
    .simp at e
    .show b us (by simpa using h) hn
def yN{kV a b c ct:dV}(d:(as.map (·.arg)).Nodup)(hl:us.length=(as.map (·.arg)).length):
  Ĭ (PySem.W.fnOf x q ⟨[],as,b6,[],[],b6,[]⟩ body scope .none kV a b m c ct) ⟨us,[]⟩=pure ((as.map (·.arg)).zip us):=by
 have e:=ud _ us d hl;have f:=yM _ us hl;change(if _ then _ else _)=_;rw[ĺ (by simp[hl])];have g:∀k:Nat,¬(!(((as.map (·.arg)).take k).filter λn=>(((as.map (·.arg)).zip us).lookup n).isNone).isEmpty)=bD:=λk=>by
  rw[Ob.mpr λn h=>Ob.mp f n (ZD h)];show mx
 show(ĺ (g _)).trans ?_;have hz:∀(l:List Str) (i j:Nat),(l.drop i).zip ((b6.getD #[]:Array dV).toList.drop j)=[]:=λl i j=>by rw[show(b6.getD #[]:Array dV).toList=[] from rfl,List.drop_nil,List.zip_nil_right]
 show Eq.trans (ľ (λz=>Bind.bind (forIn z _ _) _) (hz _ _ _)) ?_;show ľ (pure:List (Str×dV)->Sem (List (Str×dV))) ((ľ (List.filterMap _) (ve _)).trans e)
structure Me where
 fn:Fn
 x:Str
 i:Nat
 N:List Str
 a:hH
 c:hH
 m:dV
 cr:Obj
abbrev Me.fd(top:Nat->NB)(m:Me):R5:=PySem.W.fnOf m.x m.fn.name (gy (top m.i)) (cp (top m.i)) (aC (top m.i)) .none .none .none m.m b6 (.ref m.c) .none
abbrev Me.fo(top:Nat->NB)(m:Me):Obj:=⟨.type "function",b6,.func (m.fd top),#[]⟩
@[reducible]def Gx:=Obj×List (hH×Obj)
abbrev adr(ms:List Me)(xa:List hH):List hH:=3::(ms.flatMap (λm=>[m.c,m.a])++xa)
abbrev Jj(top:Nat->NB)(g:Gx)(ms:List Me):PySem.W.Frag:=(3,g.1)::(ms.flatMap (λm=>[(m.c,m.cr),(m.a,m.fo top)])++g.2)
def ue(top:Nat->NB)(g:Gx)(ms:List Me)(xa:List hH)(h:g.2.map (·.1)=xa):adr ms xa=(Jj top g ms).map (·.1):=by
 unfold adr Jj;rw[il,pd,List.map_flatMap,h];rfl
abbrev yO(v:Option (Option dV))(a:hH):Bool:=match v with|some (a5 (.ref b))=>cK (b=a)|_=>cb
def j8(h:yO v a=bD):v=a5 (a5 (.ref a)):=by
 unfold yO at h;split at h
 .rw[Ŀ h]
 .cases h
abbrev nn(o:Option (Option dV)):Bool:=match o with|some b6=>bD|_=>cb
def yP(h:nn o=bD):o=a5 b6:=by
 unfold nn at h;split at h
 .rfl
 .cases h
abbrev Gz(p:Arguments)(ps:List Str):Bool:=p.posonlyargs.isEmpty&&p.vararg.isNone&&p.kwonlyargs.isEmpty&&p.kw_defaults.isEmpty&&p.kwarg.isNone&&p.defaults.isEmpty&&cK (p.args.map (·.arg)=ps)
abbrev VB(N:List Str)(b:Nat)(a:M0):Bool:=cK (a.kind=.function)&&cK (a.isCoroutine=cb)&&cK (a.isGenerator=cb)&&decide N.Nodup&&(N.take b).all (lr a)&&a.names.all (λy=>cK (y.2≠.free))
abbrev Rb(K:PySem.W.Frag):Option hH:=match PySem.W.nsIn K oT "Shelf" with|some (a5 (.ref C))=>a5 C|_=>b6
abbrev IC(K:PySem.W.Frag)(C:hH)(x:Str)(a:hH):Bool:=yO (PySem.W.findIn K (.ref C) x) a&&PySem.W.isFn K (.ref a)
abbrev Rc(K:PySem.W.Frag)(x:Str)(a:hH):Bool:=match Rb K with|some C=>IC K C x a|none=>cb
abbrev VC(ck:Ck)(top:Nat->NB)(K:PySem.W.Frag)(m:Me):Bool:=PySem.W.codeIn K (.ref m.c) m.fn.name&&PySem.W.keepIn K (.ref m.a)&&(if m.x=m.fn.name then yO (PySem.W.nsIn K oT m.fn.name) m.a else Rc K m.x m.a)&&Gz (gy (top m.i)) (m.N.take m.fn.np) &&
 VB m.N m.fn.np (aC (top m.i))&&cK (m.N.length=m.fn.ns)&&cK (m.fn.np<=m.fn.ns)&&(dJ ck m.fn.bd m.N (aC (top m.i)) (cp (top m.i))&&Ra m.fn)
abbrev VD(K:PySem.W.Frag)(p:Str×U):Bool:=match p.2,PySem.W.nsIn K oT p.1 with
 |.int i,a5 (a5 (.int j _))=>cK (i=j)
 |.str i,a5 (a5 (.str j _))=>cK (i=j)
 |_,_=>cb
abbrev Mn(ck:Ck)(top:Nat->NB)(K:PySem.W.Frag)(ms:List Me):Bool:=ms.all (VC ck top K)&&bR.all (λy=>nn (PySem.W.nsIn K oT y))&&ck.gl.all (VD K)&&cK (K.map (·.1)).Nodup
def GA{K:PySem.W.Frag}(b:(K.map (·.1)).Nodup)(h:(a,o)∈K):K.lookup a=a5 o:=by
 induction K with
 |nil=>cases h
 |cons p K c =>
  rw[il,pa]at b;rw[rr];rcases gj.mp h with rfl|h
  .simp
  .have:(a==p.1)=cb:=by
    rw[Ľ];rintro rfl;show b.1 (kl.mpr ⟨_,h,rfl⟩)
   rw[this];show c b.2 h
section
def yQ(c:Mn ck top (Jj top g ms) ms=bD)(h:m∈ms):Mw (Jj top g ms) m.x m.fn.name (top m.i) m.a (m.fd top)/\(if m.x=m.fn.name then yO (PySem.W.nsIn (Jj top g ms) oT m.fn.name) m.a else Rc (Jj top g ms) m.x m.a)=bD /\
  (∀us:List dV,us.length=(m.N.take m.fn.np).length->Ĭ (m.fd top) ⟨us,[]⟩=pure ((m.N.take m.fn.np).zip us))/\dq m.N (m.N.take m.fn.np) (aC (top m.i))/\m.N.length=m.fn.ns/\(m.N.take m.fn.np).length=m.fn.np/\(dJ ck m.fn.bd m.N (aC (top m.i)) (cp (top m.i))=bD/\Ra m.fn=bD):=by
 simp only[Mn,b8,ĸ]at c;have z:=ux.mp c.1.1.1 m h;simp only[VC,b8,ĸ]at z;obtain⟨⟨⟨⟨⟨⟨⟨j,k⟩,l⟩,b⟩,d⟩,n⟩,u⟩,o⟩:=z;simp only[VB,b8,ĸ]at d;obtain⟨⟨⟨⟨⟨s1,s2⟩,s3⟩,s4⟩,p⟩,q⟩:=d;have r:(Jj top g ms).lookup m.a=a5 (m.fo top):=GA c.2 (gj.mpr (.inr (J8 _ (List.mem_flatMap.mpr ⟨m,h,by simp⟩))));have hl:(m.N.take m.fn.np).length=m.fn.np:=by rw[tj];lia
 show⟨Dk r j k,l,λus f=>?_,⟨s1,s2,s3,s4,by rw[hl],λx s=>?_,λy t=>?_⟩,n,hl,o⟩
 .unfold Me.fd;revert b;cases gy (top m.i) with
  |mk v as w A B C D =>
   intro b;simp only[Gz,b8,ya,R6,ĸ]at b;obtain⟨⟨⟨⟨⟨⟨rfl,rfl⟩,rfl⟩,rfl⟩,rfl⟩,rfl⟩,e⟩:=b;rw[<-e]at f ⊢;show yN (by rw[e];show(É _ _).nodup s4) f
 .have:=ux.mp p x s;simpa[lr] using this
 .have:=ux.mp q y t;simpa using this
abbrev Ue(ck:Ck)(ms:List Me):Bool:=ck.fns.all (λg=>ms.any λm=>cK (m.fn.name=g)&&cK (m.x=g)&&m.fn.ob.isNone&&m.fn.io.isNone) &&
 ck.obs.all (λq=>ms.any λm=>cK (m.fn.name=q.1)&&cK (m.fn.ob.map (·.1)=a5 q.2.1)&&(if q.2.2="" then cK (m.x=m.fn.name) else cK (m.x=q.2.2)&&cK (m.x≠m.fn.name)))&&ck.Ja.isEmpty
def CA{h:K1}{mg:Str->Option dV}(j:Mn ck top (Jj top g ms) ms=bD)(X:(Jj top g ms).In h)(G:h.Ns oT mg){m:Me}(hi:m∈ms){n:Str}(i:if n="" then m.x=m.fn.name else m.x=n/\m.x≠m.fn.name):Ld ck (Jj top g ms) mg m.fn n:=by
 have⟨a,b,c,d,e,f,k⟩:=yQ j hi;show⟨_,_,_,_,_,_,_,a,λz=>?_,λz cl l=>?_,.all c,d,e,f,k⟩
 .rw[Ĺ z]at i;rw[Ĺ i]at b;show⟨i,PySem.W.mg_of X G (j8 b)⟩
 .rw[ĺ z]at i;rw[ĺ i.2]at b;unfold Rc Rb at b;rw[show PySem.W.nsIn (Jj top g ms) oT "Shelf"=_ from l]at b;simp only[IC,b8]at b;rw[<-i.1];show⟨j8 b.1,b.2,a.kp⟩
def EA(f:Mn ck top (Jj top g ms) ms=bD)(i:Ue ck ms=bD)(X:(Jj top g ms).In h)(G:h.Ns oT mg):(∀g'∈ck.fns,∃fn∈ms.map (·.fn),fn.name=g'/\fn.ob=b6/\fn.io=b6/\Ld ck (Jj top g ms) mg fn "")/\(∀q∈ck.obs,∃fn∈ms.map (·.fn),fn.name=q.1/\(∃b,fn.ob=a5 (q.2.1,b))/\Ld ck (Jj top g ms) mg fn q.2.2)/\ck.Ja=[]:=by
 simp only[Ue,b8,ux,Rx,ĸ,ya,R6]at i;obtain⟨⟨j,k⟩,l⟩:=i;show⟨λg' n=>?_,λq o=>?_,l⟩
 .obtain⟨m,a,⟨⟨d,e2⟩,c⟩,p⟩:=j g' n;show⟨m.fn,RW a,d,c,p,CA f X G a (by rw[Ĺ rfl,d,e2])⟩
 .obtain⟨m,a,⟨d,e2⟩,c⟩:=k q o;show⟨m.fn,RW a,d,?_,CA f X G a ?_⟩
  .cases e:m.fn.ob with
   |none=>rw[e]at e2;cases e2
   |some r=>rw[e]at e2;show⟨r.2,by rw[<-vu e2]⟩
  .split at c
   .rename_i z;rw[Ĺ z];simpa using c
   .rename_i z;rw[ĺ z];simpa using c
abbrev Rf(top:Nat->NB)(K:PySem.W.Frag)(ms:List Me):Bool:=match Rb K with
 |none=>cb
 |some C=>PySem.W.plainGet K C wh&&PySem.W.hasDictIn K C&&PySem.W.plainOver K C&&(PySem.W.findIn K (.ref C) "__setattr__"==a5 (a5 (.builtin "object.__setattr__")))&&nn (PySem.W.findIn K (.ref C) "rows")&&nn (PySem.W.findIn K (.ref C) "earlier")&&PySem.W.makesIn K C&&PySem.W.keepIn K (.ref C) &&
  ms.any λm=>cK (m.x="__init__")&&cK (m.x≠m.fn.name)&&cK (m.fn.np=1)&&cK (m.N=(["self"]:List Str))&&T1 (cp (top m.i))&&fY (aC (top m.i)) "self"
def EB(i:Mn ck top (Jj top g ms) ms=bD)(hs:Rf top (Jj top g ms) ms=bD)(X:(Jj top g ms).In h)(G:h.Ns oT mg):Q9 P w (Jj top g ms) mg base:=by
 unfold Rf at hs;split at hs
 .cases hs
 .rename_i C c;have d:Lv (Jj top g ms) C:=by
   unfold Rb at c;split at c
   .rename_i e;cases c;show e
   .cases c
  simp only[b8,Rx,ĸ]at hs;obtain⟨⟨⟨⟨⟨⟨⟨⟨j,l⟩,n⟩,o⟩,p⟩,q⟩,r⟩,s⟩,m,t,⟨⟨⟨⟨⟨b1,u⟩,b3⟩,b4⟩,v⟩,x⟩⟩:=hs;obtain⟨F,b,f,S,_,_,_⟩:=yQ i t;rw[ĺ u]at b;unfold Rc at b;rw[c]at b;simp only[IC,b8]at b;rw[b3,b4]at f S;rw[b1]at F b;have K:KW (Jj top g ms) C:=⟨d,⟨j,l,n,beq_iff_eq.mp o⟩,yP p,yP q⟩
  show⟨C,m.a,m.fd top,K,⟨r,j8 b.1,b.2,s⟩,Bo (k:=0) F S v (bV x) K,.all f,PySem.W.mg_of X G d⟩
def EC(b:Mn ck top (Jj top g ms) ms=bD)(X:(Jj top g ms).In h)(G:h.Ns oT mg):∀p∈ck.gl,∃val v,mg p.1=a5 val/\RelV v val/\∀(C:Ct) S H,Rep C S H p.2 v:=by
 intro p c;simp only[Mn,b8,ĸ]at b;have z:=ux.mp b.1.2 p c;unfold VD at z;split at z
 .rename_i i j k a e2;obtain rfl:=Ŀ z;show⟨_,.int i,PySem.W.mg_of X G e2,⟨_,rfl⟩,λ_ _ _=>by rw[a];rfl⟩
 .rename_i i j k a e2;obtain rfl:=Ŀ z;show⟨_,.str i,PySem.W.mg_of X G e2,⟨_,rfl⟩,λ_ _ _=>by rw[a];rfl⟩
 .cases z
end
abbrev gX(ck:Ck)(K:PySem.W.Frag):Bool:=ck.xc.all (λx=>match PySem.W.nsIn K oT x with|some (a5 (.ref C))=>PySem.W.excIn K C OE "ValueError.__new__"|_=>cb)&&ck.xd.all λp=>match PySem.W.nsIn K oT p.1,PySem.W.nsIn K oT p.2 with
 |some (a5 (.ref C)),a5 (a5 (.ref D))=>PySem.W.exmOne K (.ref C) (.ref D)==a5 bD
 |_,_=>cb
def ED{K:PySem.W.Frag}(z:gX ck K=bD)(X:K.In h)(G:h.Ns oT mg):OQ ck K mg:=by
 rw[gX,b8,ux,ux]at z;show⟨λx b=>?_,λp c=>?_⟩
 .have:=z.1 x b;split at this
  .rename_i e;show⟨_,PySem.W.mg_of X G e,e,this⟩
  .cases this
 .have:=z.2 p c;split at this
  .rename_i a e2;show⟨_,_,PySem.W.mg_of X G a,a,PySem.W.mg_of X G e2,beq_iff_eq.mp this⟩
  .cases this
def walk{l:PySem.W.OpenLaw}{K:U0->PySem.W.Frag}
  (A:l.most=a5 63) (B:d.params.defaults=[]) (D:cN (dp+3) TV) (I:∀(w:Jn) (h:K1),J w h->(K w.params).In h)
  (j:(Pg.map (·.name)).Nodup) (L:fn.ob=b6) (O:fn.io=b6) (Q:fn∈Pg) (L6:fn.name=d.name)
  (F:∀(w:Jn) (mg:Str->Option dV) (fa:hH) (h:K1),(K w.params).In h->h.Ns oT mg->mg d.name=a5 (.ref fa) ->
   (∀y∈bR,mg y=b6)/\(∀p∈ck.gl,∃val v,mg p.1=a5 val/\RelV v val/\∀(C:Ct) S H,Rep C S H p.2 v)/\((∀g∈ck.fns,∃fn∈Pg,fn.name=g/\fn.ob=b6/\fn.io=b6/\Ld ck (K w.params) mg fn "")/\(∀q∈ck.obs,∃fn∈Pg,fn.name=q.1/\(∃b,fn.ob=a5 (q.2.1,b))/\Ld ck (K w.params) mg fn q.2.2)/\ck.Ja=[])/\(∀base,Q9 l.prog w (K w.params) mg base)/\OQ ck (K w.params) mg /\
   ∃(c:Str) (st:NB) (i:R5) (N:List Str),Mw (K w.params) fn.name c st fa i/\dq N [x] (aC st)/\N.length=fn.ns/\1=fn.np/\dJ ck fn.body N (aC st) (cp st)=bD/\∀(s:hW) (u:dV),Å s i ⟨[u],[]⟩ [(x,u)])
  (T:∀ns:List Int,ns.length<=63->Im Pg (dp+1) fn.name [yL ns]=a5 (.ok (.loc,.bl bD))) :
  PySem.W.WalkO q m XP J l.row.toRowW d [] (λf vs=>PySem.call f vs) :=
 L2.Ah (n:=63) (k:=dp+3) (x:=x) (CX:=λw=>K7 l.prog w) (sp:=λw=>spT l.prog w (K w.params) (bP (Im Pg dp) fn) fn.np) A (by decide) B D I
  (λw mg fa h Y G Pa=>by
   obtain⟨e,o,⟨ld,lo,hi⟩,r,xs,c,st,i,N,F1,S,hN,Kj,hc,hb⟩:=F w mg fa h Y G Pa;show⟨i,hb,λbase _ _=>Cz F1 S hN Kj hc e (uc j hi e o ld lo (r base) xs dp).1 o (uc j hi e o ld lo (r base) xs dp).2 xs⟩)
  (λw H a ns hl _ hS=>by
   have t:=T ns hl;rw[se j Q,m9 L O]at t;have L5:fn.np=1:=(oI t).1.symm;show⟨L5.symm,[yL ns],.ok (.loc,.bl bD),JH H,t,λ_ z=>z,⟨_,_,rfl,sf hS,rfl⟩,.inr (.inl rfl),λv H' S' b=>b.loc rfl⟩)
  λ_ _ _ _ _ ⟨_,_,_,_,_,_,z⟩=>z
def walk2{l:PySem.W.OpenLaw}{g:U0->Gx}
  (z:l.most=a5 63) (A:d.params.defaults=[]) (B:cN (dp+3) TV) (j:ms.map (·.fn)=Pg) (C:(Pg.map (·.name)).Nodup) (D:Ue ck ms=bD) (o:m.fn.ob=b6) (H:m.fn.io=b6) (p:m∈ms) (r:m.fn.name=d.name) (t:m.x=m.fn.name) (I:m.N.take m.fn.np=[x])
  (ok:∀P,Mn ck top (Jj top (g P) ms) ms=bD) (J:∀P,(gX ck (Jj top (g P) ms)&&Rf top (Jj top (g P) ms) ms)=bD) (L:∀P,(g P).2.map (·.1)=xa) (T:∀ns:List Int,ns.length<=63->Im Pg (dp+1) m.fn.name [yL ns]=a5 (.ok (.loc,.bl bD))) :
  PySem.W.WalkO q i Q (PySem.W.kHook (λP=>Jj top (g P) ms) (adr ms xa) λP=>ue top (g P) ms xa (L P)).says l.row.toRowW d [] (λf vs=>PySem.call f vs) :=
 walk z A B (λw h Y=>PySem.W.kIn_of Y) C o H (j▸kl.mpr ⟨m,p,rfl⟩) r (λw mg fa h X G v=>by
  have hk:=ok w.params;have hz:=IE.mp (J w.params);have⟨a,b,c,e,f,k,n⟩:=yQ hk p;rw[Ĺ t]at b;rw[<-r,PySem.W.mg_of X G (j8 b)]at v;cases v;rw[I]at c e k;rw[t]at a;show⟨λy O=>PySem.W.mg_none_of X G (yP ?_),EC hk X G,j▸EA hk D X G,λbase=>EB hk hz.2 X G,ED hz.1 X G,_,_,_,_,a,e,f,k,by have:=n.1;rw[show m.fn.bd=m.fn.body by unfold Fn.bd;rw[o]]at this;show this,λs u=>.of_eq (c [u] rfl)⟩;simp only[Mn,b8]at hk;show ux.mp hk.1.1.2 y O) T
abbrev Mo(n q:Str)(k l c:Nat)(r s:hH)(x y z:dV)(a b t:Nat):Obj:=⟨.type "code",b6,.fields #[.str n k,.str q (k+1),.str "/claim/cut.py" (k+2),.int l 0,.int c 0,.int 0 0,.int 0 0,.int 3 0,.ref r,.bool bD,.int t 0,.ref s,.none,x,y,z,.int a 0,.int l 0,.str "/claim/cut.py" b],#[]⟩
abbrev co(n:Str)(k l c:Nat)(r s:hH)(x y z:dV)(a b t:Nat):Obj:=Mo n n k l c r s x y z a b t
abbrev ge(P:U0)(x:Str)(k:Nat)(v:dV):DictEntry:=⟨td P x,.str x k,v⟩
end TM
namespace TM
open PySem L2
section
abbrev Run(m:M α)(st:au)(a:α)(st':au):Prop:=m st=a5 (.ok a,st')
def aa(c:Run m st a st1)(d:Run (f a) st1 b st2):Run (m >>= f) st b st2:=by
 change M.bind m f st=_;unfold M.bind;rw[show m st=_ from c];show d
def aJ:Run (pure a:M α) st a st:=rfl
def cU(h:o=a5 a):Run (M.Il o) st a st:=by subst h;rfl
def aU(h:bo rs st):Run (aw rs) st () st:=by change aw rs st=_;unfold aw;rw[Ĺ h]
abbrev kv(i:Nat)(k:Kd):Kd:=if k.root=bD then .bor i else k
def gZ(h:st[i]?=a5 (a5 (k,u)))(hk:k≠.A':=by intro z;cases z):Run (dg i) st (kv i k,u) st:=by
 change dg i st=_;unfold dg;rw[h];cases k<;>first|rfl|show absurd rfl hk
def af(h:st[i]?=a5 (a5 (.loc,u))):Run (ev Γ (.var i)) st (.loc,u) st:=gZ h
def bA(h:st[i]?=a5 (a5 (.any,u))):Run (ev Γ (.var i)) st (.any,u) st:=gZ h
def aA(h:st[i]?=a5 (a5 (.own,u))):Run (ev Γ (.var i)) st (.bor i,u) st:=gZ h
def av:Run (ev Γ (.cst u)) st (.loc,u) st:=rfl
def ng:Run (ev Γ (.Kx x u)) st (.loc,u) st:=rfl
def cm(c:Run (ev Γ a) st x st1)(d:Run (ev Γ b) st1 y st2)(e:bo [x,y] st2)(f:Kb op x y=a5 r):Run (ev Γ (.bin op a b)) st r st2 :=
 aa c (aa d (aa (aU e) (cU f)))
def f_(d:Run (ev Γ a) st x st1)(e:Run (ev Γ b) st1 y st2)(f:bo [x,y] st2)(g:bG op x.2 y.2=a5 c):Run (ev Γ (.cmp op a b)) st (.loc,.bl c) st2 :=
 aa d (aa e (aa (aU f) (aa (cU g) aJ)))
def bg(c:Run (ev Γ a) st x st1)(d:Run (ev Γ b) st1 y st2)(e:bo [x,y] st2)(f:iO x y.2=a5 r):Run (ev Γ (.idx a b)) st r st2 :=
 aa c (aa d (aa (aU e) (cU f)))
def uf:Run (NU Γ []) st b6 st:=rfl
def ug(h:Run (ev Γ e) st (k,.int i) st1):Run (NU Γ [e]) st (a5 i) st1:=aa h rfl
def uh(c:Run (ev Γ a) st x st1)(d:Run (NU Γ lo) st1 l st2)(e:Run (NU Γ hi) st2 h b)(f:bo [x] b)(g:kZ x l h=a5 r):Run (ev Γ (.Ky a lo hi)) st r b :=
 aa c (aa d (aa e (aa (aU f) (cU g))))
def ai:Run (aR Γ []) st [] st:=rfl
def ae(a:Run (ev Γ e) st r st1)(b:Run (aR Γ es) st1 rs st2):Run (aR Γ (e::es)) st (r::rs) st2:=aa a (aa b aJ)
def bS(a:Run (aR Γ es) st rs st1)(b:bo rs st1)(c:Js f rs=a5 r):Run (ev Γ (.bi f es)) st r st1:=aa a (aa (aU b) (cU c))
def GB(a:Run (aR Γ es) st rs st1)(b:bo rs st1)(c:vk f rs=a5 r):Run (ev Γ (.Nf f es)) st r st1:=aa a (aa (aU b) (cU c))
def ui(b:Run (ev Γ a) st x st1)(c:Run (aR Γ es) st1 rs st2)(d:bo (x::rs) st2)(e:jX m x.2 rs=a5 r):Run (ev Γ (.KS m a es)) st r st2:=aa b (aa c (aa (aU d) (cU e)))
def uj(h:Γ f us=a5 (.ok r))(a:isAny r.1=cb):Run (k7 Γ f us) st r st:=by
 have⟨k,u⟩:=r;change k7 Γ f us st=_;unfold k7;rw[h];cases k<;>first|rfl|cases a
def aP(a:Run (aR Γ es) st rs st1)(b:bo rs st1)(c:Γ f (rs.map (·.2))=a5 (.ok r))(d:isAny r.1=cb:=by show rfl):Run (ev Γ (.call f es)) st r st1:=aa a (aa (aU b) (uj c d))
def fz(a:Run (aR Γ es) st rs st1)(b:bo rs st1)(c:Run (de rs) st1 us st2)(d:us.length<=cL):Run (ev Γ (.tup es)) st (.loc,.tup us) st2:=by
 show aa a (aa (aU b) (aa c ?_));rw[Ĺ d];show aJ
def dN(a:Run (aR Γ es) st rs st1)(b:bo rs st1)(c:Run (de rs) st1 us st2)(d:us.length<=cL):Run (ev Γ (.lst es)) st (.own,.lst us) st2:=by
 show aa a (aa (aU b) (aa c ?_));rw[Ĺ d];show aJ
def oJ:Run (ev Γ (.JZ r)) st (.own,.HP [] []) st:=rfl
def qi:Run (lift (.own,u)) st u st:=rfl
def aL:Run (lift (.loc,u)) st u st:=rfl
def um(h:Ig u=bD):Run (lift (.any,u)) st u st:=by
 change(if Ig u=bD then(pure u:M U) else M.fail) st=_;rw[Ĺ h];rfl
def aV:Run (de []) st [] st:=rfl
def aE(a:Run (lift r) st u st1)(b:Run (de rs) st1 us st2):Run (de (r::rs)) st (u::us) st2:=aa a (aa b aJ)
def sg(h:Run (ev Γ e) st r st1):Run (iQ Γ [e]) st r st1:=h
def si(h:Run (ev Γ e) st (k,.bl p) st1)(a:if p=bD then Run (iQ Γ (e2::es)) st1 r st2 else st2=st1/\r=(.loc,.bl cb)):Run (iQ Γ (e::e2::es)) st r st2:=by
 show aa h ?_;cases p with
 |true=>show a
 |false=>have⟨rfl,rfl⟩:=a;show aJ
def yR(h:Run (iQ Γ es) st r st1):Run (ev Γ (.and es)) st r st1:=h
def GC(h:Run (AH Γ es) st r st1):Run (ev Γ (.or es)) st r st1:=h
def bp(d:Run (ev Γ a) st x st1)(e:Run (ev Γ b) st1 y st2)(f:bo [x,y] st2)(g:bG op x.2 y.2=a5 c):Run (Ib Γ (.cmp op a b)) st c st2:=aa d (aa e (aa (aU f) (cU g)))
def lG(h:Run (Ib Γ a) st c st1):Run (Ib Γ (.not a)) st (!c) st1:=aa h aJ
def jL(h:Run (aO Γ es) st c st1):Run (Ib Γ (.and es)) st c st1:=h
def BG(h:Run (jI Γ es) st c st1):Run (Ib Γ (.or es)) st c st1:=h
def gb:Run (aO Γ []) st bD st:=rfl
def dm(h:Run (Ib Γ e) st c st1):Run (aO Γ [e]) st c st1:=h
def sj(h:Run (Ib Γ e) st bD st1)(a:Run (aO Γ (e2::es)) st1 c st2):Run (aO Γ (e::e2::es)) st c st2:=aa h a
def yS(h:Run (Ib Γ e) st cb st1):Run (aO Γ (e::e2::es)) st cb st1:=aa h aJ
def uo(h:Run (Ib Γ e) st c st1):Run (jI Γ [e]) st c st1:=h
def qj(h:Run (Ib Γ e) st cb st1)(a:Run (jI Γ (e2::es)) st1 c st2):Run (jI Γ (e::e2::es)) st c st2:=aa h a
def bq:Run (eG i (.own,u)) st () (st.set i (a5 (.own,u))):=rfl
def aK:Run (eG i (.loc,u)) st () (st.set i (a5 (.loc,u))):=rfl
def lH:Run (eG i (.any,u)) st () (st.set i (a5 (.any,u))):=rfl
def GD(a:Run (ev Γ e) st r st1)(b:Run (eG i r) st1 () st2):Run (exec Γ (.set i e)) st .nx st2:=aa a (aa b aJ)
def GF(b:∃k' c,st[i]?=a5 (a5 (k',.lst c))/\k'≠.A')(d:Run (ev Γ e) st r st1)(f:Run (lift r) st1 u st2)(g:st2[i]?=a5 (a5 (k,.lst us)))(hk:k.root=bD)(hl:us.length<cL):
  Run (exec Γ (.app i e)) st .nx (st2.set i (a5 (k,.lst (us++[u])))):=by
 have⟨k',c,b,h⟩:=b;show aa (gZ b h) (aa (a:=()) (st1:=st) rfl (aa d (aa f (aa (a:=()) ?_ aJ))));change modS i (xJ u) st2=_;unfold modS;rw[g];simp only[hk,if_true];have e:xJ u (.lst us)=a5 (.lst (us++[u])):=by change(if us.length<cL then _ else _)=_;rw[Ĺ hl]
 rw[e]
def GG(a:Run (ev Γ e) st r st1)(b:Run (retS r) st1 f st2):Run (exec Γ (.ret e)) st f st2:=aa a b
def jM:Run (retS (.own,u)) st (.rt .own u) st:=rfl
def bZ:Run (retS (.loc,u)) st (.rt .loc u) st:=rfl
def GH(h:Ig u=bD):Run (retS (.any,u)) st (.rt .loc u) st:=by
 change(if Ig u=bD then(pure (Fl.rt .loc u):M Fl) else pure (.rt .any u)) st=_;rw[Ĺ h];rfl
def nh(h:st[j]?=a5 (a5 (.own,u))):Run (retS (.bor j,u0)) st (.rt .own u) (st.set j b6):=by
 change(match st[j]? with|some (a5 (.own,u))=>a5 (Ex.ok (Fl.rt .own u),st.set j b6)|_=>b6)=_;rw[h]
def oK(d:Run (Ib Γ c) st bD st1)(e:Run (execs Γ a) st1 f st2):Run (exec Γ (.ite c a b)) st f st2:=aa d e
def sm(d:Run (Ib Γ c) st cb st1)(e:Run (execs Γ b) st1 f st2):Run (exec Γ (.ite c a b)) st f st2:=aa d e
def aT:Run (execs Γ []) st .nx st:=rfl
def dS(a:Run (exec Γ s) st .nx st1)(b:Run (execs Γ ss) st1 f st2):Run (execs Γ (s::ss)) st f st2:=aa a b
def BH(a:Run (exec Γ s) st (.rt k u) st1):Run (execs Γ (s::ss)) st (.rt k u) st1:=aa a aJ
def ax(a:Run (ev Γ e) st r st1)(b:Run (eG i r) st1 () st2)(c:Run (execs Γ ss) st2 f d):Run (execs Γ (.set i e::ss)) st f d:=dS (GD a b) c
def jN(a:st[i]?=a5 (a5 (k',.lst l)))(b:Run (ev Γ e) st r st1)(c:Run (lift r) st1 u st2)(d:st2[i]?=a5 (a5 (k,.lst us)))(hk:k.root=bD)(hl:us.length<cL)
  (g:Run (execs Γ ss) (st2.set i (a5 (k,.lst (us++[u])))) f h) (j:k'≠.A':=by intro z;cases z):Run (execs Γ (.app i e::ss)) st f h:=dS (GF ⟨_,_,a,j⟩ b c d hk hl) g
def bh(a:Run (ev Γ e) st r st1)(b:Run (retS r) st1 (.rt k u) st2):Run (execs Γ (.ret e::ss)) st (.rt k u) st2:=BH (GG a b)
def ig(d:Run (Ib Γ c) st bD st1)(e:Run (execs Γ a) st1 .nx st2)(g:Run (execs Γ ss) st2 f h):Run (execs Γ (.ite c a b::ss)) st f h:=dS (oK d e) g
def dn(d:Run (Ib Γ c) st cb st1)(e:Run (execs Γ b) st1 .nx st2)(g:Run (execs Γ ss) st2 f h):Run (execs Γ (.ite c a b::ss)) st f h:=dS (sm d e) g
def yT(d:Run (Ib Γ c) st bD st1)(e:Run (execs Γ a) st1 (.rt k u) st2):Run (execs Γ (.ite c a b::ss)) st (.rt k u) st2:=BH (oK d e)
def GI(a:Run (aR Γ src) st rs st1)(b:bo rs st1)(c:KA ik rs=a5 xs)(d:tM rs is body=bD)(e:Run (forM t is (execs Γ body) rs xs) st1 f st2):
  Run (exec Γ (.Ip t is ik src body)) st f st2:=by
 show aa a (aa (aU b) (aa (cU c) ?_));rw[Ĺ d];show e
def fA(a:Run (aR Γ src) st rs st1)(b:bo rs st1)(c:KA ik rs=a5 xs)(d:tM rs is body=bD)(e:Run (forM t is (execs Γ body) rs xs) st1 .nx st2)(g:Run (execs Γ ss) st2 f h):
  Run (execs Γ (.Ip t is ik src body::ss)) st f h:=dS (GI a b c d e) g
def CB(h:bo rs st):Run (forM t is body rs []) st .nx st:=aa (aU h) aJ
def GJ(h:bo rs st)(a:Run (c7 t is x) st () st1)(b:Run body st1 .nx st2)(c:Run (forM t is body rs xs) st2 f d):Run (forM t is body rs (x::xs)) st f d:=aa (aU h) (aa a (aa b c))
theorem ur(I:List (Kd×U)->au->Prop)(hs:∀xs st,I xs st->bo rs st)(Ù:∀x xs st,I (x::xs) st->∃st1 st2,Run (c7 t is x) st () st1/\Run body st1 .nx st2/\I xs st2):
  ∀(xs:List (Kd×U)) (st:au),I xs st->∃st',Run (forM t is body rs xs) st .nx st'/\I [] st'
 |[],st,h=>⟨st,CB (hs _ _ h),h⟩
 |x::xs,st,h=>by
  have⟨s1,s2,a,b,c⟩:=Ù x xs st h;have⟨s3,d,e⟩:=ur I hs Ù xs s2 c;show⟨s3,GJ (hs _ _ h) a b d,e⟩
def gc(h:Run (eG i r) st () st1):Run (c7 cb [i] r) st () st1:=h
def aG(a:us.length=fn.np)(hk:k=.own\/k=.loc)(hs:start us fn.ns=st0)(h:Run (execs Γ fn.body) st0 (.rt k u) st):bP Γ fn us=a5 (.ok (k,u)):=by
 subst hs;unfold bP;rw[Ĺ a,show execs Γ fn.body (start us fn.ns)=_ from h];rcases hk with rfl|rfl<;>rfl
def qk{cond:M Bool}(h:bo src st):Run (bI k t cond elt src [] a) st a st:=aa (aU h) aJ
def lI{cond:M Bool}(h:bo src st)(d:Run (c7 t (i4 k) x) (mu k b6++st) () s1)(e:Run cond s1 bD s2)(g:Run elt s2 r s3)(i:Run (lift r) s3 u s4)
  (hl:c.length<cL) (j:Run (bI k t cond elt src xs (c++[u])) (s4.drop k) us st2):Run (bI k t cond elt src (x::xs) c) st us st2:=by
 show aa (aU h) (aa (a:=a5 u) (st1:=s4.drop k) ?_ ?_)
 .change inScope k _ st=_;unfold inScope;have l:Run (c7 t (i4 k) x >>= λ_=>cond >>= λb=>if b=bD then(elt >>= λr=>lift r >>= λu=>pure (a5 u)) else pure b6) (mu k b6++st) (a5 u) s4 :=
   aa d (aa e (show Run (elt >>= λr=>lift r >>= λu=>pure (a5 u)) s2 (a5 u) s4 from aa g (aa (f:=λu=>pure (a5 u)) i rfl)))
  rw[show _=_ from l]
 .change Run (if c.length<cL then bI k t cond elt src xs (c++[u]) else M.fail) _ _ _;rw[Ĺ hl];show j
def so{cond:M Bool}(h:bo src st)(d:Run (c7 t (i4 k) x) (mu k b6++st) () s1)(e:Run cond s1 cb s2)
  (f:Run (bI k t cond elt src xs c) (s2.drop k) us st2):Run (bI k t cond elt src (x::xs) c) st us st2:=by
 show aa (aU h) (aa (a:=b6) (st1:=s2.drop k) ?_ f);change inScope k _ st=_;unfold inScope;have g:Run (c7 t (i4 k) x >>= λ_=>cond >>= λb=>if b=bD then(elt >>= λr=>lift r >>= λu=>pure (a5 u)) else pure b6) (mu k b6++st) b6 s2 :=
  aa d (aa e (show Run (pure b6:M (Option U)) s2 b6 s2 from rfl))
 rw[show _=_ from g]
def cz{src cond:List E}(a:Run (aR Γ src) st rs st1)(b:bo rs st1)(c:KA ik rs=a5 xs)(d:Run (bI k t (aO Γ cond) (ev Γ e) rs xs []) st1 us st2):Run (ev Γ (.comp k t ik src cond e)) st (.own,.lst us) st2 :=
 aa a (aa (aU b) (aa (cU c) (aa d aJ)))
theorem yU{cond:M Bool}(h:bo src st)(g:Kd×U->U)(b:Kd×U->Kd):∀(xs:List (Kd×U)) (a:List U),a.length+xs.length<=cL ->
  (∀x∈xs,x.1=.loc\/x.1=.any)->(∀x∈xs,Run cond (a5 x::st) bD (a5 x::st)/\Run elt (a5 x::st) (b x,g x) (a5 x::st)/\Run (lift (b x,g x)) (a5 x::st) (g x) (a5 x::st))->Run (bI 1 cb cond elt src xs a) st (a++xs.map g) st
 |[],a,_,_,_=>by rw[Np,ve];show qk h
 |x::xs,a,hl,hk,d=>by
  have⟨e,f,i⟩:=d x (by simp);rw[lx]at hl;show lI (s1:=a5 x::st) (s2:=a5 x::st) (s3:=a5 x::st) (s4:=a5 x::st) h ?_ e f i ⋯ ?_
  .have⟨k,u⟩:=x;rcases hk _ (mh ..) with z|z<;>(cases z;rfl)
  .have:=yU h g b xs (a++[g x]) (by simp;lia) (λy c=>hk y (by simp[c])) λy c=>d y (by simp[c]);rw[il];simpa using this
theorem lJ{cond:M Bool}(h:bo src st)(p:Kd×U->Bool)(g:Kd×U->U)(c:Kd×U->Kd):∀(xs:List (Kd×U)) (a:List U),a.length+xs.length<=cL ->
  (∀x∈xs,x.1=.loc\/x.1=.any)->(∀x∈xs,Run cond (a5 x::st) (p x) (a5 x::st)/\Run elt (a5 x::st) (c x,g x) (a5 x::st)/\Run (lift (c x,g x)) (a5 x::st) (g x) (a5 x::st))->Run (bI 1 cb cond elt src xs a) st (a++(xs.filter p).map g) st
 |[],a,_,_,_=>by rw[Tc,Np,ve];show qk h
 |x::xs,a,hl,hk,f=>by
  have⟨d,j,l⟩:=f x (by simp);rw[lx]at hl;have i:Run (c7 cb (i4 1) x) (mu 1 b6++st) () (a5 x::st):=by
   have⟨k,u⟩:=x;rcases hk _ (mh ..) with z|z<;>(cases z;rfl)
  cases e:p x with
  |true =>
   rw[e]at d;show lI (s1:=a5 x::st) (s2:=a5 x::st) (s3:=a5 x::st) (s4:=a5 x::st) h i d j l ⋯ ?_;have:=lJ h p g c xs (a++[g x]) (by simp;lia) (λy b=>hk y (by simp[b])) λy b=>f y (by simp[b]);rw[Kr,Ĺ e,il];simpa using this
  |false =>
   rw[e]at d;show so (s1:=a5 x::st) (s2:=a5 x::st) h i d ?_;have:=lJ h p g c xs a ⋯ (λy b=>hk y (by simp[b])) λy b=>f y (by simp[b]);rw[Kr,ĺ (by simp[e])];show this
end
section
def ql(h:st[i]?=a5 (a5 (k,.lst us)))(hk:k.root=bD)(a:us[us.length - 1]?=a5 u):Run (ev Γ (.pop i)) st (.loc,u) (st.set i (a5 (k,.lst us.dropLast))):=by
 change xH i st=_;unfold xH;rw[h];change(if _ then _ else _)=_;rw[Ĺ hk,a]
end
abbrev Iy(Pg:List Fn)(f:Str)(fn:Fn):Prop:=(Pg.find? λg=>cK (g.name=f))=a5 fn
section
def uu(h:Iy Pg f fn)(us:List U):Im Pg (d+1) f us=lb (Im Pg d) fn us:=by
 change(match Pg.find? λg=>cK (g.name=f) with|some fn=>lb (Im Pg d) fn us|none=>b6)=_;rw[show _=a5 fn from h]
def aB(h:Iy Pg f fn)(us:List U)(a:fn.io=b6:=by rfl)(b:fn.ob=b6:=by rfl):Im Pg (d+1) f us=bP (Im Pg d) fn us:=by
 rw[uu h];unfold lb;rw[b,a]
def bC(h:Iy Pg f fn)(us:List U)(a:fn.ob=a5 (p,b)):Im Pg (d+1) f us=eI (Im Pg d) fn p b us:=by
 rw[uu h];unfold lb;rw[a]
end
def cj(h:0<j):Kb .mod (k,.int i) (k',.int j)=a5 (.loc,.int (i % j)):=by change(Av i j).map _=_;rw[Av,Ĺ h];rfl
def yV(h:0<j/\j<1073741824):Kb .Kw (k,.int i) (k',.int j)=a5 (.loc,.int (i / j)):=by change(Au i j).map _=_;rw[Au,Ĺ h];rfl
def nI(h:(-(2 ^ 64)<i/\i<2 ^ 64)\/(-(2 ^ 64)<j/\j<2 ^ 64)):Kb .mul (k,.int i) (k',.int j)=a5 (.loc,.int (i * j)):=by change(As i j).map _=_;rw[As,Ĺ h];rfl
def nJ(h:0<=j/\j<=1000000/\i.natAbs<2 ^ 64):Kb .pow (k,.int i) (k',.int j)=a5 (.loc,.int (i ^ j.toNat)):=by change(Aw i j).map _=_;rw[Aw,Ĺ h];rfl
def d7:Kb .add (k,.int i) (k',.int j)=a5 (.loc,.int (i+j)):=rfl
def aS(h:Iq xs i=a5 u):iO (k,.lst xs) (.int i)=a5 (kE k,u):=by change(Iq xs i).map _=_;rw[h];rfl
def kG(h:Iq xs i=a5 u):iO (k,.tup xs) (.int i)=a5 (kE k,u):=by change(Iq xs i).map _=_;rw[h];rfl
def uA:Kd.own≠Kd.A':=by decide
local macro_rules
 |`(tactic| sizeOf_list_dec)=>`(tactic| first|exact aT|apply ax|apply jN|apply bh|exact av|exact af rfl|exact bA rfl|exact aA rfl|apply cm|apply f_|apply bg|apply bS|apply aP|apply ui|apply bp|exact ai|apply ae|apply fz|apply dN|exact aV|apply aE|exact aL|exact qi|(first|exact trivial|exact⟨⟨_,rfl,rfl⟩,trivial⟩|exact⟨⟨_,rfl,rfl⟩,⟨_,rfl,rfl⟩,trivial⟩)|exact d7|exact qM|exact cj (by first|lia|decide)|exact yV (by first|lia|decide)|exact nI (by first|lia|decide)|exact nJ (by decide)|exact aK|exact bq|exact lH|exact bZ|exact jM|exact nh rfl|exact mN _|exact rfl|exact uA)
abbrev sr(c k:Int):Int:=((c % 10 ^ 15+1) * 48271+k * k * 16807+k * 7919) % 2147483647 * 69621 % 2147483629
abbrev vR:Fn:=⟨"_law_mix",2,3,[.set 2 (.bin .add (.bin .add (.bin .mul (.bin .add (.bin .mod (.var 0) (.bin .pow (.cst (.int 10)) (.cst (.int 15)))) (.cst (.int 1))) (.cst (.int 48271))) (.bin .mul (.bin .mul (.var 1) (.var 1)) (.cst (.int 16807)))) (.bin .mul (.var 1) (.cst (.int 7919)))),.ret (.bin .mod (.bin .mul (.bin .mod (.var 2) (.cst (.int 2147483647))) (.cst (.int 69621))) (.cst (.int 2147483629)))]⟩
def BI(a:0<=k)(b:k<2 ^ 63):bP Γ vR [.int c,.int k]=a5 (.ok (.loc,.int (sr c k))):=by
 apply aG (st0:=[a5 (.loc,.int c),a5 (.loc,.int k),b6]) rfl (.inr rfl) rfl
 repeat' sizeOf_list_dec
abbrev uB:Fn:=⟨"_law_cell",2,3,[.ite (.cmp .lt (.var 1) (.bi .len [.var 0])) [.ret (.idx (.var 0) (.var 1))] [],.set 2 (.cst (.int 0)),.ite (.cmp .gt (.bi .len [.var 0]) (.cst (.int 0))) [.set 2 (.idx (.var 0) (.bin .mod (.var 1) (.bi .len [.var 0])))] [],.ret (.bin .add (.bin .mul (.cst (.int 2)) (.call "_law_mix" [.var 2,.var 1])) (.cst (.int 1)))]⟩
abbrev yW(Γ:Tab):Prop:=∀c k:Int,0<=k->k<2 ^ 63->Γ "_law_mix" [.int c,.int k]=a5 (.ok (.loc,.int (sr c k)))
def yX(h:cK (i<j)=c):bG .lt (.int i) (.int j)=a5 c:=by subst h;rfl
def fC(h:cK (j<i)=c):bG .gt (.int i) (.int j)=a5 c:=by subst h;rfl
def gf(h:(i==j)=c):bG .eq (.int i) (.int j)=a5 c:=by subst h;rfl
def ja:Js .len [(k,.lst xs)]=a5 (.loc,.int (xs.length:Nat)):=rfl
def fh:Js .len [(k,.tup xs)]=a5 (.loc,.int (xs.length:Nat)):=rfl
abbrev CC(ns:List Int)(k:Nat):Int:=if k<ns.length then(ns[k]?).getD 0 else 2 * sr ((ns[k % ns.length]?).getD 0) k+1
def yY(f:yW Γ){k:Nat}(hk:k<2 ^ 62):bP Γ uB [.lst (ns.map .int),.int k]=a5 (.ok (.loc,.int (CC ns k))):=by
 have b:∀c,Γ "_law_mix" [.int c,.int k]=a5 (.ok (.loc,.int (sr c k))):=λc=>f c k ⋯ ⋯;unfold CC;by_cases h:k<ns.length
 .rw[Ĺ h];have a:Iq (ns.map U.int) (k:Int)=a5 (.int ((ns[k]?).getD 0)):=cQ (by simp[h]);apply aG (st0:=[a5 (.any,.lst (ns.map .int)),a5 (.loc,.int k),b6]) rfl (.inr rfl) rfl;apply yT
  all_goals repeat' (first|show yX (by simp[h])|show aS a|show GH rfl|sizeOf_list_dec)
 .rw[ĺ h];have d:bG .lt (.int k) (.int ((ns.map U.int).length:Nat))=a5 cb:=yX (by simp;lia);by_cases hz:0<ns.length
  .have hi:k % ns.length<ns.length:=Yw _ hz;have a:Iq (ns.map U.int) ((k:Int) % ((ns.map U.int).length:Nat))=a5 (.int ((ns[k % ns.length]?).getD 0)):=by
    rw[df,show(k:Int) % (ns.length:Nat)=((k % ns.length:Nat):Int) by lia];show cQ (by simp[hi])
   have g:(0:Int)<((ns.map U.int).length:Nat):=by simp;lia
   apply aG (st0:=[a5 (.any,.lst (ns.map .int)),a5 (.loc,.int k),b6]) rfl (.inr rfl) rfl;apply dn
   all_goals repeat' (first|show d|sizeOf_list_dec)
   apply ig
   all_goals repeat' (first|show fC (by simp;lia)|show cj g|show aS a|show b _|sizeOf_list_dec)
  .have e:ns=[]:=List.eq_nil_of_length_eq_zero ⋯;subst e;apply aG (st0:=[a5 (.any,.lst ([].map .int)),a5 (.loc,.int k),b6]) rfl (.inr rfl) rfl;apply dn
   all_goals repeat' (first|show d|sizeOf_list_dec)
   apply dn
   all_goals repeat' (first|show b _|sizeOf_list_dec)
abbrev oM:Fn:=⟨"_law_drawn",2,5,[.set 2 (.lst []),.set 3 (.bin .Kw (.var 0) (.cst (.int 2))),.Ip cb [4] .IL [.var 1] [.ite (.cmp .eq (.bin .mod (.var 0) (.cst (.int 2))) (.cst (.int 0))) [.app 2 (.bin .mod (.var 3) (.cst (.int 64))),.set 3 (.bin .Kw (.var 3) (.cst (.int 64)))] [.app 2 (.bin .mod (.bin .Kw (.call "_law_mix" [.var 0,.var 4]) (.cst (.int 7))) (.cst (.int 4096)))]],.ret (.var 2)]⟩
def qm(x:Kd×U):KA .IL [x]=vm x:=rfl
def su(h:n<2 ^ 62):KA .IL [(k,.int (n:Nat))]=a5 ((i4 n).map λi:Nat=>(Kd.loc,U.int (0+(i:Int)))):=by
 rw[qm,vm,Ĺ ⋯,LJ]
abbrev gh(n:Nat)(xs:List (Kd×U)):Prop:=∃i,i<=n/\xs=((i4 n).drop i).map λi:Nat=>(Kd.loc,U.int (0+(i:Int)))
def gh.cons(h:gh n (x::xs)):∃i:Nat,i<n/\x=(.loc,.int (i:Nat))/\gh n xs/\i+xs.length+1=n:=by
 have⟨i,hi,e⟩:=h;by_cases a:i<n
 .rw[Px (by simpa using a),il]at e;cases e;show⟨i,a,by simp,⟨i+1,a,rfl⟩,by simp;lia⟩
 .rw[List.drop_eq_nil_of_le (by simp;lia)]at e;cases e
def gh.all(n:Nat):gh n ((i4 n).map λi:Nat=>(Kd.loc,U.int (0+(i:Int)))):=⟨0,mN _,rfl⟩
def vT(p:yW Γ)(v:n<1000):∃ds:List Int,ds.length=n/\(∀d∈ds,0<=d)/\bP Γ oM [.int c,.int n]=a5 (.ok (.own,.lst (ds.map .int))):=by
 have hsz:(1000:Nat)<=cL:=by decide
 let I:List (Kd×U)->au->Prop:=λxs st=>∃(ds:List Int) (us:List U) (left:Int) (o:Option (Kd×U)),st=[a5 (.loc,.int c),a5 (.loc,.int n),a5 (.own,.lst us),a5 (.loc,.int left),o]/\us=ds.map .int/\(∀d∈ds,0<=d)/\ds.length+xs.length=n/\gh n xs;have a:=ur (t:=cb) (is:=[4]) (body:=execs Γ [.ite (.cmp .eq (.bin .mod (.var 0) (.cst (.int 2))) (.cst (.int 0)))
    [.app 2 (.bin .mod (.var 3) (.cst (.int 64))),
    .set 3 (.bin .Kw (.var 3) (.cst (.int 64)))]
    [.app 2 (.bin .mod (.bin .Kw (.call "_law_mix" [(.var 0),(.var 4)]) (.cst (.int 7))) (.cst (.int 4096)))]]) (rs:=[(.loc,.int n)]) I (λ_ _ _=>trivial) (λx xs st q=>by
  have⟨ds,us,left,o,e,e2,b,hl,r⟩:=q;subst e;have h:us.length=ds.length:=by rw[e2];simp
  have⟨i,hi,rfl,j,l⟩:=r.cons;have s:Γ "_law_mix" [.int c,.int i]=a5 (.ok (.loc,.int (sr c i))):=p c i ⋯ ⋯;rw[lx]at hl;by_cases m:c % 2=0
  .show⟨[a5 (.loc,.int c),a5 (.loc,.int n),a5 (.own,.lst us),a5 (.loc,.int left),a5 (.loc,.int i)],[a5 (.loc,.int c),a5 (.loc,.int n),a5 (.own,.lst (us++[.int (left % 64)])),a5 (.loc,.int (left / 64)),a5 (.loc,.int i)],aK,?_,⟨ds++[left % 64],_,left / 64,_,rfl,by simp[e2],?_,by simp;lia,j⟩⟩
   .apply ig
    all_goals repeat' (first|show gf (by simp[m])|show(by rw[h];lia)|sizeOf_list_dec)
   .intro d f;rcases ke.mp f with z|z
    .show b d z
    .rw[nc.mp z];lia
  .show⟨[a5 (.loc,.int c),a5 (.loc,.int n),a5 (.own,.lst us),a5 (.loc,.int left),a5 (.loc,.int i)],[a5 (.loc,.int c),a5 (.loc,.int n),a5 (.own,.lst (us++[.int (sr c i / 7 % 4096)])),a5 (.loc,.int left),a5 (.loc,.int i)],aK,?_,⟨ds++[sr c i / 7 % 4096],_,left,_,rfl,by simp[e2],?_,by simp;lia,j⟩⟩
   .apply dn
    all_goals repeat' (first|show gf (by simp[m])|show s|show(by rw[h];lia)|sizeOf_list_dec)
   .intro d f;rcases ke.mp f with z|z
    .show b d z
    .rw[nc.mp z];lia)
 obtain⟨st',u,ds,us,left,o,e,e2,b,hl,_⟩:=a ((i4 n).map λi:Nat=>(Kd.loc,U.int (0+(i:Int)))) [a5 (.loc,.int c),a5 (.loc,.int n),a5 (.own,.lst []),a5 (.loc,.int (c / 2)),b6] ⟨[],[],c / 2,b6,rfl,rfl,by simp,by simp,gh.all n⟩;subst e e2;show⟨ds,by simpa using hl,b,?_⟩;apply aG (st0:=[a5 (.loc,.int c),a5 (.loc,.int n),b6,b6,b6]) rfl (.inl rfl) rfl
 repeat' sizeOf_list_dec
 have g:=su (k:=.loc) (n:=n) ⋯;refine' fA (rs:=[(.loc,.int n)]) (st1:=[a5 (.loc,.int c),a5 (.loc,.int n),a5 (.own,.lst []),a5 (.loc,.int (c / 2)),b6]) _ trivial g rfl u _
 all_goals repeat' sizeOf_list_dec
end TM
local macro_rules
 |`(tactic| sizeOf_list_dec)=>`(tactic| first|exact TM.aT|apply TM.ax|apply TM.jN|apply TM.bh|exact TM.av|exact TM.af rfl|exact TM.bA rfl|exact TM.aA rfl|apply TM.cm|apply TM.f_|apply TM.bg|apply TM.bS|apply TM.aP|apply TM.ui|apply TM.bp|exact TM.ai|apply TM.ae|apply TM.fz|apply TM.dN|exact TM.aV|apply TM.aE|exact TM.aL|exact TM.qi|(first|exact trivial|exact⟨⟨_,rfl,rfl⟩,trivial⟩|exact⟨⟨_,rfl,rfl⟩,⟨_,rfl,rfl⟩,trivial⟩)|exact TM.d7|exact TM.qM|exact TM.cj (by first|lia|decide)|exact TM.yV (by first|lia|decide)|exact TM.nI (by first|lia|decide)|exact TM.nJ (by decide)|exact TM.aK|exact TM.bq|exact TM.lH|exact TM.bZ|exact TM.jM|exact TM.nh rfl|exact mN _|exact rfl|exact TM.uA)
namespace Ir
open PySem L2
abbrev bw(l:List Nat):Prop:=dW l=bD\/∃a b k,l=a++47::b/\dW a=bD/\2<=k/\k<=99/\(eW k).cps.toList=b
def len_list(x:Str):x.length=x.cps.toList.length:=by simp[S7]
def jv(a:0<=k)(b:k<=99):(eW k).length<=2:=by
 have⟨m,rfl⟩:=SW a;have c:m<100:=by lia
 clear a b;revert m;decide +kernel
def bw.len(h:bw l):1<=l.length/\l.length<=11:=by
 rcases h with h|⟨a,b,k,rfl,h,e,c,d⟩
 .have:=(bU l).mp h;lia
 .have:=(bU a).mp h;have hl:=jv (k:=k) ⋯ c;rw[len_list,d]at hl;simp;lia
def bw.HI(h:bw x.cps.toList):∃y r,Ql x Cm=y::r/\dW y.cps.toList=bD:=by
 rcases h with h|⟨a,b,k,e,h,_⟩
 .show⟨x,[],rb (iD h),h⟩
 .have⟨r,c⟩:=xf e (iD h) (by decide);show⟨_,r,c,by simpa using h⟩
theorem fD:∀(ps:List Str) (a:Array Nat),(ps.foldl (λa p=>a++wh.cps++p.cps) a).toList=a.toList++(ps.map λp=>p.cps.toList).flatten
 |[],a=>by simp
 |p::ps,a=>by
  rw[We,fD ps];have:wh.cps=#[]:=rfl;simp[this]
def join_list(ts:List Str):(VG wh ts).cps.toList=(ts.map λp=>p.cps.toList).flatten:=by
 cases ts with
 |nil=>rfl
 |cons t ts =>
  change(ts.foldl (λa p=>a++wh.cps++p.cps) t.cps).toList=_;rw[fD];simp
abbrev one(c:Nat):Str:=⟨#[c]⟩
def join_ones(a:List Nat):(VG wh (a.map one)).cps.toList=a:=by
 rw[join_list,ko];induction a with
 |nil=>rfl
 |cons c a b=>rw[il,Ê,b];rfl
def qo(a:List Nat)(h:a.length<=100):ö wh (a.map one)=bD:=by
 unfold ö;have e:=PySem.StrLaws.joinTotal wh (a.map one);have b:wh.length=0:=rfl;have es:((a.map one).map (·.length)).sum=a.length:=by
  rw[ko];clear h e;induction a with
  |nil=>rfl
  |cons c a d=>rw[il,List.sum_cons,d];change 1+a.length=a.length+1;lia
 rw[e,b,es];have f:a.length+(a.map one).length * 0<=100:=by lia
 revert f;generalize a.length+(a.map one).length * 0=m;revert m;decide
def EF(x:Str)(j:Nat):(PySem.StrLaws.sliceText x b6 (a5 (j:Int))).cps.toList=x.cps.toList.take j:=by
 by_cases h:j<=x.cps.toList.length
 .rw[PySem.StrLaws.sliceText_to (x:=x) ⟨⋯,⋯⟩];simp
 .have e:PySem.StrLaws.sliceText x b6 (a5 (j:Int))=PySem.StrLaws.sliceText x b6 (a5 (x.length:Int)):=by
   unfold PySem.StrLaws.sliceText;have hl:=len_list x;have:PySem.Builtin.Str.strSliceIndices b6 (a5 (j:Int)) 1 x.length=PySem.Builtin.Str.strSliceIndices b6 (a5 (x.length:Int)) 1 x.length:=by
    have a:¬((j:Int)<0):=by lia
    have b:¬((x.length:Int)<0):=by lia
    have c:min (j:Int) (x.length:Int)=x.length:=by lia
    simp[PySem.Builtin.Str.strSliceIndices,a,b,c]
   rw[this]
  have hl:=len_list x;rw[e,PySem.StrLaws.sliceText_to (x:=x) ⟨⋯,⋯⟩,í,Mb (l:=x.cps.toList) (i:=j) ⋯];change(x.cps.toList.take ((x.length:Int) - 0).toNat).toArray.toList=_;rw[Mb ⋯]
def vU(d:dW a=bD)(e:∀c∈b,low c=bD):dW ((a++b).take 8)=bD:=by
 have h:=(bU a).mp d;show(bU _).mpr ⟨by simp;lia,by simp;lia,λc f=>?_⟩;have g:=ZD f;rcases ke.mp g with m|m
 .show h.2.2 c m
 .have:=e c m;simp[low]at this;lia
def jO(a:∀c∈b,low c=bD)(d:1<=b.length)(e:b.length<=8):dW b=bD :=
 (bU b).mpr ⟨d,e,λc f=>by have:=a c f;simp[low]at this;lia⟩
abbrev small:Str:="abcdefghijklmnopqrstuvwxyz"
def sv:small.cps.toList=(i4 26).map (97+·):=by decide +kernel
def lK(a:0<=k)(b:k<26):Iq small.cps.toList k=a5 (97+k.toNat):=by
 have⟨j,rfl⟩:=SW a;show cQ ?_;rw[sv,k9,RZ ⋯];rfl
def sy(h:j<26):low (97+j)=bD:=by simp[low];lia
abbrev ni(k:Nat):Str:=⟨#[97+k / 26,97+k % 26]⟩
def sA(h:k<40):dW (ni k).cps.toList=bD:=by
 show jO (λc a=>?_) (by change 1<=2;decide) (by change 2<=8;decide);have b:c=97+k / 26\/c=97+k % 26:=by simpa[ni] using a
 rcases b with rfl|rfl
 .show sy ⋯
 .show sy ⋯
theorem lL [DecidableEq α]:∀{l m:List α},l.Nodup->(∀x∈l,x∈m)->l.length<=m.length
 |[],_,_,_=>mN _
 |x::l,m,c,h=>by
  have⟨d,e⟩:=pa.mp c;have a:=h x mh;have f:=lL (l:=l) (m:=m.erase x) e λy b=>(ZE (by rintro rfl;show d b)).mpr (h y (ki _ b));rw[YK a]at f;have:0<m.length:=Zh a;rw[lx];lia
abbrev bW:List Str:=(i4 40).map ni
def oN:bW.Nodup:=by
 decide +kernel
def sC(names:List Str)(h:names.length<40):∃x∈bW,x∉names:=by
 apply OV;intro a;have:∀x∈bW,x∈names:=λx b=>OV λc=>a ⟨x,b,c⟩;have:=lL oN this;simp[bW]at this;lia
end Ir
namespace TM
open PySem L2 Ir
def oO(a:0<=z)(h:z<2 ^ 62):KA .IL [(k,.int z)]=a5 ((i4 z.toNat).map λi:Nat=>(Kd.loc,U.int (0+(i:Int)))):=by
 rw[qm,vm,Ĺ ⋯]
def kH(a:x.length<=cL)(h:Iq x.cps.toList i=a5 c):iO (k,.str x) (.int i)=a5 (.loc,.str (Ir.one c)):=by
 simp only[iO];rw[Ĺ a,h];rfl
def lM:small.length<=cL:=by decide
def bQ{ds:List Int}{i:Nat}(h:i<ds.length):Iq (ds.map U.int) (i:Int)=a5 (.int ((ds[i]?).getD 0)):=cQ (by simp[h])
theorem eO:∀(ss:List Str),strsOf (ss.map U.str)=a5 ss
 |[]=>rfl
 |s::ss=>by change(strsOf (ss.map U.str)).map (s::·)=_;rw[eO ss];rfl
abbrev oP(a:E):Fn:=⟨"_law_name",2,6,[.set 2 (.cst (.str "abcdefghijklmnopqrstuvwxyz")),.set 3 (.KS .join (.cst (.str "")) [.comp 1 cb .IL [.bin .add (.cst (.int 1)) (.bin .mod (.idx (.var 0) (.cst (.int 0))) (.cst (.int 8)))] [] (.idx (.var 3) (.bin .mod (.idx (.var 1) (.bin .add (.cst (.int 4)) (.var 0))) (.cst (.int 26))))]),.ite (.cmp .gt (.bi .len [.var 1]) (.cst (.int 0))) [.set 4 (.idx (.KS .split (.idx (.var 1) (.bin .mod (.idx (.var 0) (.cst (.int 1))) (.bi .len [.var 1]))) [.cst (.str "/")]) (.cst (.int 0))),.ite (.cmp .eq (.bin .mod (.idx (.var 0) (.cst (.int 2))) (.cst (.int 4))) (.cst (.int 1))) [.set 3 (.Ky (.bin .add (.var 4) (.var 3)) [] [.cst (.int 8)])] [],.ite (.cmp .eq (.bin .mod (.idx (.var 0) (.cst (.int 2))) (.cst (.int 4))) (.cst (.int 2))) [.set 3 (.bin .add (.bin .add (.var 4) (.cst (.str "/"))) (.bi .str [.bin .add (.cst (.int 2)) (.bin .mod (.idx (.var 0) (.cst (.int 3))) a)]))] []] [],.set 5 (.bin .add (.lst [.var 3]) (.comp 1 cb .IL [.cst (.int 40)] [] (.bin .add (.idx (.var 3) (.bin .Kw (.var 0) (.cst (.int 26)))) (.idx (.var 3) (.bin .mod (.var 0) (.cst (.int 26))))))),.ret (.idx (.comp 1 cb .seq [.var 5] [.cmp .HQ (.var 0) (.var 2)] (.var 0)) (.cst (.int 0)))]⟩
abbrev BJ(a:E):Prop:=∀(Γ:Tab) (ds:List Int),12<=ds.length->(∀d∈ds,0<=d)->∃m:Int,0<m/\m<=98/\∀o1 o2 o3 o4 o5,Run (ev Γ a) [a5 (.any,.lst (ds.map .int)),o1,o2,o3,o4,o5] (.loc,.int m) [a5 (.any,.lst (ds.map .int)),o1,o2,o3,o4,o5]
@[reducible]def GK:E:=.cst (.int 98)
def BK:BJ GK:=λ_ _ _ _=>⟨98,by decide,by decide,λ_ _ _ _ _=>av⟩
section
variable{Γ:Tab}{ds:List Int}
abbrev dd(ds:List Int)(i:Nat):Int:=(ds[i]?).getD 0
def dY(a:∀d∈ds,0<=d)(i:Nat):0<=dd ds i:=by
 unfold dd;cases e:ds[i]? with
 |none=>simp
 |some d=>show a d (tr e)
def oQ(o:12<=ds.length)(g:∀d∈ds,0<=d):∃b:List Nat,(∀c∈b,low c=bD)/\1<=b.length/\b.length<=8 /\
  Run (ev Γ (.comp 1 cb .IL [.bin .add (.cst (.int 1)) (.bin .mod (.idx (.var 0) (.cst (.int 0))) (.cst (.int 8)))] [] (.idx (.var 3) (.bin .mod (.idx (.var 1) (.bin .add (.cst (.int 4)) (.var 0))) (.cst (.int 26))))))
   [a5 (.any,.lst (ds.map .int)),o1,a5 (.loc,.str small),o3,o4,o5] (.own,.lst ((b.map Ir.one).map .str)) [a5 (.any,.lst (ds.map .int)),o1,a5 (.loc,.str small),o3,o4,o5]:=by
 have hz:=dY g 0;let n:=(1+dd ds 0 % 8).toNat;have h:n<=8/\1<=n:=by change(1+dd ds 0 % 8).toNat<=8/\1<=(1+dd ds 0 % 8).toNat;lia
 let f:Nat->Nat:=λi=>97+(dd ds (4+i) % 26).toNat;show⟨(i4 n).map f,?_,by simp;show h.2,by simp;show h.1,?_⟩
 .intro c m;obtain⟨i,_,rfl⟩:=kl.mp m;have:=dY g (4+i);show sy ⋯
 .have a:Run (bI 1 cb (aO Γ []) (ev Γ (.idx (.var 3) (.bin .mod (.idx (.var 1) (.bin .add (.cst (.int 4)) (.var 0))) (.cst (.int 26))))) [(.loc,.int (1+dd ds 0 % 8))] ((i4 n).map λi:Nat=>(Kd.loc,U.int (0+(i:Int)))) [])
    [a5 (.any,.lst (ds.map .int)),o1,a5 (.loc,.str small),o3,o4,o5] ([]++((i4 n).map λi:Nat=>(Kd.loc,U.int (0+(i:Int)))).map λx=>match x.2 with|.int j=>.str (Ir.one (97+(dd ds (4+j.toNat) % 26).toNat))|u=>u) [a5 (.any,.lst (ds.map .int)),o1,a5 (.loc,.str small),o3,o4,o5]:=by
   have p:(8:Nat)<=cL:=by decide
   show yU (by show trivial) _ (λ_=>.loc) _ _ (by simp;lia) (λx a=>?_) (λx a=>?_)
   .obtain⟨i,_,rfl⟩:=kl.mp a;show .inl rfl
   .have⟨i,hi,rfl⟩:=kl.mp a;have q:i<n:=by simpa using hi
    have l:Iq (ds.map U.int) (4+(0+(i:Int)))=a5 (.int (dd ds (4+i))):=by
     rw[show(4+(0+(i:Int)))=((4+i:Nat):Int) by lia];show bQ ⋯
    have r:=dY g (4+i);have hs:=lK (k:=dd ds (4+i) % 26) ⋯ ⋯;show⟨gb,?_,aL⟩;simp only[V0,LJ];rw[V0]at l
    repeat' (first|show aS l|show kH lM hs|sizeOf_list_dec)
  have e:((i4 n).map f).map Ir.one=(i4 n).map λi=>Ir.one (97+(dd ds (4+i) % 26).toNat):=by rw[ko];rfl
  rw[e];have e2:([]++((i4 n).map λi:Nat=>(Kd.loc,U.int (0+(i:Int)))).map λx=>match x.2 with|.int j=>U.str (Ir.one (97+(dd ds (4+j.toNat) % 26).toNat))|u=>u)=((i4 n).map λi=>Ir.one (97+(dd ds (4+i) % 26).toNat)).map U.str:=by
   rw[nC,ko,ko];apply Jw;intro i _;simp
  rw[e2]at a;show cz (rs:=[(.loc,.int (1+dd ds 0 % 8))]) ?_ trivial (oO ⋯ ⋯) a
  repeat' (first|show aS (bQ (i:=0) ⋯)|sizeOf_list_dec)
def j9(h:x.length+y.length<=cL):Kb .add (k,.str x) (k',.str y)=a5 (.loc,.str (x++y)):=by
 simp only[Kb,vj];rw[Ĺ h]
theorem gH:∀(ss:List Str) (n:Nat),cS n (ss.map U.str)=bD
 |[],n=>by simp[cS]
 |s::ss,n=>by simp only[il,cS,gH ss n,YM];cases n<;>rfl
theorem qp(x:Str):∀(ss:List Str),((ss.map U.str).any λy=>cq y (.str x))=cK (x∈ss)
 |[]=>by simp
 |s::ss=>by
  rw[il,Ux,qp x ss];have:cq (.str s) (.str x)=cK (x=s):=by
   simp only[cq];by_cases h:x=s
   .subst h;simp
   .have h':s≠x:=λz=>h z.symm;simp[h,h']
  rw[this,Nm];simp
def uC(x:Str)(ss:List Str):Nh (.str x) (ss.map U.str)=a5 (cK (x∈ss)):=by
 unfold Nh;rw[Ĺ ⟨by rfl,gH ss 50⟩,qp]
def gk{x:Str}{ss:List Str}:bG .HQ (.str x) (.lst (ss.map U.str))=a5 (cK (x∉ss)):=by
 change(Nh (.str x) (ss.map U.str)).map (!·)=_;rw[uC];simp
def qq:Run (ev Γ (.comp 1 cb .IL [.cst (.int 40)] [] (.bin .add (.idx (.var 3) (.bin .Kw (.var 0) (.cst (.int 26)))) (.idx (.var 3) (.bin .mod (.var 0) (.cst (.int 26)))))))
   [o0,o1,a5 (.loc,.str small),o3,o4,o5] (.own,.lst (bW.map .str)) [o0,o1,a5 (.loc,.str small),o3,o4,o5]:=by
 have e:(100:Nat)<=cL:=by decide
 have a:Run (bI 1 cb (aO Γ []) (ev Γ (.bin .add (.idx (.var 3) (.bin .Kw (.var 0) (.cst (.int 26)))) (.idx (.var 3) (.bin .mod (.var 0) (.cst (.int 26)))))) [(.loc,.int 40)] ((i4 40).map λi:Nat=>(Kd.loc,U.int (0+(i:Int)))) [])
   [o0,o1,a5 (.loc,.str small),o3,o4,o5] ([]++((i4 40).map λi:Nat=>(Kd.loc,U.int (0+(i:Int)))).map λx=>match x.2 with|.int j=>.str (ni j.toNat)|u=>u) [o0,o1,a5 (.loc,.str small),o3,o4,o5]:=by
  show yU (by show trivial) _ (λ_=>.loc) _ _ (by simp;lia) (λx a=>?_) (λx a=>?_)
  .obtain⟨i,_,rfl⟩:=kl.mp a;show .inl rfl
  .have⟨i,hi,rfl⟩:=kl.mp a;have f:i<40:=by simpa using hi
   show⟨gb,?_,aL⟩;simp only[V0,LJ];have b:=lK (k:=(i:Int) / 26) ⋯ ⋯;have c:=lK (k:=(i:Int) % 26) ⋯ ⋯;have d:((i:Int) / 26).toNat=i / 26:=by lia
   have e2:((i:Int) % 26).toNat=i % 26:=by lia
   rw[d]at b;rw[e2]at c;have ad:Kb .add (.loc,.str (Ir.one (97+i / 26))) (.loc,.str (Ir.one (97+i % 26)))=a5 (.loc,.str (ni i)):=by
    have:=j9 (k:=.loc) (k':=.loc) (x:=Ir.one (97+i / 26)) (y:=Ir.one (97+i % 26)) (by change 1+1<=cL;lia);rw[this];rfl
   repeat' (first|show kH lM b|show kH lM c|show ad|sizeOf_list_dec)
 have e2:([]++((i4 40).map λi:Nat=>(Kd.loc,U.int (0+(i:Int)))).map λx=>match x.2 with|.int j=>U.str (ni j.toNat)|u=>u)=bW.map U.str:=by
  rw[nC,ko,bW,ko];apply Jw;intro i _;simp
 rw[e2]at a;show cz (rs:=[(.loc,.int 40)]) (by repeat' sizeOf_list_dec) trivial (oO ⋯ ⋯) a
def vV{names ts:List Str}(hl:ts.length<=1000):Run (ev Γ (.comp 1 cb .seq [.var 5] [.cmp .HQ (.var 0) (.var 2)] (.var 0)))
   [o0,a5 (.any,.lst (names.map .str)),o2,o3,o4,a5 (.own,.lst (ts.map .str))] (.own,.lst ((ts.filter λx=>cK (x∉names)).map .str)) [o0,a5 (.any,.lst (names.map .str)),o2,o3,o4,a5 (.own,.lst (ts.map .str))]:=by
 have c:(1000:Nat)<=cL:=by decide
 have a:=lJ (cond:=aO Γ [.cmp .HQ (.var 0) (.var 2)]) (elt:=ev Γ (.var 0)) (src:=[(.bor 5,.lst (ts.map .str))]) (st:=[o0,a5 (.any,.lst (names.map .str)),o2,o3,o4,a5 (.own,.lst (ts.map .str))]) ⟨⟨.own,rfl,rfl⟩,trivial⟩
  (λx=>match x.2 with|.str y=>cK (y∉names)|_=>cb) (λx=>x.2) (λ_=>.loc) ((ts.map U.str).map λu=>(kE (.bor 5),u)) [] (by simp;lia) (λx a=>by obtain⟨u,_,rfl⟩:=kl.mp a;show .inl rfl) (λx a=>by
   have⟨u,b,rfl⟩:=kl.mp a;obtain⟨y,_,rfl⟩:=kl.mp b;show⟨dm ?_,af rfl,aL⟩
   repeat' (first|show gk|sizeOf_list_dec))
 have e:([]++(((ts.map U.str).map λu=>(kE (.bor 5),u)).filter λx=>match x.2 with|.str y=>cK (y∉names)|_=>cb).map λx=>x.2)=(ts.filter λx=>cK (x∉names)).map U.str:=by
  rw[nC,æ,æ,ko,ko];rfl
 rw[e]at a;show cz (rs:=[(.bor 5,.lst (ts.map .str))]) (by repeat' sizeOf_list_dec) ⟨⟨.own,rfl,rfl⟩,trivial⟩ rfl a
end
section
variable{Γ:Tab}{ds:List Int}
def vW{names:List Str}(d:names.length<40)(f:bw a.cps.toList):∃x st',bw x.cps.toList/\x∉names /\
  Run (execs Γ [.set 5 (.bin .add (.lst [.var 3]) (.comp 1 cb .IL [.cst (.int 40)] [] (.bin .add (.idx (.var 3) (.bin .Kw (.var 0) (.cst (.int 26)))) (.idx (.var 3) (.bin .mod (.var 0) (.cst (.int 26))))))),
  .ret (.idx (.comp 1 cb .seq [(.var 5)] [(.cmp .HQ (.var 0) (.var 2))] (.var 0)) (.cst (.int 0)))]) [o0,a5 (.any,.lst (names.map .str)),a5 (.loc,.str small),a5 (.loc,.str a),o4,b6] (.rt .loc (.str x)) st':=by
 have o:(1000:Nat)<=cL:=by decide
 have⟨y,g,i⟩:=sC names d;have j:(a::bW).filter (λx=>cK (x∉names))≠[]:=λz=>by
  have:y∈(a::bW).filter (λx=>cK (x∉names)):=LD.mpr ⟨ki _ g,by simpa using i⟩;rw[z]at this;cases this
 cases e:(a::bW).filter (λx=>cK (x∉names)) with
 |nil=>show absurd e j
 |cons x b =>
  have l:x∈(a::bW).filter (λx=>cK (x∉names)):=by rw[e];simp
  have⟨m,n⟩:=LD.mp l;have c:=vV (Γ:=Γ) (names:=names) (ts:=a::bW) (by simp[bW]) (o0:=o0) (o2:=a5 (.loc,.str small)) (o3:=a5 (.loc,.str a)) (o4:=o4);rw[e]at c;have ad:Kb .add (.own,.lst [.str a]) (.own,.lst (bW.map U.str))=a5 (.own,.lst ((a::bW).map U.str)):=by
   simp only[Kb,vj];rw[Ĺ ⟨by simp[bW];lia,rfl,rfl⟩];rfl
  show⟨x,[o0,a5 (.any,.lst (names.map .str)),a5 (.loc,.str small),a5 (.loc,.str a),o4,a5 (.own,.lst ((a::bW).map .str))],?_,by simpa using n,?_⟩
  .rcases gj.mp m with rfl|h
   .show f
   .have⟨k,hk,rfl⟩:=kl.mp h;show .inl (sA (by simpa using hk))
  .show ax (st2:=[o0,a5 (.any,.lst (names.map .str)),a5 (.loc,.str small),a5 (.loc,.str a),o4,a5 (.own,.lst ((a::bW).map .str))]) (cm (x:=(.own,.lst [.str a])) (dN (ae (af rfl) ai) (by(first|show trivial|show⟨⟨_,rfl,rfl⟩,trivial⟩|show⟨⟨_,rfl,rfl⟩,⟨_,rfl,rfl⟩,trivial⟩)) (aE aL aV) (by change 1<=cL;lia)) qq trivial ad) bq ?_;show bh (bg c av trivial (aS (by change Iq _ ((0:Nat):Int)=_;show cQ rfl))) bZ
def yZ(N:BJ l)(B:12<=ds.length)(j:∀d∈ds,0<=d){names:List Str}(O:names.length<40)(Q:∀x∈names,bw x.cps.toList):
  ∃x,bw x.cps.toList/\x∉names/\bP Γ (oP l) [.lst (ds.map .int),.lst (names.map .str)]=a5 (.ok (.loc,.str x)):=by
 have⟨m,C,Y9,T⟩:=N Γ ds B j;have h8:(1000:Nat)<=cL:=by decide
 have⟨b,D,Y,G,Qi⟩:=oQ (Γ:=Γ) B j (o1:=a5 (.any,.lst (names.map .str))) (o3:=b6) (o4:=b6) (o5:=b6);have Qj:jX .join (.str "") [(.own,.lst ((b.map Ir.one).map U.str))]=a5 (.loc,.str (VG wh (b.map Ir.one))):=by
  change(strsOf ((b.map Ir.one).map U.str)).bind _=_;rw[eO];change(if ö wh (b.map Ir.one)=bD then _ else _)=_;rw[Ĺ (qo b ⋯)];rfl
 let a:Str:=VG wh (b.map Ir.one);have n:a.cps.toList=b:=join_ones b;have H:dW a.cps.toList=bD:=by rw[n];show jO D Y G
 have VH:a.length<=8:=by rw[len_list,n];show G
 have e:∀{f:Fl} {st':au} (ss:List S),Run (execs Γ ss) [a5 (.any,.lst (ds.map .int)),a5 (.any,.lst (names.map .str)),a5 (.loc,.str small),a5 (.loc,.str a),b6,b6] f st' ->
   Run (execs Γ (.set 2 (.cst (.str "abcdefghijklmnopqrstuvwxyz"))::.set 3 (.KS .join (.cst (.str "")) [.comp 1 cb .IL [.bin .add (.cst (.int 1)) (.bin .mod (.idx (.var 0) (.cst (.int 0))) (.cst (.int 8)))] [] (.idx (.var 3) (.bin .mod (.idx (.var 1) (.bin .add (.cst (.int 4)) (.var 0))) (.cst (.int 26))))])::ss))
    [a5 (.any,.lst (ds.map .int)),a5 (.any,.lst (names.map .str)),b6,b6,b6,b6] f st':=λss h=>ax (r:=(.loc,.str small)) av aK (ax (ui av (ae Qi ai) (by(first|show trivial|show⟨⟨_,rfl,rfl⟩,trivial⟩|show⟨⟨_,rfl,rfl⟩,⟨_,rfl,rfl⟩,trivial⟩)) Qj) aK h)
 have k:∀(g:Str) (o4:Option (Kd×U)),bw g.cps.toList->∃x st',bw x.cps.toList/\x∉names/\Run (execs Γ [.set 5 (.bin .add (.lst [.var 3]) (.comp 1 cb .IL [.cst (.int 40)] [] (.bin .add (.idx (.var 3) (.bin .Kw (.var 0) (.cst (.int 26)))) (.idx (.var 3) (.bin .mod (.var 0) (.cst (.int 26))))))),
  .ret (.idx (.comp 1 cb .seq [(.var 5)] [(.cmp .HQ (.var 0) (.var 2))] (.var 0)) (.cst (.int 0)))]) [a5 (.any,.lst (ds.map .int)),a5 (.any,.lst (names.map .str)),a5 (.loc,.str small),a5 (.loc,.str g),o4,b6] (.rt .loc (.str x)) st':=λg o4 o=>vW O o
 by_cases hz:0<names.length
 .
  have hi:(dd ds 1).toNat % names.length<names.length:=Yw _ hz;let nm:=names[(dd ds 1).toNat % names.length]'hi;have I:bw nm.cps.toList:=Q _ (Ms hi);have⟨y,r,Jx,p⟩:=I.HI;have QZ:y.length<=8:=by rw[len_list];show((bU _).mp p).2.1
  have Uh:nm.length<=11:=by rw[len_list];show I.len.2
  have Ys:=dY j 1;have JE:Iq (names.map U.str) (dd ds 1 % ((names.map U.str).length:Nat))=a5 (.str nm):=by
   rw[df,show dd ds 1 % (names.length:Nat)=(((dd ds 1).toNat % names.length:Nat):Int) by rw[Int.natCast_emod,Uz Ys]];show cQ (by simp[hi];rfl)
  have N_:jX .split (.str nm) [(.loc,.str "/")]=a5 (.own,.lst ((y::r).map U.str)):=by
   change(if (S7 "/"==0)=cb/\nm.length+2<=cL then a5 (Kd.own,U.lst ((Ql nm "/").map .str)) else b6)=_;rw[Ĺ ⟨by decide,⋯⟩,show("/":Str)=Cm from rfl,Jx]
  have hp:(0:Int)<((names.map U.str).length:Nat):=by simp;lia
  have Yt:iO (.own,.lst ((y::r).map U.str)) (.int 0)=a5 (.loc,.str y):=aS (by change Iq _ ((0:Nat):Int)=_;show cQ rfl);have ab:=dY j 2;have Y_:=dY j 3;have i1:Iq (ds.map U.int) 1=a5 (.int (dd ds 1)):=bQ (i:=1) ⋯;have J:Iq (ds.map U.int) 2=a5 (.int (dd ds 2)):=bQ (i:=2) ⋯;have i3:Iq (ds.map U.int) 3=a5 (.int (dd ds 3)):=bQ (i:=3) ⋯;have go:∀g:Str,bw g.cps.toList->Run (execs Γ [.ite (.cmp .eq (.bin .mod (.idx (.var 0) (.cst (.int 2))) (.cst (.int 4))) (.cst (.int 1)))
    [.set 3 (.Ky (.bin .add (.var 4) (.var 3)) [] [.cst (.int 8)])]
    [],
   .ite (.cmp .eq (.bin .mod (.idx (.var 0) (.cst (.int 2))) (.cst (.int 4))) (.cst (.int 2)))
    [.set 3 (.bin .add (.bin .add (.var 4) (.cst (.str "/"))) (.bi .str [.bin .add (.cst (.int 2)) (.bin .mod (.idx (.var 0) (.cst (.int 3))) l)]))]
    []]) [a5 (.any,.lst (ds.map .int)),a5 (.any,.lst (names.map .str)),a5 (.loc,.str small),a5 (.loc,.str a),a5 (.loc,.str y),b6] .nx [a5 (.any,.lst (ds.map .int)),a5 (.any,.lst (names.map .str)),a5 (.loc,.str small),a5 (.loc,.str g),a5 (.loc,.str y),b6] ->
    ∃x,bw x.cps.toList/\x∉names/\bP Γ (oP l) [.lst (ds.map .int),.lst (names.map .str)]=a5 (.ok (.loc,.str x)):=λg o hr=>by
   have⟨x,st',q,s,t⟩:=k g (a5 (.loc,.str y)) o;show⟨x,q,s,aG (st0:=[a5 (.any,.lst (ds.map .int)),a5 (.any,.lst (names.map .str)),b6,b6,b6,b6]) rfl (.inr rfl) rfl (e _ (ig (st1:=[a5 (.any,.lst (ds.map .int)),a5 (.any,.lst (names.map .str)),a5 (.loc,.str small),a5 (.loc,.str a),b6,b6]) ?_ (ax (r:=(.loc,.str y)) (st1:=[a5 (.any,.lst (ds.map .int)),a5 (.any,.lst (names.map .str)),a5 (.loc,.str small),a5 (.loc,.str a),b6,b6]) ?_ aK hr) t))⟩
   .repeat' (first|show fC (by simp;lia)|sizeOf_list_dec)
   .repeat' (first|show cj hp|show aS JE|show aS i1|show N_|show Yt|sizeOf_list_dec)
  have u:∀{c:Bool} {o3 o4:Option (Kd×U)},(dd ds 2 % 4==1)=c->Run (Ib Γ (.cmp .eq (.bin .mod (.idx (.var 0) (.cst (.int 2))) (.cst (.int 4))) (.cst (.int 1)))) [a5 (.any,.lst (ds.map .int)),a5 (.any,.lst (names.map .str)),a5 (.loc,.str small),o3,o4,b6] c [a5 (.any,.lst (ds.map .int)),a5 (.any,.lst (names.map .str)),a5 (.loc,.str small),o3,o4,b6]:=λv=>by
   repeat' (first|show aS J|show gf v|sizeOf_list_dec)
  have w:∀{c:Bool} {o3 o4:Option (Kd×U)},(dd ds 2 % 4==2)=c->Run (Ib Γ (.cmp .eq (.bin .mod (.idx (.var 0) (.cst (.int 2))) (.cst (.int 4))) (.cst (.int 2)))) [a5 (.any,.lst (ds.map .int)),a5 (.any,.lst (names.map .str)),a5 (.loc,.str small),o3,o4,b6] c [a5 (.any,.lst (ds.map .int)),a5 (.any,.lst (names.map .str)),a5 (.loc,.str small),o3,o4,b6]:=λv=>by
   repeat' (first|show aS J|show gf v|sizeOf_list_dec)
  by_cases z:dd ds 2 % 4=1
  .have Yu:y.length+a.length<=cL:=by lia
   have N4:kZ (.loc,.str (y++a)) b6 (a5 8)=a5 (.loc,.str (PySem.StrLaws.sliceText (y++a) b6 (a5 8))):=by
    simp only[kZ];rw[Ĺ (by rw[len_list];change(y.cps++a.cps).toList.length<=_;rw[T5,j0,<-len_list,<-len_list];lia)]
   show go (PySem.StrLaws.sliceText (y++a) b6 (a5 8)) (.inl ?_) ?_
   .have:=EF (y++a) 8;rw[show((8:Nat):Int)=8 from rfl]at this;rw[this];change dW ((y.cps++a.cps).toList.take 8)=bD;rw[T5];show vU p (by rw[n];show D)
   .show ig (u (by simp[z])) (ax (uh (cm (af rfl) (af rfl) trivial (j9 Yu)) uf (ug av) trivial N4) aK aT) (dn (w (by simp[z])) aT aT)
  .by_cases A:dd ds 2 % 4=2
   .have Ti:=Xm (dd ds 3) (show m≠0 by lia);have Nj:=U6 (dd ds 3) C;have P2:0<=2+dd ds 3 % m:=by lia
    have L:2+dd ds 3 % m<=99:=by lia
    have Yv:=jv P2 L;have NW:Js .str [(.loc,.int (2+dd ds 3 % m))]=a5 (.loc,.str (eW (2+dd ds 3 % m))):=by
     simp only[Js,fR,xE];rw[Ĺ (by
      have:(2+dd ds 3 % m).natAbs<2 ^ 7:=by lia
      have h2:(2+dd ds 3 % m).natAbs≠0:=by lia
      have:=(ZQ h2).mpr this;lia)]
     rfl
    have Uj:(y++("/":Str)).length=y.length+1:=by rw[len_list,len_list];change(y.cps++_).toList.length=_;rw[T5,j0];rfl
    have Uk:Run (ev Γ (.bin .add (.cst (.int 2)) (.bin .mod (.idx (.var 0) (.cst (.int 3))) l))) [a5 (.any,.lst (ds.map .int)),a5 (.any,.lst (names.map .str)),a5 (.loc,.str small),a5 (.loc,.str a),a5 (.loc,.str y),b6] (.loc,.int (2+dd ds 3 % m)) [a5 (.any,.lst (ds.map .int)),a5 (.any,.lst (names.map .str)),a5 (.loc,.str small),a5 (.loc,.str a),a5 (.loc,.str y),b6]:=cm av (cm (bg (bA rfl) av trivial (aS i3)) (T _ _ _ _ _) trivial (cj C)) trivial d7;show go (y++"/"++eW (2+dd ds 3 % m)) (.inr ⟨y.cps.toList,(eW (2+dd ds 3 % m)).cps.toList,2+dd ds 3 % m,?_,p,⋯,L,rfl⟩) ?_
    .change((y.cps++#[47])++(eW _).cps).toList=_;simp
    .show dn (u (by simp[A])) aT (ig (w (by simp[A])) (ax (cm (cm (af rfl) av trivial (j9 (by change y.length+1<=cL;lia))) (bS (ae Uk ai) trivial NW) trivial (j9 (by rw[Uj];lia))) aK aT) aT)
   .show go a (.inl H) ?_;show dn (u (by simp[z])) aT (dn (w (by simp[A])) aT aT)
 .have⟨x,st',q,s,t⟩:=k a b6 (.inl H);show⟨x,q,s,aG (st0:=[a5 (.any,.lst (ds.map .int)),a5 (.any,.lst (names.map .str)),b6,b6,b6,b6]) rfl (.inr rfl) rfl (e _ (dn (st1:=[a5 (.any,.lst (ds.map .int)),a5 (.any,.lst (names.map .str)),a5 (.loc,.str small),a5 (.loc,.str a),b6,b6]) ?_ aT t))⟩
  repeat' (first|show fC (Ļ (by simp only[df];lia))|sizeOf_list_dec)
end
abbrev lN(Γ:Tab):Prop:=∀(ns:List Int) (k:Nat),k<2 ^ 62->∃z,Γ "_law_cell" [.lst (ns.map .int),.int (k:Nat)]=a5 (.ok (.loc,.int z))
abbrev jb(Γ:Tab):Prop:=∀(c:Int) (n:Nat),n<1000->∃ds:List Int,ds.length=n/\(∀d∈ds,0<=d)/\Γ "_law_drawn" [.int c,.int (n:Nat)]=a5 (.ok (.own,.lst (ds.map .int)))
abbrev y6(Γ:Tab):Prop:=∀(ds:List Int) (names:List Str),12<=ds.length->(∀d∈ds,0<=d)->names.length<40->(∀x∈names,bw x.cps.toList)->∃x,bw x.cps.toList/\x∉names/\Γ "_law_name" [.lst (ds.map .int),.lst (names.map .str)]=a5 (.ok (.loc,.str x))
abbrev fNames:Fn:=⟨"_law_names",3,5,[.set 3 (.lst []),.Ip cb [4] .IL [.var 2] [.app 3 (.call "_law_name" [.call "_law_drawn" [.call "_law_cell" [.var 0,.bin .add (.var 1) (.var 4)],.cst (.int 12)],.var 3])],.ret (.var 3)]⟩
theorem vX(hc:lN Γ)(hd:jb Γ)(hn:y6 Γ){ns:List Int}(hb:b<1000)(hm:m<40):
    ∃names:List Str,names.length=m/\names.Nodup/\(∀x∈names,bw x.cps.toList)/\bP Γ fNames [.lst (ns.map .int),.int (b:Nat),.int (m:Nat)]=a5 (.ok (.own,.lst (names.map .str))):=by
  have hsz:(1000:Nat)<=cL:=by decide
  let I:List (Kd×U)->au->Prop:=λxs st=>∃(names:List Str) (us:List U) (o:Option (Kd×U)),st=[a5 (.any,.lst (ns.map .int)),a5 (.loc,.int (b:Nat)),a5 (.loc,.int (m:Nat)),a5 (.own,.lst us),o]/\us=names.map .str/\names.Nodup/\(∀x∈names,bw x.cps.toList)/\names.length+xs.length=m/\gh m xs;have loop:=ur (t:=cb) (is:=[4]) (body:=execs Γ [.app 3 (.call "_law_name" [.call "_law_drawn" [.call "_law_cell" [.var 0,.bin .add (.var 1) (.var 4)],.cst (.int 12)],.var 3])]) (rs:=[(.loc,.int (m:Nat))]) I (λ_ _ _=>trivial) (λx xs st Ih=>by
    obtain⟨names,us,o,e,e2,Io,hw,hl,hr⟩:=Ih;subst e;obtain⟨i,hi,rfl,IU,hlen⟩:=hr.cons;rw[lx]at hl;obtain⟨z,hz⟩:=hc ns (b+i) ⋯;rw[Int.natCast_add]at hz;obtain⟨ds,d1,d2,d3⟩:=hd z 12 ⋯;obtain⟨x,x1,x2,x3⟩:=hn ds names ⋯ d2 ⋯ hw;rw[<-e2]at x3;refine⟨[a5 (.any,.lst (ns.map .int)),a5 (.loc,.int (b:Nat)),a5 (.loc,.int (m:Nat)),a5 (.own,.lst us),a5 (.loc,.int (i:Nat))],[a5 (.any,.lst (ns.map .int)),a5 (.loc,.int (b:Nat)),a5 (.loc,.int (m:Nat)),a5 (.own,.lst (us++[.str x])),a5 (.loc,.int (i:Nat))],aK,?_,⟨names++[x],_,_,rfl,by simp[e2],?_,?_,by simp;lia,IU⟩⟩
    · repeat' (first|exact hz|exact d3|exact x3|exact(by rw[e2,df];lia)|sizeOf_list_dec)
    · rw[tA]
      exact ⟨Io, by simp, fun y hy w Nk => by have : w = x := by simpa using Nk
                                              subst this;rintro rfl;exact x2 hy⟩
    · intro y hy
      rcases ke.mp hy with h|h
      · exact hw y h
      · rw[nc.mp h];exact x1)
  obtain⟨st',Iw,names,us,o,e,e2,Io,hw,hl,_⟩:=loop ((i4 m).map λi:Nat=>(Kd.loc,U.int (0+(i:Int)))) [a5 (.any,.lst (ns.map .int)),a5 (.loc,.int (b:Nat)),a5 (.loc,.int (m:Nat)),a5 (.own,.lst []),b6] ⟨[],[],b6,rfl,rfl,by simp,by simp,by simp,gh.all m⟩;subst e e2;refine⟨names,by simpa using hl,Io,hw,?_⟩;apply aG (st0:=[a5 (.any,.lst (ns.map .int)),a5 (.loc,.int (b:Nat)),a5 (.loc,.int (m:Nat)),b6,b6]) rfl (.inl rfl) rfl
  repeat' sizeOf_list_dec
  have hit:=su (k:=.loc) (n:=m) ⋯;refine' fA (rs:=[(.loc,.int (m:Nat))]) (st1:=[a5 (.any,.lst (ns.map .int)),a5 (.loc,.int (b:Nat)),a5 (.loc,.int (m:Nat)),a5 (.own,.lst []),b6]) _ trivial hit rfl Iw _
  all_goals repeat' sizeOf_list_dec
abbrev jP:Fn:=⟨"_law_told",2,6,[.set 2 (.bi .len [.var 1]),.ite (.and [.cmp .gt (.bin .mod (.idx (.var 0) (.cst (.int 2))) (.cst (.int 3))) (.cst (.int 0)),.cmp .gt (.bin .mod (.idx (.var 0) (.cst (.int 0))) (.bi .len [.var 1])) (.cst (.int 0))]) [.set 2 (.bin .mod (.idx (.var 0) (.cst (.int 0))) (.bi .len [.var 1]))] [],.set 3 (.lst []),.Ip cb [4] .IL [.idx (.lst [.cst (.int 0),.cst (.int 0),.cst (.int 1),.cst (.int 1),.cst (.int 1),.cst (.int 2),.cst (.int 2),.cst (.int 2),.cst (.int 3),.cst (.int 8)]) (.bin .mod (.idx (.var 0) (.cst (.int 1))) (.cst (.int 10)))] [.set 5 (.idx (.var 1) (.bin .mod (.idx (.var 0) (.bin .add (.cst (.int 3)) (.var 4))) (.var 2))),.ite (.cmp .HQ (.var 5) (.var 3)) [.app 3 (.var 5)] []],.ret (.bi .tuple [.var 3])]⟩
theorem HJ:∀j:Nat,j<10->∃q:Nat,q<=8/\Iq [U.int 0,.int 0,.int 1,.int 1,.int 1,.int 2,.int 2,.int 2,.int 3,.int 8] (j:Int)=a5 (.int (q:Nat))
 |0,_=>⟨0,⋯,rfl⟩|1,_=>⟨0,⋯,rfl⟩|2,_=>⟨1,⋯,rfl⟩|3,_=>⟨1,⋯,rfl⟩|4,_=>⟨1,⋯,rfl⟩
 |5,_=>⟨2,⋯,rfl⟩|6,_=>⟨2,⋯,rfl⟩|7,_=>⟨2,⋯,rfl⟩|8,_=>⟨3,⋯,rfl⟩|9,_=>⟨8,⋯,rfl⟩
 |n+10,h=>absurd h ⋯
def y7(hz:0<=z)(b:0<t)(hl:t<=xs.length):∃x∈xs,Iq xs (z % t)=a5 x:=by
 have c:=Xm z (by lia:t≠0);have e:=U6 z b;have⟨j,d⟩:=SW c;have a:j<xs.length:=by lia
 show⟨xs[j]'a,Ms a,?_⟩;rw[d];show cQ (by simp[a])
def uD{xs:List Str}{z t:Int}(hz:0<=z)(a:0<t)(hl:t<=xs.length):∃x∈xs,Iq (xs.map U.str) (z % t)=a5 (.str x):=by
 have⟨u,b,e⟩:=y7 (xs:=xs.map U.str) hz a (by simpa using hl);have⟨x,c,rfl⟩:=kl.mp b;show⟨x,c,e⟩
theorem y8{Γ:Tab}{ds:List Int}{names:List Str}(hd:11<=ds.length)(h0:∀d∈ds,0<=d)(hn:0<names.length):
    ∃told:List Str,told.length<=8/\told.Nodup/\(∀x∈told,x∈names)/\bP Γ jP [.lst (ds.map .int),.lst (names.map .str)]=a5 (.ok (.loc,.tup (told.map .str))):=by
  have hsz:(1000:Nat)<=cL:=by decide
  have i0:Iq (ds.map U.int) 0=a5 (.int (dd ds 0)):=bQ (i:=0) ⋯;have i1:Iq (ds.map U.int) 1=a5 (.int (dd ds 1)):=bQ (i:=1) ⋯;have i2:Iq (ds.map U.int) 2=a5 (.int (dd ds 2)):=bQ (i:=2) ⋯;have n0:=dY h0 0;have n1:=dY h0 1;have n2:=dY h0 2;have hp:(0:Int)<((names.map U.str).length:Nat):=by simp;lia
  have hL:((names.map U.str).length:Int)=names.length:=by simp
  have Pc:=U6 (dd ds 0) hp;have Ti:=Xm (dd ds 0) (by lia:((names.map U.str).length:Int)≠0);let B:=λ(t:Int) (us:List U) (o4 o5:Option (Kd×U))=>([a5 (.any,.lst (ds.map .int)),a5 (.any,.lst (names.map .str)),a5 (.loc,.int t),a5 (.own,.lst us),o4,o5]:au)
  have hj:(dd ds 1 % 10).toNat<10:=by lia
  obtain⟨q,hq,JE⟩:=HJ _ hj;rw[Uz ⋯]at JE;have main:∀t:Int,0<t->t<=names.length->∃told:List Str,told.length<=8/\told.Nodup/\(∀x∈told,x∈names)/\∃st',Run (execs Γ (jP.body.drop 2)) [a5 (.any,.lst (ds.map .int)),a5 (.any,.lst (names.map .str)),a5 (.loc,.int t),b6,b6,b6] (.rt .loc (.tup (told.map .str))) st':=λt ht MP=>by
    let I:List (Kd×U)->au->Prop:=λxs st=>∃(told:List Str) (us:List U) (o4 o5:Option (Kd×U)),st=B t us o4 o5/\us=told.map .str/\told.Nodup/\(∀x∈told,x∈names)/\told.length+xs.length<=q/\gh q xs;have loop:=ur (t:=cb) (is:=[4]) (body:=execs Γ [.set 5 (.idx (.var 1) (.bin .mod (.idx (.var 0) (.bin .add (.cst (.int 3)) (.var 4))) (.var 2))),
      .ite (.cmp .HQ (.var 5) (.var 3))
        [.app 3 (.var 5)]
        []]) (rs:=[(.loc,.int (q:Nat))]) I (λ_ _ _=>trivial) (λx xs st Ih=>by
      obtain⟨told,us,o4,o5,e,e2,Io,hw,hl,hr⟩:=Ih;subst e;obtain⟨i,hi,rfl,IU,hlen⟩:=hr.cons;rw[lx]at hl;have ik:Iq (ds.map U.int) (3+(i:Int))=a5 (.int (dd ds (3+i))):=by
        rw[show(3+(i:Int))=((3+i:Nat):Int) by lia];exact bQ ⋯
      obtain⟨x,hx,Rg⟩:=uD (xs:=names) (dY h0 (3+i)) ht MP;have M_:bG .HQ (.str x) (.lst us)=a5 (cK (x∉told)):=by rw[e2];exact gk
      by_cases Ku:x∈told
      · refine⟨B t us (a5 (.loc,.int (i:Nat))) o5,B t us (a5 (.loc,.int (i:Nat))) (a5 (.any,.str x)),aK,?_,⟨told,us,_,_,rfl,e2,Io,hw,⋯,IU⟩⟩
        refine ax (r:=(.any,.str x)) (st1:=B t us (a5 (.loc,.int (i:Nat))) o5) ?_ lH (dn (st1:=B t us (a5 (.loc,.int (i:Nat))) (a5 (.any,.str x))) ?_ aT aT)
        · repeat' (first|exact aS ik|exact cj ht|exact aS Rg|sizeOf_list_dec)
        · have:bG .HQ (.str x) (.lst us)=a5 cb:=by rw[M_];simp[Ku]
          repeat' (first|exact this|sizeOf_list_dec)
      · refine⟨B t us (a5 (.loc,.int (i:Nat))) o5,B t (us++[.str x]) (a5 (.loc,.int (i:Nat))) (a5 (.any,.str x)),aK,?_,⟨told++[x],_,_,_,rfl,by simp[e2],?_,?_,by simp;lia,IU⟩⟩
        · refine ax (r:=(.any,.str x)) (st1:=B t us (a5 (.loc,.int (i:Nat))) o5) ?_ lH (ig (st1:=B t us (a5 (.loc,.int (i:Nat))) (a5 (.any,.str x))) (st2:=B t (us++[.str x]) (a5 (.loc,.int (i:Nat))) (a5 (.any,.str x))) ?_ ?_ aT)
          · repeat' (first|exact aS ik|exact cj ht|exact aS Rg|sizeOf_list_dec)
          · have:bG .HQ (.str x) (.lst us)=some true:=by rw[M_];simp[Ku]
            repeat' (first|exact this|sizeOf_list_dec)
          · repeat' (first|exact um rfl|exact(by rw[e2,df];lia)|sizeOf_list_dec)
        · rw[tA]
          exact ⟨Io, by simp, fun y hy w Nk => by have : w = x := by simpa using Nk
                                                  subst this;rintro rfl;exact Ku hy⟩
        · intro y hy
          rcases ke.mp hy with h|h
          · exact hw y h
          · rw[nc.mp h];exact hx)
    obtain⟨st',Iw,told,us,o4,o5,e,e2,Io,hw,hl,_⟩:=loop ((i4 q).map λi:Nat=>(Kd.loc,U.int (0+(i:Int)))) (B t [] b6 b6) ⟨[],[],b6,b6,rfl,rfl,by simp,by simp,by simp,gh.all q⟩;subst e e2;refine⟨told,by simp at hl;lia,Io,hw,?_⟩;have hit:=su (k:=.loc) (n:=q) ⋯;refine⟨B t (told.map .str) o4 o5,ax (r:=(.own,.lst [])) (dN ai trivial aV (mN _)) bq (fA (rs:=[(.loc,.int (q:Nat))]) (st1:=B t [] b6 b6) ?_ trivial hit rfl Iw ?_)⟩
    · refine ae (bg (x:=(.own,.lst [U.int 0,.int 0,.int 1,.int 1,.int 1,.int 2,.int 2,.int 2,.int 3,.int 8])) (y:=(.loc,.int (dd ds 1 % 10))) (st1:=B t [] b6 b6) ?_ ?_ trivial (aS JE)) ai
      · repeat' (first|exact(by decide:(10:Nat)<=cL)|sizeOf_list_dec)
      · repeat' (first|exact aS i1|sizeOf_list_dec)
    · repeat' sizeOf_list_dec
  have fin:∀t:Int,0<t->t<=names.length->(∀{f:Fl} {st':au},Run (execs Γ (jP.body.drop 2)) [a5 (.any,.lst (ds.map .int)),a5 (.any,.lst (names.map .str)),a5 (.loc,.int t),b6,b6,b6] f st'->Run (execs Γ jP.body) [a5 (.any,.lst (ds.map .int)),a5 (.any,.lst (names.map .str)),b6,b6,b6,b6] f st') ->
      ∃told:List Str,told.length<=8/\told.Nodup/\(∀x∈told,x∈names)/\bP Γ jP [.lst (ds.map .int),.lst (names.map .str)]=a5 (.ok (.loc,.tup (told.map .str))):=λt ht MP hh=>by
    obtain⟨told,a1,a2,a3,st',a4⟩:=main t ht MP;exact⟨told,a1,a2,a3,aG (st0:=[a5 (.any,.lst (ds.map .int)),a5 (.any,.lst (names.map .str)),b6,b6,b6,b6]) rfl (.inr rfl) rfl (hh a4)⟩
  let S0:au:=[a5 (.any,.lst (ds.map .int)),a5 (.any,.lst (names.map .str)),a5 (.loc,.int ((names.map U.str).length:Nat)),b6,b6,b6]
  have q1:∀{c:Bool},cK (0<dd ds 2 % 3)=c->Run (Ib Γ (.cmp .gt (.bin .mod (.idx (.var 0) (.cst (.int 2))) (.cst (.int 3))) (.cst (.int 0)))) S0 c S0:=λh=>by repeat' (first|exact aS i2|exact fC h|sizeOf_list_dec)
  have q2:∀{c:Bool},cK (0<dd ds 0 % ((names.map U.str).length:Nat))=c->Run (Ib Γ (.cmp .gt (.bin .mod (.idx (.var 0) (.cst (.int 0))) (.bi .len [.var 1])) (.cst (.int 0)))) S0 c S0:=λh=>by repeat' (first|exact aS i0|exact cj hp|exact fC h|sizeOf_list_dec)
  have s2:Run (ev Γ (.bi .len [.var 1])) [a5 (.any,.lst (ds.map .int)),a5 (.any,.lst (names.map .str)),b6,b6,b6,b6] (.loc,.int ((names.map U.str).length:Nat)) [a5 (.any,.lst (ds.map .int)),a5 (.any,.lst (names.map .str)),b6,b6,b6,b6]:=by repeat' sizeOf_list_dec
  have s3:Run (ev Γ (.bin .mod (.idx (.var 0) (.cst (.int 0))) (.bi .len [.var 1]))) S0 (.loc,.int (dd ds 0 % ((names.map U.str).length:Nat))) S0:=by repeat' (first|exact aS i0|exact cj hp|sizeOf_list_dec)
  by_cases c1:0<dd ds 2 % 3
  · by_cases c2:0<dd ds 0 % ((names.map U.str).length:Nat)
    · exact fin (dd ds 0 % ((names.map U.str).length:Nat)) c2 ⋯ λh=>ax s2 aK (ig (jL (sj (q1 (ļ c1)) (dm (q2 (ļ c2))))) (ax s3 aK aT) h)
    · exact fin ((names.map U.str).length:Nat) hp ⋯ λh=>ax s2 aK (dn (jL (sj (q1 (ļ c1)) (dm (q2 (Ļ c2))))) aT h)
  · exact fin ((names.map U.str).length:Nat) hp ⋯ λh=>ax s2 aK (dn (jL (yS (q1 (Ļ c1)))) aT h)
def uE(g:Run (ev Γ h) st rv st1)(j:st1[i]?=a5 (a5 (k',u')))(l:Run (ev Γ m) st1 rk st2)(n:Run (de [rv,rk]) st2 [c,d] b)(o:b[i]?=a5 (a5 (k,u0)))(hk:k.root=bD)(p:fG d c u0=a5 e)
  (q:Run (execs Γ ss) (b.set i (a5 (k,e))) f r) (s:k'≠.A':=by intro z;cases z):Run (execs Γ (.put i m h::ss)) st f r:=by
 show dS (aa g (aa (gZ j s) (aa l (aa n (aa (a:=()) (st1:=b.set i (a5 (k,e))) ?_ aJ))))) q;change modS i (tL [c,d]) b=_;unfold modS;rw[o];simp only[hk,if_true];change(match fG d c u0 with|some u'=>_|none=>b6)=_;rw[p]
@[reducible]def Row:=Str×List Str
abbrev HM(r:Row):U:=.tup [.str r.1,.tup (r.2.map .str)]
abbrev keyOf(r:Row):Row:=(r.1,bu r.2)
def sorted_strs(h:ss.length<64):Js .sorted [(k,.tup (ss.map .str))]=a5 (.own,.lst ((bu ss).map .str)):=by
 change(strsOf (ss.map U.str)).bind _=_;rw[eO];change(if ss.length<64 then _ else _)=_;rw[Ĺ h]
abbrev y9(Γ:Tab):Prop:=∀(ds:List Int) (names:List Str),11<=ds.length->(∀d∈ds,0<=d)->0<names.length ->
 ∃told:List Str,told.length<=8/\told.Nodup/\(∀x∈told,x∈names)/\Γ "_law_told" [.lst (ds.map .int),.lst (names.map .str)]=a5 (.ok (.loc,.tup (told.map .str)))
structure fE(names:List Str)(r:Row):Prop where
 word:r.1∈names
 Ki:r.2.length<=8
 once:r.2.Nodup
 told:∀x∈r.2,x∈names
abbrev oR(Γ:Tab):Prop:=∀(ns:List Int) (b m:Nat),b<1000->m<40->∃names:List Str,names.length=m/\names.Nodup/\(∀x∈names,bw x.cps.toList)/\Γ "_law_names" [.lst (ns.map .int),.int (b:Nat),.int (m:Nat)]=a5 (.ok (.own,.lst (names.map .str)))
section
def CD(h:Iy Pg "_law_mix" vR):yW (Im Pg (d+1)):=λc k a b=>by rw[aB h];show BI a b
def lO(h:Iy Pg "_law_mix" vR)(a:Iy Pg "_law_cell" uB):lN (Im Pg (d+2)):=λns k hk=>⟨_,by rw[aB a];show yY (CD h) hk⟩
def drawnOk(h:Iy Pg "_law_mix" vR)(f:Iy Pg "_law_drawn" oM):jb (Im Pg (d+2)):=λc n g=>by
 have⟨ds,a,b,e⟩:=vT (CD (d:=d) h) (c:=c) g;show⟨ds,a,b,by rw[aB f];show e⟩
def EG(f:BJ g)(h:Iy Pg "_law_name" (oP g)):y6 (Im Pg (d+1)):=λds names a b c e=>by
 have⟨x,p,q,r⟩:=yZ (Γ:=Im Pg d) f a b c e;show⟨x,p,q,by rw[aB h];show r⟩
def EH(h:Iy Pg "_law_told" jP):y9 (Im Pg (d+1)):=λds names a b c=>by
 have⟨x,p,q,r,s⟩:=y8 (Γ:=Im Pg d) a b c;show⟨x,p,q,r,by rw[aB h];show s⟩
structure dw(md:E)(Pg:List Fn):Prop where
 mix:Iy Pg "_law_mix" vR
 cell:Iy Pg "_law_cell" uB
 drawn:Iy Pg "_law_drawn" oM
 name:Iy Pg "_law_name" (oP md)
 names:Iy Pg "_law_names" fNames
 told:Iy Pg "_law_told" jP
def dw.lO(M:dw a Pg):lN (Im Pg (d+2)):=TM.lO M.mix M.cell
def dw.drawnOk(M:dw a Pg):jb (Im Pg (d+2)):=TM.drawnOk M.mix M.drawn
def dw.y_(a:BJ c)(M:dw c Pg):oR (Im Pg (d+3)):=λns b m e f=>by
 have⟨names,p,q,r,s⟩:=vX (Γ:=Im Pg (d+2)) M.lO M.drawnOk (TM.EG a M.name) (ns:=ns) e f;show⟨names,p,q,r,by rw[aB M.names];show s⟩
@[reducible]def za(Pg:List Fn):Prop:=dw GK Pg
def dw.namesOk(M:za Pg):oR (Im Pg (d+3)):=dw.y_ BK M
end
section
def nj(h:Run (execs Γ (a++ss)) st f st2):(∃s1,Run (execs Γ a) st .nx s1/\Run (execs Γ ss) s1 f st2)\/(Run (execs Γ a) st f st2/\f≠.nx):=by
 induction a generalizing st with
 |nil=>show .inl ⟨st,aT,h⟩
 |cons s a i =>
  have h':M.bind (exec Γ s) (λf=>match f with|.nx=>execs Γ (a++ss)|f=>pure f) st=a5 (.ok f,st2):=h;unfold M.bind at h';cases e:exec Γ s st with
  |none=>rw[e]at h';cases h'
  |some p =>
   have⟨x,s1⟩:=p;rw[e]at h';cases x with
   |exc c=>cases h'
   |ok g =>
    cases g with
    |nx =>
     rcases i h' with⟨s2,b,d⟩|⟨b,d⟩
     .show .inl ⟨s2,dS e b,d⟩
     .show .inr ⟨dS e b,d⟩
    |rt k u=>cases h';show .inr ⟨BH e,λz=>nomatch z⟩
    |bk=>cases h';show .inr ⟨aa (show Run (exec Γ s) st Fl.bk _ from e) aJ,λz=>nomatch z⟩
    |ct=>cases h';show .inr ⟨aa (show Run (exec Γ s) st Fl.ct _ from e) aJ,λz=>nomatch z⟩
def GL(a:Run (exec Γ s) st f st1)(b:f≠.nx):Run (execs Γ (s::ss)) st f st1:=by
 cases f with
 |nx=>show absurd rfl b
 |rt k u=>show BH a
 |_=>show aa a aJ
def bL(g:Run (Ib Γ c) st p st1)(h:p=bD->Run (execs Γ (a++ss)) st1 f st2)(i:p=cb->Run (execs Γ (b++ss)) st1 f st2):Run (execs Γ (.ite c a b::ss)) st f st2:=by
 cases p with
 |true =>
  rcases nj (h rfl) with⟨s1,d,e⟩|⟨d,e⟩
  .show dS (oK g d) e
  .show GL (oK g d) e
 |false =>
  rcases nj (i rfl) with⟨s1,d,e⟩|⟨d,e⟩
  .show dS (sm g d) e
  .show GL (sm g d) e
def EI(h:Run (ev Γ e) st (k,.bl p) st)(a:p=bD->Run (iQ Γ (e2::es)) st (.loc,.bl q) st):Run (iQ Γ (e::e2::es)) st (.loc,.bl (p&&q)) st:=by
 show si h ?_;cases p with
 |true=>rw[Ĺ rfl];show a rfl
 |false=>rw[ĺ mx];show⟨rfl,rfl⟩
def lP(h:Run (Ib Γ e) st p st)(a:p=bD->Run (aO Γ (e2::es)) st q st):Run (aO Γ (e::e2::es)) st (p&&q) st:=by
 cases p with
 |true=>show sj h (a rfl)
 |false=>show yS h
theorem fj{cond:M Bool}(h:bo src st)(k:Kd)(hk:k=.loc\/k=.any)(a g:α->U)(c:Kd)(d:∀y,Run cond (a5 (k,a y)::st) bD (a5 (k,a y)::st)):∀(ys:List α) (b:List U),b.length+ys.length<=cL ->
  (∀y∈ys,Run elt (a5 (k,a y)::st) (c,g y) (a5 (k,a y)::st)/\Run (lift (c,g y)) (a5 (k,a y)::st) (g y) (a5 (k,a y)::st))->Run (bI 1 cb cond elt src (ys.map λy=>(k,a y)) b) st (b++ys.map g) st
 |[],b,_,_=>by rw[Np,Np,ve];show qk h
 |y::ys,b,hl,e=>by
  have⟨f,i⟩:=e y (by simp);rw[lx]at hl;show lI (s1:=a5 (k,a y)::st) (s2:=a5 (k,a y)::st) (s3:=a5 (k,a y)::st) (s4:=a5 (k,a y)::st) h ?_ (d y) f i ⋯ ?_
  .rcases hk with rfl|rfl
   .show gc aK
   .show gc lH
  .have:=fj h k hk a g c d ys (b++[g y]) (by simp;lia) λz hz=>e z (by simp[hz]);rw[il];simpa using this
theorem oU{cond:M Bool}(h:bo src st)(k:Kd)(hk:k=.loc\/k=.any)(a g:α->U)(p:α->Bool)(d:Kd):∀(ys:List α) (b:List U),b.length+ys.length<=cL ->
  (∀y∈ys,Run cond (a5 (k,a y)::st) (p y) (a5 (k,a y)::st)/\(p y=bD->Run elt (a5 (k,a y)::st) (d,g y) (a5 (k,a y)::st)/\Run (lift (d,g y)) (a5 (k,a y)::st) (g y) (a5 (k,a y)::st)))->Run (bI 1 cb cond elt src (ys.map λy=>(k,a y)) b) st (b++(ys.filter p).map g) st
 |[],b,_,_=>by rw[Np,Tc,Np,ve];show qk h
 |y::ys,b,hl,f=>by
  have⟨e,j⟩:=f y (by simp);rw[lx]at hl;have i:Run (c7 cb (i4 1) (k,a y)) (mu 1 b6++st) () (a5 (k,a y)::st):=by
   rcases hk with rfl|rfl
   .show gc aK
   .show gc lH
  cases c:p y with
  |true =>
   rw[c]at e;have⟨l,m⟩:=j c;show lI (s1:=a5 (k,a y)::st) (s2:=a5 (k,a y)::st) (s3:=a5 (k,a y)::st) (s4:=a5 (k,a y)::st) h i e l m ⋯ ?_;have:=oU h k hk a g p d ys (b++[g y]) (by simp;lia) λz hz=>f z (by simp[hz]);rw[Kr,Ĺ c,il];simpa using this
  |false =>
   rw[c]at e;show so (s1:=a5 (k,a y)::st) (s2:=a5 (k,a y)::st) h i e ?_;have:=oU h k hk a g p d ys b ⋯ λz hz=>f z (by simp[hz]);rw[Kr,ĺ (by simp[c])];show this
theorem ei(it:α->Kd×U)(I:List α->List α->au->Prop)(hs:∀d r st,I d r st->bo rs st)
  (Ù:∀d y r st,I d (y::r) st->∃st1 st2,Run (c7 t is (it y)) st () st1/\Run body st1 .nx st2/\I (d++[y]) r st2):∀(r d:List α) (st:au),I d r st->∃st',Run (forM t is body rs (r.map it)) st .nx st'/\I (d++r) [] st'
 |[],d,st,h=>⟨st,CB (hs _ _ _ h),by rw[ve];show h⟩
 |y::r,d,st,h=>by
  have⟨s1,s2,a,b,c⟩:=Ù d y r st h;have⟨s3,e,f⟩:=ei it I hs Ù r (d++[y]) s2 c;show⟨s3,GJ (hs _ _ _ h) a b e,by simpa using f⟩
def lQ(a:Run (aR Γ es) st rs st1)(c:bo rs st1)(d:Γ f (rs.map (·.2))=a5 (.ok r))(e:rH r.2=a5 b)(g:isAny r.1=cb:=by show rfl):Run (Ib Γ (.call f es)) st b st1:=aa a (aa (aU c) (aa (uj d g) (cU e)))
def zb(h:Run (ev Γ (.bi f es)) st (k,.bl b) st1):Run (Ib Γ (.bi f es)) st b st1:=by
 have h':(aR Γ es >>= λrs=>aw rs >>= λ_=>M.Il (Js f rs)) st=a5 (.ok (k,.bl b),st1):=h;obtain⟨rs,s1,c,e2,s2,d,r,s3,e,g⟩:∃rs s1,aR Γ es st=a5 (.ok rs,s1)/\∃(a:Unit) (s2:au),aw rs s1=a5 (.ok a,s2)/\∃r s3,M.Il (Js f rs) s2=a5 (.ok r,s3)/\(r,s3)=((k,U.bl b),st1):=by
  have w:W (aR Γ es >>= λrs=>aw rs >>= λ_=>M.Il (Js f rs)) st λr s=>(r,s)=((k,U.bl b),st1):=⟨_,_,h',rfl⟩
  rw[ah]at w;have⟨rs,s1,c,w⟩:=w;rw[ah]at w;have⟨a,s2,e2,w⟩:=w;have⟨r,s3,d,w⟩:=w;show⟨rs,s1,c,a,s2,e2,r,s3,d,w⟩
 cases g;show aa c (aa (a:=e2) d (aa e (cU rfl)))
def GN(b:Run (ev Γ a) st x st1)(c:AG x=a5 r):Run (ev Γ (.neg a)) st r st1:=aa b (cU c)
def CF(c:st[i]?=a5 (a5 (k',.lst n)))(d:Run (ev Γ e) st r st1)(g:st1[i]?=a5 (a5 (k,.lst us)))(hk:k.root=bD)(h:mw r (.lst us)=a5 (.lst b))
  (j:Run (execs Γ ss) (st1.set i (a5 (k,.lst b))) f l) (m:k'≠.A':=by intro z;cases z):Run (execs Γ (.ext i e::ss)) st f l:=by
 show dS (aa (gZ c m) (aa (a:=()) (st1:=st) rfl (aa d (aa (a:=()) (st1:=st1.set i (a5 (k,.lst b))) ?_ aJ)))) j;change modS i (mw r) st1=_;unfold modS;rw[g];simp only[hk,if_true];rw[h]
end
def uF(h:xs.length+ys.length<=cL)(hs:iN k ys=bD):mw (k,.lst ys) (.lst xs)=a5 (.lst (xs++ys)):=by
 change(if xs.length+ys.length<=cL/\iN k ys=bD then _ else _)=_;rw[Ĺ ⟨h,hs⟩]
theorem jw:∀ss:List Str,cE (ss.map U.str)=bD
 |[]=>by simp[cE]
 |s::ss=>by simp[cE,Ig,jw ss]
def dy(r:Row):Ig (HM r)=bD:=by simp[HM,Ig,cE,jw]
theorem cJ:∀rs:List Row,cE (rs.map HM)=bD
 |[]=>by simp[cE]
 |r::rs=>by simp[cE,dy,cJ rs]
theorem ij:∀(a b:List Str),cT (a.map U.str) (b.map U.str)=cK (a=b)
 |[],[]=>by simp[cT]
 |[],_::_=>by simp[cT]
 |_::_,[]=>by simp[cT]
 |x::a,y::b=>by
  rw[il,il,cT,ij a b];simp only[cq];by_cases h:x=y
  .subst h;simp
  .simp[h]
def nq(a b:Row):cq (HM a) (HM b)=cK (a=b):=by
 have⟨c,d⟩:=a;have⟨b1,e⟩:=b;simp only[HM,cq,cT,YM,ij];by_cases h:c=b1
 .subst h;simp
 .simp[h]
def j_(r:Row):I0 50 (HM r)=bD:=by
 simp[HM,I0,cS,gH]
def BL{op:Bool}{a b:Row}:bG .eq (HM a) (HM b)=a5 (cK (a=b)):=by
 simp only[bG];rw[Ĺ ⟨j_ a,j_ b⟩,nq]
def ip(ss:List Str)(n:Nat):I0 (n+1) (.lst (ss.map U.str))=bD:=by simp[I0,gH]
def zc{a b:List Str}:bG .eq (.lst (a.map U.str)) (.lst (b.map U.str))=a5 (cK (a=b)):=by
 simp only[bG];rw[Ĺ ⟨ip a 49,ip b 49⟩];simp only[cq,ij]
def ka:bG .eq (.str a) (.str b)=a5 (cK (a=b)):=by
 simp only[bG];rw[Ĺ ⟨rfl,rfl⟩];simp only[cq];by_cases h:a=b
 .subst h;simp
 .simp[h]
def uG(f:α->β)(xs:List α)(lo hi:Option Int):cut (xs.map f) lo hi=(cut xs lo hi).map f:=by simp[cut,List.map_take,List.map_drop]
def zd(h:iN k (ds.map U.int)=bD):kZ (k,.lst (ds.map .int)) lo hi=a5 (.own,.lst ((cut ds lo hi).map .int)):=by
 simp only[kZ];rw[Ĺ h,uG]
section
end
section
end
def ze(h:xs.length+ys.length<=cL)(a:iN k xs=bD)(b:iN k' ys=bD):Kb .add (k,.lst xs) (k',.lst ys)=a5 (.own,.lst (xs++ys)):=by
 simp only[Kb,vj];rw[Ĺ ⟨h,a,b⟩]
def iE{x y:Str}(h:x.cps.toList=y.cps.toList):x=y:=by
 have⟨a⟩:=x;have⟨b⟩:=y;have:a=b:=V1.mp h;rw[this]
def BM(h:ks.length<1000):fG (.str x) u (.HP ks us)=a5 (.HP (dput ks us x u).1 (dput ks us x u).2):=by
 have hsz:(1000:Nat)<=cL:=by decide
 change(if ks.length<cL then _ else _)=_;rw[Ĺ ⋯]
end TM
namespace Od
section
variable{W:Type}[DecidableEq W]{rows:List (W×List W)}
abbrev gp(rows:List (W×List W))(C:W->Prop):Prop:=∀r∈rows,(∀x∈r.2,C x)->C r.1
abbrev MR(rows:List (W×List W))(K:List W):Prop:=∀C:W->Prop,gp rows C->∀x∈K,C x
def same(a:K.Nodup)(b:L.Nodup)(sK:MR rows K)(c:MR rows L)(d:gp rows (·∈K))(e:gp rows (·∈L)):K.Perm L :=
 (List.perm_ext_iff_of_nodup a b).mpr λx=>⟨λh=>sK _ e x h,λh=>c _ d x h⟩
abbrev told(rows:List (W×List W))(p:Nat):List W:=match rows[p]? with
 |some r=>r.2
 |none=>[]
def kb(h:rows[p]?=a5 r):told rows p=r.2:=by unfold told;rw[h]
abbrev sD(K l:List W):Nat:=(l.filter λx=>cK (x∉K)).length
abbrev cnt(rows:List (W×List W))(K:List W)(p:Nat):Nat:=sD K (told rows p)
def vY{K l:List W}:sD K l=0↔∀x∈l,x∈K:=by
 unfold sD;rw[SN,Ob];constructor
 .intro h x a;have:=h x a;simpa using this
 .intro h x a;simpa using h x a
theorem qr(f:w∉K):∀{l:List W},l.Nodup->sD (K++[w]) l+(if w∈l then 1 else 0)=sD K l
 |[],_=>rfl
 |x::l,h=>by
  have⟨g,i⟩:=pa.mp h;have d:=qr f i;unfold sD at d ⊢;by_cases e:x=w
  .subst e;have a:cK (x∉K++[x])≠bD:=by simp
   have b:cK (x∉K)=bD:=ļ f;rw[Qh (p:=λy=>cK (y∉K++[x])) a,SO (p:=λy=>cK (y∉K)) b,lx,Ĺ (mh ..)];rw[ĺ g]at d;lia
  .have j:w≠x:=λz=>e z.symm;have k:(if w∈x::l then 1 else 0)=if w∈l then 1 else 0:=by simp[j]
   rw[k];by_cases c:x∈K
   .have a:cK (x∉K++[w])≠bD:=by simp[c]
    have b:cK (x∉K)≠bD:=by simp[c]
    rw[Qh (p:=λy=>cK (y∉K++[w])) a,Qh (p:=λy=>cK (y∉K)) b];show d
   .have a:cK (x∉K++[w])=bD:=by simp[c,e]
    have b:cK (x∉K)=bD:=by simp[c]
    rw[SO (p:=λy=>cK (y∉K++[w])) a,SO (p:=λy=>cK (y∉K)) b,lx,lx];lia
abbrev Once(rows:List (W×List W)):Prop:=∀r∈rows,r.2.Nodup
def Once.told(h:Once rows)(p:Nat):(told rows p).Nodup:=by
 unfold Od.told;split
 .rename_i r e;show h r (tr e)
 .show .nil
def qt:cnt rows K p=0↔∀x∈told rows p,x∈K:=vY
def oV(h:Once rows)(a:w∉K)(p:Nat):cnt rows (K++[w]) p+(if w∈told rows p then 1 else 0)=cnt rows K p:=qr a (h.told p)
abbrev IJ(rows:List (W×List W))(n:Nat)(w:W):List Nat:=(i4 n).filter λp=>cK (w∈told rows p)
def vZ(n:Nat)(w:W):(IJ rows n w).Nodup:=List.Nodup.sublist List.filter_sublist List.nodup_range
def jc:p∈IJ rows n w↔p<n/\w∈told rows p:=by simp[IJ]
abbrev aF(ps:List (W×Nat))(w:W):List Nat:=(ps.filter λp=>cK (p.1=w)).map (·.2)
theorem qu:∀{l:List W},l.Nodup->aF (l.map λx=>(x,n)) w=if w∈l then [n] else []
 |[],_=>rfl
 |x::l,h=>by
  have⟨b,c⟩:=pa.mp h;have a:=qu (n:=n) (w:=w) c;unfold aF at a ⊢;rw[il,Kr];by_cases e:x=w
  .subst e;rw[ĺ b]at a;rw[Ĺ (by simp),il,a,Ĺ (by simp)]
  .rw[ĺ (by simpa using e),a];have d:w≠x:=λz=>e z.symm;simp[d]
def qw(a b:List (W×Nat))(w:W):aF (a++b) w=aF a w++aF b w:=by simp[aF]
def v3(h:Once rows)(a:rows[n]?=a5 r)(b:∀w,aF ps w=IJ rows n w)(w:W):aF (ps++r.2.map λx=>(x,n)) w=IJ rows (n+1) w:=by
 rw[qw,b w,qu (h r (tr a))];unfold IJ;rw[List.range_succ,Sa];congr 1
 rw[Kr,Tc,kb a];by_cases e:w∈r.2<;>simp[e]
structure RI(rows:List (W×List W))(K0 K:List W)(R:List Nat):Prop where
 Qk:∀t∈R,t<rows.length/\cnt rows K t=0
 all:∀t,t<rows.length->cnt rows K t=0->cnt rows K0 t=0\/t∈R
def RI.start(K:List W):RI rows K K []:=⟨by simp,λt _ h=>.inl h⟩
def RI.step(h:Once rows)(x:RI rows K0 K R)(d:w∉K):RI rows K0 (K++[w]) (R++(IJ rows rows.length w).filter λt=>cK (cnt rows K t=1)):=by
 show⟨λt ht=>?_,λt ht i=>?_⟩
 .have a:=oV h d t;rcases ke.mp ht with ht|ht
  .have⟨b,e⟩:=x.Qk t ht;show⟨b,⋯⟩
  .have⟨b,e⟩:=LD.mp ht;have⟨f,g⟩:=jc.mp b;rw[Ĺ g]at a;have:cnt rows K t=1:=by simpa using e
   show⟨f,⋯⟩
 .have a:=oV h d t;by_cases c:w∈told rows t
  .rw[Ĺ c]at a;show .inr (ke.mpr (.inr (LD.mpr ⟨jc.mpr ⟨ht,c⟩,by simp;lia⟩)))
  .rw[ĺ c]at a;rcases x.all t ht ⋯ with z|z
   .show .inl z
   .show .inr (ke.mpr (.inl z))
structure NS(rows:List (W×List W))(K:List W)(d:List Nat)(ps:List (W×Nat)):Prop where
 ok:∀s∈ps,s.2∈d/\s.1∉K/\∃r,rows[s.2]?=a5 r/\r.1=s.1
 once:(ps.map (·.1)).Nodup
 all:∀p∈d,∀r,rows[p]?=a5 r->r.1∈K\/r.1∈ps.map (·.1)
def NS.start(K:List W):NS rows K [] []:=⟨by simp,by simp,by simp⟩
def NS.skip(x:NS rows K d ps)(f:rows[p]?=a5 r)(h:r.1∈K\/r.1∈ps.map (·.1)):NS rows K (d++[p]) ps :=
 ⟨λs hs=>let ⟨a,b,c⟩:=x.ok s hs;⟨by simp[a],b,c⟩,x.once,λq hq g e=>by
  rcases ke.mp hq with hq|hq
  .show x.all q hq g e
  .have:q=p:=by simpa using hq
   subst this;rw[f]at e;cases e;show h⟩
def NS.take(x:NS rows K d ps)(g:rows[p]?=a5 r)(h:r.1∉K)(i:r.1∉ps.map (·.1)):NS rows K (d++[p]) (ps++[(r.1,p)]):=by
 show⟨λs hs=>?_,?_,λq hq j f=>?_⟩
 .rcases ke.mp hs with hs|hs
  .have⟨a,b,c⟩:=x.ok s hs;show⟨by simp[a],b,c⟩
  .have:s=(r.1,p):=by simpa using hs
   subst this;show⟨by simp,h,r,g,rfl⟩
 .rw[pd,tA];show⟨x.once,by simp,λa k b l e=>?_⟩;have:b=r.1:=by simpa using l
  subst this;show i (e▸k)
 .rcases ke.mp hq with hq|hq
  .rcases x.all q hq j f with z|z
   .show .inl z
   .show .inr (by simp only[pd,ke];show .inl z)
  .have:q=p:=by simpa using hq
   subst this;rw[g]at f;cases f;show .inr (by simp)
def NS.perm(x:NS rows K d ps)(h:a.Perm ps):NS rows K d a :=
 ⟨λs hs=>x.ok s (h.mem_iff.mp hs),(h.map _).nodup_iff.mpr x.once,λp b r c=>(x.all p b r c).imp id λz=>(h.map _).mem_iff.mpr z⟩
def vS(rows:List (W×List W)):List W->List (W×Nat)->Prop
 |_,[]=>True
 |K,s::ss=>(s.1∉K/\∃r,rows[s.2]?=a5 r/\r.1=s.1/\∀x∈r.2,x∈K)/\vS rows (K++[s.1]) ss
theorem zf:∀{a b:List (W×Nat)}{K:List W},vS rows K a->vS rows (K++a.map (·.1)) b->vS rows K (a++b)
 |[],b,K,_,h=>by simpa using h
 |s::a,b,K,c,d=>⟨c.1,zf c.2 (by simpa using d)⟩
theorem zg:∀{ss:List (W×Nat)}{K:List W},(∀s∈ss,s.1∉K/\∃r,rows[s.2]?=a5 r/\r.1=s.1/\∀x∈r.2,x∈K)->(ss.map (·.1)).Nodup->vS rows K ss
 |[],K,_,_=>trivial
 |s::ss,K,h,a=>by
  have b:s.1∉ss.map (·.1)/\(ss.map (·.1)).Nodup:=by
   rw[il]at a;show pa.mp a
  show⟨h s (by simp),zg (λt c=>?_) b.2⟩;have⟨d,r,e,f,g⟩:=h t (by simp[c]);show⟨λz=>?_,r,e,f,λx i=>by simp[g x i]⟩;rcases ke.mp z with z|z
  .show d z
  .have:t.1=s.1:=by simpa using z
   show b.1 (this▸kl.mpr ⟨t,c,rfl⟩)
theorem qx:∀{ss:List (W×Nat)}{K:List W},vS rows K ss->K.Nodup->(K++ss.map (·.1)).Nodup
 |[],K,_,h=>by simpa using h
 |s::ss,K,h,c=>by
  have:(K++[s.1]).Nodup:=by
   rw[tA];show⟨c,by simp,λa d b f e=>?_⟩;have:b=s.1:=by simpa using f
   subst this;show h.1.1 (e▸d)
  have:=qx h.2 this;simpa using this
theorem zh:∀{ss:List (W×Nat)}{K:List W},vS rows K ss->MR rows K->MR rows (K++ss.map (·.1))
 |[],K,_,h=>by simpa using h
 |s::ss,K,h,b=>by
  have c:MR rows (K++[s.1]):=λC a x hx=>by
   rcases ke.mp hx with hx|hx
   .show b C a x hx
   .have:x=s.1:=by simpa using hx
    subst this;obtain⟨_,r,d,e,f⟩:=h.1;rw[<-e];show a r (tr d) λy g=>b C a y (f y g)
  have:=zh h.2 c;simpa using this
theorem qy:∀{ss:List (W×Nat)}{K:List W},vS rows K ss->∀x∈ss.map (·.1),x∈rows.map (·.1)
 |[],K,_,x,hx=>by simp at hx
 |s::ss,K,h,x,hx=>by
  rw[il]at hx;rcases gj.mp hx with rfl|hx
  .obtain⟨_,r,a,b,c⟩:=h.1;show kl.mpr ⟨r,tr a,b⟩
  .show qy h.2 x hx
structure LI(rows:List (W×List W))(HY:List (W×Nat))(R:List Nat):Prop where
 ok:vS rows [] HY
 Qk:∀t∈R,t<rows.length/\cnt rows (HY.map (·.1)) t=0
 all:∀t r,rows[t]?=a5 r->cnt rows (HY.map (·.1)) t=0->t∈R\/r.1∈HY.map (·.1)
def LI.step(x:LI rows a R)(n:NS rows (a.map (·.1)) R st)(y:RI rows (a.map (·.1)) (a.map (·.1)++st.map (·.1)) e):LI rows (a++st) e:=by
 have em:(a++st).map (·.1)=a.map (·.1)++st.map (·.1):=pd;show⟨zf x.ok (zg (λs hs=>?_) n.once),λt f=>by rw[em];show y.Qk t f,λt r b c=>?_⟩
 .have⟨g,h,r,d,i⟩:=n.ok s hs;have hz:=(x.Qk _ g).2;rw[qt,kb d]at hz;show⟨by simpa using h,r,d,i,by simpa using hz⟩
 .rw[em]at c ⊢;rcases y.all t (d4.mp b).1 c with z|z
  .rcases x.all t r b z with z|z
   .rcases n.all t z r b with z|z
    .show .inr (ke.mpr (.inl z))
    .show .inr (ke.mpr (.inr z))
   .show .inr (ke.mpr (.inl z))
  .show .inl z
def LI.nd(x:LI rows a R):(a.map (·.1)).Nodup:=by simpa using qx x.ok .nil
def LI.sn(x:LI rows a R):MR rows (a.map (·.1)):=by simpa using zh x.ok λ_ _ _ h=>absurd h Rv
def LI.wd(x:LI rows a R):∀y∈a.map (·.1),y∈rows.map (·.1):=qy x.ok
def LI.closed(x:LI rows b []):gp rows (·∈b.map (·.1)):=λr c h=>by
 have⟨t,a⟩:=Zu.mp c;rcases x.all t r a (by rw[qt,kb a];show h) with z|z
 .cases z
 .show z
def jQ{K L:List W}(h:K.Nodup)(s:∀x∈K,x∈L):K.length<=L.length:=by
 induction K generalizing L with
 |nil=>simp
 |cons a K d =>
  have⟨f,g⟩:=pa.mp h;have b:a∈L:=s a (by simp);have:=d (L:=L.erase a) g λx c=>by
   have i:x≠a:=λe=>f (e▸c);show(ZE i).mpr (s x (by simp[c]))
  rw[YK b]at this;have:0<L.length:=Zh b;rw[lx];lia
end
end Od
namespace TM
open PySem L2 Ir
section
def zi(h:st[j]?=a5 (a5 (.own,u))):Run (lift (.bor j,u0)) st u (st.set j (a5 (.loc,u))):=by
 change(match st[j]? with|some (a5 (.own,u))=>a5 (Ex.ok u,st.set j (a5 (.loc,u)))|_=>b6)=_;rw[h]
def uH(h:Run c st cb st1):Run (fU c body (n+1)) st .nx st1:=aa h aJ
def v5(h:Run c st bD st1)(a:Run body st1 .nx st2)(b:Run (fU c body n) st2 f d):Run (fU c body (n+1)) st f d:=aa h (aa a b)
def uI(h:Run (fU (Ib Γ c) (execs Γ body) fuel) st .nx st1)(a:Run (execs Γ ss) st1 f st2):Run (execs Γ (.Mi c body::ss)) st f st2:=dS h a
def nu(hk:k=.loc\/k=.any):Run (c7 bD [i,j] (k,.tup [a,b])) st () ((st.set i (a5 (k,a))).set j (a5 (k,b))):=by
 rcases hk with rfl|rfl<;>rfl
def EJ(h:Run (execs Γ ss) (st.set i (a5 (.A',.HP [] []))) f st1):Run (execs Γ (.newD i::ss)) st f st1:=dS (aa (a:=()) (st1:=st.set i (a5 (.A',.HP [] []))) rfl aJ) h
def oW(h:st[i]?=a5 (a5 (.A',.HP ks us))):Run (gQ i) st (ks,us) st:=by
 change gQ i st=_;unfold gQ;rw[h]
def sE:Run (iP (k,.str y)) st y st:=rfl
def BN(a:st[i]?=a5 (a5 (.A',.HP ks us)))(b:y∉ks)(c:ks.length<cL):Run (k_ i y (.own,.lst xs)) st () (st.set i (a5 (.A',.HP (ks++[y]) (us++[.lst xs])))):=by
 change k_ i y (.own,.lst xs) st=_;unfold k_
 dsimp only
 rw[a]
 dsimp only
 rw[Ĺ ⟨b,c⟩]
def BO(a:st[i]?=a5 (a5 (.A',.HP ks us)))(b:dE ks us y=a5 (.lst xs))(c:xs.length<cL):Run (la i y u) st () (st.set i (a5 (.A',.HP ks (jZ ks us y (.lst (xs++[u])))))):=by
 change la i y u st=_;unfold la;rw[a]
 dsimp only
 rw[b]
 dsimp only
 rw[Ĺ c]
def GO(b:Run (ev Γ a) st (k,.str y) st1)(c:st1[i]?=a5 (a5 (.A',.HP ks us))):Run (Ib Γ (.inD neg a i)) st (PM neg y ks) st1 :=
 aa b (aa sE (aa (oW c) aJ))
def EK(b:Run (ev Γ c) st (.own,.lst xs) st1)(a:st1[i]?=a5 (a5 (.A',.HP ks us)))(d:Run (ev Γ e) st1 (k,.str y) st1)(g:y∉ks)(h:ks.length<cL)
  (j:Run (execs Γ ss) (st1.set i (a5 (.A',.HP (ks++[y]) (us++[.lst xs])))) f l):Run (execs Γ (.putD i e c::ss)) st f l:=by
 show dS ?_ j;show aa b (aa (oW a) (aa d (aa sE (aa (BN a g h) aJ))))
def EL(a:st[i]?=a5 (a5 (.A',.HP ks us)))(b:Run (ev Γ c) st (k,.str y) st)(d:y∈ks)(e:Run (ev Γ g) st r st)(h:Run (lift r) st u st)(j:dE ks us y=a5 (.lst xs))(l:xs.length<cL)
  (m:Run (execs Γ ss) (st.set i (a5 (.A',.HP ks (jZ ks us y (.lst (xs++[u])))))) f n):Run (execs Γ (.Ka i c g::ss)) st f n:=by
 show dS ?_ m;show aa (oW a) (aa b (aa sE (aa (oW a) ?_)));rw[Ĺ d];show aa e (aa h (aa (BO a j l) aJ))
def GP(h:st[i]?=a5 (a5 (.A',.HP ks us))):Run (ev Γ (.OG i)) st (.bor i,.HP ks us) (st.set i (a5 (.own,.HP ks us))):=by
 change xI i st=_;unfold xI;rw[h]
def EM(c:st[i]?=a5 (a5 (.own,.HP ks us)))(d:Run (ev Γ a) st (k,.str y) st)(e:Run (ev Γ b) st z st)(f:Run (lift z) st u st)(g:(match dE ks us y with|some v=>(Kd.loc,v)|none=>(.loc,u))=r):
  Run (ev Γ (.Kz i a b)) st r st:=by
 show aa (gZ c) (aa (a:=()) (st1:=st) rfl (aa d (aa (a:=y) (st1:=st) rfl (aa e (aa f (aa (gZ c) (cU ?_)))))));subst g;rfl
def GQ(b:st[i]?=a5 (a5 (.own,.lst us)))(d:Run (ev Γ e) st (k1,.int (j:Nat)) st)(c:us[j]?=a5 (.int o))(g:Run (ev Γ h) st (k2,.int w) st)
  (k:Run (execs Γ ss) (st.set i (a5 (.own,.lst (us.set j (.int (o - w)))))) f l):Run (execs Γ (.aug bD i e h::ss)) st f l:=by
 have hl:pX i st=a5 (.ok us,st):=by unfold pX;rw[b];rfl
 have m:j<us.length:=(d4.mp c).1;have hi:pY us (j:Nat)=a5 o:=by
  unfold pY;rw[Ĺ ⋯,LJ,c]
 have n:Lo us.length (j:Nat)=a5 j:=by
  unfold Lo;rw[Ĺ ⋯]
  first|(rw[Ĺ ⋯];simp)|simp[m]
 show dS (aa (a:=us) (st1:=st) hl (aa d (aa (a:=(j:Int)) (st1:=st) rfl (aa (a:=us) (st1:=st) hl (aa (cU hi) (aa g (aa (a:=w) (st1:=st) rfl (aa (a:=()) (st1:=st.set i (a5 (.own,.lst (us.set j (.int (o - w)))))) ?_ aJ)))))))) k;change modS i (fG (.int (j:Nat)) (.int (vq bD o w))) st=_;unfold modS;rw[b];simp only[Kd.root,if_true,fG];rw[n];rfl
def GR(a:st[i]?=a5 (a5 (.own,u)))(b:xF u=a5 r):Run (ev Γ (.OH i)) st r st:=aa (gZ a) (cU b)
def EN(a:Run (ev Γ e) st r st1)(b:Run (c7 bD is r) st1 () st2)(c:Run (execs Γ ss) st2 f d):Run (execs Γ (.K' is e::ss)) st f d:=dS (aa a (aa b aJ)) c
end
theorem lR(f:Str->U)(y:Str):∀ks:List Str,dE ks (ks.map f) y=if y∈ks then a5 (f y) else b6
 |[]=>rfl
 |k::ks=>by
  rw[il];change(if k=y then a5 (f k) else dE ks (ks.map f) y)=_;by_cases e:k=y
  .subst e;rw[Ĺ rfl,Ĺ (by simp)]
  .rw[ĺ e,lR f y ks];have:(y∈k::ks)↔y∈ks:=by simp[tv e]
   by_cases h:y∈ks
   .rw[Ĺ h,Ĺ (this.mpr h)]
   .rw[ĺ h,ĺ λz=>h (this.mp z)]
theorem qz(f:Str->U)(y:Str)(u:U):∀ks:List Str,ks.Nodup->jZ ks (ks.map f) y u=ks.map λk=>if k=y then u else f k
 |[],_=>rfl
 |k::ks,h=>by
  have⟨a,b⟩:=pa.mp h;rw[il,il];change(if k=y then u::ks.map f else f k::jZ ks (ks.map f) y u)=_;by_cases e:k=y
  .subst e;rw[Ĺ rfl,Ĺ rfl];congr 1
   show Jw λz hz=>?_;have c:z≠k:=λq=>a (by rw[<-q];show hz);rw[ĺ c]
  .rw[ĺ e,ĺ e,qz f y u ks b]
abbrev stN(s:Str×Nat):U:=.tup [.str s.1,.int (s.2:Nat)]
theorem nv(f:α->Int):∀(ns:List α),intsOf (ns.map λa=>U.int (f a))=a5 (ns.map f)
 |[]=>rfl
 |n::ns=>by change(intsOf (ns.map λa=>U.int (f a))).map _=_;rw[nv f ns];rfl
def BP(h:ps.length<64)(c:(ps.map (·.1)).Nodup):∃a:List (Str×Nat),a.Perm ps/\xF (.HP (ps.map (·.1)) (ps.map λp=>.int (p.2:Nat)))=a5 (.own,.lst (a.map stN)):=by
 have hi:=nv (λp:Str×Nat=>((p.2:Nat):Int)) ps;have hz:(ps.map (·.1)).zip (ps.map λp:Str×Nat=>((p.2:Nat):Int))=ps.map λp=>(p.1,((p.2:Nat):Int)):=by
  rw[List.zip_map']
 let P:=jV ((ps.map λp=>(p.1,((p.2:Nat):Int))).map (·.1));have b:P.Perm (i4 ps.length):=by
  have:=gz ((ps.map λp=>(p.1,((p.2:Nat):Int))).map (·.1));simpa[P] using this
 show⟨P.map λi=>ps.getD i (wh,0),?_,?_⟩
 .show(b.map _).trans ?_;have:(i4 ps.length).map (λi=>ps.getD i (wh,0))=ps:=by
   apply N5
   .simp
   .intro i g d;simp[Ni,d]
  rw[this]
 .change(intsOf (ps.map λp=>U.int (p.2:Nat))).bind _=_;rw[hi];change(if (ps.map (·.1)).length<64/\(ps.map (·.1)).Nodup/\(ps.map (·.1)).length=(ps.map λp:Str×Nat=>((p.2:Nat):Int)).length then _ else _)=_;rw[Ĺ ⟨by simpa using h,c,by simp⟩,hz];congr 3
  change(Az _).map vn=_;change(P.map λi=>(ps.map λp=>(p.1,((p.2:Nat):Int))).getD i (wh,0)).map vn=_;rw[ko,ko];show Jw λi e=>?_;have f:i<ps.length:=x4.mp (b.mem_iff.mp e);simp[Ni,f,vn,stN]
def GS(h:cK (j<=i)=c):bG .ge (.int i) (.int j)=a5 c:=by subst h;rfl
def zj:bG .isin (.str x) (.HP ks vs)=a5 (cK (x∈ks)):=rfl
def gI:bG .HQ (.str x) (.HP ks vs)=a5 (!cK (x∈ks)):=rfl
def GU{ss:List Str}:bG .isin (.str x) (.lst (ss.map U.str))=a5 (cK (x∈ss)):=by
 have h:=@gk x ss;have e:bG .HQ (.str x) (.lst (ss.map U.str))=(bG .isin (.str x) (.lst (ss.map U.str))).map (!·):=rfl;rw[e,ez]at h;have⟨b,a,c⟩:=h;rw[a];congr 1
 cases b<;>simp_all
def oX:bG .ne (.str a) (.str b)=a5 (!cK (a=b)):=by
 have:bG .ne (.str a) (.str b)=(bG .eq (.str a) (.str b)).map (!·):=by
  simp only[bG];rw[Ĺ ⟨rfl,rfl⟩,Ĺ ⟨rfl,rfl⟩];rfl
 rw[this,ka];rfl
def uJ(bs:List Bool):Js .all [(k,.lst (bs.map .bl))]=a5 (.loc,.bl (bs.all id)):=by
 change(fQ (bs.map U.bl)).map _=_;have:∀bs:List Bool,fQ (bs.map U.bl)=a5 bs:=λbs=>by
  induction bs with
  |nil=>rfl
  |cons b bs a=>change(fQ (bs.map U.bl)).map _=_;rw[a];rfl
 rw[this];rfl
section
def v7{told a:List Str}(hk:k=.loc\/k=.any)(hl:told.length<=1000)(hs:Run (ev Γ src) st (.loc,.tup (told.map .str)) st)(hj:st[j]?=a5 (a5 (k,w))\/st[j]?=a5 (a5 (.own,w)))(b:∀x:Str,bG .isin (.str x) w=a5 (cK (x∈a))):
  Run (ev Γ (.bi .all [.comp 1 cb .seq [src] [] (.cmp .isin (.var 0) (.var (j+1)))])) st (.loc,.bl (told.all λx=>cK (x∈a))) st:=by
 have hsz:(1000:Nat)<=cL:=by decide
 have c:=fj (cond:=aO Γ []) (elt:=ev Γ (.cmp .isin (.var 0) (.var (j+1)))) (src:=[(.loc,.tup (told.map .str))]) (st:=st) trivial .loc (.inl rfl) U.str (λx=>.bl (cK (x∈a))) .loc (λ_=>gb) told [] (by simp;lia)
  (λy _=>⟨by
   rcases hj with hj|hj
   .rcases hk with rfl|rfl
    .show f_ (af rfl) (af (by simpa using hj)) trivial (b y)
    .show f_ (af rfl) (bA (by simpa using hj)) trivial (b y)
   .show f_ (af rfl) (aA (by simpa using hj)) ⟨⟨.own,rfl,by simpa using hj⟩,trivial⟩ (b y),aL⟩)
 rw[nC]at c;have e:(told.map U.str).map (λu=>(kE .loc,u))=told.map λr=>(Kd.loc,U.str r):=by rw[ko];rfl
 have e2:(told.map λx=>U.bl (cK (x∈a)))=(told.map λx=>cK (x∈a)).map U.bl:=by rw[ko];rfl
 rw[e2]at c;have d:(told.all λx=>cK (x∈a))=((told.map λx=>cK (x∈a)).all id):=by rw[č];rfl
 rw[d];show bS (ae (cz (rs:=[(.loc,.tup (told.map .str))]) (ae hs ai) trivial (by change a5 _=_;rw[e]) c) ai) trivial (uJ _)
end
def kf(h:ks.length<1000)(a:x∉ks):fG (.str x) u (.HP ks us)=a5 (.HP (ks++[x]) (us++[u])):=by
 rw[BM h];unfold dput;rw[ĺ a]
def lT(h:I0 50 (.lst us)=bD):bG .ne (.lst us) (.lst [])=a5 (!us.isEmpty):=by
 simp only[bG];rw[Ĺ ⟨h,by simp[I0,cS]⟩];cases us with
 |_=>simp[cq,cT]
theorem gJ(f:α->Int):∀(l:List α) (n:Nat),cS n (l.map λa=>U.int (f a))=bD
 |[],n=>by simp[cS]
 |a::l,n=>by rw[il,cS,gJ f l n];simp[I0]
theorem qA:∀(ss:List (Str×Nat)) (n:Nat),cS (n+1) (ss.map stN)=bD
 |[],n=>by simp[cS]
 |s::ss,n=>by rw[il,cS,qA ss n];simp[stN,I0,cS]
theorem lU{cond:M Bool}(h:bo src st)(a b g:α->U)(p:α->Bool):∀(ys:List α) (c:List U),c.length+ys.length<=cL ->
  (∀y∈ys,Run cond (a5 (.loc,a y)::a5 (.loc,b y)::st) (p y) (a5 (.loc,a y)::a5 (.loc,b y)::st)/\Run elt (a5 (.loc,a y)::a5 (.loc,b y)::st) (.loc,g y) (a5 (.loc,a y)::a5 (.loc,b y)::st)) ->
  Run (bI 2 bD cond elt src (ys.map λy=>(Kd.loc,U.tup [a y,b y])) c) st (c++(ys.filter p).map g) st
 |[],c,_,_=>by rw[Np,Tc,Np,ve];show qk h
 |y::ys,c,hl,f=>by
  have⟨d,j⟩:=f y (by simp);rw[lx]at hl;have i:Run (c7 bD (i4 2) (.loc,.tup [a y,b y])) (mu 2 b6++st) () (a5 (.loc,a y)::a5 (.loc,b y)::st):=nu (.inl rfl);cases e:p y with
  |true =>
   rw[e]at d;show lI (s1:=a5 (.loc,a y)::a5 (.loc,b y)::st) (s2:=a5 (.loc,a y)::a5 (.loc,b y)::st) (s3:=a5 (.loc,a y)::a5 (.loc,b y)::st) (s4:=a5 (.loc,a y)::a5 (.loc,b y)::st) h i d j aL ⋯ ?_;have:=lU h a b g p ys (c++[g y]) (by simp;lia) λz hz=>f z (by simp[hz]);rw[Kr,Ĺ e,il];simpa using this
  |false =>
   rw[e]at d;show so (s1:=a5 (.loc,a y)::a5 (.loc,b y)::st) (s2:=a5 (.loc,a y)::a5 (.loc,b y)::st) h i d ?_;have:=lU h a b g p ys c ⋯ λz hz=>f z (by simp[hz]);rw[Kr,ĺ (by simp[e])];show this
def set_range(n:Nat)(f:Nat->α)(t:Nat)(v:α):((i4 n).map f).set t v=(i4 n).map λp=>if p=t then v else f p:=by
 apply N5
 .simp
 .intro i a b;simp only[List.getElem_set,Ô,List.getElem_range];by_cases e:t=i
  .subst e;simp
  .rw[ĺ e,ĺ (tv e)]
def BQ{rows:List Row}{t:Nat}(h:rows[t]?=a5 r):Iq (rows.map HM) (t:Int)=a5 (HM r):=cQ (by simp[h])
section
end
end TM
namespace KL
open PySem L2 TM
abbrev da:Fn:=⟨"gathered",1,4,[.newD 1,.Ip bD [2,3] .seq [.var 0] [.ite (.inD bD (.var 2) 1) [.putD 1 (.var 2) (.lst [])] [],.Ka 1 (.var 2) (.var 3)],.ret (.OG 1)]⟩
abbrev bc:Fn:=⟨"places_that_tell",1,4,[.set 1 (.lst []),.Ip bD [2,3] .Nd [.var 0] [.ext 1 (.comp 1 cb .seq [.idx (.var 3) (.cst (.int 1))] [] (.tup [.var 0,.var 3]))],.ret (.call "gathered" [.var 1])]⟩
abbrev cM:Fn:=⟨"new_steps",3,6,[.set 3 (.JZ cb),.Ip cb [4] .seq [.var 1] [.set 5 (.idx (.idx (.var 0) (.var 4)) (.cst (.int 0))),.ite (.and [.cmp .HQ (.var 5) (.var 2),.cmp .HQ (.var 5) (.var 3)]) [.put 3 (.var 5) (.var 4)] []],.ret (.OH 3)]⟩
abbrev bj:Fn:=⟨"steps_in_rounds",1,10,[.set 1 (.call "places_that_tell" [.var 0]),.set 2 (.comp 1 cb .seq [.var 0] [] (.bi .len [.idx (.var 0) (.cst (.int 1))])),.set 3 (.JZ cb),.set 4 (.lst []),.set 5 (.comp 2 bD .Nd [.var 2] [.cmp .eq (.var 1) (.cst (.int 0))] (.var 0)),.Mi (.cmp .ne (.var 5) (.lst [])) [.set 6 (.call "new_steps" [.var 0,.var 5,.var 3]),.set 5 (.lst []),.Ip bD [7,8] .seq [.var 6] [.put 3 (.var 7) (.cst (.bl bD)),.Ip cb [9] .seq [.Kz 1 (.var 7) (.lst [])] [.aug bD 2 (.var 9) (.cst (.int 1)),.ite (.cmp .eq (.idx (.var 2) (.var 9)) (.cst (.int 0))) [.app 5 (.var 9)] []]],.ite (.cmp .ne (.var 6) (.lst [])) [.app 4 (.var 6)] []],.ret (.var 4)]⟩
abbrev fk:Fn:=⟨"order",1,3,[.set 1 (.lst []),.Ip cb [2] .seq [.call "steps_in_rounds" [.var 0]] [.ext 1 (.var 2)],.ret (.var 1)]⟩
abbrev eQ:Fn:=⟨"learnt",1,1,[.ret (.bi .sorted [.comp 2 bD .seq [.call "order" [.var 0]] [] (.var 0)])]⟩
end KL
namespace KL
open PySem L2 TM Ir Od
abbrev cA(f:Str->List Nat)(k:Str):U:=.lst ((f k).map λt:Nat=>U.int (t:Nat))
def jx(d:List (Str×Nat))(y:Str×Nat)(k:Str):aF (d++[y]) k=if y.1=k then aF d k++[y.2] else aF d k:=by
 rw[qw];by_cases e:y.1=k
 .rw[Ĺ e];simp[aF,e]
 .rw[ĺ e];simp[aF,e]
def zk(d:List (Str×Nat))(k:Str):(aF d k).length<=d.length:=by
 unfold aF;rw[df];show MX _ _
section
def oY(hl:ps.length<=1000):∃ks:List Str,(∀w,w∉ks->aF ps w=[])/\bP Γ da [.lst (ps.map stN)]=a5 (.ok (.own,.HP ks (ks.map (cA (aF ps))))):=by
 have hsz:(2000:Nat)<=cL:=by decide
 have x:TM.start [.lst (ps.map stN)] 4=[a5 (.any,.lst (ps.map stN)),b6,b6,b6]:=rfl;let S:=λ(ks:List Str) (us:List U) (o2 o3:Option (Kd×U))=>([a5 (.any,.lst (ps.map stN)),a5 (.A',.HP ks us),o2,o3]:au)
 let body:List TM.S:=[.ite (.inD bD (.var 2) 1)
    [.putD 1 (.var 2) (.lst [])]
    [],
   .Ka 1 (.var 2) (.var 3)]
 have⟨st',A,l,ks,o2,o3,e,f,hk,B⟩:=ei (t:=bD) (is:=[2,3]) (body:=execs Γ body) (rs:=[(.any,.lst (ps.map stN))]) (λp:Str×Nat=>(Kd.any,stN p))
  (λd r st=>d++r=ps/\∃(ks:List Str) (o2 o3:Option (Kd×U)),st=S ks (ks.map (cA (aF d))) o2 o3/\ks.Nodup/\(∀w,w∉ks->aF d w=[])/\ks.length<=d.length) (λ_ _ _ _=>trivial) (λd y r st C=>by
   have⟨l,ks,o2,o3,e,f,hk,B⟩:=C;subst e;have J:d.length<1000:=by have:=ľ KN l;simp at this;lia
   let g:Option (Kd×U):=a5 (.any,.str y.1);let i:Option (Kd×U):=a5 (.any,.int (y.2:Nat));have L:=zk d y.1;have j:∀(ks:List Str),ks.Nodup->y.1∈ks->Run (execs Γ [.Ka 1 (.var 2) (.var 3)]) (S ks (ks.map (cA (aF d))) g i) .nx (S ks (ks.map (cA (aF (d++[y])))) g i):=λks f c=>by
    have D:dE ks (ks.map (cA (aF d))) y.1=a5 (.lst ((aF d y.1).map λt:Nat=>U.int (t:Nat))):=by rw[lR,Ĺ c];rfl
    have hs:jZ ks (ks.map (cA (aF d))) y.1 (.lst ((aF d y.1).map (λt:Nat=>U.int (t:Nat))++[.int (y.2:Nat)]))=ks.map (cA (aF (d++[y]))):=by
     rw[qz _ _ _ _ f];show Jw λk hk=>?_;unfold cA;rw[jx];by_cases e:y.1=k
     .subst e;rw[Ĺ rfl,Ĺ rfl];simp
     .rw[ĺ e,ĺ (tv e)]
    rw[<-hs];show EL (k:=.any) (r:=(.any,.int (y.2:Nat))) rfl (bA rfl) c (bA rfl) (um rfl) D (by rw[df];lia) aT
   have m:Run (Ib Γ (.inD bD (.var 2) 1)) (S ks (ks.map (cA (aF d))) g i) (!cK (y.1∈ks)) (S ks (ks.map (cA (aF d))) g i):=GO (neg:=bD) (k:=.any) (bA rfl) rfl;have o:Run (c7 bD [2,3] (.any,stN y)) (S ks (ks.map (cA (aF d))) o2 o3) () (S ks (ks.map (cA (aF d))) g i):=nu (.inr rfl);by_cases c:y.1∈ks
   .rw[ļ c]at m;show⟨_,_,o,bL m (λh=>by cases h) λ_=>j ks f c,by rw[<-l];simp,ks,_,_,rfl,f,λw n=>?_,by simp;lia⟩;have G:y.1≠w:=λz=>n (by rw[<-z];show c);rw[jx,ĺ G];show hk w n
   .rw[Ļ c]at m;have q:(ks++[y.1]).Nodup:=by
     rw[tA];show⟨f,by simp,λa H b I e=>?_⟩;have:b=y.1:=by simpa using I
     subst this;show c (e▸H)
    have em:ks.map (cA (aF d))++[.lst []]=(ks++[y.1]).map (cA (aF d)):=by
     rw[pd];congr 1
     change _=[cA (aF d) y.1]
     unfold cA;rw[hk y.1 c];rfl
    have s:=j (ks++[y.1]) q (by simp);rw[<-em]at s;show⟨_,_,o,bL m (λ_=>EK (k:=.any) (xs:=[]) (dN ai trivial aV (mN _)) rfl (bA rfl) c ⋯ s) λh=>(by cases h),by rw[<-l];simp,ks++[y.1],_,_,rfl,q,λw n=>?_,by simp;lia⟩;have v:w∉ks/\w≠y.1:=by simpa using n
    rw[jx,ĺ (tv v.2)];show hk w v.1) ps [] (S [] [] b6 b6) ⟨rfl,[],b6,b6,rfl,.nil,λ_ _=>rfl,hY _⟩
 subst e;rw[nC]at *;show⟨ks,hk,?_⟩;have e:(ps.map stN).map (λu=>(kE .any,u))=ps.map λp=>(Kd.any,stN p):=by rw[ko];rfl
 show aG rfl (.inl rfl) x (EJ (fA (rs:=[(.any,.lst (ps.map stN))]) (st1:=S [] [] b6 b6) (ae (bA rfl) ai) trivial rfl rfl (by rw[e];show A) (bh (GP rfl) (nh rfl))))
abbrev CG(Γ:Tab):Prop:=∀ps:List (Str×Nat),ps.length<=1000->∃ks:List Str,(∀w,w∉ks->aF ps w=[])/\Γ "gathered" [.lst (ps.map stN)]=a5 (.ok (.own,.HP ks (ks.map (cA (aF ps)))))
def iq(q:CG Γ)(s:Once rows)(v:∀r∈rows,r.2.length<=8)(H:rows.length<=120):
  ∃ks:List Str,(∀w,w∉ks->IJ rows rows.length w=[])/\bP Γ bc [.tup (rows.map HM)]=a5 (.ok (.own,.HP ks (ks.map (cA (IJ rows rows.length))))):=by
 have hsz:(2000:Nat)<=cL:=by decide
 have z:TM.start [.tup (rows.map HM)] 4=[a5 (.loc,.tup (rows.map HM)),b6,b6,b6]:=by simp[TM.start,Ig,cJ]
 let S:=λ(ps:List (Str×Nat)) (o2 o3:Option (Kd×U))=>([a5 (.loc,.tup (rows.map HM)),a5 (.own,.lst (ps.map stN)),o2,o3]:au)
 let body:List TM.S:=[.ext 1 (.comp 1 cb .seq [.idx (.var 3) (.cst (.int 1))] [] (.tup [.var 0,.var 3]))]
 have⟨st',A,g,ps,o2,o3,e,h,l⟩:=ei (t:=bD) (is:=[2,3]) (body:=execs Γ body) (rs:=[(.loc,.tup (rows.map HM))]) (λp:Row×Nat=>(Kd.loc,U.tup [.int (p.2:Nat),HM p.1]))
  (λd r st=>d++r=rows.zipIdx/\∃(ps:List (Str×Nat)) (o2 o3:Option (Kd×U)),st=S ps o2 o3/\(∀w,aF ps w=IJ rows d.length w)/\ps.length<=8 * d.length) (λ_ _ _ _=>trivial) (λd y r st B=>by
   have⟨g,ps,o2,o3,e,h,l⟩:=B;subst e;have⟨f,i⟩:=y;have m:(rows.zipIdx)[d.length]?=a5 (f,i):=by rw[<-g];simp
   rw[Tz,ez]at m;have⟨a,n,e⟩:=m;have C:a=f:=ľ ì e;have e2:0+d.length=i:=ľ Prod.snd e;rw[VV]at e2;subst C e2;have I:d.length<120:=by have:=ľ KN g;simp at this;lia
   have J:=v a (tr n);let b:Option (Kd×U):=a5 (.loc,.int (d.length:Nat));let c:Option (Kd×U):=a5 (.loc,HM a);have o:=fj (cond:=aO Γ []) (elt:=ev Γ (.tup [.var 0,.var 3])) (src:=[(.loc,.tup (a.2.map .str))]) (st:=S ps b c) trivial .loc (.inl rfl) U.str (λx=>stN (x,d.length)) .loc (λ_=>gb) a.2 [] (by simp;lia)
    (λy _=>⟨fz (ae (af rfl) (ae (af rfl) ai)) trivial (aE aL (aE aL aV)) (by change 2<=cL;lia),aL⟩)
   rw[nC]at o;have e:(a.2.map U.str).map (λu=>(kE .loc,u))=a.2.map λr=>(Kd.loc,U.str r):=by rw[ko];rfl
   have D:Run (ev Γ (.comp 1 cb .seq [.idx (.var 3) (.cst (.int 1))] [] (.tup [.var 0,.var 3]))) (S ps b c) (.own,.lst (a.2.map λx=>stN (x,d.length))) (S ps b c) :=
    cz (rs:=[(.loc,.tup (a.2.map .str))]) (ae (bg (x:=(.loc,HM a)) (af rfl) av trivial rfl) ai) trivial (by change a5 _=_;rw[e]) o
   have em:ps.map stN++(a.2.map λx=>stN (x,d.length))=(ps++a.2.map λx=>(x,d.length)).map stN:=by simp
   show⟨S ps b c,S (ps++a.2.map λx=>(x,d.length)) b c,nu (.inl rfl),?_,by rw[<-g];simp,_,_,_,rfl,λw=>?_,by simp;lia⟩
   .change Run _ _ _ [a5 (.loc,.tup (rows.map HM)),a5 (.own,.lst ((ps++a.2.map λx=>(x,d.length)).map stN)),b,c];rw[<-em];show CF (k:=.own) (k':=.own) rfl D rfl rfl (uF (by rw[df,df];lia) rfl) aT
   .rw[j0];show v3 s n h w) rows.zipIdx [] (S [] b6 b6) ⟨rfl,[],b6,b6,rfl,λw=>by simp[aF,IJ],by simp⟩
 subst e;rw[nC,List.length_zipIdx]at h l;have j:KA .Nd [(.loc,.tup (rows.map HM))]=a5 (rows.zipIdx.map λp:Row×Nat=>(Kd.loc,U.tup [.int (p.2:Nat),HM p.1])):=by
  change a5 ((rows.map HM).zipIdx.map λp=>(kE .loc,U.tup [.int p.2,p.1]))=_;rw[List.zipIdx_map,ko];rfl
 have⟨ks,k1,k2⟩:=q ps ⋯;have G:aF ps=IJ rows rows.length:=funext h;rw[G]at k1 k2;show⟨ks,k1,?_⟩;show aG rfl (.inl rfl) z (ax (r:=(.own,.lst [])) (dN ai trivial aV (mN _)) bq (fA (rs:=[(.loc,.tup (rows.map HM))]) (st1:=S [] b6 b6) (ae (af rfl) ai) trivial j rfl A
  (bh (aP (ae (aA rfl) ai) ⟨⟨.own,rfl,rfl⟩,trivial⟩ k2) jM)))
def mB{names:List Str}(v:∀r∈rows,r.1∈names)(O:names.length<64)(y:∀t∈R,t<rows.length):
  ∃st:List (Str×Nat),NS rows K0 R st/\bP Γ cM [.tup (rows.map HM),.lst (R.map λt:Nat=>.int (t:Nat)),.HP K0 vs]=a5 (.ok (.own,.lst (st.map stN))):=by
 have hsz:(2000:Nat)<=cL:=by decide
 have z:TM.start [.tup (rows.map HM),.lst (R.map λt:Nat=>.int (t:Nat)),.HP K0 vs] 6=[a5 (.loc,.tup (rows.map HM)),a5 (.any,.lst (R.map λt:Nat=>.int (t:Nat))),a5 (.any,.HP K0 vs),b6,b6,b6]:=by simp[TM.start,Ig,cJ]
 let S:=λ(ps:List (Str×Nat)) (o4 o5:Option (Kd×U))=>([a5 (.loc,.tup (rows.map HM)),a5 (.any,.lst (R.map λt:Nat=>.int (t:Nat))),a5 (.any,.HP K0 vs),a5 (.own,.HP (ps.map (·.1)) (ps.map λp=>.int (p.2:Nat))),o4,o5]:au)
 let body:List TM.S:=[.set 5 (.idx (.idx (.var 0) (.var 4)) (.cst (.int 0))),
   .ite (.and [.cmp .HQ (.var 5) (.var 2),.cmp .HQ (.var 5) (.var 3)])
    [.put 3 (.var 5) (.var 4)]
    []]
 have o:∀{d:List Nat} {ps:List (Str×Nat)},NS rows K0 d ps->ps.length<=names.length:=λ{d ps} x=>by
  have:=jQ x.once (L:=names) λw A=>by
   have⟨s,hs,rfl⟩:=kl.mp A;obtain⟨_,_,r,b,c⟩:=x.ok s hs;rw[<-c];show v r (tr b)
  simpa using this
 have⟨st',B,j,ps,o4,o5,e,x⟩:=ei (t:=cb) (is:=[4]) (body:=execs Γ body) (rs:=[(.any,.lst (R.map λt:Nat=>.int (t:Nat)))]) (λt:Nat=>(Kd.any,U.int (t:Nat)))
  (λd r st=>d++r=R/\∃(ps:List (Str×Nat)) (o4 o5:Option (Kd×U)),st=S ps o4 o5/\NS rows K0 d ps) (λ_ _ _ _=>trivial) (λd t r st C=>by
   have⟨j,ps,o4,o5,e,x⟩:=C;subst e;have D:t<rows.length:=y t (by rw[<-j];simp);have l:rows[t]?=a5 rows[t]:=by simp[D]
   generalize rows[t]=a at l;let f:Option (Kd×U):=a5 (.any,.int (t:Nat));let m:Option (Kd×U):=a5 (.loc,.str a.1);have G:=o x;have i:Run (Ib Γ (.and [.cmp .HQ (.var 5) (.var 2),.cmp .HQ (.var 5) (.var 3)])) (S ps f m) (!cK (a.1∈K0)&&!cK (a.1∈ps.map (·.1))) (S ps f m) :=
    jL (lP (bp (af rfl) (bA rfl) trivial gI) λ_=>dm (bp (af rfl) (aA rfl) ⟨⟨.own,rfl,rfl⟩,trivial⟩ gI))
   have g:∀{q:au},Run (execs Γ [.ite (.and [.cmp .HQ (.var 5) (.var 2),.cmp .HQ (.var 5) (.var 3)])
    [.put 3 (.var 5) (.var 4)]
    []]) (S ps f m) .nx q->Run (execs Γ body) (S ps f o5) .nx q:=λh =>
    ax (r:=(.loc,.str a.1)) (bg (x:=(.loc,HM a)) (bg (af rfl) (bA rfl) trivial (kG (BQ l))) av trivial rfl) aK h
   have n:Run (c7 cb [4] (.any,.int (t:Nat))) (S ps o4 o5) () (S ps f o5):=gc lH;by_cases b:a.1∈K0
   .rw[ļ b]at i;show⟨_,_,n,g (bL i (λh=>by cases h) λ_=>aT),by rw[<-j];simp,ps,_,_,rfl,x.skip l (.inl b)⟩
   .by_cases c:a.1∈ps.map (·.1)
    .rw[Ļ b,ļ c]at i;show⟨_,_,n,g (bL i (λh=>by cases h) λ_=>aT),by rw[<-j];simp,ps,_,_,rfl,x.skip l (.inr c)⟩
    .rw[Ļ b,Ļ c]at i;show⟨_,S (ps++[(a.1,t)]) f m,n,g (bL i (λ_=>?_) λh=>by cases h),by rw[<-j];simp,_,_,_,rfl,x.take l b c⟩;have H:(ps++[(a.1,t)]).map (·.1)=ps.map (·.1)++[a.1]:=by simp
     have e2:((ps++[(a.1,t)]).map λp=>U.int (p.2:Nat))=(ps.map λp=>U.int (p.2:Nat))++[.int (t:Nat)]:=by simp
     change Run _ _ _ [a5 (.loc,.tup (rows.map HM)),a5 (.any,.lst (R.map λt:Nat=>.int (t:Nat))),a5 (.any,.HP K0 vs),a5 (.own,.HP ((ps++[(a.1,t)]).map (·.1)) ((ps++[(a.1,t)]).map λp=>.int (p.2:Nat))),f,m];rw[H,e2];show uE (k:=.own) (rv:=(.any,.int (t:Nat))) (rk:=(.loc,.str a.1)) (bA rfl) rfl (af rfl) (aE (um rfl) (aE aL aV)) rfl rfl (kf (by rw[df];lia) c) aT) R [] (S [] b6 b6) ⟨rfl,[],b6,b6,rfl,NS.start K0⟩
 subst e;rw[nC]at x;have G:=o x;have⟨I,J,N⟩:=BP (ps:=ps) ⋯ x.once;show⟨I,x.perm J,?_⟩;have e:(R.map λt:Nat=>U.int (t:Nat)).map (λu=>(kE .any,u))=R.map λt=>(Kd.any,U.int (t:Nat)):=by rw[ko];rfl
 show aG rfl (.inl rfl) z (ax (r:=(.own,.HP [] [])) oJ bq (fA (rs:=[(.any,.lst (R.map λt:Nat=>.int (t:Nat)))]) (st1:=S [] b6 b6) (ae (bA rfl) ai) trivial rfl rfl (by rw[e];show B) (bh (GR rfl N) jM)))
end
abbrev mi(rows:List Row)(K0:List Str)(d:List Nat)(p:Nat):Int:=(cnt rows K0 p:Int) - (if p∈d then 1 else 0)
abbrev bM(rows:List Row)(f:Nat->Int):List U:=(i4 rows.length).map λp=>U.int (f p)
abbrev fm(R:List Nat):List U:=R.map λt:Nat=>U.int (t:Nat)
def BR(rows:List Row)(K0:List Str):bM rows (mi rows K0 [])=bM rows λp=>(cnt rows K0 p:Int):=by
 unfold bM mi;show Jw λp _=>?_;simp
def BS(b:Once rows)(c:w∉K0):bM rows (mi rows K0 (IJ rows rows.length w))=bM rows λp=>(cnt rows (K0++[w]) p:Int):=by
 unfold bM mi;show Jw λp d=>?_;have e:=x4.mp d;have a:=oV b c p;by_cases h:w∈told rows p
 .rw[Ĺ (jc.mpr ⟨e,h⟩)];rw[Ĺ h]at a;change U.int ((cnt rows K0 p:Int) - 1)=U.int (cnt rows (K0++[w]) p:Int);congr 1
  lia
 .rw[ĺ λz=>h (jc.mp z).2];rw[ĺ h]at a;change U.int ((cnt rows K0 p:Int) - 0)=U.int (cnt rows (K0++[w]) p:Int);congr 1
  lia
def zl(a:t∉d):(bM rows (mi rows K0 d)).set t (.int (mi rows K0 d t - 1))=bM rows (mi rows K0 (d++[t])):=by
 unfold bM;rw[set_range];show Jw λp _=>?_;unfold mi;by_cases e:p=t
 .subst e;rw[Ĺ rfl,ĺ a,Ĺ (by simp)];rw[show((cnt rows K0 p:Int) - 0 - 1)=(cnt rows K0 p:Int) - 1 by lia]
 .rw[ĺ e];have:(p∈d++[t])↔p∈d:=by simp[e]
  simp only[this]
def zm(h:t<rows.length):(bM rows f)[t]?=a5 (.int (f t)):=by simp[bM,h]
section
variable{Γ:Tab}{rows:List Row}
abbrev uK:List TM.S:=[.aug bD 2 (.var 9) (.cst (.int 1)),.ite (.cmp .eq (.idx (.var 2) (.var 9)) (.cst (.int 0))) [.app 5 (.var 9)] []]
def qB(u:Once rows)(J:rows.length<=120)(v:w∉K0)(L:R.length<=14400)(o9:Option (Kd×U))(y:∀st,bo src st):∃l:Option (Kd×U),
  Run (forM cb [9] (execs Γ uK) src ((IJ rows rows.length w).map λt:Nat=>(Kd.loc,U.int (t:Nat))))
   [b0,b1,a5 (.own,.lst (bM rows λp=>(cnt rows K0 p:Int))),b3,b4,a5 (.own,.lst (fm R)),o6,o7,o8,o9] .nx
   [b0,b1,a5 (.own,.lst (bM rows λp=>(cnt rows (K0++[w]) p:Int))),b3,b4,a5 (.own,.lst (fm (R++(IJ rows rows.length w).filter λt=>cK (cnt rows K0 t=1)))),o6,o7,o8,l]:=by
 have hsz:(20000:Nat)<=cL:=by decide
 let S:=λ(ms:List U) (R:List Nat) (o9:Option (Kd×U))=>([b0,b1,a5 (.own,.lst ms),b3,b4,a5 (.own,.lst (fm R)),o6,o7,o8,o9]:au)
 have⟨st',m,c,l,e⟩:=ei (t:=cb) (is:=[9]) (body:=execs Γ uK) (rs:=src) (λt:Nat=>(Kd.loc,U.int (t:Nat)))
  (λd r st=>d++r=IJ rows rows.length w/\∃o9:Option (Kd×U),st=S (bM rows (mi rows K0 d)) (R++d.filter λt=>cK (cnt rows K0 t=1)) o9) (λ_ _ st _=>y st) (λd t r st A=>by
   have⟨c,o9,e⟩:=A;subst e;have B:t∈IJ rows rows.length w:=by rw[<-c];simp
   have n:t<rows.length:=(jc.mp B).1;have o:=vZ (rows:=rows) rows.length w;have C:t∉d:=λz=>by
    rw[<-c,tA]at o;show o.2.2 t z t (by simp) rfl
   have N:d.length<=120:=by
    have D:=ľ KN c;have G:(IJ rows rows.length w).length<=(i4 rows.length).length:=MX _ _;simp at D G;lia
   let b:Option (Kd×U):=a5 (.loc,.int (t:Nat));let a:=R++d.filter λt=>cK (cnt rows K0 t=1);have O:a.length<=14520:=by
    have:(d.filter λt=>cK (cnt rows K0 t=1)).length<=d.length:=MX _ _;change(R++_).length<=_;rw[j0];lia
   have H:Iq (bM rows (mi rows K0 (d++[t]))) (t:Int)=a5 (.int (mi rows K0 (d++[t]) t)):=cQ (zm n);have I:mi rows K0 (d++[t]) t=(cnt rows K0 t:Int) - 1:=by unfold mi;rw[Ĺ (by simp)]
   have g:Run (Ib Γ (.cmp .eq (.idx (.var 2) (.var 9)) (.cst (.int 0)))) (S (bM rows (mi rows K0 (d++[t]))) a b) (cK (cnt rows K0 t=1)) (S (bM rows (mi rows K0 (d++[t]))) a b) :=
    bp (bg (x:=(.bor 2,.lst (bM rows (mi rows K0 (d++[t]))))) (aA rfl) (af rfl) ⟨⟨.own,rfl,rfl⟩,trivial⟩ (aS H)) av trivial (gf (by
     rw[I,Nm];simp;lia))
   have f:∀{q:au},Run (execs Γ [.ite (.cmp .eq (.idx (.var 2) (.var 9)) (.cst (.int 0)))
      [.app 5 (.var 9)]
      []]) (S (bM rows (mi rows K0 (d++[t]))) a b) .nx q->Run (execs Γ uK) (S (bM rows (mi rows K0 d)) a b) .nx q:=λh=>by
    show GQ (us:=bM rows (mi rows K0 d)) (k1:=.loc) (k2:=.loc) (j:=t) (w:=1) rfl (af rfl) (zm n) av ?_;rw[zl C];show h
   have s:Run (c7 cb [9] (.loc,.int (t:Nat))) (S (bM rows (mi rows K0 d)) a o9) () (S (bM rows (mi rows K0 d)) a b):=gc aK;cases i:cK (cnt rows K0 t=1) with
   |false =>
    rw[i]at g;show⟨_,_,s,f (bL g (λh=>by cases h) λ_=>aT),by rw[<-c];simp,b,?_⟩;rw[Sa,Kr,i];simp[S,a]
   |true =>
    rw[i]at g;show⟨_,S (bM rows (mi rows K0 (d++[t]))) (a++[t]) b,s,f (bL g (λ_=>?_) λh=>by cases h),by rw[<-c];simp,b,?_⟩
    .have em:fm (a++[t])=fm a++[.int (t:Nat)]:=by simp[fm]
     change Run _ _ _ [b0,b1,a5 (.own,.lst (bM rows (mi rows K0 (d++[t])))),b3,b4,a5 (.own,.lst (fm (a++[t]))),o6,o7,o8,b];rw[em];show jN (k:=.own) (k':=.own) (r:=(.loc,.int (t:Nat))) rfl (af rfl) aL rfl rfl (by unfold fm;rw[df];lia) aT
    .rw[Sa,Kr,i];simp[S,a]) (IJ rows rows.length w) [] (S (bM rows (mi rows K0 [])) R o9) ⟨rfl,o9,by simp⟩
 subst e;rw[nC]at m;rw[BR,BS u v]at m;show⟨l,m⟩
abbrev zo:List TM.S:=[.put 3 (.var 7) (.cst (.bl bD)),.Ip cb [9] .seq [.Kz 1 (.var 7) (.lst [])] uK]
def v8(m:Once rows)(q:rows.length<=120)(y:∀w,w∉ks->IJ rows rows.length w=[])(n:(K0++st.map (·.1)).Nodup)(hl:K0.length+st.length<=120)(vs:List U)(o7 o8 o9:Option (Kd×U)):∃(vs':List U) (R:List Nat) (g i a:Option (Kd×U)),
  RI rows K0 (K0++st.map (·.1)) R/\(st=[]->R=[])/\Run (forM bD [7,8] (execs Γ zo) [(.bor 6,.lst (st.map stN))] (st.map λs=>(Kd.loc,stN s)))
   [b0,a5 (.own,.HP ks (ks.map (cA (IJ rows rows.length)))),a5 (.own,.lst (bM rows λp=>(cnt rows K0 p:Int))),a5 (.own,.HP K0 vs),b4,a5 (.own,.lst []),a5 (.own,.lst (st.map stN)),o7,o8,o9] .nx
   [b0,a5 (.own,.HP ks (ks.map (cA (IJ rows rows.length)))),a5 (.own,.lst (bM rows λp=>(cnt rows (K0++st.map (·.1)) p:Int))),a5 (.own,.HP (K0++st.map (·.1)) vs'),b4,a5 (.own,.lst (fm R)),a5 (.own,.lst (st.map stN)),g,i,a]:=by
 let S:=λ(K:List Str) (vs:List U) (R:List Nat) (o7 o8 o9:Option (Kd×U))=>([b0,a5 (.own,.HP ks (ks.map (cA (IJ rows rows.length)))),a5 (.own,.lst (bM rows λp=>(cnt rows K p:Int))),a5 (.own,.HP K vs),b4,a5 (.own,.lst (fm R)),a5 (.own,.lst (st.map stN)),o7,o8,o9]:au)
 have⟨st',A,b,vs',R,g,i,a,e,x,B,o⟩:=ei (t:=bD) (is:=[7,8]) (body:=execs Γ zo) (rs:=[(.bor 6,.lst (st.map stN))]) (λs:Str×Nat=>(Kd.loc,stN s))
  (λd r j=>d++r=st/\∃(vs:List U) (R:List Nat) (o7 o8 o9:Option (Kd×U)),j=S (K0++d.map (·.1)) vs R o7 o8 o9/\RI rows K0 (K0++d.map (·.1)) R/\R.length<=120 * d.length/\(d=[]->R=[])) (λ_ _ j ⟨_,vs,R,o7,o8,o9,e,_⟩=>by subst e;show⟨⟨.own,rfl,rfl⟩,trivial⟩) (λd s r j C=>by
   have⟨b,vs,R,o7,o8,o9,e,x,B,o⟩:=C;subst e;have⟨w,p⟩:=s;have J:d.length<st.length:=by have:=ľ KN b;simp at this;lia
   have l:w∉K0++d.map (·.1):=λz=>by
    rw[<-b,pd,<-ON,tA]at n;show n.2.2 w z w (by simp) rfl
   let c:Option (Kd×U):=a5 (.loc,.str w);let f:Option (Kd×U):=a5 (.loc,.int (p:Nat));have⟨a,D⟩:=qB (Γ:=Γ) m q l (R:=R) ⋯ (b0:=b0) (b1:=a5 (.own,.HP ks (ks.map (cA (IJ rows rows.length))))) (b3:=a5 (.own,.HP (K0++d.map (·.1)++[w]) (vs++[.bl bD]))) (b4:=b4) (o6:=a5 (.own,.lst (st.map stN))) (o7:=c) (o8:=f) o9 (src:=[(.loc,cA (IJ rows rows.length) w)]) (λ_=>trivial);have em:K0++(d++[(w,p)]).map (·.1)=K0++d.map (·.1)++[w]:=by simp
   have G:(K0++d.map (·.1)).length<1000:=by rw[j0,df];lia
   have H:(match dE ks (ks.map (cA (IJ rows rows.length))) w with|some v=>(Kd.loc,v)|none=>(.loc,U.lst []))=(.loc,cA (IJ rows rows.length) w):=by
    rw[lR];by_cases h:w∈ks
    .rw[Ĺ h]
    .rw[ĺ h];unfold cA;rw[y w h];rfl
   have e2:((IJ rows rows.length w).map λt:Nat=>U.int (t:Nat)).map (λu=>(kE .loc,u))=(IJ rows rows.length w).map λt=>(Kd.loc,U.int (t:Nat)):=by rw[ko];rfl
   show⟨S (K0++d.map (·.1)) vs R c f o9,S (K0++d.map (·.1)++[w]) (vs++[.bl bD]) (R++(IJ rows rows.length w).filter λt=>cK (cnt rows (K0++d.map (·.1)) t=1)) c f a,nu (.inl rfl),?_,by rw[<-b];simp,vs++[.bl bD],_,c,f,a,by rw[em],?_,?_,λz=>by simp at z⟩
   .show uE (k:=.own) (rv:=(.loc,.bl bD)) (rk:=(.loc,.str w)) av rfl (af rfl) (aE aL (aE aL aV)) rfl rfl (kf G l) ?_;show fA (rs:=[(.loc,cA (IJ rows rows.length) w)]) (ae (EM (k:=.loc) (z:=(.own,.lst [])) (u:=.lst []) rfl (af rfl) (dN ai trivial aV (mN _)) qi H) ai) trivial (by change a5 (Tw (λu=>(kE .loc,u)) _)=_;rw[e2]) rfl D aT
   .rw[em];show x.step m l
   .have:((IJ rows rows.length w).filter λt=>cK (cnt rows (K0++d.map (·.1)) t=1)).length<=120:=by
     show B' (MX _ _) ?_;have I:(IJ rows rows.length w).length<=(i4 rows.length).length:=MX _ _;simp at I;lia
    rw[j0,j0,w6];lia) st [] (S K0 vs [] o7 o8 o9) ⟨rfl,vs,[],o7,o8,o9,by simp[S],by simpa using RI.start K0,by simp,λ_=>rfl⟩
 subst e;show⟨vs',R,g,i,a,by simpa using x,λz=>o (by simpa using z),by simpa[S,fm] using A⟩
abbrev gT(IC:List (List (Str×Nat))):List U:=IC.map λl=>U.lst (l.map stN)
abbrev zp:List TM.S:=[.set 6 (.call "new_steps" [.var 0,.var 5,.var 3]),.set 5 (.lst []),.Ip bD [7,8] .seq [.var 6] zo,.ite (.cmp .ne (.var 6) (.lst [])) [.app 4 (.var 6)] []]
abbrev zq(Γ:Tab)(rows:List Row):Prop:=∀(R:List Nat) (K0:List Str) (vs:List U),(∀t∈R,t<rows.length)->∃st:List (Str×Nat),NS rows K0 R st/\Γ "new_steps" [.tup (rows.map HM),.lst (fm R),.HP K0 vs]=a5 (.ok (.own,.lst (st.map stN)))
theorem jy(C:Once rows)(D:rows.length<=120)(G:zq Γ rows)(H:∀w,w∉ks->IJ rows rows.length w=[]):∀(f:Nat) (c:List (Str×Nat)) (IC:List (List (Str×Nat))) (R:List Nat) (vs:List U) (o6 o7 o8 o9:Option (Kd×U)),
  LI rows c R->IC.flatten=c->IC.length<=c.length->(rows.length - c.length)+(if R=[] then 1 else 2)<=f ->
  ∃(Qm:List (Str×Nat)) (I:List (List (Str×Nat))) (st':au),LI rows Qm []/\I.flatten=Qm/\I.length<=120/\st'[4]?=a5 (a5 (.own,.lst (gT I))) /\
   Run (fU (Ib Γ (.cmp .ne (.var 5) (.lst []))) (execs Γ zp) f) [a5 (.loc,.tup (rows.map HM)),a5 (.own,.HP ks (ks.map (cA (IJ rows rows.length)))),a5 (.own,.lst (bM rows λp=>(cnt rows (c.map (·.1)) p:Int))),a5 (.own,.HP (c.map (·.1)) vs),a5 (.own,.lst (gT IC)),a5 (.own,.lst (fm R)),o6,o7,o8,o9] .nx st'
 |0,c,IC,R,vs,o6,o7,o8,o9,_,_,_,h=>by split at h<;>lia
 |f+1,c,IC,R,vs,o6,o7,o8,o9,x,J,YA,h=>by
  have hsz:(20000:Nat)<=cL:=by decide
  have Ki:∀{s:List (Str×Nat)} {d:List Nat},LI rows s d->s.length<=rows.length:=λ{s d} x=>by
   have:=jQ x.nd x.wd;simpa using this
  have IV:=Ki x;let S:=λ(K:List Str) (vs:List U) (IC:List (List (Str×Nat))) (R:List Nat) (o6 o7 o8 o9:Option (Kd×U))=>([a5 (.loc,.tup (rows.map HM)),a5 (.own,.HP ks (ks.map (cA (IJ rows rows.length)))),a5 (.own,.lst (bM rows λp=>(cnt rows K p:Int))),a5 (.own,.HP K vs),a5 (.own,.lst (gT IC)),a5 (.own,.lst (fm R)),o6,o7,o8,o9]:au)
  have YB:∀R:List Nat,I0 50 (.lst (fm R))=bD:=λR=>by change cS 49 _=bD;show gJ (λt:Nat=>((t:Nat):Int)) R 49
  have v:Run (Ib Γ (.cmp .ne (.var 5) (.lst []))) (S (c.map (·.1)) vs IC R o6 o7 o8 o9) (!(fm R).isEmpty) (S (c.map (·.1)) vs IC R o6 o7 o8 o9) :=
   bp (aA rfl) (dN ai trivial aV (mN _)) ⟨⟨.own,rfl,rfl⟩,trivial⟩ (lT (YB R))
  by_cases N:R=[]
  .subst N;show⟨c,IC,_,x,J,⋯,rfl,uH v⟩
  .rw[ĺ N]at h;have Q7:(!(fm R).isEmpty)=bD:=by
    cases R with
    |nil=>show absurd rfl N
    |cons a l=>rfl
   rw[Q7]at v;have⟨st,n,HU⟩:=G R (c.map (·.1)) vs λt ht=>(x.Qk t ht).1;have Io:(c.map (·.1)++st.map (·.1)).Nodup:=by
    rw[tA];show⟨x.nd,n.once,λa ha b m e=>?_⟩;have⟨s,hs,rfl⟩:=kl.mp m;show(n.ok s hs).2.1 (e▸ha)
   have ab:c.length+st.length<=rows.length:=by
    have:=jQ Io (L:=rows.map (·.1)) λy hy=>by
     rcases ke.mp hy with hy|hy
     .show x.wd y hy
     .have⟨s,hs,rfl⟩:=kl.mp hy;obtain⟨_,_,r,q1,q2⟩:=n.ok s hs;show kl.mpr ⟨r,tr q1,q2⟩
    simpa using this
   let o:Option (Kd×U):=a5 (.own,.lst (st.map stN));have⟨vs',d,g,i,j,y,YC,Um⟩:=v8 (Γ:=Γ) C D H Io (by rw[df];lia) (b0:=a5 (.loc,.tup (rows.map HM))) (b4:=a5 (.own,.lst (gT IC))) vs o7 o8 o9;have O:=x.step n y;have em:(c++st).map (·.1)=c.map (·.1)++st.map (·.1):=pd;have YD:I0 50 (.lst (st.map stN))=bD:=by change cS 49 _=bD;show qA st 48
   have z:Run (Ib Γ (.cmp .ne (.var 6) (.lst []))) (S (c.map (·.1)++st.map (·.1)) vs' IC d o g i j) (!(st.map stN).isEmpty) (S (c.map (·.1)++st.map (·.1)) vs' IC d o g i j) :=
    bp (aA rfl) (dN ai trivial aV (mN _)) ⟨⟨.own,rfl,rfl⟩,trivial⟩ (lT YD)
   have e1:(st.map stN).map (λu=>(kE (.bor 6),u))=st.map λs=>(Kd.loc,stN s):=by rw[ko];rfl
   have q:∀{JN:au},Run (execs Γ [.ite (.cmp .ne (.var 6) (.lst []))
    [.app 4 (.var 6)]
    []]) (S (c.map (·.1)++st.map (·.1)) vs' IC d o g i j) .nx JN->Run (execs Γ zp) (S (c.map (·.1)) vs IC R o6 o7 o8 o9) .nx JN:=λh=>by
    show ax (r:=(.own,.lst (st.map stN))) (aP (ae (af rfl) (ae (aA rfl) (ae (aA rfl) ai))) ⟨⟨.own,rfl,rfl⟩,⟨.own,rfl,rfl⟩,trivial⟩ HU) bq ?_;show ax (r:=(.own,.lst [])) (dN ai trivial aV (mN _)) bq ?_;show fA (rs:=[(.bor 6,.lst (st.map stN))]) (ae (aA rfl) ai) ⟨⟨.own,rfl,rfl⟩,trivial⟩ (by change a5 (Tw (λu=>(kE (.bor 6),u)) _)=_;rw[e1]) rfl Um h
   by_cases A:st=[]
   .have YE:=YC A;subst A;rw[show(!(([]:List (Str×Nat)).map stN).isEmpty)=cb from rfl]at z;have ee:c++[]=c:=ve _;rw[ee]at O;have m:=q (bL z (λh=>by cases h) λ_=>aT);have⟨Q,T,st2,Y,z2,z3,z4,B⟩:=jy C D G H f c IC d vs' o g i j O J YA (by rw[Ĺ YE];lia);show⟨Q,T,st2,Y,z2,z3,z4,v5 v m ?_⟩;have e3:c.map (·.1)++([]:List (Str×Nat)).map (·.1)=c.map (·.1):=by simp
    change Run _ (S (c.map (·.1)++([]:List (Str×Nat)).map (·.1)) vs' IC d o g i j) _ _;rw[e3];show B
   .have Uo:(!(st.map stN).isEmpty)=bD:=by
     cases st with
     |nil=>show absurd rfl A
     |cons a l=>rfl
    rw[Uo]at z;have P9:0<st.length:=List.length_pos_iff.mpr A;have ef:gT (IC++[st])=gT IC++[.lst (st.map stN)]:=by simp[gT]
    have m:Run (execs Γ zp) (S (c.map (·.1)) vs IC R o6 o7 o8 o9) .nx (S (c.map (·.1)++st.map (·.1)) vs' (IC++[st]) d (a5 (.loc,.lst (st.map stN))) g i j):=by
     show q (bL z (λ_=>?_) λh=>by cases h);change Run _ _ _ [a5 (.loc,.tup (rows.map HM)),a5 (.own,.HP ks (ks.map (cA (IJ rows rows.length)))),a5 (.own,.lst (bM rows λp=>(cnt rows (c.map (·.1)++st.map (·.1)) p:Int))),a5 (.own,.HP (c.map (·.1)++st.map (·.1)) vs'),a5 (.own,.lst (gT (IC++[st]))),a5 (.own,.lst (fm d)),a5 (.loc,.lst (st.map stN)),g,i,j];rw[ef];show jN (k:=.own) (k':=.own) (r:=(.bor 6,.lst (st.map stN))) (u:=.lst (st.map stN)) rfl (aA rfl) (zi rfl) rfl rfl (by unfold gT;rw[df];lia) aT
    have⟨Q,T,st2,Y,z2,z3,z4,B⟩:=jy C D G H f (c++st) (IC++[st]) d vs' (a5 (.loc,.lst (st.map stN))) g i j O (by rw[ZR,J];simp) (by rw[j0,j0,w6];lia) (by rw[j0];split<;>lia);show⟨Q,T,st2,Y,z2,z3,z4,v5 v m ?_⟩;rw[em]at B;show B
abbrev CH(Γ:Tab)(rows:List Row):Prop:=∃ks:List Str,(∀w,w∉ks->IJ rows rows.length w=[])/\Γ "places_that_tell" [.tup (rows.map HM)]=a5 (.ok (.own,.HP ks (ks.map (cA (IJ rows rows.length)))))
def gU(o:Once rows)(q:rows.length<=120)(s:CH Γ rows)(v:zq Γ rows):∃(d:List (Str×Nat)) (IC:List (List (Str×Nat))),LI rows d []/\IC.flatten=d/\IC.length<=120/\bP Γ bj [.tup (rows.map HM)]=a5 (.ok (.own,.lst (gT IC))):=by
 have hsz:(20000:Nat)<=cL:=by decide
 have⟨ks,w,z⟩:=s;have A:TM.start [.tup (rows.map HM)] 10=[a5 (.loc,.tup (rows.map HM)),b6,b6,b6,b6,b6,b6,b6,b6,b6]:=by simp[TM.start,Ig,cJ]
 let f:Option (Kd×U):=a5 (.loc,.tup (rows.map HM));let g:Option (Kd×U):=a5 (.own,.HP ks (ks.map (cA (IJ rows rows.length))));let B:Option (Kd×U):=a5 (.own,.lst (bM rows λp=>(cnt rows [] p:Int)));have C:Run (ev Γ (.comp 1 cb .seq [.var 0] [] (.bi .len [.idx (.var 0) (.cst (.int 1))]))) [f,g,b6,b6,b6,b6,b6,b6,b6,b6] (.own,.lst (bM rows λp=>(cnt rows [] p:Int))) [f,g,b6,b6,b6,b6,b6,b6,b6,b6]:=by
  have c:=fj (cond:=aO Γ []) (elt:=ev Γ (.bi .len [.idx (.var 0) (.cst (.int 1))])) (src:=[(.loc,.tup (rows.map HM))]) (st:=[f,g,b6,b6,b6,b6,b6,b6,b6,b6]) trivial .loc (.inl rfl) HM (λr=>.int (r.2.length:Nat)) .loc (λ_=>gb) rows [] (by simp;lia)
   (λy _=>⟨bS (ae (bg (x:=(.loc,HM y)) (af rfl) av trivial rfl) ai) trivial (by rw[fh,df]),aL⟩)
  rw[nC]at c;have e:(rows.map HM).map (λu=>(kE .loc,u))=rows.map λr=>(Kd.loc,HM r):=by rw[ko];rfl
  have e2:(rows.map λr=>U.int (r.2.length:Nat))=bM rows λp=>(cnt rows [] p:Int):=by
   unfold bM;apply N5
   .simp
   .intro i h j;have hi:i<rows.length:=by simpa using h
    have k:told rows i=rows[i].2:=kb (by simp[hi]);have D:cnt rows [] i=rows[i].2.length:=by unfold cnt sD;rw[k];simp
    simp[D]
  rw[e2]at c;show cz (rs:=[(.loc,.tup (rows.map HM))]) (ae (af rfl) ai) trivial (by change a5 _=_;rw[e]) c
 let l:=(i4 rows.length).filter λp=>cK (cnt rows [] p=0);let m:au:=[f,g,B,a5 (.own,.HP [] []),a5 (.own,.lst []),b6,b6,b6,b6,b6]
 have G:Run (ev Γ (.comp 2 bD .Nd [.var 2] [.cmp .eq (.var 1) (.cst (.int 0))] (.var 0))) m (.own,.lst (fm l)) m:=by
  have c:=lU (st:=m) (cond:=aO Γ [.cmp .eq (.var 1) (.cst (.int 0))]) (elt:=ev Γ (.var 0)) (src:=[(.bor 2,.lst (bM rows λp=>(cnt rows [] p:Int)))]) ⟨⟨.own,rfl,rfl⟩,trivial⟩ (λp:Nat=>U.int (p:Nat)) (λp:Nat=>U.int (cnt rows [] p:Int)) (λp:Nat=>U.int (p:Nat)) (λp=>cK (cnt rows [] p=0)) (i4 rows.length) [] (by simp;lia)
   (λy _=>⟨dm (bp (af rfl) av trivial (gf (by rw[Nm];simp))),af rfl⟩)
  rw[nC]at c;have e:((bM rows λp=>(cnt rows [] p:Int)).zipIdx.map λp=>(kE (.bor 2),U.tup [.int p.2,p.1]))=(i4 rows.length).map λp:Nat=>(Kd.loc,U.tup [.int (p:Nat),.int (cnt rows [] p:Int)]):=by
   unfold bM;apply N5
   .simp
   .intro i h j;simp[kE]
  show cz (rs:=[(.bor 2,.lst (bM rows λp=>(cnt rows [] p:Int)))]) (ae (aA rfl) ai) ⟨⟨.own,rfl,rfl⟩,trivial⟩ (by change a5 _=_;rw[e]) c
 have H:LI rows [] l:=⟨trivial,λt k=>by
  have⟨a,b⟩:=LD.mp k;show⟨x4.mp a,by simpa using b⟩,λt r h j=>.inl (LD.mpr ⟨x4.mpr (d4.mp h).1,by simpa using j⟩)⟩
 have⟨d,IC,st',I,J,L,n,N⟩:=jy o q v w fuel [] [] l [] b6 b6 b6 b6 H rfl (hY _) (by unfold fuel;split<;>simp<;>lia);show⟨d,IC,I,J,L,?_⟩;show aG rfl (.inl rfl) A (ax (r:=(.own,.HP ks (ks.map (cA (IJ rows rows.length))))) (aP (ae (af rfl) ai) trivial z) bq (ax C bq (ax (r:=(.own,.HP [] [])) oJ bq (ax (r:=(.own,.lst [])) (dN ai trivial aV (mN _)) bq (ax G bq (uI N (bh (aA n) (nh n))))))))
def v9{IC:List (List (Str×Nat))}(hs:Γ "steps_in_rounds" [.tup (rows.map HM)]=a5 (.ok (.own,.lst (gT IC))))(b:IC.flatten=c)(hl:c.length<=120):bP Γ fk [.tup (rows.map HM)]=a5 (.ok (.own,.lst (c.map stN))):=by
 have hsz:(20000:Nat)<=cL:=by decide
 have g:TM.start [.tup (rows.map HM)] 3=[a5 (.loc,.tup (rows.map HM)),b6,b6]:=by simp[TM.start,Ig,cJ]
 let S:=λ(l:List (Str×Nat)) (o2:Option (Kd×U))=>([a5 (.loc,.tup (rows.map HM)),a5 (.own,.lst (l.map stN)),o2]:au)
 have⟨st',h,a,o2,e⟩:=ei (t:=cb) (is:=[2]) (body:=execs Γ [.ext 1 (.var 2)]) (rs:=[(.own,.lst (gT IC))]) (λl:List (Str×Nat)=>(Kd.loc,U.lst (l.map stN)))
  (λd r st=>d++r=IC/\∃o2:Option (Kd×U),st=S d.flatten o2) (λ_ _ _ _=>trivial) (λd y r st i=>by
   have⟨a,o2,e⟩:=i;subst e;have j:d.flatten.length+y.length<=120:=by
    have:=ľ (λl:List (List (Str×Nat))=>l.flatten.length) a;simp only[ZR,Ê,j0,b]at this;lia
   show⟨S d.flatten (a5 (.loc,.lst (y.map stN))),S (d++[y]).flatten (a5 (.loc,.lst (y.map stN))),gc aK,?_,by rw[<-a];simp,_,rfl⟩;have em:(d++[y]).flatten.map stN=d.flatten.map stN++y.map stN:=by simp
   change Run _ _ _ [a5 (.loc,.tup (rows.map HM)),a5 (.own,.lst ((d++[y]).flatten.map stN)),a5 (.loc,.lst (y.map stN))];rw[em];show CF (k:=.own) (k':=.own) rfl (af rfl) rfl rfl (uF (by rw[df,df];lia) rfl) aT) IC [] (S [] b6) ⟨rfl,b6,rfl⟩
 subst e;have e:(gT IC).map (λu=>(kE .own,u))=IC.map λl=>(Kd.loc,U.lst (l.map stN)):=by unfold gT;rw[ko];rfl
 have f:=aG (Γ:=Γ) (fn:=fk) rfl (.inl rfl) g (ax (r:=(.own,.lst [])) (dN ai trivial aV (mN _)) bq (fA (rs:=[(.own,.lst (gT IC))]) (st1:=S [] b6) (ae (aP (ae (af rfl) ai) trivial hs) ai) trivial rfl rfl (by rw[e];show h) (bh (aA rfl) (nh rfl))));rw[nC,b]at f;show f
end
section
variable{Γ:Tab}{rows:List Row}{names:List Str}
def sF(h:ss.length<64):Js .sorted [(k,.lst (ss.map .str))]=a5 (.own,.lst ((bu ss).map .str)):=by
 change(strsOf (ss.map U.str)).bind _=_;rw[eO];change(if ss.length<64 then _ else _)=_;rw[Ĺ h]
def ir{a:List (Str×Nat)}(hl:a.length<64)(ho:Γ "order" [.tup (rows.map HM)]=a5 (.ok (.own,.lst (a.map stN)))):bP Γ eQ [.tup (rows.map HM)]=a5 (.ok (.own,.lst ((bu (a.map (·.1))).map .str))):=by
 have hsz:(20000:Nat)<=cL:=by decide
 have c:TM.start [.tup (rows.map HM)] 1=[a5 (.loc,.tup (rows.map HM))]:=by simp[TM.start,Ig,cJ]
 have b:=lU (st:=[a5 (.loc,.tup (rows.map HM))]) (cond:=aO Γ []) (elt:=ev Γ (.var 0)) (src:=[(.own,.lst (a.map stN))]) trivial (λs:Str×Nat=>U.str s.1) (λs=>U.int (s.2:Nat)) (λs=>U.str s.1) (λ_=>bD) a [] (by simp;lia) (λy _=>⟨gb,af rfl⟩);rw[nC,ZS.mpr (λ_ _=>rfl)]at b;have e:(a.map stN).map (λu=>(kE .own,u))=a.map λs=>(Kd.loc,U.tup [.str s.1,.int (s.2:Nat)]):=by rw[ko];rfl
 have e2:(a.map λs=>U.str s.1)=(a.map (·.1)).map U.str:=by rw[ko];rfl
 rw[e2]at b;show aG rfl (.inl rfl) c (bh (bS (ae (cz (rs:=[(.own,.lst (a.map stN))]) (ae (aP (ae (af rfl) ai) trivial ho) ai) trivial (by change a5 (Tw (λu=>(kE .own,u)) _)=_;rw[e]) b) ai) trivial (sF (by rw[df];show hl))) jM)
structure VL(prog:List Fn):Prop where
 g:Iy prog "gathered" da
 p:Iy prog "places_that_tell" bc
 n:Iy prog "new_steps" cM
 s:Iy prog "steps_in_rounds" bj
 o:Iy prog "order" fk
structure Kn(rows:List Row)(K:List Str):Prop where
 nd:K.Nodup
 sn:MR rows K
 cl:gp rows (·∈K)
def Kn.perm(a:Kn rows K)(b:Kn rows L):K.Perm L:=same a.nd b.nd a.sn b.sn a.cl b.cl
def Kn.of(s:LI rows a []):Kn rows (a.map (·.1)):=⟨s.nd,s.sn,s.closed⟩
def uL(L:VL prog)(n:Nat)(d:∀r∈rows,fE names r)(w:names.length<=24)(e:rows.length<=120):∃c:List (Str×Nat),LI rows c []/\c.length<=24/\Im prog (n+4) "order" [.tup (rows.map HM)]=a5 (.ok (.own,.lst (c.map stN))):=by
 have j:∀r∈rows,r.2.length<=8:=λr h=>(d r h).Ki;have f:Once rows:=λr h=>(d r h).once;have i:∀r∈rows,r.1∈names:=λr h=>(d r h).word;have k:CG (Im prog (n+1)):=λps hl=>by
  have⟨ks,a,b⟩:=oY (Γ:=Im prog n) hl;show⟨ks,a,(aB L.g _).trans b⟩
 have l:CH (Im prog (n+2)) rows:=by
  have⟨ks,a,b⟩:=iq k f j e;show⟨ks,a,(aB L.p _).trans b⟩
 have m:zq (Im prog (n+2)) rows:=λR K0 vs q=>by
  have⟨st,a,b⟩:=mB (Γ:=Im prog (n+1)) i ⋯ q (K0:=K0) (vs:=vs);show⟨st,a,(aB L.n _).trans b⟩
 have⟨c,IC,s1,s2,s3,s4⟩:=gU f e l m;have t:Im prog (n+3) "steps_in_rounds" [.tup (rows.map HM)]=a5 (.ok (.own,.lst (gT IC))):=(aB L.s _).trans s4;have u:c.length<=24:=by
  have:=jQ (Kn.of s1).nd (L:=names) λx v=>by
   have⟨r,a,b⟩:=kl.mp (s1.wd x v);show b▸i r a
  rw[df]at this;lia
 show⟨c,s1,u,(aB L.o _).trans (v9 t s2 ⋯)⟩
end
end KL
namespace TM
open PySem L2 Ir
section
def lV(h:st[i]?=a5 (a5 (.A',.ob u us))):Run (J1 i) st (u,us) st:=by
 change J1 i st=_;unfold J1;rw[h]
def CI(h:st[i]?=a5 (a5 (.A',.ob u us)))(b:f u us=a5 (u',a))(c:Ig u'=bD)(d:cE a=bD):Run (MH i f) st () (st.set i (a5 (.A',.ob u' a))):=by
 change MH i f st=_;unfold MH;rw[h]
 dsimp only
 rw[b];show Ĺ ⟨c,d⟩
def fq(h:st[i]?=a5 (a5 (.A',.ob u us))):Run (ev Γ (.IS i)) st (.loc,u) st:=aa (lV h) aJ
def EO(h:st[i]?=a5 (a5 (.A',.ob u us))):Run (ev Γ (.K_ i)) st (.loc,.int (us.length:Nat)) st:=aa (lV h) aJ
def ER(h:st[i]?=a5 (a5 (.A',.ob u us)))(a:I0 50 (.lst us)=bD):Run (Ib Γ (.J' i)) st us.isEmpty st:=aa (lV h) (by change(if I0 50 (.lst us)=bD then pure us.isEmpty else M.fail:M Bool) st=_;rw[Ĺ a];rfl)
def ES(h:st[i]?=a5 (a5 (.A',.ob u us)))(a:us[us.length - 1]?=a5 w):Run (ev Γ (.jY i)) st (.loc,w) (st.set i (a5 (.A',.ob u us.dropLast))):=by
 change TM.jY i st=_;unfold TM.jY;rw[h]
 dsimp only
 rw[a]
def oZ(h:st[i]?=a5 (a5 (.A',.ob u us)))(a:Γ f (fS p (.ob u us) (rs.map (·.2)))=a5 (.ok (k,.tup [w,.ob u' b])))(hk:k=.own\/k=.loc)(c:p<=rs.length):Run (fT Γ f p i rs) st (k,w) (st.set i (a5 (.A',.ob u' b))):=by
 change fT Γ f p i rs st=_;unfold fT;rw[h]
 dsimp only
 rw[a];show Ĺ ⟨hk,c⟩
def ET(a:st[i]?=a5 (a5 (.A',.ob u0 us0)))(b:Run (aR Γ es) st r1 st1)(c:Run (aR Γ d) st1 r2 st2)(e:bo (r1++r2) st2)(h:st2[i]?=a5 (a5 (.A',.ob u us)))
  (g:Γ f (fS es.length (.ob u us) ((r1++r2).map (·.2)))=a5 (.ok (k,.tup [w,.ob u' j]))) (hk:k=.own\/k=.loc) (l:es.length<=(r1++r2).length):Run (ev Γ (.IZ f i es d)) st (k,w) (st2.set i (a5 (.A',.ob u' j))) :=
 aa (lV a) (aa (aa b (aa c aJ)) (aa (aU e) (oZ h g hk l)))
def sG(a:st[i]?=a5 (a5 (.A',.ob u0 us0)))(c:Run (aR Γ es) st r1 st1)(d:Run (aR Γ e) st1 r2 st2)(g:bo (r1++r2) st2)(h:st2[i]?=a5 (a5 (.A',.ob u us)))
  (j:Γ f (fS es.length (.ob u us) ((r1++r2).map (·.2)))=a5 (.ok (k,.tup [.bl b,.ob u' l]))) (hk:k=.own\/k=.loc) (m:es.length<=(r1++r2).length):Run (Ib Γ (.IZ f i es e)) st b (st2.set i (a5 (.A',.ob u' l))) :=
 aa (aa (lV a) (aa (aa c (aa d aJ)) (aa (aU g) (oZ h j hk m)))) (cU rfl)
def gq(a:st[i]?=a5 (a5 (.A',.ob u0 us0)))(b:Run (aR Γ es) st rs st1)(c:bo rs st1)(h:st1[i]?=a5 (a5 (.A',.ob u us)))(d:Γ f (.ob u us::rs.map (·.2))=a5 (.ok (k,.tup [w,.ob u' e])))(hk:k=.own\/k=.loc):
  Run (ev Γ (.JK f m i es)) st (k,w) (st1.set i (a5 (.A',.ob u' e))) :=
 aa (lV a) (aa b (aa (aU c) (oZ h d hk (mN _))))
def EU(h:Run (execs Γ ss) (st.set i (a5 (.A',.ob (.tup []) []))) f st1):Run (execs Γ (.J0 i::ss)) st f st1:=dS rfl h
def EV(a:Run (ev Γ e) st r st1)(b:Run (lift r) st1 u' st2)(h:st2[i]?=a5 (a5 (.A',.ob u us)))(c:Ig u'=bD)(d:cE us=bD)(g:Run (execs Γ ss) (st2.set i (a5 (.A',.ob u' us))) f j):Run (execs Γ (.gM i e::ss)) st f j :=
 dS (aa a (aa b (aa (CI h rfl c d) aJ))) g
def EW(h:st[i]?=a5 (a5 (.A',.ob u us)))(hl:us.length<cL)(a:Ig u=bD)(b:cE (us++[u])=bD)(c:Run (execs Γ ss) (st.set i (a5 (.A',.ob u (us++[u])))) f d):Run (execs Γ (.La i::ss)) st f d :=
 dS (aa (CI h (by unfold AD;rw[Ĺ hl]) a b) aJ) c
def EX(e:st[i]?=a5 (a5 (.A',.ob u0 us0)))(g:Run (aR Γ es) st rs st1)(k:bo rs st1)(h:st1[i]?=a5 (a5 (.A',.ob u us)))(l:Γ f (.ob u us::rs.map (·.2))=a5 (.ok (.io,.tup [.str c,.ob u' d])))
  (n:(st1.set i (a5 (.A',.ob u' d)))[j]?=a5 b6) (o:y≠j) (p:Run (execs Γ ss) ((st1.set i (a5 (.A',.ob u' d))).set y (a5 (.loc,.bl bD))) q st2):Run (execs Γ (.MG y f m i es x c j::ss)) st q st2:=by
 have a:Run (mT Γ f i c rs) st1 bD (st1.set i (a5 (.A',.ob u' d))):=by
  change mT Γ f i c rs st1=_;unfold mT;rw[h]
  dsimp only
  rw[l];show Ĺ rfl
 have b:Run (mr y j b6) (st1.set i (a5 (.A',.ob u' d))) .nx ((st1.set i (a5 (.A',.ob u' d))).set y (a5 (.loc,.bl bD))):=by
  change mr y j b6 _=_;unfold mr
  dsimp only
  rw[n];show(Ĺ o).trans rfl
 show dS (aa (lV e) (aa g (aa (aU k) (aa a b)))) p
def bK(a:vs.length=fn.np/\p<fn.np)(hs:aY p vs fn.ns=st0)(h:Run (execs Γ body) st0 f st)(b:PN f=a5 (k,w))(ho:st[p]?=a5 (a5 (.A',.ob u us))):eI Γ fn p body vs=a5 (.ok (k,.tup [w,.ob u us])):=by
 subst hs;unfold eI;rw[Ĺ a,show execs Γ body (aY p vs fn.ns)=_ from h];change(PN f).bind _=_;rw[b];change(OK p st).map _=_;unfold OK;rw[ho];rfl
end
end TM
namespace K
open PySem L2 TM
abbrev top(i:Nat):NB:=if i<1000 then PySem.Challenge.pw_primer_k93_whole_shelf.main.body.getD i (.Pass ⟨0,0,0,0⟩) else match PySem.Challenge.pw_primer_k93_whole_shelf.main.body.getD (i / 1000 - 1) (.Pass ⟨0,0,0,0⟩) with|.ClassDef _ _ _ b _ _ _ _ _ _ _=>b.getD (i % 1000) (.Pass ⟨0,0,0,0⟩)|_=>.Pass ⟨0,0,0,0⟩
abbrev gK:Fn:=⟨"is_stem",1,1,[.ite (.or [.cmp .eq (.var 0) (.cst (.str "")),.cmp .gt (.bi .len [.var 0]) (.Kx "LONGEST_STEM" (.int 8))]) [.ret (.cst (.bl cb))] [],.ret (.bi .all [.comp 1 cb .seq [.var 0] [] (.cmp .isin (.var 0) (.Kx "LETTERS" (.str "abcdefghijklmnopqrstuvwxyz")))])]⟩
abbrev cw:Fn:=⟨"is_later_sense",1,1,[.ret (.cmp .isin (.var 0) (.comp 1 cb .MC [.bin .add (.Kx "FIRST_SENSE" (.int 1)) (.cst (.int 1)),.bin .add (.Kx "LAST_SENSE" (.int 99)) (.cst (.int 1))] [] (.bi .str [.var 0])))]⟩
abbrev gL:Fn:=⟨"is_word",1,1,[.ite (.cmp .HQ (.cst (.str "/")) (.var 0)) [.ret (.call "is_stem" [.var 0])] [],.ret (.and [.call "is_stem" [.call "stem_of" [.var 0]],.call "is_later_sense" [.call "number_of" [.var 0]]])]⟩
abbrev jz:Fn:=⟨"stem_of",1,1,[.ret (.idx (.KS .partition (.var 0) [.cst (.str "/")]) (.cst (.int 0)))]⟩
abbrev gu:Fn:=⟨"number_of",1,1,[.ret (.idx (.KS .partition (.var 0) [.cst (.str "/")]) (.cst (.int 2)))]⟩
abbrev jd:Fn:=⟨"is_row",1,2,[.set 1 (.idx (.var 0) (.cst (.int 1))),.ite (.or [.cmp .gt (.bi .len [.var 1]) (.Kx "MOST_TOLD" (.int 8)),.cmp .lt (.Nf .iB [.var 1]) (.bi .len [.var 1])]) [.ret (.cst (.bl cb))] [],.ret (.and [.call "is_word" [.idx (.var 0) (.cst (.int 0))],.bi .all [.comp 1 cb .seq [.var 1] [] (.call "is_word" [.var 0])]])]⟩
abbrev cn:Fn:=⟨"in_one_order",1,1,[.ret (.tup [.idx (.var 0) (.cst (.int 0)),.bi .tuple [.bi .sorted [.idx (.var 0) (.cst (.int 1))]]])]⟩
abbrev je:Fn:=⟨"alike",2,2,[.ret (.cmp .eq (.call "in_one_order" [.var 0]) (.call "in_one_order" [.var 1]))]⟩
noncomputable abbrev da:Fn:=KL.da
noncomputable abbrev bc:Fn:=KL.bc
noncomputable abbrev cM:Fn:=KL.cM
noncomputable abbrev bj:Fn:=KL.bj
noncomputable abbrev fk:Fn:=KL.fk
noncomputable abbrev eQ:Fn:=KL.eQ
abbrev cV:Fn:=⟨"places_alike",2,2,[.ret (.comp 2 bD .Nd [.var 0] [.call "alike" [.var 1,.var 3]] (.var 0))]⟩
abbrev b_:Fn:=⟨"gained_and_lost",2,6,[.set 2 (.call "learnt" [.var 0]),.set 3 (.call "learnt" [.var 1]),.set 4 (.comp 1 cb .seq [.var 3] [.cmp .HQ (.var 0) (.var 3)] (.var 0)),.set 5 (.comp 1 cb .seq [.var 2] [.cmp .HQ (.var 0) (.var 4)] (.var 0)),.ret (.tup [.var 4,.var 5])]⟩
abbrev zr:Fn:=⟨"Shelf.__init__",1,1,[.bad,.bad]⟩
abbrev eR:Fn:=⟨"Shelf.book",1,1,[.Kk 0,.ret (.IS 0)]⟩
abbrev bT:Fn:=⟨"Shelf.learnt_now",1,1,[.Kk 0,.ret (.call "learnt" [.IS 0])]⟩
abbrev dO:Fn:=⟨"Shelf.deeds",1,1,[.Kk 0,.ret (.K_ 0)]⟩
abbrev dh:Fn:=⟨"Shelf.put",3,4,[.Kk 0,.set 3 (.tup [.var 1,.bi .tuple [.var 2]]),.ite (.or [.not (.call "is_row" [.var 3]),.cmp .ne (.call "places_alike" [.IS 0,.var 3]) (.lst [])]) [.MF "Unfit" (.cst (.str "this is no row, or one alike to it stands there"))] [],.ite (.cmp .ge (.bi .len [.IS 0]) (.Kx "MOST_ROWS" (.int 60))) [.bad] [],.ret (.JK "Shelf.do_deed" "do_deed" 0 [.bin .add (.IS 0) (.tup [.var 3])])]⟩
abbrev eS:Fn:=⟨"Shelf.take",3,4,[.Kk 0,.set 3 (.call "places_alike" [.IS 0,.tup [.var 1,.bi .tuple [.var 2]]]),.ite (.cmp .eq (.var 3) (.lst [])) [.bad] [],.ret (.JK "Shelf.do_deed" "do_deed" 0 [.bin .add (.Ky (.IS 0) [] [.idx (.var 3) (.cst (.int 0))]) (.Ky (.IS 0) [.bin .add (.idx (.var 3) (.cst (.int 0))) (.cst (.int 1))] [])])]⟩
abbrev eT:Fn:=⟨"Shelf.back",1,1,[.Kk 0,.ite (.J' 0) [.bad] [],.ret (.JK "Shelf.turn_to" "turn_to" 0 [.jY 0])]⟩
abbrev cW:Fn:=⟨"Shelf.do_deed",2,2,[.Kk 0,.La 0,.ret (.JK "Shelf.turn_to" "turn_to" 0 [.var 1])]⟩
abbrev cX:Fn:=⟨"Shelf.turn_to",2,3,[.Kk 0,.set 2 (.call "gained_and_lost" [.IS 0,.var 1]),.gM 0 (.var 1),.ret (.var 2)]⟩
noncomputable abbrev ny:Fn:=TM.vR
noncomputable abbrev lW:Fn:=TM.uB
noncomputable abbrev jR:Fn:=TM.oM
abbrev lX:Fn:=⟨"_law_name",2,6,[.set 2 (.cst (.str "abcdefghijklmnopqrstuvwxyz")),.set 3 (.KS .join (.cst (.str "")) [.comp 1 cb .IL [.bin .add (.cst (.int 1)) (.bin .mod (.idx (.var 0) (.cst (.int 0))) (.cst (.int 8)))] [] (.idx (.var 3) (.bin .mod (.idx (.var 1) (.bin .add (.cst (.int 4)) (.var 0))) (.cst (.int 26))))]),.ite (.cmp .gt (.bi .len [.var 1]) (.cst (.int 0))) [.set 4 (.idx (.KS .split (.idx (.var 1) (.bin .mod (.idx (.var 0) (.cst (.int 1))) (.bi .len [.var 1]))) [.cst (.str "/")]) (.cst (.int 0))),.ite (.cmp .eq (.bin .mod (.idx (.var 0) (.cst (.int 2))) (.cst (.int 4))) (.cst (.int 1))) [.set 3 (.Ky (.bin .add (.var 4) (.var 3)) [] [.cst (.int 8)])] [],.ite (.cmp .eq (.bin .mod (.idx (.var 0) (.cst (.int 2))) (.cst (.int 4))) (.cst (.int 2))) [.set 3 (.bin .add (.bin .add (.var 4) (.cst (.str "/"))) (.bi .str [.bin .add (.cst (.int 2)) (.bin .mod (.idx (.var 0) (.cst (.int 3))) (.cst (.int 98)))]))] []] [],.set 5 (.bin .add (.lst [.var 3]) (.comp 1 cb .IL [.cst (.int 40)] [] (.bin .add (.idx (.var 3) (.bin .Kw (.var 0) (.cst (.int 26)))) (.idx (.var 3) (.bin .mod (.var 0) (.cst (.int 26))))))),.ret (.idx (.comp 1 cb .seq [.var 5] [.cmp .HQ (.var 0) (.var 2)] (.var 0)) (.cst (.int 0)))]⟩
noncomputable abbrev jS:Fn:=TM.fNames
noncomputable abbrev lY:Fn:=TM.jP
abbrev dz:Fn:=⟨"_law_learnt",1,5,[.set 1 (.JZ cb),.set 2 (.cst (.bl bD)),.Mi (.var 2) [.set 2 (.cst (.bl cb)),.Ip bD [3,4] .seq [.var 0] [.ite (.and [.cmp .HQ (.var 3) (.var 1),.bi .all [.comp 1 cb .seq [.var 4] [] (.cmp .isin (.var 0) (.var 2))]]) [.put 1 (.var 3) (.cst (.bl bD)),.set 2 (.cst (.bl bD))] []]],.ret (.bi .sorted [.var 1])]⟩
abbrev ft:Fn:=⟨"_law_over",2,7,[.set 2 (.JZ cb),.set 3 (.lst [.var 1]),.Mi (.cmp .gt (.bi .len [.var 3]) (.cst (.int 0))) [.set 4 (.pop 3),.Ip bD [5,6] .seq [.var 0] [.ite (.and [.cmp .isin (.var 4) (.var 6),.cmp .HQ (.var 5) (.var 2)]) [.put 2 (.var 5) (.cst (.bl bD)),.app 3 (.var 5)] []]],.ret (.var 2)]⟩
abbrev dZ:Fn:=⟨"_law_alike",2,2,[.ret (.and [.cmp .eq (.idx (.var 0) (.cst (.int 0))) (.idx (.var 1) (.cst (.int 0))),.cmp .eq (.bi .sorted [.idx (.var 0) (.cst (.int 1))]) (.bi .sorted [.idx (.var 1) (.cst (.int 1))])])]⟩
abbrev cy:Fn:=⟨"_law_told_right",4,9,[.set 4 (.call "_law_learnt" [.var 1]),.set 5 (.call "_law_learnt" [.var 2]),.set 6 (.tup [.comp 1 cb .seq [.var 5] [.cmp .HQ (.var 0) (.var 5)] (.var 0),.comp 1 cb .seq [.var 4] [.cmp .HQ (.var 0) (.var 6)] (.var 0)]),.ite (.cmp .ne (.bi .repr [.var 0]) (.bi .repr [.var 6])) [.ret (.cst (.bl cb))] [],.set 7 (.var 1),.ite (.cmp .gt (.bi .len [.var 2]) (.bi .len [.var 1])) [.set 7 (.var 2)] [],.set 8 (.call "_law_over" [.var 7,.idx (.var 3) (.cst (.int 0))]),.ret (.bi .all [.comp 1 cb .seq [.bin .add (.idx (.var 6) (.cst (.int 0))) (.idx (.var 6) (.cst (.int 1)))] [] (.or [.cmp .eq (.var 0) (.idx (.var 4) (.cst (.int 0))),.cmp .isin (.var 0) (.var 9)])])]⟩
abbrev cY:Fn:=⟨"_law_stands",3,5,[.Kk 0,.set 3 (.JK "Shelf.book" "book" 0 []),.set 4 (.JK "Shelf.learnt_now" "learnt_now" 0 []),.ite (.or [.cmp .ne (.bi .repr [.var 3]) (.bi .repr [.var 1]),.cmp .ne (.bi .repr [.var 4]) (.bi .repr [.call "_law_learnt" [.var 1]]),.cmp .ne (.bi .repr [.JK "Shelf.deeds" "deeds" 0 []]) (.bi .repr [.var 2])]) [.ret (.cst (.bl cb))] [],.app 4 (.cst (.str "a")),.ret (.cst (.bl bD))]⟩
abbrev cC:Fn:=⟨"_law_refused",2,4,[.Kk 0,.set 2 (.cst (.bl cb)),.MG 2 "Shelf.put" "put" 0 [.idx (.var 1) (.cst (.int 0)),.bi .list [.idx (.var 1) (.cst (.int 1))]] "PrimerError" "Unfit" 3,.ret (.var 2)]⟩
abbrev dP:Fn:=⟨"_law_done",4,7,[.Kk 1,.set 4 (.bin .mod (.idx (.var 0) (.cst (.int 0))) (.cst (.int 4))),.ite (.and [.cmp .eq (.var 4) (.cst (.int 0)),.cmp .gt (.bi .len [.var 2]) (.cst (.int 0))]) [.set 5 (.idx (.var 2) (.bin .mod (.idx (.var 0) (.cst (.int 1))) (.bi .len [.var 2]))),.set 6 (.bi .tuple [.comp 1 cb .seq [.var 2] [.cmp .ne (.var 0) (.var 6)] (.var 0)]),.ret (.tup [.JK "Shelf.take" "take" 1 [.idx (.var 5) (.cst (.int 0)),.bi .list [.Ng (.idx (.var 5) (.cst (.int 1)))]],.var 6,.var 5])] [],.ret (.tup [.JK "Shelf.put" "put" 1 [.idx (.var 3) (.cst (.int 0)),.bi .list [.idx (.var 3) (.cst (.int 1))]],.bin .add (.var 2) (.tup [.var 3]),.var 3])]⟩
abbrev nz:Fn:=⟨"law",1,13,[.set 1 (.call "_law_drawn" [.call "_law_cell" [.var 0,.cst (.int 0)],.cst (.int 4)]),.set 2 (.call "_law_names" [.var 0,.cst (.int 1),.bin .add (.cst (.int 1)) (.bin .mod (.idx (.var 1) (.cst (.int 0))) (.cst (.int 14)))]),.J0 3,.set 4 (.lst [.tup []]),.set 5 (.lst []),.ite (.not (.IZ "_law_stands" 3 [] [.tup [],.cst (.int 0)])) [.ret (.cst (.bl cb))] [],.Ip cb [6] .IL [.bin .mod (.idx (.var 1) (.cst (.int 1))) (.cst (.int 41))] [.set 7 (.call "_law_drawn" [.call "_law_cell" [.var 0,.bin .add (.cst (.int 20)) (.var 6)],.cst (.int 16)]),.set 8 (.tup [.idx (.var 2) (.bin .mod (.idx (.var 7) (.cst (.int 0))) (.bi .len [.var 2])),.call "_law_told" [.var 7,.var 2]]),.set 9 (.idx (.var 4) (.neg (.cst (.int 1)))),.ite (.and [.cmp .eq (.bin .mod (.idx (.var 7) (.cst (.int 11))) (.cst (.int 5))) (.cst (.int 1)),.cmp .gt (.bi .len [.var 5]) (.cst (.int 0))]) [.set 10 (.JK "Shelf.back" "back" 3 []),.exp (.pop 4),.ite (.not (.call "_law_told_right" [.var 10,.var 9,.idx (.var 4) (.neg (.cst (.int 1))),.pop 5])) [.ret (.cst (.bl cb))] []] [.ite (.bi .any [.comp 1 cb .seq [.var 9] [] (.call "_law_alike" [.var 9,.var 0])]) [.ite (.not (.IZ "_law_refused" 3 [] [.var 8])) [.ret (.cst (.bl cb))] []] [.K' [10,11,12] (.IZ "_law_done" 3 [.Ky (.var 7) [.cst (.int 12)] []] [.var 9,.var 8]),.app 4 (.var 11),.app 5 (.var 12),.ite (.not (.call "_law_told_right" [.var 10,.var 9,.var 11,.var 12])) [.ret (.cst (.bl cb))] []]],.ite (.not (.IZ "_law_stands" 3 [] [.idx (.var 4) (.neg (.cst (.int 1))),.bi .len [.var 5]])) [.ret (.cst (.bl cb))] []],.Mi (.cmp .gt (.bi .len [.var 5]) (.cst (.int 0))) [.set 9 (.pop 4),.ite (.not (.call "_law_told_right" [.JK "Shelf.back" "back" 3 [],.var 9,.idx (.var 4) (.neg (.cst (.int 1))),.pop 5])) [.ret (.cst (.bl cb))] [],.ite (.not (.IZ "_law_stands" 3 [] [.idx (.var 4) (.neg (.cst (.int 1))),.bi .len [.var 5]])) [.ret (.cst (.bl cb))] []],.ret (.cst (.bl bD))]⟩
abbrev prog:List Fn:=[gK,cw,gL,jz,gu,jd,cn,je,da,bc,cM,bj,fk,eQ,cV,b_,zr,eR,bT,dO,dh,eS,eT,cW,cX,ny,lW,jR,lX,jS,lY,dz,ft,dZ,cy,cY,cC,dP,nz]
abbrev ck:Ck:=⟨(prog.filter λf=>f.io.isNone&&f.ob.isNone&&cK (f.name≠("Shelf.__init__":Str))).map (·.name),[("FIRST_SENSE",(.int 1)),("LAST_SENSE",(.int 99)),("LETTERS",(.str "abcdefghijklmnopqrstuvwxyz")),("LONGEST_STEM",(.int 8)),("MOST_ROWS",(.int 60)),("MOST_TOLD",(.int 8))],[],["Unfit"],[("Unfit","PrimerError")],[("Shelf.book",0,"book"),("Shelf.learnt_now",0,"learnt_now"),("Shelf.deeds",0,"deeds"),("Shelf.put",0,"put"),("Shelf.take",0,"take"),("Shelf.back",0,"back"),("Shelf.do_deed",0,"do_deed"),("Shelf.turn_to",0,"turn_to"),("_law_stands",0,""),("_law_refused",0,""),("_law_done",1,"")]⟩
end K
namespace TM
open PySem L2 Ir
def word_short{x:Str}(h:bw x.cps.toList):x.length<=20/\∀c∈x.cps.toList,c<16 ^ 8:=by
 have g:∀n:_root_.Fin 100,∀c∈(eW ((n:Nat):Int)).cps.toList,c<16 ^ 8:=by decide +kernel
 rw[len_list];rcases h with h|⟨a,b,k,e,h,k2,i,f⟩
 .have⟨j,l,d⟩:=(bU _).mp h;show⟨⋯,λc hc=>by have:=d c hc;lia⟩
 .have⟨j,l,d⟩:=(bU _).mp h;have hl:=jv (k:=k) ⋯ i;rw[len_list,f]at hl;rw[e];show⟨by simp;lia,λc hc=>?_⟩;rcases ke.mp hc with hc|hc
  .have:=d c hc;lia
  .rcases gj.mp hc with rfl|hc
   .decide
   .rw[<-f]at hc;have:=g ⟨k.toNat,⋯⟩ c;have m:(((k.toNat:Nat)):Int)=k:=by lia
    rw[show(((⟨k.toNat,⋯⟩:_root_.Fin 100):Nat):Int)=k from m]at this;show this hc
abbrev Rp(n b:Nat)(u:U):Prop:=∃d,gP u=a5 d/\d.showable=bD/\d.depth<=n/\d.leavesShort 8=bD/\d.bulk<=b
def o_(h:x.length<=20/\∀c∈x.cps.toList,c<16 ^ 8):Rp 0 20 (.str x):=by
 show⟨.str x,rfl,by simp[RJ],by simp[SG],?_,?_⟩
 .simp only[PF,ux,ĸ];show h.2
 .simp only[Te];show h.1
theorem pe:∀{us:List U},(∀u∈us,Rp n b u)->∃ds,jn us=a5 ds/\Zx ds=bD/\À ds<=n/\YW 8 ds=bD/\Ï ds<=(b+1) * us.length
 |[],_=>⟨[],rfl,rfl,mN _,rfl,mN _⟩
 |u::us,h=>by
  have⟨ds,e,a,i,c,j⟩:=pe λv g=>h v (ki _ g);have⟨d,f,b1,k,b3,b4⟩:=h u mh;show⟨d::ds,?_,?_,?_,?_,?_⟩
  .change(gP u).bind (λd=>(jn us).map (d::·))=_;rw[f,e];rfl
  .simp only[Zx,a,b1,þ]
  .simp only[À];lia
  .simp only[YW,c,b3,þ]
  .simp only[Ï,lx,Nat.mul_add];lia
def zt(h:∀u∈us,Rp n b u):Rp (n+1) ((b+1) * us.length) (.tup us):=by
 have⟨ds,e,a,f,c,d⟩:=pe h;show⟨.tuple ds,?_,by simp only[RJ];show a,by simp only[SG];lia,by simp only[PF];show c,by simp only[Te];show d⟩;change(jn us).map _=_;rw[e];rfl
def uM(h:Rp n b u)(a:n<=m)(e:b<=c):Rp m c u:=by
 have⟨d,f,b1,g,b3,b4⟩:=h;show⟨d,f,b1,⋯,b3,⋯⟩
def sH(l:Bool)(h:∀u∈us,Rp n b u)(d:n<=40)(f:(b+1) * us.length<=2 ^ 20):∃s:Str,∀k,Js .repr [(k,if l=bD then .lst us else .tup us)]=a5 (.loc,.str s):=by
 have⟨ds,e,a,g,c,i⟩:=pe h;cases l with
 |false =>
  show⟨(PyData.tuple ds).shown,λk=>?_⟩;change(gP (.tup us)).bind _=_;have e:gP (.tup us)=a5 (.tuple ds):=by change(jn _).map _=_;rw[e];rfl
  rw[e];change(if _/\_/\_/\_ then _ else _)=_;rw[Ĺ ⟨by simp only[RJ];show a,by simp only[SG];lia,YF (B:=8) ⋯ ⋯ (by simp only[PF];show c) (by simp only[Te];lia),rfl⟩]
 |true =>
  show⟨(PyData.list ds).shown,λk=>?_⟩;change(gP (.lst us)).bind _=_;have e:gP (.lst us)=a5 (.list ds):=by change(jn _).map _=_;rw[e];rfl
  rw[e];change(if _/\_/\_/\_ then _ else _)=_;rw[Ĺ ⟨by simp only[RJ];show a,by simp only[SG];lia,YF (B:=8) ⋯ ⋯ (by simp only[PF];show c) (by simp only[Te];lia),rfl⟩]
def EY(e:r.2.length<=8)(a:bw r.1.cps.toList)(c:∀x∈r.2,bw x.cps.toList):Rp 2 400 (HM r):=by
 have h:Rp 1 168 (.tup (r.2.map .str)):=uM (zt (n:=0) (b:=20) λu hu=>by
  have⟨x,d,rfl⟩:=kl.mp hu;show o_ (word_short (c x d))) (hY _) (by rw[df];lia)
 show uM (zt (n:=1) (b:=168) (us:=[.str r.1,.tup (r.2.map .str)]) λu hu=>?_) (hY _) (by change 169 * 2<=400;lia);rcases gj.mp hu with rfl|hu
 .show uM (o_ (word_short a)) ⋯ ⋯
 .rw[nc.mp hu];show h
def BU(x:Str)(c:Nat):OI ⟨#[c]⟩ x=cK (c∈x.cps.toList):=PySem.StrLaws.found_one x c
def BV(a:0<=i)(b:i<=99):Js .str [(k,.int i)]=a5 (.loc,.str (eW i)):=by
 simp only[Js,fR,xE];rw[Ĺ (by
  by_cases hz:i.natAbs=0
  .rw[hz];decide
  .have:i.natAbs<2 ^ 7:=by lia
   have:=(ZQ hz).mpr this;lia)]
 rfl
def v_{ss:List Str}(h:ss.Nodup)(hl:ss.length<=100):vk .iB [(k,.tup (ss.map .str))]=a5 (.loc,.int (ss.length:Nat)):=by
 have e:pW (.tup (ss.map U.str))=a5 (br ss):=by
  change(strsOf (ss.map U.str)).bind _=_;rw[eO];change(if ss.length+1<ND then _ else _)=_;rw[Ĺ (by change ss.length+1<4096;lia)]
 change(pW (.tup (ss.map U.str))).map _=_;rw[e];have b:=kN ss;have c:=lL h λx a=>(rn ss x).mpr a;change a5 (Kd.loc,U.int ((br ss).length:Nat))=_;rw[show(br ss).length=ss.length by lia]
def EZ(h:∀u∈us,Rp n b u):Rp (n+1) ((b+1) * us.length) (.lst us):=by
 have⟨ds,e,a,f,c,d⟩:=pe h;show⟨.list ds,?_,by simp only[RJ];show a,by simp only[SG];lia,by simp only[PF];show c,by simp only[Te];show d⟩;change(jn us).map _=_;rw[e];rfl
end TM
namespace K
open PySem L2 TM Ir
section
def E1{bs:List Bool}(h:∀b∈bs,b=bD):Js .all [(k,.lst (bs.map .bl))]=a5 (.loc,.bl bD):=by
 rw[uJ];congr 3
 rw[ux];show h
def zu(h:dW x.cps.toList=bD):bP Γ gK [.str x]=a5 (.ok (.loc,.bl bD)):=by
 have hsz:(1000:Nat)<=cL:=by decide
 have⟨a,d,e⟩:=(bU _).mp h;have hl:x.length<=8:=by rw[len_list];show d
 have f:x≠"":=λz=>by rw[z]at a;show absurd a (by decide)
 let S:au:=[a5 (.loc,.str x)]
 have g:Run (Ib Γ (.or [.cmp .eq (.var 0) (.cst (.str "")),.cmp .gt (.bi .len [.var 0]) (.Kx "LONGEST_STEM" (.int 8))])) S cb S:=by
  show BG (qj (bp (af rfl) av trivial ?_) (uo (bp (bS (rs:=[(.loc,.str x)]) (r:=(.loc,.int (x.length:Nat))) (ae (af rfl) ai) trivial ?_) ng trivial (fC (Ļ ⋯)))))
  .rw[ka,Ļ f]
  .change(Ay (.str x)).map _=_;change(if x.length<=cL then a5 x.length else b6).map _=_;rw[Ĺ ⋯];rfl
 have b:=fj (cond:=aO Γ []) (elt:=ev Γ (.cmp .isin (.var 0) (.Kx "LETTERS" (.str "abcdefghijklmnopqrstuvwxyz")))) (src:=[(.loc,.str x)]) (st:=S) trivial .loc (.inl rfl) (λc:Nat=>U.str ⟨#[c]⟩) (λ_=>U.bl bD) .loc (λ_=>gb) x.cps.toList [] (by rw[Tb,VV];lia)
  (λc i=>⟨f_ (c:=bD) (af rfl) ng trivial (by
   change a5 (OI ⟨#[c]⟩ "abcdefghijklmnopqrstuvwxyz")=_;have:=ra "abcdefghijklmnopqrstuvwxyz" (by decide +kernel) c;rw[show OI ⟨#[c]⟩ "abcdefghijklmnopqrstuvwxyz"=low c from this];have:=e c i;simp[low,this.1,this.2]),aL⟩)
 rw[nC]at b;have j:Js .all [(.own,.lst (x.cps.toList.map λ_=>U.bl bD))]=a5 (.loc,.bl bD):=by
  have:=E1 (k:=.own) (bs:=x.cps.toList.map λ_=>bD) (by simp);rw[ko]at this;show this
 show aG rfl (.inr rfl) (show TM.start [.str x] 1=S from rfl) (bL g (λz=>by cases z) λ_=>bh (bS (ae (cz (rs:=[(.loc,.str x)]) (ae (af rfl) ai) trivial rfl b) ai) trivial j) bZ)
def wa(b:2<=k)(d:k<=99):bP Γ cw [.str (eW k)]=a5 (.ok (.loc,.bl bD)):=by
 have hsz:(1000:Nat)<=cL:=by decide
 let S:au:=[a5 (.loc,.str (eW k))]
 have a:=fj (cond:=aO Γ []) (elt:=ev Γ (.bi .str [.var 0])) (src:=[(.loc,.int (1+1)),(.loc,.int (99+1))]) (st:=S) trivial .loc (.inl rfl) (λi:Nat=>U.int (2+(i:Int))) (λi=>U.str (eW (2+(i:Int)))) .loc (λ_=>gb) (i4 98) [] (by simp;lia)
  (λi hi=>⟨bS (ae (af rfl) ai) trivial (BV ⋯ (by have:=x4.mp hi;lia)),aL⟩)
 rw[nC]at a;have e:((i4 98).map λi:Nat=>U.str (eW (2+(i:Int))))=((i4 98).map λi:Nat=>eW (2+(i:Int))).map U.str:=by rw[ko];rfl
 rw[e]at a;show aG rfl (.inr rfl) (show TM.start [.str (eW k)] 1=S from rfl) (bh (f_ (c:=bD) (af rfl) (cz (rs:=[(.loc,.int (1+1)),(.loc,.int (99+1))]) (ae (cm ng av trivial d7) (ae (cm ng av trivial d7) ai)) trivial rfl a) trivial ?_) bZ);change bG .isin (.str (eW k)) (.lst (((i4 98).map λi:Nat=>eW (2+(i:Int))).map U.str))=_;rw[GU,ļ];show kl.mpr ⟨(k - 2).toNat,x4.mpr ⋯,by rw[show(2:Int)+((k - 2).toNat:Nat)=k by lia]⟩
def zv(a:fn=⟨fn.name,1,1,[.ret (.idx (.KS .partition (.var 0) [.cst (.str "/")]) (.cst (.int n)))]⟩)(hl:x.length<=1000)(h:Iq [U.str (ti x "/").1,.str (ti x "/").2.1,.str (ti x "/").2.2] n=a5 (.str y)):bP Γ fn [.str x]=a5 (.ok (.loc,.str y)):=by
 have hsz:(1000:Nat)<=cL:=by decide
 have b:jX .partition (.str x) [(.loc,.str "/")]=a5 (.loc,.tup [.str (ti x "/").1,.str (ti x "/").2.1,.str (ti x "/").2.2]):=by
  change(if (S7 "/"==0)=cb/\x.length<=cL then _ else _)=_;rw[Ĺ ⟨by decide,⋯⟩]
 rw[a];show aG (st0:=[a5 (.loc,.str x)]) rfl (.inr rfl) rfl (bh (bg (ui (af rfl) (ae av ai) trivial b) av trivial (kG h)) bZ)
abbrev pf(Γ:Tab):Prop:=∀x:Str,bw x.cps.toList->Γ "is_word" [.str x]=a5 (.ok (.loc,.bl bD))
def zw(f:∀x:Str,dW x.cps.toList=bD->Γ "is_stem" [.str x]=a5 (.ok (.loc,.bl bD)))(i:∀k:Int,2<=k->k<=99->Γ "is_later_sense" [.str (eW k)]=a5 (.ok (.loc,.bl bD)))
    (hs:∀x y:Str,x.length<=1000->(ti x "/").1=y->Γ "stem_of" [.str x]=a5 (.ok (.loc,.str y))) (d:∀x y:Str,x.length<=1000->(ti x "/").2.2=y->Γ "number_of" [.str x]=a5 (.ok (.loc,.str y)))
 (h:bw x.cps.toList):bP Γ gL [.str x]=a5 (.ok (.loc,.bl bD)):=by
  have hl:x.length<=11:=by rw[len_list];show h.len.2
  let S:au:=[a5 (.loc,.str x)]
  have c:Run (Ib Γ (.cmp .HQ (.cst (.str "/")) (.var 0))) S (!cK (47∈x.cps.toList)) S:=bp av (af rfl) trivial (by
    change(a5 (OI "/" x)).map _=_;rw[show OI "/" x=cK (47∈x.cps.toList) from BU x 47];rfl)
  rcases h with h|⟨a,b,k,e,h,k2,j,l⟩
  . have d:47∉x.cps.toList:=iD h
    rw[Ļ d]at c;show aG rfl (.inr rfl) (show TM.start [.str x] 1=S from rfl) (yT c (bh (aP (ae (af rfl) ai) trivial (f x h)) bZ))
  . rw[ļ (by rw[e];simp)]at c
    have g:=Ir.Al e (iD h);have m:(⟨b.toArray⟩:Str)=eW k:=TM.iE (by simpa using l.symm);have n:=f ⟨a.toArray⟩ (by simpa using h);have o:=hs x ⟨a.toArray⟩ ⋯ (by rw[show("/":Str)=⟨#[47]⟩ from rfl,g]);have q:=d x (eW k) ⋯ (by rw[show("/":Str)=⟨#[47]⟩ from rfl,g];show m);show aG rfl (.inr rfl) (show TM.start [.str x] 1=S from rfl) (bL c (λz=>by cases z) λ_=>bh (yR (si (p:=bD) (aP (ae (aP (ae (af rfl) ai) trivial o) ai) trivial n) (by rw[Ĺ rfl];show sg (aP (ae (aP (ae (af rfl) ai) trivial q) ai) trivial (i k k2 j))))) bZ)
def wb(c:pf Γ){ss:List Str}(hs:∀x∈ss,bw x.cps.toList)(hl:ss.length<=1000)(h:Run (ev Γ e) st (k,u) st)(d:bo [(k,u)] st)(hk:k'=.loc\/k'=.any)(b:KA .seq [(k,u)]=a5 (ss.map λx=>(k',U.str x))):Run (ev Γ (.bi .all [.comp 1 cb .seq [e] [] (.call "is_word" [.var 0])])) st (.loc,.bl bD) st:=by
 have hsz:(1000:Nat)<=cL:=by decide
 have a:=fj (cond:=aO Γ []) (elt:=ev Γ (.call "is_word" [.var 0])) (src:=[(k,u)]) (st:=st) d k' hk U.str (λ_=>U.bl bD) .loc (λ_=>gb) ss [] (by simp;lia)
  (λx a=>by
   rcases hk with rfl|rfl
   .show⟨aP (ae (af rfl) ai) trivial (c x (hs x a)),aL⟩
   .show⟨aP (ae (bA rfl) ai) trivial (c x (hs x a)),aL⟩)
 rw[nC]at a;have f:Js .all [(.own,.lst (ss.map λ_=>U.bl bD))]=a5 (.loc,.bl bD):=by
  have:=E1 (k:=.own) (bs:=ss.map λ_=>bD) (by simp);rw[ko]at this;show this
 show bS (ae (cz (rs:=[(k,u)]) (ae h ai) d b a) ai) trivial f
def BW(a:pf Γ)(i:r.2.length<=8)(b:r.2.Nodup)(c:bw r.1.cps.toList)(d:∀x∈r.2,bw x.cps.toList):bP Γ jd [HM r]=a5 (.ok (.loc,.bl bD)):=by
 have hsz:(1000:Nat)<=cL:=by decide
 have e:TM.start [HM r] 2=[a5 (.loc,HM r),b6]:=by simp[TM.start,dy]
 let S:au:=[a5 (.loc,HM r),a5 (.loc,.tup (r.2.map .str))]
 have g:Run (Ib Γ (.or [.cmp .gt (.bi .len [.var 1]) (.Kx "MOST_TOLD" (.int 8)),.cmp .lt (.Nf .iB [.var 1]) (.bi .len [.var 1])])) S cb S:=by
  have gl:Run (ev Γ (.bi .len [.var 1])) S (.loc,.int (r.2.length:Nat)) S:=by
   have h:=bS (Γ:=Γ) (st:=S) (f:=.len) (es:=[.var 1]) (ae (af rfl) ai) trivial (fh (xs:=r.2.map U.str));rw[df]at h;show h
  show BG (qj (bp gl ng trivial (fC (Ļ ⋯))) (uo (bp (GB (ae (af rfl) ai) trivial (v_ b ⋯)) gl trivial (yX (Ļ ⋯)))))
 show aG rfl (.inr rfl) e (ax (bg (x:=(.loc,HM r)) (af rfl) av trivial rfl) aK (bL g (λz=>by cases z) λ_ =>
  bh (yR (si (p:=bD) (aP (ae (bg (x:=(.loc,HM r)) (af rfl) av trivial rfl) ai) trivial (a r.1 c)) (by rw[Ĺ rfl];show sg (wb a d ⋯ (af rfl) trivial (.inl rfl) (by change a5 _=_;rw[ko];rfl))))) bZ))
def BX(h:r.2.length<64):bP Γ cn [HM r]=a5 (.ok (.loc,HM (keyOf r))):=by
 have a:=sorted_strs (k:=.loc) (ss:=r.2) h;have b:iO (.loc,HM r) (.int 0)=a5 (.loc,.str r.1):=rfl;have c:iO (.loc,HM r) (.int 1)=a5 (.loc,.tup (r.2.map .str)):=rfl;apply aG (st0:=[a5 (.loc,HM r)]) rfl (.inr rfl) (by simp[TM.start,dy,cn])
 repeat' (first|show b|show c|show a|show(by decide:(2:Nat)<=cL)|sizeOf_list_dec)
end
end K
namespace K
open PySem L2 TM Ir Od KL
section
variable{Γ:Tab}{rows:List Row}{names:List Str}{st:au}
def zx(h:st[i]?=a5 (a5 (.loc,.bl b))):Run (Ib Γ (.var i)) st b st:=aa (gZ h) (cU rfl)
abbrev BY:List TM.S:=[.ite (.and [.cmp .HQ (.var 3) (.var 1),.bi .all [.comp 1 cb .seq [.var 4] [] (.cmp .isin (.var 0) (.var 2))]]) [.put 1 (.var 3) (.cst (.bl bD)),.set 2 (.cst (.bl bD))] []]
structure Lk(rows:List Row)(K:List Str):Prop where
 nd:K.Nodup
 snd:MR rows K
 OR:∀x∈K,x∈rows.map (·.1)
abbrev lS(rows:List Row)(K:List Str)(vs:List U)(b:Bool)(o3 o4:Option (Kd×U)):au:=[a5 (.loc,.tup (rows.map HM)),a5 (.own,.HP K vs),a5 (.loc,.bl b),o3,o4]
def Lk.len(x:Lk rows K):K.length<=rows.length:=by
 have:=jQ x.nd x.OR
 rwa [df]at this
def Lk.add(x:Lk rows K)(d:r∈rows)(f:r.1∉K)(g:∀y∈r.2,y∈K):Lk rows (K++[r.1]):=by
 show⟨?_,λC c y hy=>?_,λy hy=>?_⟩
 .rw[tA];show⟨x.nd,by simp,λa h b i e=>?_⟩;have:b=r.1:=by simpa using i
  subst this;show f (e▸h)
 .rcases ke.mp hy with hy|hy
  .show x.snd C c y hy
  .have:y=r.1:=by simpa using hy
   subst this;show c r d λz hz=>x.snd C c z (g z hz)
 .rcases ke.mp hy with hy|hy
  .show x.OR y hy
  .have:y=r.1:=by simpa using hy
   subst this;show kl.mpr ⟨r,d,rfl⟩
def zy(H:∀r∈rows,r.2.length<=8)(B:rows.length<=100)(x:Lk rows K0)(vs:List U)(o3 o4:Option (Kd×U)):∃(f:List Str) (s:List U) (b:Bool) (u v:Option (Kd×U)),Lk rows f/\(b=bD->K0.length<f.length)/\(b=cb->f=K0/\gp rows (·∈K0)) /\
  Run (forM bD [3,4] (execs Γ BY) [(.loc,.tup (rows.map HM))] (rows.map λr=>(Kd.loc,HM r))) (lS rows K0 vs cb o3 o4) .nx (lS rows f s b u v):=by
 have hsz:(20000:Nat)<=cL:=by decide
 obtain⟨st1,I,_,f,s,b,u,v,e,g,m,c⟩:=ei (t:=bD) (is:=[3,4]) (body:=execs Γ BY) (rs:=[(.loc,.tup (rows.map HM))]) (λr:Row=>(Kd.loc,HM r))
  (λd r st=>d++r=rows/\∃(K:List Str) (vs:List U) (b:Bool) (o3 o4:Option (Kd×U)),st=lS rows K vs b o3 o4/\Lk rows K/\(b=bD->K0.length<K.length)/\(b=cb->K=K0/\∀r∈d,(∀y∈r.2,y∈K0)->r.1∈K0)) (λ_ _ _ _=>trivial) (λd a r st J=>by
   have⟨z,K,vs,b,o3,o4,e,g,m,c⟩:=J;subst e;have C:a∈rows:=by rw[<-z];simp
   have L:=H a C;have N:=g.len;let n:Option (Kd×U):=a5 (.loc,.str a.1);let o:Option (Kd×U):=a5 (.loc,.tup (a.2.map .str));have p:Run (Ib Γ (.and [.cmp .HQ (.var 3) (.var 1),.bi .all [.comp 1 cb .seq [.var 4] [] (.cmp .isin (.var 0) (.var 2))]])) (lS rows K vs b n o) (!cK (a.1∈K)&&a.2.all λy=>cK (y∈K)) (lS rows K vs b n o) :=
    jL (lP (bp (af rfl) (aA rfl) ⟨⟨.own,rfl,rfl⟩,trivial⟩ gI) λ_=>dm (zb (v7 (j:=1) (k:=.loc) (w:=.HP K vs) (.inl rfl) ⋯ (af rfl) (.inr rfl) λ_=>zj)))
   have D:Run (c7 bD [3,4] (.loc,HM a)) (lS rows K vs b o3 o4) () (lS rows K vs b n o):=nu (.inl rfl);cases i:(!cK (a.1∈K)&&a.2.all λy=>cK (y∈K)) with
   |false =>
    rw[i]at p;show⟨_,_,D,bL p (λh=>by cases h) λ_=>aT,by rw[<-z];simp,K,vs,b,_,_,rfl,g,m,λA=>⟨(c A).1,λl IU hz=>?_⟩⟩;rcases ke.mp IU with IU|IU
    .show(c A).2 l IU hz
    .have:l=a:=by simpa using IU
     subst this;rw[<-(c A).1]at hz ⊢;by_cases G:l.1∈K
     .show G
     .have:(!cK (l.1∈K)&&l.2.all λy=>cK (y∈K))=bD:=by
       rw[Ļ G];simpa using hz
      rw[this]at i;cases i
   |true =>
    rw[i]at p;have q:=i;simp only[b8,uk,decide_eq_false_iff_not,ux,ĸ]at q;show⟨_,lS rows (K++[a.1]) (vs++[.bl bD]) bD n o,D,bL p (λ_=>?_) (λh=>by cases h),by rw[<-z];simp,K++[a.1],_,bD,_,_,rfl,g.add C q.1 q.2,λ_=>?_,λh=>by cases h⟩
    .show uE (k:=.own) (rv:=(.loc,.bl bD)) (rk:=(.loc,.str a.1)) av rfl (af rfl) (aE aL (aE aL aV)) rfl rfl (kf ⋯ q.1) (ax av aK aT)
    .rw[j0,w6];cases b with
     |true=>have:=m rfl;lia
     |false=>rw[(c rfl).1];lia) rows [] (lS rows K0 vs cb o3 o4) ⟨rfl,K0,vs,cb,o3,o4,rfl,x,(λh=>by cases h),λ_=>⟨rfl,λr B=>by cases B⟩⟩
 subst e;rw[nC]at c;show⟨f,s,b,u,v,g,m,c,I⟩
theorem zA(j:∀r∈rows,r.2.length<=8)(k:rows.length<=100):∀(f:Nat) (K0:List Str) (vs:List U) (o3 o4:Option (Kd×U)),Lk rows K0->rows.length - K0.length+2<=f ->
  ∃(a:List Str) (c:List U) (d g:Option (Kd×U)),Lk rows a/\gp rows (·∈a)/\Run (fU (Ib Γ (.var 2)) (execs Γ [.set 2 (.cst (.bl cb)),.Ip bD [3,4] .seq [.var 0] BY]) f) (lS rows K0 vs bD o3 o4) .nx (lS rows a c cb d g)
 |0,_,_,_,_,_,h=>by lia
 |f+1,K0,vs,o3,o4,x,h=>by
  have⟨a,c,b,d,g,i,m,n,o⟩:=zy (Γ:=Γ) j k x vs o3 o4;have e2:(rows.map HM).map (λu=>(kE .loc,u))=rows.map λr=>(Kd.loc,HM r):=by rw[ko];rfl
  have l:Run (execs Γ [.set 2 (.cst (.bl cb)),.Ip bD [3,4] .seq [.var 0] BY]) (lS rows K0 vs bD o3 o4) .nx (lS rows a c b d g) :=
   ax av aK (fA (rs:=[(.loc,.tup (rows.map HM))]) (st1:=lS rows K0 vs cb o3 o4) (ae (af rfl) ai) trivial (by change a5 (Tw (λu=>(kE .loc,u)) _)=_;rw[e2]) rfl o aT)
  cases b with
  |false =>
   have⟨e,p⟩:=n rfl;subst e;cases f with
   |zero=>lia
   |succ f=>show⟨a,c,d,g,i,p,v5 (zx rfl) l (uH (zx rfl))⟩
  |true =>
   have:=m rfl;have:=i.len;have⟨q,s,t,v,w,y,z⟩:=zA j k f a c d g i ⋯;show⟨q,s,t,v,w,y,v5 (zx rfl) l z⟩
def ir(e:∀r∈rows,r.2.length<=8)(f:rows.length<=100)(g:∀r∈rows,r.1∈names)(k:names.length<64):∃L:List Str,L.Nodup/\MR rows L/\gp rows (·∈L)/\bP Γ dz [.tup (rows.map HM)]=a5 (.ok (.own,.lst ((bu L).map .str))):=by
 have h:TM.start [.tup (rows.map HM)] 5=[a5 (.loc,.tup (rows.map HM)),b6,b6,b6,b6]:=by simp[TM.start,Ig,cJ]
 have⟨L,vs,l,m,d,i,j⟩:=zA (Γ:=Γ) e f fuel [] [] b6 b6 ⟨.nil,(λC _ x c=>by cases c),(λx c=>by cases c)⟩ (by unfold fuel;simp;lia);have hl:L.length<64:=by
  have:=jQ d.nd (L:=names) λx c=>by
   have⟨r,a,b⟩:=kl.mp (d.OR x c);show b▸g r a
  lia
 have hs:Js .sorted [(.bor 1,.HP L vs)]=a5 (.own,.lst ((bu L).map .str)):=by
  change(if L.length<64 then _ else _)=_;rw[Ĺ hl]
 show⟨L,d.nd,d.snd,i,aG rfl (.inl rfl) h (ax (r:=(.own,.HP [] [])) oJ bq (ax av aK (uI j (bh (bS (ae (aA rfl) ai) ⟨⟨.own,rfl,rfl⟩,trivial⟩ hs) jM))))⟩
end
abbrev tb(rs:List Row):U:=.tup (rs.map HM)
abbrev H0(p:List (List Row)):List U:=p.map tb
abbrev HZ(rs:List Row)(p:List (List Row)):U:=.ob (tb rs) (H0 p)
abbrev lw(rows:List Row):List Str:=open Classical in if h:∃L,Kn rows L then bu h.choose else []
def zB(h:Kn rows L):lw rows=bu L:=by
 unfold lw;rw[dif_pos ⟨L,h⟩];show fL ((Classical.choose_spec (⟨L,h⟩:∃L,Kn rows L)).perm h)
def fu(h:Kn rows L):x∈lw rows↔x∈L:=by rw[zB h];show(cD L).mem_iff
abbrev gl(K L:List Str):List Str:=L.filter λx=>cK (x∉K)
abbrev Jc(a b:List Row):U:=.tup [.lst ((gl (lw a) (lw b)).map .str),.lst ((gl (lw b) (lw a)).map .str)]
structure Bk(names:List Str)(rs:List Row):Prop where
 ok:∀r∈rs,fE names r
 ln:rs.length<=50
def dQ(rs:List Row):Ig (tb rs)=bD:=by simp[tb,Ig,cJ]
theorem ph:∀p:List (List Row),cE (H0 p)=bD
 |[]=>rfl
 |r::p=>by rw[H0,il,cE,dQ];show ph p
theorem uN(n:Nat):∀rs:List Row,cS (n+2) (rs.map HM)=bD
 |[]=>by simp[cS]
 |r::rs=>by rw[il,cS,uN n rs];simp[HM,I0,cS];show ip _ _
def E2(n:Nat)(rs:List Row):I0 (n+3) (tb rs)=bD:=by
 unfold tb;rw[I0];show uN n rs
theorem qC(n:Nat):∀p:List (List Row),cS (n+3) (H0 p)=bD
 |[]=>by simp[H0,cS]
 |r::p=>by rw[H0,il,cS,E2,û];show qC n p
def lZ(K L:List Str):(gl K L).length<=L.length:=MX _ _
section
abbrev OS(Γ:Tab)(f:Str)(names:List Str):Prop:=∀rs:List Row,Bk names rs->(lw rs).length<64/\Γ f [tb rs]=a5 (.ok (.own,.lst ((lw rs).map .str)))
def BZ(hi:st[i]?=a5 (a5 (.own,.lst (L.map .str))))(c:st[j]?=a5 (a5 (k,.lst (K.map .str))))(hk:k=.own\/k=.any)(hl:L.length<=1000):Run (ev Γ (.comp 1 cb .seq [.var i] [.cmp .HQ (.var 0) (.var (j+1))] (.var 0))) st (.own,.lst ((gl K L).map .str)) st:=by
 have hsz:(1000:Nat)<=cL:=by decide
 have a:=oU (cond:=aO Γ [.cmp .HQ (.var 0) (.var (j+1))]) (elt:=ev Γ (.var 0)) (src:=[(.bor i,.lst (L.map .str))]) (st:=st) ⟨⟨.own,rfl,hi⟩,trivial⟩ .loc (.inl rfl) U.str U.str (λx=>cK (x∉K)) .loc L [] (by simp;lia)
  (λx a=>by
   have b:(a5 (Kd.loc,U.str x)::st)[j+1]?=a5 (a5 (k,.lst (K.map .str))):=c;show⟨dm ?_,λ_=>⟨af rfl,aL⟩⟩;rcases hk with rfl|rfl
   .show bp (af rfl) (aA b) ⟨⟨.own,rfl,b⟩,trivial⟩ gk
   .show bp (af rfl) (bA b) trivial gk)
 rw[nC]at a;show cz (rs:=[(.bor i,.lst (L.map .str))]) (ae (aA hi) ai) ⟨⟨.own,rfl,hi⟩,trivial⟩ (by change a5 _=_;rw[ko];rfl) a
def E3(f:OS Γ "learnt" names)(h:Bk names rows)(h':Bk names a):bP Γ b_ [tb rows,tb a]=a5 (.ok (.loc,Jc rows a)):=by
 have hsz:(1000:Nat)<=cL:=by decide
 have⟨n,k⟩:=f rows h;have⟨o,e2⟩:=f a h';let b:Option (Kd×U):=a5 (.loc,tb rows);let c:Option (Kd×U):=a5 (.loc,tb a);let d:Option (Kd×U):=a5 (.own,.lst ((lw rows).map .str));let e:Option (Kd×U):=a5 (.own,.lst ((lw a).map .str));let g:Option (Kd×U):=a5 (.own,.lst ((gl (lw rows) (lw a)).map .str));let l:Option (Kd×U):=a5 (.own,.lst ((gl (lw a) (lw rows)).map .str));have m:TM.start [tb rows,tb a] 6=[b,c,b6,b6,b6,b6]:=by simp[TM.start,dQ,b,c]
 show aG rfl (.inr rfl) m (ax (aP (ae (af rfl) ai) trivial k) bq (ax (aP (ae (af rfl) ai) trivial e2) bq
  (ax (BZ (i:=3) (j:=2) (st:=[b,c,d,e,b6,b6]) rfl rfl (.inl rfl) ⋯) bq (ax (BZ (i:=2) (j:=3) (st:=[b,c,d,e,g,b6]) rfl rfl (.inl rfl) ⋯) bq
   (bh (fz (us:=[.lst ((gl (lw rows) (lw a)).map .str),.lst ((gl (lw a) (lw rows)).map .str)]) (ae (aA (i:=4) (st:=[b,c,d,e,g,l]) rfl) (ae (aA rfl) ai)) ⟨⟨.own,rfl,rfl⟩,⟨.own,rfl,rfl⟩,trivial⟩ (aE (zi rfl) (aE (zi rfl) aV)) (by change 2<=cL;lia)) bZ)))))
abbrev Up(Γ:Tab)(names:List Str):Prop:=∀rs a p,Bk names rs->Bk names a->Γ "Shelf.turn_to" [HZ rs p,tb a]=a5 (.ok (.loc,.tup [Jc rs a,HZ a p]))
def zC(f:∀a b,Bk names a->Bk names b->Γ "gained_and_lost" [tb a,tb b]=a5 (.ok (.loc,Jc a b)))(h:Bk names rows)(h':Bk names d):eI Γ cX 0 (cX.body.drop 1) [HZ rows c,tb d]=a5 (.ok (.loc,.tup [Jc rows d,HZ d c])):=by
 let e:Option (Kd×U):=a5 (.loc,tb d);let g:Option (Kd×U):=a5 (.loc,Jc rows d);have i:aY 0 [HZ rows c,tb d] 3=[a5 (.A',HZ rows c),e,b6]:=by simp[aY,dQ,e]
 show bK (p:=0) (st:=[a5 (.A',HZ d c),e,g]) ⟨rfl,by decide⟩ i (ax (aP (ae (fq rfl) (ae (af rfl) ai)) trivial (f rows d h h')) aK
  (EV (r:=(.loc,tb d)) (af rfl) aL rfl (dQ _) (ph _) (bh (af rfl) bZ))) rfl rfl
def zD(f:Up Γ names)(h:Bk names rows)(h':Bk names b)(i:a.length<=100):eI Γ cW 0 (cW.body.drop 1) [HZ rows a,tb b]=a5 (.ok (.loc,.tup [Jc rows b,HZ b (a++[rows])])):=by
 have hsz:(1000:Nat)<=cL:=by decide
 let c:Option (Kd×U):=a5 (.loc,tb b);have g:aY 0 [HZ rows a,tb b] 2=[a5 (.A',HZ rows a),c]:=by simp[aY,dQ,c]
 have e:H0 (a++[rows])=H0 a++[tb rows]:=by simp[H0]
 have d:=f rows b (a++[rows]) h h';unfold HZ at d ⊢;rw[e]at d ⊢;show bK (p:=0) (st:=[a5 (.A',.ob (tb b) (H0 a++[tb rows])),c]) ⟨rfl,by decide⟩ g (EW (u:=tb rows) (us:=H0 a) rfl (by unfold H0;rw[df];lia) (dQ _) (by rw[<-e];show ph _)
  (bh (gq (us:=H0 a++[tb rows]) rfl (ae (af rfl) ai) trivial rfl d (.inr rfl)) bZ)) rfl rfl
def zE:eI Γ eR 0 (eR.body.drop 1) [HZ rows a]=a5 (.ok (.loc,.tup [tb rows,HZ rows a])) :=
 bK (p:=0) (st:=[a5 (.A',HZ rows a)]) ⟨rfl,by decide⟩ (by simp[aY];rfl) (bh (fq rfl) bZ) rfl rfl
def zF(b:OS Γ "learnt" names)(h:Bk names rows):eI Γ bT 0 (bT.body.drop 1) [HZ rows a]=a5 (.ok (.own,.tup [.lst ((lw rows).map .str),HZ rows a])) :=
 bK (p:=0) (st:=[a5 (.A',HZ rows a)]) ⟨rfl,by decide⟩ (by simp[aY];rfl) (bh (aP (ae (fq rfl) ai) trivial (b rows h).2) jM) rfl rfl
def wc:eI Γ dO 0 (dO.body.drop 1) [HZ rows a]=a5 (.ok (.loc,.tup [.int (a.length:Nat),HZ rows a])):=by
 have e:(H0 a).length=a.length:=by simp[H0]
 have h:=EO (Γ:=Γ) (st:=[a5 (.A',HZ rows a)]) (i:=0) (u:=tb rows) (us:=H0 a) rfl;rw[e]at h;show bK (p:=0) (st:=[a5 (.A',HZ rows a)]) ⟨rfl,by decide⟩ (by simp[aY];rfl) (bh h bZ) rfl rfl
def zG(d:Up Γ names)(h:Bk names rows)(h':Bk names b):eI Γ eT 0 (eT.body.drop 1) [HZ rows (a++[b])]=a5 (.ok (.loc,.tup [Jc rows b,HZ b a])):=by
 have e:H0 (a++[b])=H0 a++[tb b]:=by simp[H0]
 have t:Run (Ib Γ (.J' 0)) [a5 (.A',HZ rows (a++[b]))] cb [a5 (.A',HZ rows (a++[b]))]:=by
  have:=ER (Γ:=Γ) (i:=0) (st:=[a5 (.A',HZ rows (a++[b]))]) (u:=tb rows) (us:=H0 (a++[b])) rfl (by rw[I0];show qC 46 _);rw[e,show(H0 a++[tb b]).isEmpty=cb by cases H0 a<;>rfl]at this;show this
 have c:=ES (Γ:=Γ) (i:=0) (st:=[a5 (.A',HZ rows (a++[b]))]) (u:=tb rows) (us:=H0 (a++[b])) (w:=tb b) rfl (by rw[e];simp);rw[e,Nt]at c;show bK (p:=0) (st:=[a5 (.A',HZ b a)]) ⟨rfl,by decide⟩ (by simp[aY];rfl) (bL t (λz=>by cases z) λ_=>bh (gq rfl (ae c ai) trivial rfl (d rows b a h h') (.inr rfl)) bZ) rfl rfl
end
end K
namespace TM
open PySem L2 Ir
def qD:kZ (k,.tup (rs.map HM)) lo hi=a5 (kE k,.tup ((cut rs lo hi).map HM)):=by
 simp only[kZ];rw[uG]
def l0{a b:List Row}(h:a.length+b.length<=cL):Kb .add (k,.tup (a.map HM)) (k',.tup (b.map HM))=a5 (kT k k',.tup ((a++b).map HM)):=by
 change(if _ then _ else _)=_;rw[Ĺ (by rw[df,df];show h),pd]
def GV(b:Run (ev Γ a) st x st1)(c:AF x=a5 r):Run (ev Γ (.Ng a)) st r st1:=aa b (cU c)
def GW(h:Run (ev Γ e) st x st1):Run (execs Γ (.MF c e::ss)) st (.rt .io (.str c)) st1:=aa (aa h aJ) aJ
def E4(xs:List α)(k:Nat):cut xs b6 (a5 (k:Int))=xs.take k:=by
 unfold cut;rw[HT.sR];change(xs.drop 0).take (min k xs.length - 0)=_;rw[í,Nat.sub_zero];rcases Ė k xs.length with h|h
 .rw[RV h]
 .rw[ä h,Mb (hY _),Mb h]
def qE(xs:List α)(k:Nat):cut xs (a5 (k:Int)) b6=xs.drop k:=by
 unfold cut;rw[HT.sR];change(xs.drop (min k xs.length)).take (xs.length - min k xs.length)=_;rw[Mb (by rw[Rw];lia)];rcases Ė k xs.length with h|h
 .rw[RV h]
 .rw[ä h,Zj (hY _),Zj h]
end TM
namespace K
open PySem L2 TM Ir Od KL
section
abbrev Ko(r s:Row):Bool:=cK (keyOf r=keyOf s)
def we(a:∀r:Row,r.2.length<64->Γ "in_one_order" [HM r]=a5 (.ok (.loc,HM (keyOf r))))(h:r.2.length<64)(b:s.2.length<64):bP Γ je [HM r,HM s]=a5 (.ok (.loc,.bl (Ko r s))):=by
 apply aG (st0:=[a5 (.loc,HM r),a5 (.loc,HM s)]) rfl (.inr rfl) (by simp[TM.start,dy,je])
 repeat' (first|show a r h|show a s b|show BL (op:=bD)|sizeOf_list_dec)
abbrev L7(rows:List Row)(r:Row):List Nat:=(i4 rows.length).filter λp=>Ko (rows.getD p ("",[])) r
abbrev Qo(Γ:Tab)(names:List Str):Prop:=∀(rs:List Row) (r:Row),Bk names rs->r.2.length<64->Γ "places_alike" [tb rs,HM r]=a5 (.ok (.own,.lst ((L7 rs r).map λn:Nat=>.int (n:Nat))))
def iq(c:∀r s:Row,r.2.length<64->s.2.length<64->Γ "alike" [HM r,HM s]=a5 (.ok (.loc,.bl (Ko r s))))(a:Bk names rows)(d:r.2.length<64):bP Γ cV [tb rows,HM r]=a5 (.ok (.own,.lst ((L7 rows r).map λn:Nat=>.int (n:Nat)))):=by
 have hsz:(2000:Nat)<=cL:=by decide
 have k:=a.ln;have f:TM.start [tb rows,HM r] 2=[a5 (.loc,tb rows),a5 (.loc,HM r)]:=by simp[TM.start,dQ,dy]
 have b:=lU (st:=[a5 (.loc,tb rows),a5 (.loc,HM r)]) (cond:=aO Γ [.call "alike" [.var 1,.var 3]]) (elt:=ev Γ (.var 0)) (src:=[(.loc,tb rows)]) trivial (λp:Nat=>U.int (p:Nat)) (λp:Nat=>HM (rows.getD p ("",[]))) (λp:Nat=>U.int (p:Nat)) (λp=>Ko (rows.getD p ("",[])) r) (i4 rows.length) [] (by simp;lia)
  (λy g=>⟨dm (lQ (ae (af rfl) (ae (af rfl) ai)) trivial (c _ r (by
   have h:y<rows.length:=by simpa using g
   have e:rows.getD y ("",[])=rows[y]:=by simp[Ni,h]
   rw[e];have:=(a.ok rows[y] (Ms _)).Ki;lia) d) rfl),af rfl⟩)
 rw[nC]at b;have e:((rows.map HM).zipIdx.map λp=>(kE .loc,U.tup [.int p.2,p.1]))=(i4 rows.length).map λp:Nat=>(Kd.loc,U.tup [.int (p:Nat),HM (rows.getD p ("",[]))]):=by
  apply N5
  .simp
  .intro i j l;have hi:i<rows.length:=by simpa using j
   simp[kE,Ni,hi]
 show aG rfl (.inl rfl) f (bh (cz (rs:=[(.loc,tb rows)]) (ae (af rfl) ai) trivial (by change a5 _=_;rw[e]) b) jM)
def uO:L7 rows r=[]↔∀s∈rows,keyOf s≠keyOf r:=by
 unfold L7;rw[Ob];constructor
 .intro h s hs e;have⟨i,hi,rfl⟩:=Tv.mp hs;show h i (x4.mpr hi) ?_;have a:rows.getD i ("",[])=rows[i]:=by simp[Ni,hi]
  rw[a,Ko,ĸ];show e
 .intro h i hi e;have hi:=x4.mp hi;have a:rows.getD i ("",[])=rows[i]:=by simp[Ni,hi]
  rw[a,Ko,ĸ]at e;show h _ (Ms _) e
def zH(f:∀x∈a,keyOf x≠keyOf r)(hs:keyOf s=keyOf r):∃l,L7 (a++s::b) r=a.length::l:=by
 have h:(L7 (a++s::b) r).head?=a5 a.length:=by
  unfold L7;rw[List.head?_filter,List.find?_range_eq_some];show⟨by simp[Ko,Ni,hs],by simp,λj c=>?_⟩;have e:(a++s::b).getD j ("",[])=a[j]:=by simp[Ni,ro c,c]
  rw[e];simp only[Ko,uk,decide_eq_false_iff_not];show f _ (Ms _)
 cases d:L7 (a++s::b) r with
 |nil=>rw[d]at h;cases h
 |cons x l=>rw[d]at h;show⟨l,by rw[vu h]⟩
abbrev pj(Γ:Tab)(names:List Str):Prop:=∀r:Row,fE names r->Γ "is_row" [HM r]=a5 (.ok (.loc,.bl bD))
abbrev Uq(Γ:Tab)(names:List Str):Prop:=∀rs a p,Bk names rs->Bk names a->p.length<=100->Γ "Shelf.do_deed" [HZ rs p,tb a]=a5 (.ok (.loc,.tup [Jc rs a,HZ a (p++[rs])]))
def sI:Run (ev Γ (.lst [])) st (.own,.lst []) st:=dN (rs:=[]) (us:=[]) ai trivial aV (mN _)
def qF(e:Qo Γ names)(f:pj Γ names)(g:Bk names rows)(a:fE names r)(h:st[0]?=a5 (a5 (.A',HZ rows b)))(d:st[3]?=a5 (a5 (.loc,HM r))):
  Run (Ib Γ (.or [.not (.call "is_row" [.var 3]),.cmp .ne (.call "places_alike" [.IS 0,.var 3]) (.lst [])])) st (!(L7 rows r).isEmpty) st:=by
 show BG (qj (lG (c:=bD) (lQ (ae (af d) ai) trivial (f r a) rfl)) (uo (bp (aP (ae (fq h) (ae (af d) ai)) trivial (e rows r g (by have:=a.Ki;lia))) sI trivial ?_)));have:=lT (us:=(L7 rows r).map λn:Nat=>U.int (n:Nat)) (by rw[I0];show gJ (λn:Nat=>(n:Int)) _ _);rw[this,List.isEmpty_map]
def E5{ts:List Str}:aY 0 [HZ rows a,.str w,.lst (ts.map .str)] 4=[a5 (.A',HZ rows a),a5 (.loc,.str w),a5 (.any,.lst (ts.map .str)),b6]:=by simp[aY,Ig]
def pk(a:st[1]?=a5 (a5 (.loc,.str w)))(b:st[2]?=a5 (a5 (.any,.lst (ts.map .str)))):Run (ev Γ (.tup [.var 1,.bi .tuple [.var 2]])) st (.loc,HM (w,ts)) st :=
 fz (ae (af a) (ae (bS (ae (bA b) ai) trivial rfl) ai)) trivial (aE aL (aE (um (by simp[Ig,jw])) aV)) (by change 2<=cL;decide)
def B0(f:Qo Γ names)(g:pj Γ names)(h:Uq Γ names)(b:Bk names rows)(i:Bk names (rows++[r]))(j:fE names r)(k:∀s∈rows,keyOf s≠keyOf r)(l:a.length<=100):
  eI Γ dh 0 (dh.body.drop 1) [HZ rows a,.str r.1,.lst (r.2.map .str)]=a5 (.ok (.loc,.tup [Jc rows (rows++[r]),HZ (rows++[r]) (a++[rows])])):=by
 have hsz:(2000:Nat)<=cL:=by decide
 have n:=b.ln;let c:Option (Kd×U):=a5 (.loc,.str r.1);let d:Option (Kd×U):=a5 (.any,.lst (r.2.map .str));let e:Option (Kd×U):=a5 (.loc,HM r);let S:au:=[a5 (.A',HZ rows a),c,d,e]
 have t:=qF (Γ:=Γ) (st:=S) f g b j rfl rfl;rw[uO.mpr k]at t;have m:Run (Ib Γ (.cmp .ge (.bi .len [.IS 0]) (.Kx "MOST_ROWS" (.int 60)))) S cb S:=bp (bS (ae (fq rfl) ai) trivial (fh (xs:=rows.map HM))) ng trivial (GS (by simp;lia));show bK (p:=0) (st:=[a5 (.A',HZ (rows++[r]) (a++[rows])),c,d,e]) ⟨rfl,by decide⟩ E5 (ax (pk rfl rfl) aK
  (bL t (λz=>by cases z) λ_=>bL m (λz=>by cases z) λ_=>bh (gq (st:=S) rfl (ae (cm (fq (u:=tb rows) (us:=H0 a) rfl) (fz (us:=[r].map HM) (ae (af rfl) ai) trivial (aE aL aV) (by change 1<=cL;lia)) trivial (l0 (by rw[w6];lia))) ai) trivial rfl (h rows (rows++[r]) a b i l) (.inr rfl)) bZ)) rfl rfl
def zI(d:Qo Γ names)(e:pj Γ names)(f:Bk names rows)(g:fE names r)(i:∃s∈rows,keyOf s=keyOf r):
  eI Γ dh 0 (dh.body.drop 1) [HZ rows c,.str r.1,.lst (r.2.map .str)]=a5 (.ok (.io,.tup [.str "Unfit",HZ rows c])):=by
 let j:Option (Kd×U):=a5 (.loc,.str r.1);let k:Option (Kd×U):=a5 (.any,.lst (r.2.map .str));let l:Option (Kd×U):=a5 (.loc,HM r);let S:au:=[a5 (.A',HZ rows c),j,k,l]
 have t:=qF (Γ:=Γ) (st:=S) d e f g rfl rfl;have m:(L7 rows r).isEmpty=cb:=by
  rw[Í,ne_eq,ya,uO];show λh=>let ⟨s,a,b⟩:=i;h s a b
 rw[m]at t;show bK (p:=0) (st:=S) ⟨rfl,by decide⟩ E5 (ax (pk rfl rfl) aK (bL t (λ_=>GW av) λz=>by cases z)) rfl rfl
def zJ(o:Qo Γ names)(q:Uq Γ names)(d:Bk names (a++r::b))(e:Bk names (a++b))(hk:keyOf (r.1,ts)=keyOf r)(hl:ts.length<64)(u:∀x∈a,keyOf x≠keyOf r)(v:c.length<=100):
  eI Γ eS 0 (eS.body.drop 1) [HZ (a++r::b) c,.str r.1,.lst (ts.map .str)]=a5 (.ok (.loc,.tup [Jc (a++r::b) (a++b),HZ (a++b) (c++[a++r::b])])):=by
 have hsz:(2000:Nat)<=cL:=by decide
 have B:=d.ln;have w:=e.ln;have⟨l,y⟩:=zH (r:=(r.1,ts)) (a:=a) (b:=b) (s:=r) (by rw[hk];show u) hk.symm;let f:Option (Kd×U):=a5 (.loc,.str r.1);let g:Option (Kd×U):=a5 (.any,.lst (ts.map .str));let h:Option (Kd×U):=a5 (.own,.lst ((a.length::l).map λn:Nat=>.int (n:Nat)));let S:au:=[a5 (.A',HZ (a++r::b) c),f,g,h]
 have i:=o (a++r::b) (r.1,ts) d hl;rw[y]at i;have t:Run (Ib Γ (.cmp .eq (.var 3) (.lst []))) S cb S:=by
  show bp (aA rfl) sI ⟨⟨.own,rfl,rfl⟩,trivial⟩ ?_;have A:I0 50 (.lst ((a.length::l).map λn:Nat=>U.int (n:Nat)))=bD:=by rw[I0];show gJ (λn:Nat=>(n:Int)) _ _
  change(if _ then _ else _)=_;rw[Ĺ ⟨A,rfl⟩];rfl
 have m:Run (ev Γ (.idx (.var 3) (.cst (.int 0)))) S (.loc,.int (a.length:Nat)) S:=bg (aA rfl) av ⟨⟨.own,rfl,rfl⟩,trivial⟩ (aS (cQ (j:=0) rfl));have s1:Run (ev Γ (.Ky (.IS 0) [] [.idx (.var 3) (.cst (.int 0))])) S (.loc,.tup (a.map HM)) S:=by
  have:=qD (k:=.loc) (rs:=a++r::b) (lo:=b6) (hi:=a5 (a.length:Int));rw[E4,List.take_left'  rfl]at this;show uh (fq rfl) uf (ug m) trivial this
 have s2:Run (ev Γ (.Ky (.IS 0) [.bin .add (.idx (.var 3) (.cst (.int 0))) (.cst (.int 1))] [])) S (.loc,.tup (b.map HM)) S:=by
  have:=qD (k:=.loc) (rs:=a++r::b) (lo:=a5 ((a.length+1:Nat):Int)) (hi:=b6);rw[qE,show a++r::b=(a++[r])++b by simp,Td (by simp),show(a++[r])++b=a++r::b by simp]at this;show uh (fq rfl) (ug (cm m av trivial d7)) uf trivial this
 show bK (p:=0) (st:=[a5 (.A',HZ (a++b) (c++[a++r::b])),f,g,h]) ⟨rfl,by decide⟩ E5 (ax (aP (ae (fq rfl) (ae (pk rfl rfl) ai)) trivial i) bq
  (bL t (λz=>by cases z) λ_=>bh (gq (st:=S) rfl (ae (cm s1 s2 trivial (l0 (by simp at w;lia))) ai) trivial rfl (q (a++r::b) (a++b) c d e v) (.inr rfl)) bZ)) rfl rfl
end
end K
namespace TM
open PySem L2 Ir
def E6{ss:List Str}:bG .isin (.str x) (.tup (ss.map U.str))=a5 (cK (x∈ss)):=by
 change Nh _ _=_;rw[uC]
def GX(h:Run (ev Γ e) st (k,.bl p) st)(a:Run (ev Γ e2) st (k',.bl q) st)(hk:k'=.loc):Run (ev Γ (.or [e,e2])) st (.loc,.bl (p||q)) st:=by
 subst hk;cases p with
 |true=>show GC (aa h aJ)
 |false=>show GC (aa h a)
end TM
namespace K
open PySem L2 TM Ir Od KL
section
abbrev B1:List TM.S:=[.ite (.and [.cmp .isin (.var 4) (.var 6),.cmp .HQ (.var 5) (.var 2)]) [.put 2 (.var 5) (.cst (.bl bD)),.app 3 (.var 5)] []]
abbrev oS(rows:List Row)(w:Str)(M:List Str)(vs:List U)(l:List Str)(o4 o5 o6:Option (Kd×U)):au:=[a5 (.loc,tb rows),a5 (.loc,.str w),a5 (.own,.HP M vs),a5 (.own,.lst (l.map .str)),o4,o5,o6]
structure Mt(rows:List Row)(M:List Str):Prop where
 nd:M.Nodup
 OR:∀x∈M,x∈rows.map (·.1)
def Mt.len{M:List Str}(x:Mt rows M):M.length<=rows.length:=by
 have:=jQ x.nd x.OR
 rwa [df]at this
def Mt.add{M:List Str}(x:Mt rows M)(c:r∈rows)(d:r.1∉M):Mt rows (M++[r.1]):=by
 show⟨?_,λy hy=>?_⟩
 .rw[tA];show⟨x.nd,by simp,λa f b g e=>?_⟩;have:b=r.1:=by simpa using g
  subst this;show d (e▸f)
 .rcases ke.mp hy with hy|hy
  .show x.OR y hy
  .have:y=r.1:=by simpa using hy
   subst this;show kl.mpr ⟨r,c,rfl⟩
abbrev Ov(rows:List Row)(M:List Str)(y:Str):Prop:=∀r∈rows,y∈r.2->r.1∈M
def wg(A:Bk names rows){M l:List Str}(x:Mt rows M)(hl:l.length<=1000)(vs:List U)(o5 o6:Option (Kd×U)):∃(N:List Str) (p:List U) (q s:Option (Kd×U)),Mt rows (M++N)/\Ov rows (M++N) y /\
  Run (forM bD [5,6] (execs Γ B1) [(.loc,tb rows)] (rows.map λr=>(Kd.loc,HM r))) (oS rows w M vs l (a5 (.loc,.str y)) o5 o6) .nx (oS rows w (M++N) p (l++N) (a5 (.loc,.str y)) q s):=by
 have hsz:(20000:Nat)<=cL:=by decide
 have I:=A.ln;obtain⟨st1,B,_,N,p,q,s,e,f,g⟩:=ei (t:=bD) (is:=[5,6]) (body:=execs Γ B1) (rs:=[(.loc,tb rows)]) (λr:Row=>(Kd.loc,HM r))
  (λd r st=>d++r=rows/\∃(N:List Str) (vs:List U) (o5 o6:Option (Kd×U)),st=oS rows w (M++N) vs (l++N) (a5 (.loc,.str y)) o5 o6/\Mt rows (M++N)/\Ov d (M++N) y) (λ_ _ _ _=>trivial) (λd a r st C=>by
   have⟨u,N,vs,o5,o6,e,f,g⟩:=C;subst e;have D:a∈rows:=by rw[<-u];simp
   have G:=f.len;let c:Option (Kd×U):=a5 (.loc,.str y);let j:Option (Kd×U):=a5 (.loc,.str a.1);let m:Option (Kd×U):=a5 (.loc,.tup (a.2.map .str));have o:Run (Ib Γ (.and [.cmp .isin (.var 4) (.var 6),.cmp .HQ (.var 5) (.var 2)])) (oS rows w (M++N) vs (l++N) c j m) (cK (y∈a.2)&&!cK (a.1∈M++N)) (oS rows w (M++N) vs (l++N) c j m) :=
    jL (lP (bp (af rfl) (af rfl) trivial E6) λ_=>dm (bp (af rfl) (aA rfl) ⟨⟨.own,rfl,rfl⟩,trivial⟩ gI))
   have v:Run (c7 bD [5,6] (.loc,HM a)) (oS rows w (M++N) vs (l++N) c o5 o6) () (oS rows w (M++N) vs (l++N) c j m):=nu (.inl rfl);cases b:(cK (y∈a.2)&&!cK (a.1∈M++N)) with
   |false =>
    rw[b]at o;show⟨_,_,v,bL o (λh=>by cases h) λ_=>aT,by rw[<-u];simp,N,vs,_,_,rfl,f,λn IU hz=>?_⟩;rcases ke.mp IU with IU|IU
    .show g n IU hz
    .have:n=a:=by simpa using IU
     subst this;rw[ļ hz,û,Bool.not_eq_false',ĸ]at b;show b
   |true =>
    rw[b]at o;rw[b8,uk,ĸ,decide_eq_false_iff_not]at b;have z:=f.add D b.2;rw[ON]at z;have J:(l++N).length<=2000:=by simp at G ⊢;lia
    show⟨_,oS rows w (M++(N++[a.1])) (vs++[.bl bD]) (l++(N++[a.1])) c j m,v,bL o (λ_=>?_) (λh=>by cases h),by rw[<-u];simp,N++[a.1],_,_,_,rfl,z,λn IU hz=>?_⟩
    .rw[<-ON,<-ON];show uE (k:=.own) (rv:=(.loc,.bl bD)) (rk:=(.loc,.str a.1)) av rfl (af rfl) (aE aL (aE aL aV)) rfl rfl (kf ⋯ b.2) ?_;have:=jN (Γ:=Γ) (i:=3) (e:=.var 5) (ss:=[]) (st:=oS rows w (M++N++[a.1]) (vs++[.bl bD]) (l++N) c j m) (k:=.own) (k':=.own) (r:=(.loc,.str a.1)) (us:=(l++N).map .str) rfl (af rfl) aL rfl rfl (by rw[df];lia) aT;rw[show(l++N).map U.str++[.str a.1]=(l++N++[a.1]).map U.str by simp]at this;show this
    .rcases ke.mp IU with IU|IU
     .have:=g n IU hz;rw[<-ON];show J8 _ this
     .have:n=a:=by simpa using IU
      subst this;simp) rows [] (oS rows w M vs l (a5 (.loc,.str y)) o5 o6) ⟨rfl,[],vs,o5,o6,by simp,by simpa using x,λr H=>by cases H⟩
 subst e;rw[nC]at g;show⟨N,p,q,s,f,g,B⟩
theorem l7(d:Bk names rows):∀(f:Nat) (M l:List Str) (vs:List U) (o4 o5 o6:Option (Kd×U)),Mt rows M->(∀y,(y=w\/y∈M)->y∉l->Ov rows M y)->l.length+(rows.length - M.length)<=100->l.length+(rows.length - M.length)+1<=f ->
  ∃(M1:List Str) (a:List U) (p b c:Option (Kd×U)),(∀y,(y=w\/y∈M1)->Ov rows M1 y)/\Run (fU (Ib Γ (.cmp .gt (.bi .len [.var 3]) (.cst (.int 0)))) (execs Γ [.set 4 (.pop 3),.Ip bD [5,6] .seq [.var 0] B1]) f) (oS rows w M vs l o4 o5 o6) .nx (oS rows w M1 a [] p b c)
 |0,_,_,_,_,_,_,_,_,_,h=>by lia
 |f+1,M,l,vs,o4,o5,o6,x,j,hl,h=>by
  have O:=d.ln;have g:Run (Ib Γ (.cmp .gt (.bi .len [.var 3]) (.cst (.int 0)))) (oS rows w M vs l o4 o5 o6) (cK (0<l.length)) (oS rows w M vs l o4 o5 o6):=bp (bS (ae (aA rfl) ai) ⟨⟨.own,rfl,rfl⟩,trivial⟩ ja) av trivial (fC (by simp));rcases List.eq_nil_or_concat l with rfl|⟨l',y,rfl⟩
  .show⟨M,vs,o4,o5,o6,λy q=>j y q (by simp),uH g⟩
  .rw[List.concat_eq_append]at *;rw[ļ (by simp)]at g;rw[j0,w6]at hl h;have⟨N,a,b,c,m,s,t⟩:=wg (Γ:=Γ) (w:=w) (y:=y) (l:=l') d x ⋯ vs o5 o6;have e2:(rows.map HM).map (λu=>(kE .loc,u))=rows.map λr=>(Kd.loc,HM r):=by rw[ko];rfl
   have n:=ql (Γ:=Γ) (st:=oS rows w M vs (l'++[y]) o4 o5 o6) (i:=3) (k:=.own) (us:=(l'++[y]).map .str) (u:=.str y) rfl rfl (by simp);rw[<-VE,Nt]at n;have v:Run (execs Γ [.set 4 (.pop 3),.Ip bD [5,6] .seq [.var 0] B1]) (oS rows w M vs (l'++[y]) o4 o5 o6) .nx (oS rows w (M++N) a (l'++N) (a5 (.loc,.str y)) b c) :=
    ax n aK (fA (rs:=[(.loc,tb rows)]) (st1:=oS rows w M vs l' (a5 (.loc,.str y)) o5 o6) (ae (af rfl) ai) trivial (by change a5 (Tw (λu=>(kE .loc,u)) _)=_;rw[e2]) rfl t aT)
   have k1:=m.len;rw[j0]at k1;have⟨M1,A,B,C,D,G,H⟩:=l7 d (w:=w) f (M++N) (l'++N) a (a5 (.loc,.str y)) b c m (λz hz o=>by
    by_cases e:z=y
    .subst e;show s
    .have I:z=w\/z∈M:=by
      rcases hz with hz|hz
      .show .inl hz
      .rcases ke.mp hz with hz|hz
       .show .inr hz
       .show absurd (va _ hz) o
     have:=j z I (λhm=>by
      rcases ke.mp hm with hm|hm
      .show o (J8 _ hm)
      .show e (by simpa using hm))
     show λr J L=>J8 _ (this r J L)) (by rw[j0,j0];lia) (by rw[j0,j0];lia)
   show⟨M1,A,B,C,D,G,v5 g v H⟩
def zK(a:Bk names rows)(w:Str):∃(M:List Str) (vs:List U),(∀y,(y=w\/y∈M)->Ov rows M y)/\bP Γ ft [tb rows,.str w]=a5 (.ok (.own,.HP M vs)):=by
 have g:=a.ln;have b:TM.start [tb rows,.str w] 7=[a5 (.loc,tb rows),a5 (.loc,.str w),b6,b6,b6,b6,b6]:=by simp[TM.start,dQ,Ig]
 have⟨M,vs,h,i,j,c,d⟩:=l7 (Γ:=Γ) a (w:=w) fuel [] [w] [] b6 b6 b6 ⟨.nil,(λx e=>by cases e)⟩ (λy hy f=>by
  rcases hy with rfl|hy
  .show absurd (nc.mpr rfl) f
  .cases hy) (by simp;lia) (by unfold fuel;simp;lia)
 show⟨M,vs,c,aG rfl (.inl rfl) b (ax (r:=(.own,.HP [] [])) oJ bq (ax (dN (us:=[w].map .str) (ae (af rfl) ai) trivial (aE aL aV) (by change 1<=cL;decide)) bq (uI d (bh (aA rfl) (nh rfl)))))⟩
def sJ(h:r.2.length<64)(c:s.2.length<64):bP Γ dZ [HM r,HM s]=a5 (.ok (.loc,.bl (Ko r s))):=by
 have d:TM.start [HM r,HM s] 2=[a5 (.loc,HM r),a5 (.loc,HM s)]:=by simp[TM.start,dy]
 have a:∀(x:Row),iO (.loc,HM x) (.int 0)=a5 (.loc,.str x.1):=λ_=>rfl;have b:∀(x:Row),iO (.loc,HM x) (.int 1)=a5 (.loc,.tup (x.2.map .str)):=λ_=>rfl;have e:Ko r s=(cK (r.1=s.1)&&cK (bu r.2=bu s.2)):=by
  unfold Ko keyOf;rw[Nm];simp
 rw[e];show aG rfl (.inr rfl) d (bh (yR (EI (f_ (bg (af rfl) av trivial (a r)) (bg (af rfl) av trivial (a s)) trivial ka) λ_=>sg (f_ (bS (ae (bg (af rfl) av trivial (b r)) ai) trivial (sorted_strs h)) (bS (ae (bg (af rfl) av trivial (b s)) ai) trivial (sorted_strs c)) trivial zc))) bZ)
structure Ad(s l:List Row)(o:Row):Prop where
 lg:∀r∈l,r∈s\/r=o
 sh:∀r∈s,r∈l
 ln:s.length<l.length
def Ad.mono(h:Ad s l o)(ks:Kn s a)(b:Kn l c):∀x∈a,x∈c:=ks.sn _ λr d e=>b.cl r (h.sh r d) e
def Ad.over{a c M:List Str}(h:Ad s l o)(ks:Kn s a)(f:Kn l c)(g:∀y,(y=o.1\/y∈M)->Ov l M y):∀x∈c,x∈a\/x=o.1\/x∈M:=f.sn _ λr d b=>by
 rcases h.lg r d with hs|rfl
 .by_cases hk:∀x∈r.2,x∈a
  .show .inl (ks.cl r hs hk)
  .have:∃x∈r.2,x∉a:=OV λi=>hk λx b=>OV λj=>i ⟨x,b,j⟩;have⟨x,e,k⟩:=this;rcases b x e with h1|h1
   .show absurd h1 k
   .show .inr (.inr (g x h1 r d e))
 .show .inr (.inl rfl)
abbrev Qp(names:List Str):Prop:=∀rs:List Row,Bk names rs->∃L,Kn rs L
def qG(b:Qp names)(a:Bk names rows):∀x∈lw rows,x∈names:=λx c=>by
 have⟨L,k⟩:=b rows a;show k.sn (·∈names) (λr d _=>(a.ok r d).word) x ((fu k).mp c)
def B3(d:Qp names)(e:∀x∈names,bw x.cps.toList)(f:Bk names rows)(h:Bk names c)(i:(lw rows).length<64)(j:(lw c).length<64):∃s:Str,∀k,Js .repr [(k,Jc rows c)]=a5 (.loc,.str s):=by
 have g:∀{a b:List Row},Bk names b->(lw b).length<64->Rp 1 (21 * 64) (.lst ((gl (lw a) (lw b)).map .str)):=λ{a b} l hl=>uM (EZ (n:=0) (b:=20) λu hu=>by
  have⟨x,m,rfl⟩:=kl.mp hu;show o_ (word_short (e x (qG d l x (LD.mp m).1)))) (hY _) (by rw[df];have:=lZ (lw a) (lw b);lia)
 show sH (n:=1) (b:=21 * 64) (us:=[.lst ((gl (lw rows) (lw c)).map .str),.lst ((gl (lw c) (lw rows)).map .str)]) cb (λu hu=>by
  rcases gj.mp hu with rfl|hu
  .show g h j
  .rw[nc.mp hu];show g f i) ⋯ (by change(21 * 64+1) * 2<=2 ^ 20;decide)
def wj(J:Qp names)(Y:∀x∈names,bw x.cps.toList)(Q:OS Γ "_law_learnt" names)(hO:∀(rs:List Row) (w:Str),Bk names rs->∃(M:List Str) (vs:List U),(∀y,(y=w\/y∈M)->Ov rs M y)/\Γ "_law_over" [tb rs,.str w]=a5 (.ok (.own,.HP M vs)))
  (L:Bk names rows) (N:Bk names c) (ha:Ad rows c o\/Ad c rows o):bP Γ cy [Jc rows c,tb rows,tb c,HM o]=a5 (.ok (.loc,.bl bD)):=by
 have hsz:(2000:Nat)<=cL:=by decide
 have⟨l1,e1⟩:=Q rows L;have⟨l2,e2⟩:=Q c N;have⟨Ks,ks⟩:=J rows L;have⟨Kl,v⟩:=J c N;have⟨s,hs⟩:=B3 J Y L N l1 l2;let n:List Row:=if rows.length<c.length then c else rows
 have YG:Bk names n:=by change Bk names (if _ then _ else _);split<;>assumption
 have⟨M,vs,G,eM⟩:=hO n o.1 YG;let d:Option (Kd×U):=a5 (.any,Jc rows c);let g:Option (Kd×U):=a5 (.loc,tb rows);let l:Option (Kd×U):=a5 (.loc,tb c);let m:Option (Kd×U):=a5 (.loc,HM o);let A:Option (Kd×U):=a5 (.own,.lst ((lw rows).map .str));let B:Option (Kd×U):=a5 (.own,.lst ((lw c).map .str));let D:Option (Kd×U):=a5 (.loc,Jc rows c);let T:Option (Kd×U):=a5 (.loc,tb rows);let H:Option (Kd×U):=a5 (.loc,tb n);let i8:Option (Kd×U):=a5 (.own,.HP M vs);have HU:TM.start [Jc rows c,tb rows,tb c,HM o] 9=[d,g,l,m,b6,b6,b6,b6,b6]:=by simp[TM.start,dQ,dy,Jc,Ig,cE,d,g,l,m]
 have g6:Run (ev Γ (.tup [.comp 1 cb .seq [.var 5] [.cmp .HQ (.var 0) (.var 5)] (.var 0),.comp 1 cb .seq [.var 4] [.cmp .HQ (.var 0) (.var 6)] (.var 0)])) [d,g,l,m,A,B,b6,b6,b6] (.loc,Jc rows c) [d,g,l,m,A,B,b6,b6,b6] :=
  fz (ae (BZ (i:=5) (j:=4) rfl rfl (.inl rfl) ⋯) (ae (BZ (i:=4) (j:=5) rfl rfl (.inl rfl) ⋯) ai)) trivial (aE qi (aE qi aV)) (by change 2<=cL;lia)
 have t1:Run (Ib Γ (.cmp .ne (.bi .repr [.var 0]) (.bi .repr [.var 6]))) [d,g,l,m,A,B,D,b6,b6] cb [d,g,l,m,A,B,D,b6,b6] :=
  bp (bS (ae (bA rfl) ai) trivial (hs _)) (bS (ae (af rfl) ai) trivial (hs _)) trivial (by rw[oX];simp)
 have t2:Run (Ib Γ (.cmp .gt (.bi .len [.var 2]) (.bi .len [.var 1]))) [d,g,l,m,A,B,D,T,b6] (cK (rows.length<c.length)) [d,g,l,m,A,B,D,T,b6] :=
  bp (bS (ae (af rfl) ai) trivial (fh (xs:=c.map HM))) (bS (ae (af rfl) ai) trivial (fh (xs:=rows.map HM))) trivial (fC (by simp))
 have all:∀x∈gl (lw rows) (lw c)++gl (lw c) (lw rows),x=o.1\/x∈M:=λx hx=>by
  have I:∀{a b:List Str},x∈gl a b->x∈b/\x∉a:=λh=>by simpa[gl] using h
  rcases ha with ha|ha
  .have C:n=c:=Ĺ ha.ln;rw[C]at G;rcases ke.mp hx with hx|hx
   .have⟨a,b⟩:=I hx;rw[fu v]at a;rw[fu ks]at b;show(ha.over ks v G x a).resolve_left b
   .have⟨a,b⟩:=I hx;rw[fu ks]at a;rw[fu v]at b;show absurd (ha.mono ks v x a) b
  .have C:n=rows:=ĺ (by have:=ha.ln;lia);rw[C]at G;rcases ke.mp hx with hx|hx
   .have⟨a,b⟩:=I hx;rw[fu v]at a;rw[fu ks]at b;show absurd (ha.mono v ks x a) b
   .have⟨a,b⟩:=I hx;rw[fu ks]at a;rw[fu v]at b;show(ha.over v ks G x a).resolve_left b
 let S:au:=[d,g,l,m,A,B,D,H,i8]
 have hx:=fj (cond:=aO Γ []) (elt:=ev Γ (.or [.cmp .eq (.var 0) (.idx (.var 4) (.cst (.int 0))),.cmp .isin (.var 0) (.var 9)])) (src:=[(.own,.lst ((gl (lw rows) (lw c)++gl (lw c) (lw rows)).map .str))]) (st:=S) trivial .loc (.inl rfl) U.str (λ_=>.bl bD) .loc (λ_=>gb) (gl (lw rows) (lw c)++gl (lw c) (lw rows)) [] (by simp;have:=lZ (lw rows) (lw c);have:=lZ (lw c) (lw rows);lia)
  (λx hx=>by
   show⟨?_,aL⟩;have:=GX (Γ:=Γ) (st:=a5 (Kd.loc,U.str x)::S) (e:=(.cmp .eq (.var 0) (.idx (.var 4) (.cst (.int 0))))) (e2:=(.cmp .isin (.var 0) (.var 9))) (k:=.loc) (k':=.loc) (p:=cK (x=o.1)) (q:=cK (x∈M)) (f_ (af rfl) (bg (x:=(.loc,HM o)) (r:=(.loc,.str o.1)) (af rfl) av trivial rfl) trivial ka) (f_ (af rfl) (aA rfl) ⟨⟨.own,rfl,rfl⟩,trivial⟩ zj) rfl;rw[show(cK (x=o.1)||decide (x∈M))=bD by simpa using all x hx]at this;show this)
 rw[nC]at hx;have gr:∀(a:List U),Run (ev Γ (.idx (.var 6) (.cst (.int 0)))) S (.loc,.lst ((gl (lw rows) (lw c)).map .str)) S:=λ_=>bg (x:=(.loc,Jc rows c)) (af rfl) av trivial rfl;have YH:Run (ev Γ (.idx (.var 6) (.cst (.int 1)))) S (.loc,.lst ((gl (lw c) (lw rows)).map .str)) S:=bg (x:=(.loc,Jc rows c)) (af rfl) av trivial rfl;have gs:Run (ev Γ (.bin .add (.idx (.var 6) (.cst (.int 0))) (.idx (.var 6) (.cst (.int 1))))) S (.own,.lst ((gl (lw rows) (lw c)++gl (lw c) (lw rows)).map .str)) S:=by
  have:=ze (k:=.loc) (k':=.loc) (xs:=(gl (lw rows) (lw c)).map U.str) (ys:=(gl (lw c) (lw rows)).map U.str) (by simp;have:=lZ (lw rows) (lw c);have:=lZ (lw c) (lw rows);lia) rfl rfl;rw[<-pd]at this;show cm (gr []) YH trivial this
 have ge:=bS (Γ:=Γ) (f:=.all) (r:=(.loc,.bl bD)) (ae (cz (k:=1) (t:=cb) (ik:=.seq) (cond:=[]) (ae gs ai) trivial (by change a5 _=_;rw[ko];rfl) hx) ai) trivial (by
  have:=E1 (k:=.own) (bs:=(gl (lw rows) (lw c)++gl (lw c) (lw rows)).map λ_=>bD) (λb hb=>by obtain⟨_,_,h⟩:=kl.mp hb;show h.symm);rw[ko]at this;show this)
 have u:Run (execs Γ [.set 8 (.call "_law_over" [.var 7,.idx (.var 3) (.cst (.int 0))]),.ret (.bi .all [.comp 1 cb .seq [.bin .add (.idx (.var 6) (.cst (.int 0))) (.idx (.var 6) (.cst (.int 1)))] [] (.or [.cmp .eq (.var 0) (.idx (.var 4) (.cst (.int 0))),.cmp .isin (.var 0) (.var 9)])])]) [d,g,l,m,A,B,D,H,b6] (.rt .loc (.bl bD)) S :=
  ax (aP (ae (af rfl) (ae (bg (x:=(.loc,HM o)) (r:=(.loc,.str o.1)) (af rfl) av trivial rfl) ai)) trivial eM) bq (bh ge bZ)
 show aG (st:=S) rfl (.inr rfl) HU (ax (aP (ae (af rfl) ai) trivial e1) bq (ax (aP (ae (af rfl) ai) trivial e2) bq (ax g6 aK (bL t1 (λz=>by cases z) λ_=>ax (af rfl) aK (bL t2 (λz=>?_) λz=>?_)))))
 .have C:n=c:=Ĺ (Ŀ z);have O:H=a5 (.loc,tb c):=by change a5 (Kd.loc,tb n)=_;rw[C]
  rw[O]at u;show ax (af rfl) aK u
 .have C:n=rows:=ĺ (of_decide_eq_false z);have O:H=a5 (.loc,tb rows):=by change a5 (Kd.loc,tb n)=_;rw[C]
  rw[O]at u;show u
end
section
def sM(j:Qp names)(f:∀x∈names,bw x.cps.toList)(l:OS Γ "_law_learnt" names)(m:∀rs p,Γ "Shelf.book" [HZ rs p]=a5 (.ok (.loc,.tup [tb rs,HZ rs p])))
  (s:∀rs p,Bk names rs->Γ "Shelf.learnt_now" [HZ rs p]=a5 (.ok (.own,.tup [.lst ((lw rs).map .str),HZ rs p]))) (v:∀rs (p:List (List Row)),Γ "Shelf.deeds" [HZ rs p]=a5 (.ok (.loc,.tup [.int (p.length:Nat),HZ rs p])))
  (d:Bk names rows) (C:a.length<=100):eI Γ cY 0 (cY.body.drop 1) [HZ rows a,tb rows,.int (a.length:Nat)]=a5 (.ok (.loc,.tup [.bl bD,HZ rows a])):=by
 have hsz:(2000:Nat)<=cL:=by decide
 have hl:=d.ln;have⟨D,w⟩:=l rows d;let o:Option (Kd×U):=a5 (.A',HZ rows a);let c:Option (Kd×U):=a5 (.loc,tb rows);let e:Option (Kd×U):=a5 (.loc,.int (a.length:Nat));let y:Option (Kd×U):=a5 (.own,.lst ((lw rows).map .str));have A:aY 0 [HZ rows a,tb rows,.int (a.length:Nat)] 5=[o,c,e,b6,b6]:=by simp[aY,dQ,Ig,o,c,e]
 have⟨s1,r1⟩:=sH (n:=2) (b:=400) (us:=rows.map HM) cb (λu g=>by
  have⟨r,B,rfl⟩:=kl.mp g;have q:=d.ok r B;show EY q.Ki (f _ q.word) λx h=>f x (q.told x h)) ⋯ (by rw[df];lia)
 have⟨s2,r2⟩:=sH (n:=0) (b:=20) (us:=(lw rows).map .str) bD (λu g=>by
  have⟨x,h,rfl⟩:=kl.mp g;show o_ (word_short (f x (qG j d x h)))) ⋯ (by rw[df];lia)
 have i:∀k:Kd,Js .repr [(k,.int (a.length:Nat))]=a5 (.loc,.str (Wf ((a.length:Nat):Int))):=λk=>by
  change(if (((a.length:Nat):Int)).natAbs.log2<1920 then _ else _)=_;rw[Ĺ (by
   rw[Int.natAbs_natCast];by_cases hz:a.length=0
   .rw[hz];decide
   .have:a.length<2 ^ 7:=by lia
    have:=(ZQ hz).mpr this;lia)]
 let S:au:=[o,c,e,c,y]
 have t:Run (Ib Γ (.or [.cmp .ne (.bi .repr [.var 3]) (.bi .repr [.var 1]),.cmp .ne (.bi .repr [.var 4]) (.bi .repr [.call "_law_learnt" [.var 1]]),.cmp .ne (.bi .repr [.JK "Shelf.deeds" "deeds" 0 []]) (.bi .repr [.var 2])])) S cb S :=
  BG (qj (bp (bS (ae (af rfl) ai) trivial (r1 _)) (bS (ae (af rfl) ai) trivial (r1 _)) trivial (by rw[oX];simp))
   (qj (bp (bS (ae (aA rfl) ai) ⟨⟨.own,rfl,rfl⟩,trivial⟩ (r2 _)) (bS (ae (aP (ae (af rfl) ai) trivial w) ai) trivial (r2 _)) trivial (by rw[oX];simp))
    (uo (bp (bS (ae (gq (st:=S) (rs:=[]) (u:=tb rows) (us:=H0 a) rfl ai trivial rfl (v rows a) (.inr rfl)) ai) trivial (i _)) (bS (ae (af rfl) ai) trivial (i _)) trivial (by rw[oX];simp)))))
 show bK (p:=0) (st:=[o,c,e,c,a5 (.own,.lst ((lw rows).map .str++[.str "a"]))]) ⟨rfl,by decide⟩ A (ax (gq (rs:=[]) (u:=tb rows) (us:=H0 a) rfl ai trivial rfl (m rows a) (.inr rfl)) aK
  (ax (gq (rs:=[]) (u:=tb rows) (us:=H0 a) rfl ai trivial rfl (s rows a d) (.inl rfl)) bq
   (bL t (λz=>by cases z) λ_=>jN (k:=.own) (k':=.own) (r:=(.loc,.str "a")) (us:=(lw rows).map .str) rfl av aL rfl rfl (by rw[df];lia) (bh av bZ)))) rfl rfl
def zL(st:au)(h:st[i]?=a5 (a5 (.loc,HM r))):Run (aR Γ [.idx (.var i) (.cst (.int 0)),.bi .list [.idx (.var i) (.cst (.int 1))]]) st [(.loc,.str r.1),(.own,.lst (r.2.map .str))] st :=
 ae (bg (x:=(.loc,HM r)) (af h) av trivial rfl) (ae (bS (ae (bg (x:=(.loc,HM r)) (r:=(.loc,.tup (r.2.map .str))) (af h) av trivial rfl) ai) trivial rfl) ai)
def qH(c:Γ "Shelf.put" [HZ rows a,.str r.1,.lst (r.2.map .str)]=a5 (.ok (.io,.tup [.str "Unfit",HZ rows a]))):
  eI Γ cC 0 (cC.body.drop 1) [HZ rows a,HM r]=a5 (.ok (.loc,.tup [.bl bD,HZ rows a])):=by
 let o:Option (Kd×U):=a5 (.A',HZ rows a);let b:Option (Kd×U):=a5 (.loc,HM r);have d:aY 0 [HZ rows a,HM r] 4=[o,b,b6,b6]:=by simp[aY,dy,o,b]
 show bK (p:=0) (st:=[o,b,a5 (.loc,.bl bD),b6]) ⟨rfl,by decide⟩ d (ax av aK (EX (u:=tb rows) (us:=H0 a) rfl (zL _ rfl) trivial rfl c rfl (by decide) (bh (af rfl) bZ))) rfl rfl
abbrev OT(a:List Row)(o:Row)(b:List Row):Prop:=b=a++[o]\/∃c d,a=c++o::d/\b=c++d
structure Gd(names:List Str)(n:Nat)(rs:List Row):Prop where
 ok:∀r∈rs,fE names r
 ln:rs.length<=n
 ky:(rs.map keyOf).Nodup
def Gd.bk(h:Gd names n rows)(a:n<=50):Bk names rows:=⟨h.ok,B' h.ln a⟩
def OT.ad(h:OT a o b):Ad a b o\/Ad b a o:=by
 rcases h with rfl|⟨c,d,rfl,rfl⟩
 .show .inl ⟨λr e=>by simpa using e,λr e=>J8 _ e,by simp⟩
 .show .inr ⟨λr e=>?_,λr e=>?_,by simp⟩
  .simp at e ⊢;rcases e with h|h|h
   .show .inl (.inl h)
   .show .inr h
   .show .inl (.inr h)
  .simp at e ⊢;rcases e with h|h
   .show .inl h
   .show .inr (.inr h)
def B4:keyOf (r.1,r.2.reverse)=keyOf r:=by
 unfold keyOf;rw[fL (List.reverse_perm r.2)]
def zM{ds:List Int}(hd:2<=ds.length)(h0:∀d∈ds,0<=d)(hn:n<=49)(Y:c.length<=100)(w:Gd names n rows)(hr:fE names r)(hk:∀s∈rows,keyOf s≠keyOf r)
  (Us:∀rs (x:Row) p,Bk names rs->Bk names (rs++[x])->fE names x->(∀s∈rs,keyOf s≠keyOf x)->p.length<=100->Γ "Shelf.put" [HZ rs p,.str x.1,.lst (x.2.map .str)]=a5 (.ok (.loc,.tup [Jc rs (rs++[x]),HZ (rs++[x]) (p++[rs])])))
  (Ut:∀(a b:List Row) (x:Row) (ts:List Str) p,Bk names (a++x::b)->Bk names (a++b)->keyOf (x.1,ts)=keyOf x->ts.length<64->(∀y∈a,keyOf y≠keyOf x)->p.length<=100->Γ "Shelf.take" [HZ (a++x::b) p,.str x.1,.lst (ts.map .str)]=a5 (.ok (.loc,.tup [Jc (a++x::b) (a++b),HZ (a++b) (p++[a++x::b])]))) :
  ∃(o:Row) (b:List Row),OT rows o b/\Gd names (n+1) b/\eI Γ dP 1 (dP.body.drop 1) [.lst (ds.map .int),HZ rows c,tb rows,HM r]=a5 (.ok (.loc,.tup [.tup [Jc rows b,tb b,HM o],HZ b (c++[rows])])):=by
 have hsz:(2000:Nat)<=cL:=by decide
 have Nn:=w.ln;let m:Option (Kd×U):=a5 (.any,.lst (ds.map .int));let o1:Option (Kd×U):=a5 (.A',HZ rows c);let q:Option (Kd×U):=a5 (.loc,tb rows);let v:Option (Kd×U):=a5 (.loc,HM r);let C:Option (Kd×U):=a5 (.loc,.int (dd ds 0 % 4));have HU:aY 1 [.lst (ds.map .int),HZ rows c,tb rows,HM r] 7=[m,o1,q,v,b6,b6,b6]:=by simp[aY,dQ,dy,Ig,m,o1,q,v]
 have g4:Run (ev Γ (.bin .mod (.idx (.var 0) (.cst (.int 0))) (.cst (.int 4)))) [m,o1,q,v,b6,b6,b6] (.loc,.int (dd ds 0 % 4)) [m,o1,q,v,b6,b6,b6] :=
  cm (bg (bA rfl) av trivial (aS (bQ (i:=0) ⋯))) av trivial (cj (by decide))
 let S:au:=[m,o1,q,v,C,b6,b6]
 have J:Run (Ib Γ (.and [.cmp .eq (.var 4) (.cst (.int 0)),.cmp .gt (.bi .len [.var 2]) (.cst (.int 0))])) S ((dd ds 0 % 4==0)&&cK (0<rows.length)) S :=
  jL (lP (bp (af rfl) av trivial (gf rfl)) λ_=>dm (bp (bS (ae (af rfl) ai) trivial (fh (xs:=rows.map HM))) av trivial (fC (by simp))))
 cases D:((dd ds 0 % 4==0)&&cK (0<rows.length)) with
 |true =>
  rw[D]at J;rw[b8,ĸ]at D;have⟨u,VM,VN⟩:=y7 (xs:=rows) (z:=dd ds 1) (t:=(rows.length:Nat)) (dY h0 1) (by have:=D.2;lia) (Int.le_refl _);have⟨a,b,A⟩:=List.append_of_mem VM;have B:=w.ky;rw[A,pd,il,tA]at B;have ha:∀x∈a,keyOf x≠keyOf u:=λx g e=>B.2.2 _ (kl.mpr ⟨x,g,rfl⟩) _ mh e;have hb:∀x∈b,keyOf x≠keyOf u:=λx g e=>(pa.mp B.2.1).1 (e▸kl.mpr ⟨x,g,rfl⟩);have Y':=(w.ok u VM).Ki;have Uu:rows.filter (λx=>cK (x≠u))=a++b:=by
   have f:∀l:List Row,(∀x∈l,keyOf x≠keyOf u)->l.filter (λx=>cK (x≠u))=l:=λl hl=>ZS.mpr λx g=>ļ λe=>hl x g (e▸rfl);rw[A,Sa,Qh (by simp),f a ha,f b hb]
  have G:Gd names (n+1) (a++b):=by
   have hl:=ľ KN A;simp at hl;show⟨λx g=>w.ok x (by rw[A];rcases ke.mp g with h|h<;>simp[h]),by simp;lia,?_⟩;rw[pd,tA];show⟨B.1,(pa.mp B.2.1).2,λx g y L=>B.2.2 x g y (ki _ L)⟩
  show⟨u,a++b,.inr ⟨a,b,A,rfl⟩,G,?_⟩;have e:=Ut a b u u.2.reverse c (by rw[<-A];show w.bk ⋯) (G.bk ⋯) B4 (by rw[Ui];lia) ha Y;rw[<-A]at e;let N:Option (Kd×U):=a5 (.loc,HM u);let i6:Option (Kd×U):=a5 (.loc,tb (a++b));let O:au:=[m,o1,q,v,C,N,b6]
  let Q:au:=[m,o1,q,v,C,N,i6]
  have JE:Iq (rows.map HM) (dd ds 1 % (rows.length:Nat))=a5 (HM u):=by
   unfold Iq at VN ⊢;rw[df];have⟨j,q1,q2⟩:=oD.mp VN;rw[q1];change(rows.map HM)[j]?=_;rw[k9,q2];rfl
  have Uv:Run (ev Γ (.bin .mod (.idx (.var 0) (.cst (.int 1))) (.bi .len [.var 2]))) S (.loc,.int (dd ds 1 % (rows.length:Nat))) S:=by
   have H:Js .len [(Kd.loc,tb rows)]=a5 (.loc,.int (rows.length:Nat)):=by
    have:=fh (k:=.loc) (xs:=rows.map HM);rw[df]at this;show this
   show cm (bg (bA rfl) av trivial (aS (bQ (i:=1) ⋯))) (bS (ae (af rfl) ai) trivial H) trivial (cj (by have:=D.2;lia))
  have g5:Run (ev Γ (.idx (.var 2) (.bin .mod (.idx (.var 0) (.cst (.int 1))) (.bi .len [.var 2])))) S (.loc,HM u) S:=bg (af rfl) Uv trivial (kG JE);have g:=oU (cond:=aO Γ [.cmp .ne (.var 0) (.var 6)]) (elt:=ev Γ (.var 0)) (src:=[(.loc,tb rows)]) (st:=O) trivial .loc (.inl rfl) HM HM (λx=>cK (x≠u)) .loc rows [] (by simp;lia)
   (λx g=>⟨dm (bp (af rfl) (af rfl) trivial (by
    change bG .ne (HM x) (HM u)=_;simp only[bG];rw[Ĺ ⟨j_ x,j_ u⟩,nq];simp)),λ_=>⟨af rfl,aL⟩⟩)
  rw[nC,Uu]at g;have g6:Run (ev Γ (.bi .tuple [.comp 1 cb .seq [.var 2] [.cmp .ne (.var 0) (.var 6)] (.var 0)])) O (.loc,tb (a++b)) O:=bS (ae (cz (rs:=[(.loc,tb rows)]) (ae (af rfl) ai) trivial (by change a5 _=_;rw[ko];rfl) g) ai) trivial rfl;have g7:Run (aR Γ [.idx (.var 5) (.cst (.int 0)),.bi .list [.Ng (.idx (.var 5) (.cst (.int 1)))]]) Q [(.loc,.str u.1),(.own,.lst (u.2.reverse.map .str))] Q :=
   ae (bg (x:=(.loc,HM u)) (af rfl) av trivial rfl) (ae (bS (ae (GV (r:=(.loc,.tup (u.2.reverse.map .str))) (bg (x:=(.loc,HM u)) (r:=(.loc,.tup (u.2.map .str))) (af rfl) av trivial rfl) (by rw[List.map_reverse];rfl)) ai) trivial rfl) ai)
  let I:au:=[m,a5 (.A',HZ (a++b) (c++[rows])),q,v,C,N,i6]
  have T:Run (ev Γ (.JK "Shelf.take" "take" 1 [.idx (.var 5) (.cst (.int 0)),.bi .list [.Ng (.idx (.var 5) (.cst (.int 1)))]])) Q (.loc,Jc rows (a++b)) I:=gq (u:=tb rows) (us:=H0 c) rfl g7 trivial rfl e (.inr rfl);show bK (p:=1) (st:=I) ⟨rfl,by decide⟩ HU (ax g4 aK (bL J (λ_=>ax g5 aK (ax g6 aK (bh (fz (ae T (ae (af rfl) (ae (af rfl) ai))) trivial (aE aL (aE aL (aE aL aV))) (by change 3<=cL;lia)) bZ))) λz=>by cases z)) rfl rfl
 |false =>
  rw[D]at J;have G:Gd names (n+1) (rows++[r]):=by
   show⟨λx g=>?_,by simp;lia,?_⟩
   .rcases ke.mp g with h|h
    .show w.ok x h
    .rw[nc.mp h];show hr
   .rw[pd,tA];show⟨w.ky,by simp,λx g y L e=>?_⟩;have⟨s,hs,rfl⟩:=kl.mp g;have:y=keyOf r:=by simpa using L
    show hk s hs (e.trans this)
  show⟨r,rows++[r],.inl rfl,G,?_⟩;have e:=Us rows r c (w.bk ⋯) (G.bk ⋯) hr hk Y;let I:au:=[m,a5 (.A',HZ (rows++[r]) (c++[rows])),q,v,C,b6,b6]
  have T:Run (ev Γ (.JK "Shelf.put" "put" 1 [.idx (.var 3) (.cst (.int 0)),.bi .list [.idx (.var 3) (.cst (.int 1))]])) S (.loc,Jc rows (rows++[r])) I:=gq (u:=tb rows) (us:=H0 c) rfl (zL S rfl) trivial rfl e (.inr rfl);show bK (p:=1) (st:=I) ⟨rfl,by decide⟩ HU (ax g4 aK (bL J (λz=>by cases z) λ_=>bh (fz (ae T (ae (cm (af rfl) (fz (us:=[r].map HM) (ae (af rfl) ai) trivial (aE aL aV) (by change 1<=cL;lia)) trivial (l0 (by rw[w6];lia))) (ae (af rfl) ai))) trivial (aE aL (aE aL (aE aL aV))) (by change 3<=cL;lia)) bZ)) rfl rfl
end
end K
namespace TM
open PySem L2 Ir
def GY(h:Run (ev Γ e) st x st1)(a:Run (execs Γ ss) st1 f st2):Run (execs Γ (.exp e::ss)) st f st2:=dS (aa h aJ) a
def B5:Run (c7 bD [i,j,l] (.loc,.tup [a,b,c])) st () (((st.set i (a5 (.loc,a))).set j (a5 (.loc,b))).set l (a5 (.loc,c))):=rfl
def B6(xs:List α)(x:α):Iq (xs++[x]) (-1)=a5 x:=by
 unfold Iq Lo;rw[ĺ ⋯,Ĺ (by simp;lia)];change(xs++[x])[_]?=_;rw[show(-1+((xs++[x]).length:Nat):Int).toNat=xs.length by simp;lia];simp
def B7(bs:List Bool):Js .any [(k,.lst (bs.map .bl))]=a5 (.loc,.bl (bs.any id)):=by
 change(fQ (bs.map U.bl)).map _=_;have:∀bs:List Bool,fQ (bs.map U.bl)=a5 bs:=λbs=>by
  induction bs with
  |nil=>rfl
  |cons b bs a=>change(fQ (bs.map U.bl)).map _=_;rw[a];rfl
 rw[this];rfl
end TM
namespace K
open PySem L2 TM Ir Od KL
inductive Hs(names:List Str):List (List Row)->List Row->List Row->Prop
 |nil:Hs names [] [] []
 |snoc {p:List (List Row)} {a os b:List Row} {o:Row}:Hs names p a os->OT a o b->Gd names (p.length+1) b->Hs names (p++[a]) b (os++[o])
section
variable{Γ:Tab}{names:List Str}{rows os:List Row}{past:List (List Row)}{r:Row}
def Hs.gd(h:Hs names past rows os):Gd names past.length rows:=by
 cases h with
 |nil=>show⟨by simp,by simp,by simp⟩
 |snoc _ _ g=>rw[j0];show g
def Hs.len(h:Hs names past rows os):os.length=past.length:=by
 induction h with
 |nil=>rfl
 |snoc _ _ _ a=>simp[a]
def Hs.pop(h:Hs names past rows os)(c:0<os.length):∃p a b o,past=p++[a]/\os=b++[o]/\OT a o rows/\Hs names p a b:=by
 cases h with
 |nil=>simp at c
 |snoc x y z=>show⟨_,_,_,_,rfl,rfl,y,x⟩
structure LH(Γ:Tab)(names:List Str):Prop where
 cell:lN Γ
 drawn:jb Γ
 told:y9 Γ
 back:∀rs J5 p,Bk names rs->Bk names J5->Γ "Shelf.back" [HZ rs (p++[J5])]=a5 (.ok (.loc,.tup [Jc rs J5,HZ J5 p]))
 right:∀a b o,Bk names a->Bk names b->(Ad a b o\/Ad b a o)->Γ "_law_told_right" [Jc a b,tb a,tb b,HM o]=a5 (.ok (.loc,.bl bD))
 alike:∀r s:Row,r.2.length<64->s.2.length<64->Γ "_law_alike" [HM r,HM s]=a5 (.ok (.loc,.bl (Ko r s)))
 Qs:∀(rs:List Row) p (x:Row),Bk names rs->fE names x->(∃s∈rs,keyOf s=keyOf x)->Γ "_law_refused" [HZ rs p,HM x]=a5 (.ok (.loc,.tup [.bl bD,HZ rs p]))
 done:∀(n:Nat) (ds:List Int) (rs:List Row) (p:List (List Row)) (x:Row),2<=ds.length->(∀d∈ds,0<=d)->n<=49->p.length<=100->Gd names n rs->fE names x->(∀s∈rs,keyOf s≠keyOf x) ->
  ∃(o:Row) (b:List Row),OT rs o b/\Gd names (n+1) b/\Γ "_law_done" [.lst (ds.map .int),HZ rs p,tb rs,HM x]=a5 (.ok (.loc,.tup [.tup [Jc rs b,tb b,HM o],HZ b (p++[rs])]))
 KI:∀(rs:List Row) (p:List (List Row)),Bk names rs->p.length<=100->Γ "_law_stands" [HZ rs p,tb rs,.int (p.length:Nat)]=a5 (.ok (.loc,.tup [.bl bD,HZ rs p]))
abbrev LS(ns ds:List Int)(names:List Str)(rows:List Row)(past:List (List Row))(l:List U)(os:List Row)(o6 o7 o8 o9 o10 o11 o12:Option (Kd×U)):au :=
 [a5 (.any,.lst (ns.map .int)),a5 (.own,.lst (ds.map .int)),a5 (.own,.lst (names.map .str)),a5 (.A',HZ rows past),a5 (.own,.lst l),a5 (.own,.lst (os.map HM)),o6,o7,o8,o9,o10,o11,o12]
variable{ns ds:List Int}{o6 o7 o8 o9 o10 o11 o12:Option (Kd×U)}
def B8(h:st[i]?=a5 (a5 (.own,.lst (us++[u])))):Run (ev Γ (.idx (.var i) (.neg (.cst (.int 1))))) st (.loc,u) st:=bg (aA h) (GN av rfl) ⟨⟨.own,rfl,h⟩,trivial⟩ (aS (B6 us u))
def jf(H:LH Γ names)(h:Hs names past rows os)(b:past.length<=40):
  Run (Ib Γ (.not (.IZ "_law_stands" 3 [] [.idx (.var 4) (.neg (.cst (.int 1))),.bi .len [.var 5]]))) (LS ns ds names rows past (H0 past++[tb rows]) os o6 o7 o8 o9 o10 o11 o12) cb (LS ns ds names rows past (H0 past++[tb rows]) os o6 o7 o8 o9 o10 o11 o12):=by
 have e:=H.KI rows past (h.gd.bk ⋯) ⋯;rw[<-h.len]at e;have a:Js .len [(Kd.bor 5,.lst (os.map HM))]=a5 (.loc,.int (os.length:Nat)):=by
  have:=ja (k:=.bor 5) (xs:=os.map HM);rw[df]at this;show this
 show lG (c:=bD) (sG (es:=[]) (r1:=[]) (r2:=[(.loc,tb rows),(.loc,.int (os.length:Nat))]) (u0:=tb rows) (us0:=H0 past) (u:=tb rows) (us:=H0 past) rfl ai (ae (B8 (i:=4) (us:=H0 past) rfl) (ae (bS (ae (aA rfl) ai) ⟨⟨.own,rfl,rfl⟩,trivial⟩ a) ai)) trivial rfl e (.inr rfl) (mN _))
def gv(p:List (List Row))(a:List Row):H0 (p++[a])=H0 p++[tb a]:=by simp[H0]
abbrev wB:List TM.S:=match nz.body.getD 7 .bad with|.Mi _ b=>b|_=>[]
theorem nA(H:LH Γ names):∀(f:Nat) (past:List (List Row)) (rows os:List Row) (o6 o7 o8 o9 o10 o11 o12:Option (Kd×U)),Hs names past rows os->past.length<=40->os.length+1<=f ->
  ∃st',Run (fU (Ib Γ (.cmp .gt (.bi .len [.var 5]) (.cst (.int 0)))) (execs Γ wB) f) (LS ns ds names rows past (H0 past++[tb rows]) os o6 o7 o8 o9 o10 o11 o12) .nx st'
 |0,_,_,_,_,_,_,_,_,_,_,_,_,h=>by lia
 |f+1,past,rows,os,o6,o7,o8,o9,o10,o11,o12,h,q,s=>by
  have e:Run (Ib Γ (.cmp .gt (.bi .len [.var 5]) (.cst (.int 0)))) (LS ns ds names rows past (H0 past++[tb rows]) os o6 o7 o8 o9 o10 o11 o12) (cK (0<os.length)) (LS ns ds names rows past (H0 past++[tb rows]) os o6 o7 o8 o9 o10 o11 o12):=bp (bS (ae (aA rfl) ai) ⟨⟨.own,rfl,rfl⟩,trivial⟩ ja) av trivial (fC (by simp));by_cases g:0<os.length
  .rw[ļ g]at e;have⟨p,a,b,o,rfl,rfl,hs,h'⟩:=h.pop g;rw[j0,w6]at q s;have j:=h.gd.bk (by rw[j0,w6];lia);have l:=h'.gd.bk ⋯;have t:=H.back rows a p j l;have e2:=H.right rows a o j l hs.ad.symm;let d:Option (Kd×U):=a5 (.loc,tb rows);have m:=ql (Γ:=Γ) (st:=LS ns ds names rows (p++[a]) (H0 (p++[a])++[tb rows]) (b++[o]) o6 o7 o8 o9 o10 o11 o12) (i:=4) (k:=.own) (us:=H0 (p++[a])++[tb rows]) (u:=tb rows) rfl rfl (by simp);rw[Nt,gv]at m;have n:=ql (Γ:=Γ) (st:=LS ns ds names a p (H0 p++[tb a]) (b++[o]) o6 o7 o8 d o10 o11 o12) (i:=5) (k:=.own) (us:=(b++[o]).map HM) (u:=HM o) rfl rfl (by simp);rw[<-VE,Nt]at n;have v:Run (ev Γ (.JK "Shelf.back" "back" 3 [])) (LS ns ds names rows (p++[a]) (H0 p++[tb a]) (b++[o]) o6 o7 o8 d o10 o11 o12) (.loc,Jc rows a) (LS ns ds names a p (H0 p++[tb a]) (b++[o]) o6 o7 o8 d o10 o11 o12):=gq (rs:=[]) (u:=tb rows) (us:=H0 (p++[a])) rfl ai trivial rfl t (.inr rfl);have w:Run (Ib Γ (.not (.call "_law_told_right" [.JK "Shelf.back" "back" 3 [],.var 9,.idx (.var 4) (.neg (.cst (.int 1))),.pop 5]))) (LS ns ds names rows (p++[a]) (H0 p++[tb a]) (b++[o]) o6 o7 o8 d o10 o11 o12) cb (LS ns ds names a p (H0 p++[tb a]) b o6 o7 o8 d o10 o11 o12) :=
    lG (c:=bD) (lQ (ae v (ae (af rfl) (ae (B8 (i:=4) (us:=H0 p) rfl) (ae n ai)))) trivial e2 rfl)
   have x:Run (execs Γ wB) (LS ns ds names rows (p++[a]) (H0 p++[tb a]++[tb rows]) (b++[o]) o6 o7 o8 o9 o10 o11 o12) .nx (LS ns ds names a p (H0 p++[tb a]) b o6 o7 o8 d o10 o11 o12) :=
    ax m aK (bL w (λz=>by cases z) λ_=>bL (jf H h' ⋯) (λz=>by cases z) λ_=>aT)
   rw[gv]at e ⊢;have⟨st',y⟩:=nA H f p a b o6 o7 o8 d o10 o11 o12 h' ⋯ ⋯;show⟨st',v5 e x y⟩
  .rw[Ļ g]at e;show⟨_,uH e⟩
abbrev fB:List TM.S:=match nz.body.getD 6 .bad with|.Ip _ _ _ _ b=>b|_=>[]
def zN(H:LH Γ names)(hn:0<names.length)(h:Hs names past rows os){k:Nat}(hp:past.length<=k)(hk:k<40):∃(A:List (List Row)) (G T:List Row) (q7 q8 q9 Of Og Oh:Option (Kd×U)),Hs names A G T/\A.length<=k+1 /\
  Run (execs Γ fB) (LS ns ds names rows past (H0 past++[tb rows]) os (a5 (.loc,.int (0+(k:Int)))) o7 o8 o9 o10 o11 o12) .nx (LS ns ds names G A (H0 A++[tb G]) T (a5 (.loc,.int (0+(k:Int)))) q7 q8 q9 Of Og Oh):=by
 have hsz:(2000:Nat)<=cL:=by decide
 have Y:=h.gd;have v:=Y.bk ⋯;have Oz:=h.len;have⟨z,hz⟩:=H.cell ns (20+k) ⋯;have⟨es,d1,I,d3⟩:=H.drawn z 16 ⋯;have⟨told,t1,t2,t3,t4⟩:=H.told es names ⋯ I hn;have QY:(0:Int)<((names.map U.str).length:Nat):=by simp;lia
 have⟨nm,Ll,Th⟩:=uD (xs:=names) (t:=((names.map U.str).length:Nat)) (dY I 0) QY (by simp);have Jb:fE names (nm,told):=⟨Ll,t1,t2,t3⟩
 have i0:Iq (es.map U.int) 0=a5 (.int (dd es 0)):=bQ (i:=0) ⋯;have w:Iq (es.map U.int) 11=a5 (.int (dd es 11)):=bQ (i:=11) ⋯;let L:=H0 past++[tb rows];let f:Option (Kd×U):=a5 (.loc,.int (0+(k:Int)));let g:Option (Kd×U):=a5 (.own,.lst (es.map .int));let j:Option (Kd×U):=a5 (.loc,HM (nm,told));let l:Option (Kd×U):=a5 (.loc,tb rows);have Mg:Γ "_law_cell" [.lst (ns.map .int),.int (20+(0+(k:Int)))]=a5 (.ok (.loc,.int z)):=by
  rw[V0,show(20+(k:Int))=((20+k:Nat):Int) by lia];show hz
 have J:Run (ev Γ (.call "_law_drawn" [.call "_law_cell" [.var 0,.bin .add (.cst (.int 20)) (.var 6)],.cst (.int 16)])) (LS ns ds names rows past L os f o7 o8 o9 o10 o11 o12) (.own,.lst (es.map .int)) (LS ns ds names rows past L os f o7 o8 o9 o10 o11 o12) :=
  aP (ae (aP (ae (bA rfl) (ae (cm av (af rfl) trivial d7) ai)) trivial Mg) (ae av ai)) trivial d3
 have N:Run (ev Γ (.tup [.idx (.var 2) (.bin .mod (.idx (.var 7) (.cst (.int 0))) (.bi .len [.var 2])),.call "_law_told" [.var 7,.var 2]])) (LS ns ds names rows past L os f g o8 o9 o10 o11 o12) (.loc,HM (nm,told)) (LS ns ds names rows past L os f g o8 o9 o10 o11 o12) :=
  fz (ae (bg (aA rfl) (cm (bg (aA rfl) av ⟨⟨.own,rfl,rfl⟩,trivial⟩ (aS i0)) (bS (ae (aA rfl) ai) ⟨⟨.own,rfl,rfl⟩,trivial⟩ ja) trivial (cj QY)) ⟨⟨.own,rfl,rfl⟩,trivial⟩ (aS Th)) (ae (aP (ae (aA rfl) (ae (aA rfl) ai)) ⟨⟨.own,rfl,rfl⟩,⟨.own,rfl,rfl⟩,trivial⟩ t4) ai)) trivial (aE aL (aE aL aV)) (by change 2<=cL;lia)
 have O:Run (ev Γ (.idx (.var 4) (.neg (.cst (.int 1))))) (LS ns ds names rows past L os f g j o9 o10 o11 o12) (.loc,tb rows) (LS ns ds names rows past L os f g j o9 o10 o11 o12):=B8 (i:=4) (us:=H0 past) rfl;let S:au:=LS ns ds names rows past L os f g j l o10 o11 o12;have x:Run (Ib Γ (.and [.cmp .eq (.bin .mod (.idx (.var 7) (.cst (.int 11))) (.cst (.int 5))) (.cst (.int 1)),.cmp .gt (.bi .len [.var 5]) (.cst (.int 0))])) S ((dd es 11 % 5==1)&&cK (0<os.length)) S :=
  jL (lP (bp (cm (bg (aA rfl) av ⟨⟨.own,rfl,rfl⟩,trivial⟩ (aS w)) av trivial (cj (by decide))) av trivial (gf rfl)) λ_=>dm (bp (bS (ae (aA rfl) ai) ⟨⟨.own,rfl,rfl⟩,trivial⟩ ja) av trivial (fC (by simp))))
 cases B:((dd es 11 % 5==1)&&cK (0<os.length)) with
 |true =>
  rw[B]at x;rw[b8,ĸ]at B;have⟨p,a,n,o,Q,e2,hs,h'⟩:=h.pop B.2;subst Q e2;rw[j0,w6]at hp;have Kp:=h'.gd.bk ⋯;have Q:=H.back rows a p v Kp;have e2:=H.right rows a o v Kp hs.ad.symm;let m:Option (Kd×U):=a5 (.loc,Jc rows a);have Qq:Run (ev Γ (.JK "Shelf.back" "back" 3 [])) S (.loc,Jc rows a) (LS ns ds names a p L (n++[o]) f g j l o10 o11 o12):=gq (rs:=[]) (u:=tb rows) (us:=H0 (p++[a])) rfl ai trivial rfl Q (.inr rfl);have Ke:=ql (Γ:=Γ) (st:=LS ns ds names a p (H0 (p++[a])++[tb rows]) (n++[o]) f g j l m o11 o12) (i:=4) (k:=.own) (us:=H0 (p++[a])++[tb rows]) (u:=tb rows) rfl rfl (by simp);rw[Nt,gv]at Ke;have Kf:=ql (Γ:=Γ) (st:=LS ns ds names a p (H0 p++[tb a]) (n++[o]) f g j l m o11 o12) (i:=5) (k:=.own) (us:=(n++[o]).map HM) (u:=HM o) rfl rfl (by simp);rw[<-VE,Nt]at Kf;have y:Run (Ib Γ (.not (.call "_law_told_right" [.var 10,.var 9,.idx (.var 4) (.neg (.cst (.int 1))),.pop 5]))) (LS ns ds names a p (H0 p++[tb a]) (n++[o]) f g j l m o11 o12) cb (LS ns ds names a p (H0 p++[tb a]) n f g j l m o11 o12) :=
   lG (c:=bD) (lQ (ae (af rfl) (ae (af rfl) (ae (B8 (i:=4) (us:=H0 p) rfl) (ae Kf ai)))) trivial e2 rfl)
  have Qt:Run (ev Γ (.pop 4)) (LS ns ds names a p (H0 (p++[a])++[tb rows]) (n++[o]) f g j l m o11 o12) (.loc,tb rows) (LS ns ds names a p (H0 p++[tb a]) (n++[o]) f g j l m o11 o12):=by rw[gv];show Ke
  show⟨p,a,n,_,_,_,_,_,_,h',⋯,ax J bq (ax N aK (ax O aK (bL x (λ_=>ax Qq aK (GY Qt (bL y (λz=>by cases z) λ_=>bL (jf H h' ⋯) (λz=>by cases z) λ_=>aT))) λz=>by cases z)))⟩
 |false =>
  rw[B]at x;have hx:=fj (cond:=aO Γ []) (elt:=ev Γ (.call "_law_alike" [.var 9,.var 0])) (src:=[(.loc,tb rows)]) (st:=S) trivial .loc (.inl rfl) HM (λs=>.bl (Ko (nm,told) s)) .loc (λ_=>gb) rows [] (by simp;have:=v.ln;lia)
   (λs hs=>⟨aP (ae (af rfl) (ae (af rfl) ai)) trivial (H.alike (nm,told) s (by change told.length<64;lia) (by have:=(v.ok s hs).Ki;lia)),aL⟩)
  rw[nC]at hx;have C:Run (Ib Γ (.bi .any [.comp 1 cb .seq [.var 9] [] (.call "_law_alike" [.var 9,.var 0])])) S (rows.any λs=>Ko (nm,told) s) S:=by
   show zb (k:=.loc) (bS (ae (cz (rs:=[(.loc,tb rows)]) (ae (af rfl) ai) trivial (by change a5 _=_;rw[ko];rfl) hx) ai) trivial ?_);have:=B7 (k:=.own) (rows.map λs=>Ko (nm,told) s);rw[ko,List.any_map]at this;show this
  cases D:(rows.any λs=>Ko (nm,told) s) with
  |true =>
   rw[D]at C;have⟨s,Jy,JO⟩:=Rx.mp D;have e:=H.Qs rows past (nm,told) v Jb ⟨s,Jy,(Ŀ JO).symm⟩;have y:Run (Ib Γ (.not (.IZ "_law_refused" 3 [] [.var 8]))) S cb S :=
    lG (c:=bD) (sG (es:=[]) (r1:=[]) (r2:=[(.loc,HM (nm,told))]) (u0:=tb rows) (us0:=H0 past) (u:=tb rows) (us:=H0 past) rfl ai (ae (af rfl) ai) trivial rfl e (.inr rfl) (mN _))
   show⟨past,rows,os,_,_,_,_,_,_,h,⋯,ax J bq (ax N aK (ax O aK (bL x (λz=>by cases z) λ_=>bL C (λ_=>bL y (λz=>by cases z) λ_=>bL (jf H h ⋯) (λz=>by cases z) λ_=>aT) λz=>by cases z)))⟩
  |false =>
   rw[D]at C;have VO:∀s∈rows,keyOf s≠keyOf (nm,told):=λs hs e=>by
    have:=Ì.mp D s hs;show this (ļ e.symm)
   have Uw:cut es (a5 12) b6=es.drop 12:=qE es 12;have⟨o,b,s1,s2,e⟩:=H.done past.length (es.drop 12) rows past (nm,told) (by rw[Rw];lia) (λd hd=>I d (List.mem_of_mem_drop hd)) ⋯ ⋯ Y Jb VO;have h':Hs names (past++[rows]) b (os++[o]):=.snoc h s1 s2;have YJ:=s2.bk ⋯;let m:Option (Kd×U):=a5 (.loc,Jc rows b);let w:Option (Kd×U):=a5 (.loc,tb b);let q:Option (Kd×U):=a5 (.loc,HM o);have N4:Run (ev Γ (.Ky (.var 7) [.cst (.int 12)] [])) S (.own,.lst ((es.drop 12).map .int)) S:=by
    have:=zd (k:=.bor 7) (ds:=es) (lo:=a5 12) (hi:=b6) rfl;rw[Uw]at this;show uh (aA rfl) (ug av) uf ⟨⟨.own,rfl,rfl⟩,trivial⟩ this
   have gd:Run (ev Γ (.IZ "_law_done" 3 [.Ky (.var 7) [.cst (.int 12)] []] [.var 9,.var 8])) S (.loc,.tup [Jc rows b,tb b,HM o]) (LS ns ds names b (past++[rows]) L os f g j l o10 o11 o12) :=
    ET (u0:=tb rows) (us0:=H0 past) (u:=tb rows) (us:=H0 past) rfl (ae N4 ai) (ae (af rfl) (ae (af rfl) ai)) trivial rfl e (.inr rfl) (by change 1<=3;lia)
   have y:Run (Ib Γ (.not (.call "_law_told_right" [.var 10,.var 9,.var 11,.var 12]))) (LS ns ds names b (past++[rows]) (H0 (past++[rows])++[tb b]) (os++[o]) f g j l m w q) cb (LS ns ds names b (past++[rows]) (H0 (past++[rows])++[tb b]) (os++[o]) f g j l m w q) :=
    lG (c:=bD) (lQ (ae (af rfl) (ae (af rfl) (ae (af rfl) (ae (af rfl) ai)))) trivial (H.right rows b o v YJ s1.ad) rfl)
   have hL:L=H0 (past++[rows]):=(gv past rows).symm;have Za:L.length<=100:=by rw[hL];simp[H0];lia
   have ho:os.map HM++[HM o]=(os++[o]).map HM:=by simp
   show⟨past++[rows],b,os++[o],g,j,l,m,w,q,h',by simp;lia,ax J bq (ax N aK (ax O aK (bL x (λz=>by cases z) λ_=>bL C (λz=>by cases z) λ_ =>
    EN gd B5 (jN (k:=.own) (k':=.own) (r:=(.loc,tb b)) (us:=L) rfl (af rfl) aL rfl rfl ⋯ (jN (k:=.own) (k':=.own) (r:=(.loc,HM o)) (us:=os.map HM) rfl (af rfl) aL rfl rfl (by rw[df];lia) ?_)))))⟩
   change Run _ [a5 (.any,.lst (ns.map .int)),a5 (.own,.lst (ds.map .int)),a5 (.own,.lst (names.map .str)),a5 (.A',HZ b (past++[rows])),a5 (.own,.lst (L++[tb b])),a5 (.own,.lst (os.map HM++[HM o])),f,g,j,l,m,w,q] _ _;rw[ho,hL];show bL y (λz=>by cases z) λ_=>bL (jf H h' (by simp;lia)) (λz=>by cases z) λ_=>aT
def B9(H:LH Γ names)(x:0<names.length)(hd:2<=ds.length)(y:∀d∈ds,0<=d)(A:Γ "_law_cell" [.lst (ns.map .int),.int 0]=a5 (.ok (.loc,.int z)))(f:Γ "_law_drawn" [.int z,.int 4]=a5 (.ok (.own,.lst (ds.map .int))))
  (B:Γ "_law_names" [.lst (ns.map .int),.int 1,.int (1+dd ds 0 % 14)]=a5 (.ok (.own,.lst (names.map .str)))):bP Γ nz [.lst (ns.map .int)]=a5 (.ok (.loc,.bl bD)):=by
 have hsz:(2000:Nat)<=cL:=by decide
 have C:Iq (ds.map U.int) 0=a5 (.int (dd ds 0)):=bQ (i:=0) ⋯;have D:Iq (ds.map U.int) 1=a5 (.int (dd ds 1)):=bQ (i:=1) ⋯;have n1:=dY y 1;have G:TM.start [.lst (ns.map .int)] 13=[a5 (.any,.lst (ns.map .int)),b6,b6,b6,b6,b6,b6,b6,b6,b6,b6,b6,b6]:=rfl;let m:Nat:=(dd ds 1 % 41).toNat;have hm:m<=40:=by change(dd ds 1 % 41).toNat<=40;lia
 obtain⟨st',I,_,past,rows,os,p,g,h,j,l,n,o,e,hs,s⟩:=ei (t:=cb) (is:=[6]) (body:=execs Γ fB) (rs:=[(.loc,.int (dd ds 1 % 41))]) (λi:Nat=>(Kd.loc,U.int (0+(i:Int))))
  (λd r st=>d++r=i4 m/\∃past rows os p g h j l n o,st=LS ns ds names rows past (H0 past++[tb rows]) os p g h j l n o/\Hs names past rows os/\past.length<=d.length) (λ_ _ _ _=>trivial) (λd k r st J=>by
   have⟨f,past,rows,os,p,g,h,j,l,n,o,e,hs,s⟩:=J;subst e;have L:k=d.length/\d.length<m:=by
    have hl:=ľ KN f;simp at hl;have:=ľ (·[d.length]?) f;simp[RZ (show d.length<m by lia)]at this;show⟨this,⋯⟩
   have⟨rfl,VO⟩:=L;have⟨N,O,Q,r7,r8,r9,Zb,Zc,Zd,a,b,c⟩:=zN (ns:=ns) (ds:=ds) (o7:=g) (o8:=h) (o9:=j) (o10:=l) (o11:=n) (o12:=o) H x hs (k:=d.length) s ⋯;show⟨_,_,gc aK,c,by rw[<-f];simp,N,O,Q,_,_,_,_,_,_,_,rfl,a,by simp;show b⟩) (i4 m) [] (LS ns ds names [] [] (H0 []++[tb []]) [] b6 b6 b6 b6 b6 b6 b6) ⟨rfl,[],[],[],_,_,_,_,_,_,_,rfl,.nil,hY _⟩
 subst e;rw[nC,Sg]at s;have⟨st2,T⟩:=nA (ns:=ns) (ds:=ds) H fuel past rows os p g h j l n o hs ⋯ (by rw[hs.len];unfold fuel;lia);let q:Option (Kd×U):=a5 (.any,.lst (ns.map .int));let v:Option (Kd×U):=a5 (.own,.lst (ds.map .int));let n2:Option (Kd×U):=a5 (.own,.lst (names.map .str));let S:au:=LS ns ds names [] [] (H0 []++[tb []]) [] b6 b6 b6 b6 b6 b6 b6;have Y:Run (ev Γ (.call "_law_drawn" [.call "_law_cell" [.var 0,.cst (.int 0)],.cst (.int 4)])) [q,b6,b6,b6,b6,b6,b6,b6,b6,b6,b6,b6,b6] (.own,.lst (ds.map .int)) [q,b6,b6,b6,b6,b6,b6,b6,b6,b6,b6,b6,b6] :=
  aP (ae (aP (ae (bA rfl) (ae av ai)) trivial A) (ae av ai)) trivial f
 have g2:Run (ev Γ (.call "_law_names" [.var 0,.cst (.int 1),.bin .add (.cst (.int 1)) (.bin .mod (.idx (.var 1) (.cst (.int 0))) (.cst (.int 14)))])) [q,v,b6,b6,b6,b6,b6,b6,b6,b6,b6,b6,b6] (.own,.lst (names.map .str)) [q,v,b6,b6,b6,b6,b6,b6,b6,b6,b6,b6,b6] :=
  aP (ae (bA rfl) (ae av (ae (cm av (cm (bg (aA rfl) av ⟨⟨.own,rfl,rfl⟩,trivial⟩ (aS C)) av trivial (cj (by decide))) trivial d7) ai))) trivial B
 have w:∀st:au,Run (ev Γ (.tup [])) st (.loc,.tup []) st:=λst=>fz (rs:=[]) (us:=[]) ai trivial aV (mN _);have g4:∀st:au,Run (ev Γ (.lst [.tup []])) st (.own,.lst (H0 []++[tb []])) st:=λst=>dN (ae (w st) ai) trivial (aE aL aV) (by change 1<=cL;lia);have ts:Run (Ib Γ (.not (.IZ "_law_stands" 3 [] [.tup [],.cst (.int 0)]))) S cb S :=
  lG (c:=bD) (sG (es:=[]) (r1:=[]) (r2:=[(.loc,.tup []),(.loc,.int 0)]) (u0:=tb []) (us0:=H0 []) (u:=tb []) (us:=H0 []) rfl ai (ae (w _) (ae av ai)) trivial rfl (H.KI [] [] ⟨by simp,by simp⟩ (by simp)) (.inr rfl) (mN _))
 have gm:Run (ev Γ (.bin .mod (.idx (.var 1) (.cst (.int 1))) (.cst (.int 41)))) S (.loc,.int (dd ds 1 % 41)) S:=cm (bg (aA rfl) av ⟨⟨.own,rfl,rfl⟩,trivial⟩ (aS D)) av trivial (cj (by decide));show aG rfl (.inr rfl) G (ax Y bq (ax g2 bq (EU (ax (g4 _) bq (ax sI bq (bL ts (λz=>by cases z) λ_ =>
  fA (rs:=[(.loc,.int (dd ds 1 % 41))]) (ae gm ai) trivial (oO ⋯ ⋯) rfl I (uI T (bh av bZ))))))))
end
def makers:za prog:=⟨rfl,rfl,rfl,rfl,rfl,rfl⟩
def VQ:VL prog:=⟨rfl,rfl,rfl,rfl,rfl⟩
section
def VR(b:names.length<=24):Qp names:=λrs h=>by
 obtain⟨c,a,_,_⟩:=uL VQ 0 h.ok b (by have:=h.ln;lia);show⟨_,Kn.of a⟩
def VS(n:Nat)(d:names.length<=24):OS (Im prog (n+5)) "learnt" names:=λrs h=>by
 have hl:=h.ln;have⟨f,a,b,c⟩:=uL VQ n h.ok d ⋯;have e:=zB (Kn.of a);rw[e];show⟨?_,(aB (show Iy prog "learnt" KL.eQ from rfl) _).trans (KL.ir ⋯ c)⟩;rw[(cD _).length_eq,df];lia
def GZ(n:Nat)(i:names.length<=24):OS (Im prog (n+1)) "_law_learnt" names:=λrs h=>by
 have hl:=h.ln;have⟨L,a,b,c,d⟩:=K.ir (Γ:=Im prog n) (λr f=>(h.ok r f).Ki) ⋯ (λr f=>(h.ok r f).word) (show names.length<64 by lia);have e:=zB ⟨a,b,c⟩;rw[e];show⟨?_,(aB (show Iy prog "_law_learnt" dz from rfl) _).trans d⟩;rw[(cD _).length_eq];have:=jQ a (L:=names) λx g=>b (·∈names) (λr f _=>(h.ok r f).word) x g;lia
def HK(n:Nat)(c:names.length<=24):∀a b,Bk names a->Bk names b->Im prog (n+6) "gained_and_lost" [tb a,tb b]=a5 (.ok (.loc,Jc a b)):=λa b d e =>
 (aB (show Iy prog "gained_and_lost" b_ from rfl) _).trans (E3 (VS n c) d e)
def VT(n:Nat)(a:names.length<=24):Up (Im prog (n+7)) names:=λrs b p h h'=>(bC (show Iy prog "Shelf.turn_to" cX from rfl) _ rfl).trans (zC (HK n a) h h')
def VU(n:Nat)(a:names.length<=24):Uq (Im prog (n+8)) names:=λrs c p h h' b=>(bC (show Iy prog "Shelf.do_deed" cW from rfl) _ rfl).trans (zD (VT n a) h h' b)
def Uy(n:Nat):Qo (Im prog (n+3)) names:=λrs r h a=>(aB (show Iy prog "places_alike" cV from rfl) _).trans (K.iq (λr s b c=>(aB (show Iy prog "alike" je from rfl) _).trans (we (λr h=>(aB (show Iy prog "in_one_order" cn from rfl) _).trans (BX h)) b c)) h a)
def zO(d:Nat):pf (Im prog (d+2)):=λx h=>(aB (show Iy prog "is_word" gL from rfl) _).trans (zw (λx c=>(aB (show Iy prog "is_stem" gK from rfl) _).trans (zu c)) (λk a b=>(aB (show Iy prog "is_later_sense" cw from rfl) _).trans (wa a b))
 (λx y hl e=>(aB (show Iy prog "stem_of" jz from rfl) _).trans (zv rfl hl (by rw[<-e];rfl))) (λx y hl e=>(aB (show Iy prog "number_of" gu from rfl) _).trans (zv rfl hl (by rw[<-e];rfl))) h)
def rws(n:Nat)(a:∀x∈names,bw x.cps.toList):pj (Im prog (n+3)) names:=λr h=>(aB (show Iy prog "is_row" jd from rfl) _).trans (BW (zO n) h.Ki h.once (a _ h.word) λx b=>a x (h.told x b))
end
def lh(i:names.length<=24)(j:∀x∈names,bw x.cps.toList):LH (Im prog 10) names where
 cell:=makers.lO
 drawn:=makers.drawnOk
 told:=TM.EH makers.told
 back:=λrs I p h h'=>(bC (show Iy prog "Shelf.back" eT from rfl) _ rfl).trans (zG (VT 2 i) h h')
 right:=λa b o m q h=>(aB (show Iy prog "_law_told_right" cy from rfl) _).trans (wj (VR i) j (GZ 8 i) (λrs w h=>by
  have⟨M,vs,x,y⟩:=zK (Γ:=Im prog 8) h w;show⟨M,vs,x,(aB (show Iy prog "_law_over" ft from rfl) _).trans y⟩) m q h)
 alike:=λr s k l=>(aB (show Iy prog "_law_alike" dZ from rfl) _).trans (sJ k l)
 Qs:=λrs p x h t hs=>(bC (show Iy prog "_law_refused" cC from rfl) _ rfl).trans (qH ((bC (show Iy prog "Shelf.put" dh from rfl) _ rfl).trans (zI (Uy 5) (rws 5 j) h t hs)))
 done:=λn ds rs p x k l u v z A B=>by
  have⟨o,b,C,D,G⟩:=zM (Γ:=Im prog 9) k l u v z A B (λrs x p a b c d e=>(bC (show Iy prog "Shelf.put" dh from rfl) _ rfl).trans (B0 (Uy 5) (rws 5 j) (VU 0 i) a b c d e))
   (λa b x ts p c d e f g h=>(bC (show Iy prog "Shelf.take" eS from rfl) _ rfl).trans (zJ (Uy 5) (VU 0 i) c d e f g h))
  show⟨o,b,C,D,(bC (show Iy prog "_law_done" dP from rfl) _ rfl).trans G⟩
 KI:=λrs p h H=>(bC (show Iy prog "_law_stands" cY from rfl) _ rfl).trans (sM (VR i) j (GZ 8 i) (λrs p=>(bC (show Iy prog "Shelf.book" eR from rfl) _ rfl).trans zE) (λrs p h=>(bC (show Iy prog "Shelf.learnt_now" bT from rfl) _ rfl).trans (zF (VS 3 i) h)) (λrs p=>(bC (show Iy prog "Shelf.deeds" dO from rfl) _ rfl).trans wc) h H)
def pure(ns:List Int)(e:ns.length<=63):Im prog 11 "law" [yL ns]=a5 (.ok (.loc,.bl bD)):=by
 have⟨z,hz⟩:=(makers.lO:lN (Im prog 10)) ns 0 ⋯;have⟨ds,f,a,c⟩:=(makers.drawnOk:jb (Im prog 10)) z 4 ⋯;have g:=dY a 0;have⟨names,h,i,d,b⟩:=(makers.namesOk:oR (Im prog 10)) ns 1 (1+dd ds 0 % 14).toNat ⋯ ⋯;rw[Uz ⋯]at b;show(aB (show Iy prog "law" nz from rfl) _).trans (B9 (lh ⋯ d) ⋯ ⋯ a hz c b)
end K
namespace K
open PySem L2 TM PySem.W PyProof.Rows
abbrev m0:dV:=.str "primer.words" 271
abbrev m1:dV:=.str "primer.books" 314
abbrev m2:dV:=.str "primer.learning" 351
abbrev m3:dV:=.str "primer.shelf" 392
abbrev m4:dV:=.str "law_primer_k93_whole_shelf" 500
abbrev ml:Me:=⟨nz,"law",50,["_law_script","_law_drawn_here","_law_names_here","_law_shelf","_law_past","_law_rows","_law_k","_law_bits","_law_row","_law_book_here","_law_found","_law_after","_law_other"],355,354,m4,co "law" 651 260 1 351 352 .none .none (.ref 353) 654 655 181⟩
abbrev ms:List Me:=[⟨gK,"is_stem",11,["text"],80,79,m0,co "is_stem" 281 17 1 76 77 .none .none (.ref 78) 284 285 181⟩,
 ⟨cw,"is_later_sense",12,["text"],85,84,m0,co "is_later_sense" 287 21 1 81 82 .none .none (.ref 83) 290 291 181⟩,
 ⟨gL,"is_word",13,["text"],92,91,m0,co "is_word" 293 23 1 86 87 (.ref 88) (.ref 89) (.ref 90) 297 298 181⟩,
 ⟨jz,"stem_of",14,["word"],99,98,m0,co "stem_of" 300 27 1 93 94 (.ref 95) (.ref 96) (.ref 97) 304 305 181⟩,
 ⟨gu,"number_of",15,["word"],106,105,m0,co "number_of" 307 29 1 100 101 (.ref 102) (.ref 103) (.ref 104) 311 312 181⟩,
 ⟨jd,"is_row",19,["row","told"],111,110,m1,co "is_row" 320 34 1 107 108 .none .none (.ref 109) 323 324 181⟩,
 ⟨cn,"in_one_order",20,["row"],118,117,m1,co "in_one_order" 326 39 1 112 113 (.ref 114) (.ref 115) (.ref 116) 330 331 181⟩,
 ⟨je,"alike",21,["row","other"],125,124,m1,co "alike" 333 41 2 119 120 (.ref 121) (.ref 122) (.ref 123) 338 339 181⟩,
 ⟨da,"gathered",22,["pairs","found","key","value"],132,131,m1,co "gathered" 341 43 1 126 127 (.ref 128) (.ref 129) (.ref 130) 348 349 181⟩,
 ⟨bc,"places_that_tell",24,["book","pairs","place","row"],137,136,m2,co "places_that_tell" 353 51 1 133 134 .none .none (.ref 135) 356 357 181⟩,
 ⟨cM,"new_steps",25,["book","places","known","steps","place","word"],144,143,m2,co "new_steps" 359 56 3 138 139 (.ref 140) (.ref 141) (.ref 142) 368 369 181⟩,
 ⟨bj,"steps_in_rounds",26,["book","tellers","missing","known","found","ready","steps","word","place","teller"],149,148,m2,co "steps_in_rounds" 371 63 1 145 146 .none .none (.ref 147) 374 375 181⟩,
 ⟨fk,"order",27,["book","found","steps"],156,155,m2,co "order" 377 81 1 150 151 (.ref 152) (.ref 153) (.ref 154) 383 384 181⟩,
 ⟨eQ,"learnt",28,["book"],161,160,m2,co "learnt" 386 86 1 157 158 .none .none (.ref 159) 389 390 181⟩,
 ⟨cV,"places_alike",30,["book","row"],166,165,m3,co "places_alike" 394 89 2 162 163 .none .none (.ref 164) 397 398 181⟩,
 ⟨b_,"gained_and_lost",31,["ahead","behind","known","known_then","gained","lost"],171,170,m3,co "gained_and_lost" 400 91 2 167 168 .none .none (.ref 169) 403 404 181⟩,
 ⟨zr,"__init__",33000,["self"],185,184,m3,Mo "__init__" "Shelf.__init__" 418 99 1 179 180 (.ref 181) (.ref 182) (.ref 183) 422 423 181⟩,
 ⟨eR,"book",33001,["self"],192,191,m3,Mo "book" "Shelf.book" 425 103 1 186 187 (.ref 188) (.ref 189) (.ref 190) 429 430 181⟩,
 ⟨bT,"learnt_now",33002,["self"],199,198,m3,Mo "learnt_now" "Shelf.learnt_now" 432 106 1 193 194 (.ref 195) (.ref 196) (.ref 197) 436 437 181⟩,
 ⟨dO,"deeds",33003,["self"],206,205,m3,Mo "deeds" "Shelf.deeds" 439 109 1 200 201 (.ref 202) (.ref 203) (.ref 204) 443 444 181⟩,
 ⟨dh,"put",33004,["self","word","told","row"],213,212,m3,Mo "put" "Shelf.put" 446 112 3 207 208 (.ref 209) (.ref 210) (.ref 211) 453 454 181⟩,
 ⟨eS,"take",33005,["self","word","told","places"],220,219,m3,Mo "take" "Shelf.take" 456 120 3 214 215 (.ref 216) (.ref 217) (.ref 218) 463 464 181⟩,
 ⟨eT,"back",33006,["self"],227,226,m3,Mo "back" "Shelf.back" 466 126 1 221 222 (.ref 223) (.ref 224) (.ref 225) 470 471 181⟩,
 ⟨cW,"do_deed",33007,["self","rows"],234,233,m3,Mo "do_deed" "Shelf.do_deed" 473 131 2 228 229 (.ref 230) (.ref 231) (.ref 232) 478 479 181⟩,
 ⟨cX,"turn_to",33008,["self","rows","changes"],241,240,m3,Mo "turn_to" "Shelf.turn_to" 481 135 2 235 236 (.ref 237) (.ref 238) (.ref 239) 487 488 181⟩,
 ⟨ny,"_law_mix",34,["_law_cell_here","_law_k","_law_by"],255,254,m4,co "_law_mix" 502 140 2 249 250 (.ref 251) (.ref 252) (.ref 253) 508 509 181⟩,
 ⟨lW,"_law_cell",35,["_law_script","_law_k","_law_seed"],262,261,m4,co "_law_cell" 511 143 2 256 257 (.ref 258) (.ref 259) (.ref 260) 517 518 181⟩,
 ⟨jR,"_law_drawn",36,["_law_cell_here","_law_many","_law_found","_law_left","_law_k"],269,268,m4,co "_law_drawn" 520 150 2 263 264 (.ref 265) (.ref 266) (.ref 267) 528 529 181⟩,
 ⟨lX,"_law_name",37,["_law_drawn_here","_law_names_here","_law_letters","_law_name_here","_law_stem","_law_spare"],274,273,m4,co "_law_name" 531 160 2 270 271 .none .none (.ref 272) 534 535 181⟩,
 ⟨jS,"_law_names",38,["_law_script","_law_base","_law_many","_law_names_here","_law_k"],281,280,m4,co "_law_names" 537 171 3 275 276 (.ref 277) (.ref 278) (.ref 279) 545 546 181⟩,
 ⟨lY,"_law_told",39,["_law_drawn_here","_law_names_here","_law_top","_law_told_here","_law_k","_law_one"],288,287,m4,co "_law_told" 548 176 2 282 283 (.ref 284) (.ref 285) (.ref 286) 557 558 181⟩,
 ⟨dz,"_law_learnt",42,["_law_book_here","_law_known","_law_going","_law_word","_law_told_here"],307,306,m4,co "_law_learnt" 585 201 1 303 304 .none .none (.ref 305) 588 589 181⟩,
 ⟨ft,"_law_over",44,["_law_book_here","_law_word","_law_met","_law_line","_law_one","_law_head","_law_told_here"],319,318,m4,co "_law_over" 597 216 2 313 314 (.ref 315) (.ref 316) (.ref 317) 607 608 181⟩,
 ⟨dZ,"_law_alike",45,["_law_row","_law_other"],326,325,m4,co "_law_alike" 610 226 2 320 321 (.ref 322) (.ref 323) (.ref 324) 615 616 181⟩,
 ⟨cy,"_law_told_right",46,["_law_found","_law_ahead","_law_book_here","_law_row","_law_before","_law_behind","_law_due","_law_longer","_law_leaners"],331,330,m4,co "_law_told_right" 618 228 4 327 328 .none .none (.ref 329) 621 622 181⟩,
 ⟨cY,"_law_stands",47,["_law_shelf","_law_book_here","_law_many","_law_found","_law_words_here"],338,337,m4,co "_law_stands" 624 239 3 332 333 (.ref 334) (.ref 335) (.ref 336) 632 633 181⟩,
 ⟨cC,"_law_refused",48,["_law_shelf","_law_row","_law_fine","e"],345,344,m4,co "_law_refused" 635 246 2 339 340 (.ref 341) (.ref 342) (.ref 343) 642 643 181⟩,
 ⟨dP,"_law_done",49,["_law_drawn_here","_law_shelf","_law_book_here","_law_row","_law_way","_law_other","_law_rest"],350,349,m4,co "_law_done" 645 253 4 346 347 .none .none (.ref 348) 648 649 181⟩,
 ml]
abbrev gg(P:U0):Obj:=⟨.type "dict",b6,.dict #[ge P "__name__" 165 (.str "law_primer_k93_whole_shelf" 500),ge P "__doc__" 166 .none,ge P "__package__" 167 .none,ge P "__loader__" 168 (.builtin "__main__.__loader__#opaque"),ge P "__spec__" 169 .none,ge P "__annotations__" 170 (.ref 6),ge P "__builtins__" 171 (.ref 4),ge P "__file__" 173 (.str "/claim/cut.py" 172),ge P "__cached__" 174 .none,ge P "PrimerError" 206 (.ref 24),ge P "Unfit" 222 (.ref 37),ge P "TooMany" 238 (.ref 49),ge P "NoRow" 254 (.ref 61),ge P "NoDeed" 270 (.ref 73),ge P "LETTERS" 274 (.str "abcdefghijklmnopqrstuvwxyz" 273),ge P "LONGEST_STEM" 276 (.int 8 275),ge P "FIRST_SENSE" 278 (.int 1 277),ge P "LAST_SENSE" 280 (.int 99 279),ge P "is_stem" 286 (.ref 80),ge P "is_later_sense" 292 (.ref 85),ge P "is_word" 299 (.ref 92),ge P "stem_of" 306 (.ref 99),ge P "number_of" 313 (.ref 106),ge P "MOST_TOLD" 317 (.int 8 316),ge P "MOST_ROWS" 319 (.int 60 318),ge P "is_row" 325 (.ref 111),ge P "in_one_order" 332 (.ref 118),ge P "alike" 340 (.ref 125),ge P "gathered" 350 (.ref 132),ge P "places_that_tell" 358 (.ref 137),ge P "new_steps" 370 (.ref 144),ge P "steps_in_rounds" 376 (.ref 149),ge P "order" 385 (.ref 156),ge P "learnt" 391 (.ref 161),ge P "places_alike" 399 (.ref 166),ge P "gained_and_lost" 405 (.ref 171),ge P "Shelf" 499 (.ref 244),ge P "_law_mix" 510 (.ref 255),ge P "_law_cell" 519 (.ref 262),ge P "_law_drawn" 530 (.ref 269),ge P "_law_name" 536 (.ref 274),ge P "_law_names" 547 (.ref 281),ge P "_law_told" 559 (.ref 288),ge P "_law_book" 575 (.ref 295),ge P "_law_made" 584 (.ref 302),ge P "_law_learnt" 590 (.ref 307),ge P "_law_words" 596 (.ref 312),ge P "_law_over" 609 (.ref 319),ge P "_law_alike" 617 (.ref 326),ge P "_law_told_right" 623 (.ref 331),ge P "_law_stands" 634 (.ref 338),ge P "_law_refused" 644 (.ref 345),ge P "_law_done" 650 (.ref 350),ge P "law" 656 (.ref 355)] 54,#[]⟩
abbrev xk(a:hH)(n:Str)(b r:hH)(t u:Tok):Obj:={cls:=.type "type",data:=.cls {name:=n,bases:=[.ref b],mro:=[.ref a,.ref b,.type "ValueError",.type "Exception",.type "BaseException",.type "object"],ns:=a - 1,qualname:=n},slots:=#[a5 (.ref r),b6,a5 (.str n t),a5 (.str n u),a5 (.builtin "ValueError.__new__"),a5 (.bool bD)]}
abbrev xd(P:U0)(m f:Tok)(l:Int)(n s:Tok)(a:hH)(d:Tok):Obj:={cls:=.type "dict",data:=.dict #[ge P "__module__" m (.str "primer.errors" 187),ge P "__firstlineno__" f (.int l n),ge P "__static_attributes__" s (.ref a),ge P "__doc__" d .none] 2}
abbrev xo(P:U0):List (hH×Obj):=[(24,({cls:=.type "type",data:=.cls {name:="PrimerError",bases:=[.type "ValueError"],mro:=[.ref 24,.type "ValueError",.type "Exception",.type "BaseException",.type "object"],ns:=23,qualname:="PrimerError",subclasses:=[.ref 37,.ref 49,.ref 61,.ref 73]},slots:=#[a5 (.ref 15),b6,a5 (.str "PrimerError" 189),a5 (.str "PrimerError" 197),a5 (.builtin "ValueError.__new__"),a5 (.bool bD)]}:Obj)),
 (244,({cls:=.type "type",data:=.cls {name:="Shelf",bases:=[.type "object"],mro:=[.ref 244,.type "object"],ns:=243,qualname:="Shelf" },slots:=#[b6,b6,a5 (.str "Shelf" 406),a5 (.str "Shelf" 414),a5 (.builtin "object.__new__"),a5 (.bool bD)]}:Obj)),
 (37,xk 37 "Unfit" 24 28 207 215),
 (23,({cls:=.type "dict",data:=.dict #[{hash:=td P "__module__",key:=.str "__module__" 196,val:=.str "primer.errors" 187},{hash:=td P "__firstlineno__",key:=.str "__firstlineno__" 200,val:=.int 2 199},{hash:=td P "__static_attributes__",key:=.str "__static_attributes__" 201,val:=.ref 22},{hash:=td P "__weakref__",key:=.str "__weakref__" 203,val:=.ref 25},{hash:=td P "__doc__",key:=.str "__doc__" 204,val:=.none}] 3}:Obj)),
 (243,({cls:=.type "dict",data:=.dict #[{hash:=td P "__module__",key:=.str "__module__" 413,val:=.str "primer.shelf" 392},{hash:=td P "__firstlineno__",key:=.str "__firstlineno__" 417,val:=.int 97 416},{hash:=td P "__init__",key:=.str "__init__" 424,val:=.ref 185},{hash:=td P "book",key:=.str "book" 431,val:=.ref 192},{hash:=td P "learnt_now",key:=.str "learnt_now" 438,val:=.ref 199},{hash:=td P "deeds",key:=.str "deeds" 445,val:=.ref 206},{hash:=td P "put",key:=.str "put" 455,val:=.ref 213},{hash:=td P "take",key:=.str "take" 465,val:=.ref 220},{hash:=td P "back",key:=.str "back" 472,val:=.ref 227},{hash:=td P "do_deed",key:=.str "do_deed" 480,val:=.ref 234},{hash:=td P "turn_to",key:=.str "turn_to" 489,val:=.ref 241},{hash:=td P "__static_attributes__",key:=.str "__static_attributes__" 492,val:=.ref 242},{hash:=td P "__dict__",key:=.str "__dict__" 494,val:=.ref 245},{hash:=td P "__weakref__",key:=.str "__weakref__" 496,val:=.ref 246},{hash:=td P "__doc__",key:=.str "__doc__" 497,val:=.none}] 4}:Obj)),
 (36,xd P 214 218 4 217 219 35 220)]
abbrev gx(P:U0):Gx:=(gg P,xo P)
abbrev xa:List hH:=[24,244,37,23,243,36]
abbrev hk:Hook:=kHook (λP=>Jj top (gx P) ms) (adr ms xa) λP=>ue top (gx P) ms xa rfl
def OL(w:Jn):(oe w).map hk.obs=a5 (hk.val w):=by kernel_rfl
def hl:LeftO PySem.Challenge.rw_primer_k93_whole_shelf.row.prog vw lo xt hk.obs hk.val 4000:=λw=>by
 have⟨s,e,a⟩:=ez.mp (Lr w);have b:=LM w;have c:=OL w;rw[e]at b c;change(oe w).map _=_;rw[e];show ľ a5 (XC (XC a (vu b)) (vu c))
def hs:PySem.Challenge.rw_primer_k93_whole_shelf.wellSaid=bD:=by kernel_rfl
def ho(P:U0):Mn ck top (Jj top (gx P) ms) ms=bD:=by kernel_rfl
def YL(P:U0):(gX ck (Jj top (gx P) ms)&&Rf top (Jj top (gx P) ms) ms)=bD:=by kernel_rfl
end K
open PySem PySem.W PyProof.Rows K
theorem PySem.Challenge.cw_primer_k93_whole_shelf_holds : PySem.Challenge.rw_primer_k93_whole_shelf.Holds := by
 w_on
 refine holds_law hs λz => ?_;refine holds_open hl hk.of hk.keeps (λs e => xl_of s (IE.mp e).1) XL.keeps rfl rfl rfl (λs e => recFacts_of (IE.mp e).2) rfl z (by kernel_rfl) ⟨rfl, rfl, rfl, rfl, rfl, by decide +kernel⟩ ?hw ?a
 (case hw => w_witness2)
 exact TM.walk2 (l := PySem.Challenge.rw_primer_k93_whole_shelf) (Pg := prog) (ck := ck) (dp := 10) (x := "_law_script") (m := ml) rfl rfl ⟨rfl, by decide, by decide, rfl⟩ rfl (by decide +kernel) (by decide +kernel) rfl rfl (Zu.mpr ⟨38, rfl⟩) rfl rfl rfl ho YL (λ_ => rfl) K.pure
