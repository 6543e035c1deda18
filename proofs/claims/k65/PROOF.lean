import PyProof.Rows.All
import Wide.All
import OpenK.AllK
import Wide.FinOn
import Lean
import PyProof.EqAt
import PyProof.EqKinds
import PyProof.TupleCall
import PyProof.StrLawsChain
import PyProof.StrLawsFirst
import PyProof.Rows.StrNews2
import OpenK.AllK
import PyProof.Rows.SortRunsK
import PyProof.Rows.SortShellK
import OpenK.AllK
import PyProof.AttrMissHeap
import PyProof.DictValues
import OpenK.AllK
import PySem.SetOps
import PyProof.StationsW
import PyProof.ExcBaseAll.ValueError
import PyProof.RulesAs
import PyProof.NsDelKeeps
import OpenK.AllK
import PyProof.ExcArgsOwn
import PyProof.ExcAttrAll.ValueError
import PyProof.IsiBase
import PySem.Challenge.RW_primer_k65_no_room
set_option Elab.async false
set_option linter.all false
set_option bootstrap.genMatcherCode false
set_option maxRecDepth 100000
set_option maxHeartbeats 4000000
set_option genInjectivity false
set_option genSizeOf false
set_option autoImplicit true
set_option relaxedAutoImplicit true
open Option renaming some->b6,none->b7,map_eq_some_iff->j',bind_eq_some_iff->wk,map_eq_none_iff->Ks,ite_none_right_eq_some->Mj,isNone_iff_eq_none->P9,isSome_map->SV,map_some->UY,isSome_iff_exists->V3,isSome_some->W5,getD_some->Xq,getD_none->Xr
open PySem renaming wpAny_bind->b8,sizeLine->eF,wpAny_pure->eH,Value->fx,Shared->hW,wpAny->iv,Addr->i6,model->j0,mainGlobals->nt,starEach->o5,Expr->tr,wpAny_mono->tA,wpAny_newObj_type->va,Program->y1,wpAny_holding->zy,wpAny_setState_of->z8,codeAny_builtin->As,rawInt->FL,World->F7,scanBound->Gy,wpAny_Call_Name_kw->H8,Heap->H9,bootBuiltins->IJ,Scope->Jy,Around->J0,wpAny_rule->KJ,eval->KZ,NameKind->K4,wpAny_call_entry->Lh,Stmt->Ll,cellsFrom->LF,wpAny_typeOf->LH,wpAny_truthy_bool->LI,foldedSetIterable->LK,plainId_quiet->LV,backTo->Ma,Builtin->MU,wpAny_passesOwn->M8,wpAny_execs_nil->M_,SetTable->Nc,wpAny_pyIter_list->NA,sysModules->NO,cLine->N9,codeAny_mono->Oa,binaryOp->Ot,wpAny_updateSeq->OA,holding->OB,assignEach->OE,wpAny_getItem_str_slice->OF,swapsWith->OI,call->OK,wpAny_setField->O',wpAny_loadPart_at->Pa,codeAny->Pt,compareOp->PQ,sliceBounds->PX,codeAny_call_builtin->PY,pyNext->P_,pushCells->Qf,isSubtype->Qg,wpAny_runValue->Qt,tupleKind_room_in1->Qv,relayAll->Qx,FuncData->Qy,wpAny_storeSet_of->QU,notedBy->QX,fits_of_scanBound->QY,Keyword->Q4,swapsWithSole->Rf,assign->Rg,wpAny_callSpecial?_slot->Rv,pickOrder->RA,compEnvC->RB,typeLookup->R9,setNext->R',relabel->Sa,callerA->Sd,post_val_or_str->Sw,letOwnedTupleGo->Sx,builtinLookup_eq_fast->SD,pyIter->S3,keywordEach->S4,isSubtype_type->S7,Params->S9,IsPart->Ti,getItem->Tz,collect->TB,wpAny_setEntries_of->T8,wpAny_Tuple_spliced->T9,call_meets->U0,wpAny_pyIter_slot->U9,wpAny_Assign_Name->U_,valueAt->U',setField->Va,setAddHashed->Vb,concat_meets->VB,wpAny_isInstance->V6,wpAny_execs_cons->V7,wpAny_askSetting->V',tupleKind->Wh,noFill_tuple_add->Wi,checkBuiltinCall->Wj,PassesOwn->Wl,typeLookup_type->Wz,pushCells_keeps->WA,codeAny_of_tree->WB,wpAny_load->WL,wpAny_call->WM,typeIs_str->WN,step->WO,newFunctionEnv->WQ,layNew->WR,backToKw->WS,atKey->WT,GenState->WU,wpAny_standAt->W8,wpAny_comprehension_free->W9,swappedStores->W_,seq_tuple_add->W',behindInMarks->Xa,attributeBase->Xb,updateSeq->Xn,bindL->Xo,bindC->Xp,wpAny_Call_method_late->Xt,sub_set_self->Xu,standAt->Xv,setNextDrawn->Xw,setItem->Xx,newList->Xy,BindsTo->XD,weight_type_call_type->XI,hashByValue_scannable->XJ,wpAny_of_eq->XZ,wpAny_field->X0,sizeLine_eq->X1,seqIndex_of->X2,raiseNew->X3,getAttr?->X4,entryFor->X5,codeAny_extend_loopS->X6,wpAny_pyIter_tuple->Yl,wpAny_Name->Ym,wpAny_List_spliced->Yn,typeOf->Yo,rule->Yp,getattributeRaised->Yq,builtinsNs->Yr,JoinOk->Yt,wpAny_sequenceKey->Yy,wpAny_assign_Name->Yz,spliced->YA,slot_list_getitem->YB,again->YC,ElemsOf->YI,Drawn->YJ,wpAny_setScan_of->YL,entryFor_of_tree->YM,check_set_init_1->YN,wpAny_specialOf->YZ,wpAny_seqItems->Y7,truthy->Y8,stored->Y9,setAddHashedIn->Y_,setAdd->Y',recursionLimit->Za,newTuple->Zb,newExc->Zc,firstArgMember->Zd,entryFor_alias->Ze,bindArgs->Zf,argsOk->Zg,WalksS->Zh,Result->Zn
open Bool renaming true->cb,and_eq_true->df,false->dV,false_ne_true->o6,not_eq_true'->Fx,eq_iff_iff->G8,false_eq_true->HF,and_eq_true_iff->H4,eq_false_iff->OD,and_true->PB,or_eq_true->PN,and_false->R8,not_true->SU,false_and->V5,or_false->Wx,noConfusion->XY
open PySem.Heap renaming get?_push_of_some->ek,get?_push_size->hH,lt_size->i0,get?_update_self->A0,SameBut->H_,get?_update_other->KG,get?_update_ne->PR,size_push->R5,size_update->XN
open List renaming length_map->f6,mem_cons->i1,map_cons->i2,size_toArray->ko,range->lg,mem_singleton->mf,getElem?_map->mh,map_map->mn,mem_append->mx,mem_map->my,getElem?_eq_some_iff->mN,mem_cons_of_mem->nc,getElem?_set_self->nC,getElem?_set_ne->nT,mem_cons_self->ov,length_append->oT,replicate->pe,mem_of_mem_take->pM,pairwise_append->rd,append_assoc->ro,length_take->sd,length_cons->ti,getElem?_eq_getElem->ts,nil_append->tx,lookup_cons->t4,map_append->uk,mem_range->uv,all_eq_true->ux,getElem?_append_right->vr,mem_append_right->y0,take_of_length_le->y4,take_append_drop->A1,getElem?_append_left->C0,extract_eq_drop_take->C1,nodup_cons->Gz,mem_iff_getElem->GZ,getElem?_drop->G2,append_nil->G5,filterMap_cons->He,pairwise_cons->HD,not_mem_nil->HI,take_sublist->Ia,find?_cons->IA,pairwise_iff_getElem->IM,drop_eq_getElem_cons->IS,zip_cons_cons->JE,mem_of_getElem?->JT,mem_append_left->JU,length_range->J1,getElem?_replicate->Kf,length_drop->KR,getElem_mem->KX,any_eq_true->KY,nodup_nil->Lf,mem_of_mem_drop->Lw,length->Lz,map_congr_left->LM,isEmpty_iff->LN,getElem?_cons_succ->LS,map_nil->Mr,mem_filter->Mz,foldl_cons->MD,perm_append_comm->MQ,take_add_one->MV,nodup_append->MX,drop_sublist->MY,drop_zero->Nt,mem_filterMap->Oe,getElem?_take->Of,length_singleton->OL,length_replicate->OP,length_nil->PF,getElem_of_mem->PU,getElem_take->Qc,mem_reverse->Qz,ext_getElem->QA,drop_length->QD,filter_eq_nil_iff->Rb,drop_eq_nil_of_le->Rc,pairwise_reverse->Ro,getElem?_eq_none->Rp,map_id->R7,any_cons->SN,foldl->S1,findIdx?_eq_some_iff_getElem->Ts,reverse_perm->TY,getElem_drop->TZ,foldl_append->T1,flatten_cons->T5,of_mem_zip->U6,drop_left'->U7,perm_append_singleton->V4,mem_take_iff_getElem->Wm,mem_drop_iff_getElem->Wn,findIdx?_eq_none_iff->Wo,set_comm->Wt,perm_nil->Wu,getElem?_take_of_lt->Wv,findIdx?->Ww,pairwise_mergeSort->WD,length_eq_zero_iff->WE,getD->WG,drop_of_length_le->WJ,range'->W6,take_succ_cons->Xi,mergeSort_perm->Xj,getElem?_range->Xk,take_length->XS,perm_middle->XT,isEmpty_nil->XU,getElem_map->XW,filter_cons->XX,length_set->Yc,map->Yj,drop_drop->Yk,take_add->Yw,map_take->Yx,any_map->YK
open Decidable renaming decide->f7
open Nat renaming le_refl->g0,ne_of_lt->l',lt_of_lt_of_le->mA,zero_le->qq,zero_add->FE,le_trans->F8,lt_irrefl->GC,ne_of_gt->Ic,lt_succ_of_lt->Ie,le_succ->IE,lt_trans->KN,le_of_lt->LA,lt_of_le_of_lt->Mt,lt_succ_self->NJ,add_sub_cancel_left->Ol,lt_of_lt_of_eq->Qb,lt_trichotomy->Qi,min_eq_left->Rm,le_of_succ_le->Ur,le_of_eq->UU,min_eq_right->U1,le_add_right->U2,sub_zero->WX,le_total->WY,not_succ_le_self->Xh,mod_lt->XH,succ_ne_zero->X',not_lt_of_lt->Ya,le_of_not_lt->Yb,add_zero->YU,log2_lt->Y6
open PyProof.Rows renaming wpS_bind->hQ,arrOf->i5,wpS_pure->k7,pendingOf->tp,wpS_forRange->FG,slot_tuple_getitem->FN,size_push'->G',seqObj->JH,oneType'->JP,callWith_type1->JQ,Keyed->KI,wpS_mono->K6,mirror->Mc,SortSt->Ms,failedOf->Nh,KK_mirror_equal->Ni,wpS_modify->N',callWith_builtin1->Oc,IntsAre->OC,wpS_get->Pw,StrsAre->PV,KK_mirror->Qh,AllBare->Ra,envOfC->Sv,pairsOf->TR,mirror_size->Wr,sortedHeap_old->WW,subscriptTail->Xe,sortedHeap_at->Xf,listUpdate_at->Xg,subscriptTail_builtinR->XE,pairsOf_size->XF,listItems_at->XG,IsTup->X_,entry_tuple_getitem->Yg,sortedHeap->Yu,args_tuple_getitem->Yv,slot_str_getitem->YS,SortedToK->YT,joinParts_consE->Y3,get?_update_seq->Y4,entry_list_sort->Y5,tail_any->Zp,slot_list_sort->Zq,slicePart_none->Zr,setArr->Zs,joinParts_cons->Zt,isTrue_and_nil->Zu,args_list_sort->Zv
open Array renaming getElem?_eq_getElem->hY,length_toList->mu,getElem?_eq_some_iff->qs,toList_push->ri,getElem?_toList->tj,toList_append->vl,toList_extract->GS,toList_inj->KO,perm_iff_toList_perm->Nk,toList_reverse->PC,toList->QN,toArray_toList->RL,size_append->Tx,eraseIdxIfInBounds->Wq,append_assoc->Xm
open PySem.Txt renaming partition->ve,split->Sy,join->Wk,endswith->YO
open PySem.Obj renaming mapSeq->vu,putSet->LC,data_mapFields->P',isFreed_of_fields->W0,cls_mapFields->XM,mapFields->YF
open PyProof.Rows.KeyOrd renaming kle_of_klt->wh,kle_refl->F9,kle_trans->IT
open PySem.SetTable renaming below->w6,grown->Jm,sizeAbove->PD,orStandIn->RM,layClean->Sz,relaid->TH,laid->U3,fits->XA,insertAt->Zm
open PySem.Around renaming under_plainId->Ds,under_plain->W3
open PySem.Str renaming empty->DD,length->Og,ofString->Um
open PyProof.Rows.F renaming plain_set_update_loop->D1,entry_set_update_loop->JA
open PySem.Value renaming none->GA,type->IU,str->IZ,int->Jj,ref->Lo,bool->Mq,isStrOf->OR,builtin->OY,isInt->UX
open Option.some renaming inj->GD,injEq->Ws
open Sum renaming inr->GN,inl->T6
open Ne renaming symm->GR
open PySem.Builtin.List renaming listExtendWith->Hr,listTooLong->Lc,listSameRef->MZ,listLengthHint->SM
open Int renaming emod_lt_of_pos->HH,emod_nonneg->IG,eq_ofNat_of_zero_le->Oq,toNat_natCast->Qk,toNat_of_nonneg->Xs
open PySem.Heap.SameBut renaming update->JM,refl->Ri
open PySem.NameKind renaming free->Kj,cell->Kq
open PySem.Calls renaming spliced_cons->K5,spliced_nil->MK,evalArgs_plain->Nd,callWith_builtin->QM,Name_function_global->VC,call_function_entry->VO
open PySem.Shared renaming TypeIs->Lp
open PySem.Builtin.Slice renaming slicePlaces->Mx,sliceAdjust->Pu,sliceApplied->SJ,slicePartIndex->YP,sliceFields->YQ
open PySem.Builtin.Tuple renaming tupleExact->MS,tupleItemsOf->SE
open False renaming elim->Nj
open PySem.AutoSeq1 renaming wpAny_loadPart'->NC,sub_tuple_tuple->U5,sub_tuple_list->VI,sub_list_tuple->VM,sub_list_list->VR,idx_int->W2
open ForInStep renaming yield->ND
open PySem.PyData renaming keyHash->Oj
open LT renaming lt->OJ
open PySem.SetTable.below renaming go->P1
open PySem.Code renaming quiet_builtin->P7
open PySem.Walks renaming list->QE
open PySem.SeqAt renaming EqAt->QF,ne_of_list_tuple->WC,RcAt->Xd,RcNeAt->Ys
open PySem.Builtin.Frozenset renaming updateFrom->Rh,sizeOf->Si,addrOf->Su,slot0->SA,newClass->X9
open PyProof.Rows.LSm renaming kept_iter->R6,range_any->Yh,range_all->Yi
open PySem.F renaming typeOf_object_class->Se,slot_gs_get->WV,excBase_ValueError->XB,args_list_extend_2->XC,entry_list_extend->XQ,slot_list_extend->X8,attr_ValueError->Yf
open PySem.Builtin.Dict renaming updateFrom->Up,selfAndRest->Y1,pairItems->Y2
open PyProof.Rows.IsTup renaming new->Uq
open PySem.pickOrder renaming go->Vc
open PySem.Builtin.Str renaming occurrences->VF
open True renaming intro->VN
open Prod renaming ext->V2
open Sum.inr renaming inj->Wy
open List.Perm renaming cons_inv->WH,refl->Xl
open PySem.Heap.DictOf renaming new->WI
open ToString renaming toString->WK
open Function renaming comp_def->WZ
open PyProof.Rows.SortSt renaming mk'->W4
open List.cons renaming injEq->W7
open PySem.StrLaws renaming strSub_toList->Xc
open PySem.W renaming looks_findIn->Xz,nsIn->X7,Looks->YE,subIn->Zi,findIn->Zj
open PySem.Flow renaming next->XO
open Prod.mk renaming injEq->XR
open LE renaming le->Yd
open PySem.ItemsOf renaming nil->Ye
open PySem.W.WShape renaming has->YD
open PySem.Moved renaming trans->YG
open PySem.Heap.IsSliceOf renaming new->YH
open PySem.Builtin.Range renaming rangeSize->YR
open List.Pairwise renaming sublist->YV,nil->YW,map->YX
open LawfulBEq renaming eq_of_beq->YY
open PySem.W.WData renaming int->Y0
open PySem.W.Looks renaming ld->Zk
open PySem.SetTable.probe renaming go->Zl
open PySem.Data renaming cell->Zo
open ForIn renaming forIn->Zw
abbrev Zx:=@if_pos
abbrev Zy:=@if_neg
abbrev Zz:=@decide_eq_true_eq
abbrev ZA:=@decide_eq_false
abbrev ZC:=@decide_eq_true
abbrev ZD:=@of_decide_eq_true
abbrev ZE:=@congrArg
abbrev ZF:=@beq_eq_false_iff_ne
abbrev ZG:=@reduceIte
local macro_rules|`(def $a:declId $b* : $t :=$v)=>`(theorem $a:declId $b* : $t :=$v)
local macro_rules|`(abbrev $a:declId $b:optDeclSig $c:declVal)=>`(noncomputable def $a:declId $b:optDeclSig $c:declVal)
local macro_rules|`(tactic|show $t)=>`(tactic|refine $t)
local macro_rules|`(tactic|have⟨$a⟩:=$t)=>do let p<-`(Lean.Parser.Tactic.rcasesPatLo|$(⟨a⟩):ident);`(tactic|obtain⟨$p⟩:=$t)
local macro_rules|`(tactic|have($a,$b,*):=$t)=>do let g:=fun(x:Lean.Term)=>if x.raw.isIdent then`(Lean.Parser.Tactic.rcasesPatLo|$(⟨x⟩):ident)else`(Lean.Parser.Tactic.rcasesPatLo|_);let p<-(#[a]++b.getElems).mapM fun x=>match x with|`(($c,$d,*))=>do let q<-(#[c]++d.getElems).mapM g;`(Lean.Parser.Tactic.rcasesPatLo|⟨$q,*⟩)|_=>g ⟨x⟩;`(tactic|obtain⟨$p,*⟩:=$t)
local macro_rules|`(⋯)=>`(by lia)
local macro_rules|`(#[$a,*])=>`(⟨$a,*⟩)
local macro_rules|`(#v[$a,*])=>`(List.toArray [$a,*])
namespace K
open PySem PySem.W PyProof.Rows
abbrev vw:y1:=view PySem.Challenge.pw_primer_k65_no_room [13,16,17,18,20,21,22,23,25,26,27,28,29,30,31,32,33]
abbrev loo:List Str:=["PrimerError","NoText","Unfit","Unknown","Unlearnt","TooMany","Lacking","NoRow","NoDeed","FIRST_SENSE","LAST_SENSE","MOST_ROWS"]
noncomputable abbrev xt(s:hW):Bool:=xlAt vw [] s&&recOk (RowW.records PySem.Challenge.rw_primer_k65_no_room.row.toRowW) s
noncomputable abbrev oe(w:F7):Option hW:=openEnds treeTable PySem.Challenge.rw_primer_k65_no_room.row.prog w 4000
noncomputable abbrev os(s:hW):=openSeen vw loo (importedModules PySem.Challenge.rw_primer_k65_no_room.row.prog.main.body) xt cb s
def GW(w:F7):(oe w).map (λs=>(os s).1)=b6 (openGood vw loo).1:=by kernel_rfl
def GH(w:F7):(oe w).map (λs=>(os s).2)=b6 (openGood vw loo).2:=by kernel_rfl
end K
namespace L2
open PySem PySem.Spec PyProof.Rows
@[reducible]noncomputable def Key:=Sum Int Str
abbrev lR:Key->fx->Bool
 |.inl k,v=>UX k v
 |.inr x,v=>OR x v
abbrev En(w:F7):Key->Int
 |.inl k=>hashInt k
 |.inr x=>hashStr w x
theorem bj:∀{k:Key}{v:fx},lR k v=cb->(∃i t,k=T6 i/\v=Jj i t)\/(∃x t,k=GN x/\v=IZ x t)
 |.inl i,v,h=>by
  have(t,e):=Value.isInt_shape (k:=i) (v:=v) h;show .inl #[i,t,rfl,e]
 |.inr x,v,h=>by
  have(t,e):=Value.isStrOf_shape (x:=x) (v:=v) h;show .inr #[x,t,rfl,e]
def tQ(i:Int)(t:Tok):lR (.inl i) (.int i t)=cb:=by simp[lR,UX]
def tR(x:Str)(t:Tok):lR (.inr x) (.str x t)=cb:=by simp[lR,OR]
def Ar(a b:Int):f7 ((T6 a:Key)=T6 b)=(a==b):=by
 by_cases e:a=b
 .subst e;simp
 .have h:¬(T6 a:Key)=T6 b:=λq=>e (Sum.inl.inj q);rw[ZA h];show(ZF.mpr e).symm
def Au(a b:Str):f7 ((GN a:Key)=GN b)=f7 (a=b):=by
 by_cases e:a=b
 .subst e;simp
 .have h:¬(GN a:Key)=GN b:=λq=>e (Wy q);rw[ZA h,ZA e]
def Av(a:Int)(b:Str):f7 ((T6 a:Key)=GN b)=dV:=ZA (λq=>nomatch q)
def Aw(a:Str)(b:Int):f7 ((GN a:Key)=T6 b)=dV:=ZA (λq=>nomatch q)
abbrev aZ(prog:y1)(w:F7):PySem.KeyKind prog w Key where
 is:=lR
 hash:=En w
 inj:=λv a b g f=>by
  rcases bj g with⟨i,t,rfl,rfl⟩|⟨x,t,rfl,rfl⟩
  .rcases bj f with⟨j,u,rfl,e⟩|⟨y,u,rfl,e⟩
   .injection e with c _;rw[c]
   .show nomatch e
  .rcases bj f with⟨j,u,rfl,e⟩|⟨y,u,rfl,e⟩
   .show nomatch e
   .injection e with c _;rw[c]
 byValue:=λk v h=>by
  rcases bj h with⟨i,t,rfl,rfl⟩|⟨x,t,rfl,rfl⟩<;>rfl
 pyHash:=λd h=>by
  rcases bj d with⟨i,t,rfl,rfl⟩|⟨x,t,rfl,rfl⟩
  .show wpAny_pyHash_int h
  .show wpAny_pyHash_str h
 eqBool:=λl d h=>by
  rcases bj l with⟨i,t,rfl,rfl⟩|⟨x,t,rfl,rfl⟩
  .rcases bj d with⟨j,u,rfl,rfl⟩|⟨y,u,rfl,rfl⟩
   .rw[Ar]at h;show wpAny_eqBool_int h
   .rw[Av]at h;show SeqAt.EqAt.int_str i t y u _ _ _ _ h
  .rcases bj d with⟨j,u,rfl,rfl⟩|⟨y,u,rfl,rfl⟩
   .rw[Aw]at h;show SeqAt.EqAt.str_int x t j u _ _ _ _ h
   .rw[Au]at h;show wpAny_eqBool_str h
 «strs»:=λk x t v h=>by
  rcases bj h with⟨i,u,rfl,e⟩|⟨y,u,rfl,e⟩
  .show nomatch e
  .injection e with c _
   subst c;cases v<;>rfl
def oB(prog:y1)(w:F7)(i:Int)(t:Tok):(aZ prog w).is (.inl i) (.int i t)=cb:=tQ i t
def oC(prog:y1)(w:F7)(x:Str)(t:Tok):(aZ prog w).is (.inr x) (.str x t)=cb:=tR x t
inductive V where
 |Fg|bl (b:Bool)|int (i:Int)|str (x:Str)|Nm (b:Array UInt8)|Nn (b:UInt64)|ref (a:i6)|ty (n:String)
 deriving DecidableEq
def RelV:V->fx->Prop
 |.Fg,u=>u=GA
 |.bl b,u=>u=Mq b
 |.int i,u=>∃t,u=Jj i t
 |.str x,u=>∃t,u=IZ x t
 |.Nm b,u=>∃t,u=Value.bytes b t
 |.Nn b,u=>∃t,u=Value.float b t
 |.ref a,u=>u=Lo a
 |.ty n,u=>u=IU n
@[reducible]noncomputable def Vals:List V->List fx->Prop:=Paired RelV
def Vals.length(r:Vals xs us):xs.length=us.length:=Paired.length r
theorem Vals.get:∀{xs:List V}{us:List fx}{i:Nat}{x:V},Vals xs us->xs[i]?=b6 x->∃u,us[i]?=b6 u/\RelV x u
 |_,_,_,_,.nil,e=>by simp at e
 |_,_,0,_,.cons r _,e=>by simp at e;subst e;show#[_,rfl,r]
 |_,_,i+1,x,.cons _ t,e=>by
  have(u,a,h2):=Vals.get (i:=i) (x:=x) t (by simpa using e);show#[u,by simpa using a,h2]
theorem Vals.set(r:RelV x u):∀{xs:List V}{us:List fx} (i:Nat),Vals xs us->Vals (xs.set i x) (us.set i u)
 |_,_,_,.nil=>.nil
 |_,_,0,.cons _ t=>.cons r t
 |_,_,i+1,.cons q t=>.cons q (Vals.set r i t)
theorem Vals.append:∀{xs a:List V}{us ws:List fx},Vals xs us->Vals a ws->Vals (xs++a) (us++ws)
 |_,_,_,_,.nil,s=>s
 |_,_,_,_,.cons r t,s=>.cons r (Vals.append t s)
theorem Vals.take:∀{xs:List V}{us:List fx} (n:Nat),Vals xs us->Vals (xs.take n) (us.take n)
 |_,_,0,_=>.nil
 |_,_,_+1,.nil=>.nil
 |_,_,n+1,.cons r t=>.cons r (Vals.take n t)
theorem Vals.drop:∀{xs:List V}{us:List fx} (n:Nat),Vals xs us->Vals (xs.drop n) (us.drop n)
 |_,_,0,r=>r
 |_,_,_+1,.nil=>.nil
 |_,_,n+1,.cons _ t=>Vals.drop n t
def lC:Option V->Option fx->Prop
 |some v,b6 u=>RelV v u
 |none,b7=>True
 |_,_=>False
abbrev KV{κ:Type}:List (κ×V)->List (κ×fx)->Prop:=Paired λ(p:κ×V) (q:κ×fx)=>p.1=q.1/\RelV p.2 q.2
abbrev kV:Key->V
 |.inl i=>.int i
 |.inr x=>.str x
inductive HO where
 |lst (xs:List V)
 |tup (xs:List V)
 |dK (B':List (Key×V))|dT (B':List (List Key×V))
 |set (S:Int->Bool) (n:Nat)
 |ins (C dx:i6) (fs:List (Str×V))
 |own (x:i6)
 |xd (fs:List (Str×V))
 |met (f x:i6)
 |Np (lo hi:Int)
 |G7 (o:Obj) (u:HO)
 |Kg (ps:Array fx)
 |ext (φ:H9->Prop)
@[reducible]noncomputable def Hp:=i6->Option HO
abbrev upd(H:Hp)(a:i6)(o:HO):Hp:=λb=>if b=a then b6 o else H b
def aE:upd H a o a=b6 o:=by unfold upd;rw[Zx rfl]
def aB(h:b≠a):upd H a o b=H b:=by unfold upd;rw[Zy h]
def Cy{H:Hp}(h:H a=b6 o)(h':H b=b6 u)(d:o≠u):a≠b:=by
 intro e;subst e;rw[h]at h';show d (GD h')
def aO{H:Hp}(h:H a=b6 o)(h':H b=b7):a≠b:=by
 intro e;subst e;rw[h]at h';cases h'
section
variable(P:y1)(w:F7)
def bL(H:Hp)(h:H9)(a:i6):HO->Prop
 |.lst xs=>xs.length<=eF/\∃(its:List fx) (n:Nat),Vals xs its/\h.get? a=b6 {cls:=.type "list",data:=.seq its.toArray n}
 |.tup xs=>xs.length<=eF/\∃its:List fx,Vals xs its/\X_ h a its.toArray
 |.dK c=>c.length<=eF/\(a==NO)=dV/\∃vs,KV c vs/\h.DictOf (aZ P w) a vs
 |.dT c=>c.length<=eF/\(a==NO)=dV/\∃xs:List (List Key×i6×fx),
   Paired (λ(p:List Key×V) (q:List Key×i6×fx)=>p.1=q.1/\H q.2.1=b6 (.tup (p.1.map kV))/\RelV p.2 q.2.2) c xs /\
   ∃o es ep,h.get? a=b6 o/\o.ExactDict/\o.data=.dict es ep/\es.toList=xs.map (entryOfKey (Wh (aZ P w)))/\(xs.map (·.1)).Nodup
 |.set S n=>h.SetOf (intKind P w) a S n
 |.ins C e d=>H e=b6 (.own a)/\d.length<=1000/\e≠a/\h.get? a=b6 (PySem.W.instObj C e) /\
   ∃b,h.Ns1 e b/\(∀f,lC (d.lookup f) (b f))/\PySem.Within b (d.map (·.1))
 |.own _=>∃o,h.get? a=b6 o
 |.xd d=>∃b,h.Ns1 a b/\∀f,lC (d.lookup f) (b f)
 |.Np lo hi=>∃t u v,h.get? a=b6 {cls:=.type "range",data:=.fields #v[.int lo t,.int hi u,.int 1 v]}
 |.G7 o u=>h.get? a=b6 o/\bL H h a u
 |.Kg ps=>h.get? a=b6 {cls:=.none,data:=.fields ps}
 |.met f x=>h.get? a=b6 (PySem.W.methodObj (.ref f) (.ref x))
 |.ext φ=>φ h/\(∃o,h.get? a=b6 o)/\∀g h2:H9,φ g->(∀o,g.get? a=b6 o->h2.get? a=b6 o)->φ h2
abbrev Gf(H:Hp)(h:H9):Prop:=∀a o,H a=b6 o->bL P w H h a o
end
section
def bL.lt(x:bL P w H h a o):a<h.objs.size:=by
 cases o with
 |lst xs=>have(_,_,_,_,e):=x;show i0 e
 |tup xs=>have(_,_,_,p):=x;show p.lt
 |set S n=>have(o,_,_,_,e,_):=x;show i0 e
 |ins C c b=>have(_,_,_,e,_):=x;show i0 e
 |own y=>have(_,e):=x;show i0 e
 |xd b=>have(_,(_,_,_,e,_),_):=x;show i0 e
 |Np lo hi=>have(_,_,_,e):=x;show i0 e
 |G7 d u=>have(e,_):=x;show i0 e
 |Kg ps=>show i0 (show h.get? a=b6 _ from x)
 |met f y=>show i0 (show h.get? a=b6 _ from x)
 |ext φ=>have(_,(_,e),_):=x;show i0 e
 |_=>have(_,_,_,_,o,_,_,e,_):=x;show i0 e
theorem Paired.Ax:∀{c:List α}{d:List β},Paired F c d->(∀a b,F a b->G a b)->Paired G c d
 |_,_,.nil,_=>.nil
 |_,_,.cons r t,f=>.cons (f _ _ r) (Paired.Ax t f)
def bL.mM(x:bL P w H h a o)(k:∀b u,(b=a\/H b=b6 (.own a))->h.get? b=b6 u->h'.get? b=b6 u)
  (ho:∀b,H b=b6 (.own a)->H' b=b6 (.own a)) (l:∀b xs,H b=b6 (.tup xs)->H' b=b6 (.tup xs)):bL P w H' h' a o:=by
 induction o with
 |lst xs=>have(z,its,n,r,e):=x;show#[z,its,n,r,k _ _ (.inl rfl) e]
 |tup xs=>have(z,its,r,g,e,c):=x;show#[z,its,r,g,k _ _ (.inl rfl) e,c]
 |dK m=>have(z,y,vs,r,g,es,ep,e,c):=x;show#[z,y,vs,r,g,es,ep,k _ _ (.inl rfl) e,c]
 |dT m =>
  have(z,y,xs,r,g,es,ep,e,c):=x;show#[z,y,xs,Paired.Ax r λp q z=>#[z.1,l _ _ z.2.1,z.2.2],g,es,ep,k _ _ (.inl rfl) e,c]
 |set S n=>have(g,es,ep,t,e,c):=x;show#[g,es,ep,t,k _ _ (.inl rfl) e,c]
 |ins C D s =>
  have(d,z,ne,e,i,(j,es,ep,A,c),r):=x;show#[ho _ d,z,ne,k _ _ (.inl rfl) e,i,#[j,es,ep,k _ _ (.inr d) A,c],r]
 |own y=>have(g,e):=x;show#[g,k _ _ (.inl rfl) e]
 |xd s=>have(i,(j,es,ep,e,c),r):=x;show#[i,#[j,es,ep,k _ _ (.inl rfl) e,c],r]
 |Np lo hi=>have(t,u,v,e):=x;show#[t,u,v,k _ _ (.inl rfl) e]
 |G7 g u B=>have(e,q):=x;show#[k _ _ (.inl rfl) e,B q]
 |Kg ps =>
  have e:h.get? a=b6 {cls:=.none,data:=.fields ps}:=x;change h'.get? a=b6 {cls:=.none,data:=.fields ps};show k a _ (.inl rfl) e
 |met f y =>
  have e:h.get? a=b6 (PySem.W.methodObj (.ref f) (.ref y)):=x;change h'.get? a=b6 (PySem.W.methodObj (.ref f) (.ref y));show k a _ (.inl rfl) e
 |ext φ=>have(p,(o,e),st):=x;show#[st _ _ p λo q=>k _ _ (.inl rfl) q,#[o,k _ _ (.inl rfl) e],st]
def Gf.lt(x:Gf P w H h)(e:H a=b6 o):a<h.objs.size:=(x a o e).lt
def Gf.fresh(x:Gf P w H h)(e:h.objs.size<=a):H a=b7:=by
 cases q:H a with
 |none=>rfl
 |some u=>show absurd (mA (x.lt q) e) (GC _)
def Gf.kept(x:Gf P w H h)(k:∀b u,h.get? b=b6 u->h'.get? b=b6 u):Gf P w H h':=λa o e =>
 (x a o e).mM (λb u _ q=>k b u q) (λ_ q=>q) λ_ _ q=>q
def Gf.laid(x:Gf P w H h)(k:∀b u,h.get? b=b6 u->h'.get? b=b6 u)(g:h.objs.size<=a)(new:bL P w (upd H a o) h' a o):Gf P w (upd H a o) h':=λb u e=>by
 have d:=x.fresh g;by_cases f:b=a
 .subst f;rw[aE]at e;cases e;show new
 .rw[aB f]at e;show(x b u e).mM (λc v _ q=>k c v q) (λc q=>by rw[aB (aO q d)];show q) λc xs q=>by rw[aB (aO q d)];show q
end
abbrev Rd(H:Hp)(a:i6)(u:HO):Prop:=H a=b6 u\/∃o,H a=b6 (.G7 o u)
def Rd.ok(r:Rd H a u)(x:Gf P w H h):bL P w H h a u:=by
 rcases r with r|⟨o,r⟩
 .show x a u r
 .have(_,q):=x a _ r;show q
def Mb:Option HO->Prop
 |some (.lst _)=>True
 |some (.dK _)=>True
 |some (.dT _)=>True
 |some (.set _ _)=>True
 |some (.ins _ _ _)=>True
 |some (.ext _)=>True
 |_=>False
section
def Gf.write(ok:Gf P w H h)(a:Mb (H x))(g:e=x\/H e=b6 (.own x))(k:∀b u,b≠e->h.get? b=b6 u->h'.get? b=b6 u)(m:∃u,h'.get? e=b6 u)
  (new:bL P w (upd H x i) h' x i):Gf P w (upd H x i) h':=λb u q=>by
 have j:∀c y,H c=b6 (.own y)->c≠x:=λc y r z=>by subst z;rw[r]at a;show a
 have n:∀c xs,H c=b6 (.tup xs)->c≠x:=λc xs r z=>by subst z;rw[r]at a;show a
 by_cases d:b=x
 .subst d;rw[aE]at q;cases q;show new
 .rw[aB d]at q;by_cases f:b=e
  .have l:H b=b6 (.own x):=by
    rcases g with z|z
    .show absurd (f.trans z) d
    .rw[f];show z
   rw[q]at l;cases l;have(v,o):=m;show#[v,by rw[f];show o]
  .show(ok b u q).mM (λc v hc r=>k c v ?_ r) (λc r=>by rw[aB (j c b r)];show r) λc xs r=>by rw[aB (n c xs r)];show r
   rcases hc with rfl|hc
   .show f
   .rintro rfl;rcases g with z|z
    .show j c b hc z
    .rw[hc]at z;cases z;show d rfl
end
structure Un(fs ex:List i6)(H H':Hp)(h h':H9):Prop where
 keep:∀b o,h.get? b=b6 o->H b=b7->b∉fs->b∉ex->h'.get? b=b6 o
 slot:∀b o,h.get? b=b6 o->H b=b7->b∈fs->b∉ex->∃sl,h'.get? b=b6 {o with slots:=sl}
 free:∀b o,h.get? b=b6 o->H b=b7->b∉ex->H' b=b7
 there:∀b o,h.get? b=b6 o->b∉ex->∃o',h'.get? b=b6 o'
 Gj:∀b xs,H b=b6 (.tup xs)->H' b=b6 (.tup xs)
 Ga:∀b o u,H b=b6 (.G7 o u)->H' b=b6 (.G7 o u)
 Gk:∀b ps,H b=b6 (.Kg ps)->∃more,H' b=b6 (.Kg (ps++more))
section
def Un.any(u:Un e ex H i h f)(q:h.get? b=b6 a)(n:H b=b7)(c:b∉ex):∃g,f.get? b=b6 {a with slots:=g}:=by
 by_cases d:b∈e
 .show u.slot b a q n d c
 .show#[a.slots,u.keep b a q n d c]
def Un.kept(k:∀b u,h.get? b=b6 u->h'.get? b=b6 u):Un c ex H H h h' :=
 #[λb a q _ _ _=>k b a q,λb a q _ _ _=>#[a.slots,k b a q],λ_ _ _ n _=>n,λb a q _=>#[a,k b a q],λ_ _ q=>q,λ_ _ _ q=>q,λ_ ps q=>#[#v[],by rw[q];simp]]
def Un.refl:Un a ex H H h h:=Un.kept λ_ _ q=>q
def Un.laid(k:∀b u,h.get? b=b6 u->h'.get? b=b6 u)(d:h.objs.size<=a)(c:H a=b7):Un e ex H (upd H a o) h h' where
 keep:=λb u q _ _ _=>k b u q
 slot:=λb u q _ _ _=>#[u.slots,k b u q]
 free:=λb u q n _=>by rw[aB (l' (mA (i0 q) d))];show n
 there:=λb u q _=>#[u,k b u q]
 Gj:=λb xs q=>by rw[aB (aO q c)];show q
 Ga:=λb u xs q=>by rw[aB (aO q c)];show q
 Gk:=λb ps q=>#[#v[],by rw[aB (aO q c),q];simp]
def Un.write(a:Mb (H x))(i:e=x\/H e=b6 (.own x))(k:∀b u,b≠e->h.get? b=b6 u->h'.get? b=b6 u)(j:∃u,h'.get? e=b6 u):Un l ex H (upd H x o) h h':=by
 have d:∀b,H b=b7->b≠x:=λb n z=>by subst z;rw[n]at a;show a
 have f:∀b,H b=b7->b≠e:=λb n z=>by
  subst z;rcases i with r|r
  .show d b n r
  .rw[n]at r;cases r
 have c:∀b u,H b=b6 u->¬Mb (b6 u)->b≠x:=λb u q nm z=>by subst z;rw[q]at a;show nm a
 show#[λb u q n _ _=>k b u (f b n) q,λb u q n _ _=>#[u.slots,k b u (f b n) q],λb u q n _=>by rw[aB (d b n)];show n,λb u q _=>?_,
  λb xs q=>by rw[aB (c b _ q λz=>z)];show q,λb u xs q=>by rw[aB (c b _ q λz=>z)];show q,λb ps q=>#[#v[],by rw[aB (c b _ q λz=>z),q];simp]]
 by_cases g:b=e
 .subst g;show j
 .show#[u,k b u g q]
end
abbrev Nq(h:H9)(H:Hp):List i6:=(lg h.objs.size).filter λa=>(H a).isSome
abbrev mO(h:H9)(H:Hp):H9:=PySem.W.hideAll h (Nq h H)
def tS(h:H9)(H:Hp):(mO h H).objs.size=h.objs.size:=PySem.W.hideAll_size _ _
def u_(e:h.get? b=b6 o)(n:H b=b7):(mO h H).get? b=b6 o :=
 PySem.W.hideAll_get _ e λa=>by
  have q:(H b).isSome=cb:=(Mz.mp a).2;rw[n]at q;simp at q
def yb(e:(mO h H).get? b=b6 o):h.get? b=b6 o/\H b=b7:=by
 have a:h.get? b=b6 o:=PySem.W.of_hideAll (Nq h H) e;show#[a,?_];cases q:H b with
 |none=>rfl
 |some x =>
  have c:b∈Nq h H:=Mz.mpr #[uv.mpr (i0 a),by simp[q]];have z:(mO h H).get? b=b7:=PySem.W.hideAll_none (Nq h H) c;rw[z]at e;cases e
structure Mod(K:PySem.W.Frag)(mg:Str->Option fx)(base:H9):Prop where
 Md:K.In base
 glob:base.Ns nt mg
 blt:∃mb,base.Ns Yr mb/\∀x:Str,x≠"__name__"->mb x=IJ x
 nolimit:base.NoLimit
structure Cx where
 prog:y1
 w:F7
 K:PySem.W.Frag
 mg:Str->Option fx
 base:H9
 A:J0
 N:List Str
 s₀:hW
 H₀:Hp
 env:Env
 outer:List Env
 stack:List Env
 ex:List i6
 fn:Str->Bool
 calm:Bool
 pn:List (i6×Obj)
 xe:fx->hW->Prop
abbrev FT(l:List Env):List i6:=l.filterMap (·.frame)
noncomputable abbrev Cx.fs(X:Cx):List i6:=FT X.outer
abbrev JC(a:Jy)(x:Str):Prop:=a.names.lookup x=b6 .local\/a.names.lookup x=b6 .cell\/a.names.lookup x=b6 .free
abbrev Loc(a:Jy)(x:Str):Prop:=a.names.lookup x=b6 .local\/a.names.lookup x=b6 .cell
abbrev Look(env:Env)(h:H9)(m:Str->Option fx)(x:Str)(u:fx):Prop :=
 (env.kindOf x=b6 .local/\m x=b6 u)\/((env.kindOf x=b6 .cell\/env.kindOf x=b6 .free)/\∃c,env.cells.lookup x=b6 c/\h.IsCell c (b6 u))
structure Cx.Ok(X:Cx):Prop where
 mod:Mod X.K X.mg X.base
 kind:X.env.scope.kind=.function
 glob:X.env.globals=nt
 blt:X.env.builtins=Yr
 above:X.s₀.heap.objs.size<=X.env.locals
 inj:∀x y c,X.env.cells.lookup x=b6 c->X.env.cells.lookup y=b6 c->x=y
 has:∀x,(X.env.kindOf x=b6 .cell\/X.env.kindOf x=b6 .free)->∃c,X.env.cells.lookup x=b6 c
 KP:∀x c,X.fn x=cb->X.env.cells.lookup x=b6 c->X.s₀.heap.objs.size<=c
 hd:X.calm=cb->X.A.handled=b7
 frames:X.A.frames=b6 X.stack
 LJ:X.stack=X.outer\/(X.stack=X.env::X.outer/\X.env.frame=b6 X.env.locals)
 Nr:∀b∈X.ex,b≠X.env.locals/\∀x c,X.env.cells.lookup x=b6 c->c≠b
 bs:∀b o,X.base.get? b=b6 o->X.s₀.heap.get? b=b6 o/\X.H₀ b=b7
 JD:X.base.objs.size<=X.s₀.heap.objs.size
 HK:∀b o,X.base.get? b=b6 o->b∉X.ex
 Ip:∀b∈X.ex,b∉X.fs
 iW:X.s₀.heap.FunFrames X.base X.outer
 Kh:∀b∈X.fs,X.H₀ b=b7
structure Inv(X:Cx)(pins:List (i6×Obj))(σ:List (Option V))(H:Hp)(s:hW):Prop where
 ok:X.Ok
 os:s.os=X.s₀.os
 bare:Ra s.gens
 base:Un X.fs X.ex X.H₀ H X.s₀.heap s.heap
 loc:∃m,s.heap.Ns X.env.locals m/\∀(i:Nat) (x:Str) (v:V),X.N[i]?=b6 x->σ[i]?=b6 (b6 v)->JC X.env.scope x->∃u,RelV v u/\Look X.env s.heap m x u
 cell:∀x c,X.env.cells.lookup x=b6 c->∃v,s.heap.IsCell c v
 free:H X.env.locals=b7
 Fz:∀x c,X.env.cells.lookup x=b6 c->H c=b7
 pin:∀p∈X.pn++pins,s.heap.get? p.1=b6 p.2/\H p.1=b7/\p.1≠X.env.locals/\p.1∉X.fs/\∀v,p.2.data≠.cell v
 Fe:Gf X.prog X.w H s.heap
 len:σ.length=X.N.length
section
variable{X:Cx}{pins:List (i6×Obj)}{σ:List (Option V)}{H H':Hp}{s:hW}{h':H9}
def Cx.Ok.Eo(ok:X.Ok)(e:X.base.get? b=b6 o):b∉X.fs:=λa=>by
 have:=(ok.iW.mem a).1;rw[e]at this;cases this
def Inv.bs(I:Inv X pins σ H s):∀b o,X.base.get? b=b6 o->s.heap.get? b=b6 o/\H b=b7:=λb o e =>
 #[I.base.keep b o (I.ok.bs b o e).1 (I.ok.bs b o e).2 (I.ok.Eo e) (I.ok.HK b o e),I.base.free b o (I.ok.bs b o e).1 (I.ok.bs b o e).2 (I.ok.HK b o e)]
def Inv.bk(I:Inv X pins σ H s):∀b o,X.base.get? b=b6 o->s.heap.get? b=b6 o:=λb o e=>(I.bs b o e).1
def Inv.mod(I:Inv X pins σ H s):Mod X.K X.mg X.base:=I.ok.mod
def Inv.IW(I:Inv X pins σ H s):X.K.In s.heap:=I.ok.mod.Md.keeps I.bk
def Inv.lt(I:Inv X pins σ H s):X.env.locals<s.heap.objs.size:=let ⟨_,a,_⟩:=I.loc;a.lt
def Inv.sz(I:Inv X pins σ H s):X.s₀.heap.objs.size<=s.heap.objs.size:=F8 I.ok.above (LA I.lt)
def Inv.Cz(I:Inv X pins σ H s)(h:s.heap.objs.size<=a):a∉X.fs:=λb=>by
 have(_,o,ho,_):=I.ok.iW.mem b;show absurd (mA (i0 ho) (F8 I.sz h)) (GC _)
def Inv.IX(I:Inv X pins σ H s):∀x c,X.env.cells.lookup x=b6 c->c≠X.env.locals:=λx c e z=>by
 have(v,o,ho,hd):=I.cell x c e;have(m,(d,es,ep,a,b,_),_):=I.loc;rw[z,a]at ho;cases ho;rw[b]at hd;cases hd
def Inv.iW(I:Inv X pins σ H s):s.heap.FunFrames X.base X.outer:=by
 have all:∀(l:List Env),(∀b∈FT l,b∈X.fs)->X.s₀.heap.FunFrames X.base l->s.heap.FunFrames X.base l:=by
  intro l;induction l with
  |nil=>intro _ _;trivial
  |cons env r f =>
   intro hs hl;have(hk,(L,o,a,g,ho,hd),h):=hl;have c:L∈X.fs:=hs L (by unfold FT;rw[He,a];show ov);have(i,e):=I.base.slot L o ho (I.ok.Kh L c) c λz=>I.ok.Ip L z c;show#[hk,#[L,_,a,g,e,hd],f (λb d=>hs b (by unfold FT;rw[He,a];show nc _ d)) h]
 show all X.outer (λ_ d=>d) I.ok.iW
def Inv.stack(I:Inv X pins σ H s):s.heap.FunFrames X.base X.stack:=by
 rcases I.ok.LJ with e|⟨e,a⟩
 .rw[e];show I.iW
 .rw[e];have(m,b,_):=I.loc;show .cons (by rw[I.ok.kind];decide) a b ?_ I.iW;show Heap.get?_none_of_le (F8 I.ok.JD I.ok.above)
def Inv.jX(I:Inv X pins σ H s):∀b∈FT X.stack,b∈X.env.locals::X.fs:=λb a=>by
 rcases I.ok.LJ with e|⟨e,c⟩
 .rw[e]at a;show nc _ a
 .rw[e]at a;unfold FT at a;rw[He,c]at a;show a
def Inv.jO(I:Inv X pins σ H s):∀b∈FT X.stack,H b=b7:=λb hb=>by
 rcases i1.mp (I.jX b hb) with e|hb
 .rw[e];show I.free
 .have(_,o,ho,_):=I.ok.iW.mem hb;show I.base.free b o ho (I.ok.Kh b hb) λz=>I.ok.Ip b z hb
def Inv.step{ch:List i6}(I:Inv X pins σ H s)
  (j:∀b∈ch,(b∈X.ex\/X.s₀.heap.objs.size<=b)/\b≠X.env.locals/\(∀x c,X.env.cells.lookup x=b6 c->c≠b)/\∀p∈X.pn++pins,p.1≠b)
  (keep:∀b o,b≠X.env.locals->b∉X.fs->b∉ch->s.heap.get? b=b6 o->H b=b7->h'.get? b=b6 o)
  (slot:∀b o,b≠X.env.locals->b∈X.fs->b∉ch->s.heap.get? b=b6 o->H b=b7->∃D,h'.get? b=b6 {o with slots:=D}) (free:∀b o,b∉ch->s.heap.get? b=b6 o->H b=b7->H' b=b7)
  (there:∀b o,b∉ch->s.heap.get? b=b6 o->∃t,h'.get? b=b6 t)
  (Gj:∀b xs,H b=b6 (.tup xs)->H' b=b6 (.tup xs)) (Ga:∀b o u,H b=b6 (.G7 o u)->H' b=b6 (.G7 o u)) (Gk:∀b ps,H b=b6 (.Kg ps)->∃y,H' b=b6 (.Kg (ps++y)))
  (ns:∀m,s.heap.Ns X.env.locals m->h'.Ns X.env.locals m) (N:Gf X.prog X.w H' h') (O:Ra g') :
  Inv X pins σ H' {s with heap:=h',gens:=g',drawn:=d',toks:=t' }:=by
 have G:∀b o,X.s₀.heap.get? b=b6 o->b≠X.env.locals:=λb o e=>l' (mA (i0 e) I.ok.above);have C:∀b o,X.s₀.heap.get? b=b6 o->b∉X.ex->b∉ch:=λb o e a h=>by
  rcases(j b h).1 with z|z
  .show a z
  .show absurd (mA (i0 e) z) (GC _)
 have f:∀x c,X.env.cells.lookup x=b6 c->∀v,s.heap.IsCell c v->h'.IsCell c v:=λx c e v Q=>by
  have(o,ho,hd):=Q;have A:c∉ch:=λz=>(j c z).2.2.1 x c e rfl;by_cases J:c∈X.fs
  .have(D,q):=slot c o (I.IX x c e) J A ho (I.Fz x c e);show#[_,q,hd]
  .show#[o,keep c o (I.IX x c e) J A ho (I.Fz x c e),hd]
 show#[I.ok,I.os,O,#[λb o e n h a=>?_,λb o e n h a=>?_,λb o e n a=>?_,λb o e a=>?_,λb xs e=>Gj b xs (I.base.Gj b xs e),λb o xs e=>Ga b o xs (I.base.Ga b o xs e),λb ps e=>?_],?_,λx c e=>?_,?_,λx c e=>?_,λp L=>?_,N,I.len]
 .show keep b o (G b o e) h (C b o e a) (I.base.keep b o e n h a) (I.base.free b o e n a)
 .have(D,g):=I.base.slot b o e n h a;have(T,B):=slot b _ (G b o e) h (C b o e a) g (I.base.free b o e n a);show#[T,B]
 .have(t,g):=I.base.there b o e a;show free b t (C b o e a) g (I.base.free b o e n a)
 .have(t,g):=I.base.there b o e a;show there b t (C b o e a) g
 .have(m1,g):=I.base.Gk b ps e;have(m2,B):=Gk b _ g;show#[m1++m2,by rw[B,Xm]]
 .have(m,Y,hl):=I.loc;show#[m,ns m Y,λi x v g B e3=>?_];have(u,r,l):=hl i x v g B e3;show#[u,r,?_];rcases l with l|⟨k,c,e,z⟩
  .show .inl l
  .show .inr #[k,c,e,f x c e _ z]
 .have(v,z):=I.cell x c e;show#[v,f x c e v z]
 .have(m,(o,_,_,ho,_),_):=I.loc;show free _ o (λz=>(j _ z).2.1 rfl) ho I.free
 .have(v,o,ho,hd):=I.cell x c e;show free c o (λz=>(j c z).2.2.1 x c e rfl) ho (I.Fz x c e)
 .have(e,n,ne,nf,d):=I.pin p L;have A:p.1∉ch:=λz=>(j p.1 z).2.2.2 p L rfl;show#[keep p.1 p.2 ne nf A e n,free p.1 p.2 A e n,ne,nf,d]
def Inv.un(I:Inv X pins σ H s)(u:Un X.fs [] H H' s.heap h')(d:Gf X.prog X.w H' h'):Inv X pins σ H' {s with heap:=h',toks:=t' }:=by
 have(m,(o,es,ep,ho,r),_):=id I.loc;have(k,f):=u.any ho I.free (by simp);show I.step (g':=s.gens) (d':=s.drawn) (ch:=[]) (λ_ z=>nomatch z) (λb o _ a _ e n=>u.keep b o e n a (by simp)) (λb o _ a _ e n=>u.slot b o e n a (by simp)) (λb o _ e n=>u.free b o e n (by simp)) (λb o _ e=>u.there b o e (by simp)) u.Gj u.Ga u.Gk (λl g=>by
  have(p,h,i,c,j):=g;rw[ho]at c;cases c;show#[_,h,i,f,j]) d I.bare
def Inv.call(I:Inv X pins σ H s)(u:Un (FT X.stack) ch H H' s.heap h')(h:Gf X.prog X.w H' h')(i:Ra g')
  (f:∀b∈ch,(b∈X.ex\/X.s₀.heap.objs.size<=b)/\b≠X.env.locals/\(∀x c,X.env.cells.lookup x=b6 c->c≠b)/\∀p∈X.pn++pins,p.1≠b) :
  Inv X pins σ H' {s with heap:=h',gens:=g',drawn:=d',toks:=t' }:=by
 have(m,(o,es,ep,ho,r),_):=id I.loc;have(v,d):=u.any ho I.free λz=>(f _ z).2.1 rfl;show I.step (ch:=ch) f (λb o d j a e n=>u.keep b o e n (λz=>(i1.mp (I.jX b z)).elim d j) a) (λb o _ _ a e n=>u.any e n a) (λb o a e n=>u.free b o e n a) (λb o a e=>u.there b o e a) u.Gj u.Ga u.Gk (λy k=>by
  have(A,l,q,g,t):=k;rw[ho]at g;cases g;show#[_,l,q,d,t]) h i
def Inv.turned(I:Inv X pins σ H s)(k:∀b o,b≠it->s.heap.get? b=b6 o->h'.get? b=b6 o)(g:H it=b7)(d:it≠X.env.locals)
  (h:it∈X.ex\/X.s₀.heap.objs.size<=it) (h2:∀x c,X.env.cells.lookup x=b6 c->c≠it) (i:∀p∈X.pn++pins,p.1≠it):Inv X pins σ H {s with heap:=h',toks:=t' }:=by
 have f:∀b u,H b=b6 u->b≠it:=λb u e z=>by rw[z,g]at e;cases e
 show I.step (g':=s.gens) (d':=s.drawn) (ch:=[it]) (λb j=>?_) (λb o _ _ a e _=>k b o (λz=>a (by simp[z])) e) (λb o _ _ a e _=>#[o.slots,k b o (λz=>a (by simp[z])) e]) (λ_ _ _ _ n=>n)
  (λb o a e=>#[o,k b o (λz=>a (by simp[z])) e]) (λ_ _ e=>e) (λ_ _ _ e=>e) (λb ps e=>#[#v[],by rw[e];simp]) (λm l=>?_) (λb u e=>?_) I.bare
 .have e:b=it:=by simpa using j
  subst e;show#[h,d,h2,i]
 .have(o,es,ep,ho,r):=l;show#[o,es,ep,k _ o (GR d) ho,r]
 .show(I.Fe b u e).mM (λc v a q=>k c v ?_ q) (λ_ q=>q) λ_ _ q=>q;rcases a with z|z
  .rw[z];show f b u e
  .show f c _ z
def Inv.tok(I:Inv X pins σ H s)(t:Nat):Inv X pins σ H {s with toks:=t}:=I.un (h':=s.heap) (t':=t) Un.refl I.Fe
def Inv.kept(I:Inv X pins σ H s)(k:∀b u,s.heap.get? b=b6 u->h'.get? b=b6 u):Inv X pins σ H {s with heap:=h',toks:=t' }:=I.un (Un.kept k) (I.Fe.kept k)
def Inv.laid(I:Inv X pins σ H s)(k:∀b u,s.heap.get? b=b6 u->h'.get? b=b6 u)(c:s.heap.objs.size<=a)(new:bL X.prog X.w (upd H a o) h' a o):
  Inv X pins σ (upd H a o) {s with heap:=h',toks:=t' }:=I.un (Un.laid k c (I.Fe.fresh c)) (I.Fe.laid k c new)
def Inv.write(I:Inv X pins σ H s)(a:Mb (H x))(c:e=x\/H e=b6 (.own x))(k:∀b u,b≠e->s.heap.get? b=b6 u->h'.get? b=b6 u)(d:∃u,h'.get? e=b6 u)
  (new:bL X.prog X.w (upd H x o) h' x o):Inv X pins σ (upd H x o) {s with heap:=h',toks:=t' }:=I.un (Un.write a c k d) (I.Fe.write a c k d new)
def Inv.weak(I:Inv X pins σ H s)(hl:a.length=σ.length)(w:∀(i:Nat) v,a[i]?=b6 (b6 v)->σ[i]?=b6 (b6 v)):Inv X pins a H s :=
 #[I.ok,I.os,I.bare,I.base,let ⟨m,b,c⟩:=I.loc;⟨m,b,λi x v d e f=>c i x v d (w i v e) f⟩,I.cell,I.free,I.Fz,I.pin,I.Fe,hl.trans I.len]
def Inv.fP(I:Inv X pins σ H s)(h:∀p∈a,s.heap.get? p.1=b6 p.2/\H p.1=b7/\p.1≠X.env.locals/\p.1∉X.fs/\∀v,p.2.data≠.cell v):Inv X a σ H s :=
 #[I.ok,I.os,I.bare,I.base,I.loc,I.cell,I.free,I.Fz,λp b=>(mx.mp b).elim (λz=>I.pin p (JU _ z)) (h p),I.Fe,I.len]
def gW{N:List Str}(c:N.Nodup){i j:Nat}(a:N[i]?=b6 x)(b:N[j]?=b6 x):i=j:=by
 have(f,d):=mN.mp a;have(h2,e):=mN.mp b;show(List.getElem_inj c).mp (d.trans e.symm)
def lS(I:Inv X pins σ H s)(hN:X.N.Nodup)(hi:X.N[i]?=b6 x)(l:Loc X.env.scope x)(r:RelV v u)
  (h:∀s',Inv X pins (σ.set i (b6 v)) H s'->(∃a,H_ a s.heap s'.heap/\(a=X.env.locals\/X.env.cells.lookup x=b6 a))->Q () s') (hf:X.fn x=cb\/X.env.scope.names.lookup x=b6 .local:=by first|show .inl rfl|show .inr rfl|assumption):iv M A (storeName X.env x u) Q E s:=by
 have(m,J,hl):=id I.loc;have KQ:(X.env.scope.kind==.class||(X.env.scope.kind==.module&&X.env.locals != X.env.globals))=dV:=by rw[I.ok.kind];rfl
 have QO:i < σ.length:=by rw[I.len];show(mN.mp hi).1
 have L:=I.IX;have f:∀{a:i6} {h':H9},(∃o,s.heap.get? a=b6 o/\H a=b7)->H_ a s.heap h'->Gf X.prog X.w H h':=λ{a h'} ha hs b ob e=>by
  have(_,_,Fq):=ha;show(I.Fe b ob e).mM (λc D hc q=>(hs.2 c ?_).trans q) (λ_ q=>q) λ_ _ q=>q;rintro rfl;rcases hc with rfl|hc
  .rw[Fq]at e;cases e
  .rw[Fq]at hc;cases hc
 rcases l with hk|hk
 .show wpAny_storeName_local hk J (λh' Oh hs=>?_) KQ;have(oL,_,_,IY,_):=id J;show h _ #[I.ok,I.os,I.bare,#[λb o e n B l=>?_,λb o e n B l=>?_,I.base.free,λb o e l=>?_,I.base.Gj,I.base.Ga,I.base.Gk],#[_,Oh,λj y O g t T=>?_],λy c e=>?_,I.free,I.Fz,λp Y=>?_,f #[oL,IY,I.free] hs,by simpa using I.len] ⟨_,hs,.inl rfl⟩
  .show(hs.2 b (l' (mA (i0 e) I.ok.above))).trans (I.base.keep b o e n B l)
  .have(sl,g):=I.base.slot b o e n B l;show#[sl,(hs.2 b (l' (mA (i0 e) I.ok.above))).trans g]
  .have(o',g):=I.base.there b o e l;show#[o',(hs.2 b (l' (mA (i0 e) I.ok.above))).trans g]
  .by_cases C:j=i
   .subst C;rw[hi]at g;cases g;rw[nC QO]at t;cases t;show#[u,r,.inl #[hk,by simp]]
   .rw[nT (GR C)]at t;have(u',r',q):=hl j y O g t T;show#[u',r',?_];rcases q with⟨k,e⟩|⟨k,c,e,z⟩
    .show .inl #[k,?_];have:y≠x:=λe=>C (gW hN g (e▸hi));simp[this,e]
    .show .inr #[k,c,e,z.sameBut hs (L y c e)]
  .have(D,z):=I.cell y c e;show#[D,z.sameBut hs (L y c e)]
  .have(e,n,ne,nf,d):=I.pin p Y;show#[(hs.2 p.1 ne).trans e,n,ne,nf,d]
 .have HL:X.fn x=cb:=by
   rcases hf with z|z
   .show z
   .rw[z]at hk;cases hk
  have(c,hc):=I.ok.has x (.inl hk);have(D,z):=I.cell x c hc;show wpAny_storeName_cell I.ok.kind hk hc z (λh' QP hs=>?_);have(oc,QQ,Oi):=id z;show h {s with heap:=h' } ⟨I.ok,I.os,I.bare,⟨λb o e n B l=>?_,λb o e n B l=>?_,I.base.free,λb o e l=>?_,I.base.Gj,I.base.Ga,I.base.Gk⟩,⟨m,J.sameBut hs (GR (L x c hc)),λj y O g t T=>?_⟩,λy G e=>?_,I.free,I.Fz,λp Y=>?_,f ⟨oc,QQ,I.Fz x c hc⟩ hs,by simpa using I.len⟩ ⟨c,hs,.inr hc⟩
  .show(hs.2 b (l' (mA (i0 e) (I.ok.KP x c HL hc)))).trans (I.base.keep b o e n B l)
  .have(sl,g):=I.base.slot b o e n B l;show#[sl,(hs.2 b (l' (mA (i0 e) (I.ok.KP x c HL hc)))).trans g]
  .have(o',g):=I.base.there b o e l;show#[o',(hs.2 b (l' (mA (i0 e) (I.ok.KP x c HL hc)))).trans g]
  .by_cases C:j=i
   .subst C;rw[hi]at g;cases g;rw[nC QO]at t;cases t;show#[u,r,.inr #[.inl hk,c,hc,QP]]
   .rw[nT (GR C)]at t;have(u',r',q):=hl j y O g t T;show#[u',r',?_];rcases q with q|⟨k,G,e,z'⟩
    .show .inl q
    .show .inr #[k,G,e,z'.sameBut hs ?_];rintro rfl;show C (gW hN g (I.ok.inj _ _ _ e hc▸hi))
  .by_cases QR:G=c
   .subst QR;show#[_,QP]
   .have(w2,z2):=I.cell y G e;show#[w2,z2.sameBut hs QR]
  .have(e,n,ne,nf,d):=I.pin p Y;show#[(hs.2 p.1 ?_).trans e,n,ne,nf,d];intro q;rw[q,QQ]at e;have q':oc=p.2:=GD e;show d D (by rw[<-q'];show Oi)
def eZ(I:Inv X pins σ H s)(a:X.N.Nodup)(hi:X.N[i]?=b6 x)(b:Loc X.env.scope x)(r:RelV v u)
  (h:∀s',Inv X pins (σ.set i (b6 v)) H s'->Q () s') (c:X.fn x=cb\/X.env.scope.names.lookup x=b6 .local:=by first|show .inl rfl|show .inr rfl|assumption):iv M A (storeName X.env x u) Q E s :=
 lS I a hi b r (λs' d _=>h s' d) c
def Inv.zQ(I:Inv X pins σ H s)(ho:s'.os=s.os)(u:Un (FT X.stack) ch H H' s.heap s'.heap)(a:Gf X.prog X.w H' s'.heap)(d:Ra s'.gens)
  (f:∀b∈ch,(b∈X.ex\/X.s₀.heap.objs.size<=b)/\b≠X.env.locals/\(∀x c,X.env.cells.lookup x=b6 c->c≠b)/\∀p∈X.pn++pins,p.1≠b):Inv X pins σ H' s':=by
 have(h',g',d',t',g):=s';have e:g=s.os:=ho;subst e;show I.call (g':=g') (t':=t') (d':=d') u a d f
end
@[reducible]noncomputable def XK:=fx->Option i6->Hp->Prop
@[reducible]noncomputable def St:=List (Option V)
@[reducible]noncomputable def VK:=V->Hp->Prop
@[reducible]noncomputable def TE:=St->Hp->VK->Prop
@[reducible]noncomputable def TT:=St->Hp->(Bool->Hp->Prop)->Prop
@[reducible]noncomputable def TA:=St->Hp->(List V->Hp->Prop)->Prop
structure Ends where
 nx:St->Hp->Prop
 rt:VK
 bk:St->Hp->Prop:=λ_ _=>False
 ct:St->Hp->Prop:=λ_ _=>False
@[reducible]noncomputable def TS:=Ends->St->Hp->Prop
abbrev EP(X:Cx)(a:List (i6×Obj))(σ:St)(Q:VK)(u:fx)(s':hW):Prop:=∃v H',Inv X a σ H' s'/\RelV v u/\Q v H'
abbrev TP(X:Cx)(a:List (i6×Obj))(σ:St)(Q:Bool->Hp->Prop)(b:Bool)(s':hW):Prop:=∃H',Inv X a σ H' s'/\Q b H'
abbrev AP(X:Cx)(a:List (i6×Obj))(σ:St)(Q:List V->Hp->Prop)(us:List fx)(s':hW):Prop:=∃vs H',Inv X a σ H' s'/\Vals vs us/\Q vs H'
abbrev SP(X:Cx)(a:List (i6×Obj))(D:Ends)(f:Flow)(s':hW):Prop :=
 match f with
 |.next=>∃b H',Inv X a b H' s'/\D.nx b H'
 |.brk=>∃b H',Inv X a b H' s'/\D.bk b H'
 |.cont=>∃b H',Inv X a b H' s'/\D.ct b H'
 |.ret u=>∃v b H',Inv X a b H' s'/\RelV v u/\D.rt v H'
abbrev PE(X:Cx)(e:tr)(t:TE):Prop :=
 ∀(a:List (i6×Obj)) (s:hW) (σ:St) (H:Hp) (Q:VK),Inv X a σ H s->t σ H Q->iv (j0 X.prog X.w) X.A (KZ e X.env) (EP X a σ Q) X.xe s
abbrev PT(X:Cx)(e:tr)(t:TT):Prop :=
 ∀(a:List (i6×Obj)) (s:hW) (σ:St) (H:Hp) (Q:Bool->Hp->Prop),Inv X a σ H s->t σ H Q->iv (j0 X.prog X.w) X.A (isTrue e X.env (KZ e X.env)) (TP X a σ Q) X.xe s
abbrev PW(X:Cx)(e:tr)(t:TT):Prop :=
 ∀(b:Sem fx) (a:List (i6×Obj)) (s:hW) (σ:St) (H:Hp) (Q:Bool->Hp->Prop),Inv X a σ H s->t σ H Q->iv (j0 X.prog X.w) X.A (isTrue e X.env b) (TP X a σ Q) X.xe s
def PW.pt(h:PW X e t):PT X e t:=h _
abbrev PA(X:Cx)(es:List tr)(t:TA):Prop :=
 ∀(pos:Pos) (a:List (i6×Obj)) (s:hW) (σ:St) (H:Hp) (Q:List V->Hp->Prop),Inv X a σ H s->t σ H Q->iv (j0 X.prog X.w) X.A (YA (Ma pos (o5 es X.env))) (AP X a σ Q) X.xe s
abbrev PS(X:Cx)(st:Ll)(t:TS):Prop :=
 ∀(a:List (i6×Obj)) (s:hW) (σ:St) (H:Hp) (D:Ends),Inv X a σ H s->t D σ H->iv (j0 X.prog X.w) X.A (exec st X.env) (SP X a D) X.xe s
abbrev Gr(X:Cx)(st:List Ll)(t:TS):Prop :=
 ∀(a:List (i6×Obj)) (s:hW) (σ:St) (H:Hp) (D:Ends),Inv X a σ H s->t D σ H->iv (j0 X.prog X.w) X.A (execs st X.env) (SP X a D) X.xe s
def Ft(h:iv M A t Q E s)(b:∀a s,Q a s->Q' a s):iv M A t Q' E s:=tA h b λ_ _ x=>x
section
abbrev Ep(i:Nat):TE:=λσ H Q=>∃v,σ[i]?=b6 (b6 v)/\Q v H
abbrev tC(v:V):TE:=λ_ H Q=>Q v H
def gz(g:X.N[i]?=b6 x)(j:JC X.env.scope x)(hd:(x==("__debug__":Str))=dV:=by decide)(k:(x==("__classdict__":Str))=dV:=by decide):PE X (.Name x pos) (Ep i):=by
 intro b s σ H Q I h;have(v,e,h):=h;have(m,n,hl):=I.loc;have(u,r,l):=hl i x v g e j;have a:EP X b σ Q u s:=#[v,H,I,r,h]
 rcases l with⟨hk,o⟩|⟨hk,c,d,f⟩
 .show Ym (wpAny_loadName_local I.ok.kind hk n o a) hd
 .rcases hk with hk|hk
  .show Ym (wpAny_loadName_cell I.ok.kind hk d f a) hd
  .show Ym (wpAny_loadName_free I.ok.kind hk d f a k) hd
def Ay:PE X (.Constant (.int i) j pos) (tC (.int i)):=λ_ _ _ H _ I h=>wpAny_Constant_int #[.int i,H,I.tok _,#[_,rfl],h]
def CA:PE X (.Constant (.bool b) j pos) (tC (.bl b)):=λ_ _ _ H _ I h=>Constant_bool #[.bl b,H,I,rfl,h]
def vb:PE X (.Constant .none j pos) (tC .Fg):=λ_ _ _ H _ I h=>Constant_none #[.Fg,H,I,rfl,h]
def vc:PE X (.Constant (.str x) j pos) (tC (.str x)):=λ_ _ _ H _ I h=>Calls.Constant_str #[.str x,H,I.tok _,#[_,rfl],h]
abbrev Gl(X:Cx)(x:Str):Prop:=X.env.kindOf x=b6 .globalImplicit
def fQ(I:Inv X a σ H s)(b:Gl X x)(c:X.mg x=b6 u)(h:Q u s)
  (hd:(x==("__debug__":Str))=dV:=by decide):iv (j0 X.prog X.w) X.A (KZ (.Name x pos) X.env) Q E s :=
 VC I.ok.kind b (Calls.loadGlobal_global (by rw[I.ok.glob];show I.mod.glob.keeps I.bk) c h) hd
def dM(I:Inv X a σ H s)(b:Gl X x)(c:X.mg x=b7)(d:IJ x=b6 u)(h:Q u s)
  (e:x≠"__name__":=by decide) (hd:(x==("__debug__":Str))=dV:=by decide):iv (j0 X.prog X.w) X.A (KZ (.Name x pos) X.env) Q E s:=by
 have(g,f,h2):=I.mod.blt;show VC I.ok.kind b (Calls.loadGlobal_builtin (by rw[I.ok.glob];show I.mod.glob.keeps I.bk) c (by rw[I.ok.blt];show f.keeps I.bk) ((h2 x e).trans d) h) hd
def yc(a:Gl X x)(b:X.mg x=b6 u)(r:RelV v u)(hd:(x==("__debug__":Str))=dV:=by decide):PE X (.Name x pos) (tC v) :=
 λ_ _ _ H _ I h=>fQ I a b #[v,H,I,r,h] hd
def yd(a:Gl X x)(b:X.mg x=b7)(c:IJ x=b6 u)(r:RelV v u)(d:x≠"__name__":=by decide)(hd:(x==("__debug__":Str))=dV:=by decide):PE X (.Name x pos) (tC v) :=
 λ_ _ _ H _ I h=>dM I a b c #[v,H,I,r,h] d hd
abbrev Er(t u:TT):TT:=λσ H Q=>t σ H λc a=>if c=cb then u σ a Q else Q dV a
abbrev Ss(t u:TT):TT:=λσ H Q=>t σ H λc a=>if c=cb then Q cb a else u σ a Q
abbrev Es(t:TT):TT:=λσ H Q=>t σ H λc a=>Q (!c) a
def ye(d:PT X a f):PW X (.BoolOp .And [a] pos) f:=by
 intro g b s σ H Q I h;show isTrue_and (Ft (d b s σ H Q I h) λc s1 e=>?_);cases c with
 |true=>show Zu e
 |false=>show e
def Az(d:PT X a f):PW X (.BoolOp .Or [a] pos) f:=by
 intro g b s σ H Q I h;show isTrue_or (Ft (d b s σ H Q I h) λc s1 e=>?_);cases c with
 |false=>show isTrue_or_nil e
 |true=>show e
def AA(i:PT X a j)(k:PW X (.BoolOp .And (b::rest) pos) l):PW X (.BoolOp .And (a::b::rest) pos) (Er j l):=by
 intro m d s σ H Q I h;show isTrue_and (Ft (i d s σ H _ I h) λc s1 n=>?_);have(e,f,g):=n;cases c with
 |true=>show k m d s1 σ e Q f g
 |false=>show#[e,f,g]
def CB(i:PT X a j)(k:PW X (.BoolOp .Or (b::rest) pos) l):PW X (.BoolOp .Or (a::b::rest) pos) (Ss j l):=by
 intro m d s σ H Q I h;show isTrue_or (Ft (i d s σ H _ I h) λc s1 n=>?_);have(e,f,g):=n;cases c with
 |true=>show#[e,f,g]
 |false=>show k m d s1 σ e Q f g
def AB(d:PT X a e):PT X (.UnaryOp .Not a pos) (Es e):=by
 intro b s σ H Q I h;show isTrue_not (d b s σ H (λc f=>Q (!c) f) I h)
abbrev CC(b d:TE):TE:=λσ H Q=>b σ H λx a=>∃c,x=.bl c/\if c=cb then d σ a Q else Q (.bl dV) a
abbrev CD(a:TE):TE:=λσ H Q=>a σ H λx b=>∃c,x=.bl c/\Q (.bl (!c)) b
def AD(h:PE X a t):PE X (.BoolOp op [a] pos) t:=λb s σ H Q I c=>BoolOp_one (h b s σ H Q I c)
def AE(i:PE X a j)(k:PE X (.BoolOp .And (b::rest) pos) l):PE X (.BoolOp .And (a::b::rest) pos) (CC j l):=by
 intro d s σ H Q I h;show BoolOp_and (Ft (i d s σ H _ I h) λv s1 m=>?_);have(x,f,g,n,e):=m;have(c,rfl,e):=e;cases n;show LI ?_;cases c with
 |true=>show k d s1 σ f Q g e
 |false=>show#[.bl dV,f,g,rfl,e]
def AF(e:PE X a f):PE X (.UnaryOp .Not a pos) (CD f):=by
 intro b s σ H Q I h;show UnaryOp_ (Ft (e b s σ H _ I h) λv s1 g=>?_);have(x,i,j,k,d):=g;have(c,rfl,d):=d;cases k;show not_of (LI #[.bl (!c),i,j,rfl,d])
end
abbrev FR(K:PySem.W.Frag)(H:Hp)(a:i6)(xs:List V):Prop :=
 Rd H a (.lst xs) \/
  ∃(o:Obj) (its:Array fx) (n:Nat),K.lookup a=b6 o/\o.cls=.type "list"/\o.dict=b7/\o.data=.seq its n/\its.size<=eF/\Vals xs its.toList
abbrev FW(K:PySem.W.Frag)(H:Hp)(a:i6)(xs:List V):Prop :=
 Rd H a (.tup xs) \/
  ∃(o:Obj) (its:Array fx) (n:Nat),K.lookup a=b6 o/\o.cls=.type "tuple"/\o.data=.seq its n/\its.size<=eF/\Vals xs its.toList
abbrev Et:fx->Option V
 |.none=>b6 .Fg
 |.bool b=>b6 (.bl b)
 |.int i _=>b6 (.int i)
 |.str x _=>b6 (.str x)
 |.bytes b _=>b6 (.Nm b)
 |.float b _=>b6 (.Nn b)
 |.ref a=>b6 (.ref a)
 |.type n=>b6 (.ty n)
 |_=>b7
def RelV.abs(r:RelV x u):Et u=b6 x:=by
 cases x with
 |Fg=>cases r;rfl
 |bl _=>cases r;rfl
 |ref _=>cases r;rfl
 |ty _=>cases r;rfl
 |_=>have(t,rfl):=r;rfl
def RelV.inj(r:RelV x u)(q:RelV y u):x=y:=GD (r.abs.symm.trans q.abs)
theorem Vals.inj:∀{xs a:List V}{us:List fx},Vals xs us->Vals a us->xs=a
 |_,_,_,.nil,.nil=>rfl
 |_,_,_,.cons r t,.cons b t'=>by rw[r.inj b,Vals.inj t t']
section
def FR.of{K:PySem.W.Frag}(h:H a=b6 (.lst xs)):FR K H a xs:=.inl (.inl h)
def FW.of{K:PySem.W.Frag}(h:H a=b6 (.tup xs)):FW K H a xs:=.inl (.inl h)
def Inv.list(I:Inv X b σ H s)(h:FR X.K H a xs):∃its:List fx,Vals xs its/\PlainL s.heap a its.toArray/\xs.length<=eF:=by
 rcases h with h|⟨o,its,n,hk,c,hd,hs,hz,r⟩
 .have(z,its,n,r,e):=h.ok I.Fe;show#[its,r,#[_,n,e,rfl,rfl,rfl],z]
 .show#[its.toList,r,#[o,n,I.IW a o hk,c,hd,by simpa using hs],?_];have e:=r.length;simp only[mu]at e;lia
def Inv.tuple(I:Inv X b σ H s)(h:FW X.K H a xs):∃its:List fx,Vals xs its/\X_ s.heap a its.toArray/\xs.length<=eF:=by
 rcases h with h|⟨o,its,n,hk,c,hs,hz,r⟩
 .have(z,its,r,p):=h.ok I.Fe;show#[its,r,p,z]
 .show#[its.toList,r,#[o,I.IW a o hk,c,n,by simpa using hs],?_];have e:=r.length;simp only[mu]at e;lia
def Inv.vd(I:Inv X b σ H s)(h:FR X.K H a xs)(h':FR X.K H a f):xs=f:=by
 have(its,r,(o,n,e,_,_,d),_):=I.list h;have(its',g,(j,k,c,_,_,d'),_):=I.list h';rw[e]at c;cases c;rw[d]at d';injection d' with i _
 have:its=its':=by simpa using ZE QN i
 subst this;show r.inj g
def Inv.tT(I:Inv X b σ H s)(h:FW X.K H a xs)(h':FW X.K H a f):xs=f:=by
 have(its,r,(o,e,_,n,d),_):=I.tuple h;have(its',g,(j,c,_,k,d'),_):=I.tuple h';rw[e]at c;cases c;rw[d]at d';injection d' with i _
 have:its=its':=by simpa using ZE QN i
 subst this;show r.inj g
end
@[reducible]noncomputable def Cx.gZ(X:Cx)(E:fx->hW->Prop):Cx:={X with xe:=E}
@[reducible]noncomputable def Cx.Ho(X:Cx):Cx:=X.gZ λ_ _=>False
def Cx.Ok.gZ{X:Cx}(ok:X.Ok)(E:fx->hW->Prop):(X.gZ E).Ok :=
 #[ok.mod,ok.kind,ok.glob,ok.blt,ok.above,ok.inj,ok.has,ok.KP,ok.hd,ok.frames,ok.LJ,ok.Nr,ok.bs,ok.JD,ok.HK,ok.Ip,ok.iW,ok.Kh]
def Cx.Ok.dN{X:Cx}(ok:(X.gZ E).Ok):X.Ok :=
 #[ok.mod,ok.kind,ok.glob,ok.blt,ok.above,ok.inj,ok.has,ok.KP,ok.hd,ok.frames,ok.LJ,ok.Nr,ok.bs,ok.JD,ok.HK,ok.Ip,ok.iW,ok.Kh]
section
def Inv.gZ(I:Inv X a σ H s)(E:fx->hW->Prop):Inv (X.gZ E) a σ H s:=#[I.ok.gZ E,I.os,I.bare,I.base,I.loc,I.cell,I.free,I.Fz,I.pin,I.Fe,I.len]
def Inv.dN(I:Inv (X.gZ E) a σ H s):Inv X a σ H s:=#[I.ok.dN,I.os,I.bare,I.base,I.loc,I.cell,I.free,I.Fz,I.pin,I.Fe,I.len]
def SP.dN(h:SP (X.gZ E) a D f s'):SP X a D f s':=by
 cases f with
 |ret u=>have(v,b,H',I,r,q):=h;show#[v,b,H',I.dN,r,q]
 |_=>have(b,H',I,q):=h;show#[b,H',I.dN,q]
def Gr.Ho{st:List Ll}(h:Gr X.Ho st t):Gr X st t:=λa s σ H D I b =>
 tA (h a s σ H D (I.gZ _) b) (λ_ _ q=>q.dN) λ_ _ z=>Nj z
end
section
variable{X:Cx}{st:Ll}{rest:List Ll}{t u:TS}{e:tr}{te:TE}{pos:Pos}
abbrev zR:TS:=λD σ H=>D.nx σ H
abbrev Eu(t u:TS):TS:=λD σ H=>t {D with nx:=u D} σ H
def rV:Gr X [] zR:=λ_ _ σ H _ I h=>M_ #[σ,H,I,h]
def jY(b:PS X st t)(h2:Gr X rest u):Gr X (st::rest) (Eu t u):=by
 intro a s σ H D I h;show V7 (Ft (b a s σ H {D with nx:=u D} I h) λf s1 q=>?_);cases f with
 |next =>
  have(c,H',d,q):=q;show h2 a s1 c H' D d q
 |_=>show q
abbrev AG:TS:=λD σ H=>D.bk σ H
abbrev CF:TS:=λD σ H=>D.ct σ H
def yf:PS X (.Pass pos) zR:=λ_ _ σ H _ I h=>wpAny_Pass #[σ,H,I,h]
def vf:PS X (.Break pos) AG:=λ_ _ σ H _ I h=>wpAny_Break #[σ,H,I,h]
def oD:PS X (.Continue pos) CF:=λ_ _ σ H _ I h=>wpAny_Continue #[σ,H,I,h]
def Inv.quiet(I:Inv X a σ H s):interactive X.env=dV:=by simp[interactive,I.ok.kind]
abbrev CG(te:TE):TS:=λD σ H=>te σ H λ_ a=>D.nx σ a
def mP(b:PE X e te)(hs:OI e b7 pos.line X.env=pure dV:=by rfl):PS X (.Expr e pos) (CG te):=by
 intro a s σ H D I h;show wpAny_Expr_any (Ft (b a s σ H _ I h) λv s1 ⟨x,c,d,g,f⟩=>#[σ,c,d,f]) I.quiet hs
abbrev Ew(te:TE):TS:=λD σ H=>te σ H D.rt
def AH(b:PE X e te):PS X (.Return (b6 e) pos) (Ew te):=by
 intro a s σ H D I h;show wpAny_Return_some (Ft (b a s σ H _ I h) λv s1 ⟨x,c,d,f,g⟩=>#[x,σ,c,d,f,g])
abbrev CH:TS:=λD _ H=>D.rt .Fg H
def yg:PS X (.Return b7 pos) CH:=λ_ _ σ H _ I h=>wpAny_Return_none #[.Fg,σ,H,I,rfl,h]
abbrev Ey(c:TT)(t u:TS):TS:=λD σ H=>c σ H λb a=>if b=cb then t D σ a else u D σ a
def CI(k:PT X c l)(m:Gr X a t)(n:Gr X b u):PS X (.If c a b pos) (Ey l t u):=by
 intro f s σ H D I h;show wpAny_If (Ft (k f s σ H _ I h) λd s1 o=>?_);have(g,i,j):=o;cases d with
 |true=>show m f s1 σ g D i j
 |false=>show n f s1 σ g D i j
end
@[reducible]noncomputable def TG:=V->St->Hp->(St->Hp->Prop)->Prop
@[reducible]noncomputable def LL:=List V->St->Hp->(St->Hp->Prop)->Prop
abbrev PG(X:Cx)(a:tr)(t:TG):Prop :=
 ∀(b:List (i6×Obj)) (s:hW) (σ:St) (H:Hp) (v:V) (u:fx) (Q:St->Hp->Prop),Inv X b σ H s->RelV v u->t v σ H Q ->
  iv (j0 X.prog X.w) X.A (Rg a X.env u) (λ_ s'=>∃c H',Inv X b c H' s'/\Q c H') X.xe s
abbrev Mk(X:Cx)(c:List tr)(t:LL):Prop :=
 ∀(a:List (i6×Obj)) (s:hW) (σ:St) (H:Hp) (vs:List V) (us:List fx) (Q:St->Hp->Prop),Inv X a σ H s->Vals vs us->t vs σ H Q ->
  iv (j0 X.prog X.w) X.A (assignInOrder ((OE c X.env).map (·.2)) us) (λ_ s'=>∃b H',Inv X a b H' s'/\Q b H') X.xe s
@[reducible]noncomputable def CJ:=V->V->V->Hp->(Hp->Prop)->Prop
abbrev oE(X:Cx)(t:CJ):Prop :=
 ∀(a:List (i6×Obj)) (s:hW) (σ:St) (H:Hp) (o i v:V) (b c u:fx) (Q:Hp->Prop),Inv X a σ H s->RelV o b->RelV i c->RelV v u->t o i v H Q ->
  iv (j0 X.prog X.w) X.A (Xx b c u) (λ_ s'=>∃H',Inv X a σ H' s'/\Q H') X.xe s
section
abbrev rW(i:Nat):TG:=λv σ H Q=>Q (σ.set i (b6 v)) H
def rX(b:X.N.Nodup)(hi:X.N[i]?=b6 x)(c:Loc X.env.scope x)(d:X.fn x=cb\/X.env.scope.names.lookup x=b6 .local:=by first|show .inl rfl|show .inr rfl|assumption):PG X (.Name x pos) (rW i):=by
 intro a s σ H v u Q I r h;show Yz (eZ I b hi c r (λs' e=>#[_,H,e,h]) d)
abbrev CK:LL:=λvs σ H Q=>vs=[]/\Q σ H
abbrev zS(t:TG)(u:LL):LL:=λvs σ H Q=>∃v r,vs=v::r/\t v σ H λa H'=>u r a H' Q
def yh:Mk X [] CK:=by
 intro a s σ H vs us Q I r h;have(e,h):=h;subst e;cases r;show assignInOrder_nil #[σ,H,I,h]
def vg(b:PG X e t)(h2:Mk X es u)
  (hs:(OE (e::es) X.env).map (·.2)=Rg e X.env::(OE es X.env).map (·.2):=by rfl):Mk X (e::es) (zS t u):=by
 intro a s σ H vs us Q I r h;have(v,l,c,h):=h;subst c;cases r with
 |cons r d =>
  rw[hs];show assignInOrder_cons (Ft (b a s σ H _ _ _ I r h) λ_ s1 f=>?_);have(g,i,j,k):=f;show h2 a s1 g i _ _ Q j d k
abbrev Ez(K:PySem.W.Frag)(n:Nat)(t:LL):TG:=λv σ H Q=>∃a xs,v=.ref a/\FW K H a xs/\xs.length=n/\t xs σ H Q
def AI(g:X.calm=cb)(h:Mk X es t)
  (i:(OE es X.env).length=n:=by rfl) (j:(OE es X.env).findIdx? (·.1)=b7:=by rfl):PG X (.Tuple es k pos) (Ez X.K n t):=by
 intro c s σ H v u Q I r d;have(a,xs,l,m,hl,d):=d;subst l;cases r;have(its,f,p,hz):=I.tuple m;show assign_Tuple_tuple (I.ok.hd g) p (by simp[i,<-hl,f.length]) j λh' q=>?_;have w:Inv X c σ H {s with heap:=h' }:=I.kept (t':=s.toks) λb o e=>q b o (l' (i0 e)) e;show h c _ σ H xs _ Q w (by simpa using f) d
abbrev EA(a b:TE)(t:CJ):TG:=λv σ H Q=>a σ H λo c=>b σ c λi d=>t o i v d λe=>Q σ e
def AJ(ho:PE X o d)(hi:PE X i e)(hs:oE X t)
  (f:∀v,Rg (.Subscript o i pos) X.env v=(do
   let b <-OB [v] (KZ o X.env)
   let c <-OB [v,b] (KZ i X.env)
   Xv pos
   OB [v,b,c] (Xx b c v)
   release [v,b,c] []):=by intro _;rfl):PG X (.Subscript o i pos) (EA d e t):=by
 intro a s σ H v u Q I r h;rw[f];show b8 (zy (Ft (ho a s σ H _ I h) λb s1 g=>?_));have(x,j,k,l,m):=g;show b8 (zy (Ft (hi a s1 σ j _ k m) λc s2 n=>?_));have(y,p,q,w,z):=n;show b8 (W8 (b8 (zy (Ft (hs a s2 σ p x y v b c u _ q l w r z) λ_ s3 A=>?_))));have(B,C,D):=A;show wpAny_release #[σ,B,C,D]
abbrev AK(te:TE)(g:TG):TS:=λD σ H=>te σ H λx a=>g x σ a D.nx
def vh(c:PE X e te)(d:PG X b g)(hs:Rf [b] e pos.line X.env=pure dV:=by rfl)(f:W_ [b] e X.env=pure b7:=by rfl)
  (i:(OE [b] X.env).map (·.2)=[Rg b X.env]:=by rfl):PS X (.Assign [b] e pos) (AK te g):=by
 intro a s σ H D I h;show wpAny_Assign_stores (Ft (c a s σ H _ I h) λv s1 ⟨x,j,k,l,m⟩=>?_) hs f;rw[i];show Ft (d a s1 σ j x v _ k l m) λ_ s2 q=>q
def qo(b:X.N.Nodup)(hi:X.N[i]?=b6 x)(c:Loc X.env.scope x)(d:PE X e te)(hs:OI e (b6 (.Name x pos')) pos.line X.env=pure dV:=by rfl)(f:X.fn x=cb\/X.env.scope.names.lookup x=b6 .local:=by first|show .inl rfl|show .inr rfl|assumption):
  PS X (.Assign [.Name x pos'] e pos) (AK te (rW i)):=by
 intro a s σ H D I h;show U_ (Ft (d a s σ H _ I h) λv s1 ⟨y,g,j,k,l⟩=>?_) hs;show eZ j b hi c k (λs2 m=>#[_,g,m,l]) f
end
section
abbrev AL(c:TT)(f:TS):TS:=λD σ H=>∃W:Nat->St->Hp->Prop,(∃m,W m σ H)/\∀m σ H,W m σ H ->
 c σ H λb a=>if b=cb then ∃N:St->Hp->Prop,(∀d H',N d H'->∃e,e<m/\W e d H')/\f {D with nx:=N,ct:=N,bk:=D.nx} σ a else D.nx σ a
def vi(r:Wl (j0 X.prog X.w) X.A X.env X.xe)(z:PT X c B)(C:Gr X body G):PS X (.While c body [] pos) (AL B G):=by
 intro a s σ H D I h;have(W,(m0,J),d):=h;show wpAny_While (codeAny_whileLoop (λn s'=>∃t H',Inv X a t H' s'/\W n t H') ?_ m0 ⟨σ,H,I,J⟩);rintro n s1 ⟨i,u,L,O⟩;show M8 r (Ft (z a s1 i u _ L (d n i u O)) λb s2 Q=>?_);have(v,x,j):=Q;cases b with
 |true =>
  have(N,y,j):=j;rw[Zx rfl];show M8 r (Ft (C a s2 i v _ x j) λf s3 k=>?_);cases f with
  |next =>
   have(e,g,l,m):=k;have(o,p,q):=y e g m;show#[o,p,e,g,l,q]
  |cont =>
   have(e,g,l,m):=k;have(o,p,q):=y e g m;show#[o,p,e,g,l,q]
  |_=>show k
 |false =>
  rw[Zy o6];show M_ #[i,v,x,j]
end
structure It where
 go:Nat->Hp->Prop
 Nu:Nat->Hp->V->Hp->Prop
 stop:Nat->Hp->Prop
abbrev jZ(X:Cx)(a:List (i6×Obj))(H:Hp)(b:i6):Prop :=
 H b=b7/\b≠X.env.locals/\b∉X.fs/\(b∈X.ex\/X.s₀.heap.objs.size<=b)/\(∀x c,X.env.cells.lookup x=b6 c->c≠b)/\∀p∈X.pn++a,p.1≠b
def Inv.AM(I:Inv X a σ H s)(d:s.heap.objs.size<=b)(f:H' b=b7):jZ X a H' b:=by
 show#[f,Ic (mA I.lt d),I.Cz d,.inr (F8 I.sz d),λx c e z=>?_,λp g z=>?_]
 .have(v,q):=I.cell x c e;show absurd (mA q.lt (by rw[z];show d)) (GC _)
 .show absurd (mA (i0 (I.pin p g).1) (by rw[z];show d)) (GC _)
structure Turn(P:y1)(w:F7)(K:PySem.W.Frag)(tg:tr)(J:It)(fp:List i6)(it:i6)(tn:Nat->H9->Prop):Prop where
 mem:it∈fp
 obj:∀i h,tn i h->∀b∈fp,∃o,h.get? b=b6 o/\∀v,o.data≠.cell v
 keep:∀i h h',tn i h->(∀b∈fp,∀o,h.get? b=b6 o->h'.get? b=b6 o)->tn i h'
 item:∀(X:Cx),X.prog=P->X.w=w->X.K=K->X.calm=cb->∀(i:Nat) (pins:List (i6×Obj)) (s:hW) (σ:St) (H:Hp) (E:fx->hW->Prop),Inv X pins σ H s->(∀b∈fp,jZ X pins H b)->tn i s.heap->J.go i H ->
  iv (j0 P w) X.A (P_ (.ref it)) (λr s1=>∃u,r=b6 u /\
   iv (j0 P w) X.A (Sx tg (.ref it) u) (λ_ s2=>∃x H',Inv X pins σ H' s2/\RelV x u/\J.Nu i H x H'/\tn (i+1) s2.heap/\∀b∈fp,H' b=b7) E s1) E s
 done:∀(X:Cx),X.prog=P->X.w=w->X.K=K->X.calm=cb->∀(i:Nat) (pins:List (i6×Obj)) (s:hW) (σ:St) (H:Hp) (E:fx->hW->Prop),Inv X pins σ H s->(∀b∈fp,jZ X pins H b)->tn i s.heap->J.stop i H ->
  iv (j0 P w) X.A (P_ (.ref it)) (λr s1=>r=b7/\Inv X pins σ H s1) E s
 self:∀(A:J0) (i:Nat) (s:hW) (Q:fx->hW->Prop) (E:fx->hW->Prop),tn i s.heap->Q (.ref it) s->iv (j0 P w) A (S3 (.ref it)) Q E s
@[reducible]noncomputable def TI:=St->Hp->(It->Hp->Prop)->Prop
abbrev QS(X:Cx)(a:List (i6×Obj))(σ:St)(e:tr)(R:It->Hp->Prop)(f:fx)(s2:hW):Prop :=
 ∃(it:i6) (c:List i6) (d:Nat->H9->Prop) (J:It) (H':Hp),f=.ref it/\Inv X a σ H' s2/\Turn X.prog X.w X.K e J c it d/\d 0 s2.heap/\(∀b∈c,jZ X a H' b)/\R J H'
abbrev PI(X:Cx)(c b:tr)(d:TI):Prop :=
 ∀(a:List (i6×Obj)) (s:hW) (σ:St) (H:Hp) (R:It->Hp->Prop),Inv X a σ H s->d σ H R ->
  iv (j0 X.prog X.w) X.A (KZ b X.env) (λv s1=>iv (j0 X.prog X.w) X.A (S3 v) (QS X a σ c R) X.xe s1) X.xe s
def vj(ho:s.heap.get? it=b6 o)(b:o.cls=.type n)(hd:o.data=.fields vs)
    (c:["enumerate","zip","dict_itemiterator","dict_reverseitemiterator","odict_iterator","itertools.zip_longest","itertools.pairwise"].contains n=dV) (a:Q () s):iv M A (Sx d (.ref it) u) Q E s:=by
  unfold Sx;cases d<;>first
    | show eH a
    | (cases u<;>first
        | show eH a
        | (show b8 (WL ho ?_)
           rw[b,hd];change iv M A (if (["enumerate","zip","dict_itemiterator","dict_reverseitemiterator","odict_iterator","itertools.zip_longest","itertools.pairwise"].contains n&&vs[0]?==b6 (FL _))=cb then _ else _) Q E s;rw[Zy (by intro h;rw[c,V5]at h;cases h)];show eH a))
abbrev Om(K:PySem.W.Frag)(a:i6):It :=
 #[λi H=>∃xs x,FR K H a xs/\xs[i]?=b6 x,λi H x H'=>H'=H/\∀xs,FR K H a xs->xs[i]?=b6 x,λi H=>∃xs,FR K H a xs/\xs.length<=i]
abbrev Oo(K:PySem.W.Frag)(a:i6):It :=
 #[λi H=>∃xs x,FW K H a xs/\xs[i]?=b6 x,λi H x H'=>H'=H/\∀xs,FW K H a xs->xs[i]?=b6 x,λi H=>∃xs,FW K H a xs/\xs.length<=i]
abbrev Ml(lo:Int)(n:Nat):It:=#[λi _=>i<n,λi H x H'=>H'=H/\x=.int (lo+i),λi _=>n<=i]
def tU{K:PySem.W.Frag}(a it:i6):Turn P w K tg (Om K a) [it] it (λi h=>h.IsListIter it a i) where
 mem:=by simp
 obj:=λi h st b g=>by
  have e:b=it:=by simpa using g
  subst e;have(o,e,c,d):=st;show#[o,e,λv z=>by rw[d]at z;cases z]
 keep:=λi h h' st k=>st.at λo e=>k it (by simp) o e
 item:=by
  intro X m n q J i f s σ H E I j st r;subst m n q;have(xs,x,l,t):=r;have(its,y,p,hz):=I.list l;have(u,L,N):=y.get t;have(A,B,O,C,D,G):=j it (by simp);show wpAny_pyNext_list_item st p.isList (x:=u) (by simpa using L) λh' st' Q=>?_;have T:Inv X f σ H {s with heap:=h' }:=I.turned (t':=s.toks) (λb o g e=>(Q.2 b g).trans e) A B C D G;have(o,e,c,d):=id st';show#[u,rfl,vj (s:={s with heap:=h' }) e c d (by decide) ⟨x,H,T,N,⟨rfl,λys Y=>by rw[I.vd Y l];show t⟩,st',λb g=>(j b g).1⟩]
 done:=by
  intro X m n q J i f s σ H E I j st r;subst m n q;have(xs,l,t):=r;have(its,y,p,hz):=I.list l;have(A,B,O,C,D,G):=j it (by simp);have hl:=y.length;show wpAny_pyNext_list_end (I.ok.hd J) st p.isList (by simp;lia) λh' eb=>#[rfl,I.turned (t':=s.toks) (λb o g e=>eb b o g e) A B C D G]
 self:=λ_ _ _ _ _ st h=>wpAny_pyIter_listiter st h
def qp{K:PySem.W.Frag}(a it:i6):Turn P w K tg (Oo K a) [it] it (λi h=>h.IsTupleIter it a i) where
 mem:=by simp
 obj:=λi h st b g=>by
  have e:b=it:=by simpa using g
  subst e;have(o,e,c,d):=st;show#[o,e,λv z=>by rw[d]at z;cases z]
 keep:=λi h h' st k=>st.at λo e=>k it (by simp) o e
 item:=by
  intro X m n q J i f s σ H E I j st r;subst m n q;have(xs,x,l,t):=r;have(its,y,p,hz):=I.tuple l;have(u,L,N):=y.get t;have(A,B,O,C,D,G):=j it (by simp);show wpAny_pyNext_tuple_item st (show s.heap.IsTuple a its.toArray from p) (x:=u) (by simpa using L) λh' st' Q=>?_;have T:Inv X f σ H {s with heap:=h' }:=I.turned (t':=s.toks) (λb o g e=>(Q.2 b g).trans e) A B C D G;have(o,e,c,d):=id st';show#[u,rfl,vj (s:={s with heap:=h' }) e c d (by decide) ⟨x,H,T,N,⟨rfl,λys Y=>by rw[I.tT Y l];show t⟩,st',λb g=>(j b g).1⟩]
 done:=by
  intro X m n q J i f s σ H E I j st r;subst m n q;have(xs,l,t):=r;have(its,y,p,hz):=I.tuple l;have(A,B,O,C,D,G):=j it (by simp);have hl:=y.length;show wpAny_pyNext_tuple_end (I.ok.hd J) st (show s.heap.IsTuple a its.toArray from p) (by simp;lia) λh' eb=>#[rfl,I.turned (t':=s.toks) (λb o g e=>eb b o g e) A B C D G]
 self:=λ_ _ _ _ _ st h=>wpAny_pyIter_tupleiter st h
def qr{K:PySem.W.Frag}(it:i6)(lo:Int)(n:Nat):Turn P w K J (Ml lo n) [it] it (λi h=>IsRangeIter h it (lo+(i:Nat) * 1) ((n:Int) - (i:Nat)) 1) where
 mem:=by simp
 obj:=λi h st b c=>by
  have e:b=it:=by simpa using c
  subst e;show#[_,st,λv z=>by
   have A:Data.fields _=Zo v:=z;cases A]
 keep:=λi h h' st k=>k it (by simp) _ st
 item:=by
  intro X f g j l i a s σ H E I d st m;subst f g j;have(p,q,B,r,u,x):=d it (by simp);have W:=Walks.range (prog:=X.prog) (w:=X.w) (I.ok.hd l) it lo 1 n;show W.item i s _ _ m st λv h' y C st' kk=>?_;have(t,rfl):=C;have D:Inv X a σ H {s with heap:=h',toks:=y}:=I.turned (λb o c e=>kk b o (by simpa using c) e) p q r u x;show#[_,rfl,vj (s:={s with heap:=h',toks:=y}) (n:="range_iterator") st' rfl rfl (by decide) ⟨.int (lo+i),H,D,⟨t,?_⟩,⟨rfl,rfl⟩,st',λb c=>(d b c).1⟩];rw[Int.mul_one]
 done:=by
  intro X f g j l i a s σ H E I d st m;subst f g j;have(p,q,B,r,u,x):=d it (by simp);show wpAny_pyNext_range_end (I.ok.hd l) st (by have:n<=i:=m;lia) λh' G=>#[rfl,I.turned (t':=s.toks) (λb o c e=>G b o c e) p q r u x]
 self:=λ_ _ _ _ _ st h=>wpAny_pyIter_rangeiter st h
section
abbrev CL(K:PySem.W.Frag)(c:TE):TI:=λσ H R=>c σ H λx b=>∃a,x=.ref a/\(∃xs,FR K b a xs)/\R (Om K a) b
abbrev EB(K:PySem.W.Frag)(c:TE):TI:=λσ H R=>c σ H λx b=>∃a,x=.ref a/\(∃xs,FW K b a xs)/\R (Oo K a) b
def yi(hl:PE X l f):PI X r l (CL X.K f):=by
 intro c s σ H R I h;show Ft (hl c s σ H _ I h) λv s1 g=>?_;have(x,i,d,j,k):=g;have(a,e,(xs,m),q):=k;subst e;cases j;have(its,t,p,hz):=d.list m;show NA p.isList ?_;show#[s1.heap.objs.size,[s1.heap.objs.size],_,_,i,rfl,d.kept (t':=s1.toks) λb o e=>ek _ e,tU a _,#[_,hH _ rfl,rfl,rfl],λb n=>?_,q];have e:b=s1.heap.objs.size:=by simpa using n
 subst e;show d.AM (g0 _) (d.Fe.fresh (g0 _))
def AN(hl:PE X l f):PI X r l (EB X.K f):=by
 intro c s σ H R I h;show Ft (hl c s σ H _ I h) λv s1 g=>?_;have(x,i,d,j,k):=g;have(a,e,(xs,m),q):=k;subst e;cases j;have(its,t,p,hz):=d.tuple m;show Yl (show s1.heap.IsTuple a its.toArray from p) ?_;show#[s1.heap.objs.size,[s1.heap.objs.size],_,_,i,rfl,d.kept (t':=s1.toks) λb o e=>ek _ e,qp a _,#[_,hH _ rfl,rfl,rfl],λb n=>?_,q];have e:b=s1.heap.objs.size:=by simpa using n
 subst e;show d.AM (g0 _) (d.Fe.fresh (g0 _))
def oF{lo hi:Int}(I:Inv X a σ H s)(f:-(2 ^ 62)<=lo)(h2:lo<2 ^ 62)(g:-(2 ^ 62)<=hi)(h:hi<2 ^ 62)
  (q:R (Ml lo (hi - lo).toNat) H):iv (j0 X.prog X.w) X.A (S3 (.ref s.heap.objs.size)) (QS X a σ l R) E {s with heap:=s.heap.push {cls:=.type "range",data:=.fields #v[.int lo t,.int hi u,.int 1 v]},toks:=d}:=by
 show wpAny_pyIter_range (IsRange.new ..) (small_one f h2 g h) ?_;have c:Inv X a σ H {s with heap:=s.heap.push {cls:=.type "range",data:=.fields #v[.int lo t,.int hi u,.int 1 v]},toks:=d}:=I.kept λb o e=>ek _ e;show#[(s.heap.push {cls:=.type "range",data:=.fields #v[.int lo t,.int hi u,.int 1 v]}).objs.size,[(s.heap.push {cls:=.type "range",data:=.fields #v[.int lo t,.int hi u,.int 1 v]}).objs.size],_,_,H,rfl,
  c.kept (t':=d) λb o e=>ek _ e,qr _ lo (hi - lo).toNat,?_,λb i=>?_,q]
 .have j:lo+((0:Nat):Int) * 1=lo:=by simp
  have k:(((hi - lo).toNat:Nat):Int) - ((0:Nat):Int)=YR lo hi 1:=by rw[rangeSize_one];split<;>lia
  change IsRangeIter _ _ (lo+((0:Nat):Int) * 1) ((((hi - lo).toNat:Nat):Int) - ((0:Nat):Int)) 1;rw[j,k];show hH _ rfl
 .have e:b=(s.heap.push {cls:=.type "range",data:=.fields #v[.int lo t,.int hi u,.int 1 v]}).objs.size:=by simpa using i
  subst e;show c.AM (g0 _) (c.Fe.fresh (g0 _))
abbrev CM(a:TA):TI:=λσ H R=>a σ H λvs b=>∃j:Int,vs=[.int j]/\-(2 ^ 62)<=j/\j<2 ^ 62/\R (Ml 0 j.toNat) b
abbrev CN(a:TA):TI:=λσ H R=>a σ H λvs b=>∃i j:Int,vs=[.int i,.int j]/\(-(2 ^ 62)<=i/\i<2 ^ 62/\-(2 ^ 62)<=j/\j<2 ^ 62)/\R (Ml i (j - i).toNat) b
def tV(d:Gl X "range")(f:X.mg "range"=b7)(g:PA X [a] i)(hs:o5 [a] X.env=[(dV,KZ a X.env)]:=by rfl):PI X o (.Call (.Name "range" p) [a] [] pos) (CM i):=by
 intro b s σ H R I h;show Call_ (dM I d f boot_range (JQ (Ft (g pos b s σ H _ I h) λus s1 ⟨vs,u,k,l,c⟩=>?_) hs rfl));have(j,e,c,m,q):=c;subst e;cases l with
 |cons r n =>
  cases n;have(t,rfl):=r;show call_range_1 (oF k ⋯ ⋯ c m (by simpa using q))
def tW(k:Gl X "range")(l:X.mg "range"=b7)(m:PA X [a,b] n)(hs:o5 [a,b] X.env=[(dV,KZ a X.env),(dV,KZ b X.env)]:=by rfl)(g:o5 [b] X.env=[(dV,KZ b X.env)]:=by rfl):
  PI X z (.Call (.Name "range" p) [a,b] [] pos) (CN n):=by
 intro c s σ H R I h;show Call_ (dM I k l boot_range (JQ (Ft (m pos c s σ H _ I h) λus s1 ⟨vs,A,o,u,d⟩=>?_) (by rw[hs,g]) (by rw[g];rfl)));have(i,j,e,(d,v,w,x),q):=d;subst e;cases u with
 |cons r f =>
  cases f with
  |cons y f =>
   cases f;have(t,rfl):=r;have(t',rfl):=y;show call_range_2 (oF o d v w x q)
abbrev EC(c:TI)(g:TG)(d:TS):TS:=λD σ H=>c σ H λJ e=>∃W:Nat->Nat->St->Hp->Prop,(∃m,W 0 m σ e)/\∀i m σ H,W i m σ H ->
 (J.stop i H/\D.nx σ H)\/(J.go i H/\∃N:St->Hp->Prop,(∀a H',N a H'->∃b,b<m/\W (i+1) b a H')/\∀x H',J.Nu i H x H'->g x σ H' λf h=>d {D with nx:=N,ct:=N,bk:=D.nx} f h)
abbrev j3(a:List i6)(h:H9):List (i6×Obj):=a.filterMap λb=>(h.get? b).map λo=>(b,o)
def ef(a:b∈c)(e:h.get? b=b6 o):(b,o)∈j3 c h:=Oe.mpr #[b,a,by rw[e];rfl]
def tX(a:p∈j3 c h):p.1∈c/\h.get? p.1=b6 p.2:=by
 have(b,d,e):=Oe.mp a;cases q:h.get? b with
 |none=>rw[q]at e;cases e
 |some o =>
  rw[q]at e;have f:(b,o)=p:=GD e;subst f;show#[d,q]
def Inv.pinned(I:Inv X a σ H s)(h:∀b∈c,jZ X a H b)(ho:∀b∈c,∃o,s.heap.get? b=b6 o/\∀v,o.data≠.cell v):Inv X (a++j3 c s.heap) σ H s :=
 I.fP λp i=>(mx.mp i).elim (λz=>I.pin p (y0 _ z)) λz=>by
  have(f,e):=tX z;have(j,k,l,_):=h p.1 f;have(o,g,d):=ho p.1 f;rw[e]at g;cases g;show#[e,j,k,l,d]
def Inv.j4(I:Inv X (a++c) σ H s):Inv X a σ H s:=I.fP λp b=>I.pin p (y0 _ (JU _ b))
def AO(t:Wl (j0 X.prog X.w) X.A X.env X.xe)(hc:X.calm=cb)(hi:PI X tg p wi)(hg:PG X tg g)(c:Gr X body tb)
  (hs:∀x,LK p X.env x=pure x:=by intro _;rfl):PS X (.For tg p body [] pos) (EC wi g tb):=by
 intro a s σ H D I h;show wpAny_For (Ft (hi a s σ H _ I h) λv s1 h1=>Ft h1 λNv s2 h2=>?_) hs;have(it,y,tn,J,H2,e,I2,T,st2,f2,W,(m0,w0),z):=h2;subst e;have O:∀{H':Hp},(∀b∈y,H' b=b7)->∀b∈y,jZ X a H' b:=λhn b c=>#[hn b c,(f2 b c).2]
 show codeAny_forLoop_any (λn s'=>∃i B H',Inv X a B H' s'/\tn i s'.heap/\(∀b∈y,H' b=b7)/\W i n B H') ?_ m0 ⟨0,σ,H2,I2,st2,λb c=>(f2 b c).1,w0⟩;rintro n s3 ⟨i,C,L,I3,st3,Mm,w3⟩;rcases z i n C L w3 with⟨G,qn⟩|⟨go,N,hN,WO⟩
 .show M8 t (Ft (T.done X rfl rfl rfl hc i a s3 C L X.xe I3 (O Mm) st3 G) λr s4 Ou=>?_);have(Q,I4):=Ou;subst Q;show M_ #[C,L,I4,qn]
 .show M8 t (Ft (T.item X rfl rfl rfl hc i a s3 C L X.xe I3 (O Mm) st3 go) λr s4 Ov=>?_);have(u,Q,h4):=Ov;subst Q;show M8 t (Ft h4 λ_ s5 Ow=>?_);have(x,H5,I5,r5,y5,Y,Ox):=Ow;have Oy:=I5.pinned (O Ox) (T.obj _ _ Y);show M8 t (Ft (hg _ s5 C H5 x u _ Oy r5 (WO x H5 y5)) λ_ s6 Oz=>?_);have(σ6,H6,I6,q6):=Oz;show M8 t (Ft (c _ s6 σ6 H6 _ I6 q6) λf s7 q=>?_);have YC:∀{j:St} {k:Hp},Inv X (a++j3 y s5.heap) j k s7->N j k->∃m,m<n/\∃i B H',Inv X a B H' s7/\tn i s7.heap/\(∀b∈y,H' b=b7)/\W i m B H':=λ{j k} l n7=>by
   have(m',hm,w7):=hN j k n7;show#[m',hm,i+1,j,k,l.j4,T.keep _ _ _ Y λb c o e=>(l.pin (b,o) (y0 _ (y0 _ (ef c e)))).1,λb c=>?_,w7];have(o,e,d):=T.obj _ _ Y b c;show(l.pin (b,o) (y0 _ (y0 _ (ef c e)))).2.1
  cases f with
  |brk=>have(j,k,l,q):=q;show#[j,k,l.j4,q]
  |ret v=>have(x7,j,k,l,r7,q):=q;show#[x7,j,k,l.j4,r7,q]
  |_=>have(j,k,l,n7):=q;show YC l n7
end
@[reducible]noncomputable def R2:=V->V->Hp->VK->Prop
abbrev Hu(X:Cx)(f:fx->fx->Sem fx)(r:R2):Prop :=
 ∀(a:List (i6×Obj)) (s:hW) (σ:St) (H:Hp) (x y:V) (v u:fx) (Q:VK),Inv X a σ H s->RelV x v->RelV y u->r x y H Q ->
  iv (j0 X.prog X.w) X.A (f v u) (EP X a σ Q) X.xe s
abbrev dS(X:Cx)(f:fx)(r:List V->Hp->VK->Prop):Prop :=
 ∀(a:List (i6×Obj)) (s:hW) (σ:St) (H:Hp) (xs:List V) (us:List fx) (Q:VK),Inv X a σ H s->Vals xs us->r xs H Q ->
  iv (j0 X.prog X.w) X.A (OK f us) (EP X a σ Q) X.xe s
abbrev ED(X:Cx)(r:V->Hp->(Bool->Hp->Prop)->Prop):Prop :=
 ∀(a:List (i6×Obj)) (s:hW) (σ:St) (H:Hp) (x:V) (v:fx) (Q:Bool->Hp->Prop),Inv X a σ H s->RelV x v->r x H Q ->
  iv (j0 X.prog X.w) X.A (Y8 v) (TP X a σ Q) X.xe s
abbrev rI(C:Int->Int->Prop)(g:Int->Int->V):R2:=λx y H Q=>∃i j,x=.int i/\y=.int j/\C i j/\Q (g i j) H
abbrev KS(g:Int->Int->V):R2:=λx y H Q=>∃i j,x=.int i/\y=.int j/\Q (g i j) H
section
def Nw{g:Int->Int->Int}
  (Yp:∀(i j:Int) (t u:Tok) (s:hW) (Q:fx->hW->Prop) (E:fx->hW->Prop),C i j->Q (.int (g i j) s.toks) {s with toks:=s.toks+1}->iv (j0 X.prog X.w) X.A (f (.int i t) (.int j u)) Q E s) :
  Hu X f (rI C λi j=>.int (g i j)):=by
 intro a s σ H x y v u Q I b c h;have(i,j,rfl,rfl,d,q):=h;have(t,rfl):=b;have(t',rfl):=c;show Yp i j t t' s _ _ d #[.int (g i j),H,I.tok _,#[_,rfl],q]
def CO{g:Int->Int->Int}
  (Yp:∀(i j:Int) (t u:Tok) (s:hW) (Q:fx->hW->Prop) (E:fx->hW->Prop),Q (.int (g i j) s.toks) {s with toks:=s.toks+1}->iv (j0 X.prog X.w) X.A (f (.int i t) (.int j u)) Q E s) :
  Hu X f (KS λi j=>.int (g i j)):=by
 intro a s σ H x y v u Q I b c h;have(i,j,rfl,rfl,q):=h;have(t,rfl):=b;have(t',rfl):=c;show Yp i j t t' s _ _ #[.int (g i j),H,I.tok _,#[_,rfl],q]
def AQ{g:Int->Int->Bool}
  (Yp:∀(i j:Int) (t u:Tok) (s:hW) (Q:fx->hW->Prop) (E:fx->hW->Prop),Q (.bool (g i j)) s->iv (j0 X.prog X.w) X.A (f (.int i t) (.int j u)) Q E s) :
  Hu X f (KS λi j=>.bl (g i j)):=by
 intro a s σ H x y v u Q I b c h;have(i,j,rfl,rfl,q):=h;have(t,rfl):=b;have(t',rfl):=c;show Yp i j t t' s _ _ #[.bl (g i j),H,I,rfl,q]
abbrev EF(i j:Int):Prop:=0<j/\j<1073741824
abbrev EG(i j:Int):Prop:=0<=j/\j<=1000000/\i.natAbs<2 ^ 64
abbrev AR(i j:Int):Prop:=(-(2 ^ 64)<i/\i<2 ^ 64)\/(-(2 ^ 64)<j/\j<2 ^ 64)
def AR.ok(h:AR i j):IntMulOk i j:=by
 rcases h with⟨a,h2⟩|⟨a,h2⟩
 .show .of_left (intBits_le_64 a h2)
 .show .of_right (intBits_le_64 a h2)
def bM:Hu X (Ot .Add) (KS λi j=>.int (i+j)):=CO λ_ _ _ _ _ _ _ q=>add_int q
def iX:Hu X (Ot .Sub) (KS λi j=>.int (i - j)):=CO λ_ _ _ _ _ _ _ q=>sub_int q
def gA:Hu X (Ot .Mult) (rI AR λi j=>.int (i * j)):=Nw λ_ _ _ _ _ _ _ a q=>mul_int q a.ok
def yj:Hu X (Ot .FloorDiv) (rI EF λi j=>.int (i / j)):=Nw λi j _ _ _ _ _ a q=>by
 have b:(0:Int)<j:=a.1;have h2:j<1073741824:=a.2;show floordiv_int ⋯ (by rw[Int.fdiv_eq_ediv_of_nonneg i ⋯];show q) (.inl (PyProof.noPylong_small ⋯))
def aW:Hu X (Ot .Mod) (rI (λ_ j=>0<j) λi j=>.int (i % j)):=Nw λi j _ _ _ _ _ a q=>by
 have b:(0:Int)<j:=a;show mod_int' ⋯ (by rw[Int.fmod_eq_emod_of_nonneg i ⋯];show q)
def mQ:Hu X (Ot .Pow) (rI EG λi j=>.int (i ^ j.toNat)):=Nw λ_ _ _ _ _ _ _ a q=>pow_int_small a.1 a.2.1 a.2.2 q
end
section
def CP:Hu X (PQ .Lt) (KS λi j=>.bl (f7 (i<j))):=AQ λ_ _ _ _ _ _ _ q=>lt_int q
def CQ:Hu X (PQ .Gt) (KS λi j=>.bl (f7 (j<i))):=AQ λ_ _ _ _ _ _ _ q=>gt_int q
def CS:Hu X (PQ .GtE) (KS λi j=>.bl (f7 (j<=i))):=AQ λ_ _ _ _ _ _ _ q=>ge_int q
abbrev CT(K:PySem.W.Frag)(x:V)(H:Hp)(k:Bool):Prop :=
 match x with
 |.Fg=>k=dV
 |.bl b=>k=b
 |.int i=>k=(i != 0)
 |.str y=>y.length<=eF/\k=((y.length:Int) != 0)
 |.Nm y=>y.size<=eF/\k=((y.size:Int) != 0)
 |.ref p=>(∃xs,FR K H p xs/\k=!xs.isEmpty)\/(∃xs,FW K H p xs/\k=!xs.isEmpty)\/∃a,H p=b6 (.dK a)/\k=!a.isEmpty
 |_=>False
def qt(r:KV a vs):(!vs.isEmpty)=!a.isEmpty:=by
 cases r<;>rfl
def j5(r:Vals xs its):(!its.toArray.isEmpty)=!xs.isEmpty:=by
 cases r<;>simp
def gB:(eF:Nat)<2 ^ 63:=by rw[X1];decide
def AS:ED X (λx H Q=>∃k,CT X.K x H k/\Q k H):=by
 intro l s σ H x v Q I d h;have(k,e,q):=h;have hl:=gB;have hs:eF=16777216:=X1;cases x with
 |Fg =>
  cases d;have a:k=dV:=e;subst a;show truthy_none #[H,I,q]
 |bl b =>
  cases d;have a:k=b:=e;subst a;show LI #[H,I,q]
 |int i =>
  have(t,rfl):=d;have a:k=(i != 0):=e;subst a;show PySem.P.truthy_int #[H,I,q]
 |str y =>
  have(t,rfl):=d;obtain⟨n,a⟩:y.length<=eF/\k=((y.length:Int) != 0):=e;subst a;show PySem.P.truthy_str ⋯ #[H,I.tok _,q]
 |Nm y =>
  have(t,rfl):=d;obtain⟨n,a⟩:y.size<=eF/\k=((y.size:Int) != 0):=e;subst a;show PySem.W.truthy_bytes ⋯ #[H,I.tok _,q]
 |ref p =>
  cases d;have a:(∃xs,FR X.K H p xs/\k=!xs.isEmpty)\/(∃xs,FW X.K H p xs/\k=!xs.isEmpty)\/∃f,H p=b6 (.dK f)/\k=!f.isEmpty:=e;rcases a with⟨xs,g,a⟩|⟨xs,g,a⟩|⟨f,g,a⟩
  .subst a;have(its,r,j,hz):=I.list g;have c:=r.length;show wpAny_truthy_list j.isList (by simp only[ko];lia) #[H,I.tok _,by rw[j5 r];show q]
  .subst a;have(its,r,j,hz):=I.tuple g;have c:=r.length;show truthy_tuple j (by simp only[ko];lia) #[H,I.tok _,by rw[j5 r];show q]
  .subst a;obtain⟨hz,o,vs,r,m⟩:f.length<=eF/\(p==NO)=dV/\∃vs,KV f vs/\s.heap.DictOf (aZ X.prog X.w) p vs:=I.Fe p _ g;have c:f.length=vs.length:=Paired.length r;show wpAny_truthy_dict o m ⋯ #[H,I.tok _,by rw[qt r];show q]
 |_=>show(show False from e).elim
def vk(d:PE X a e)(f:∀b,isTrue a X.env b=(do let v <-b;Xv a.pos;OB [v] (Y8 v))):
  PT X a (λσ H Q=>e σ H λx H'=>∃k,CT X.K x H' k/\Q k H'):=by
 intro c s σ H Q I h;show isTrue_plain (Ft (d c s σ H _ I h) λv s1 ⟨x,g,i,j,l⟩=>AS c s1 σ g x v Q i j l) (f _)
def qu:Hu X (Ot .Add) (λx y H Q=>∃i j,x=.str i/\y=.str j/\i.length+j.length<=eF/\Q (.str (i++j)) H):=by
 intro a s σ H x y v u Q I b c h;have(i,j,rfl,rfl,hz,q):=h;have(t,rfl):=b;have(t',rfl):=c;show add_str (λt' d=>#[.str (i++j),H,I.tok _,#[_,rfl],q]) hz
def vals1(r:Vals [x] us):∃u,us=[u]/\RelV x u:=by
 cases r with
 |cons a b=>cases b;show#[_,rfl,a]
def vals2(r:Vals [x,y] us):∃u a,us=[u,a]/\RelV x u/\RelV y a:=by
 cases r with
 |cons b c =>
  cases c with
  |cons d e=>cases e;show#[_,_,rfl,b,d]
def tY(c:X.calm=cb):dS X (.builtin "max") (λxs H Q=>∃i j,xs=[.int i,.int j]/\Q (.int (if j>i then j else i)) H):=by
 intro b s σ H xs us Q I r h;have(i,j,rfl,q):=h;have(u,d,rfl,(t,rfl),(t',rfl)):=vals2 r;show max_two_ints (I.ok.hd c) λh' e k=>#[_,H,I.kept k,?_,q]
 by_cases a:j>i
 .rw[Zx a,Zx a];show#[_,rfl]
 .rw[Zy a,Zy a];show#[_,rfl]
def tZ(c:X.calm=cb):dS X (.builtin "min") (λxs H Q=>∃i j,xs=[.int i,.int j]/\Q (.int (if j<i then j else i)) H):=by
 intro b s σ H xs us Q I r h;have(i,j,rfl,q):=h;have(u,d,rfl,(t,rfl),(t',rfl)):=vals2 r;show min_two_ints (I.ok.hd c) λh' e k=>#[_,H,I.kept k,?_,q]
 by_cases a:j<i
 .rw[Zx a,Zx a];show#[_,rfl]
 .rw[Zy a,Zy a];show#[_,rfl]
def t5:dS X (.type "int") (λxs H Q=>(∃i,xs=[.int i]/\Q (.int i) H)\/∃k,xs=[.bl k]/\Q (.int (if k then 1 else 0)) H):=by
 intro a s σ H xs us Q I r h;rcases h with⟨i,rfl,q⟩|⟨k,rfl,q⟩
 .have(u,rfl,t,rfl):=vals1 r;show call_int_int #[.int i,H,I,#[_,rfl],q]
 .have(u,rfl,b):=vals1 r;cases b;show call_int_bool #[.int (if k then 1 else 0),H,I.tok _,#[_,rfl],q]
def mR:dS X (.type "str") (λxs H Q=>∃i,xs=[.int i]/\i.natAbs.log2<1920/\Q (.str (WK i)) H):=by
 intro a s σ H xs us Q I r h;have(i,rfl,hz,q):=h;have(u,rfl,t,rfl):=vals1 r;show PySem.P.str_of_int hz #[.str _,H,I.tok _,#[_,rfl],q]
end
section
end
def lC.some_of(r:lC (b6 v) o):∃u,o=b6 u/\RelV v u:=by
 cases o with
 |none=>show(show False from r).elim
 |some u=>show#[u,rfl,r]
section
end
structure SF(K:PySem.W.Frag)(C:i6):Prop where
 pg:PySem.W.plainGet K C DD=cb
 hd:PySem.W.hasDictIn K C=cb
 po:PySem.W.plainOver K C=cb
 sa:PySem.W.findIn K (.ref C) "__setattr__"=b6 (b6 (.builtin "object.__setattr__"))
section
end
section
end
section
inductive j6(K:PySem.W.Frag)(H:Hp):V->fx->Prop where
 |Fg:j6 K H .Fg (.type "NoneType")
 |bl (x:Bool):j6 K H (.bl x) (.type "bool")
 |int (i:Int):j6 K H (.int i) (.type "int")
 |str (x:Str):j6 K H (.str x) (.type "str")
 |Nn (x:UInt64):j6 K H (.Nn x) (.type "float")
 |lst {a:i6} {xs:List V} (e:H a=b6 (.lst xs)):j6 K H (.ref a) (.type "list")
 |G7 {a:i6} {o:Obj} {xs:List V} (e:H a=b6 (.G7 o (.lst xs))):j6 K H (.ref a) (.type "list")
 |tup {a:i6} {xs:List V} (e:H a=b6 (.tup xs)):j6 K H (.ref a) (.type "tuple")
 |dK {a:i6} {B':List (Key×V)} (e:H a=b6 (.dK B')):j6 K H (.ref a) (.type "dict")
 |dT {a:i6} {B':List (List Key×V)} (e:H a=b6 (.dT B')):j6 K H (.ref a) (.type "dict")
 |ins {a C dx:i6} {fs:List (Str×V)} (e:H a=b6 (.ins C dx fs)) (cl:SF K C) (ha:PySem.W.findIn K (.ref C) "__class__"=b6 (b6 (.builtin "object.__class__")))
   (hn:PySem.W.specialIn K (.builtin "object.__class__") "__get__"=b6 (b6 (.builtin "getset_descriptor.__get__"))) (QT:PySem.W.takesIn K (.builtin "object.__class__")=b6 cb)
   (hm:PySem.W.mroIn K C (.type "object")=b6 cb):j6 K H (.ref a) (.ref C)
end
structure eW(k:Nat)(A:J0):Prop where
 hd:A.handled=b7
 dp:A.depth+3 * k+5<Za
 un:A.units+16 * k+200<N9
 gd:A.guards=b6 []
def eW.deeper(r:eW (k+1) A)(env:Env):eW k (A.deeper env) :=
 #[r.hd,by have:=r.dp;change A.depth+1+3 * k+5 < _;lia,by have:=r.un;change A.units+3+16 * k+200 < _;lia,r.gd]
def eW.depth(r:eW k A):A.depth<Za:=by have:=r.dp;lia
abbrev EH:TA:=λ_ H Q=>Q [] H
abbrev CU(a:TE)(b:TA):TA:=λσ H Q=>a σ H λx c=>b σ c λxs d=>Q (x::xs) d
section
def e_:PA X [] EH:=λ_ _ _ _ H Q I h=>MK #[[],H,I,.nil,h]
def bT(b:PE X e te)(c:PA X es t)(hs:o5 (e::es) X.env=(dV,KZ e X.env)::o5 es X.env:=by rfl):PA X (e::es) (CU te t):=by
 intro pos a s σ H Q I h;rw[hs];change iv _ _ (YA ((dV,KZ e X.env)::Ma pos (o5 es X.env))) _ _ s;show K5 (Ft (b a s σ H _ I h) λu s1 d=>?_);have(x,f,g,i,j):=d;show Ft (c pos a s1 σ f _ g j) λus s2 ⟨xs,k,l,m,n⟩=>#[x::xs,k,l,.cons i m,n]
abbrev EI(t:TA):TE:=λσ H Q=>t σ H λxs a=>xs.length<=eF/\∀p,a p=b7->Q (.ref p) (upd a p (.tup xs))
abbrev EJ(t:TA):TE:=λσ H Q=>t σ H λxs a=>xs.length<=eF/\∀p,a p=b7->Q (.ref p) (upd a p (.lst xs))
def vm(h:PA X es t):PE X (.Tuple es x1 pos) (EI t):=by
 intro a s σ H Q I f;show T9 (Ft (h pos a s σ H _ I f) λus s1 ⟨xs,c,d,r,z,q⟩=>#[by rw[<-r.length];show z,?_]);have g:c s1.heap.objs.size=b7:=d.Fe.fresh (g0 _);show#[.ref s1.heap.objs.size,upd c s1.heap.objs.size (.tup xs),d.laid (t':=s1.toks) (λb u e=>ek _ e) (g0 _) ?_,rfl,q _ g];show#[z,us,r,#[_,hH _ rfl,rfl,_,rfl]]
def AU(h:PA X es t):PE X (.List es pos) (EJ t):=by
 intro a s σ H Q I f;show Yn (Ft (h pos a s σ H _ I f) λus s1 ⟨xs,c,d,r,z,q⟩=>#[by rw[<-r.length];show z,?_]);have g:c s1.heap.objs.size=b7:=d.Fe.fresh (g0 _);show#[.ref s1.heap.objs.size,upd c s1.heap.objs.size (.lst xs),d.laid (t':=s1.toks) (λb u e=>ek _ e) (g0 _) ?_,rfl,q _ g];show#[z,us,0,r,hH _ rfl]
end
@[reducible]noncomputable def Sp:=List V->Hp->VK->XK->Prop
@[reducible]noncomputable def KU:=List Env->Hp->hW->XK->fx->hW->Prop
structure yk(P:y1)(w:F7)(K:PySem.W.Frag)(mg:Str->Option fx)(base:H9)(A:J0)(outer:List Env)(s:hW)(H:Hp):Prop where
 frames:A.frames=b6 outer
 mod:Mod K mg base
 bs:∀b o,base.get? b=b6 o->s.heap.get? b=b6 o/\H b=b7
 JD:base.objs.size<=s.heap.objs.size
 iW:s.heap.FunFrames base outer
 Kh:∀b∈FT outer,H b=b7
 Fe:Gf P w H s.heap
 bare:Ra s.gens
abbrev CE(outer:List Env)(P:y1)(w:F7)(H:Hp)(s:hW)(Q:VK)(u:fx)(s':hW):Prop :=
 ∃v H',s'.os=s.os/\Ra s'.gens/\Un (FT outer) [] H H' s.heap s'.heap/\Gf P w H' s'.heap/\RelV v u/\Q v H'
abbrev CR(CX:KU)(outer:List Env)(P:y1)(w:F7)(H:Hp)(s:hW)(Q:VK)(E:XK)(r:Zn)(s':hW):Prop :=
 match r with
 |.ok (.ret u)=>CE outer P w H s Q u s'
 |.ok _=>False
 |.error e=>CX outer H s E e s'
structure jB(P:y1)(w:F7)(K:PySem.W.Frag)(mg:Str->Option fx)(base:H9)(CX:KU)(k:Nat)(f:i6)(fd:Qy)(ps:List Str)(sp:Sp):Prop where
 len:∀vs H Q E,sp vs H Q E->vs.length=ps.length
 run:∀(A:J0) (outer:List Env) (s:hW) (H:Hp) (args:Args) (us:List fx) (vs:List V) (Q:VK) (E:XK),eW k A->yk P w K mg base A outer s H->XD s fd args (ps.zip us)->Vals vs us->sp vs H Q E ->
  Pt (j0 P w) A (.call (.ref f) args) (CR CX outer P w H s Q E) s
section
def Inv.CV(I:Inv X a σ H s):yk X.prog X.w X.K X.mg X.base X.A X.stack s H :=
 #[I.ok.frames,I.ok.mod,I.bs,F8 I.ok.JD I.sz,I.stack,I.jO,I.Fe,I.bare]
def Inv.after(I:Inv X a σ H s)(h:CE X.stack X.prog X.w H s Q u s'):EP X a σ Q u s':=by
 have(v,H',os,c,e,f,r,q):=h;have(i,g,d,t,j):=s';obtain rfl:j=s.os:=os;show#[v,H',I.call (h':=i) (g':=g) (d':=d) (t':=t) (ch:=[]) e f c (λb z=>absurd z (by simp)),r,q]
end
abbrev Binds(K:PySem.W.Frag)(a:Qy)(ps:List Str)(ds:List fx):Prop :=
 ∀(s:hW) (us:List fx),K.In s.heap->(us++ds).length=ps.length->XD s a #[us,[]] (ps.zip (us++ds))
def Binds.all{K:PySem.W.Frag}(h:∀us:List fx,us.length=ps.length->Zf a #[us,[]]=pure (ps.zip us)):Binds K a ps []:=λs us _ hl=>by
 rw[G5]at hl ⊢;show .of_eq (h us hl)
abbrev Passes(CX:KU)(X:Cx)(E:XK):Prop:=∀(a:List (i6×Obj)) (σ:St) (H:Hp) (s:hW) (e:fx) (s':hW),Inv X a σ H s->CX X.stack H s E e s'->X.xe e s'
section
def AV(F:jB X.prog X.w X.K X.mg X.base CX k f g ps sp)(i:eW k X.A)(j:Binds X.K g ps ds)(hd:Vals b ds)(l:Passes CX X E)
  (I:Inv X a σ H s) (r:Vals vs us) (h:sp (vs++b) H Q E):iv (j0 X.prog X.w) X.A (OK (.ref f) us) (EP X a σ Q) X.xe s:=by
 have d:Vals (vs++b) (us++ds):=r.append hd;have hl:(us++ds).length=ps.length:=by rw[<-d.length];show F.len _ _ _ _ h
 show WM (Oa (F.run X.A X.stack s H #[us,[]] (us++ds) (vs++b) Q E i I.CV (j s us I.IW hl) d h) λr s' c=>?_);cases r with
 |error e=>show l a σ H s e s' I c
 |ok m =>
  cases m with
  |ret u=>show I.after c
  |_=>show Nj c
end
section
end
structure dB(N P:List Str)(sc:Jy):Prop where
 kind:sc.kind=.function
 co:sc.isCoroutine=dV
 gen:sc.isGenerator=dV
 nd:N.Nodup
 pre:N.take P.length=P
 par:∀x∈P,sc.names.lookup x=b6 .local\/sc.names.lookup x=b6 .cell
 KW:∀y∈sc.names,y.2≠.free
theorem lT{kindOf:Str->Option K4}:∀{a:List (Str×fx)}{m:Str->Option fx},(∀v,(x,v)∉a)->Xo kindOf a m x=m x
 |[],_,_=>rfl
 |(n,v)::r,m,h=>by
  unfold Xo;rw[lT λw b=>h w (nc _ b)];split
  .have:x≠n:=by rintro rfl;show h v ov
   simp[this]
  .rfl
theorem lU{kindOf:Str->Option K4}:∀{a:List (Str×fx)}{m:Str->Option fx},(∀v,(x,v)∉a)->Xp kindOf a m x=m x
 |[],_,_=>rfl
 |(n,v)::r,m,h=>by
  unfold Xp;rw[lU λw b=>h w (nc _ b)];split
  .rfl
  .have:x≠n:=by rintro rfl;show h v ov
   simp[this]
theorem lV{kindOf:Str->Option K4}:∀{P:List Str}{vs:List fx}{i:Nat}{m:Str->Option fx},P.Nodup->P[i]?=b6 x->vs[i]?=b6 v->kindOf x=b6 .local ->
  Xo kindOf (P.zip vs) m x=b6 v
 |[],_,_,_,_,h,_,_=>by simp at h
 |_::_,[],_,_,_,_,h,_=>by simp at h
 |p::P,w::vs,0,m,b,a,h2,hk=>by
  simp at a h2;subst a;subst h2;change Xo kindOf ((p,w)::P.zip vs) m p=_;unfold Xo;rw[lT λv c=>(Gz.mp b).1 (U6 c).1,Zx hk];simp
 |p::P,w::vs,i+1,m,b,a,h2,hk=>by
  change Xo kindOf ((p,w)::P.zip vs) m x=_;unfold Xo;show lV (i:=i) (Gz.mp b).2 (by simpa using a) (by simpa using h2) hk
theorem lW{kindOf:Str->Option K4}:∀{P:List Str}{vs:List fx}{i:Nat}{m:Str->Option fx},P.Nodup->P[i]?=b6 x->vs[i]?=b6 v->kindOf x≠b6 .local ->
  Xp kindOf (P.zip vs) m x=b6 v
 |[],_,_,_,_,h,_,_=>by simp at h
 |_::_,[],_,_,_,_,h,_=>by simp at h
 |p::P,w::vs,0,m,b,a,h2,hk=>by
  simp at a h2;subst a;subst h2;change Xp kindOf ((p,w)::P.zip vs) m p=_;unfold Xp;rw[lU λv c=>(Gz.mp b).1 (U6 c).1,Zy hk];simp
 |p::P,w::vs,i+1,m,b,a,h2,hk=>by
  change Xp kindOf ((p,w)::P.zip vs) m x=_;unfold Xp;show lW (i:=i) (Gz.mp b).2 (by simpa using a) (by simpa using h2) hk
abbrev start(N:List Str)(vs:List V):St:=vs.map b6++pe (N.length - vs.length) b7
abbrev oG(CX:KU)(P:y1)(w:F7)(K:PySem.W.Frag)(mg:Str->Option fx)(base:H9)(N:List Str)(a:Str)(scope:Jy)(f:i6)(b:fx)(A:J0)(outer:List Env)(s:hW)(H:Hp)(E:XK):Cx where
 prog:=P
 w:=w
 K:=K
 mg:=mg
 base:=base
 A:=A.deeper (Sv a scope s.heap.objs.size f b)
 N:=N
 s₀:=s
 H₀:=H
 env:=Sv a scope s.heap.objs.size f b
 outer:=outer
 stack:=Sv a scope s.heap.objs.size f b::outer
 ex:=[]
 calm:=cb
 fn:=λ_=>cb
 pn:=[]
 xe:=λe s'=>iv (j0 P w) (A.deeper (Sv a scope s.heap.objs.size f b)) (leaving (Sv a scope s.heap.objs.size f b) e) (λ_ c=>CX outer H s E e c) (λd c=>CX outer H s E d c) s'
def oH{a:Jy}(h:a.names.lookup x=b6 .cell):∃c,(LF n a.names []).lookup x=b6 c:=by
 have q:=PySem.W.cellsFrom_some a.names n [] (.inl h);show V3.mp q
def t6{K:PySem.W.Frag}
  (S:dB N ps scope) (hd:A.handled=b7) (g:yk P w K mg base A outer s H) (hl:vs.length=ps.length) (r:Vals vs us)
  (x:InCallC s s.heap.objs.size (Xo (Sv d scope s.heap.objs.size f m).kindOf (ps.zip us) λ_=>b7) (LF (s.heap.objs.size+1) scope.names []) (Xp (Sv d scope s.heap.objs.size f m).kindOf (ps.zip us) λ_=>b7) s1) :
  Inv (oG CX P w K mg base N d scope f m A outer s H E) [] (start N vs) H s1:=by
 have G:ps.length<=N.length:=by have:=ZE Lz S.pre;rw[sd]at this;lia
 have(l,I,rfl,hk):=x.done;have o:∀b:i6,b∉(oG CX P w K mg base N d scope f m A outer s H E).ex:=λb z=>absurd (show b∈([]:List i6) from z) (by simp);show#[#[g.mod,S.kind,rfl,rfl,g0 _,λy z c l h2=>?_,λy hy=>?_,λy c _ h=>?_,λ_=>hd,Around.frames_deeper g.frames,.inr #[rfl,rfl],λb z=>absurd z (o b),g.bs,g.JD,λb _ _=>o b,λb z=>absurd z (o b),g.iW,g.Kh],
  rfl,g.bare,Un.kept hk,#[_,x.toInCall.ns,λi y v l h2 J=>?_],λy c h=>#[_,x.cell y c h],g.Fe.fresh (g0 _),λy c h=>?_,λp j=>absurd (show p∈([]:List (i6×Obj)) from j) (by simp),g.Fe.kept hk,?_]
 .show name_of_addr x.apart (PySem.mem_of_lookup l) (PySem.mem_of_lookup h2)
 .have hy:scope.names.lookup y=b6 .cell\/scope.names.lookup y=b6 .free:=hy;rcases hy with hy|hy
  .show oH hy
  .show absurd rfl (S.KW _ (PySem.mem_of_lookup hy))
 .show LA (x.above y c (PySem.mem_of_lookup h))
 .have hi:i<vs.length:=by
   unfold start at h2;by_cases hi:i<vs.length
   .show hi
   .rw[vr (by simpa using hi)]at h2;rw[Kf]at h2;split at h2<;>cases h2
  have C:vs[i]?=b6 v:=by
   unfold start at h2;rw[C0 (by simpa using hi),mh]at h2;cases e:vs[i]? with
   |none=>rw[e]at h2;cases h2
   |some a=>rw[e]at h2;cases h2;rfl
  have(u,t,D):=r.get C;have j:ps[i]?=b6 y:=by
   rw[<-S.pre,Wv ⋯];show l
  have B:ps.Nodup:=by rw[<-S.pre];show S.nd.sublist (Ia _ _)
  show#[u,D,?_];rcases S.par y (JT j) with k|k
  .show .inl #[k,lV B j t k]
  .have(c,e):=oH (n:=s.heap.objs.size+1) k;show .inr #[.inl k,c,e,?_];have q:=x.cell y c e;rw[lW B j t (by change scope.names.lookup y≠_;rw[k];decide)]at q;show q
 .show g.Fe.fresh (LA (x.above y c (PySem.mem_of_lookup h)))
 .unfold start;change _=N.length;rw[oT,f6,OP];lia
def zT{K:PySem.W.Frag}{B kV g C d ct L:fx}
 (lk:K.lookup f=b6 #[L,od,.func (PySem.W.fnOf name a c body scope B kV g C O d ct),Kl]) (T:PySem.W.codeIn K d a=cb) (S:dB N ps scope)
    (h:∀vs H Q E,sp vs H Q E->vs.length=ps.length)
    (Y:∀(A:J0) (outer:List Env) (s:hW) (H:Hp) (vs:List V) (Q:VK) (E:XK),eW k (A.deeper (Sv a scope s.heap.objs.size f d))->sp vs H Q E ->
      ∃t,Gr (oG CX P w K mg base N a scope f d A outer s H E) body t/\t {nx:=λ_ H'=>Q .Fg H',rt:=Q} (start N vs) H) :
    jB P w K mg base CX (k+1) f (PySem.W.fnOf name a c body scope B kV g C O d ct) ps sp:=by
  show#[h,λA outer s H args us vs Q E m i hb r D=>?_];have hl:=h _ _ _ _ D;have G:K.In s.heap:=i.mod.Md.keeps λb o e=>(i.bs b o e).1;have p:s.heap.NoLimit:=i.mod.nolimit.keeps λb o e=>(i.bs b o e).1;have Mp:∀y∈ps.zip us,scope.names.lookup y.1=b6 .local\/(scope.names.lookup y.1=b6 .cell/\((LF (s.heap.objs.size+1) scope.names []).lookup y.1).isSome=cb):=λ⟨n,v⟩ hy=>by
    rcases S.par n (U6 hy).1 with q|q
    . show .inl q
    . show .inr #[q,PySem.W.cellsFrom_some _ _ _ (.inl q)]
  show codeAny_call_function m.depth (G _ _ lk) rfl S.co S.gen rfl (PySem.W.codeRec_of G T) (hb _ _ _ _ ?_);show wpAny_newFunctionEnv_cells S.kind Mp λenv he s1 x=>?_;subst he;show#[p.keeps x.toInCall.keep,codeAny_func ?_];have(t,ht,hq):=Y A outer s H vs Q E (m.deeper _) D;have I:Inv (oG CX P w K mg base N a scope f d A outer s H E) [] (start N vs) H s1:=t6 S m.hd i hl r x;show tA (ht [] s1 (start N vs) H _ I hq) (λfl s' hs=>?_) λe s' hs=>hs;have j:∀{l:St} {H':Hp} {v:V} {u:fx},Inv (oG CX P w K mg base N a scope f d A outer s H E) [] l H' s'->RelV v u->Q v H'->CE outer P w H s Q u s' :=
    λ{l H' v u} J z q=>#[v,H',J.os,J.bare,J.base,J.Fe,z,q]
  cases fl with
  | ret u =>
    have(v,l,H',J,z,q):=hs;show j J z q
  | next =>
    have(l,H',J,q):=hs;show j (v:=V.Fg) (u:=GA) J rfl q
  | brk =>
    have(_,_,_,q):=hs;show Nj q
  | cont =>
    have(_,_,_,q):=hs;show Nj q
section
end
end L2
namespace HT
open PySem PyProof.Rows
section
open PySem.SeqAt
open PySem.AutoSeq1 (wpAny_loadPart')
open PySem.MeetsSeq PySem.MeetsSeq2 PySem.MeetsSeq3
end
section
def yl(m:X_ s.heap t vs.toArray)(o:X_ s.heap b ws.toArray)(f:vs≠[])
  (p:ws=[]->Q (.ref t) s) (h2:ws≠[]->Q (.ref s.heap.objs.size) {s with heap:=s.heap.push {cls:=.type "tuple",data:=.seq (vs++ws).toArray}})
  (hsz:vs.length+ws.length<=eF):iv (j0 prog w) A (Ot .Add (.ref t) (.ref b)) Q E s:=by
 have((cls,dd,data,g),ho,h,n,hd):=id m;have((q,i,data2,j),c,k,l,a):=id o;simp only at h hd k a;subst h hd k a;have e:vs.toArray++ws.toArray=(vs++ws).toArray:=by simp
 by_cases d:ws=[]
 .show VB #[_,ho,rfl] #[_,c,rfl] Wi W' PySem.F.slot_tuple_add PySem.F.entry_tuple_add (PySem.F.args_tuple_add_2 _ _)
   (tuple_addW1 t b vs.toArray ws.toArray n l dd i g j (by simpa using f) (by simp[d])) #[ho,c,p d]
 .show VB #[_,ho,rfl] #[_,c,rfl] Wi W' PySem.F.slot_tuple_add PySem.F.entry_tuple_add (PySem.F.args_tuple_add_2 _ _)
   (tuple_addW2 t b vs.toArray ws.toArray n l dd i g j (by simpa using f) (by simpa using d) (by rw[ko,ko];show hsz)) #[ho,c,?_]
  rw[e];show h2 d
abbrev Fp(n d:Nat):Option Int->Nat
 |none=>d
 |some v=>if v<0 then(v+(n:Int)).toNat else min v.toNat n
def vn(n d:Nat):Fp n d b7=d:=rfl
def mS(n d k:Nat):Fp n d (b6 (k:Int))=min k n:=by
 change(if (k:Int)<0 then((k:Int)+(n:Int)).toNat else min (k:Int).toNat n)=min k n;rw[Zy ⋯,Qk]
def AW(n d:Nat)(hd:d<=n)(o:Option Int):Fp n d o<=n:=by
 cases o with
 |none=>show hd
 |some v =>
  change(if v<0 then(v+(n:Int)).toNat else min v.toNat n)<=n;by_cases a:v<0
  .rw[Zx a];lia
  .rw[Zy a];show Nat.min_le_right _ _
def rY(v:Int)(n d:Nat):(if v<0 then max (v+(n:Int)) 0 else min v (n:Int))=((Fp n d (b6 v):Nat):Int):=by
 change(if v<0 then max (v+(n:Int)) 0 else min v (n:Int))=(((if v<0 then(v+(n:Int)).toNat else min v.toNat n):Nat):Int)
 by_cases a:v<0
 .simp only[Zx a];lia
 .simp only[Zy a];lia
def qv(lo hi:Option Int)(n:Nat):Pu lo hi 1 (n:Int)=(((Fp n 0 lo:Nat):Int),((Fp n n hi:Nat):Int)):=by
 have a:¬((1:Int)<0):=by lia
 unfold Pu;simp only[a,if_false];show V2 ?_ ?_
 .cases lo with
  |none=>rfl
  |some v=>show rY v n 0
 .cases hi with
  |none=>rfl
  |some v=>show rY v n n
def qw(i j:Nat):Mx (i:Int) (j:Int) 1=j - i:=by
 unfold Mx;have a:(1:Int)>0:=by lia
 simp only[a,if_true,Int.ediv_one];split<;>lia
def j7(p:Ti v o)(h:Q o s):iv (j0 prog w) A (YP v) Q E s:=by
 cases p with
 |none=>show Zr h
 |int i t=>show slicePart_int h
def dU{lo hi:Option Int}{n:Nat}(hs:s.heap.IsSliceOf e c d .none)(f:Ti c lo)(g:Ti d hi)
  (h:Q (((Fp n 0 lo:Nat):Int),1,Fp n n hi - Fp n 0 lo) s):iv (j0 prog w) A (SJ (.ref e) (pure (n:Int))) Q E s:=by
 have(os,a,i,b):=id hs;unfold SJ YQ;show b8 (b8 (X0 a b (x:=c) rfl (b8 (X0 a b (x:=d) rfl (b8 (X0 a b (x:=.none) rfl (eH ?_)))))));show b8 (Zr ?_);change iv _ _ (if ((1:Int)==0)=cb then _ else _) _ _ s;rw[Zy (by decide)];show b8 (j7 f (b8 (j7 g (b8 (eH ?_)))));change iv _ _ (match Pu lo hi 1 (n:Int) with|(lo,hi)=>pure (lo,(1:Int),Mx lo hi 1)) _ _ s;rw[qv lo hi n];change iv _ _ (pure (((Fp n 0 lo:Nat):Int),(1:Int),Mx ((Fp n 0 lo:Nat):Int) ((Fp n n hi:Nat):Int) 1)) _ _ s;rw[qw];show eH h
def vo(xs:Array fx)(i k:Nat):((lg k).filterMap λ(m:Nat)=>xs[((i:Int)+(m:Int) * 1).toNat]?).toArray=((xs.toList.drop i).take k).toArray:=by
 have e:(λ(m:Nat)=>xs[((i:Int)+(m:Int) * 1).toNat]?)=λm=>xs[i+m]?:=by
  funext m
  have:((i:Int)+(m:Int) * 1).toNat=i+m:=by lia
  rw[this]
 rw[e];have:=pick_run xs i k;rw[List.filterMap_map]at this;have a:((λx=>xs[x]?) ∘ λx=>i+x)=λm=>xs[i+m]?:=rfl;rw[a]at this;rw[this]
def g_{lo hi:Option Int}(b:X_ s.heap t a)(hs:s.heap.IsSliceOf d e f .none)(g:Ti e lo)(i:Ti f hi)
  (j:¬(Fp a.size 0 lo=0/\Fp a.size a.size hi=a.size))
  (h:Q (.ref s.heap.objs.size) {s with heap:=s.heap.push {cls:=.type "tuple",data:=.seq ((a.toList.drop (Fp a.size 0 lo)).take (Fp a.size a.size hi - Fp a.size 0 lo)).toArray}})
  (hsz:a.size<=eF):iv (j0 prog w) A (Tz (.ref t) (.ref d)) Q E s:=by
 have c:sizeOk (.seq ((a.toList.drop (Fp a.size 0 lo)).take (Fp a.size a.size hi - Fp a.size 0 lo)).toArray):=by
  change((a.toList.drop (Fp a.size 0 lo)).take (Fp a.size a.size hi - Fp a.size 0 lo)).toArray.size<=eF;rw[ko,sd,KR,mu];lia
 have p:Fp a.size a.size hi<=a.size:=AW _ _ (g0 _) hi;have(os,k,l,r):=id hs;have n:s.TypeIs (.ref d) "slice":=#[os,k,l]
 unfold Tz
 try with_reducible show zy ?_
 first|show b8 (eH ?_)|skip
 show b8 (Yy b.typeIs (by decide) ?_);show b8 (Rv (name:=Um "__getitem__") b.typeIs FN
  (Lh FN b.typeIs Yg ?_ (Yv _ _)))
 change iv _ _ (SE (.ref t) >>= _) _ _ s;show b8 (tupleItemsOf_ b ?_);show b8 (LH n ?_);rw[Zx (by decide)];show b8 (dU hs g i ?_);have o:¬((((Fp a.size 0 lo:Nat):Int)==0&&(1:Int)==1&&(Fp a.size a.size hi - Fp a.size 0 lo)==a.size)=cb):=by
  intro q;rw[df,df]at q;have u:((Fp a.size 0 lo:Nat):Int)=0:=YY q.1.1;have v:Fp a.size a.size hi - Fp a.size 0 lo=a.size:=YY q.2;show j #[⋯,⋯]
 change iv _ _ (if (((Fp a.size 0 lo:Nat):Int)==0&&(1:Int)==1&&(Fp a.size a.size hi - Fp a.size 0 lo)==a.size)=cb then _ else _) _ _ s;rw[Zy o,vo]
 first
  |show b8 (m:=MS _) (va (eH #[_,rfl,eH h]) c)
  |show b8 (m:=MS _) (va (b8 (eH (eH #[_,rfl,eH h]))) c)
  |show b8 (b8 (m:=MS _) (va (eH (eH #[_,rfl,eH h])) c))
  |show b8 (b8 (m:=MS _) (va (eH #[_,rfl,eH h]) c))
end
end HT
namespace L2
open PySem PySem.Spec PyProof.Rows
@[reducible]noncomputable def TO:=St->Hp->(Option Int->Hp->Prop)->Prop
abbrev PO(X:Cx)(e:Option tr)(t:TO):Prop :=
 ∀(a:List (i6×Obj)) (s:hW) (σ:St) (H:Hp) (Q:Option Int->Hp->Prop),Inv X a σ H s->t σ H Q ->
  iv (j0 X.prog X.w) X.A (evalPart e X.env) (λu s'=>∃o H',Inv X a σ H' s'/\Ti u o/\Q o H') X.xe s
abbrev ym:TO:=λ_ H Q=>Q b7 H
abbrev CW(t:TE):TO:=λσ H Q=>t σ H λx a=>∃i,x=.int i/\Q (b6 i) a
def intsAre_of:∀{us:List fx},Vals (ns.map V.int) us->OC us ns:=by
 induction ns with
 |nil=>intro us r;rw[Mr]at r;cases r;show .nil
 |cons n ns a =>
  intro us r;rw[i2]at r;cases r with
  |cons b c =>
   have(t,e):=b;subst e;show .cons n t (a c)
section
variable{X:Cx}{e:tr}{te:TE}{lo hi:Option tr}{tl th:TO}{pos p2:Pos}
def yn:PO X b7 ym:=by
 intro a s σ H Q I h;rw[evalPart_none];show eH #[b7,H,I,.none,h]
def yo(h:PE X e te):PO X (b6 e) (CW te):=by
 intro a s σ H Q I b;rw[evalPart_some];show Ft (h a s σ H _ I b) λu s1 c=>?_;have(x,d,f,g,j):=c;have(i,rfl,q):=j;have(t,rfl):=g;show#[b6 i,d,f,.int i t,q]
abbrev JG(X:Cx)(r:V->Option Int->Option Int->Hp->VK->Prop):Prop :=
 ∀(a:List (i6×Obj)) (s:hW) (σ:St) (H:Hp) (x:V) (v b c:fx) (lo hi:Option Int) (d:i6) (Q:VK),Inv X a σ H s->RelV x v->s.heap.IsSliceOf d b c .none->Ti b lo->Ti c hi->r x lo hi H Q ->
  ∃T id,R9 (.type T) "__getitem__"=pure (b6 (.builtin id))/\s.TypeIs v T/\iv (j0 X.prog X.w) X.A (Tz v (.ref d)) (EP X a σ Q) X.xe s
def JG.or(h:JG X r)(h':JG X j):JG X (λx lo hi H Q=>r x lo hi H Q\/j x lo hi H Q):=by
 intro a s σ H x v b c lo hi d Q I f hs g i q;rcases q with q|q
 .show h a s σ H x v b c lo hi d Q I f hs g i q
 .show h' a s σ H x v b c lo hi d Q I f hs g i q
abbrev SG(r:V->Option Int->Option Int->Hp->VK->Prop)(te:TE)(tl th:TO):TE:=λσ H Q=>te σ H λx a=>tl σ a λl b=>th σ b λu c=>r x l u c Q
def vp(g:JG X r)(i:PE X e te)(hl:PO X lo tl)(j:PO X hi th):PE X (.Subscript e (.Slice lo hi b7 p2) pos) (SG r te tl th):=by
 intro a s σ H Q I h;show Subscript_ (Ft (i a s σ H _ I h) λv s1 k=>?_);have(x,m,n,o,p):=k;show wpAny_Slice (Ft (hl a s1 σ m _ n p) λc s2 ⟨l,t,y,z,B⟩=>Ft (j a s2 σ t _ y B) λd s3 C=>?_);have(u,f,D,G,J):=C;rw[evalPart_none];show eH ?_;have L:Inv X a σ f {s3 with heap:=s3.heap.push {cls:=.type "slice",data:=.fields #v[c,d,.none]}}:=D.kept (t':=s3.toks) λb ob q=>ek _ q;have(T,id,N,O,Y):=g a {s3 with heap:=s3.heap.push {cls:=.type "slice",data:=.fields #v[c,d,.none]}} σ f x v c d l u s3.heap.objs.size Q L o (YH ..) z G J;change iv (j0 X.prog X.w) X.A (Xe e (.Slice lo hi b7 p2) v (.ref s3.heap.objs.size)) (EP X a σ Q) X.xe {s3 with heap:=s3.heap.push {cls:=.type "slice",data:=.fields #v[c,d,.none]}};show Zp (ops:=[.ref s3.heap.objs.size,v]) O N Y (by with_unfolding_all rfl)
abbrev oI(xs:List V)(lo hi:Option Int):List V:=(xs.drop (HT.Fp xs.length 0 lo)).take (HT.Fp xs.length xs.length hi - HT.Fp xs.length 0 lo)
def jn(xs:List V)(lo hi:Option Int):(oI xs lo hi).length<=xs.length:=by
 unfold oI;rw[sd,KR];lia
abbrev CY(K:PySem.W.Frag):V->Option Int->Option Int->Hp->VK->Prop:=λx lo hi H Q=>∃a xs,x=.ref a/\FW K H a xs /\
 ¬(HT.Fp xs.length 0 lo=0/\HT.Fp xs.length xs.length hi=xs.length)/\∀p,H p=b7->Q (.ref p) (upd H p (.tup (oI xs lo hi)))
def AX:JG X (CY X.K):=by
 intro d s σ H x v m n lo hi p Q I g hs i j h;have(a,xs,rfl,k,l,q):=h;cases g;have(its,r,f,hz):=I.tuple k;have c:its.toArray.size=xs.length:=by rw[ko];show r.length.symm
 show#["tuple",_,FN.lookup,f.typeIs,?_];show HT.g_ f hs i j (by rw[c];show l) ?_ (by rw[c];show hz);rw[c];show#[.ref s.heap.objs.size,_,I.laid (t':=s.toks) (o:=.tup (oI xs lo hi)) (λb t q=>ek _ q) (g0 _) ?_,rfl,q _ (I.Fe.fresh (g0 _))];show#[F8 (jn xs lo hi) hz,_,(r.drop (HT.Fp xs.length 0 lo)).take (HT.Fp xs.length xs.length hi - HT.Fp xs.length 0 lo),Uq _ _]
abbrev CZ(K:PySem.W.Frag):R2:=λx y H Q=>∃a b xs c,x=.ref a/\y=.ref b/\FW K H a xs/\FW K H b c/\xs≠[]/\xs.length+c.length<=eF /\
 (c=[]->Q (.ref a) H)/\(c≠[]->∀p,H p=b7->Q (.ref p) (upd H p (.tup (xs++c))))
def Vals.mT(r:Vals xs us):us=[]↔xs=[]:=by
 cases r with
 |_=>simp
def yp:Hu X (Ot .Add) (CZ X.K):=by
 intro f s σ H x y v u Q I g i h;have(a,b,xs,j,rfl,rfl,k,l,m,hz,n,p):=h;cases g;cases i;have(its,d,p1,_):=I.tuple k;have(r,c,p2,_):=I.tuple l;show HT.yl p1 p2 (λz=>m (d.mT.mp z)) (λz=>#[.ref a,H,I,rfl,n (c.mT.mp z)]) (λz=>?_) (by rw[<-d.length,<-c.length];show hz);show#[.ref s.heap.objs.size,_,I.laid (t':=s.toks) (o:=.tup (xs++j)) (λb t q=>ek _ q) (g0 _) ?_,rfl,p (λw=>z (c.mT.mpr w)) _ (I.Fe.fresh (g0 _))];show#[by rw[oT];show hz,_,d.append c,Uq _ _]
end
abbrev JS(n:Nat)(i:Int):Option Nat:=if 0<=i then(if i<n then b6 i.toNat else b7) else if -(n:Int)<=i then b6 (i+n).toNat else b7
abbrev FY{α:Type}(xs:List α)(i:Int):Option α:=(JS xs.length i).bind λj=>xs[j]?
def rZ{n:Nat}(h:JS n i=b6 j):seqIndex? i n=b6 j/\j<n/\-(n:Int)<=i/\i<n:=by
 unfold JS at h;by_cases b:0<=i
 .rw[Zx b]at h;by_cases a:i<n
  .rw[Zx a]at h;have e:i.toNat=j:=GD h;show#[by rw[X2 b a,e],⋯,⋯,a]
  .rw[Zy a]at h;cases h
 .rw[Zy b]at h;by_cases a:-(n:Int)<=i
  .rw[Zx a]at h;have e:(i+n).toNat=j:=GD h;show#[by rw[seqIndex_neg ⋯ a,e],⋯,a,⋯]
  .rw[Zy a]at h;cases h
def mU(h:FY xs i=b6 v):∃j,seqIndex? i xs.length=b6 j/\xs[j]?=b6 v/\j<xs.length/\-(xs.length:Int)<=i/\i<xs.length:=by
 unfold FY at h;cases e:JS xs.length i with
 |none=>rw[e]at h;cases h
 |some j =>
  rw[e]at h;have(a,h2,b,c):=rZ e;show#[j,a,h,h2,b,c]
def dC{j:Nat}(h:xs[j]?=b6 v):FY xs (j:Int)=b6 v:=by
 have a:j<xs.length:=(mN.mp h).1;have e:JS xs.length (j:Int)=b6 j:=by
  unfold JS;rw[Zx ⋯,Zx ⋯];simp
 unfold FY;rw[e];show h
abbrev mV(b:tr):Prop:=∀o i,subscripted b dV o i=operate [o,i] (Tz o i)
abbrev OG(X:Cx)(r:R2):Prop :=
 ∀(c a:tr) (b:List (i6×Obj)) (s:hW) (σ:St) (H:Hp) (x y:V) (v u:fx) (Q:VK),Inv X b σ H s->RelV x v->RelV y u->r x y H Q ->
  subscripted a dV v u=operate [v,u] (Tz v u)->iv (j0 X.prog X.w) X.A (Xe c a v u) (EP X b σ Q) X.xe s
abbrev Ny(X:Cx)(id:String)(r:V->List V->Hp->VK->Prop):Prop :=
 ∀(a:List (i6×Obj)) (s:hW) (σ:St) (H:Hp) (x:V) (xs:List V) (v:fx) (us:List fx) (Q:VK),Inv X a σ H s->RelV x v->Vals xs us->r x xs H Q ->
  iv (j0 X.prog X.w) X.A (OK (.builtin id) (v::us)) (EP X a σ Q) X.xe s
section
abbrev EK(K:PySem.W.Frag):R2:=λx y H Q=>∃p xs i v,x=.ref p/\y=.int i/\FR K H p xs/\FY xs i=b6 v/\Q v H
abbrev EL(K:PySem.W.Frag):R2:=λx y H Q=>∃p xs i v,x=.ref p/\y=.int i/\FW K H p xs/\FY xs i=b6 v/\Q v H
abbrev EM:R2:=λx y H Q=>∃z i c,x=.str z/\y=.int i/\z.length<=eF/\FY z.cps.toList i=b6 c/\Q (.str #[#v[c]]) H
def yq:OG X (EK X.K):=by
 intro d f a s σ H x y v u Q I n A h hs;have(p,xs,i,z,rfl,rfl,B,C,q):=h;cases n;have(t,rfl):=A;have(its,r,g,hz):=I.list B;have(j,c,h2,L,D,G):=mU C;have(w,l,J):=r.get h2;have hl:=r.length;have N:=gB;have b:EP X a σ Q w s:=#[z,H,I,J,q]
 by_cases m:0<=i
 .have k:i.toNat=j:=by
   rw[X2 m G]at c;show GD c
  show item_listR g.isList m ⋯ (by rw[k];simpa using l) b hs
 .have k:(i+(its.toArray.size:Int)).toNat=j:=by
   rw[seqIndex_neg ⋯ D]at c;rw[ko,<-hl];show GD c
  show XE (x:=w) g.isList.typeIs YB.lookup
   (wpAny_getItem_list_neg (Q:=λr s'=>r=w/\EP X a σ Q r s') g.isList ⋯ (by rw[ko]<;>lia) ⋯ (by rw[k];simpa using l) ⟨rfl,b⟩) hs
def AY:OG X (EL X.K):=by
 intro b c a s σ H x y v u Q I g k h hs;have(p,xs,i,z,rfl,rfl,l,m,q):=h;cases g;have(t,rfl):=k;have(its,r,f,hz):=I.tuple l;have(j,n,h2,C,D,G):=mU m;have(w,A,B):=r.get h2;have hl:=r.length;have J:=gB;have d:EP X a σ Q w s:=#[z,H,I,B,q]
 show XE (x:=w) f.typeIs FN.lookup
  (getItem_tuple (j:=j) (Q:=λr s'=>r=w/\EP X a σ Q r s') f ⋯ ⋯ (by rw[ko,<-hl];show n) (by simpa using A) ⟨rfl,d⟩) hs
def mW:OG X EM:=by
 intro a b d s σ H x y v u Q I g k h hs;have(z,i,c,rfl,rfl,hz,l,q):=h;have(t,rfl):=g;have(t',rfl):=k;have(j,f,h2,A,m,n):=mU l;have hl:z.cps.toList.length=z.length:=by simp[Og]
 rw[hl]at f m n;have B:=gB;show Zp (WN s z t) YS.lookup (getItem_str (c:=c) (by
  have p:f7 (i < -(2 ^ 63:Int))=dV:=ZA ⋯;have w:f7 (i >= 2 ^ 63)=dV:=ZA ⋯;rw[p,w,Wx]) (by rw[f];simpa using h2) ⟨.str ⟨#v[c]⟩,H,I.tok _,⟨_,rfl⟩,q⟩) hs
def qx(its:List fx)(n j:Nat)(u:fx):vu (·.setIfInBounds j u) {cls:=.type "list",data:=.seq its.toArray n}={cls:=.type "list",data:=.seq (its.set j u).toArray n}:=by
 simp[vu]
def Inv.lst(I:Inv X a σ H s)(h:H p=b6 (.lst xs)):
  ∃(its:List fx) (n:Nat),Vals xs its/\s.heap.get? p=b6 {cls:=.type "list",data:=.seq its.toArray n}/\xs.length<=eF:=by
 have(z,its,n,r,e):=I.Fe p _ h;show#[its,n,r,e,z]
def Inv.AZ{its its':List fx}(I:Inv X a σ H s)(h:H p=b6 (.lst xs))
  (ho:s.heap.get? p=b6 {cls:=.type "list",data:=.seq its.toArray n}) (c:f {cls:=.type "list",data:=.seq its.toArray n}={cls:=.type "list",data:=.seq its'.toArray d }) (r:Vals g its') (hz:g.length<=eF) (t:Nat) :
  Inv X a σ (upd H p (.lst g)) {s with heap:=s.heap.update p f,toks:=t}:=by
 have e:(s.heap.update p f).get? p=b6 {cls:=.type "list",data:=.seq its'.toArray d }:=by
  rw[A0 f ho (by rw[c]<;>rfl),c]
 show I.write (x:=p) (e:=p) (by rw[h];trivial) (.inl rfl) (λb u i q=>(KG _ _ (GR i)).trans q) ⟨_,e⟩ ?_;show#[hz,its',d,r,e]
abbrev C2:V->V->V->Hp->(Hp->Prop)->Prop:=λo i v H Q=>∃p xs k j,o=.ref p/\i=.int k/\H p=b6 (.lst xs)/\JS xs.length k=b6 j/\Q (upd H p (.lst (xs.set j v)))
def set_list:oE X C2:=by
 intro a s σ H o i v z A u Q I m w x h;have(p,xs,k,j,rfl,rfl,c,y,q):=h;cases m;have(t,rfl):=w;have(its,n,r,ho,hz):=I.lst c;have(b,h2,d,f):=rZ y;have hl:=r.length;have B:=gB;have g:Inv X a σ (upd H p (.lst (xs.set j v))) {s with heap:=s.heap.update p (vu (·.setIfInBounds j u))} :=
  I.AZ c ho (qx its n j u) (r.set x j) (by rw[Yc];show hz) s.toks
 by_cases l:0<=k
 .have hk:k.toNat=j:=by
   rw[X2 l f]at b;show GD b
  show PySem.W.ki_setAt ho l ⋯ (by rw[ko,<-hl];show f) (by rw[hk];show#[_,g,q])
 .have hk:(k+(its.toArray.size:Int)).toNat=j:=by
   rw[seqIndex_neg ⋯ d]at b;rw[ko,<-hl];show GD b
  show PySem.W.ki_setBack ho ⋯ (by rw[ko,<-hl];show d) ⋯ (by rw[hk];show#[_,g,q])
def mX(lo hi:Option Int)(n:Nat):(PX lo hi b7 n).1=((HT.Fp n 0 lo:Nat):Int)/\(PX lo hi b7 n).2.1=((HT.Fp n n hi:Nat):Int)/\(PX lo hi b7 n).2.2=1:=by
 show#[?_,?_,rfl]
 .cases lo with
  |none=>simp[PX,HT.Fp]
  |some i =>
   simp only[PX,HT.Fp,Xr,show(1:Int)>0 by decide,if_true];by_cases h:i<0
   .simp only[h,if_true]<;>lia
   .simp only[h,if_false]<;>lia
 .cases hi with
  |none=>simp[PX,HT.Fp]
  |some i =>
   simp only[PX,HT.Fp,Xr,show(1:Int)>0 by decide,if_true];by_cases h:i<0
   .simp only[h,if_true]<;>lia
   .simp only[h,if_false]<;>lia
def lD(its:List fx)(lo hi:Option Int):slicePick its.toArray lo hi b7=((its.drop (HT.Fp its.length 0 lo)).take (HT.Fp its.length its.length hi - HT.Fp its.length 0 lo)).toArray:=by
 have(a,h2,b):=mX lo hi its.toArray.size;unfold slicePick;rw[a,h2,b];simp only[sliceRange_one,pick_run,ko]<;>rfl
abbrev C3(K:PySem.W.Frag):V->Option Int->Option Int->Hp->VK->Prop:=λx lo hi H Q=>∃a xs,x=.ref a/\FR K H a xs/\∀p,H p=b7->Q (.ref p) (upd H p (.lst (oI xs lo hi)))
def yr:JG X (C3 X.K):=by
 intro d s σ H x v l m lo hi n Q I g hs i j h;have(a,xs,rfl,k,q):=h;cases g;have(its,r,f,hz):=I.list k;have c:=r.length;show#["list",_,YB.lookup,f.isList.typeIs,?_];show wpAny_getItem_list_slice f.isList hs i j .none (by simp) ?_ (by rw[ko]<;>lia);rw[lD,<-c];show#[.ref s.heap.objs.size,_,I.laid (t':=s.toks) (o:=.lst (oI xs lo hi)) (λb p q=>ek _ q) (g0 _) ?_,rfl,q _ (I.Fe.fresh (g0 _))];show#[F8 (jn xs lo hi) hz,_,0,(r.drop (HT.Fp xs.length 0 lo)).take (HT.Fp xs.length xs.length hi - HT.Fp xs.length 0 lo),hH _ rfl]
def hJ:dS X (.builtin "len") (λxs H Q=>∃p b,xs=[.ref p]/\(FR X.K H p b\/FW X.K H p b)/\Q (.int b.length) H):=by
 intro f s σ H xs us Q I r h;have(p,b,rfl,hq,q):=h;have(u,rfl,g):=vals1 r;cases g;have i:=gB;rcases hq with hq|hq
 .have(its,c,d,hz):=I.list hq;have a:=c.length;show Calls.call_len_list d.isList (by simp only[ko]<;>lia) #[.int b.length,H,I.tok _,#[s.toks+1,by rw[ko,a]],q]
 .have(its,c,d,hz):=I.tuple hq;have a:=c.length;show len_tuple d (by simp only[ko]<;>lia) #[.int b.length,H,I.tok _,#[s.toks+1,by rw[ko,a]],q]
def mY:dS X (.builtin "len") (λxs H Q=>∃z,xs=[.str z]/\z.length<=eF/\Q (.int z.length) H):=by
 intro a s σ H xs us Q I r h;have(z,rfl,hz,q):=h;have(u,rfl,t,rfl):=vals1 r;have b:=gB;show len_str ⋯ #[.int z.length,H,I.tok _,#[_,rfl],q]
def hU:dS X (.type "list") (λxs H Q=>∃p a,xs=[.ref p]/\(FR X.K H p a\/FW X.K H p a)/\∀l,H l=b7->Q (.ref l) (upd H l (.lst a))):=by
 intro f s σ H xs us Q I r h;have(p,a,rfl,hq,q):=h;have(u,rfl,x):=vals1 r;cases x;have g:∀(its:List fx),Vals a its->a.length<=eF->∀(h':H9) (c:Nat),(∀b v,s.heap.get? b=b6 v->h'.get? b=b6 v) ->
   h'.get? s.heap.objs.size=b6 {cls:=.type "list",dict:=b7,data:=.seq its.toArray c,slots:=#v[]}->EP X f σ Q (.ref s.heap.objs.size) {s with heap:=h' }:=λits d hz h' c i e =>
  #[.ref s.heap.objs.size,_,I.laid (t':=s.toks) i (g0 _) (show bL X.prog X.w _ h' _ (.lst a) from#[hz,its,c,d,e]),rfl,q _ (I.Fe.fresh (g0 _))]
 rcases hq with hq|hq
 .have(its,d,k,hz):=I.list hq;have j:=d.length;have(o,ho,m,n,hd):=k.isList;show call_list_seq p (.inl rfl) ho m hd (λh' c i e=>g its d hz h' c i e) (by simp only[ko]<;>lia)
 .have(its,d,k,hz):=I.tuple hq;have j:=d.length;have(o,ho,m,n,hd):=k;show call_list_seq p (.inr rfl) ho m hd (λh' c i e=>g its d hz h' c i e) (by simp only[ko]<;>lia)
def gn:dS X (.type "tuple") (λxs H Q=>∃p c,xs=[.ref p]/\((FR X.K H p c/\∀l,H l=b7->Q (.ref l) (upd H l (.tup c)))\/(FW X.K H p c/\Q (.ref p) H))):=by
 intro a s σ H xs us Q I r h;have(p,c,rfl,h):=h;have(u,rfl,k):=vals1 r;cases k;rcases h with⟨d,q⟩|⟨d,q⟩
 .have(its,f,g,hz):=I.list d;have i:=f.length;show call_tuple_list g.isList (λh' m=>?_) (by simp only[ko]<;>lia);have j:Inv X a σ H {s with heap:=h' }:=I.kept (t':=s.toks) m;have n:Inv X a σ (upd H h'.objs.size (.tup c)) {s with heap:=h'.push {cls:=.type "tuple",data:=.seq its.toArray}} :=
   j.laid (t':=s.toks) (λb o e=>ek _ e) (g0 _) (show bL X.prog X.w _ _ _ (.tup c) from#[hz,its,f,Uq _ _])
  show#[.ref h'.objs.size,_,n,rfl,q _ (j.Fe.fresh (g0 _))]
 .have(its,f,g,hz):=I.tuple d;show call_tuple_same g #[.ref p,H,I,rfl,q]
abbrev OH(K:PySem.W.Frag)(T:String)(x:V)(H:Hp):Prop:=match x with
 |.str _=>T="str"
 |.int _=>T="int"
 |.ref p=>(T="list"/\∃xs,FR K H p xs)\/(T="tuple"/\∃o,K.lookup p=b6 o/\o.cls=.type "tuple"/\o.dict=b7) \/
   (T="dict"/\((∃a,H p=b6 (.dK a))\/∃a,H p=b6 (.dT a)))\/(T="set"/\∃S n,H p=b6 (.set S n))
 |_=>False
def vq(I:Inv X d σ H s)(r:RelV x v)(ty:OH X.K T x H):
  s.TypeIs v T/\∀a,v=.ref a->∃f,s.heap.get? a=b6 f/\f.dict=b7:=by
 cases x with
 |str z =>
  have(t,rfl):=r;cases(show T="str" from ty);show#[WN s z t,λ_ e=>nomatch e]
 |int i =>
  have(t,rfl):=r;cases(show T="int" from ty);show#[typeIs_int s i t,λ_ e=>nomatch e]
 |ref p =>
  cases r;rcases ty with⟨rfl,xs,h⟩|⟨rfl,o,hk,j,hd⟩|⟨rfl,hk⟩|⟨rfl,S,n,hk⟩
  .have(its,_,g,_):=I.list h;show#[g.isList.typeIs,λa e=>?_];cases e;have(o,n,e,c,hd,_):=g;show#[o,e,hd]
  .show#[#[o,I.IW p o hk,j],λa e=>?_];cases e;show#[o,I.IW _ o hk,hd]
  .have z:∃o,s.heap.get? p=b6 o/\o.ExactDict:=by
    rcases hk with⟨k,hk⟩|⟨k,hk⟩
    .have(_,_,_,_,o,_,_,e,ex,_):=I.Fe p _ hk;show#[o,e,ex]
    .have(_,_,_,_,o,_,_,e,ex,_):=I.Fe p _ hk;show#[o,e,ex]
   have(o,e,ex):=z;show#[#[o,e,ex.1],λa b=>?_];cases b;show#[o,e,ex.2.1]
  .have(o,_,_,_,e,ex,_):=I.Fe p _ hk;show#[#[o,e,ex.1],λa b=>?_];cases b;show#[o,e,ex.2.1]
 |_=>show Nj ty
abbrev SH(K:PySem.W.Frag)(T:String)(r:V->List V->Hp->VK->Prop)(to:TE)(t:TA):TE:=λσ H Q=>to σ H λx a=>OH K T x a/\t σ a λxs b=>r x xs b Q
variable{o e:tr}{es:List tr}{to:TE}{t:TA}{name:Str}{apos Ff:Pos}{T id:String}{r:V->List V->Hp->VK->Prop}
def zU(f:PlainAttrs T)(slot:Slot T name id)(g:Yo (.builtin id)=pure (.type "method_descriptor"))(i:Ny X id r)(ho:PE X o to)(j:PA X (e::es) t)
  (k:Xb o name X.env (KZ o X.env)=KZ o X.env:=by rfl)
  (l:((Ma Ff (o5 (e::es) X.env)).all (λx=>!x.1)&&(WS Ff (S4 [] X.env)).all (λx=>x.1.isSome)
   && f7 ((e::es).length+([]:List Q4).length+(if ([]:List Q4).isEmpty then 0 else 1)<30))=cb:=by rfl)
  (m:(apos.endLine==Ff.line)=cb:=by rfl) (hs:o5 (e::es) X.env=(dV,KZ e X.env)::o5 es X.env:=by rfl) (n:(Ma Ff (o5 es X.env)).any (·.1)=dV:=by rfl) :
  PE X (.Call (.Attribute o name apos) (e::es) [] Ff) (SH X.K T r to t):=by
 intro a s σ H Q I h;show Xt k l m rfl (Ft (ho a s σ H _ I h) λv s1 p=>?_);have(x,q,b,c,ty,u):=p;have(w,h2):=vq b c ty;show#[T,id,f,slot,g,w,h2,?_];have d:=j Ff a s1 σ q _ b u;rw[hs]at d ⊢;show QM (by change(dV||(Ma Ff (o5 es X.env)).any (·.1))=dV;rw[n]<;>rfl) (Nd ?_);show Ft d λus s2 ⟨vs,y,z,A,B⟩=>i a s2 σ y x vs v us Q z c A B
end
abbrev QV(X:Cx)(id:String)(r:V->List V->Hp->VK->Prop):Prop :=
 ∀(a:List (i6×Obj)) (s:hW) (σ:St) (H:Hp) (x:V) (xs:List V) (v:fx) (us:List fx) (Q:VK),Inv X a σ H s->RelV x v->Vals xs us->r x xs H Q ->
  iv (j0 X.prog X.w) X.A (OK (.builtin id) (v::us)) (EP X a σ Q) X.xe s
theorem Vals.one:∀{x:V}{us:List fx},Vals [x] us->∃u,us=[u]/\RelV x u
 |_,_,.cons r .nil=>#[_,rfl,r]
section
def Inv.oJ{its its':List fx}(I:Inv X a σ H s)(c:H l=b6 (.lst xs))
  (e:s.heap.get? l=b6 {cls:=.type "list",data:=.seq its.toArray n}) (d:f its.toArray=its'.toArray) (g:Vals b its') (hz:b.length<=eF) :
  Inv X a σ (upd H l (.lst b)) {s with heap:=s.heap.update l (vu f),toks:=t' }:=by
 have q:=PySem.IsL.update e f;rw[d]at q;show I.write (x:=l) (e:=l) (by rw[c];show trivial) (.inl rfl) (λj u h i=>(KG s.heap (vu f) (GR h)).trans i) ⟨_,q⟩ ?_;show#[hz,its',_,g,q]
def Inv.EN(I:Inv X a σ H s)(c:Vals b its)(hz:b.length<=eF):
  Inv X a σ (upd H s.heap.objs.size (.lst b)) {s with heap:=s.heap.push {cls:=.type "list",data:=.seq its.toArray},toks:=t' } :=
 I.laid (λ_ _ q=>ek _ q) (g0 _) ⟨hz,its,0,c,hH _ rfl⟩
def Inv.fresh(I:Inv X a σ H s):H s.heap.objs.size=b7:=I.Fe.fresh (g0 _)
def Inv.C4(I:Inv X a σ H s)(b:H l=b6 (.lst xs)):xs.length<=eF/\∃(its:List fx) (n:Nat),Vals xs its/\xs.length=its.length/\s.heap.get? l=b6 {cls:=.type "list",data:=.seq its.toArray n}:=by
 have(z,its,n,r,e):=I.Fe l _ b;show#[z,its,n,r,r.length,e]
def vt(h:n<=eF):Lc n=dV:=by
 unfold Lc;show ZA ⋯
end
section
abbrev yt:V->List V->Hp->VK->Prop:=λx vs H Q=>∃l xs y,x=.ref l/\vs=[y]/\H l=b6 (.lst xs)/\xs.length<eF/\Q .Fg (upd H l (.lst (xs++[y])))
def t7:QV X "list.append" yt:=by
 intro a s σ H x vs v us Q I c d h;have(l,xs,y,rfl,rfl,b,hz,q):=h;cases c;have(u,rfl,f):=d.one;have(z,its,n,r,hl,e):=I.C4 b;show U0 F.slot_list_append #[_,e,rfl] F.entry_list_append (F.args_list_append_2 _ _) (PySem.list_append l its.toArray n u (by rw[ko];lia)) #[e,?_];show#[.Fg,_,I.oJ (its':=its++[u]) b e (by simp) (r.append (.cons f .nil)) ?_,rfl,q];rw[oT,OL];lia
end
section
set_option maxRecDepth 100000 in
end
section
end
end L2
namespace QW
open PySem PySem.W PySem.Calls PyProof.Rows
def jC:∀(ns:List Int) (vs:List fx),WellAll P h vs (ns.map Y0)->OC vs ns:=by
 intro ns;induction ns with
 |nil =>
  intro vs w;rw[Mr]at w;cases w;show .nil
 |cons n ns c =>
  intro vs w;rw[i2]at w;cases w with
  |cons a b =>
   cases a;show .cons _ _ (c _ b)
def t8{l:OpenLaw}(j:l.most=b6 n)
  (g:l.row.toRowW.claim.pre args=cb) (k:WellAll P h b args) :
  ∃a vs ns,b=[Lo a]/\args=[WData.list (ns.map Y0)]/\h.get? a=b6 {cls:=.type "list",data:=.seq vs.toArray}/\OC vs ns/\ns.length<=n:=by
 have m:WShape.hasAll [] args [.list .int]=cb:=(pre_splitW g).1;have i:l.pre.holds [] {args:=args}=cb:=(pre_splitW g).2;have(d,r,rfl,o,h2):=hasAllW_cons m;obtain rfl:=hasAllW_nil h2;have(xs,rfl,p):=hasW_list o;have(ns,rfl):=items_int p;have c:ns.length<=n:=by
  unfold OpenLaw.pre at i;have e:(WTm.not (.lt (.lit (.int (n:Int))) (.len (.arg 0)))).holds [] {args:=[.list (ns.map .int)]}=cb:=by
   have e:=(holds_andW i).1;rw[j]at e;show e
  have f:=condW_of e (w_not (w_lt w_lit (w_len_list (w_arg rfl))));rw[f6]at f;show Yb λq=>?_;have s:(n:Int)<((ns.length:Nat):Int):=by lia
  first
   |(rw[ZC s]at f;show absurd f (by decide))
   |(simp at f;lia)
 cases k with
 |cons t u =>
  cases u;cases t with
  |list ho v=>show#[_,_,ns,rfl,rfl,ho,jC ns _ v,c]
def t9(l:OpenLaw)(args:List WData):l.row.toRowW.claim.post args (.bool cb) args=cb :=
 postW_of (r:=l.row.toRowW) (X:=(cb==cb))
  (show YD [] (.bool cb) .bool=cb by first|rfl|decide|simp[YD,WShape.arms,WShape.armsAll])
  (show(WTm.eq .res (.lit (.bool cb))).value [] {args:=args,res:=b6 (.bool cb),after:=args}=b6 (.bool (cb==cb)) from w_eq_bool (w_res rfl) w_lit) rfl
def oK{l:OpenLaw}
  (s:l.most=b6 n) (t:d.params.defaults=[])
  (OK:∀(w:F7) (s₀ b:hW) (mg j:Str->Option fx) (fa:i6) (o:Obj) (k i c:fx) (a:i6) (vs:List fx) (ns:List Int),
   Ground q e [] u w s₀ mg j b.heap->v w b.heap ->
   b.heap.get? fa=b6 o->o.data=.func (docDef d.name d.params d.body d.scope k i c)->b.heap.CodeRec i d.name->mg d.name=b6 (.ref fa) ->
   b.heap.get? a=b6 {cls:=.type "list",data:=.seq vs.toArray}->OC vs ns->ns.length<=n->b.gens=#v[] ->
   Pt (j0 l.prog w) Sd (.call (.ref fa) #[[.ref a],[]]) (λr s'=>r=.ok (.ret (.bool cb))/\OldK b.heap s'.heap/\s'.os=b.os/\Ra s'.gens) b) :
  WalkO q e u v l.row.toRowW d [] (λf vs=>PySem.call f vs):=by
 intro w s₀ b mg j G Y fa o k i c x kV ho hd y m z A args p as B N O C Q;obtain rfl:x=.none:=Dflts.none m t;obtain rfl:kV=.none:=Dflts.noKw m;have(a,vs,ns,rfl,rfl,D,g,h):=t8 s B C;show enter_call (Oa (OK w s₀ b mg j fa o k i c a vs ns G Y ho (fd_plain hd) y z D g h A) λr s' H=>?_);have(rfl,h2,I,J):=H;show#[.inl #[.bool cb,.bool cb,[],rfl,λ_=>rfl,.bool cb,t9 l _,λ_=>#[YW,λ_ L=>(nomatch L)]],h2,I,J]
section
end
end QW
namespace L2
open PySem PySem.Spec PyProof.Rows
theorem lX:∀{vs:List fx}{ns:List Int},OC vs ns->Vals (ns.map V.int) vs
 |_,_,.nil=>.nil
 |_,_,.cons n t h=>.cons #[t,rfl] (lX h)
abbrev A2(H:Hp):Prop:=∀b,H b=b7\/∃o xs,H b=b6 (.G7 o (.lst xs))
def vv{K:PySem.W.Frag}
  (y:K.In c.heap) (A:c.heap.Ns nt mg) (f:c.heap.Ns Yr B) (O:∀x:Str,x≠"__name__"->B x=IJ x) (Q:c.heap.NoLimit) (T:c.gens=#v[])
  (l:c.heap.get? a=b6 {cls:=.type "list",data:=.seq vs.toArray}) (hi:OC vs ns) (hl:ns.length<=eF) (Y:eW k Sd)
  (F:∀base:H9,K.In base->base.Ns nt mg->jB P w K mg base CX k fa fd [x] sp) (Mu:∀(s:hW) (u:fx),XD s fd #[[u],[]] [(x,u)])
  (Hq:∀H:Hp,A2 H->FR K H a (ns.map V.int)->sp [.ref a] H (λv _=>v=.bl cb) λ_ _ _=>False)
  (OM:∀H e s',CX [] H c (λ_ _ _=>False) e s'->False) :
  Pt (j0 P w) Sd (.call (.ref fa) #[[.ref a],[]]) (λr s'=>r=.ok (.ret (.bool cb))/\OldK c.heap s'.heap/\s'.os=c.os/\Ra s'.gens) c:=by
 have C:=lX hi;have ON:=hi.length;have g:∀H:Hp,A2 H->FR K H a (ns.map V.int)->Gf P w H c.heap->(∀b,H b≠b7->b=a)->(H a≠b7->K.lookup a=b7) ->
   Pt (j0 P w) Sd (.call (.ref fa) #[[.ref a],[]]) (λr s'=>r=.ok (.ret (.bool cb))/\OldK c.heap s'.heap/\s'.os=c.os/\Ra s'.gens) c:=by
  intro H D hS G I hK;have jT:∀{b:i6} {o:Obj},c.heap.get? b=b6 o->H b=b7->(mO c.heap H).get? b=b6 o:=λe n=>u_ e n;have Mo:∀{b:i6} {o:Obj} {es:Array DictEntry} {ep:Nat},c.heap.get? b=b6 o->o.data=.dict es ep->H b=b7:=λ{b o es ep} e d=>by
   cases q:H b with
   |none=>rfl
   |some u =>
    have t:b=a:=I b (by rw[q];simp);subst t;rw[l]at e;cases e;have d':Data.seq vs.toArray _=Data.dict es ep:=d;cases d'
  have p:∀{b:i6} {m:Str->Option fx},c.heap.Ns b m->(mO c.heap H).Ns b m:=λ{b m} ⟨o,es,ep,e,d,r⟩=>#[o,es,ep,jT e (Mo e d),d,r]
  have J:K.In (mO c.heap H):=λb o e=>jT (y b o e) (by
   cases q:H b with
   |none=>rfl
   |some u =>
    have t:b=a:=I b (by rw[q];simp);subst t;rw[hK (by rw[q];simp)]at e;cases e)
  have hM:Mod K mg (mO c.heap H):=#[J,p A,#[B,p f,O],let ⟨mc,h1,h2⟩:=Q;⟨mc,p h1,h2⟩]
  have e0:yk P w K mg (mO c.heap H) Sd [] c H:=#[rfl,hM,λb o e=>yb e,UU (tS _ _),trivial,λb f=>absurd (show b∈([]:List i6) from f) (by simp),G,.of_eq T]
  show Oa ((F _ J (p A)).run Sd [] c H #[[.ref a],[]] [.ref a] [.ref a] _ _ Y e0 (Mu c (.ref a)) (.cons rfl .nil) (Hq H D hS)) λr s' h=>?_;cases r with
  |error e=>show(OM H e s' h).elim
  |ok fl =>
   cases fl with
   |ret u =>
    have(v,H',os,i,L,OO,r',q):=h;have q':v=.bl cb:=q;subst q';obtain rfl:u=Mq cb:=r';show#[rfl,OldK.of_keep λb o e=>?_,os,i];cases q:H b with
    |none=>show L.keep b o e q (by intro z;show absurd (show b∈([]:List i6) from z) (by simp)) (by simp)
    |some u =>
     rcases D b with z|⟨ob,xs,z⟩
     .rw[q]at z;cases z
     .have z2:=L.Ga b ob _ z;have(N,_):=G b _ z;have(e2,_):=OO b _ z2;rw[e]at N;cases N;show e2
   |_=>show Nj h
 cases hk:K.lookup a with
 |some o =>
  have e:=y a o hk;rw[l]at e;cases e;show g (λ_=>b7) (λ_=>.inl rfl) (.inr #[_,vs.toArray,_,hk,rfl,rfl,rfl,by rw[ko,ON];show hl,by simpa using C]) (λb u z=>by have j:(b7:Option HO)=b6 u:=z;cases j) (λb z=>absurd rfl z) λz=>absurd rfl z
 |none =>
  show g (λb=>if b=a then b6 (.G7 {cls:=.type "list",data:=.seq vs.toArray} (.lst (ns.map V.int))) else b7) (λb=>?_) (.inl (.inr #[{cls:=.type "list",data:=.seq vs.toArray},Zx rfl])) (λb u z=>?_) (λb z=>?_) λ_=>hk
  .by_cases f:b=a
   .show .inr #[_,_,Zx f]
   .show .inl (Zy f)
  .by_cases f:b=a
   .have j:=(Zx f).symm.trans z;cases j;subst f;show#[l,by rw[f6];show hl,vs,_,C,l]
   .have j:=(Zy f).symm.trans z;cases j
  .by_cases f:b=a
   .show f
   .show absurd (Zy f) z
def yu{l:PySem.W.OpenLaw}{K:S9->PySem.W.Frag}{CX:F7->KU}{sp:F7->Sp}
  (r:l.most=b6 n) (t:n<=eF) (y:d.params.defaults=[]) (z:eW k Sd)
  (A:∀(w:F7) (h:H9),B w h->(K w.params).In h)
  (F:∀(w:F7) (mg:Str->Option fx) (fa:i6) (h:H9),(K w.params).In h->h.Ns nt mg->mg d.name=b6 (.ref fa) ->
   ∃j:Qy,(∀(s:hW) (u:fx),XD s j #[[u],[]] [(x,u)]) /\
    ∀base:H9,(K w.params).In base->base.Ns nt mg->jB l.prog w (K w.params) mg base (CX w) k fa j [x] (sp w))
  (C:∀(w:F7) (H:Hp) (a:i6) (ns:List Int),ns.length<=n->A2 H->FR (K w.params) H a (ns.map V.int)->sp w [.ref a] H (λv _=>v=.bl cb) λ_ _ _=>False)
  (D:∀(w:F7) (H:Hp) (s:hW) (e:fx) (s':hW),CX w [] H s (λ_ _ _=>False) e s'->False) :
  PySem.W.WalkO q m XP B l.row.toRowW d [] (λf vs=>PySem.call f vs):=by
 show QW.oK r y λw s₀ I mg mb fa o pm cd J a vs ns G Y ho hd Hn L N i c O=>?_;have p:=A w _ Y;have(j,Q,hF):=F w mg fa _ p G.T.g L;show vv p G.T.g G.T.b G.T.builtins G.T.nolimit O N i (F8 c t) z hF Q (λH hO hS=>C w H a ns c hO hS) λH e s'=>D w H I e s'
abbrev fR(s:Ll):Arguments:=match s with
 |.FunctionDef _ a _ _ _ _ _ _ _ _=>a
 |_=>{posonlyargs:=[],args:=[],vararg:=b7,kwonlyargs:=[],kw_defaults:=[],kwarg:=b7,defaults:=[]}
abbrev cw(s:Ll):List Ll:=match s with
 |.FunctionDef _ _ b _ _ _ _ _ _ _=>b
 |_=>[]
abbrev aF(s:Ll):Jy:=match s with
 |.FunctionDef _ _ _ _ _ _ a _ _ _=>a
 |_=>{kind:=.function,names:=[],isGenerator:=dV,isCoroutine:=dV}
@[reducible]noncomputable def Mw:KU:=λ_ _ _ _ _ _=>False
@[reducible]noncomputable def E0:XK:=λ_ _ _=>False
structure Km(K:PySem.W.Frag)(x qual:Str)(st:Ll)(f:i6)(fd:Qy):Prop where
 ex:∃(oc:fx) (od:Option i6) (kV doc pm:fx) (an:Option i6) (Gu ct:fx) (Kl:Array (Option fx)),
  fd=PySem.W.fnOf x qual (fR st) (cw st) (aF st) .none kV doc pm an Gu ct/\K.lookup f=b6 #[oc,od,.func fd,Kl]/\PySem.W.codeIn K Gu qual=cb
 kp:PySem.W.keepIn K (.ref f)=cb
section
variable{P:y1}{w:F7}{K:PySem.W.Frag}{mg:Str->Option fx}{base:H9}
def Km.ok{st:Ll}(F:Km K x a st f d)(S:dB N ps (aF st))(c:∀vs H Q E,sp vs H Q E->vs.length=ps.length)
  (e:∀(b:fx) (A:J0) (outer:List Env) (s:hW) (H:Hp) (vs:List V) (Q:VK) (E:XK),eW k (A.deeper (Sv a (aF st) s.heap.objs.size f b))->sp vs H Q E ->
   ∃t,Gr (oG Mw P w K mg base N a (aF st) f b A outer s H E).Ho (cw st) t/\t {nx:=λ_ H'=>Q .Fg H',rt:=Q} (start N vs) H):jB P w K mg base Mw (k+1) f d ps sp:=by
 have(m,n,kV,g,o,p,b,ct,r,rfl,lk,i):=F.ex;show zT lk i S c λA outer s H vs Q E j l=>?_;have(t,h,q):=e b A outer s H vs Q E j l;show#[t,h.Ho,q]
def A3{st:Ll}{kV b e d ct:fx}(l:K.lookup f=b6 #[h,i,.func (PySem.W.fnOf x a (fR st) (cw st) (aF st) .none kV b e g d ct),j])
  (c:PySem.W.codeIn K d a=cb) (k:PySem.W.keepIn K (.ref f)=cb):Km K x a st f (PySem.W.fnOf x a (fR st) (cw st) (aF st) .none kV b e g d ct):=#[#[h,i,kV,b,e,g,d,ct,j,rfl,l,c],k]
end
section
end
abbrev jD(H H':Hp):Prop:=∀b o,H b=b6 o->H' b=b6 o
section
variable{κ:Type}[DecidableEq κ]
abbrev hV(a:List (κ×V))(k:κ):Option V:=(a.find? λkv=>f7 (kv.1=k)).map (·.2)
abbrev putK(a:List (κ×V))(k:κ)(v:V):List (κ×V) :=
 if (a.any λkv=>f7 (kv.1=k))=cb then a.map (λkv=>if kv.1=k then(kv.1,v) else kv) else a++[(k,v)]
def fb{p:κ×V}{k:κ}(e:p.1=k):hV (p::r) k=b6 p.2:=by simp[hV,IA,e]
def fe{p:κ×V}{k:κ}(e:¬p.1=k):hV (p::r) k=hV r k:=by simp[hV,IA,e]
theorem j8(k:κ):∀a:List (κ×V),(a.any λkv=>f7 (kv.1=k))=(hV a k).isSome
 |[]=>rfl
 |p::r=>by
  rw[SN];by_cases e:p.1=k
  .simp only[fb e,ZC e,Bool.true_or,W5]
  .rw[fe e,ZA e,Bool.false_or];show j8 k r
def jo(a:List (κ×V))(k:κ)(v:V):(putK a k v).length<=a.length+1:=by
 unfold putK;split
 .rw[f6];lia
 .rw[oT,ti,PF];lia
def lC.dW(r:lC o u):o.isSome=u.isSome:=by
 cases o with
 |none=>cases u with
  |none=>rfl
  |some _=>show(show False from r).elim
 |some _=>cases u with
  |none=>show(show False from r).elim
  |some _=>rfl
def KV.val(r:KV f vs)(k:κ):lC (hV f k) (U' vs k):=by
 unfold KV at r;induction r with
 |nil=>show VN
 |@cons p q ps a h t g =>
  have(d,h2):=h;by_cases e:p.1=k
  .have c:q.1=k:=d.symm.trans e;have b:U' (q::a) k=b6 q.2:=by simp[U',IA,c]
   rw[fb e,b];show h2
  .have c:¬q.1=k:=λz=>e (d.trans z);have b:U' (q::a) k=U' a k:=by simp[U',IA,c]
   rw[fe e,b];show g
def KV.any(r:KV a vs)(k:κ):(a.any λkv=>f7 (kv.1=k))=vs.any λkv=>f7 (kv.1=k):=by
 unfold KV at r;induction r with
 |nil=>rfl
 |cons h t b=>rw[SN,SN,b,h.1]
def KV.A4(r:KV b vs)(k:κ)(c:RelV y u):
  KV (b.map λkv=>if kv.1=k then(kv.1,y) else kv) (vs.map λkv=>if kv.1=k then(kv.1,u) else kv):=by
 unfold KV at r ⊢;induction r with
 |nil=>show .nil
 |@cons p q ps f h t d =>
  rw[i2,i2];show .cons ?_ d;have(a,h2):=h;by_cases e:p.1=k
  .rw[Zx e,Zx (a.symm.trans e)];show#[a,c]
  .rw[Zy e,Zy (λz=>e (a.trans z))];show#[a,h2]
def KV.put(r:KV b vs)(k:κ)(a:RelV y u):KV (putK b k y) (Y9 vs k u):=by
 unfold putK Y9;rw[r.any k];by_cases e:(vs.any λkv=>f7 (kv.1=k))=cb
 .rw[Zx e,Zx e];show r.A4 k a
 .rw[Zy e,Zy e];show Paired.snoc r #[rfl,a]
def KV.length(r:KV a vs):a.length=vs.length:=Paired.length r
end
def oM(r:RelV (kV k) u):(aZ P w).is k u=cb:=by
 cases k with
 |inl i=>have(t,e):=(show ∃t,u=Jj i t from r);subst e;show oB P w i t
 |inr x=>have(t,e):=(show ∃t,u=IZ x t from r);subst e;show oC P w x t
theorem lY:∀{ks:List Key}{us:List fx},Vals (ks.map kV) us->ItemsAre (aZ P w) ks us
 |[],_,r=>by rw[Mr]at r;cases r;show .nil
 |k::ks,_,r=>by
  rw[i2]at r;cases r with
  |cons h t=>show .cons (oM h) (lY t)
@[reducible]noncomputable def KT(H:Hp):List (List Key×V)->List (List Key×i6×fx)->Prop:=Paired λp q=>p.1=q.1/\H q.2.1=b6 (.tup (p.1.map kV))/\RelV p.2 q.2.2
def KT.val(r:KT H f xs)(k:List Key):lC (hV f k) ((WT xs k).map (·.2)):=by
 induction r with
 |nil=>show VN
 |@cons p q ps a h t g =>
  have(d,_,h2):=h;by_cases e:p.1=k
  .have c:q.1=k:=d.symm.trans e;have b:WT (q::a) k=b6 q.2:=by simp[WT,IA,c]
   rw[fb e,b];show h2
  .have c:¬q.1=k:=λz=>e (d.trans z);have b:WT (q::a) k=WT a k:=by simp[WT,IA,c]
   rw[fe e,b];show g
def KT.A4(r:KT H b xs)(k:List Key)(c:RelV y u):
  KT H (b.map λkv=>if kv.1=k then(kv.1,y) else kv) (xs.map (putAt k u)):=by
 induction r with
 |nil=>show .nil
 |@cons p q ps g h t d =>
  rw[i2,i2];show .cons ?_ d;have(a,h2,f):=h;unfold putAt;by_cases e:p.1=k
  .rw[Zx e,Zx (a.symm.trans e)];show#[a,h2,c]
  .rw[Zy e,Zy (λz=>e (a.trans z))];show#[a,h2,f]
def KT.put(r:KT H a xs)(k:List Key)(d:H b=b6 (.tup (k.map kV)))(c:RelV y u):
  KT H (putK a k y) (storedH xs k b u):=by
 have e:(a.any λkv=>f7 (kv.1=k))=(WT xs k).isSome:=by
  rw[j8,(r.val k).dW,SV]
 unfold putK storedH;rw[e];by_cases q:(WT xs k).isSome=cb
 .rw[Zx q,Zx q];show r.A4 k c
 .rw[Zy q,Zy q];show Paired.snoc r #[rfl,d,c]
def KT.keeps(r:KT H c xs)(d:∀b a,H b=b6 (.tup a)->H' b=b6 (.tup a)):KT H' c xs :=
 Paired.Ax r λ_ _ z=>#[z.1,d _ _ z.2.1,z.2.2]
section
def zV(ok:Gf P w H h)(e:Rd H a u):bL P w H h a u:=e.ok ok
def oN(ok:Gf P w H h)(e:Rd H a (.dK b)):b.length<=eF/\(a==NO)=dV/\∃vs,KV b vs/\h.DictOf (aZ P w) a vs :=
 show bL P w H h a (.dK b) from zV ok e
def C5(ok:Gf P w H h)(e:H a=b6 (.dK b)):b.length<=eF/\(a==NO)=dV/\∃vs,KV b vs/\h.DictOf (aZ P w) a vs:=oN ok (.inl e)
def j9(ok:Gf P w H h)(e:H a=b6 (.tup (ks.map kV))):(Wh (aZ P w)).is h ks a:=by
 have(_,its,r,o,b,h2,n,c):=(show bL P w H h a (.tup (ks.map kV)) from ok a _ e)
 show#[o,its.toArray,n,b,h2,c,by simpa using lY r]
def oO(ok:Gf P w H h)(e:Rd H a (.dT b)):b.length<=eF/\(a==NO)=dV /\
  ∃xs,KT H b xs/\h.DictOfH (Wh (aZ P w)) a xs:=by
 have(z,y,xs,r,o,es,ep,d,h2,f,g,i):=(show bL P w H h a (.dT b) from zV ok e)
 show#[z,y,xs,r,o,es,ep,d,h2,f,g,λx hx=>?_,i];have all:∀{l:List (List Key×V)} {m:List (List Key×i6×fx)},KT H l m->∀x∈m,(Wh (aZ P w)).is h x.1 x.2.1:=by
  intro l m q;induction q with
  |nil=>intro x hx;show nomatch hx
  |@cons p q ps k c t j =>
   intro x hx;rcases i1.mp hx with e|hx
   .subst e;show j9 ok (by rw[<-c.1];show c.2.1)
   .show j x hx
 show all r x hx
def C6(ok:Gf P w H h)(e:H a=b6 (.dT b)):b.length<=eF/\(a==NO)=dV /\
  ∃xs,KT H b xs/\h.DictOfH (Wh (aZ P w)) a xs:=oO ok (.inl e)
end
abbrev lE(H:Hp)(a:i6)(y:V)(r:Option V):Prop :=
 (∃c k,Rd H a (.dK c)/\y=kV k/\r=hV c k)\/∃c k b,Rd H a (.dT c)/\y=.ref b/\H b=b6 (.tup (k.map kV))/\r=hV c k
abbrev vz(H:Hp)(a:i6)(y v:V)(H':Hp):Prop :=
 (∃c k,H a=b6 (.dK c)/\y=kV k/\c.length<eF/\H'=upd H a (.dK (putK c k v))) \/
 ∃c k b,H a=b6 (.dT c)/\y=.ref b/\H b=b6 (.tup (k.map kV))/\c.length<eF/\H'=upd H a (.dT (putK c k v))
def lE.k{H:Hp}{a:i6}{b:List (Key×V)}{k:Key}(e:H a=b6 (.dK b)):lE H a (kV k) (hV b k):=.inl #[b,k,.inl e,rfl,rfl]
def vz.k{H:Hp}{a:i6}{b:List (Key×V)}{k:Key}{v:V}(e:H a=b6 (.dK b))(hl:b.length<eF):vz H a (kV k) v (upd H a (.dK (putK b k v))):=.inl #[b,k,e,rfl,hl,rfl]
section
def Inv.big(I:Inv X a σ H s):NO<s.heap.objs.size:=by
 have h:nt<s.heap.objs.size:=(I.mod.glob.keeps I.bk).lt;show KN (by decide) h
def t_(q:A.units+1<N9)(I:Inv X f σ H s)(g:lE H a y (b6 v))(n:RelV y u)(h:∀d s',Inv X f σ H s'->RelV v d->Q d s'):
  iv (j0 X.prog X.w) A (Tz (.ref a) u) Q E s:=by
 rcases g with⟨r,k,e,i,l⟩|⟨r,k,b,e,i,t,l⟩
 .subst i;have(z,hd,vs,c,dd):=oN I.Fe e;have(d,j,m):=lC.some_of (v:=v) (o:=U' vs k) (by rw[l];show c.val k);show wpAny_getItem_of (oM n) dd.mapOf j (h d _ (I.tok _) m)
 .subst i;cases(show u=Lo b from n);have(z,hd,xs,c,dd):=oO I.Fe e;have(d,j,m):=lC.some_of (v:=v) (o:=(WT xs k).map (·.2)) (by rw[l];show c.val k);have(p,x,B):=j'.mp j;show wpAny_getItem_heap (Qv q) (j9 I.Fe t) dd x ?_;rw[B];show h d _ (I.tok _) m
def EO(j:A.units+1<N9)(I:Inv X d σ H s)(g:lE H a y o)(i:RelV y u)(h:∀s',Inv X d σ H s'->Q (.bool o.isSome) s'):
  iv (j0 X.prog X.w) A (PQ .In u (.ref a)) Q E s:=by
 rcases g with⟨m,k,e,f,l⟩|⟨m,k,b,e,f,n,l⟩
 .subst f;have(z,hd,vs,c,dd):=oN I.Fe e;show wpAny_in_of (oM i) hd dd.mapOf ?_;rw[<-(c.val k).dW,<-l];show h _ (I.tok _)
 .subst f;cases(show u=Lo b from i);have(z,hd,xs,c,dd):=oO I.Fe e;show wpAny_in_heap (Qv j) (j9 I.Fe n) hd dd ?_;have q:=(c.val k).dW;rw[SV]at q;rw[<-q,<-l];show h _ (I.tok _)
def yw(j:A.units+1<N9)(I:Inv X d σ H s)(g:lE H a y o)(i:RelV y u)(h:∀s',Inv X d σ H s'->Q (.bool (!o.isSome)) s'):
  iv (j0 X.prog X.w) A (PQ .NotIn u (.ref a)) Q E s:=by
 rcases g with⟨m,k,e,f,l⟩|⟨m,k,b,e,f,n,l⟩
 .subst f;have(z,hd,vs,c,dd):=oN I.Fe e;show wpAny_notIn_of (oM i) hd dd.mapOf ?_;rw[<-(c.val k).dW,<-l];show h _ (I.tok _)
 .subst f;cases(show u=Lo b from i);have(z,hd,xs,c,dd):=oO I.Fe e;show wpAny_notIn_heap (Qv j) (j9 I.Fe n) hd dd ?_;have q:=(c.val k).dW;rw[SV]at q;rw[<-q,<-l];show h _ (I.tok _)
def r6(I:Inv X c σ H s)(f:Mb (H a))(hs:H_ a s.heap h')(g:∃q,h'.get? a=b6 q)(new:bL X.prog X.w (upd H a d) h' a d):
  Inv X c σ (upd H a d) {s with heap:=h',toks:=t' } :=
 I.write (x:=a) (e:=a) f (.inl rfl) (λb q h z=>(hs.2 b h).trans z) g new
def A5(z:c.length<=eF)(hd:(a==NO)=dV)(b:KV c vs)(dd:h'.DictOf (aZ P w) a vs):
  bL P w H' h' a (.dK c):=#[z,hd,vs,b,dd]
def ua(C:A.units+1<N9)(I:Inv X f σ H s)(g:vz H a y v H')(p:RelV y u)(t:RelV v r)(h:∀s',Inv X f σ H' s'->Q () s'):
  iv (j0 X.prog X.w) A (Xx (.ref a) u r) Q E s:=by
 rcases g with⟨i,k,e,n,l,o⟩|⟨i,k,b,e,n,x,l,o⟩
 .subst n o;have(z,hd,vs,d,dd):=C5 I.Fe e;have hz:vs.length<=eF:=by rw[<-d.length];show z
  have hl:(putK i k v).length<=eF:=by have:=jo i k v;lia
  show wpAny_setItem_pairs (hsz:=hz) (oM p) dd λh' j hs=>h _ ?_;have D:∃q,h'.get? a=b6 q:=let ⟨q,_,_,m,_⟩:=j;⟨q,m⟩;show r6 I (by rw[e];show VN) hs D (A5 hl hd (d.put k t) j)
 .subst n o;cases(show u=Lo b from p);have(z,hd,xs,d,dd):=C6 I.Fe e;have hz:xs.length<=eF:=by rw[<-Paired.length d];show z
  have hl:(putK i k v).length<=eF:=by have:=jo i k v;lia
  show wpAny_setItem_heap (hsz:=hz) (Qv C) (j9 I.Fe x) dd λh' j hs=>h _ ?_;have(q,es,ep,m,h2,G,J,_,L):=j;show r6 I (by rw[e];show VN) hs #[q,m] #[hl,hd,_,(d.put k x t).keeps λc N B=>?_,q,es,ep,m,h2,G,J,L];rw[aB (Cy B e (λz=>nomatch z))];show B
end
section
end
def oP(I:Inv X c σ H s)(g:lE H a y o):s.TypeIs (.ref a) "dict":=by
 rcases g with⟨d,k,e,_,_⟩|⟨d,k,b,e,_,_,_⟩
 .have(_,_,vs,_,dd):=oN I.Fe e;show dd.typeIs
 .have(_,_,xs,_,dd):=oO I.Fe e;show dd.typeIs
section
end
def vA(h:H9)(a:NO<h.objs.size):bL P w H (h.push {cls:=.type "dict",data:=.dict #v[]}) h.objs.size (.dK []) :=
 #[qq _,ZF.mpr (GR (l' a)),[],.nil,WI h]
abbrev A6:TE:=λ_ H Q=>∀p,H p=b7->Q (.ref p) (upd H p (.dK []))
section
def vB:PE X (.Dict [] [] pos) A6:=λb s σ H Q I h =>
 wpAny_Dict_empty #[.ref s.heap.objs.size,_,I.laid (a:=s.heap.objs.size) (o:=.dK []) (t':=s.toks) (λ_ _ q=>ek _ q) (g0 _) (vA s.heap I.big),rfl,h _ (I.Fe.fresh (g0 _))]
end
section
end
section
end
section
end
section
end
end L2
namespace FD
open PySem PySem.Builtin.Str PySem.StrLaws
abbrev low(c:Nat):Bool:=f7 (97<=c)&&f7 (c<=122)
abbrev dh(l:List Nat):Bool:=f7 (1<=l.length)&&f7 (l.length<=8)&&l.all low
def bU(l:List Nat):dh l=cb↔1<=l.length/\l.length<=8/\∀c∈l,97<=c/\c<=122:=by
 simp[dh,low,ux,and_assoc]
def dX(h:dh l=cb):47∉l:=λm=>by
 have:=((bU l).mp h).2.2 47 m;lia
def dE{x y:Str}(h:x.cps.toList=y.cps.toList):x=y:=by
 cases x;cases y;congr
 show KO.mp h
def fT(h:c∉x.cps.toList):ve x #[#v[c]]=(x,DD,DD):=by
 have e:=found_one x c;rw[ZA h]at e;unfold ve;cases q:VF x ⟨#v[c]⟩ 0 x.length 1 with
 |nil=>rfl
 |cons i r=>rw[q]at e;simp at e
def mZ(x:Str)(c i:Nat):At x #[#v[c]] x.length i↔x.cps.toList[i]?=b6 c:=subAt_one x c i
def vC(h:x.cps.toList=a++c::b)(j:c∉a)(d:Nat)(hl:1<=d):∃r,VF x #[#v[c]] 0 x.length d=a.length::r:=by
 have f:x.cps.toList[a.length]?=b6 c:=by rw[h];simp
 rcases occ_head x ⟨#v[c]⟩ d hl with⟨_,k⟩|⟨i,r,e,hi,l⟩
 .show absurd ((mZ x c a.length).mpr f) (k _)
 .have g:=(mZ x c i).mp hi;have:i=a.length:=by
   rcases Qi i a.length with z|z|z
   .exfalso
    rw[h,C0 z]at g;show j (JT g)
   .show z
   .show absurd ((mZ x c a.length).mpr f) (l _ z)
  subst this;show#[r,e]
def r9(h:x.cps.toList=a++c::b)(d:c∉a):ve x #[#v[c]]=(⟨a.toArray⟩,⟨#v[c]⟩,⟨b.toArray⟩):=by
 have(r,e):=vC h d 1 (g0 _);unfold ve;rw[e];have f:(⟨#v[c]⟩:Str).length=1:=rfl;have g:x.length=a.length+1+b.length:=by
  have:=ZE Lz h;simp[Og]at this ⊢;lia
 show V2 ?_ (V2 rfl ?_)
 .apply dE;rw[Xc,h];simp
 .apply dE;change(strSub x (a.length+(⟨#v[c]⟩:Str).length) x.length).cps.toList=_;rw[Xc,h,f,g];simp
def qy(h:c∉x.cps.toList):Sy x #[#v[c]]=[x]:=by
 unfold Sy;split
 .rfl
 .rw[Zx];rcases occ_head x ⟨#v[c]⟩ (x.length+1) ⋯ with⟨e,_⟩|⟨i,r,e,hi,_⟩
  .rw[e];rfl
  .show absurd (JT ((mZ x c i).mp hi)) h
def oQ(c:Nat)(h:c<256)(x:Str):¬(PySem.Builtin.Str.strKind x<PySem.Builtin.Str.strKind #[#v[c]]):=by
 have e:PySem.Builtin.Str.strKind ⟨#v[c]⟩=1:=by simp[PySem.Builtin.Str.strKind,h]
 rw[e];unfold PySem.Builtin.Str.strKind;split
 .lia
 .split<;>lia
def vE(h:x.cps.toList=a++c::b)(d:c∉a)(f:c<256):∃r,Sy x #[#v[c]]=⟨a.toArray⟩::r:=by
 have(r,e):=vC h d (x.length+1) ⋯;have g:(⟨#v[c]⟩:Str).length=1:=rfl;have j:x.length=a.length+1+b.length:=by
  have:=ZE Lz h;simp[Og]at this ⊢;lia
 unfold Sy;rw[Zy (by
  have i:¬(x.length<(⟨#v[c]⟩:Str).length):=by rw[g];lia
  have h2:=oQ c f x;simp[i,h2]),Zy (by rw[e];simp),partsBetween_eq,e]
 show#[_,ZE (·::_) ?_];apply dE;rw[Xc,h];simp
abbrev jE(i:Int):Str:=Um (WK i)
abbrev eT:Str:=#[#v[47]]
end FD
namespace L2
open PySem PySem.Spec PyProof.Rows
abbrev bg(env:Env):List (Str×K4)->List (Str×i6)->List (Str×i6)
 |[],b=>b
 |(n,k)::r,b=>bg env r (if k==.free then(match env.cells.lookup n with|some a=>(n,a)::b|none=>b) else b)
def dY(h:∀y∈scope.names,y.2=.free->∃a,env.cells.lookup y.1=b6 a):closureFor scope env=pure (bg env scope.names []):=by
 unfold closureFor;generalize scope.names=names at h
 suffices H:∀b,(Zw names b (λ(x:Str×K4) (r:List (Str×i6))=>if (x.2==Kj)=cb then do let a <-cellOf env x.1;pure (ND ((x.1,a)::r)) else pure (ND r)):Sem (List (Str×i6)))=pure (bg env names b) by
  have:=H [];show ZE (λ(m:Sem (List (Str×i6)))=>m >>= pure) this
 induction names with
 |nil=>intro b;rfl
 |cons y r d =>
  intro b;have(n,k):=y;rw[List.forIn_cons];have c:=d λy e=>h y (nc _ e);by_cases hk:(k==Kj)=cb
  .have(a,f):=h (n,k) ov (by simpa using hk);have g:env.cells.lookup n=b6 a:=f;simp only[hk,if_true,cellOf,g,bg];show c _
  .simp only[hk,if_false,bg];show c _
theorem eh:∀(names:List (Str×K4)) (b:List (Str×i6)),(∀n c,b.lookup n=b6 c->env.cells.lookup n=b6 c)->∀n c,(bg env names b).lookup n=b6 c->env.cells.lookup n=b6 c
 |[],_,h=>h
 |(m,k)::r,b,h=>by
  unfold bg;show eh r _ λn c e=>?_;by_cases hk:(k==Kj)=cb
  .rw[Zx hk]at e;cases q:env.cells.lookup m with
   |none=>rw[q]at e;show h n c e
   |some a =>
    rw[q]at e;simp only[t4]at e;cases d:n==m with
    |true =>
     rw[d]at e;have f:n=m:=by simpa using d
     subst f;simp only at e;rw[q];show e
    |false=>rw[d]at e;show h n c e
  .rw[Zy hk]at e;show h n c e
theorem jq(d:env.cells.lookup n=b6 a):∀(names:List (Str×K4)) (c:List (Str×i6)),c.lookup n=b6 a->(bg env names c).lookup n=b6 a
 |[],_,h=>h
 |(m,k)::r,c,h=>by
  unfold bg;show jq d r _ ?_;by_cases hk:(k==Kj)=cb
  .rw[Zx hk];cases q:env.cells.lookup m with
   |none=>show h
   |some b =>
    simp only[t4];cases e:n==m with
    |true =>
     have f:n=m:=by simpa using e
     subst f;rw[d]at q;cases q;rfl
    |false=>show h
  .rw[Zy hk];show h
theorem gC(b:env.cells.lookup n=b6 a):∀(names:List (Str×K4)) (c:List (Str×i6)),(n,Kj)∈names->(bg env names c).lookup n=b6 a
 |[],_,h=>by cases h
 |(m,k)::r,c,h=>by
  unfold bg;rcases i1.mp h with e|e
  .cases e;show jq b r _ ?_;rw[Zx (by decide),b];simp[t4]
  .show gC b r _ e
theorem bC{env:Env}:∀{names:List (Str×K4)}{x:Str}{k:K4},
  (names.map λ(n,k)=>if (k==Kj&&env.scope.kind==.function&&env.kindOf n==b6 .cell) then(n,Kq) else(n,k)).lookup x=b6 k ->
  names.lookup x=b6 k\/(k=.cell/\names.lookup x=b6 .free)
 |[],_,_,h=>by simp at h
 |(n,k0)::r,x,k,h=>by
  have e:=@bC env r x k;rw[i2]at h;by_cases b:(k0==Kj&&env.scope.kind==.function&&env.kindOf n==b6 .cell)=cb
  .simp only[Zx b,t4]at h;cases a:x==n with
   |true =>
    rw[a]at h;have f:k0=.free:=by
     have:=(H4.mp (H4.mp b).1).1;simpa using this
    show .inr #[by simpa using h.symm,by simp[t4,a,f]]
   |false =>
    rw[a]at h;rcases e h with z|⟨c,d⟩
    .show .inl (by simp[t4,a,z])
    .show .inr #[c,by simp[t4,a,d]]
  .simp only[Zy b,t4]at h;cases a:x==n with
   |true=>rw[a]at h;show .inl (by simpa[t4,a] using h)
   |false =>
    rw[a]at h;rcases e h with z|⟨c,d⟩
    .show .inl (by simp[t4,a,z])
    .show .inr #[c,by simp[t4,a,d]]
theorem jr:∀(names:List (Str×K4)) (b:List (Str×i6)),(bg env names b).lookup x=b6 c->(x,Kj)∈names\/b.lookup x=b6 c
 |[],_,h=>.inr h
 |(m,k)::r,b,h=>by
  unfold bg at h;rcases jr r _ h with z|z
  .show .inl (nc _ z)
  .by_cases hk:(k==Kj)=cb
   .rw[Zx hk]at z;cases q:env.cells.lookup m with
    |none=>rw[q]at z;show .inr z
    |some a =>
     rw[q]at z;simp only[t4]at z;cases d:x==m with
     |true =>
      have e:x=m:=by simpa using d
      have f:k=.free:=by simpa using hk
      subst e f;show .inl ov
     |false=>rw[d]at z;show .inr z
   .rw[Zy hk]at z;show .inr z
theorem h_:∀(names:List (Str×K4)) (n:Nat) (acc:List (Str×i6)),(LF n names acc).lookup x=b6 c->((x,Kq)∈names/\@Yd Nat _ n c)\/acc.lookup x=b6 c
 |[],_,_,h=>.inr h
 |(y,k)::r,n,acc,h=>by
  unfold LF at h;by_cases hk:(k==Kq)=cb
  .rw[Zx hk]at h;have e:k=.cell:=by simpa using hk
   subst e;rcases h_ r (n+1) _ h with⟨a,b⟩|z
   .show .inl #[nc _ a,Ur b]
   .simp only[t4]at z;cases d:x==y with
    |true =>
     rw[d]at z;have f:x=y:=by simpa using d
     subst f;cases z;show .inl #[ov,g0 _]
    |false=>rw[d]at z;show .inr z
  .rw[Zy hk]at h;rcases h_ r n acc h with⟨a,b⟩|z
   .show .inl #[nc _ a,b]
   .show .inr z
theorem m7:∀(names:List (Str×K4)) (n:Nat) (acc:List (Str×i6)),(x,Kq)∉names->(LF n names acc).lookup x=acc.lookup x
 |[],_,_,_=>rfl
 |(y,k)::r,n,acc,h=>by
  unfold LF;have a:(x,Kq)∉r:=λz=>h (nc _ z);by_cases hk:(k==Kq)=cb
  .rw[Zx hk,m7 r _ _ a];have b:k=.cell:=by simpa using hk
   subst b;simp only[t4];cases c:x==y with
   |true =>
    have d:x=y:=by simpa using c
    subst d;show absurd ov h
   |false=>rfl
  .rw[Zy hk,m7 r _ _ a]
theorem qz:∀(names:List (Str×K4)) (n:Nat) (acc:List (Str×i6)),(∀(z:Str) (d:i6),acc.lookup z=b6 d->@OJ Nat _ d n)->(∀(u v:Str) (d:i6),acc.lookup u=b6 d->acc.lookup v=b6 d->u=v) ->
  (LF n names acc).lookup x=b6 c->(LF n names acc).lookup y=b6 c->x=y
 |[],_,_,_,hi,a,h2=>hi x y c a h2
 |(b,k)::r,n,acc,hl,hi,a,h2=>by
  unfold LF at a h2;by_cases hk:(k==Kq)=cb
  .rw[Zx hk]at a h2;have lk:∀(z:Str) (d:i6),List.lookup z ((b,(n:i6))::acc)=b6 d->(z=b/\d=n)\/acc.lookup z=b6 d:=λz d e=>by
    simp only[t4]at e;cases f:z==b with
    |true=>rw[f]at e;cases e;show .inl #[by simpa using f,rfl]
    |false=>rw[f]at e;show .inr e
   show qz r (n+1) _ (λz d e=>?_) (λu v d g h=>?_) a h2
   .rcases lk z d e with⟨_,q⟩|q
    .rw[q];show NJ _
    .show Ie (hl z d q)
   .rcases lk u d g with⟨i,j⟩|q<;>rcases lk v d h with⟨p1,p2⟩|p
    .rw[i,p1]
    .rw[j]at p;show absurd (hl v n p) (GC _)
    .rw[p2]at q;show absurd (hl u n q) (GC _)
    .show hi u v d q p
  .rw[Zy hk]at a h2;show qz r n acc hl hi a h2
theorem m8:∀(names:List (Str×K4)) (h:H9) (acc:List (Str×i6)),(LF h.objs.size names acc).lookup x=b6 c->(Qf h names).IsCell c b7\/acc.lookup x=b6 c
 |[],_,_,e=>.inr e
 |(y,k)::r,h,acc,e=>by
  unfold LF at e;unfold Qf;by_cases hk:(k==Kq)=cb
  .rw[Zx hk]at e ⊢;have hs:h.objs.size+1=(h.push {cls:=.type "cell",data:=.cell b7}).objs.size:=by rw[R5]
   rw[hs]at e;rcases m8 r _ _ e with z|z
   .show .inl z
   .simp only[t4]at z;cases a:x==y with
    |true =>
     rw[a]at z;cases z;show .inl #[_,WA r _ _ _ (hH _ rfl),rfl]
    |false=>rw[a]at z;show .inr z
  .rw[Zy hk]at e ⊢;show m8 r h acc e
abbrev Ib(X:Cx)(scope:Jy)(C:i6):List (Str×i6):=LF (C+1) scope.names (bg X.env scope.names [])
abbrev Gh(X:Cx)(N:List Str)(scope:Jy)(C:i6)(s:hW)(H:Hp)(ex:List i6):Cx where
 prog:=X.prog
 w:=X.w
 K:=X.K
 mg:=X.mg
 base:=X.base
 A:=X.A
 N:=N
 s₀:=s
 H₀:=H
 env:=RB scope (Ib X scope C) C X.env
 outer:=X.stack
 stack:=X.stack
 ex:=ex
 fn:=λx=>f7 (scope.names.lookup x=b6 .cell)
 calm:=X.calm
 pn:=[]
 xe:=λ_ _=>False
abbrev dO(D N:List Str):Prop:=D.length=N.length/\∀(i:Nat) (y:Str),D[i]?=b6 y->N[i]?=b6 y\/y="."\/y=".."
def dO.refl(N:List Str):dO N N:=#[rfl,λ_ _ h=>.inl h]
def dO.set{D N:List Str}(h:dO D N)(j:Nat){m:Str}(b:m="."\/m=".."):dO (D.set j m) N:=by
 show#[by rw[Yc];show h.1,λi y e=>?_];by_cases a:j=i
 .subst a;rw[List.getElem?_set,Zx rfl]at e;split at e
  .cases e;show .inr b
  .cases e
 .rw[nT a]at e;show h.2 i y e
structure cy(X:Cx)(N own:List Str)(scope:Jy):Prop where
 kind:scope.kind=.function
 uq:∀y∈scope.names,scope.names.lookup y.1=b6 y.2
 cl:∀y∈scope.names,y.2=.cell->y.1∈own
 nd:N.Nodup
 pre:N.take own.length=own
 loc:∀y∈scope.names,y.2=.local->y.1∈own\/y.1=".0"
 SO:(".0":Str)∉N
 tail:dO (N.drop own.length) X.N
 free:∀y∈scope.names,y.2=.free->X.env.scope.names.lookup y.1=b6 .cell\/X.env.scope.names.lookup y.1=b6 .free
 dot:∀y∈scope.names,y.1≠"."/\y.1≠".."
def mem_lookup{names:List (Str×K4)}(h:names.lookup x=b6 k):(x,k)∈names:=PySem.mem_of_lookup h
def cy.names(S:cy X N a scope):∀y∈scope.names,y.2=.local->scope.names.lookup y.1=b6 .local:=λy b e=>e▸S.uq y b
def cy.no(S:cy X N a scope)(h:scope.names.lookup x=b6 .free):(x,Kq)∉scope.names:=λz=>by
 have:=S.uq _ z;rw[h]at this;cases this
def cy.cells(S:cy X N b scope)(ok:X.Ok):∀y∈scope.names,y.2=.free->∃a,X.env.cells.lookup y.1=b6 a:=λy c d=>by
 rcases S.free y c d with z|z
 .show ok.has y.1 (.inl z)
 .show ok.has y.1 (.inr z)
def vF(S:cy X N f scope)(I:Inv X B σ H s)
  (A:s.heap.objs.size<=C) (Hw:∀x c,(Ib X scope C).lookup x=b6 c->s4.heap.IsCell c b7\/(bg X.env scope.names []).lookup x=b6 c) (I0:s4.os=s.os) (hg:s4.gens=s.gens) (keep:∀b o,s.heap.get? b=b6 o->s4.heap.get? b=b6 o) (ns:∃m,s4.heap.Ns C m)
  (g:∀b∈ex,jZ X B H b/\b<s.heap.objs.size):Inv (Gh X N scope C s H ex) [] (pe f.length b7++σ) H s4:=by
 have(m0,QZ):=ns;have sub:=eh (env:=X.env) scope.names [] (λn c e=>by simp at e);have SQ:∀(x:Str) (c:i6),(bg X.env scope.names []).lookup x=b6 c->c<s.heap.objs.size:=λx c e=>by
  have(v,o,ho,_):=I.cell x c (sub x c e);show i0 ho
 have J:∀(x:Str) (c:i6),(Ib X scope C).lookup x=b6 c->C<c\/(bg X.env scope.names []).lookup x=b6 c:=λx c e=>(h_ _ _ _ e).imp (λz=>z.2) id;have O:∀b∈ex,b<C:=λb t=>mA (g b t).2 A;have tl:f.length<=N.length:=by have:=ZE Lz S.pre;rw[sd]at this;lia
 show#[#[I.ok.mod,?_,I.ok.glob,I.ok.blt,A,λx y c w h2=>qz _ _ _ (λz d e=>Ie (mA (SQ z d e) A)) (λu v d D e2=>I.ok.inj u v d (sub u d D) (sub v d e2)) w h2,λx hx=>?_,λx c h e=>?_,I.ok.hd,I.ok.frames,.inl rfl,λb t=>#[l' (O b t),λx c e=>?_],λb o e=>I.bs b o e,?_,λb o e t=>?_,λb t=>?_,I.stack,I.jO],
  I0,(by rw[hg];show I.bare),Un.kept keep,#[m0,QZ,λi y v w h2 h3=>?_],λx c e=>?_,I.Fe.fresh A,λx c e=>?_,λp hp=>absurd (show p∈([]:List (i6×Obj)) from hp) (by simp),I.Fe.kept keep,?_]
 .change(Sa scope X.env).kind=.function;show S.kind
 .
  have NF:(Sa scope X.env).names.lookup x=b6 .cell\/(Sa scope X.env).names.lookup x=b6 .free:=hx;have Fq:scope.names.lookup x=b6 .cell\/scope.names.lookup x=b6 .free:=by
   rcases NF with z|z
   .rcases bC z with q|⟨_,q⟩
    .show .inl q
    .show .inr q
   .rcases bC z with q|⟨q,_⟩
    .show .inr q
    .cases q
  rcases Fq with Fq|Fq
  .show V3.mp (PySem.W.cellsFrom_some scope.names (C+1) _ (.inl Fq))
  .have(a,ha):=S.cells I.ok (x,.free) (mem_lookup Fq) rfl;show#[a,(m7 _ _ _ (S.no Fq)).trans (gC ha scope.names [] (mem_lookup Fq))]
 .have h':scope.names.lookup x=b6 .cell:=ZD h;rcases J x c e with z|z
  .show F8 A (LA z)
  .rcases jr _ _ z with z|z
   .have:=S.uq _ z;rw[h']at this;cases this
   .simp at z
 .rcases J x c e with z|z
  .show λq=>absurd (KN (O b t) z) (by rw[q];show GC _)
  .show(g b t).1.2.2.2.2.1 x c (sub x c z)
 .show F8 I.ok.JD I.sz
 .have(f0,Q,T,Y,f4,f5):=(g b t).1;rcases Y with z|z
  .show I.ok.HK b o e z
  .show absurd (mA (i0 e) (F8 I.ok.JD z)) (GC _)
 .intro HN;have(f0,Q,T,Y,f4,f5):=(g b t).1;rcases i1.mp (I.jX b HN) with z|z
  .show Q z
  .show T z
 .
  have hi:f.length<=i:=by
   by_cases hi:i<f.length
   .rw[C0 (by simpa using hi),Kf]at h2;split at h2<;>cases h2
   .lia
  rw[vr (by simpa using hi),OP]at h2;have SS:(N.drop f.length)[i - f.length]?=b6 y:=by
   rw[G2];have e:f.length+(i - f.length)=i:=by lia
   rw[e];show w
  have LQ:(Sa scope X.env).names.lookup y=b6 .local\/(Sa scope X.env).names.lookup y=b6 .cell\/(Sa scope X.env).names.lookup y=b6 .free:=h3;have Kn:∀y:Str,y∈f->N[i]?=b6 y->False:=λy L w=>by
   have(j,hj,ej):=PU L;have OS:N[j]?=b6 y:=by
    have D:(N.take f.length)[j]?=b6 y:=by rw[S.pre,ts hj,ej]
    rw[Wv hj]at D;show D
   have:=gW S.nd OS w;lia
  have Fq:scope.names.lookup y=b6 .free:=by
   rcases LQ with z|z|z
   .rcases bC z with q|⟨q,_⟩
    .exfalso
     have L:y∈f:=by
      rcases S.loc (y,.local) (mem_lookup q) rfl with z|z
      .show z
      .have z':y=".0":=z;show absurd (JT w) (by rw[z'];show S.SO)
     show Kn y L w
    .cases q
   .rcases bC z with q|⟨_,q⟩
    .show(Kn y (S.cl _ (mem_lookup q) rfl) w).elim
    .show q
   .rcases bC z with q|⟨q,_⟩
    .show q
    .cases q
  have hX:X.N[i - f.length]?=b6 y:=by
   rcases S.tail.2 _ _ SS with e|e|e
   .show e
   .show absurd e (S.dot _ (mem_lookup Fq)).1
   .show absurd e (S.dot _ (mem_lookup Fq)).2
  have(m,hn,hl):=I.loc;have hv:X.env.scope.names.lookup y=b6 .cell\/X.env.scope.names.lookup y=b6 .free:=S.free (y,.free) (mem_lookup Fq) rfl;have(u,r,l):=hl _ y v hX h2 (.inr hv);show#[u,r,?_];rcases l with⟨k,_⟩|⟨k,c,e,z⟩
  .have k':X.env.scope.names.lookup y=b6 .local:=k;rcases hv with q|q<;>(rw[k']at q;cases q)
  .have hk:(Sa scope X.env).names.lookup y=b6 .cell\/(Sa scope X.env).names.lookup y=b6 .free:=by
    rcases LQ with q|q|q
    .rcases bC q with G|⟨G,_⟩
     .rw[Fq]at G;cases G
     .cases G
    .show .inl q
    .show .inr q
   have(o,ho,hd):=z;show .inr #[hk,c,(m7 _ _ _ (S.no Fq)).trans (gC e scope.names [] (mem_lookup Fq)),o,keep c o ho,hd]
 .rcases Hw x c e with z|z
  .show#[_,z]
  .have(v,o,ho,hd):=I.cell x c (sub x c z);show#[v,o,keep c o ho,hd]
 .rcases J x c e with z|z
  .show I.Fe.fresh (F8 A (LA z))
  .show I.Fz x c (sub x c z)
 .rw[oT,OP,I.len];have e:N.length=f.length+(N.drop f.length).length:=by rw[KR];lia
  change _=N.length;rw[e,S.tail.1]
def oR(I:Inv X f σ H s)
  (d:Inv (Gh X N scope C s H ex) Ki σ' m s4) (x:s.heap.objs.size<=D) (y:s.heap.objs.size<=C) (A:D≠C) (h:m D=b7) (B:Vals r its) (G:s4.heap.PlainList D its.toArray) (hl:r.length<=eF)
  (i:H_ C s4.heap h') (p:∀b∈ex,jZ X f H b):Inv X f σ (upd m D (.lst r)) {s4 with heap:=h' }:=by
 have t:m C=b7:=d.free;have l:∀{b:i6} {o:Obj},s.heap.get? b=b6 o->b≠C/\b≠D:=λe=>#[l' (mA (i0 e) y),l' (mA (i0 e) x)]
 show I.zQ (s':={s4 with heap:=h' }) (ch:=ex) d.os ⟨λb o e n j g=>?_,λb o e n j g=>?_,λb o e n g=>?_,λb o e g=>?_,λb xs e=>?_,λb o u e=>?_,λb ps e=>?_⟩ (λa o e=>?_) d.bare λb j=>?_
 .show(i.2 b (l e).1).trans (d.base.keep b o e n j g)
 .have(J,q):=d.base.slot b o e n j g;show#[J,(i.2 b (l e).1).trans q]
 .rw[aB (l e).2];show d.base.free b o e n g
 .have(L,q):=d.base.there b o e g;show#[L,(i.2 b (l e).1).trans q]
 .have q:=d.base.Gj b xs e;rw[aB (aO q h)];show q
 .have q:=d.base.Ga b o u e;rw[aB (aO q h)];show q
 .have(k,q):=d.base.Gk b ps e;show#[k,by rw[aB (aO q h)];show q]
 .by_cases w:a=D
  .subst w;rw[aE]at e;cases e;have(n,q):=G;show#[hl,its,n,B,(i.2 _ A).trans q]
  .rw[aB w]at e;show(d.Fe a o e).mM (λc v O q=>(i.2 c ?_).trans q) (λc q=>?_) λc xs q=>?_
   .rintro rfl;rcases O with z|z
    .rw[<-z,t]at e;cases e
    .rw[t]at z;cases z
   .rw[aB (aO q h)];show q
   .rw[aB (aO q h)];show q
 .have(f0,Q,f2,T,Y,f5):=p b j;show#[T,Q,Y,f5]
section
def m_(I:Nat->hW->Prop)
  (b:∀n s,I n s->iv (j0 prog w) A (P_ it) (λr d=>match r with
   |none=>R (.ok .next) d
   |some v=>iv (j0 prog w) A (Sx a it v) (λ_ d=>iv (j0 prog w) A (Rg a env v) (λ_ j =>
     iv (j0 prog w) A (Zw f cb λc r=>if r=cb then do let ok <-isTrue c env (KZ c env);pure (ND ok) else pure (ND r)) (λok i =>
      if ok=cb then iv (j0 prog w) A (KZ elt env) (λx k =>
       iv (j0 prog w) A (OK (.builtin "list.append") [acc,x]) (λ_ l=>∃m,m<n/\I m l) (QX (j0 prog w) A env λe s'=>R (.error e) s') k) (QX (j0 prog w) A env λe s'=>R (.error e) s') i
      else ∃m,m<n/\I m i) (QX (j0 prog w) A env λe s'=>R (.error e) s') j) (QX (j0 prog w) A env λe s'=>R (.error e) s') d) (QX (j0 prog w) A env λe s'=>R (.error e) s') d) (QX (j0 prog w) A env λe s'=>R (.error e) s') s)
  (n:Nat) (h:I n s) :
  Pt (j0 prog w) A (.compLoop (.ListComp elt [⟨a,g,f,0⟩] scope pos) 0 it acc env) R s:=by
 show codeAny_loop rfl I (λn s q=>?_) n h;change iv _ A ((compTurn (.ListComp elt [⟨a,g,f,0⟩] scope pos) 0 it acc env).onRaise (λx=>do noteFrame x env;theTreesLotGoes x)) _ _ s;show wpAny_noted ?_;rw[compTurn_list];show b8 (W8 (b8 (tA (b n s q) (λr d o=>?_) λ_ _ h'=>h')));cases r with
 |none=>show eH o
 |some v =>
  show b8 (tA o (λ_ B t=>?_) λ_ _ h'=>h');show b8 (tA t (λ_ j u=>b8 (tA u (λok i p=>?_) λ_ _ h'=>h')) λ_ _ h'=>h');cases ok with
  |false=>show eH #[rfl,p]
  |true =>
   show b8 (b8 (tA p (λx k y=>b8 (tA y (λ_ l z=>eH (eH #[rfl,z])) λ_ _ h'=>h')) λ_ _ h'=>h'))
end
abbrev JV(X:Cx)(b:List tr)(t:TT):Prop :=
 ∀(a:List (i6×Obj)) (s:hW) (σ:St) (H:Hp) (Q:Bool->Hp->Prop),Inv X a σ H s->t σ H Q ->
  iv (j0 X.prog X.w) X.A (Zw b cb λc r=>if r=cb then do let ok <-isTrue c X.env (KZ c X.env);pure (ND ok) else pure (ND r)) (TP X a σ Q) X.xe s
abbrev ER:TT:=λ_ H Q=>Q cb H
def r_:JV X [] ER:=λ_ _ _ H _ I h=>wpAny_tests_nil #[H,I,h]
def se(h:PT X c t):JV X [c] t:=λa s σ H Q I q=>wpAny_tests_one (h a s σ H Q I q)
abbrev sf(k:Nat)(J:It)(g:TG)(l:TT)(te:TE)(Q:VK)(σ:St)(n:Hp):Prop :=
  ∃W:Nat->Nat->List V->Hp->Prop,(∃m,W 0 m [] n)/\∀i m a H,W i m a H->a.length<=eF /\
    ((J.stop i H/\∀p,H p=b7->Q (.ref p) (upd H p (.lst a))) \/
     (J.go i H/\∃d:List V->Hp->Prop,(∀f H',d f H'->∃h,h<m/\W (i+1) h f H')/\∀x H',J.Nu i H x H'->g x (pe k b7++σ) H' λe o=>∃c:St,c.length=k/\e=c++σ /\
        l e o λb j=>if b=cb then te e j λy q=>d (a++[y]) q else d a j))
abbrev vG(k:Nat)(a:TI)(g:TG)(b:TT)(te:TE):TE:=λσ H Q=>a σ H λJ c=>sf k J g b te Q σ c
section
def vH
  (S:cy X N G scope) (hc:X.calm=cb) (hg:∀C s H ex,PG (Gh X N scope C s H ex) tg g) (hf:∀C s H ex,JV (Gh X N scope C s H ex) am tt)
  (he:∀l s7 σ7 H7 Q7,Inv (Gh X N scope C s H k) l σ7 H7 s7->te σ7 H7 Q7->iv (j0 X.prog X.w) X.A (KZ elt (RB scope (Ib X scope C) C X.env)) (EP (Gh X N scope C s H k) l σ7 Q7) (QX (j0 X.prog X.w) X.A (RB scope (Ib X scope C) C X.env) λe s'=>R (.error e) s') s7)
  (I:Inv X l σ H s) (T:Turn X.prog X.w X.K tg J k it tn) (st:tn 0 s.heap) (f2:∀b∈k,jZ X l H b) (W:sf G.length J g tt te Q σ H)
  (hD:@Eq Nat D s.heap.objs.size) (hC:@Eq Nat C (s.heap.objs.size+1)) (Hw:∀x c,(Ib X scope C).lookup x=b6 c->s4.heap.IsCell c b7\/(bg X.env scope.names []).lookup x=b6 c) (I0:s4.os=s.os) (SW:s4.gens=s.gens) (keep:∀b o,s.heap.get? b=b6 o->s4.heap.get? b=b6 o) (ns:∃m,s4.heap.Ns C m) (pl:s4.heap.PlainList D #v[])
  (an:∀s5 Y O its,Inv (Gh X N scope C s H k) [] (pe G.length b7++σ) Y s5->Y D=b7->Vals O its->s5.heap.PlainList D its.toArray->O.length<=eF->(∀p,Y p=b7->Q (.ref p) (upd Y p (.lst O)))->R (.ok .next) s5) :
  Pt (j0 X.prog X.w) X.A (.compStart (.ListComp elt [⟨tg,ap,am,0⟩] scope pos) 0 (.ref it) (.ref D) (RB scope (Ib X scope C) C X.env)) R s4:=by
 have Ja:∀b∈k,@OJ Nat _ b s.heap.objs.size:=λb h=>by
  have(o,e,_):=T.obj 0 s.heap st b h;show i0 e
 have I4:Inv (Gh X N scope C s H k) [] (pe G.length b7++σ) H s4:=vF S I ⋯ Hw I0 SW keep ns λb h=>#[f2 b h,Ja b h]
 have LR:tn 0 s4.heap:=T.keep 0 s.heap s4.heap st λb _ o e=>keep b o e;have nD:H D=b7:=I.Fe.fresh ⋯;have(W,(m0,w0),WO):=W;generalize t:Gh X N scope C s H k=f at I4 an he;have eP:f.prog=X.prog:=by rw[<-t];rfl
 have ew:f.w=X.w:=by rw[<-t];rfl
 have eK:f.K=X.K:=by rw[<-t];rfl
 have ec:f.calm=cb:=by rw[<-t];show hc
 have eA:f.A=X.A:=by rw[<-t];rfl
 have ee:f.env=RB scope (Ib X scope C) C X.env:=by rw[<-t];rfl
 have Q0:f.xe=λ_ _=>False:=by rw[<-t];rfl
 have el:f.env.locals=C:=by rw[ee];rfl
 have SX:PG f tg g:=by rw[<-t];show hg _ _ _ _
 have SY:JV f am tt:=by rw[<-t];show hf _ _ _ _
 have s0:f.s₀=s:=by rw[<-t];rfl
 have My:f.pn=[]:=by rw[<-t];rfl
 have OT:∀{H':Hp} {o:Obj},(∀b∈k,H' b=b7)->∀b∈k,jZ f [(D,o)] H' b:=λ{H' o} hn b h=>by
  have ex:f.ex=k:=by rw[<-t];rfl
  show#[hn b h,?_,?_,.inl (by rw[ex];show h),λx c e=>?_,λp L=>?_]
  .rw[el];have:=Ja b h;show l' (by change @OJ Nat _ b C;lia)
  .have e1:f.fs=FT X.stack:=by rw[<-t];rfl
   rw[e1];intro z;have(f0,f1,S0,f3,f4,f5):=f2 b h;rcases i1.mp (I.jX b z) with q|q
   .show f1 q
   .show S0 q
  .have e1:f.env.cells=Ib X scope C:=by rw[ee];rfl
   rw[e1]at e;rcases h_ _ _ _ e with z|z
   .have:=Ja b h;have:=z.2;show Ic (by change @OJ Nat _ b c;lia)
   .show(f2 b h).2.2.2.2.1 x c (eh scope.names [] (λn c e=>by simp at e) x c z)
  .rw[My,tx]at L;have:p=(D,o):=by simpa using L
   subst this;have:=Ja b h;show Ic (by change @OJ Nat _ b D;lia)
 have OU:∀{σ':St} {H':Hp} {s':hW} {o:Obj},Inv f [] σ' H' s'->H' D=b7->s'.heap.get? D=b6 o->(∀v,o.data≠.cell v)->Inv f [(D,o)] σ' H' s':=λ{σ' H' s' o} I' n e d =>
  I'.fP λp L=>by
   have:p=(D,o):=by simpa using L
   subst this;show#[e,n,?_,?_,d]
   .rw[el];show l' (by change @OJ Nat _ D C;lia)
   .have e1:f.fs=FT X.stack:=by rw[<-t];rfl
    rw[e1];intro z;have zz:(D:i6)∈FT X.stack:=z;rcases i1.mp (I.jX D zz) with q|q
    .have:=I.lt;rw[<-q]at this;show absurd this (by change ¬@OJ Nat _ D s.heap.objs.size;lia)
    .show I.Cz (a:=D) ⋯ q
 have start:∀s':hW,s'=s4->Pt (j0 X.prog X.w) X.A (.compLoop (.ListComp elt [⟨tg,ap,am,0⟩] scope pos) 0 (.ref it) (.ref D) (RB scope (Ib X scope C) C X.env)) R s':=by
  rintro s' rfl;show m_ (λn s'=>∃i O its H',Inv f [] (pe G.length b7++σ) H' s'/\tn i s'.heap/\(∀b∈k,H' b=b7)/\H' D=b7/\Vals O its/\s'.heap.PlainList D its.toArray/\W i n O H') ?_ m0
   ⟨0,[],[],H,I4,LR,λb h=>(f2 b h).1,nD,.nil,pl,w0⟩
  rintro n s3 ⟨i,O,its,H3,I3,st3,Mm,Q1,NG,⟨nn,S_⟩,w3⟩;have(ab,GQ):=WO i n O H3 w3;have IP:=OU I3 Q1 S_ (λv z=>by have z':Data.seq _ _=Zo v:=z;cases z');rcases GQ with⟨as,qn⟩|⟨go,NN,Q2,ax⟩
  .have d:=T.done f eP ew eK ec i _ s3 _ H3 (QX (j0 X.prog X.w) X.A (RB scope (Ib X scope C) C X.env) λe s'=>R (.error e) s') IP (OT Mm) st3 as;rw[eA]at d;show Ft d λr s4 OV=>?_;have(hr,I5):=OV;subst hr;have e5:=(I5.pin (D,({cls:=.type "list",data:=.seq its.toArray nn}:Obj)) (by rw[My];simp)).1;show an s4 H3 O its (I5.fP λp L=>by cases L) Q1 NG ⟨nn,e5⟩ ab qn
  .have d:=T.item f eP ew eK ec i _ s3 _ H3 (QX (j0 X.prog X.w) X.A (RB scope (Ib X scope C) C X.env) λe s'=>R (.error e) s') IP (OT Mm) st3 go;rw[eA]at d;show Ft d λr s4 OW=>?_;have(u,hr,h4):=OW;subst hr;show Ft h4 λ_ s5 OX=>?_;have(x,Y,I5,r5,y5,Kk,Ox):=OX;have VD:Y D=b7:=(I5.pin (D,({cls:=.type "list",data:=.seq its.toArray nn}:Obj)) (by rw[My];simp)).2.1;have Oy:=I5.pinned (OT Ox) (T.obj _ _ Kk);have a6:=SX _ s5 _ Y x u _ Oy r5 (ax x Y y5);rw[eP,ew,eA,ee,Q0]at a6;show tA a6 (λ_ s6 ⟨σ6,H6,I6,q6⟩=>?_) λ_ _ z=>Nj z;have(ow,ay,rfl,q6):=q6;have a7:=SY _ s6 _ H6 _ I6 q6;rw[eP,ew,eA,ee,Q0]at a7;show tA a7 (λb s7 ⟨H7,I7,q7⟩=>?_) λ_ _ z=>Nj z;have ac:∀{s8:hW} {B:Hp} {JI:List V} {its':List fx} {nn':Nat},Inv f [] (ow++σ) B s8->tn (i+1) s8.heap->(∀b∈k,B b=b7)->B D=b7->Vals JI its'->s8.heap.PlainList D its'.toArray->(∃m',m'<n/\W (i+1) m' JI B) ->
     ∃m,m<n/\∃i O its H',Inv f [] (pe G.length b7++σ) H' s8/\tn i s8.heap/\(∀b∈k,H' b=b7)/\H' D=b7/\Vals O its/\s8.heap.PlainList D its.toArray/\W i m O H':=λ{s8 B JI its' nn'} I8 Ta Tc n8 Td Te w8=>by
    have(m',hm,w8):=w8;show#[m',hm,i+1,JI,its',B,I8.weak (by simp[ay]) (λj v e=>?_),Ta,Tc,n8,Td,Te,w8];by_cases hj:j<G.length
    .rw[C0 (by simpa using hj),Kf]at e;split at e<;>cases e
    .rw[vr (by simpa using(Nat.not_lt.mp hj)),OP]at e;rw[vr ⋯,ay];show e
   have al:∀{σ':St} {B:Hp} {s8:hW},Inv f ([(D,({cls:=.type "list",data:=.seq its.toArray nn}:Obj))]++j3 k s5.heap) σ' B s8->s8.heap.get? D=b6 {cls:=.type "list",data:=.seq its.toArray nn}/\B D=b7/\tn (i+1) s8.heap/\∀b∈k,B b=b7:=λ{σ' B s8} I8=>by
    have p1:=I8.pin (D,({cls:=.type "list",data:=.seq its.toArray nn}:Obj)) (by rw[My];simp);show#[p1.1,p1.2.1,T.keep _ _ _ Kk λb h o e=>(I8.pin (b,o) (y0 _ (y0 _ (ef h e)))).1,λb h=>?_];have(o,e,d):=T.obj _ _ Kk b h;show(I8.pin (b,o) (y0 _ (y0 _ (ef h e)))).2.1
   cases b with
   |false =>
    rw[Zy o6]at q7 ⊢;have(p1,p2,p3,p4):=al I7;show ac (nn':=0) (I7.fP λp L=>by cases L) p3 p4 p2 NG ⟨nn,p1⟩ (Q2 _ _ q7)
   |true =>
    rw[Zx rfl]at q7 ⊢;show tA (he _ s7 _ H7 _ I7 q7) (λy s8 ⟨yv,B,I8,r8,q8⟩=>?_) λ_ _ z=>z;have(p1,p2,p3,p4):=al I8;have hsz:its.toArray.size<=eF:=by rw[ko,<-NG.length];show ab
    show wpAny_list_append_plain (hsz:=hsz) #[nn,p1] λh9 Tf Q3=>?_;have Tg:Inv f [] (ow++σ) B s8:=I8.fP λp L=>by cases L
    have NH:∀x c,f.env.cells.lookup x=b6 c->c≠D:=λx c e=>by
     have e1:f.env.cells=Ib X scope C:=by rw[ee];rfl
     rw[e1]at e;rcases h_ _ _ _ e with z|z
     .have:=z.2;show Ic (by change @OJ Nat _ D c;lia)
     .have(v,z):=I.cell x c (eh scope.names [] (λn c e=>by simp at e) x c z);have:@OJ Nat _ c s.heap.objs.size:=z.lt;show l' (by change @OJ Nat _ c D;lia)
    have I9:Inv f [] (ow++σ) B {s8 with heap:=h9,toks:=s8.toks}:=Tg.turned (it:=D) (λb o h e=>(Q3.2 b h).trans e) p2 (by rw[el];show l' (by change @OJ Nat _ D C;lia)) (.inr (by rw[s0];change @Yd Nat _ s.heap.objs.size D;lia)) NH (λp L=>by rw[My]at L;cases L);have Th:(its++[y]).toArray=its.toArray.push y:=by simp
    show ac (nn':=0) (s8:={s8 with heap:=h9,toks:=s8.toks}) I9 (T.keep _ _ _ p3 λb h o e=>(Q3.2 b ?_).trans e) p4 p2 (NG.append (.cons r8 .nil)) (by rw[Th];show Tf) (Q2 _ _ q8);have:=Ja b h;show l' (by change @OJ Nat _ b D;lia)
 show codeAny_compStart_list (start _ rfl) (T.self _ _ _ _ _ LR (start _ rfl))
def qA
  (f:Q (newEnv scope s.heap.objs.size b (LF (s.heap.objs.size+1) scope.names cl) d b7 .none (b6 c) a) {s with heap:=Qf (s.heap.push {cls:=.type "dict",data:=.dict #v[]}) scope.names}) :
  iv M A (WQ scope b cl [] d b7 .none (b6 c) a) Q E s:=by
 simp only[WQ,W5,if_true];show b8 (wpAny_alloc ?_);show b8 (wpAny_layCells _ (λname kind e=>by cases g:kind==Kq<;>simp[g]) _ _ _ _ ?_);rw[show({s with heap:=s.heap.push {cls:=.type "dict",data:=.dict #v[]}}:hW).heap.objs.size=s.heap.objs.size+1 from R5 ..];show b8 ?_;rw[List.forIn_nil];show eH (eH f)
def j_{RR:fx->i6->Zn->hW->Prop}
    (S:cy X N h scope) (G:X.calm=cb) (L:∀C s H ex,PG (Gh X N scope C s H ex) r g) (O:∀C s H ex,JV (Gh X N scope C s H ex) k Y) (he:∀C s H ex,PE (Gh X N scope C s H ex) elt te)
 (I:Inv X a σ H s) (T:Turn X.prog X.w X.K r J t it tn) (st:tn 0 s.heap) (f2:∀b∈t,jZ X a H b) (W:sf h.length J g Y te Q σ H)
    (l:∀D C i f j its,@Eq Nat D s.heap.objs.size->@Eq Nat C (s.heap.objs.size+1)->Inv (Gh X N scope C s H t) [] (pe h.length b7++σ) f i->f D=b7->Vals j its->i.heap.PlainList D its.toArray->j.length<=eF->(∀p,f p=b7->Q (.ref p) (upd f p (.lst j)))->RR (.ref D) C (.ok .next) i) :
    iv (j0 X.prog X.w) X.A (Xy []) (λacc s₃=>iv (j0 X.prog X.w) X.A (WQ scope X.env.globals (bg X.env scope.names []) [] X.env.qual b7 .none (b6 X.env)) (λu s₄ =>
      Pt (j0 X.prog X.w) X.A (.compStart (.ListComp elt [⟨r,v,k,0⟩] scope pos) 0 (.ref it) acc {u with scope:=Sa scope X.env}) (RR acc u.locals) s₄) E s₃) E s:=by
  show va (qA ?_)
  dsimp only
  generalize m:s.heap.push {cls:=.type "list",dict:=b7,data:=.seq ([]:List fx).toArray}=d;have y:d.objs.size=s.heap.objs.size+1:=by rw[<-m,R5]
  have B:∀b o,d.get? b=b6 o->(Qf (d.push {cls:=.type "dict",data:=.dict #v[]}) scope.names).get? b=b6 o:=λb o e=>WA _ _ b o (ek _ e);have n:∀b o,s.heap.get? b=b6 o->(Qf (d.push {cls:=.type "dict",data:=.dict #v[]}) scope.names).get? b=b6 o:=λb o e=>B b o (m▸ek _ e);have GG:(Qf (d.push {cls:=.type "dict",data:=.dict #v[]}) scope.names).PlainList s.heap.objs.size #v[]:=#[_,B _ _ (m▸hH _ rfl)]
  have Hw:∀x c,(Ib X scope d.objs.size).lookup x=b6 c->(Qf (d.push {cls:=.type "dict",data:=.dict #v[]}) scope.names).IsCell c b7\/(bg X.env scope.names []).lookup x=b6 c:=λx c e=>by
    show m8 scope.names (d.push {cls:=.type "dict",data:=.dict #v[]}) _ ?_;rw[R5];show e
  show vH (s:=s) (s4:={s with heap:=Qf (d.push {cls:=.type "dict",data:=.dict #v[]}) scope.names}) (C:=d.objs.size) (D:=s.heap.objs.size) S G L O (λa s7 σ7 H7 Q7 I7 q=>tA (he _ _ _ _ a s7 σ7 H7 Q7 I7 q) (λ_ _ z=>z) λ_ _ z=>z.elim) I T st f2 W rfl y Hw rfl rfl n ⟨_,(Heap.Ns.new d (.type "dict")).keeps (WA _ _)⟩ GG
    λi f j its I5 n5 MA MB MC q5=>l _ _ i f j its rfl y I5 n5 MA MB MC q5
def yx(S:cy X N c scope)(m:X.calm=cb)(hi:PI X f a n)(o:∀C s H ex,PG (Gh X N scope C s H ex) f g)(p:∀C s H ex,JV (Gh X N scope C s H ex) d q)(r:∀C s H ex,PE (Gh X N scope C s H ex) elt te)
  (hs:∀x,LK a X.env x=pure x:=by intro _;rfl):PE X (.ListComp elt [⟨f,a,d,0⟩] scope pos) (vG c.length n g q te):=by
 intro b s σ H Q I h;rw[eval_ListComp];show W9 (use:=b7) (cl:=bg X.env scope.names []) rfl hs (dY (S.cells I.ok)) S.kind S.names ?_;show Ft (hi b s σ H _ I h) λv s1 t=>Ft t λNv s2 h2=>?_;have(it,fp,tn,J,H2,e,i,T,st2,j,W):=h2;subst e;show j_ (RR:=λacc C=>compPost (j0 X.prog X.w) X.A X.xe b7 (EP X b σ Q) acc C) S m o p r i T st2 j W ?_;intro D C s5 H5 ys its u hC k l y z B G;have(L,O,_):=k.loc;show#[L,O,λh' Y=>#[.ref D,_,oR i k (UU u.symm) (by change @Yd Nat _ s2.heap.objs.size C;lia) (l' (by change @OJ Nat _ D C;lia)) l y z B Y j,rfl,G D l]]
def yy(S:cy X N r scope)(hc:X.calm=cb)(hN:X.N.Nodup)(NI:X.N[i]?=b6 y)(G:X.env.scope.names.lookup y=b6 .local)
  (hi:PI X n d wi) (hg:∀C s H ex,PG (Gh X N scope C s H ex) n g) (hf:∀C s H ex,JV (Gh X N scope C s H ex) k tt) (he:∀C s H ex,PE (Gh X N scope C s H ex) elt te)
  (II:OI (.ListComp elt [⟨n,d,k,0⟩] scope pos) (b6 (.Name y m)) Iq.line X.env=pure cb:=by rfl)
  (hs:∀x,LK d X.env x=pure x:=by intro _;rfl):PS X (.Assign [.Name y m] (.ListComp elt [⟨n,d,k,0⟩] scope pos) Iq) (AK (vG r.length wi g tt te) (rW i)):=by
 intro f s σ H D I h;rw[exec_Assign_Name_used _ _ _ _ II];show b8 (W8 (b8 ?_));change iv _ X.A (do let _ <-comprehension (.ListComp elt [⟨n,d,k,0⟩] scope pos) scope X.env _ (Xy []) dV (KZ d X.env) (b6 (Rg (.Name y m) X.env))) _ _ s;show b8 (tA (W9 (use:=b6 (Rg (.Name y m) X.env)) (cl:=bg X.env scope.names []) (Q:=λ_ s'=>SP X f D .next s') rfl hs (dY (S.cells I.ok)) S.kind S.names ?_) (λ_ s' hq=>eH (eH hq)) λ_ _ e=>e);show Ft (hi f s σ H _ I h) λv s1 h1=>Ft h1 λNv s2 h2=>?_;have(it,fp,tn,J,H2,e,l,T,st2,L,W):=h2;subst e;show j_ (RR:=λacc C=>compPost (j0 X.prog X.w) X.A X.xe (b6 (Rg (.Name y m) X.env)) (λ_ s'=>SP X f D .next s') acc C) S hc hg hf he l T st2 L W ?_;intro j C q t O its hD hC u Y MA MB MC q5;have(m5,OZ,_):=u.loc;have Tj:t C=b7:=u.free;have B:Inv X f σ (upd t j (.lst O)) {q with heap:=q.heap}:=oR l u (UU hD.symm) (by change @Yd Nat _ s2.heap.objs.size C;lia) (l' (by change @OJ Nat _ j C;lia)) Y MA MB MC (Ri ..) L;change iv _ X.A (Rg (.Name y m) X.env (.ref j)) _ _ q;show Yz (lS (s:=q) B hN NI (.inl G) (show RelV (.ref j) (.ref j) from rfl) (λs6 I6 ⟨a,sb,ha⟩=>?_) (.inr G));have NH:@OJ Nat _ X.env.locals C:=by have:@OJ Nat _ X.env.locals s2.heap.objs.size:=l.lt;lia
 have Jb:∀x c,X.env.cells.lookup x=b6 c->c≠C:=λx c e=>by
  have(v,z):=l.cell x c e;have:@OJ Nat _ c s2.heap.objs.size:=z.lt;show l' (by change @OJ Nat _ c C;lia)
 have Tn:C≠a:=by
  rcases ha with z|z
  .rw[z];show Ic NH
  .show(Jb _ _ z).symm
 show#[m5,OZ.sameBut sb Tn,λh' To=>?_];show#[σ.set i (b6 (.ref j)),upd t j (.lst O),I6.turned (it:=C) (t':=s6.toks) (λb o hb e=>(To.2 b hb).trans e) ?_ (Ic NH) (.inr (by have:@Yd Nat _ X.s₀.heap.objs.size s2.heap.objs.size:=l.sz;change @Yd Nat _ X.s₀.heap.objs.size C;lia)) Jb (λp hp=>?_),q5 j Y]
 .rw[aB (Ic (by change @OJ Nat _ j C;lia))];show Tj
 .have:@OJ Nat _ p.1 s2.heap.objs.size:=i0 (l.pin p hp).1;show l' (by change @OJ Nat _ p.1 C;lia)
end
section
end
section
abbrev C7:V->Option Int->Option Int->Hp->VK->Prop:=λx lo hi H Q=>∃z,x=.str z/\z.length<=eF/\Q (.str (PySem.StrLaws.sliceText z lo hi)) H
def lF(x:Str)(lo hi:Option Int)(hz:x.length<=eF):(PySem.StrLaws.sliceText x lo hi).length<=eF:=F8 (Txt.slice_le x lo hi) hz
def A7:JG X C7:=by
 intro b s σ H x v m n lo hi o Q I f hs g d h;have(z,rfl,hz,q):=h;have(t,rfl):=f;show#["str",_,YS.lookup,WN _ _ _,?_];have a:(PySem.StrLaws.sliceText z lo hi).length<=eF/\∀t' k,EP X b σ Q (.str (PySem.StrLaws.sliceText z lo hi) t') {s with toks:=k}:=#[lF z lo hi hz,λt' k=>#[.str _,H,I.tok k,#[_,rfl],q]]
 cases g with
 |none =>
  cases d with
  |none=>show OF (l:=b7) (u:=b7) (st:=b7) hs rfl (Sw a)
  |int j c=>show OF (l:=b7) (u:=b6 (j,c)) (st:=b7) hs rfl (Sw a)
 |int i e =>
  cases d with
  |none=>show OF (l:=b6 (i,e)) (u:=b7) (st:=b7) hs rfl (Sw a)
  |int j c=>show OF (l:=b6 (i,e)) (u:=b6 (j,c)) (st:=b7) hs rfl (Sw a)
def oS:Ny X "str.endswith" (λx xs H Q=>∃a b,x=.str a/\xs=[.str b]/\Q (.bl (YO a b)) H):=by
 intro c s σ H x xs v us Q I d rs h;have(a,b,rfl,rfl,q):=h;have(t,rfl):=d;have(u,rfl,t',rfl):=vals1 rs;show SC.endswith #[.bl _,H,I,rfl,q]
def ng:Ny X "str.partition" (λx xs H Q=>∃a b,x=.str a/\xs=[.str b]/\(b.length==0)=dV/\a.length<=eF /\
  ∀p,H p=b7->Q (.ref p) (upd H p (.tup [.str (ve a b).1,.str (ve a b).2.1,.str (ve a b).2.2]))):=by
 intro d s σ H x xs v us Q I j rs h;have(a,b,rfl,rfl,l,hz,q):=h;have(t,rfl):=j;have(u,rfl,t',rfl):=vals1 rs;show U0 F.slot_str_partition (WN _ _ _) F.entry_str_partition (F.args_str_partition_2 _ _) (meets_str_partition a b t t' l hz) ?_;have m:H s.heap.objs.size=b7:=I.Fe.fresh (g0 _);have n:=q _ m;have c:∀(f g i:Tok) (k:Nat),EP X d σ Q (.ref s.heap.objs.size) {s with toks:=k,heap:=s.heap.push {cls:=.type "tuple",data:=.seq [.str (ve a b).1 f,.str (ve a b).2.1 g,.str (ve a b).2.2 i].toArray}}:=λf g i k =>
  #[.ref s.heap.objs.size,_,I.laid (t':=k) (o:=.tup [.str (ve a b).1,.str (ve a b).2.1,.str (ve a b).2.2]) (λb u e=>ek _ e) (g0 _)
   ⟨by change 3<=eF;decide,_,.cons ⟨f,rfl⟩ (.cons #[g,rfl] (.cons #[i,rfl] .nil)),⟨_,hH _ rfl,rfl,_,rfl⟩⟩,rfl,n]
 revert c;unfold ve;cases VF a b 0 a.length 1 with
 |_=>intro c;show c _ _ _ _
theorem ic:∀{a:List Str}{its:List fx},Vals (a.map V.str) its->∃l:List (Str×Tok),its=strValues l/\l.map (·.1)=a
 |[],_,.nil=>#[[],rfl,rfl]
 |y::a,_,.cons r t=>by
  have(b,rfl):=r;have(l,rfl,e):=ic t;show#[(y,b)::l,rfl,by rw[i2,e]]
def yz:Ny X "str.join" (λx xs H Q=>∃a p b,x=.str a/\xs=[.ref p]/\FR X.K H p (b.map V.str)/\Yt a b=cb/\Q (.str (Wk a b)) H):=by
 intro c s σ H x xs v us Q I d rs h;have(a,p,b,rfl,rfl,f,g,q):=h;have(t,rfl):=d;have(u,rfl,r):=vals1 rs;cases r;have(its,i,j,hz):=I.list f;have(l,rfl,e):=ic i;show SC.join j.isList e g λt' k=>#[.str _,H,I.tok k,#[_,rfl],q]
theorem ff:∀{bs:List Bool}{its:List fx},Vals (bs.map V.bl) its->its=bs.map Mq
 |[],_,.nil=>rfl
 |b::bs,_,.cons r t=>by
  cases r;rw[ff t];rfl
def vI:X.calm=cb->dS X (.builtin "all") (λxs H Q=>∃(p:i6) (bs:List Bool),xs=[.ref p]/\FR X.K H p (bs.map V.bl)/\Q (.bl (bs.all id)) H):=by
 intro g d s σ H xs us Q I rs h;have(p,bs,rfl,j,q):=h;have(u,rfl,r):=vals1 rs;cases r;have(its,k,c,hz):=I.list j;have e:=ff k;subst e;have l:p<s.heap.objs.size:=by have(_,_,e,_):=c;show i0 e
 show call_all_walk (NA c.isList ?_);show#[s.heap.objs.size,[s.heap.objs.size,p],[s.heap.objs.size],(bs.map Mq).toArray.size,_,_,λi=>(bs[i]?).getD cb,rfl,QE (A:=X.A.in1) (I.ok.hd g) _ p (l' l) (bs.map Mq).toArray,
  #[#[_,hH _ rfl,rfl,rfl],c.isList.push _],λi v s' Q' o m f=>?_,λh' n hk=>?_]
 .have a:(bs.map Mq)[i]?=b6 v:=by simpa using m
  rw[mh]at a;cases e:bs[i]? with
  |none=>rw[e]at a;cases a
  |some b =>
   rw[e]at a;cases a;simp only[e,Xq]at f;show LI f
 .have e:((lg (bs.map Mq).toArray.size).all λi=>(bs[i]?).getD cb)=bs.all id:=by
   rw[ko,f6];show Yi bs
  rw[e];show#[.bl _,H,I.kept (t':=n) (R6 hk),rfl,q]
end
section
end
abbrev A8(N a:List Str)(scope:Jy)(out:List (Str×K4)):Bool :=
 f7 (scope.kind=.function)&&scope.names.all (λy=>f7 (scope.names.lookup y.1=b6 y.2))&&scope.names.all (λy=>f7 (y.2≠.cell)||decide (y.1∈a))&&decide N.Nodup&&f7 (N.take a.length=a) &&
 scope.names.all (λy=>f7 (y.2≠.local)||decide (y.1∈a)||decide (y.1=".0"))&&f7 ((".0":Str)∉N)&&scope.names.all (λy=>f7 (y.2≠.free)||decide (out.lookup y.1=b6 .cell)||decide (out.lookup y.1=b6 .free))&&scope.names.all (λy=>f7 (y.1≠".")&&f7 (y.1≠".."))
def vJ(c:X.env.scope.names=out)(d:dO (N.drop a.length) X.N)(h:A8 N a scope out=cb):cy X N a scope:=by
 unfold A8 at h;simp only[df,ux,PN,Zz]at h;obtain⟨⟨⟨⟨⟨⟨⟨⟨f,h2⟩,g⟩,i⟩,j⟩,k⟩,l⟩,m⟩,n⟩:=h;show#[f,h2,λy b e=>?_,i,j,λy b e=>?_,l,d,λy b e=>?_,n]
 .rcases g y b with z|z
  .show absurd e z
  .show z
 .rcases k y b with(z|z)|z
  .show absurd e z
  .show .inl z
  .show .inr z
 .rw[c];rcases m y b with(z|z)|z
  .show absurd e z
  .show .inl z
  .show .inr z
section
end
section
end
end L2
namespace LB
open PySem PyProof.Rows
section
variable{prog:y1}{w:F7}{A:J0}{E:fx->hW->Prop}{s:hW}{κ:KeyKind}{st:Ms}
def jP(c:κ.OneLt)(hk:kindOf st=JP)(d:κ.keyOf x.1=b6 a)(e:κ.keyOf y.1=b6 b)(h:Q (b6 (κ.blt a b)) st):wpS (j0 prog w) A E s (lt' x y) Q st:=by
 rw[lt'_eq];show hQ (Pw ?_);rw[hk,keyLt'_oneType];show hQ (wpS_lift (wpAny_attempt (c prog w A _ s x.1 y.1 a b d e #[rfl,?_])));show k7 h
def aL(h:a[i]?=b6 x)(b:Q x st):wpS (j0 prog w) A E s (elem' a i) Q st:=by
 rw[elem'_eq,h];show k7 b
abbrev nh:Bool->KI->Array KI->Nat->Nat->Nat->StateT Ms Sem (Option Nat):=sortPriv% PySem.Builtin.gallop
def yA(c:κ.OneLt)(hk:kindOf st=JP)(d:κ.keyOf key.1=b6 k)(e:b[j]?=b6 x)(xa:κ.keyOf x.1=b6 a)
  (h:Q (b6 (if left=cb then κ.blt a k else !κ.blt k a)) st):wpS (j0 prog w) A E s (do let x <-elem' b j;if left=cb then lt' x key else do let r <-lt' key x;pure (r.map (!·))) Q st:=by
 show hQ (aL e ?_);cases left with
 |true=>show jP c hk xa d h
 |false=>show hQ (jP c hk d xa (k7 h))
def kb(Y:κ.OneLt){b:Nat->Bool}(hk:kindOf st=JP)(ka:κ.keyOf key.1=b6 k)
  (hx:∀i,i<n->∃x a,D[base+i]?=b6 x/\κ.keyOf x.1=b6 a/\b i=if left=cb then κ.blt a k else !κ.blt k a) (e:∀i j,i<=j->j<n->b j=cb->b i=cb) (hh:d<n)
  (h:∀r,r<=n->(∀i,i<r->b i=cb)->(∀i,r<=i->i<n->b i=dV)->Q (b6 r) st):wpS (j0 prog w) A E s (nh left key D base n d) Q st:=by
 have G:∀(i:Nat) {Q':Option Bool->Ms->Prop},i<n->Q' (b6 (b i)) st->wpS (j0 prog w) A E s (do let x <-elem' D (base+i);if left=cb then lt' x key else do let r <-lt' key x;pure (r.map (!·))) Q' st:=λi Q' hi O=>by
  have(x,a,e1,e2,e3):=hx i hi;rw[e3]at O;show yA Y hk ka e1 e2 O
 have H:∀i j,i<=j->j<n->b i=dV->b j=dV:=λi j FP hj z=>by
  cases hb:b j with
  |false=>rfl
  |true=>rw[e i j FP hj hb]at z;cases z
 show hQ (G d hh ?_);cases T:b d with
 |true =>
  dsimp only
  rw[Zx rfl];show hQ (K6 (FG (I:=λx c st'=>st=st'/\∃l o,c=(b7,l,o)/\l<o/\d+l<n/\b (d+l)=cb/\x+1<=o)
   (Q:=λc st'=>st=st'/\∃l o,c=(b7,l,o)/\l<o/\d+l<n/\b (d+l)=cb/\(n - d<=o\/(d+o<n/\b (d+o)=dV))) ?Jc ?Jd ⟨rfl,0,1,rfl,⋯,⋯,T,⋯⟩) ?JW)
  case Jd =>
   rintro c st' ⟨rfl,l,o,rfl,p,h2,f,q⟩;show#[rfl,l,o,rfl,p,h2,f,.inl ⋯]
  case Jc =>
   rintro x c st' _ J ⟨rfl,l,o,rfl,p,h2,f,q⟩
   dsimp only
   by_cases g:o >= n - d
   .rw[Zx g];show k7 #[rfl,l,o,rfl,p,h2,f,.inl g]
   .rw[Zy g];show hQ (G (d+o) ⋯ ?_);cases t:b (d+o) with
    |false=>show k7 #[rfl,l,o,rfl,p,h2,f,.inr #[⋯,t]]
    |true=>show k7 #[rfl,o,2 * o+1,rfl,⋯,⋯,t,⋯]
  case JW =>
   rintro c st' ⟨rfl,l,o,rfl,p,h2,f,q⟩
   dsimp only
   show hQ (K6 (FG (I:=λx c st'=>st=st'/\∃lo hi,c=(b7,lo,hi)/\lo<=hi/\hi<=n/\hi - lo<=n - x/\(∀i,i<lo->b i=cb)/\∀i,hi<=i->i<n->b i=dV)
    (Q:=λc st'=>st=st'/\∃hi,c=(b7,hi,hi)/\hi<=n/\(∀i,i<hi->b i=cb)/\∀i,hi<=i->i<n->b i=dV) ?Gm ?Hf ⟨rfl,d+l+1,d+min o (n - d),rfl,⋯,⋯,⋯,λi hi=>e i (d+l) ⋯ h2 f,λi hi L=>?_⟩) ?Gn)
   case Gn =>
    rintro c st' ⟨rfl,hi,rfl,y,m,B⟩;show k7 (h hi y m B)
   case Hf =>
    rintro c st' ⟨rfl,lo,hi,rfl,y,m,B,u,v⟩;have:lo=hi:=by lia
    subst this;show#[rfl,lo,rfl,m,u,v]
   case Gm =>
    rintro x c st' _ J ⟨rfl,lo,hi,rfl,y,m,B,u,v⟩
    dsimp only
    by_cases g:lo >= hi
    .rw[Zx g];have:lo=hi:=by lia
     subst this;show k7 #[rfl,lo,rfl,m,u,v]
    .rw[Zy g];show hQ (G (lo+(hi - lo) / 2) ⋯ ?_);cases t:b (lo+(hi - lo) / 2) with
     |true=>show k7 #[rfl,_,hi,rfl,⋯,m,⋯,λi HP=>e i _ ⋯ ⋯ t,v]
     |false=>show k7 #[rfl,lo,_,rfl,⋯,⋯,⋯,u,λi C N=>H _ i C N t]
   .rcases q with q|⟨q,C⟩
    .lia
    .show H (d+o) i ⋯ L C
 |false =>
  dsimp only
  rw[Zy o6];show hQ (K6 (FG (I:=λx c st'=>st=st'/\∃l o,c=(b7,l,o)/\l<o/\l<=d/\b (d - l)=dV/\x+1<=o)
   (Q:=λc st'=>st=st'/\∃l o,c=(b7,l,o)/\l<o/\l<=d/\b (d - l)=dV/\(d+1<=o\/(o<=d/\b (d - o)=cb))) ?O0 ?O1 ⟨rfl,0,1,rfl,⋯,⋯,T,⋯⟩) ?O2)
  case O1 =>
   rintro c st' ⟨rfl,l,o,rfl,p,h2,f,q⟩;show#[rfl,l,o,rfl,p,h2,f,.inl ⋯]
  case O0 =>
   rintro x c st' _ J ⟨rfl,l,o,rfl,p,h2,f,q⟩
   dsimp only
   by_cases g:o >= d+1
   .rw[Zx g];show k7 #[rfl,l,o,rfl,p,h2,f,.inl g]
   .rw[Zy g];show hQ (G (d - o) ⋯ ?_);cases t:b (d - o) with
    |true=>show k7 #[rfl,l,o,rfl,p,h2,f,.inr #[⋯,t]]
    |false=>show k7 #[rfl,o,2 * o+1,rfl,⋯,⋯,t,⋯]
  case O2 =>
   rintro c st' ⟨rfl,l,o,rfl,p,h2,f,q⟩
   dsimp only
   show hQ (K6 (FG (I:=λx c st'=>st=st'/\∃lo hi,c=(b7,lo,hi)/\lo<=hi/\hi<=n/\hi - lo<=n - x/\(∀i,i<lo->b i=cb)/\∀i,hi<=i->i<n->b i=dV)
    (Q:=λc st'=>st=st'/\∃hi,c=(b7,hi,hi)/\hi<=n/\(∀i,i<hi->b i=cb)/\∀i,hi<=i->i<n->b i=dV) ?K0 ?ME ⟨rfl,d+1 - min o (d+1),d - l,rfl,⋯,⋯,⋯,λi hi=>?_,λi hi L=>H (d - l) i ⋯ L f⟩) ?K1)
   case K1 =>
    rintro c st' ⟨rfl,hi,rfl,y,m,B⟩;show k7 (h hi y m B)
   case ME =>
    rintro c st' ⟨rfl,lo,hi,rfl,y,m,B,u,v⟩;have:lo=hi:=by lia
    subst this;show#[rfl,lo,rfl,m,u,v]
   case K0 =>
    rintro x c st' _ J ⟨rfl,lo,hi,rfl,y,m,B,u,v⟩
    dsimp only
    by_cases g:lo >= hi
    .rw[Zx g];have:lo=hi:=by lia
     subst this;show k7 #[rfl,lo,rfl,m,u,v]
    .rw[Zy g];show hQ (G (lo+(hi - lo) / 2) ⋯ ?_);cases t:b (lo+(hi - lo) / 2) with
     |true=>show k7 #[rfl,_,hi,rfl,⋯,m,⋯,λi HP=>e i _ ⋯ ⋯ t,v]
     |false=>show k7 #[rfl,lo,_,rfl,⋯,⋯,⋯,u,λi C N=>H _ i C N t]
   .rcases q with q|⟨q,C⟩
    .lia
    .show e i (d - o) ⋯ ⋯ C
end
abbrev kk(κ:KeyKind)(x:KI):κ.α:=(κ.keyOf x.1).getD κ.dflt
abbrev kl(κ:KeyKind)(x y:KI):Prop:=κ.kle (kk κ x) (kk κ y)
def dF(h:KeysOf κ xs){i:Nat}(e:xs[i]?=b6 x):κ.keyOf x.1=b6 (kk κ x):=by
 have(a,z):=h x (Array.mem_toList_iff.mpr (Array.mem_of_getElem? e));unfold kk;rw[z];rfl
section
variable{κ:KeyKind}{a b out:Array KI}{ia ib:Nat}{x:KI}
def bE(h:kl κ x y)(h':kl κ y z):kl κ x z:=IT h h'
def dG(h:a[ia]?=b6 x):a.toList.drop ia=x::a.toList.drop (ia+1):=by
 rw[qs]at h;have(hl,rfl):=h;rw[<-Array.getElem_toList];show IS (by simpa using hl)
def ie(h:a[ia]?=b6 x):a.toList.take (ia+1)=a.toList.take ia++[x]:=by
 rw[MV,tj,h];rfl
def c9(d:a.toList.Pairwise (kl κ))(h:a[ia]?=b6 x):∀y∈a.toList.drop ia,kl κ x y:=by
 have c:=YV (MY ia a.toList) d;rw[dG h]at c ⊢;intro y hy;rcases i1.mp hy with rfl|hy
 .show F9 _
 .show(HD.mp c).1 y hy
structure Mg(κ:KeyKind)(a b out:Array KI)(ia ib:Nat):Prop where
 pm:out.toList.Perm (a.toList.take ia++b.toList.take ib)
 so:out.toList.Pairwise (kl κ)
 oa:∀x∈out.toList,∀y∈a.toList.drop ia,kl κ x y
 ob:∀x∈out.toList,∀y∈b.toList.drop ib,kl κ x y
abbrev Fi(κ:KeyKind)(a b r:Array KI):Prop:=r.toList.Perm (a.toList++b.toList)/\r.toList.Pairwise (kl κ)
def ig{l:List KI}(h:y∈l.drop (i+1)):y∈l.drop i:=by
 rw[<-Yk]at h;show Lw h
def Mg.js(m:Mg κ a b out ia ib)(d:b.toList.Pairwise (kl κ))(h:b[ib]?=b6 x)(e:∀y∈a.toList.drop ia,kl κ x y):Mg κ a b (out.push x) ia (ib+1):=by
 have hd:=dG h;show#[?_,?_,λz hz y c=>?_,λz hz y c=>?_]
 .rw[ri,ie h,<-ro];show m.pm.append_right _
 .rw[ri,rd];show#[m.so,by simp,λz hz y c=>by rw[mf.mp c];show m.ob z hz x (by rw[hd];simp)]
 .rw[ri]at hz;rcases mx.mp hz with hz|hz
  .show m.oa z hz y c
  .rw[mf.mp hz];show e y c
 .rw[ri]at hz;rcases mx.mp hz with hz|hz
  .show m.ob z hz y (ig c)
  .rw[mf.mp hz];show c9 d h y (ig c)
def Mg.jt(m:Mg κ a b out ia ib)(d:a.toList.Pairwise (kl κ))(h:a[ia]?=b6 x)(e:∀y∈b.toList.drop ib,kl κ x y):Mg κ a b (out.push x) (ia+1) ib:=by
 have hd:=dG h;show#[?_,?_,λz hz y c=>?_,λz hz y c=>?_]
 .rw[ri,ie h];show(m.pm.append_right _).trans ?_;rw[ro,ro];show MQ.append_left _
 .rw[ri,rd];show#[m.so,by simp,λz hz y c=>by rw[mf.mp c];show m.oa z hz x (by rw[hd];simp)]
 .rw[ri]at hz;rcases mx.mp hz with hz|hz
  .show m.oa z hz y (ig c)
  .rw[mf.mp hz];show c9 d h y (ig c)
 .rw[ri]at hz;rcases mx.mp hz with hz|hz
  .show m.ob z hz y c
  .rw[mf.mp hz];show e y c
def oU(h:a[ia+k]?=b6 x):out++a.extract ia (ia+(k+1))=(out++a.extract ia (ia+k)).push x:=by
 apply KO.mp;simp only[vl,ri,GS,C1,Ol,ro];rw[MV,G2,tj,h];rfl
def oV:out++a.extract ia (ia+0)=out:=by
 apply KO.mp;simp[GS,C1]
theorem Mg.vK(m:Mg κ a b out ia ib)(c:a.toList.Pairwise (kl κ)):∀k,ia+k<=a.size->(∀i x,i<k->a[ia+i]?=b6 x->∀y∈b.toList.drop ib,kl κ x y)->Mg κ a b (out++a.extract ia (ia+k)) (ia+k) ib
 |0,_,_=>by rw[oV];show m
 |k+1,hk,h=>by
  have e:a[ia+k]?=b6 a[ia+k]:=hY ⋯;rw[oU e];show(Mg.vK m c k ⋯ λi x hi=>h i x ⋯).jt c e (h k _ ⋯ e)
theorem Mg.vL(m:Mg κ a b out ia ib)(c:b.toList.Pairwise (kl κ)):∀k,ib+k<=b.size->(∀i x,i<k->b[ib+i]?=b6 x->∀y∈a.toList.drop ia,kl κ x y)->Mg κ a b (out++b.extract ib (ib+k)) ia (ib+k)
 |0,_,_=>by rw[oV];show m
 |k+1,hk,h=>by
  have e:b[ib+k]?=b6 b[ib+k]:=hY ⋯;rw[oU e];show(Mg.vL m c k ⋯ λi x hi=>h i x ⋯).js c e (h k _ ⋯ e)
def fU:(a.extract ia).toList=a.toList.drop ia:=by
 simp[GS,C1];rw[y4 (by simp)]
def Mg.lZ(m:Mg κ a b out ia ib)(c:a.toList.Pairwise (kl κ))(h:ib=b.size):Fi κ a b (out++a.extract ia++b.extract ib):=by
 have e:(out++a.extract ia++b.extract ib).toList=out.toList++a.toList.drop ia:=by
  rw[vl,vl,fU,fU,h,<-mu,QD,G5]
 unfold Fi;rw[e];show#[?_,rd.mpr #[m.so,c.sublist (MY _ _),m.oa]];have z:=m.pm;rw[h,<-mu,XS]at z;show(z.append_right _).trans ?_;rw[ro];show(MQ.append_left _).trans ?_;rw[<-ro,A1]
def Mg.l0(m:Mg κ a b out ia ib)(c:b.toList.Pairwise (kl κ))(h:ia=a.size):Fi κ a b (out++a.extract ia++b.extract ib):=by
 have e:(out++a.extract ia++b.extract ib).toList=out.toList++b.toList.drop ib:=by
  rw[vl,vl,fU,fU,h,<-mu,QD,G5]
 unfold Fi;rw[e];show#[?_,rd.mpr #[m.so,c.sublist (MY _ _),m.ob]];have z:=m.pm;rw[h,<-mu,XS]at z;show(z.append_right _).trans ?_;rw[ro,A1]
def Mg.sg(m:Mg κ a b out ia ib)(c:b.toList.Pairwise (kl κ))(h:a[ia]?=b6 x)(hl:ia+1=a.size)(d:∀y∈b.toList,kl κ y x):Fi κ a b (out++b.extract ib++a.extract ia):=by
 have hd:a.toList.drop ia=[x]:=by rw[dG h,Rc (by simp;lia)]
 have e:(out++b.extract ib++a.extract ia).toList=out.toList++b.toList.drop ib++[x]:=by
  rw[vl,vl,fU,fU,hd]
 unfold Fi;rw[e];constructor
 .show((m.pm.append_right _).append_right _).trans ?_;have:a.toList=a.toList.take ia++[x]:=by rw[<-hd,A1]
  rw[ro (a.toList.take ia),A1]
  conv=>rhs;rw[this]
  rw[ro,ro];show MQ.append_left _
 .rw[rd,rd];show#[#[m.so,c.sublist (MY _ _),m.ob],by simp,λz hz y f=>?_];rw[mf.mp f];rcases mx.mp hz with hz|hz
  .show m.oa z hz x (by rw[hd];simp)
  .show d z (Lw hz)
end
section
variable{prog:y1}{w:F7}{A:J0}{E:fx->hW->Prop}{s:hW}{κ:KeyKind}{st:Ms}{a b:Array KI}
structure Sg(st st':Ms):Prop where
 k:kindOf st'=kindOf st
 a:i5 st'=i5 st
 p:tp st'=tp st
 f:Nh st'=Nh st
abbrev lG:Nat->StateT Ms Sem Unit:=sortPriv% PySem.Builtin.setMinGallop
def ei(hs:Sg st0 st)(h:∀st',Sg st0 st'->Q () st'):wpS (j0 prog w) A E s (lG g) Q st :=
 N' (h _ #[hs.k,hs.a,hs.p,hs.f])
def cO(h:Q () st):wpS (j0 prog w) A E s (liftM (Yp t)) Q st:=wpS_lift (KJ #[rfl,h])
def cG(d:a.toList.Pairwise (kl κ)){i j:Nat}(hi:a[i]?=b6 x)(c:a[j]?=b6 y)(e:i<=j):kl κ x y:=by
 show c9 d hi y ?_;rw[Wn];rw[qs]at c;have(hl,rfl):=c;show#[j - i,by simp;lia,by simp[show i+(j - i)=j by lia]]
def kf(h:y∈a.toList.drop i):∃j,i<=j/\a[j]?=b6 y:=by
 rw[Wn]at h;have(j,c,rfl):=h;show#[i+j,⋯,by simp at c ⊢]
def qB(g:κ.OneLt)(hk:kindOf st=JP)(k:κ.keyOf key.1=b6 (kk κ key))(l:KeysOf κ a)(m:∀i j x y,base<=i->i<=j->j<base+n->a[i]?=b6 x->a[j]?=b6 y->kl κ x y)(v:base+n<=a.size)(o:c<n)
  (h:∀r,r<=n->(∀i x,i<r->a[base+i]?=b6 x->kl κ x key)->(∀i x,r<=i->i<n->a[base+i]?=b6 x->κ.blt (kk κ key) (kk κ x)=cb)->Q (b6 r) st):wpS (j0 prog w) A E s (nh dV key a base n c) Q st:=by
 show kb g (b:=λi=>!κ.blt (kk κ key) (KK κ a (base+i))) hk k (λi hi=>?_) (λi j B C z=>?_) o λr p h2 q=>h r p (λi x hi e=>?_) λi x t u e=>?_
 .have e:a[base+i]?=b6 a[base+i]:=hY ⋯;show#[_,_,e,dF l e,?_];change(!κ.blt (kk κ key) (KK κ a (base+i)))=_;unfold KK;rw[e];rfl
 .have d:a[base+i]?=b6 a[base+i]:=hY ⋯;have f:a[base+j]?=b6 a[base+j]:=hY ⋯;have s1:=m (base+i) (base+j) _ _ ⋯ ⋯ ⋯ d f;have z:(!κ.blt (kk κ key) (KK κ a (base+j)))=cb:=z;change(!κ.blt (kk κ key) (KK κ a (base+i)))=cb;unfold KK at z ⊢;rw[f]at z;rw[d];rw[Fx]at z ⊢;show IT s1 z
 .have z:=h2 i hi;have z:(!κ.blt (kk κ key) (KK κ a (base+i)))=cb:=z;unfold KK at z;rw[e,Fx]at z;show z
 .have z:=q i t u;have z:(!κ.blt (kk κ key) (KK κ a (base+i)))=dV:=z;unfold KK at z;rw[e,Bool.not_eq_false']at z;show z
def qC(g:κ.OneLt)(hk:kindOf st=JP)(k:κ.keyOf key.1=b6 (kk κ key))(l:KeysOf κ a)(m:∀i j x y,base<=i->i<=j->j<base+n->a[i]?=b6 x->a[j]?=b6 y->kl κ x y)(v:base+n<=a.size)(o:c<n)
  (h:∀r,r<=n->(∀i x,i<r->a[base+i]?=b6 x->κ.blt (kk κ x) (kk κ key)=cb)->(∀i x,r<=i->i<n->a[base+i]?=b6 x->kl κ key x)->Q (b6 r) st):wpS (j0 prog w) A E s (nh cb key a base n c) Q st:=by
 show kb g (b:=λi=>κ.blt (KK κ a (base+i)) (kk κ key)) hk k (λi hi=>?_) (λi j B C z=>?_) o λr p h2 q=>h r p (λi x hi e=>?_) λi x t u e=>?_
 .have e:a[base+i]?=b6 a[base+i]:=hY ⋯;show#[_,_,e,dF l e,?_];change κ.blt (KK κ a (base+i)) (kk κ key)=_;unfold KK;rw[e];rfl
 .have d:a[base+i]?=b6 a[base+i]:=hY ⋯;have f:a[base+j]?=b6 a[base+j]:=hY ⋯;have s1:=m (base+i) (base+j) _ _ ⋯ ⋯ ⋯ d f;have z:κ.blt (KK κ a (base+j)) (kk κ key)=cb:=z;change κ.blt (KK κ a (base+i)) (kk κ key)=cb;unfold KK at z ⊢;rw[f]at z;rw[d];show KeyOrd.klt_of_kle_of_klt s1 z
 .have z:=h2 i hi;have z:κ.blt (KK κ a (base+i)) (kk κ key)=cb:=z;unfold KK at z;rw[e]at z;show z
 .have z:=q i t u;have z:κ.blt (KK κ a (base+i)) (kk κ key)=dV:=z;unfold KK at z;rw[e]at z;show z
end
section
variable{prog:y1}{w:F7}{A:J0}{E:fx->hW->Prop}{s:hW}{κ:KeyKind}{st:Ms}{a b:Array KI}
abbrev vM:Array KI->Array KI->StateT Ms Sem (Array KI):=sortPriv% PySem.Builtin.mergeLo
def bo{v:α}{f:α->StateT Ms Sem β}{Q:β->Ms->Prop}(h:wpS (j0 prog w) A E s (f v) Q st):wpS (j0 prog w) A E s (have x:=v;f x) Q st:=h
def share{P:α->Prop}{R:Prop}(h:(∀x,P x)->R)(k:∀x,P x):R:=h k
def ni{H P:α->β->Prop}{R:Prop}(h:(∀x y,H x y->P x y)->R)(k:∀x y,H x y->P x y):R:=h k
def oW(hO:κ.OneLt)(hk:kindOf st=JP)(ha:KeysOf κ a)(hb:KeysOf κ b)(B:a.toList.Pairwise (kl κ))(v:b.toList.Pairwise (kl κ))(na:0<a.size)(nb:0<b.size)
  (h0:∀x y,b[0]?=b6 x->a[0]?=b6 y->kl κ x y) (hl:∀x y,a[a.size - 1]?=b6 x->y∈b.toList->kl κ y x) (h:∀r st',Sg st st'->Fi κ a b r->Q r st'):wpS (j0 prog w) A E s (vM a b) Q st:=by
 have ea:∀i,i<a.size->∃x,a[i]?=b6 x:=λi hi=>#[_,hY hi]
 have eb:∀i,i<b.size->∃x,b[i]?=b6 x:=λi hi=>#[_,hY hi]
 have(b0,Ig):=eb 0 nb;have(a0,K2):=ea 0 na;have(al,Ir):=ea (a.size - 1) ⋯;have LU:=λy t=>hl al y Ir t;have Ko:∀{ia:Nat} {x:KI},ia+1=a.size->a[ia]?=b6 x->∀y∈b.toList,kl κ y x:=λ{ia x} e1 e2=>by
  rw[show a.size - 1=ia by lia,e2]at Ir;cases Ir;show LU
 have m0:Mg κ a b #v[b0] 0 1:=by
  have:Mg κ a b #v[] 0 0:=#[by simp,by simp,by simp,by simp]
  show this.js v Ig λy t=>bE (h0 b0 a0 Ig K2) (c9 B K2 y t)
 show hQ (cO ?_);show hQ (aL Ig ?_)
 dsimp -zeta only
 by_cases c1:(1==b.size)=cb
 .rw[Zx c1];show k7 (h _ st #[rfl,rfl,rfl,rfl] (m0.lZ B (by simpa using c1)))
 rw[Zy c1];by_cases c2:(0+1==a.size)=cb
 .rw[Zx c2];have e:0+1=a.size:=by simpa using c2
  show k7 (h _ st #[rfl,rfl,rfl,rfl] (m0.sg v K2 e (Ko e K2)))
 rw[Zy c2];have d1:1<b.size:=by
  have:¬1=b.size:=λz=>c1 (by simp[<-z]);lia
 have d2:0+1<a.size:=by
  have:¬0+1=a.size:=λz=>c2 (by simp[<-z]);lia
 show hQ (Pw ?_);show hQ (K6 (FG (I:=λx c st'=>Sg st st'/\∃out ia N mg,c=(b7,out,ia,N,mg)/\Mg κ a b out ia N/\ia+1<a.size/\N<b.size/\(a.size - ia)+(b.size - N)+x<=a.size+b.size)
  (Q:=λc st'=>Sg st st'/\∃r,c.1=b6 r/\Fi κ a b r) ?Jc ?Jd ⟨⟨rfl,rfl,rfl,rfl⟩,_,_,_,_,rfl,m0,d2,d1,⋯⟩) ?JW)
 case JW =>
  rintro⟨c,c'⟩ st' ⟨hs,r,O,hf⟩;cases O;show k7 (h r st' hs hf)
 case Jd =>
  rintro c st' ⟨hs,out,ia,N,mg,rfl,m,h1,h2,h3⟩;lia
 case Jc =>
  rintro x c st' _ JX ⟨hs,out,ia,N,mg,rfl,m,h1,h2,h3⟩
  dsimp -zeta only
  have FI:kindOf st'=JP:=hs.k.trans hk;show hQ (K6 (FG (I:=λy c u=>st'=u/\∃T g l ac bc,c=(b7,T,g,l,ac,bc)/\Mg κ a b T g l/\g+1<a.size/\l<b.size/\(a.size - g)+(b.size - l)+y=(a.size - ia)+(b.size - N))
   (Q:=λc u=>st'=u/\((∃r,c.1=b6 r/\Fi κ a b r)\/∃T g l ac bc,c=(b7,T,g,l,ac,bc)/\Mg κ a b T g l/\g+1<a.size/\l<b.size/\(a.size - g)+(b.size - l)<(a.size - ia)+(b.size - N))) ?Gm ?Hf ⟨rfl,out,ia,N,0,0,rfl,m,h1,h2,⋯⟩) ?Gn)
  case Hf =>
   rintro c u ⟨rfl,T,g,l,ac,bc,rfl,m',g1,g2,g3⟩;lia
  case Gm =>
   rintro y c u _ O3 ⟨rfl,T,g,l,ac,bc,rfl,m',g1,g2,g3⟩
   dsimp only
   have(bx,C):=eb l g2;have(ax,D):=ea g ⋯;show hQ (aL C ?_);show hQ (aL D ?_);show hQ (jP hO FI (dF hb C) (dF ha D) ?_);cases hw:κ.blt (kk κ bx) (kk κ ax) with
   |true =>
    dsimp only
    rw[Zx rfl];show hQ (aL C ?_);have m2:=m'.js v C λy t=>bE (wh hw) (c9 B D y t);by_cases p:(l+1==b.size)=cb
    .rw[Zx p];show k7 #[rfl,.inl #[_,rfl,m2.lZ B (by simpa using p)]]
    rw[Zy p];have p:¬l+1=b.size:=λz=>p (by simp[z]);by_cases G:bc+1 >= mg
    .rw[Zx G];show k7 #[rfl,.inr #[_,_,_,_,_,rfl,m2,g1,⋯,⋯]]
    .rw[Zy G];show k7 #[rfl,_,_,_,_,_,rfl,m2,g1,⋯,⋯]
   |false =>
    dsimp only
    rw[Zy o6];show hQ (aL D ?_);have m2:=m'.jt B D λy t=>bE (show kl κ ax bx from hw) (c9 v C y t);by_cases p:(g+1+1==a.size)=cb
    .rw[Zx p];have e:g+1+1=a.size:=by simpa using p
     have(ay,Kp):=ea (g+1) ⋯;show k7 #[rfl,.inl #[_,rfl,m2.sg v Kp e (Ko e Kp)]]
    rw[Zy p];have p:¬g+1+1=a.size:=λz=>p (by simp[z]);by_cases G:ac+1 >= mg
    .rw[Zx G];show k7 #[rfl,.inr #[_,_,_,_,_,rfl,m2,⋯,g2,⋯]]
    .rw[Zy G];show k7 #[rfl,_,_,_,_,_,rfl,m2,⋯,g2,⋯]
  case Gn =>
   rintro c u ⟨rfl,O⟩;rcases O with⟨r,O,hf⟩|⟨T,g,l,ac,bc,rfl,m',g1,g2,g3⟩
   .have(c,c'):=c;cases O;show k7 #[hs,r,rfl,hf]
   dsimp -zeta only
   show hQ (cO ?_);show hQ (K6 (FG (I:=λy c u=>Sg st u/\∃J d f Y Iu Iv,c=(b7,J,d,f,Y,Iu,Iv)/\Mg κ a b J d f/\d+1<a.size/\f<b.size/\(a.size - d)+(b.size - f)<=(a.size - g)+(b.size - l))
    (Q:=λc u=>Sg st u/\((∃r,c.1=b6 r/\Fi κ a b r)\/∃J d f Y Iu Iv,c=(b7,J,d,f,Y,Iu,Iv)/\Mg κ a b J d f/\d+1<a.size/\f<b.size/\(a.size - d)+(b.size - f)<=(a.size - g)+(b.size - l))) ?Je ?K3 ⟨hs,T,g,l,_,_,_,rfl,m',g1,g2,⋯⟩) ?Jf)
   case K3 =>
    rintro c u ⟨hs,J,d,f,Y,Iu,Iv,rfl,m2,k1,k2,k3⟩;show#[hs,.inr #[_,_,_,_,_,_,rfl,m2,k1,k2,k3]]
   case Jf =>
    rintro c u ⟨G1,O⟩;rcases O with⟨r,O,hf⟩|⟨J,d,f,Y,Iu,Iv,rfl,m2,k1,k2,k3⟩
    .have(c,c'):=c;cases O;show k7 #[G1,r,rfl,hf]
    .dsimp only
     show hQ (ei G1 λst3 L=>?_);show k7 #[L,_,_,_,_,rfl,m2,k1,k2,⋯]
   case Je =>
    rintro y c u _ O3 ⟨G1,J,d,f,Y,Iu,Iv,rfl,m2,k1,k2,k3⟩
    dsimp -zeta only
    show bo ?_
    dsimp -zeta only
    apply share (α:=Nat)
    .intro key;by_cases cm:Y>1
     .rw[Zx cm];generalize Y - 1=MF;show key MF
     .rw[Zy cm];show key Y
    intro MF;show hQ (ei G1 λst3 L=>?_);have MG:kindOf st3=JP:=L.k.trans hk;have(bx,C):=eb f k2;show hQ (aL C ?_);show hQ (qB hO MG (dF hb C) ha (λi j x y _ FP _ e1 e2=>cG B e1 e2 FP) ⋯ ⋯ λk p1 p2 p3=>?_)
    dsimp -zeta only
    show bo ?_
    dsimp -zeta only
    apply ni (H:=λo n=>Mg κ a b o n f/\n+1<a.size/\d<=n/\∀y∈a.toList.drop n,kl κ bx y)
    .intro key;have JJ:∀y∈a.toList.drop (d+k),kl κ bx y:=λy t=>by
      have(j,hj,ej):=kf t;have Hx:=(qs.mp ej).1;show wh (p3 (j - d) y ⋯ ⋯ ?_);rw[show d+(j - d)=j by lia];show ej
     by_cases ck:k>0
     .rw[Zx ck];show bo ?_
      try dsimp -zeta only
      have m3:=m2.vK B k ⋯ λi x hi e y t=>bE (p2 i x hi e) (c9 v C y t);by_cases p:(d+k+1==a.size)=cb
      .rw[Zx p];have e:d+k+1=a.size:=by simpa using p
       have(ay,Kp):=ea (d+k) ⋯;show k7 #[L,.inl #[_,rfl,m3.sg v Kp e (Ko e Kp)]]
      rw[Zy p];have p:¬d+k+1=a.size:=λz=>p (by simp[z]);by_cases G:(d+k==a.size)=cb
      .rw[Zx G];show k7 #[L,.inl #[_,rfl,m3.l0 v (by simpa using G)]]
      rw[Zy G];have G:¬d+k=a.size:=λz=>G (by simp[z]);generalize J++a.extract d (d+k)=o at m3 ⊢;have q:Mg κ a b o (d+k) f/\d+k+1<a.size/\d<=d+k/\∀y∈a.toList.drop (d+k),kl κ bx y:=#[m3,⋯,⋯,JJ]
      generalize d+k=n at q ⊢;show key o n q
     .rw[Zy ck];rw[show d+k=d by lia]at JJ;show key J d #[m2,k1,g0 _,JJ]
    intro o n ⟨m3,n1,n2,JJ⟩;show hQ (aL C ?_);show bo ?_
    try dsimp -zeta only
    have m4:=m3.js v C JJ;by_cases c5:(f+1==b.size)=cb
    .rw[Zx c5];show k7 #[L,.inl #[_,rfl,m4.lZ B (by simpa using c5)]]
    rw[Zy c5];have c5:¬f+1=b.size:=λz=>c5 (by simp[z]);have(ax,D):=ea n ⋯;show hQ (aL D ?_);show hQ (qC hO MG (dF ha D) hb (λi j x y _ FP _ e1 e2=>cG v e1 e2 FP) ⋯ ⋯ λk' q1 q2 q3=>?_)
    dsimp -zeta only
    show bo ?_
    dsimp -zeta only
    generalize o.push bx=o' at m4 ⊢;apply ni (H:=λo m=>Mg κ a b o n m/\m<b.size/\f<=m/\∀y∈b.toList.drop m,kl κ ax y)
    .intro key;have Ih:∀y∈b.toList.drop (f+1+k'),kl κ ax y:=λy t=>by
      have(j,hj,ej):=kf t;have Hx:=(qs.mp ej).1;show q3 (j - (f+1)) y ⋯ ⋯ ?_;rw[show f+1+(j - (f+1))=j by lia];show ej
     by_cases MH:k'>0
     .rw[Zx MH];show bo ?_
      try dsimp -zeta only
      have m5:=m4.vL v k' ⋯ λi x hi e y t=>bE (wh (q2 i x hi e)) (c9 B D y t);by_cases c6:(f+1+k'==b.size)=cb
      .rw[Zx c6];show k7 #[L,.inl #[_,rfl,m5.lZ B (by simpa using c6)]]
      rw[Zy c6];have c6:¬f+1+k'=b.size:=λz=>c6 (by simp[z]);generalize o'++b.extract (f+1) (f+1+k')=o2 at m5 ⊢;have q:Mg κ a b o2 n (f+1+k')/\f+1+k'<b.size/\f<=f+1+k'/\∀y∈b.toList.drop (f+1+k'),kl κ ax y:=#[m5,⋯,⋯,Ih]
      generalize f+1+k'=m at q ⊢;show key o2 m q
     .rw[Zy MH];rw[show f+1+k'=f+1 by lia]at Ih;show key o' _ #[m4,⋯,⋯,Ih]
    intro o2 m ⟨m5,u1,u2,Ih⟩;show hQ (aL D ?_);show bo ?_
    try dsimp -zeta only
    have m6:=m5.jt B D Ih;by_cases c7:(n+1+1==a.size)=cb
    .rw[Zx c7];have e:n+1+1=a.size:=by simpa using c7
     have(ay,Kp):=ea (n+1) ⋯;show k7 #[L,.inl #[_,rfl,m6.sg v Kp e (Ko e Kp)]]
    rw[Zy c7];have c7:¬n+1+1=a.size:=λz=>c7 (by simp[z]);split
    .show k7 #[L,.inr #[_,_,_,_,_,_,rfl,m6,⋯,u1,⋯]]
    .show k7 #[L,_,_,_,_,_,_,rfl,m6,⋯,u1,⋯]
end
section
variable{κ:KeyKind}{a b out:Array KI}{na nb i:Nat}{x:KI}
def fV(d:a.toList.Pairwise (kl κ))(h:a[i]?=b6 x):∀y∈a.toList.take (i+1),kl κ y x:=λy c=>by
 rw[Wm]at c;have(j,e,rfl):=c;have:j<a.size:=by simp at e;lia
 show cG (i:=j) d (by simp) h ⋯
structure Mh(κ:KeyKind)(a b out:Array KI)(na nb:Nat):Prop where
 pm:out.toList.Perm (a.toList.drop na++b.toList.drop nb)
 so:out.toList.Pairwise (λx y=>kl κ y x)
 oa:∀x∈out.toList,∀y∈a.toList.take na,kl κ y x
 ob:∀x∈out.toList,∀y∈b.toList.take nb,kl κ y x
def ij{l:List KI}(h:y∈l.take i):y∈l.take (i+1):=by
 have:l.take i=(l.take (i+1)).take i:=by rw[List.take_take];congr 1;lia
 rw[this]at h;show pM h
def Mh.jt(m:Mh κ a b out (i+1) nb)(d:a.toList.Pairwise (kl κ))(h:a[i]?=b6 x)(e:∀y∈b.toList.take nb,kl κ y x):Mh κ a b (out.push x) i nb:=by
 have f:=ie h;show#[?_,?_,λz hz y c=>?_,λz hz y c=>?_]
 .rw[ri,dG h,List.cons_append];show V4 x _ |>.trans (m.pm.cons x)
 .rw[ri,rd];show#[m.so,by simp,λz hz y c=>by rw[mf.mp c];show m.oa z hz x (by rw[f];simp)]
 .rw[ri]at hz;rcases mx.mp hz with hz|hz
  .show m.oa z hz y (ij c)
  .rw[mf.mp hz];show fV d h y (ij c)
 .rw[ri]at hz;rcases mx.mp hz with hz|hz
  .show m.ob z hz y c
  .rw[mf.mp hz];show e y c
def Mh.js(m:Mh κ a b out na (i+1))(d:b.toList.Pairwise (kl κ))(h:b[i]?=b6 x)(e:∀y∈a.toList.take na,kl κ y x):Mh κ a b (out.push x) na i:=by
 have f:=ie h;show#[?_,?_,λz hz y c=>?_,λz hz y c=>?_]
 .rw[ri,dG h];show(V4 x _).trans ((m.pm.cons x).trans XT.symm)
 .rw[ri,rd];show#[m.so,by simp,λz hz y c=>by rw[mf.mp c];show m.ob z hz x (by rw[f];simp)]
 .rw[ri]at hz;rcases mx.mp hz with hz|hz
  .show m.oa z hz y c
  .rw[mf.mp hz];show e y c
 .rw[ri]at hz;rcases mx.mp hz with hz|hz
  .show m.ob z hz y (ij c)
  .rw[mf.mp hz];show fV d h y (ij c)
def oX(c:j<n)(h:a[j]?=b6 x):out++(a.extract j n).reverse=(out++(a.extract (j+1) n).reverse).push x:=by
 apply KO.mp;simp only[vl,ri,PC,GS,C1,ro];rw[dG h,show n - j=(n - (j+1))+1 by lia,Xi,List.reverse_cons]
def oY:out++(a.extract n n).reverse=out:=by
 apply KO.mp;simp[GS,C1]
theorem Mh.vK(m:Mh κ a b out na nb)(c:a.toList.Pairwise (kl κ))(f:na<=a.size):∀k,k<=na->(∀j x,na - k<=j->j<na->a[j]?=b6 x->∀y∈b.toList.take nb,kl κ y x)->Mh κ a b (out++(a.extract (na - k) na).reverse) (na - k) nb
 |0,_,_=>by rw[WX,oY];show m
 |k+1,hk,h=>by
  have e:a[na - (k+1)]?=b6 a[na - (k+1)]:=hY ⋯;have d:=Mh.vK m c f k ⋯ λj x g=>h j x ⋯;rw[oX ⋯ e,show na - (k+1)+1=na - k by lia];rw[show na - k=na - (k+1)+1 by lia]at d ⊢;show d.jt c e (h _ _ (g0 _) ⋯ e)
theorem Mh.vL(m:Mh κ a b out na nb)(c:b.toList.Pairwise (kl κ))(f:nb<=b.size):∀k,k<=nb->(∀j x,nb - k<=j->j<nb->b[j]?=b6 x->∀y∈a.toList.take na,kl κ y x)->Mh κ a b (out++(b.extract (nb - k) nb).reverse) na (nb - k)
 |0,_,_=>by rw[WX,oY];show m
 |k+1,hk,h=>by
  have e:b[nb - (k+1)]?=b6 b[nb - (k+1)]:=hY ⋯;have d:=Mh.vL m c f k ⋯ λj x g=>h j x ⋯;rw[oX ⋯ e,show nb - (k+1)+1=nb - k by lia];rw[show nb - k=nb - (k+1)+1 by lia]at d ⊢;show d.js c e (h _ _ (g0 _) ⋯ e)
def iY:(a.extract 0 n).toList=a.toList.take n:=by
 simp[GS,C1]
def Mh.l0(m:Mh κ a b out na nb)(c:b.toList.Pairwise (kl κ))(h:na=0):Fi κ a b (a.extract 0 na++b.extract 0 nb++out.reverse):=by
 subst h;have e:(a.extract 0 0++b.extract 0 nb++out.reverse).toList=b.toList.take nb++out.toList.reverse:=by
  rw[vl,vl,iY,iY,PC];rfl
 unfold Fi;rw[e];show#[?_,rd.mpr #[c.sublist (Ia _ _),Ro.mpr m.so,λy d z hz=>m.ob z (Qz.mp hz) y d]];show(((TY _).trans m.pm).append_left _).trans ?_;rw[Nt];show(MQ.trans ?_);rw[ro];show List.Perm.append_left _ ?_;show MQ.trans (by rw[A1])
def Mh.lZ(m:Mh κ a b out na nb)(c:a.toList.Pairwise (kl κ))(h:nb=0):Fi κ a b (a.extract 0 na++b.extract 0 nb++out.reverse):=by
 subst h;have e:(a.extract 0 na++b.extract 0 0++out.reverse).toList=a.toList.take na++out.toList.reverse:=by
  rw[vl,vl,iY,iY,PC];simp
 unfold Fi;rw[e];show#[?_,rd.mpr #[c.sublist (Ia _ _),Ro.mpr m.so,λy d z hz=>m.oa z (Qz.mp hz) y d]];show(((TY _).trans m.pm).append_left _).trans ?_;rw[Nt,<-ro,A1]
def Mh.nj(m:Mh κ a b out na nb)(d:a.toList.Pairwise (kl κ))(h:b[0]?=b6 x)(hl:nb=1)(f:∀y∈a.toList,kl κ x y):Fi κ a b (b.extract 0 nb++a.extract 0 na++out.reverse):=by
 subst hl;have c:b.toList.take 1=[x]:=by rw[ie h];rfl
 have e:(b.extract 0 1++a.extract 0 na++out.reverse).toList=x::(a.toList.take na++out.toList.reverse):=by
  rw[vl,vl,iY,iY,PC,c];rfl
 unfold Fi;rw[e];constructor
 .show((((TY _).trans m.pm).append_left _).cons x).trans ?_;have:b.toList=x::b.toList.drop 1:=by rw[<-dG (ia:=0) h];rfl
  conv=>rhs;rw[this]
  rw[<-ro,A1];show XT.symm
 .rw[HD];show#[λy hy=>?_,rd.mpr #[d.sublist (Ia _ _),Ro.mpr m.so,λy hy z hz=>m.oa z (Qz.mp hz) y hy]];rcases mx.mp hy with hy|hy
  .show f y (pM hy)
  .show m.ob y (Qz.mp hy) x (by rw[c];simp)
end
section
variable{prog:y1}{w:F7}{A:J0}{E:fx->hW->Prop}{s:hW}{κ:KeyKind}{st:Ms}{a b:Array KI}
abbrev vN:Array KI->Array KI->StateT Ms Sem (Array KI):=sortPriv% PySem.Builtin.mergeHi
def il(h:y∈a.toList.take i):∃j,j<i/\a[j]?=b6 y:=by
 rw[Wm]at h;have(j,c,rfl):=h;show#[j,⋯,by simp at c ⊢]
def oZ(hO:κ.OneLt)(hk:kindOf st=JP)(ha:KeysOf κ a)(hb:KeysOf κ b)(u:a.toList.Pairwise (kl κ))(G:b.toList.Pairwise (kl κ))(za:0<a.size)(zb:0<b.size)
  (h0:∀x y,b[0]?=b6 x->a[0]?=b6 y->kl κ x y) (hl:∀x y,a[a.size - 1]?=b6 x->y∈b.toList->kl κ y x) (h:∀r st',Sg st st'->Fi κ a b r->Q r st'):wpS (j0 prog w) A E s (vN a b) Q st:=by
 have ea:∀i,i<a.size->∃x,a[i]?=b6 x:=λi hi=>#[_,hY hi]
 have eb:∀i,i<b.size->∃x,b[i]?=b6 x:=λi hi=>#[_,hY hi]
 have(b0,Ig):=eb 0 zb;have(a0,K2):=ea 0 za;have(al,Ir):=ea (a.size - 1) ⋯;have JK:∀y∈a.toList,kl κ b0 y:=λy t=>bE (h0 b0 a0 Ig K2) (c9 u K2 y t);have m0:Mh κ a b #v[al] (a.size - 1) b.size:=by
  have z:Mh κ a b #v[] (a.size - 1+1) b.size:=#[by simp;lia,by simp,by simp,by simp]
  show z.jt u Ir λy t=>hl al y Ir (pM t)
 show hQ (cO ?_);show hQ (aL Ir ?_)
 dsimp -zeta only
 by_cases c1:(a.size - 1==0)=cb
 .rw[Zx c1];show k7 (h _ st #[rfl,rfl,rfl,rfl] (m0.l0 G (by simpa using c1)))
 rw[Zy c1];by_cases c2:(b.size==1)=cb
 .rw[Zx c2];show k7 (h _ st #[rfl,rfl,rfl,rfl] (m0.nj u Ig (by simpa using c2) JK))
 rw[Zy c2];have d1:1<b.size:=by
  have:¬b.size=1:=λz=>c2 (by simp[z]);lia
 have d2:0<a.size - 1:=by
  have:¬a.size - 1=0:=λz=>c1 (by simp[z]);lia
 show hQ (Pw ?_);show hQ (K6 (FG (I:=λx c st'=>Sg st st'/\∃J L out mg,c=(b7,J,L,out,mg)/\Mh κ a b out J L/\0<J/\1<L/\J<=a.size/\L<=b.size/\J+L+x<=a.size+b.size)
  (Q:=λc st'=>Sg st st'/\∃r,c.1=b6 r/\Fi κ a b r) ?Jc ?Jd ⟨⟨rfl,rfl,rfl,rfl⟩,_,_,_,_,rfl,m0,d2,d1,⋯,⋯,⋯⟩) ?JW)
 case JW =>
  rintro⟨c,c'⟩ st' ⟨hs,r,Y,hf⟩;cases Y;show k7 (h r st' hs hf)
 case Jd =>
  rintro c st' ⟨hs,J,L,out,mg,rfl,m,h1,h2,h3,h4,h5⟩;lia
 case Jc =>
  rintro x c st' _ JX ⟨hs,J,L,out,mg,rfl,m,h1,h2,h3,h4,h5⟩
  dsimp -zeta only
  have FI:kindOf st'=JP:=hs.k.trans hk;show hQ (K6 (FG (I:=λy c v=>st'=v/\∃f g B ac bc,c=(b7,f,g,B,ac,bc)/\Mh κ a b B f g/\0<f/\1<g/\f<=a.size/\g<=b.size/\f+g+y=J+L)
   (Q:=λc v=>st'=v/\((∃r,c.1=b6 r/\Fi κ a b r)\/∃f g B ac bc,c=(b7,f,g,B,ac,bc)/\Mh κ a b B f g/\0<f/\1<g/\f<=a.size/\g<=b.size/\f+g<J+L)) ?Gm ?Hf ⟨rfl,J,L,out,0,0,rfl,m,h1,h2,h3,h4,⋯⟩) ?Gn)
  case Hf =>
   rintro c v ⟨rfl,f,g,B,ac,bc,rfl,m',g1,g2,g3,g4,g5⟩;lia
  case Gm =>
   rintro y c v _ O3 ⟨rfl,f,g,B,ac,bc,rfl,m',g1,g2,g3,g4,g5⟩
   dsimp only
   have(N,C):=eb (g - 1) ⋯;have(ax,D):=ea (f - 1) ⋯;have tb:∀y∈b.toList.take g,kl κ y N:=by rw[show g=g - 1+1 by lia];show fV G C
   have ta:∀y∈a.toList.take f,kl κ y ax:=by rw[show f=f - 1+1 by lia];show fV u D
   show hQ (aL C ?_);show hQ (aL D ?_);show hQ (jP hO FI (dF hb C) (dF ha D) ?_);cases hw:κ.blt (kk κ N) (kk κ ax) with
   |true =>
    dsimp only
    rw[Zx rfl];show hQ (aL D ?_);have m2:Mh κ a b (B.push ax) (f - 1) g:=Mh.jt (by rw[show f - 1+1=f by lia];show m') u D λy t=>bE (tb y t) (wh hw);by_cases p:(f - 1==0)=cb
    .rw[Zx p];show k7 #[rfl,.inl #[_,rfl,m2.l0 G (by simpa using p)]]
    rw[Zy p];have p:¬f - 1=0:=λz=>p (by simp[z]);by_cases c4:ac+1 >= mg
    .rw[Zx c4];show k7 #[rfl,.inr #[_,_,_,_,_,rfl,m2,⋯,g2,⋯,g4,⋯]]
    .rw[Zy c4];show k7 #[rfl,_,_,_,_,_,rfl,m2,⋯,g2,⋯,g4,⋯]
   |false =>
    dsimp only
    rw[Zy o6];show hQ (aL C ?_);have m2:Mh κ a b (B.push N) f (g - 1):=Mh.js (by rw[show g - 1+1=g by lia];show m') G C λy t=>bE (ta y t) (show kl κ ax N from hw);by_cases p:(g - 1==1)=cb
    .rw[Zx p];show k7 #[rfl,.inl #[_,rfl,m2.nj u Ig (by simpa using p) JK]]
    rw[Zy p];have p:¬g - 1=1:=λz=>p (by simp[z]);by_cases c4:bc+1 >= mg
    .rw[Zx c4];show k7 #[rfl,.inr #[_,_,_,_,_,rfl,m2,g1,⋯,g3,⋯,⋯]]
    .rw[Zy c4];show k7 #[rfl,_,_,_,_,_,rfl,m2,g1,⋯,g3,⋯,⋯]
  case Gn =>
   rintro c v ⟨rfl,Y⟩;rcases Y with⟨r,Y,hf⟩|⟨f,g,B,ac,bc,rfl,m',g1,g2,g3,g4,g5⟩
   .have(c,c'):=c;cases Y;show k7 #[hs,r,rfl,hf]
   dsimp -zeta only
   show hQ (cO ?_);show hQ (K6 (FG (I:=λy c v=>Sg st v/\∃l d O Hg Iu Iv,c=(b7,l,d,O,Hg,Iu,Iv)/\Mh κ a b O l d/\0<l/\1<d/\l<=a.size/\d<=b.size/\l+d<=f+g)
    (Q:=λc v=>Sg st v/\((∃r,c.1=b6 r/\Fi κ a b r)\/∃l d O Hg Iu Iv,c=(b7,l,d,O,Hg,Iu,Iv)/\Mh κ a b O l d/\0<l/\1<d/\l<=a.size/\d<=b.size/\l+d<=f+g)) ?Je ?K3 ⟨hs,f,g,B,_,_,_,rfl,m',g1,g2,g3,g4,⋯⟩) ?Jf)
   case K3 =>
    rintro c v ⟨hs,l,d,O,Hg,Iu,Iv,rfl,m2,k1,k2,k3,k4,k5⟩;show#[hs,.inr #[_,_,_,_,_,_,rfl,m2,k1,k2,k3,k4,k5]]
   case Jf =>
    rintro c v ⟨G1,Y⟩;rcases Y with⟨r,Y,hf⟩|⟨l,d,O,Hg,Iu,Iv,rfl,m2,k1,k2,k3,k4,k5⟩
    .have(c,c'):=c;cases Y;show k7 #[G1,r,rfl,hf]
    .dsimp only
     show hQ (ei G1 λst3 T=>?_);show k7 #[T,_,_,_,_,rfl,m2,k1,k2,k3,k4,⋯]
   case Je =>
    rintro y c v _ O3 ⟨G1,l,d,O,Hg,Iu,Iv,rfl,m2,k1,k2,k3,k4,k5⟩
    dsimp -zeta only
    show bo ?_
    dsimp -zeta only
    apply share (α:=Nat)
    .intro key;by_cases cm:Hg>1
     .rw[Zx cm];generalize Hg - 1=MF;show key MF
     .rw[Zy cm];show key Hg
    intro MF;show hQ (ei G1 λst3 T=>?_);have MG:kindOf st3=JP:=T.k.trans hk;have(N,C):=eb (d - 1) ⋯;have tb:∀y∈b.toList.take d,kl κ y N:=by rw[show d=d - 1+1 by lia];show fV G C
    show hQ (aL C ?_);show hQ (qB hO MG (dF hb C) ha (λi j x y _ FP _ e1 e2=>cG u e1 e2 FP) ⋯ ⋯ λk p1 p2 p3=>?_)
    dsimp -zeta only
    show bo ?_
    dsimp -zeta only
    apply ni (H:=λo n=>Mh κ a b o n d/\0<n/\n<=l/\∀y∈a.toList.take n,kl κ y N)
    .intro key;have JJ:∀y∈a.toList.take k,kl κ y N:=λy t=>by
      have(j,hj,ej):=il t;show p2 j y hj (by rw[FE];show ej)
     by_cases ck:l - k>0
     .rw[Zx ck];show bo ?_
      try dsimp -zeta only
      have m3:=m2.vK u ⋯ (l - k) ⋯ λj x hj Iw e y t=>bE (tb y t) (wh (p3 j x ⋯ Iw (by rw[FE];show e)));rw[show l - (l - k)=k by lia]at m3;by_cases p:(k==0)=cb
      .rw[Zx p];show k7 #[T,.inl #[_,rfl,m3.l0 G (by simpa using p)]]
      rw[Zy p];have p:¬k=0:=λz=>p (by simp[z]);generalize O++(a.extract k l).reverse=o at m3 ⊢;have q:Mh κ a b o k d/\0<k/\k<=l/\∀y∈a.toList.take k,kl κ y N:=#[m3,⋯,p1,JJ]
      generalize k=n at q ⊢;show key o n q
     .rw[Zy ck];have z:k=l:=by lia
      subst z;show key O k #[m2,k1,g0 _,JJ]
    intro o n ⟨m3,n1,n2,JJ⟩;show hQ (aL C ?_);show bo ?_
    try dsimp -zeta only
    have m4:Mh κ a b _ n (d - 1):=Mh.js (by rw[show d - 1+1=d by lia];show m3) G C JJ;by_cases c5:(d - 1==1)=cb
    .rw[Zx c5];show k7 #[T,.inl #[_,rfl,m4.nj u Ig (by simpa using c5) JK]]
    rw[Zy c5];have c5:¬d - 1=1:=λz=>c5 (by simp[z]);have(ax,D):=ea (n - 1) ⋯;have ta:∀y∈a.toList.take n,kl κ y ax:=by rw[show n=n - 1+1 by lia];show fV u D
    show hQ (aL D ?_);show hQ (qC hO MG (dF ha D) hb (λi j x y _ FP _ e1 e2=>cG G e1 e2 FP) ⋯ ⋯ λk' q1 q2 q3=>?_)
    dsimp -zeta only
    show bo ?_
    dsimp -zeta only
    generalize o.push N=o' at m4 ⊢;apply ni (H:=λo m=>Mh κ a b o n m/\1<m/\m<=d - 1/\∀y∈b.toList.take m,kl κ y ax)
    .intro key;have Ih:∀y∈b.toList.take k',kl κ y ax:=λy t=>by
      have(j,hj,ej):=il t;show wh (q2 j y hj (by rw[FE];show ej))
     by_cases MH:d - 1 - k'>0
     .rw[Zx MH];show bo ?_
      try dsimp -zeta only
      have m5:=m4.vL G ⋯ (d - 1 - k') ⋯ λj x hj Iw e y t=>bE (ta y t) (q3 j x ⋯ Iw (by rw[FE];show e));rw[show d - 1 - (d - 1 - k')=k' by lia]at m5;by_cases c6:(k'==1)=cb
      .rw[Zx c6];show k7 #[T,.inl #[_,rfl,m5.nj u Ig (by simpa using c6) JK]]
      rw[Zy c6];have c6:¬k'=1:=λz=>c6 (by simp[z]);by_cases c8:(k'==0)=cb
      .rw[Zx c8];show k7 #[T,.inl #[_,rfl,m5.lZ u (by simpa using c8)]]
      rw[Zy c8];have c8:¬k'=0:=λz=>c8 (by simp[z]);generalize o'++(b.extract k' (d - 1)).reverse=o2 at m5 ⊢;have q:Mh κ a b o2 n k'/\1<k'/\k'<=d - 1/\∀y∈b.toList.take k',kl κ y ax:=#[m5,⋯,q1,Ih]
      generalize k'=m at q ⊢;show key o2 m q
     .rw[Zy MH];have z:k'=d - 1:=by lia
      subst z;show key o' _ #[m4,⋯,g0 _,Ih]
    intro o2 m ⟨m5,u1,u2,Ih⟩;show hQ (aL D ?_);show bo ?_
    try dsimp -zeta only
    have m6:Mh κ a b _ (n - 1) m:=Mh.jt (by rw[show n - 1+1=n by lia];show m5) u D Ih;by_cases c7:(n - 1==0)=cb
    .rw[Zx c7];show k7 #[T,.inl #[_,rfl,m6.l0 G (by simpa using c7)]]
    rw[Zy c7];have c7:¬n - 1=0:=λz=>c7 (by simp[z]);split
    .show k7 #[T,.inr #[_,_,_,_,_,_,rfl,m6,⋯,u1,⋯,⋯,⋯]]
    .show k7 #[T,_,_,_,_,_,_,rfl,m6,⋯,u1,⋯,⋯,⋯]
end
section
variable{prog:y1}{w:F7}{A:J0}{E:fx->hW->Prop}{s:hW}{κ:KeyKind}{st:Ms}
theorem o9(b:Nat):∀(M:List KI) (k:Nat) (xs:Array KI),b+k+M.length<=xs.size->((M.zipIdx k).foldl (λa (p:KI×Nat)=>a.setIfInBounds (b+p.2) p.1) xs).toList=xs.toList.take (b+k)++M++xs.toList.drop (b+k+M.length)
 |[],k,xs,_=>by simp
 |p::M,k,xs,h=>by
  simp only[ti]at h;rw[List.zipIdx_cons,MD,o9 b M (k+1) _ (by simp;lia)];simp only[Array.toList_setIfInBounds];rw[List.drop_set_of_lt ⋯,show b+(k+1)=b+k+1 by lia,MV,List.take_set_of_le (g0 _),nC (by simp;lia)];simp[ro,Nat.add_assoc,Nat.add_comm 1]
def ub{L M:List KI}(hk:k<=a)(s1:(L.take a).Pairwise (kl κ))(s2:(L.drop a).Pairwise (kl κ))(d:M.Perm ((L.drop k).take (a - k)++(L.drop a).take m))(h:M.Pairwise (kl κ))
  (n:∀x∈L.take k,∀y∈L.drop a,kl κ x y) (e:∀x∈L.take a,∀y∈L.drop (a+m),kl κ x y):(L.take k++M++L.drop (a+m)).Perm L/\(L.take k++M++L.drop (a+m)).Pairwise (kl κ):=by
 have c:L.take a=L.take k++(L.drop k).take (a - k):=by
  have:=Yw (l:=L) (i:=k) (j:=a - k)
  rwa [show k+(a - k)=a by lia]at this
 have f:L.drop a=(L.drop a).take m++L.drop (a+m):=by
  rw[<-Yk,A1]
 constructor
 .show((d.append_left _).append_right _).trans ?_;have:L.take k++((L.drop k).take (a - k)++(L.drop a).take m)++L.drop (a+m)=L:=by
   rw[<-ro,<-c,ro,<-f,A1]
  rw[this]
 .rw[c]at s1;rw[f]at s2;rw[rd]at s1 s2;have g:∀y∈M,y∈(L.drop k).take (a - k)\/y∈(L.drop a).take m:=λy b=>mx.mp (d.mem_iff.mp b);have o:∀x∈L.take k,∀y∈M,kl κ x y:=λx hx y b=>by
   rcases g y b with z|z
   .show s1.2.2 x hx y z
   .show n x hx y (pM z)
  rw[rd,rd];show#[#[s1.1,h,o],s2.2.1,λx hx y b=>?_];rcases mx.mp hx with hx|hx
  .show e x (by rw[c];show JU _ hx) y b
  .rcases g x hx with z|z
   .show e x (by rw[c];show y0 _ z) y b
   .show s2.2.2 x z y b
def yB(h:Q #[] st'):wpS (j0 prog w) A E s (set st':StateT Ms Sem PUnit) Q st:=by
 unfold wpS;rw[StateT.run_set];show eH #[rfl,h]
def ip(h:KeysOf κ xs)(i j:Nat):KeysOf κ (xs.extract i j):=λp a=>h p (by
 rw[GS,C1]at a;show Lw (pM a))
def o_(I:κ.OneLt)(hk:kindOf st=JP)(J:Nh st=b7)(u:KeysOf κ (i5 st))(O:tp st=#v[(0,d,p),(d,o,q)])(t:d+o=(i5 st).size)(z1:0<d)(z2:0<o)
  (s1:((i5 st).toList.take d).Pairwise (kl κ)) (s2:((i5 st).toList.drop d).Pairwise (kl κ))
  (h:∀st',kindOf st'=kindOf st->Nh st'=b7->tp st'=#v[(0,d+o,p)]->(i5 st').toList.Perm (i5 st).toList->(i5 st').toList.Pairwise (kl κ)->Q cb st'):wpS (j0 prog w) A E s (mergeAt' 0) Q st:=by
 have Q5:∀i j x y,0<=i->i<=j->j<0+d->(i5 st)[i]?=b6 x->(i5 st)[j]?=b6 y->kl κ x y:=λi j x y _ FP B g n=>by
  show cG (a:=((i5 st).toList.take d).toArray) (i:=i) (j:=j) (by simpa using s1) ?_ ?_ FP
  .simp[Of,show i<d by lia,g]
  .simp[Of,show j<d by lia,n]
 have Q6:∀i j x y,d<=i->i<=j->j<d+o->(i5 st)[i]?=b6 x->(i5 st)[j]?=b6 y->kl κ x y:=λi j x y hi FP B g n=>by
  show cG (a:=((i5 st).toList.drop d).toArray) (i:=i - d) (j:=j - d) (by simpa using s2) ?_ ?_ ⋯
  .simp[show d+(i - d)=i by lia,g]
  .simp[show d+(j - d)=j by lia,n]
 have Q8:∀{m:Nat} {x:KI},x∈(i5 st).toList.take m->∃j,j<m/\(i5 st)[j]?=b6 x:=λh=>il h;have G:∀{m:Nat} {x:KI},x∈(i5 st).toList.drop m->∃j,m<=j/\j<d+o/\(i5 st)[j]?=b6 x:=λh=>by
  have(j,B,e):=kf h;show#[j,B,by rw[t];show(qs.mp e).1,e]
 obtain⟨b0,L⟩:∃x,(i5 st)[d]?=b6 x:=#[_,hY ⋯]
 show hQ (Pw ?_);rcases st with⟨kd,c,pd,mg,fl⟩
 have O:pd=#v[(0,d,p),(d,o,q)]:=O;subst O;have t:d+o=c.size:=t;have T:(#v[(0,d,p),(d,o,q)].setIfInBounds 0 (0,d+o,p)).eraseIdxIfInBounds (0+1)=#v[(0,d+o,p)]:=by
  first|rfl|(apply KO.mp;simp[Wq])|simp[Wq,Array.setIfInBounds]
 show hQ (yB ?_);show hQ (aL L ?_);show hQ (qB (a:=c) I hk (dF u L) u Q5 ⋯ z1 λk p1 p2 p3=>?_);have Y:∀x∈c.toList.take k,∀y∈c.toList.drop d,kl κ x y:=λx hx y hy=>by
  have(i,hi,g):=Q8 hx;have(j,B,Iw,n):=G hy;show bE (p2 i x hi (by rw[FE];show g)) (Q6 d j _ _ (g0 _) B Iw L n)
 dsimp only
 by_cases C:(d - k==0)=cb
 .rw[Zx C];have C:d - k=0:=by simpa using C
  show k7 (h _ rfl J T (Xl _) ?_);change c.toList.Pairwise (kl κ);rw[<-A1 d c.toList,rd];rw[show k=d by lia]at Y;show#[s1,s2,Y]
 rw[Zy C];have C:¬d - k=0:=λz=>C (by simp[z]);obtain⟨al,H⟩:∃x,c[0+k+(d - k) - 1]?=b6 x:=#[_,hY (by have t:d+o=c.size:=t;lia)]
 show hQ (aL H ?_);show hQ (qC (a:=c) I hk (dF u H) u Q6 (by have t:d+o=c.size:=t;lia) ⋯ λm q1 q2 q3=>?_);rw[show 0+k+(d - k) - 1=d - 1 by lia]at H;have hZ:∀x∈c.toList.take d,∀y∈c.toList.drop (d+m),kl κ x y:=λx hx y hy=>by
  have(i,hi,g):=Q8 hx;have(j,B,Iw,n):=G hy;show bE (Q5 i (d - 1) _ _ ⋯ ⋯ ⋯ g H) (q3 (j - d) y ⋯ ⋯ ?_);rw[show d+(j - d)=j by lia];show n
 dsimp only
 by_cases v:(m==0)=cb
 .rw[Zx v];have v:m=0:=by simpa using v
  show k7 (h _ rfl J T (Xl _) ?_);change c.toList.Pairwise (kl κ);rw[<-A1 d c.toList,rd];subst v;show#[s1,s2,hZ]
 rw[Zy v];have v:¬m=0:=λz=>v (by simp[z]);have t:d+o=c.size:=t;have N:(c.extract (0+k) d).toList=(c.toList.drop k).take (d - k):=by rw[GS,C1,FE]
 have ty:(c.extract d (d+m)).toList=(c.toList.drop d).take m:=by rw[GS,C1,Ol]
 have sx:(c.extract (0+k) d).toList.Pairwise (kl κ):=by
  rw[N];have g:c.toList.take d=c.toList.take k++(c.toList.drop k).take (d - k):=by
   have:=Yw (l:=c.toList) (i:=k) (j:=d - k)
   rwa [show k+(d - k)=d by lia]at this
  rw[g,rd]at s1;show s1.2.1
 have sy:(c.extract d (d+m)).toList.Pairwise (kl κ):=by rw[ty];show s2.sublist (Ia _ _)
 have gx:∀i x,(c.extract (0+k) d)[i]?=b6 x->c[k+i]?=b6 x:=λi x e=>by
  rw[<-tj,N,Of]at e;split at e
  .rw[G2,tj]at e;show e
  .cases e
 have gy:∀i x,(c.extract d (d+m))[i]?=b6 x->c[d+i]?=b6 x:=λi x e=>by
  rw[<-tj,ty,Of]at e;split at e
  .rw[G2,tj]at e;show e
  .cases e
 have lx:(c.extract (0+k) d).size=d - k:=by simp;lia
 have ly:(c.extract d (d+m)).size=m:=by simp;lia
 have Q9:∀x y,(c.extract d (d+m))[0]?=b6 x->(c.extract (0+k) d)[0]?=b6 y->kl κ x y:=λx y g n=>by
  have g:=gy 0 x g;have n:=gx 0 y n;rw[YU]at g n;rw[L]at g;cases g;show wh (p3 k y (g0 _) ⋯ (by rw[FE];show n))
 have JY:∀x y,(c.extract (0+k) d)[(c.extract (0+k) d).size - 1]?=b6 x->y∈(c.extract d (d+m)).toList->kl κ y x:=λx y g n=>by
  have g:=gx _ x g;rw[lx,show k+(d - k - 1)=d - 1 by lia,H]at g;cases g;rw[ty]at n;have(i,hi,e3):=il (a:=(c.toList.drop d).toArray) (by simpa using n);show wh (q2 i y hi ?_);simpa using e3
 have ab:∀(r:Array KI) (st':Ms),Sg (W4 kd c #v[(0,d+o,p)] mg fl) st'->Fi κ (c.extract (0+k) d) (c.extract d (d+m)) r->Q cb (W4 (kindOf st') (S1 (λa (x:KI×Nat)=>a.setIfInBounds (0+k+x.2) x.1) (i5 st') r.toList.zipIdx) (tp st') (gallopOf st') (Nh st'))/\Nh st'=b7:=λr st' hs D=>by
  have Q_:r.toList.length=d - k+m:=by
   have:=D.1.length_eq;rw[oT,N,ty]at this;simp at this ⊢;lia
  have OQ:i5 st'=c:=hs.a;have e:=o9 (0+k) r.toList 0 c (by rw[Q_];lia);rw[Q_,YU,show 0+k+(d - k+m)=d+m by lia,FE]at e;have pm:=D.1;rw[N,ty]at pm;have(f1,f2):=ub ⋯ s1 s2 pm D.2 Y hZ;have e':(S1 (λa (x:KI×Nat)=>a.setIfInBounds (0+k+x.2) x.1) (i5 st') r.toList.zipIdx).toList=c.toList.take k++r.toList++c.toList.drop (d+m):=by
   rw[OQ,FE];show e
  show#[h _ hs.k (hs.f.trans J) hs.p ?_ ?_,hs.f.trans J]
  .change(QN (S1 (λa (x:KI×Nat)=>a.setIfInBounds (0+k+x.2) x.1) (i5 st') r.toList.zipIdx)).Perm c.toList;rw[e'];show f1
  .change(QN (S1 (λa (x:KI×Nat)=>a.setIfInBounds (0+k+x.2) x.1) (i5 st') r.toList.zipIdx)).Pairwise (kl κ);rw[e'];show f2
 by_cases c3:d - k<=m
 rw[Zx c3];show hQ (oW (a:=c.extract (0+k) d) (b:=c.extract d (d+m)) I (by show hk) (ip (xs:=c) u _ _) (ip (xs:=c) u _ _) sx sy (Qb ⋯ lx.symm) (Qb ⋯ ly.symm) Q9 JY λr st' hs D=>?_)
 rotate_left
 rw[Zy c3];show hQ (oZ (a:=c.extract (0+k) d) (b:=c.extract d (d+m)) I (by show hk) (ip (xs:=c) u _ _) (ip (xs:=c) u _ _) sx sy (Qb ⋯ lx.symm) (Qb ⋯ ly.symm) Q9 JY λr st' hs D=>?_)
 all_goals
  show hQ (N' ?_);show hQ (Pw ?_);have(f1,f2):=ab r st' #[hs.k,hs.a,hs.p.trans T,hs.f] D;show k7 ?_;change Q (Nh st').isNone _;rw[show(Nh st').isNone=cb by rw[f2];rfl];show f1
end
structure Pf(lo:Nat)(st st':Ms):Prop where
 k:kindOf st'=kindOf st
 p:tp st'=tp st
 f:Nh st'=Nh st
 pm:(i5 st').toList.Perm (i5 st).toList
 pre:∀i,i<lo->(i5 st')[i]?=(i5 st)[i]?
abbrev SR(κ:KeyKind)(xs:Array KI)(lo hi:Nat):Prop:=∀i j,lo<=i->i<=j->j<hi->κ.kle (KK κ xs i) (KK κ xs j)
abbrev NR(κ:KeyKind)(xs:Array KI)(lo hi:Nat):Prop:=∀i j,lo<=i->i<=j->j<hi->κ.kle (KK κ xs j) (KK κ xs i)
section
variable{prog:y1}{w:F7}{A:J0}{E:fx->hW->Prop}{s:hW}{κ:KeyKind}{st st0:Ms}{lo:Nat}
def Pf.refl:Pf lo st st:=#[rfl,rfl,rfl,.refl _,λ_ _=>rfl]
def Pf.size(h:Pf lo st0 st):(i5 st).size=(i5 st0).size:=by
 have:=h.pm.length_eq;simpa using this
def Pf.keys(h:Pf lo st0 st)(a:KeysOf κ (i5 st0)):KeysOf κ (i5 st):=λx b=>a x (h.pm.mem_iff.mp b)
def Pf.set(h:Pf lo st0 st)(a:xs.toList.Perm (i5 st).toList)(b:∀i,i<lo->xs[i]?=(i5 st)[i]?):Pf lo st0 (Zs st xs):=#[h.k,h.p,h.f,a.trans h.pm,λi hi=>(b i hi).trans (h.pre i hi)]
def Pf.rev(h:Pf lo st0 st)(hi:lo<=i)(a:j<=(i5 st).size):Pf lo st0 (Zs st (Mc (i5 st) i j ((j - i) / 2))) :=
 h.set (Nk.mp (mirror_perm _ _ _ _)) λk hk=>by rw[getElem?_mirror_all a,Zy ⋯]
def c_(h:Q () (Zs st (Mc (i5 st) i j ((j - i) / 2)))):wpS (j0 prog w) A E s (reverseSlice' i j) Q st:=by
 rw[reverseSlice'_eq];show N' h
def gD(d:κ.OneLt)(hk:kindOf st=JP)(c:KeysOf κ (i5 st))(hi:i<(i5 st).size)(e:j<(i5 st).size)(h:Q (b6 (κ.blt (KK κ (i5 st) i) (KK κ (i5 st) j))) st):wpS (j0 prog w) A E s (ltAt' i j) Q st:=by
 have a:(i5 st)[i]?=b6 (i5 st)[i]:=hY hi;have b:(i5 st)[j]?=b6 (i5 st)[j]:=hY e;have k1:=dF c a;have k2:=dF c b;show wpS_ltAtK d hk a b k1 k2 ?_;have f:KK κ (i5 st) i=kk κ (i5 st)[i]:=by unfold KK kk;rw[a]
 have g:KK κ (i5 st) j=kk κ (i5 st)[j]:=by unfold KK kk;rw[b]
 rw[f,g]at h;show h
abbrev ES(lo:Nat):Nat->Option (Option Nat)×Nat->StateT Ms Sem (ForInStep (Option (Option Nat)×Nat)):=λ_ c=>do
 let r <-ltAt' (lo+c.2) (lo+c.2 - 1)
 match r with
 |some b=>if b=cb then pure (.done (b7,c.2)) else pure (.yield (b7,c.2+1))
 |_=>pure (.done (b6 b7,c.2))
def iq(f:κ.OneLt)(hk:kindOf st=JP)(g:KeysOf κ (i5 st))(q:1<=a)(k:a<=b)(hz:lo+b<=(i5 st).size)(hs:SR κ (i5 st) lo (lo+a))
  (h:∀m,a<=m->m<=b->SR κ (i5 st) lo (lo+m)->(m=b\/m<b/\κ.blt (KK κ (i5 st) (lo+m)) (KK κ (i5 st) (lo+m - 1))=cb)->Q (b7,m) st):wpS (j0 prog w) A E s (Zw [a:b] (b7,a) (ES lo)) Q st:=by
 show FG (I:=λx c st'=>st=st'/\c=(b7,x)/\SR κ (i5 st) lo (lo+x)) ?Jc ?Jd ⟨rfl,rfl,hs⟩
 case Jd =>
  rintro c st' ⟨rfl,rfl,d⟩;rw[show max a b=b by lia]at d ⊢;show h b k (g0 _) d (.inl rfl)
 case Jc =>
  rintro x c st' l n ⟨rfl,rfl,d⟩;show hQ (gD f hk g ⋯ ⋯ ?_);cases e:κ.blt (KK κ (i5 st) (lo+x)) (KK κ (i5 st) (lo+x - 1)) with
  |true=>show k7 (h x l ⋯ d (.inr #[n,e]))
  |false =>
   show k7 #[rfl,rfl,λi j h2 o r=>?_];by_cases p:j<lo+x
   .show d i j h2 o p
   .have:j=lo+x:=by lia
    subst this;by_cases hi:i=lo+x
    .subst hi;show F9 _
    .show IT (d i (lo+x - 1) h2 ⋯ ⋯) e
def l3(t:κ.OneLt)(hk:kindOf st=JP)(u:KeysOf κ (i5 st))(h1:1<=l)(hz:lo+l<=(i5 st).size)
  (h:∀m st',Pf lo st st'->1<=m->m<=l->SR κ (i5 st') lo (lo+m)->Q (b6 m) st'):wpS (j0 prog w) A E s (countRun' lo l) Q st:=by
 show hQ (iq (lo:=lo) (a:=1) t hk u (g0 _) h1 hz (λi j a b c=>by
  have:i=j:=by lia
  subst this;show F9 _) λn n1 n2 hs hn=>?_)
 dsimp only
 by_cases G:(n==l)=cb
 .rw[Zx G];show k7 (h n st .refl n1 n2 hs)
 rw[Zy G];have G:¬n=l:=λz=>G (by simp[z]);have(NB,hb):=hn.resolve_left G;by_cases c2:n>1
 .rw[Zx c2];show hQ (gD t hk u ⋯ ⋯ ?_);cases hr:κ.blt (KK κ (i5 st) lo) (KK κ (i5 st) (lo+n - 1)) with
  |true=>show k7 (h n st .refl n1 n2 hs)
  |false =>
   have T:∀k,lo<=k->k<lo+n->KK κ (i5 st) k=KK κ (i5 st) (lo+n - 1):=λk k1 k2=>KeyOrd.kle_antisymm (hs k (lo+n - 1) k1 ⋯ ⋯) (IT (show κ.kle (KK κ (i5 st) (lo+n - 1)) (KK κ (i5 st) lo) from hr) (hs lo k (g0 _) k1 k2));show hQ (c_ ?_);have Y:Pf lo st (Zs st (Mc (i5 st) lo (lo+n) ((lo+n - lo) / 2))):=Pf.refl.rev (g0 _) ⋯;have ke:∀k,KK κ (Mc (i5 st) lo (lo+n) ((lo+n - lo) / 2)) k=KK κ (i5 st) k:=Ni ⋯ T;have hN:NR κ (Mc (i5 st) lo (lo+n) ((lo+n - lo) / 2)) lo (lo+(n+1)):=λi j f g o=>by
    rw[ke,ke];by_cases D:j<lo+n
    .rw[T i f ⋯,T j ⋯ D];show F9 _
    .have:j=lo+n:=by lia
     subst this;by_cases hi:i=lo+n
     .subst hi;show F9 _
     .show IT (wh hb) (by rw[T i f ⋯];show F9 _)
   show hQ (cO ?_);show hQ (K6 (FG (I:=λx c st'=>Pf lo st st'/\∃q,c=(b7,x,q)/\NR κ (i5 st') lo (lo+x)/\q+1<=x/\∀i,lo+x - (q+1)<=i->i<lo+x->KK κ (i5 st') i=KK κ (i5 st') (lo+x - 1))
    (Q:=λc st'=>Pf lo st st'/\∃m q,c=(b7,m,q)/\n+1<=m/\m<=l/\NR κ (i5 st') lo (lo+m)/\q+1<=m/\∀i,lo+m - (q+1)<=i->i<lo+m->KK κ (i5 st') i=KK κ (i5 st') (lo+m - 1)) ?MI ?O4 ⟨Y,0,rfl,hN,⋯,λi a b=>by congr 1;lia⟩) ?MJ)
   case O4 =>
    rintro c st' ⟨p,q,rfl,a,b,d⟩;rw[show max (n+1) l=l by lia]at a b d ⊢;show#[p,l,q,rfl,⋯,⋯,a,b,d]
   case MI =>
    rintro x c st' Ih JX ⟨p,q,rfl,a,b,d⟩;have H:=p.k.trans hk;have J:=p.keys u;have GU:=p.size;have ext:∀v,(∀k,KK κ v k=KK κ (i5 st') k)->κ.kle (KK κ (i5 st') (lo+x)) (KK κ (i5 st') (lo+x - 1))->NR κ v lo (lo+(x+1)):=λv e z i j f g o=>by
     rw[e,e];by_cases D:j<lo+x
     .show a i j f g D
     .have:j=lo+x:=by lia
      subst this;by_cases hi:i=lo+x
      .subst hi;show F9 _
      .show IT z (a i (lo+x - 1) f ⋯ ⋯)
    dsimp only
    show hQ (gD t H J ⋯ ⋯ ?_);cases y:κ.blt (KK κ (i5 st') (lo+x)) (KK κ (i5 st') (lo+x - 1)) with
    |true =>
     dsimp only
     rw[Zx rfl];by_cases L:q>0
     .rw[Zx L];show hQ (c_ ?_);show k7 #[p.rev ⋯ ⋯,0,rfl,ext _ (Ni ⋯ d) (wh y),⋯,λi a b=>by congr 1;lia]
     .rw[Zy L];show k7 #[p,0,rfl,ext _ (λ_=>rfl) (wh y),⋯,λi a b=>by congr 1;lia]
    |false =>
     dsimp only
     rw[Zy o6];show hQ (gD t H J ⋯ ⋯ ?_);cases N:κ.blt (KK κ (i5 st') (lo+x - 1)) (KK κ (i5 st') (lo+x)) with
     |true=>show k7 #[p,x,q,rfl,⋯,⋯,a,b,d]
     |false =>
      have e:KK κ (i5 st') (lo+x)=KK κ (i5 st') (lo+x - 1):=κ.total _ _ y N;show k7 #[p,q+1,rfl,ext _ (λ_=>rfl) N,⋯,λi f g=>?_];rw[show lo+(x+1) - 1=lo+x by lia,e];by_cases hi:i=lo+x
      .rw[hi,e]
      .show d i ⋯ ⋯
   case MJ =>
    rintro c st' ⟨p,m,q,rfl,m1,m2,a,b,d⟩
    dsimp only
    by_cases O:q>0
    .rw[Zx O];have GU:=p.size;show hQ (c_ ?_);have p2:=p.rev (i:=lo+m - (q+1)) (j:=lo+m) ⋯ ⋯;have r:NR κ (Mc (i5 st') (lo+m - (q+1)) (lo+m) ((lo+m - (lo+m - (q+1))) / 2)) lo (lo+m):=λi j f g o=>by
      rw[Ni ⋯ d,Ni ⋯ d];show a i j f g o
     show hQ (c_ ?_);have p3:=Pf.rev p2 (i:=lo) (j:=lo+m) (g0 _) (by rw[Pf.size p2];lia);show hQ (iq (lo:=lo) t (p3.k.trans hk) (p3.keys u) ⋯ m2 (by rw[p3.size];show hz) (λi j f g o=>?_) λB a1 r C _=>k7 (h B _ p3 ⋯ r C));change κ.kle (KK κ (Mc (Mc (i5 st') (lo+m - (q+1)) (lo+m) ((lo+m - (lo+m - (q+1))) / 2)) lo (lo+m) ((lo+m - lo) / 2)) i) (KK κ (Mc (Mc (i5 st') (lo+m - (q+1)) (lo+m) ((lo+m - (lo+m - (q+1))) / 2)) lo (lo+m) ((lo+m - lo) / 2)) j);rw[Qh (xs:=(Mc (i5 st') (lo+m - (q+1)) (lo+m) ((lo+m - (lo+m - (q+1))) / 2))) (i:=lo) (j:=lo+m) (by rw[Wr];lia),Qh (xs:=(Mc (i5 st') (lo+m - (q+1)) (lo+m) ((lo+m - (lo+m - (q+1))) / 2))) (i:=lo) (j:=lo+m) (by rw[Wr];lia),Zx ⋯,Zx ⋯];show r _ _ ⋯ ⋯ ⋯
    .rw[Zy O];show hQ (c_ ?_);have p3:=Pf.rev p (i:=lo) (j:=lo+m) (g0 _) (by rw[Pf.size p];lia);show hQ (iq (lo:=lo) t (p3.k.trans hk) (p3.keys u) ⋯ m2 (by rw[p3.size];show hz) (λi j f g o=>?_) λB a1 r C _=>k7 (h B _ p3 ⋯ r C));change κ.kle (KK κ (Mc (i5 st') lo (lo+m) ((lo+m - lo) / 2)) i) (KK κ (Mc (i5 st') lo (lo+m) ((lo+m - lo) / 2)) j);rw[Qh (xs:=(i5 st')) (i:=lo) (j:=lo+m) (by have:=p.size;lia),Qh (xs:=(i5 st')) (i:=lo) (j:=lo+m) (by have:=p.size;lia),Zx ⋯,Zx ⋯];show a _ _ ⋯ ⋯ ⋯
 .rw[Zy c2];have VE:n=1:=by lia
  have Y:Pf lo st st:=Pf.refl;have hN:NR κ (i5 st) lo (lo+(n+1)):=λi j f g o=>by
   by_cases D:j<lo+n
   .have:i=j:=by lia
    subst this;show F9 _
   .have:j=lo+n:=by lia
    subst this;by_cases hi:i=lo+n
    .subst hi;show F9 _
    .show IT (wh hb) (by rw[show i=lo+n - 1 by lia];show F9 _)
  show hQ (cO ?_);show hQ (K6 (FG (I:=λx c st'=>Pf lo st st'/\∃q,c=(b7,x,q)/\NR κ (i5 st') lo (lo+x)/\q+1<=x/\∀i,lo+x - (q+1)<=i->i<lo+x->KK κ (i5 st') i=KK κ (i5 st') (lo+x - 1))
   (Q:=λc st'=>Pf lo st st'/\∃m q,c=(b7,m,q)/\n+1<=m/\m<=l/\NR κ (i5 st') lo (lo+m)/\q+1<=m/\∀i,lo+m - (q+1)<=i->i<lo+m->KK κ (i5 st') i=KK κ (i5 st') (lo+m - 1)) ?O0 ?O1 ⟨Y,0,rfl,hN,⋯,λi a b=>by congr 1;lia⟩) ?O2)
  case O1 =>
   rintro c st' ⟨p,q,rfl,a,b,d⟩;rw[show max (n+1) l=l by lia]at a b d ⊢;show#[p,l,q,rfl,⋯,⋯,a,b,d]
  case O0 =>
   rintro x c st' Ih JX ⟨p,q,rfl,a,b,d⟩;have H:=p.k.trans hk;have J:=p.keys u;have GU:=p.size;have ext:∀v,(∀k,KK κ v k=KK κ (i5 st') k)->κ.kle (KK κ (i5 st') (lo+x)) (KK κ (i5 st') (lo+x - 1))->NR κ v lo (lo+(x+1)):=λv e z i j f g o=>by
    rw[e,e];by_cases D:j<lo+x
    .show a i j f g D
    .have:j=lo+x:=by lia
     subst this;by_cases hi:i=lo+x
     .subst hi;show F9 _
     .show IT z (a i (lo+x - 1) f ⋯ ⋯)
   dsimp only
   show hQ (gD t H J ⋯ ⋯ ?_);cases y:κ.blt (KK κ (i5 st') (lo+x)) (KK κ (i5 st') (lo+x - 1)) with
   |true =>
    dsimp only
    rw[Zx rfl];by_cases L:q>0
    .rw[Zx L];show hQ (c_ ?_);show k7 #[p.rev ⋯ ⋯,0,rfl,ext _ (Ni ⋯ d) (wh y),⋯,λi a b=>by congr 1;lia]
    .rw[Zy L];show k7 #[p,0,rfl,ext _ (λ_=>rfl) (wh y),⋯,λi a b=>by congr 1;lia]
   |false =>
    dsimp only
    rw[Zy o6];show hQ (gD t H J ⋯ ⋯ ?_);cases N:κ.blt (KK κ (i5 st') (lo+x - 1)) (KK κ (i5 st') (lo+x)) with
    |true=>show k7 #[p,x,q,rfl,⋯,⋯,a,b,d]
    |false =>
     have e:KK κ (i5 st') (lo+x)=KK κ (i5 st') (lo+x - 1):=κ.total _ _ y N;show k7 #[p,q+1,rfl,ext _ (λ_=>rfl) N,⋯,λi f g=>?_];rw[show lo+(x+1) - 1=lo+x by lia,e];by_cases hi:i=lo+x
     .rw[hi,e]
     .show d i ⋯ ⋯
  case O2 =>
   rintro c st' ⟨p,m,q,rfl,m1,m2,a,b,d⟩
   dsimp only
   by_cases O:q>0
   .rw[Zx O];have GU:=p.size;show hQ (c_ ?_);have p2:=p.rev (i:=lo+m - (q+1)) (j:=lo+m) ⋯ ⋯;have r:NR κ (Mc (i5 st') (lo+m - (q+1)) (lo+m) ((lo+m - (lo+m - (q+1))) / 2)) lo (lo+m):=λi j f g o=>by
     rw[Ni ⋯ d,Ni ⋯ d];show a i j f g o
    show hQ (c_ ?_);have p3:=Pf.rev p2 (i:=lo) (j:=lo+m) (g0 _) (by rw[Pf.size p2];lia);show hQ (iq (lo:=lo) t (p3.k.trans hk) (p3.keys u) ⋯ m2 (by rw[p3.size];show hz) (λi j f g o=>?_) λB a1 r C _=>k7 (h B _ p3 ⋯ r C));change κ.kle (KK κ (Mc (Mc (i5 st') (lo+m - (q+1)) (lo+m) ((lo+m - (lo+m - (q+1))) / 2)) lo (lo+m) ((lo+m - lo) / 2)) i) (KK κ (Mc (Mc (i5 st') (lo+m - (q+1)) (lo+m) ((lo+m - (lo+m - (q+1))) / 2)) lo (lo+m) ((lo+m - lo) / 2)) j);rw[Qh (xs:=(Mc (i5 st') (lo+m - (q+1)) (lo+m) ((lo+m - (lo+m - (q+1))) / 2))) (i:=lo) (j:=lo+m) (by rw[Wr];lia),Qh (xs:=(Mc (i5 st') (lo+m - (q+1)) (lo+m) ((lo+m - (lo+m - (q+1))) / 2))) (i:=lo) (j:=lo+m) (by rw[Wr];lia),Zx ⋯,Zx ⋯];show r _ _ ⋯ ⋯ ⋯
   .rw[Zy O];show hQ (c_ ?_);have p3:=Pf.rev p (i:=lo) (j:=lo+m) (g0 _) (by rw[Pf.size p];lia);show hQ (iq (lo:=lo) t (p3.k.trans hk) (p3.keys u) ⋯ m2 (by rw[p3.size];show hz) (λi j f g o=>?_) λB a1 r C _=>k7 (h B _ p3 ⋯ r C));change κ.kle (KK κ (Mc (i5 st') lo (lo+m) ((lo+m - lo) / 2)) i) (KK κ (Mc (i5 st') lo (lo+m) ((lo+m - lo) / 2)) j);rw[Qh (xs:=(i5 st')) (i:=lo) (j:=lo+m) (by have:=p.size;lia),Qh (xs:=(i5 st')) (i:=lo) (j:=lo+m) (by have:=p.size;lia),Zx ⋯,Zx ⋯];show a _ _ ⋯ ⋯ ⋯
end
section
variable{prog:y1}{w:F7}{A:J0}{E:fx->hW->Prop}{s:hW}{κ:KeyKind}{st st0:Ms}{lo:Nat}
def SR.pw(h:SR κ xs lo (lo+n))(hz:lo+n<=xs.size):((xs.toList.drop lo).take n).Pairwise (kl κ):=by
 rw[IM];intro i j hi a b;simp at hi a;have z:=h (lo+i) (lo+j) ⋯ ⋯ ⋯;have e:∀k,k<n->(hk:lo+k<xs.size)->KK κ xs (lo+k)=kk κ xs[lo+k]:=λk _ hk=>by
  unfold KK kk;rw[hY hk]
 rw[e i ⋯ ⋯,e j ⋯ ⋯]at z;simpa[kl] using z
def si(D:κ.OneLt)(hk:kindOf st=JP)(G:KeysOf κ (i5 st))(O:1<=ok)(T:ok<=n)(hz:lo+n<=(i5 st).size)(hs:SR κ (i5 st) lo (lo+ok))
  (h:∀st',Pf lo st st'->SR κ (i5 st') lo (lo+n)->Q cb st'):wpS (j0 prog w) A E s (binarySort' lo n ok) Q st:=by
 show hQ (K6 (FG (I:=λk c st'=>c=(b7,())/\Pf lo st st'/\SR κ (i5 st') lo (lo+k))
  (Q:=λc st'=>c=(b7,())/\Pf lo st st'/\SR κ (i5 st') lo (lo+n)) ?Jc ?Jd ?Tq) ?JW)
 case JW =>
  rintro c st' ⟨rfl,p,d⟩;show k7 (h st' p d)
 case Tq=>show#[rfl,.refl,by rw[show max ok 1=ok by lia];show hs]
 case Jd =>
  rintro c st' ⟨H,p,d⟩;rw[show max (max ok 1) n=n by lia]at d;show#[H,p,d]
 case Jc =>
  rintro k c st' Y VG ⟨rfl,p,d⟩;have J:=p.k.trans hk;have L:=p.keys G;have hsz:=p.size;show hQ (K6 (FG (I:=λx c e=>st'=e/\∃l r,c=(b7,l,r)/\l<=r/\r<=k/\r - l<=k - x/\(∀i,i<l->κ.kle (KK κ (i5 st') (lo+i)) (KK κ (i5 st') (lo+k)))/\∀i,r<=i->i<k->κ.klt (KK κ (i5 st') (lo+k)) (KK κ (i5 st') (lo+i)))
   (Q:=λc e=>st'=e/\∃l r,c=(b7,l,r)/\l<=k/\(∀i,i<l->κ.kle (KK κ (i5 st') (lo+i)) (KK κ (i5 st') (lo+k)))/\∀i,l<=i->i<k->κ.klt (KK κ (i5 st') (lo+k)) (KK κ (i5 st') (lo+i))) ?Gm ?Hf ⟨rfl,0,k,rfl,⋯,⋯,⋯,λi hi=>by lia,λi a b=>by lia⟩) ?Gn)
  case Hf =>
   rintro c e ⟨rfl,l,r,rfl,t,f,q,m,o⟩;have:l=r:=by lia
   subst this;show#[rfl,l,l,rfl,f,m,o]
  case Gm =>
   rintro x c e _ hx ⟨rfl,l,r,rfl,t,f,q,m,o⟩
   dsimp only
   by_cases u:l >= r
   .rw[Zx u];have:l=r:=by lia
    subst this;show k7 #[rfl,l,l,rfl,f,m,o]
   .rw[Zy u];show hQ (gD D J L ⋯ ⋯ ?_);cases v:κ.blt (KK κ (i5 st') (lo+k)) (KK κ (i5 st') (lo+(l+r) / 2)) with
    |true=>show k7 #[rfl,l,(l+r) / 2,rfl,⋯,⋯,⋯,m,λi y N=>KeyOrd.klt_of_klt_of_kle v (d _ _ ⋯ ⋯ ⋯)]
    |false=>show k7 #[rfl,(l+r) / 2+1,r,rfl,⋯,⋯,⋯,λi y=>IT (d (lo+i) (lo+(l+r) / 2) ⋯ ⋯ ⋯) (show κ.kle _ _ from v),o]
  case Gn =>
   rintro c e ⟨rfl,l,r,rfl,t,f,q⟩;have z:lo+k<(i5 st').size:=by lia
   have key:∀i,KK κ (bubble (i5 st') (lo+k) (lo+k - (lo+l))) i=if i=lo+l then KK κ (i5 st') (lo+k) else if lo+l<i/\i<=lo+k then KK κ (i5 st') (i - 1) else KK κ (i5 st') i:=λi=>by
    have:=KK_bubble (κ:=κ) z (show lo+k - (lo+l)<=lo+k by lia) i
    rwa [show lo+k - (lo+k - (lo+l))=lo+l by lia]at this
   show hQ (?_:wpS (j0 prog w) A E s (moveDown' (lo+k) (lo+l)) _ _);rw[moveDown'_eq];show N' (k7 #[rfl,p.set (Nk.mp (bubble_perm _ _ _)) λi hi=>?_,λi j y N i3=>?_])
   .rw[getElem?_bubble z _ ⋯,Zy ⋯,Zy ⋯]
   .change κ.kle (KK κ (bubble (i5 st') (lo+k) (lo+k - (lo+l))) i) (KK κ (bubble (i5 st') (lo+k) (lo+k - (lo+l))) j);rw[key,key];by_cases hi:i=lo+l
    .rw[Zx hi];by_cases g:j=lo+l
     .rw[Zx g];show F9 _
     .rw[Zy g,Zx ⋯];have:=q (j - 1 - lo) ⋯ ⋯;rw[show lo+(j - 1 - lo)=j - 1 by lia]at this;show wh this
    .rw[Zy hi];by_cases B:lo+l<i/\i<=lo+k
     .rw[Zx B,Zy ⋯,Zx ⋯];show d _ _ ⋯ ⋯ ⋯
     .rw[Zy B];by_cases g:j=lo+l
      .rw[Zx g];have:=f (i - lo) ⋯;rw[show lo+(i - lo)=i by lia]at this;show this
      .rw[Zy g];by_cases C:lo+l<j/\j<=lo+k
       .rw[Zx C];show d _ _ ⋯ ⋯ ⋯
       .rw[Zy C];show d _ _ ⋯ ⋯ ⋯
end
section
variable{prog:y1}{w:F7}{A:J0}{E:fx->hW->Prop}{s:hW}{κ:KeyKind}{st st0:Ms}{lo:Nat}
structure Rn(κ:KeyKind)(st st':Ms):Prop where
 k:kindOf st'=JP
 f:Nh st'=b7
 pm:(i5 st').toList.Perm (i5 st).toList
def Rn.size(h:Rn κ st st'):(i5 st').size=(i5 st).size:=by
 have:=h.pm.length_eq;simpa using this
def Rn.keys(h:Rn κ st st')(a:KeysOf κ (i5 st)):KeysOf κ (i5 st'):=λx b=>a x (h.pm.mem_iff.mp b)
def Rn.pf(h:Rn κ st0 st)(p:Pf lo st st'):Rn κ st0 st':=#[p.k.trans h.k,p.f.trans h.f,p.pm.trans h.pm]
def SR.pre(p:Pf lo st st')(h:SR κ (i5 st) 0 lo):SR κ (i5 st') 0 lo:=λi j b c a=>by
 rw[KK_congr (p.pre i ⋯),KK_congr (p.pre j a)];show h i j b c a
def vO(C:κ.OneLt)(hk:kindOf st=JP)(D:KeysOf κ (i5 st))(hp:tp st=#v[])(hf:Nh st=b7)(N:64<=(i5 st).size)(O:(i5 st).size<128)
  (h:∀st',Nh st'=b7->(i5 st').toList.Perm (i5 st).toList->(i5 st').toList.Pairwise (kl κ)->Q () st'):wpS (j0 prog w) A E s sortRuns' Q st:=by
 have T:minRun' (i5 st).size (i5 st).size 0=(i5 st).size / 2+(i5 st).size % 2:=by
  generalize (i5 st).size=n at N O;obtain⟨g,rfl⟩:∃g,n=g+2:=#[n - 2,⋯]
  rw[minRun'_succ,Zy ⋯,minRun'_succ,Zx ⋯];lia
 obtain⟨n,Y⟩:∃n,(i5 st).size=n:=#[_,rfl]
 rw[Y]at T N O;obtain⟨M,hM⟩:∃M,minRun' n n 0=M:=#[_,rfl]
 rw[hM]at T;show hQ (Pw ?_);have NB:((sortPriv% PySem.Builtin.SortState.a) st).size=n:=Y;have Tr:(sortPriv% PySem.Builtin.minRun) n n 0=M:=hM
 dsimp only
 rw[NB,Tr];show hQ (K6 (FG (I:=λx c st'=>Rn κ st st'/\((x=0/\c=(b7,0)/\tp st'=#v[])\/(1<=x/\c=(b7,n)/\tp st'=#v[(0,n,0)]/\SR κ (i5 st') 0 n) \/
   (x=1/\∃b,c=(b7,b)/\M<=b/\b<n/\tp st'=#v[(0,b,0)]/\SR κ (i5 st') 0 b) \/
   (2<=x/\c=(b7,n)/\∃b B,0<b/\b<n/\tp st'=#v[(0,b,B),(b,n - b,0)]/\SR κ (i5 st') 0 b/\SR κ (i5 st') b n)))
  (Q:=λc st'=>c.1=b7/\Rn κ st st'/\((tp st'=#v[(0,n,0)]/\SR κ (i5 st') 0 n)\/∃b B,0<b/\b<n/\tp st'=#v[(0,b,B),(b,n - b,0)]/\SR κ (i5 st') 0 b/\SR κ (i5 st') b n)) ?Jc ?Jd ⟨⟨hk,hf,.refl _⟩,.inl ⟨rfl,rfl,hp⟩⟩) ?JW)
 case Jd =>
  rintro c st' ⟨i,G⟩;rcases G with⟨z,_⟩|⟨_,rfl,t,u⟩|⟨z,_⟩|⟨_,rfl,z⟩
  .lia
  .show#[rfl,i,.inl #[t,u]]
  .lia
  .show#[rfl,i,.inr z]
 case JW =>
  rintro⟨c,c'⟩ st' ⟨G,i,JF⟩;cases G
  dsimp only
  have hz:=i.size;show hQ (K6 (FG (I:=λx c d=>c=(b7,())/\Rn κ st d/\((tp d).size<=1/\(i5 d).toList.Pairwise (kl κ)\/x=0/\∃b B,0<b/\b<n/\tp d=#v[(0,b,B),(b,n - b,0)]/\SR κ (i5 d) 0 b/\SR κ (i5 d) b n))
   (Q:=λc d=>c=(b7,())/\Rn κ st d/\(i5 d).toList.Pairwise (kl κ)) ?Gm ?Hf ⟨rfl,i,?NM⟩) ?Gn)
  case NM =>
   rcases JF with⟨t,u⟩|z
   .show .inl #[by rw[t];simp,?_];have:=SR.pw (lo:=0) (n:=n) (xs:=i5 st') (by rw[FE];show u) ⋯;rw[Nt,y4 (by simp;lia)]at this;show this
   .show .inr #[rfl,z]
  case Gn =>
   rintro c d ⟨rfl,l,hs⟩;show k7 (h d l.f l.pm hs)
  case Hf =>
   rintro c d ⟨rfl,l,hs⟩;rcases hs with z|⟨z,_⟩
   .show#[rfl,l,z.2]
   .lia
  case Gm =>
   rintro x c d _ hx ⟨rfl,l,hs⟩;show hQ (Pw ?_);rcases hs with⟨t,u⟩|⟨_,b,B,n0,n2,q,s1,s2⟩
   .rw[Zx t];show k7 #[rfl,l,u]
   .have VH:=l.size;have G6:(tp d).size=2:=by rw[q];rfl
    rw[Zy (by change ¬(tp d).size<=1;lia)];have hi:(if Option.any (λx=>f7 (x<(tp d)[(tp d).size - 2+1]?.elim 0 λx=>x.snd.fst)) (if (tp d).size - 2>0 then Option.map (λx=>x.snd.fst) (tp d)[(tp d).size - 2 - 1]? else b7)=cb then(tp d).size - 2 - 1 else(tp d).size - 2)=0:=by
     rw[G6];rfl
    rw[hi];have w1:=SR.pw (lo:=0) (n:=b) (xs:=i5 d) (by rw[FE];show s1) ⋯;rw[Nt]at w1;have w2:=SR.pw (lo:=b) (n:=n - b) (xs:=i5 d) (by rw[show b+(n - b)=n by lia];show s2) ⋯;rw[y4 (by simp;lia)]at w2;show hQ (o_ C l.k l.f (l.keys D) q ⋯ n0 ⋯ w1 w2 λst3 k1 k2 k3 k4 k5=>?_);show k7 #[rfl,#[k1.trans l.k,k2,k4.trans l.pm],.inl #[by rw[k3];simp,k5]]
 case Jc =>
  rintro x c st' _ hx ⟨i,G⟩;have hz:=i.size;rcases G with⟨rfl,rfl,q⟩|⟨_,rfl,t,u⟩|⟨rfl,b,rfl,m1,m2,q,s1⟩|⟨_,rfl,z⟩
  rotate_left
  .dsimp only
   rw[Zx (g0 _)];show k7 #[rfl,i,.inl #[t,u]]
  rotate_left
  .dsimp only
   rw[Zx (g0 _)];show k7 #[rfl,i,.inr z]
  .dsimp only
   rw[Zy (by change ¬0 >= n;lia)];show hQ (l3 (lo:=0) C i.k (i.keys D) ⋯ ⋯ λm st1 p1 J b2 r=>?_);rw[FE]at r
   dsimp only
   by_cases H:m<M
   .rw[Zx H];show hQ (cO ?_);have e:=i.pf p1;have v:min (n - 0) (M)=M:=by lia
    show hQ (si (lo:=0) C e.k (e.keys D) J (by change m<=min (n - 0) (M);lia) (by change 0+min (n - 0) (M)<=_;rw[e.size];lia) (by rw[FE];show r) λst2 p2 o=>?_);have o:SR κ (i5 st2) 0 (0+min (n - 0) (M)):=o;rw[v,FE]at o;have R2:=e.pf p2;have j:tp st2=#v[]:=(p2.p.trans p1.p).trans q;rw[Zy (by decide)];show hQ (Pw ?_);rw[show(tp st2).back?=b7 by rw[j];rfl];show hQ (N' ?_);show k7 #[#[R2.k,R2.f,R2.pm],.inr (.inr (.inl #[rfl,M,?_,g0 _,⋯,?_,o]))]
    .change((b7:Option Unit),0+min (n - 0) (M))=(b7,M)
     rw[v,FE]
    .change(tp st2).push (0,min (n - 0) (M),0)=_;rw[v,j];rfl
   .rw[Zy H];have e:=i.pf p1;have j:tp st1=#v[]:=p1.p.trans q;show hQ (Pw ?_);rw[show(tp st1).back?=b7 by rw[j];rfl];show hQ (N' ?_);have ep:(tp st1).push (0,m,0)=#v[(0,m,0)]:=by rw[j];rfl
    by_cases L:m=n
    .show k7 #[#[e.k,e.f,e.pm],.inr (.inl #[⋯,?_,?_,?_])]
     .change((b7:Option Unit),0+m)=_;rw[FE,L]
     .change(tp st1).push (0,m,0)=_;rw[ep,L]
     .change SR κ (i5 st1) 0 _;rw[<-L];show r
    .show k7 #[#[e.k,e.f,e.pm],.inr (.inr (.inl #[rfl,m,?_,⋯,⋯,ep,r]))];change((b7:Option Unit),0+m)=_;rw[FE]
  .dsimp only
   rw[Zy (by change ¬b >= n;lia)];show hQ (l3 (lo:=b) C i.k (i.keys D) ⋯ ⋯ λm st1 p1 J b2 r=>?_)
   dsimp only
   have e:=i.pf p1;have t1:=SR.pre p1 s1;by_cases H:m<M
   .rw[Zx H];show hQ (cO ?_);have v:min (n - b) (M)=n - b:=by lia
    show hQ (si (lo:=b) C e.k (e.keys D) J (by change m<=min (n - b) (M);lia) (by change b+min (n - b) (M)<=_;rw[e.size];lia) r λst2 p2 o=>?_);have o:SR κ (i5 st2) b (b+min (n - b) (M)):=o;rw[v,show b+(n - b)=n by lia]at o;have R2:=e.pf p2;have t2:=SR.pre p2 t1;have j:tp st2=#v[(0,b,0)]:=(p2.p.trans p1.p).trans q;rw[Zy (by decide)];show hQ (Pw ?_);rw[show(tp st2).back?=b6 (0,b,0) by rw[j];rfl];show hQ (K6 (FG (I:=λx c d=>st2=d/\c=(b7,())) (Q:=λc d=>st2=d/\c=(b7,())) ?K7 (λc d z=>z) ⟨rfl,rfl⟩) ?K8)
    case K7 =>
     rintro y c d _ hy ⟨rfl,rfl⟩;show hQ (Pw ?_);rw[Zy (by change ¬(tp st2).size>1;rw[j];simp)];show k7 #[rfl,rfl]
    case K8 =>
     rintro c d ⟨rfl,rfl⟩
     dsimp only
     show hQ (N' ?_);show hQ (N' ?_);show k7 #[#[R2.k,R2.f,R2.pm],.inr (.inr (.inr #[⋯,?_,b,(sortPriv% PySem.Builtin.power) n (2 * 0+b) (2 * 0+b+b+min (n - b) M) n,⋯,m2,?_,t2,o]))]
     .change((b7:Option Unit),b+(min (n - b) (M)))=_;rw[v,show b+(n - b)=n by lia]
     .change((tp st2).modify ((tp st2).size - 1) _).push (b,min (n - b) (M),0)=_;rw[v,j];rfl
   .rw[Zy H];have hm:m=n - b:=by lia
    subst hm;rw[show b+(n - b)=n by lia]at r;have j:tp st1=#v[(0,b,0)]:=p1.p.trans q;show hQ (Pw ?_);rw[show(tp st1).back?=b6 (0,b,0) by rw[j];rfl];show hQ (K6 (FG (I:=λx c d=>st1=d/\c=(b7,())) (Q:=λc d=>st1=d/\c=(b7,())) ?K9 (λc d z=>z) ⟨rfl,rfl⟩) ?K_)
    case K9 =>
     rintro y c d _ hy ⟨rfl,rfl⟩;show hQ (Pw ?_);rw[Zy (by change ¬(tp st1).size>1;rw[j];simp)];show k7 #[rfl,rfl]
    case K_ =>
     rintro c d ⟨rfl,rfl⟩
     dsimp only
     show hQ (N' ?_);show hQ (N' ?_);show k7 #[#[e.k,e.f,e.pm],.inr (.inr (.inr #[⋯,?_,b,(sortPriv% PySem.Builtin.power) n (2 * 0+b) (2 * 0+b+b+(n - b)) n,⋯,m2,?_,t1,r]))]
     .change((b7:Option Unit),b+(n - b))=_;rw[ show b+(n - b)=n by lia]
     .change((tp st1).modify ((tp st1).size - 1) _).push (b,n - b,0)=_;rw[ j];rfl
end
section
def uc(hk:k=xs.size)(h:xs.toList.Pairwise (kl κ)):YT κ xs k:=by
 subst hk;intro i j b a;rcases Nat.lt_or_eq_of_le b with hl|rfl
 .have:=IM.mp h i j (by simpa using KN hl a) (by simpa using a) hl;have hi:i<xs.size:=KN hl a;simpa[kl,KK,kk,hi,a] using this
 .show F9 _
def kg(f:κ.OneLt)(ho:s.heap.get? a=b6 (JH "list" vs.toArray n))(g:KeysOf κ (TR vs))(i:∀b c rest,vs=b::c::rest->keyKind' (b::c::rest).toArray=pure JP)(t:vs.length<128)
  (h:∀st':Ms,(i5 st').Perm (TR vs)->YT κ (i5 st') (TR vs).size->P (.done (.ret .none)) {s with heap:=Yu s.heap a vs ((i5 st').map (·.2))}):iv (j0 prog w) A (MU.«list.sort» ⟨[.ref a],[]⟩) P E s:=by
 by_cases d:vs.length<64
 .show list_sort_treeK f ho g i d h
 rw[list_sort_plain];have u:=i0 ho;show b8 (XG ho rfl (b8 (Xg ho rfl ?_)));obtain⟨j,k⟩:∃j,(s.heap.update a (vu λ_=>#v[])).get? a=b6 (JH "list" #v[] j):=#[_,Y4 ho (λ_=>#v[])]
 show b8 (seqEpoch_at k rfl (b8 (wpAny_newTuple (b8 (wpAny_newList (zy ?_))))));have l:(((s.heap.update a (vu λ_=>#v[])).push (JH "tuple" vs.toArray 0)).push (JH "list" #v[] 0)).get? a=_:=ek _ (ek _ k)
 dsimp only
 have h2:¬vs.toArray.size<2:=by rw[ko];lia
 rw[Zy h2,Zy h2];obtain⟨b,c,rest,rfl⟩:∃b c rest,vs=b::c::rest:=by
  rcases vs with _|⟨b,_|⟨c,rest⟩⟩
  .show absurd (Nat.zero_lt_succ 63) d
  .show absurd (by decide:1<64) d
  .show#[b,c,rest,rfl]
 rw[i _ _ _ rfl];show b8 (eH (b8 (tA (vO (κ:=κ) (st:=W4 JP (TR (b::c::rest)) #v[] 7 b7) (Q:=λ_ st'=>(i5 st').Perm (TR (b::c::rest))/\Nh st'=b7/\YT κ (i5 st') (TR (b::c::rest)).size)
  f rfl g rfl rfl (by change 64<=(TR _).size;rw[XF];lia) (by change(TR _).size<128;rw[XF];lia) λst' p m q=>#[Nk.mpr m,p,uc (Nk.mpr m).size_eq.symm q]) ?_ λ_ _ e=>e)))
 rintro⟨⟨⟩,st'⟩ s' ⟨rfl,o,r,hs⟩;show b8 (seqEpoch_at l rfl (b8 (Xg l rfl ?_ (hsz2:=?_))))
 .rw[r];simp only[bne_self_eq_false,HF,if_false];show eH (h st' o hs)
 .show F8 (UU ((Array.size_map ..).trans (o.size_eq.trans (XF _)))) ?_;rw[X1];lia
end
end LB
namespace L2
open PySem PySem.Spec PyProof.Rows
abbrev Hy(a b:Str):Bool:=!f7 (b.cps.toList<a.cps.toList)
def jQ(a b:Str):Hy a b=cb↔a.cps.toList<=b.cps.toList:=by
 simp only[Hy,Fx,decide_eq_false_iff_not];show List.not_lt
def l4(a b c:Str)(d:Hy a b=cb)(h2:Hy b c=cb):Hy a c=cb:=by
 rw[jQ]at d h2 ⊢;show List.le_trans d h2
def ud(a b:Str):(Hy a b||Hy b a)=cb:=by
 rw[PN,jQ,jQ];show List.le_total _ _
def vP{x y:Str}(h:x.cps.toList=y.cps.toList):x=y:=by
 cases x;cases y;congr
 show KO.mp h
def nq(c:Hy a b=cb)(h2:Hy b a=cb):a=b:=by
 rw[jQ]at c h2;show vP (List.le_antisymm c h2)
abbrev aA(l:List Str):List Str:=l.mergeSort Hy
def br(l:List Str):(aA l).Perm l:=Xj l Hy
def fg(l:List Str):(aA l).Pairwise (λa b=>Hy a b=cb):=WD l4 ud l
theorem ir:∀(l:List Str) (p:Str),risingS p l=cb->(p::l).Pairwise (λa b=>Hy a b=cb)
 |[],p,_=>by simp
 |x::r,p,h=>by
  have h':(!ltCps x.cps.toList p.cps.toList&&risingS x r)=cb:=h;have(c,h2):=H4.mp h';have d:=ir r x h2;have f:Hy p x=cb:=by rw[ltCps_eq]at c;show c
  show HD.mpr #[λy g=>?_,d];rcases i1.mp g with e|e
  .rw[e];show f
  .show l4 _ _ _ f ((HD.mp d).1 y e)
def nu(h:sortedS l=cb):l.Pairwise (λa b=>Hy a b=cb):=by
 cases l with
 |nil=>show .nil
 |cons x r=>show ir r x h
theorem fW:∀{l m:List Str},l.Perm m->l.Pairwise (λa b=>Hy a b=cb)->m.Pairwise (λa b=>Hy a b=cb)->l=m
 |[],m,c,_,_=>(List.Perm.nil_eq c)
 |x::l,m,c,d,h2=>by
  cases m with
  |nil=>show absurd c.length_eq (by simp)
  |cons y m =>
   have(f,g):=HD.mp d;have(h,i):=HD.mp h2;have j:x=y:=by
    have m1:x∈y::m:=c.mem_iff.mp ov;have m2:y∈x::l:=c.mem_iff.mpr ov;rcases i1.mp m1 with e|e
    .show e
    .rcases i1.mp m2 with e'|e'
     .show e'.symm
     .show nq (f y e') (h x e)
   subst j;rw[fW (WH c) g i]
def vQ(a:l.Perm m)(hs:sortedS l=cb):l=aA m:=fW (a.trans (br m).symm) (nu hs) (fg m)
def pb(a:l.Perm m):aA l=aA m:=fW ((br l).trans (a.trans (br m).symm)) (fg l) (fg m)
def bp(l:List Str):(aA l).length=l.length:=(br l).length_eq
section
theorem di:∀{a:List Str}{its:List fx},Vals (a.map V.str) its->PV its a
 |[],_,.nil=>.nil
 |y::a,_,.cons r t=>by
  have(b,rfl):=r;show .cons y b (di t)
theorem en:∀{its:List fx}{a:List Str},PV its a->Vals (a.map V.str) its
 |_,_,.nil=>.nil
 |_,_,.cons x t h=>.cons #[t,rfl] (en h)
theorem gE(hc:iv (j0 prog w) A.in1 (TB x) (λvs s1=>∃ss,PV vs ss/\vs.length<128 /\
      ∀(h':H9) (F_:List fx) (e:Nat),(∀b o,s1.heap.get? b=b6 o->h'.get? b=b6 o)->h'.get? s1.heap.objs.size=b6 (JH "list" F_.toArray e)->PV F_ (aA ss)->Q (.ref s1.heap.objs.size) {s1 with heap:=h' }) E s) :
    iv (j0 prog w) A (OK (.builtin "sorted") [x]) Q E s:=by
  refine VO kind_sorted plain_sorted entry_sorted (args_sorted1 _) ?_;unfold MU.«sorted»;refine b8 (m:=checkCount "sorted" 1 1 _) (eH ?_);refine b8 (tA hc (λvs s1 h1=>?_) λ_ _ e=>e);obtain⟨ss,hS,Hh,h⟩:=h1
  refine wpAny_bind (wpAny_newList ?_ (by have : (128 : Nat) ≤ sizeLine := by decide
                                          lia))
  have IY:(s1.heap.push (JH "list" vs.toArray 0)).get? s1.heap.objs.size=b6 (JH "list" vs.toArray 0):=hH _ rfl;show iv _ _ _ _ _ {s1 with heap:=s1.heap.push (JH "list" vs.toArray 0)};refine b8 (zy (Lh Zq ⟨_,IY,rfl⟩ Y5 (LB.kg strKind_oneLt IY hS.keysOf (λv₁ v₂ rest e=>keyKind_strs (by rw[<-e];exact hS)) Hh λst' a1 a2=>⟨_,rfl,?_⟩) (Zv _)));obtain⟨HQ,b1,b2,b3⟩:=sorted_out_str hS a1 a2;obtain⟨e,he⟩:=Xf (out:=(i5 st').map (·.2)) IY;rw[vQ b2 b3]at b1;refine eH ⟨_,rfl,h _ ((i5 st').map (·.2)).toList e (λb o q=>?_) (by rw[RL];exact he) b1⟩;have Fv:b<s1.heap.objs.size:=i0 q;show(Yu (s1.heap.push (JH "list" vs.toArray 0)) s1.heap.objs.size vs ((i5 st').map (·.2))).get? b=b6 o;rw[WW (l' Fv) (by rw[G'];exact Ie Fv)];exact ek _ q
def lH(hl:X_ s.heap l vs.toArray)
  (h:Q vs {s with heap:=(s.heap.push (JH "list" #v[] 0)).update s.heap.objs.size (vu (·++vs.toArray))}) (hsz:vs.length<=eF) :
  iv (j0 prog w) A (TB (.ref l)) Q E s:=by
 have(o,ho,b,n,hd):=id hl;unfold TB;show b8 (Qt (As entry_proto_collect' ?_));change iv _ _ (do YC (.builtin "list.__iadd__" ⟨[<-Xy [],.ref l],[]⟩)) _ _ s;show b8 (wpAny_newList (eH #[P7 _ (by decide +kernel),As entry_list_iadd' ?_]));change iv _ _ (Hr (.ref s.heap.objs.size) (.ref l) (.ref s.heap.objs.size)) _ _ {s with heap:=s.heap.push (JH "list" #v[] 0)};unfold Hr;have a:(s.heap.push (JH "list" #v[] 0)).get? l=b6 o:=ek _ ho;show b8 (LH (T:="tuple") #[o,a,b] ?_);have c:(IU "tuple"==IU "tuple")=cb:=by rfl
 rw[Zx (by rw[c];simp)];show b8 (XG a hd ?_);show b8 (XG (xs:=#v[]) (n:=0) (hH _ rfl) rfl ?_);rw[Zy (by simp)];show b8 (Xg (xs:=#v[]) (n:=0) (hH _ rfl) rfl ?_ (qq _) (by change(#v[]++vs.toArray).size<=eF+1;simp only[Tx,ko,PF];lia));show eH ?_;change iv (j0 prog w) A (do
   let o <-load s.heap.objs.size
   match o.data with
   |.seq xs _=>pure xs.toList
   |_=>unsupported "internal:collect") Q E {s with heap:=(s.heap.push (JH "list" #v[] 0)).update s.heap.objs.size (vu (·++vs.toArray))}
 show b8 (WL (Y4 (hH _ rfl) _) ?_);change iv _ _ (pure ((#v[]:Array fx)++vs.toArray).toList) Q E _;rw[show((#v[]:Array fx)++vs.toArray).toList=vs by simp];show eH h
end
section
def gq{h:H9}{vs:List fx}(e:h.get? b=b6 o):((h.push (JH "list" #v[] 0)).update h.objs.size (vu (·++vs.toArray))).get? b=b6 o:=by
 rw[PR _ _ _ _ (l' (i0 e))];show ek _ e
def ph(I:Inv X a σ H s)(k1:∀b o,s.heap.get? b=b6 o->s1.heap.get? b=b6 o)(h:∃d c,s1={s with heap:=d,toks:=c})
  (hk:∀b o,s1.heap.get? b=b6 o->h'.get? b=b6 o) (i:h'.get? s1.heap.objs.size=b6 (JH "list" f.toArray e)) (j:PV f (aA ss)) (hsz:s.heap.objs.size<=s1.heap.objs.size) (hl:ss.length<=eF)
  (q:∀p,H p=b7->Q (.ref p) (upd H p (.lst ((aA ss).map V.str)))):EP X a σ Q (.ref s1.heap.objs.size) {s1 with heap:=h' }:=by
 have(d,c,rfl):=h;have g:Inv X a σ H {s with heap:=d,toks:=c}:=I.kept (t':=c) k1;show#[.ref d.objs.size,_,g.laid (t':=c) (o:=.lst ((aA ss).map V.str)) hk (g0 _) #[by rw[f6,bp];show hl,f,e,en j,i],rfl,q _ (g.Fe.fresh (g0 _))]
def ju:dS X (.builtin "sorted") (λxs H Q=>∃(p:i6) (a:List Str),xs=[.ref p]/\(FR X.K H p (a.map V.str)\/FW X.K H p (a.map V.str))/\a.length<128/\∀q,H q=b7->Q (.ref q) (upd H q (.lst ((aA a).map V.str)))):=by
 intro f s σ H xs us Q I rs h;have(p,a,rfl,hq,l,q):=h;have(u,rfl,r):=vals1 rs;cases r;have hl:a.length<=eF:=LA (mA l (by decide));have g:∀(its:List fx),Vals (a.map V.str) its->∀(h':H9) (d:List fx) (e:Nat),(∀b o,((s.heap.push (JH "list" #v[] 0)).update s.heap.objs.size (vu (·++its.toArray))).get? b=b6 o->h'.get? b=b6 o) ->
   h'.get? ((s.heap.push (JH "list" #v[] 0)).update s.heap.objs.size (vu (·++its.toArray))).objs.size=b6 (JH "list" d.toArray e)->PV d (aA a) ->
   EP X f σ Q (.ref ((s.heap.push (JH "list" #v[] 0)).update s.heap.objs.size (vu (·++its.toArray))).objs.size) {s with heap:=h' }:=λits c h' d e hk i j =>
  ph (s1:={s with heap:=(s.heap.push (JH "list" #v[] 0)).update s.heap.objs.size (vu (·++its.toArray))}) I (λb o z=>gq z) ⟨_,s.toks,rfl⟩ hk i j (by change s.heap.objs.size<=((s.heap.push (JH "list" #v[] 0)).update s.heap.objs.size (vu (·++its.toArray))).objs.size;rw[XN,G'];show IE _) hl q
 rcases hq with hq|hq
 .have(its,c,k,hz):=I.list hq;have m:its.length=a.length:=by rw[<-c.length,f6]
  show gE (collect_list k.isList #[a,di c,⋯,λh' d e hk i j=>g its c h' d e hk i j] ⋯)
 .have(its,c,k,hz):=I.tuple hq;have m:its.length=a.length:=by rw[<-c.length,f6]
  show gE (lH k #[a,di c,⋯,λh' d e hk i j=>g its c h' d e hk i j] ⋯)
end
@[reducible]noncomputable def sK(P:y1)(w:F7):=PySem.strKind P w
abbrev eX(P:y1)(w:F7)(h:H9)(a:i6)(led:Bool)(D:List Str):Prop :=
 ∃(L:List (Str×Tok)) (es:Array (Int×fx)) (ep:Nat) (t:Nc),h.get? a=b6 {cls:=.type "set",dict:=b7,data:=.set es ep t}/\es.toList=L.map (λp=>((sK P w).hash p.1,IZ p.1 p.2)) /\
  (L.map (·.1)).Perm D/\D.Nodup/\t.fits es.size=cb/\es.size<Gy/\t.led=led/\(es.size=0\/t.plain=dV)
section
def vR{L:List (Str×Tok)}:YI (sK prog w) (L.map λp=>((sK prog w).hash p.1,IZ p.1 p.2)):=by
 intro e a;have(p,_,rfl):=my.mp a;show#[#[p.1,by simp[PySem.strKind,OR],rfl],rfl]
def sj(x y:Str)(t:Tok):(sK prog w).is x (.str y t)=f7 (x=y):=by
 rw[G8];simp[PySem.strKind,OR];show#[λh=>h.symm,λh=>h.symm]
def kh(t:Nc)(es:Array (Int×fx))(h:Int)(x:fx):(WR t es h x).2.1.led=t.led:=by
 unfold WR;split
 .change(RM (t.put _).1 _).led=t.led;unfold RM;split<;>rfl
 .rfl
def iu(t:Nc)(es:Array (Int×fx))(n:Nat):(Qx t es n).2.1.led=t.led:=by
 unfold Qx;split
 .rename_i t' b a;have:t'.led=t.led:=by
   unfold TH U3 at a;cases c:Sz (PD n - 1) (es.map (·.1)) with
   |none=>rw[c]at a;cases a
   |some o=>rw[c]at a;cases a;rfl
  dsimp only
  split
  .show this
  .rfl
 .rfl
def ki(t:Nc)(es:Array (Int×fx))(n:Nat)(h:t.plain=dV):(Qx t es n).2.1.plain=dV:=by
 unfold Qx;split
 .rename_i t' b a;have:t'.plain=t.plain:=by
   unfold TH U3 at a;cases c:Sz (PD n - 1) (es.map (·.1)) with
   |none=>rw[c]at a;cases a
   |some o=>rw[c]at a;cases a;rfl
  dsimp only
  split
  .rw[this];show h
  .rfl
 .rfl
def gF(h:l.Perm (L.map λp=>((sK prog w).hash p.1,IZ p.1 p.2))):∃a:List (Str×Tok),l=a.map (λp=>((sK prog w).hash p.1,IZ p.1 p.2))/\a.Perm L:=by
 have all:∀e∈l,∃p:Str×Tok,e=((sK prog w).hash p.1,IZ p.1 p.2):=λe b=>by
  have(p,_,rfl):=my.mp (h.mem_iff.mp b);show#[p,rfl]
 have ex:∀l:List (Int×fx),(∀e∈l,∃p:Str×Tok,e=((sK prog w).hash p.1,IZ p.1 p.2))->∃a:List (Str×Tok),l=a.map (λp=>((sK prog w).hash p.1,IZ p.1 p.2)):=by
  intro l;induction l with
  |nil=>intro _;show#[[],rfl]
  |cons e l d =>
   intro c;have(p,rfl):=c e ov;have(a,rfl):=d λe b=>c e (nc _ b);show#[p::a,rfl]
 have(a,rfl):=ex l all;show#[a,rfl,?_];have g:(a.map λp=>((sK prog w).hash p.1,IZ p.1 p.2)).map (λe=>match e.2 with|.str x t=>(x,t)|_=>(DD,0))=a:=by
  rw[mn];show R7 _
 have f:(L.map λp=>((sK prog w).hash p.1,IZ p.1 p.2)).map (λe=>match e.2 with|.str x t=>(x,t)|_=>(DD,0))=L:=by
  rw[mn];show R7 _
 have:=h.map (λe=>match e.2 with|.str x t=>(x,t)|_=>(DD,0));rw[g,f]at this;show this
theorem qD(hS:eX prog w s.heap a led D)(Hz:D.length+1<Gy)
    (h:∀h',H_ a s.heap h'->eX prog w h' a led (if x∈D then D else D++[x])->Q (f7 (x∉D)) {s with heap:=h' }) :
    iv (j0 prog w) A (Vb a (.str x tk) ((sK prog w).hash x)) Q E s:=by
  obtain⟨L,es,ep,t,ho,Hi,FC,Fu,hf,hb,GV,GO⟩:=hS;have K':(sK prog w).is x (.str x tk)=cb:=by rw[sj];simp
  have ML:YI (sK prog w) es.toList:=by rw[Hi];exact vR
  have hlen:es.size=D.length:=by rw[<-mu,Hi,f6,<-f6 (f:=Prod.fst) (as:=L),FC.length_eq]
  unfold Vb Y_;refine zy (b8 (z8 ho rfl hf ?_))
  dsimp only
  rw[byScan_of (knd:=sK prog w) rfl hb ML];simp only[↓ZG];unfold setAddByScan;refine b8 ?_;refine b8 (KJ ?_);refine b8 (YL (knd:=sK prog w) K' ho rfl hf ML ?_);have mem_iff:(∃e∈es.toList,(sK prog w).is x e.2=cb)↔x∈D:=by
    rw[Hi,<-FC.mem_iff,my];constructor
    · rintro⟨e,he,hi⟩
      obtain⟨p,hp,rfl⟩:=my.mp he;rw[sj,Zz]at hi;exact⟨p,hp,hi.symm⟩
    · rintro⟨p,hp,e⟩
      exact⟨_,my.mpr ⟨p,hp,rfl⟩,by rw[sj];simp[e]⟩
  cases hr:Ww (λe=>(sK prog w).is x e.2) es.toList with
  | some j =>
    dsimp only
    obtain⟨hj,O5,_⟩:=Ts.mp hr;have hx:x∈D:=mem_iff.mp ⟨es.toList[j],KX hj,O5⟩;refine eH (eH ?_);have e:s={s with heap:=s.heap}:=by cases s;rfl
    have:=h s.heap (Ri a s.heap) (by rw[Zx hx];exact⟨L,es,ep,t,ho,Hi,FC,Fu,hf,hb,GV,GO⟩);rw[ZA (λz=>z hx)]at this;rw[e];exact this
  | none =>
    dsimp only
    have hx:x∉D:=λhx=>by
      obtain⟨e,he,hp⟩:=mem_iff.mpr hx;have:=Wo.mp hr e he;rw[hp]at this;exact XY this
    have O6:∀(b:Bool) {s₁:hW} {Q':Unit->hW->Prop},Q' () s₁->iv (j0 prog w) A (match b with|true=>Yp "set.scan.the-table-gave-way"|false=>pure ()) Q' E s₁ :=
      λb s₁ Q' hq=>by cases b<;>first|exact eH hq|exact KJ hq
    have IK:=layNew_perm t es ((sK prog w).hash x) (.str x tk);have Gp:=layNew_fits t es ((sK prog w).hash x) (.str x tk);have GW:=kh t es ((sK prog w).hash x) (.str x tk);generalize hL:WR t es ((sK prog w).hash x) (.str x tk)=NL at IK Gp GW ⊢;obtain⟨Fw,t1,GX,O7⟩:=NL
    dsimp only at IK Gp GW ⊢
    rw[ri,Hi,show [((sK prog w).hash x,IZ x tk)]=[(x,tk)].map (λp=>((sK prog w).hash p.1,IZ p.1 p.2)) from rfl,<-uk]at IK;obtain⟨L1,e1,O8⟩:=gF IK;have Iy:Fw.size=D.length+1:=by rw[<-mu,IK.length_eq,f6,oT,<-hlen,<-mu,Hi,f6];rfl
    have MM:Fw.size<Gy:=by lia
    have HA:(L1.map (·.1)).Perm (D++[x]):=(O8.map _).trans (by rw[uk];exact FC.append_right _);have MN:(D++[x]).Nodup:=by
      rw[MX]
      exact ⟨Fu, by simp, fun y hy z hz => by have : z = x := by simpa using hz
                                              subst this;rintro rfl;exact hx hy⟩
    refine b8 (O6 _ ?_);have Jg:∀h',H_ a s.heap h'->eX prog w h' a led (D++[x])->Q cb {s with heap:=h' }:=λh' sb hs=>by
      have:=h h' sb (by rw[Zy hx];exact hs);rw[ZC hx]at this;exact this
    have tail:∀(g:Bool->Sem Unit),(∀(b:Bool) (s₁:hW) (Q':Unit->hW->Prop),Q' () s₁->iv (j0 prog w) A (g b) Q' E s₁)->∀(R:Option Bool->hW->Prop),(∀h',H_ a s.heap h'->eX prog w h' a led (D++[x])->R (b6 cb) {s with heap:=h' })->∀t2:Nc,t2.fits Fw.size=cb->t2.led=led->t2.plain=dV->iv (j0 prog w) A (do
        storeSet a Fw t2
        if (!GX&&t2.tooFull)=true then do
            g (relayAll t2 Fw (SetTable.grown Fw.size)).2.2
            storeSet a (relayAll t2 Fw (SetTable.grown Fw.size)).1 (relayAll t2 Fw (SetTable.grown Fw.size)).2.1
            pure (some true)
          else pure (b6 cb)) R E s:=by
      intro g hg R hR t2 O9 GH HB;refine b8 (QU ho rfl ?_ (QY MM));have JZ:(s.heap.update a (LC Fw t2)).get? a=b6 {cls:=.type "set",dict:=b7,data:=.set Fw (ep+1) t2}:=by
        have:=A0 (LC Fw t2) ho rfl;exact this
      have Jh:=JM s.heap a (LC Fw t2);split
      · have hp:=relayAll_perm t2 Fw (Jm Fw.size)
        have Ji:=relayAll_fits t2 Fw (Jm Fw.size);have La:=iu t2 Fw (Jm Fw.size);have JL:=ki t2 Fw (Jm Fw.size) HB;generalize MO:Qx t2 Fw (Jm Fw.size)=Rl at hp Ji La JL ⊢;obtain⟨Gq,t3,MP⟩:=Rl
        dsimp only at hp Ji La JL ⊢
        rw[e1]at hp;obtain⟨L2,e2,O_⟩:=gF hp;have hsz:Gq.size=Fw.size:=by rw[<-mu,hp.length_eq,<-e1,mu]
        refine b8 (hg _ _ _ ?_);refine b8 (QU JZ rfl ?_ (QY ⋯));have Lb:((s.heap.update a (LC Fw t2)).update a (LC Gq t3)).get? a=b6 {cls:=.type "set",dict:=b7,data:=.set Gq (ep+1+1) t3}:=A0 (LC Gq t3) JZ rfl;refine eH (hR _ (Jh.trans (JM _ a _)) ⟨L2,Gq,_,t3,Lb,e2,(O_.map _).trans HA,MN,Ji,⋯,La.trans GH,.inr JL⟩)
      · exact eH (hR _ Jh ⟨L1,Fw,_,t2,JZ,e1,HA,MN,O9,MM,GH,.inr HB⟩)
    split
    · rename_i hp
      refine b8 ?_;rw[XJ 8 rfl];refine eH ?_;have ep:(if plainKind (IZ x tk)=cb then t1 else {t1 with plain:=dV})={t1 with plain:=dV}:=rfl;rw[ep];refine tail _ ?_ _ ?_ {t1 with plain:=dV} (SetTable.fits_plain_off Gp) (GW.trans GV) rfl
      · intro b s₁ Q' hq;cases b<;>first|exact eH hq|exact KJ hq
      · intro h' Iz GI;dsimp only;exact eH (Jg h' Iz GI)
    · rename_i hp
      refine b8 (eH ?_);simp only[↓ZG];refine tail _ ?_ _ ?_ t1 Gp (GW.trans GV) (OD.mpr hp)
      · intro b s₁ Q' hq;cases b<;>first|exact eH hq|exact KJ hq
      · intro h' Iz GI;dsimp only;exact eH (Jg h' Iz GI)
end
abbrev jF(D:List Str)(x:Str):List Str:=if x∈D then D else D++[x]
abbrev ak(l:List Str):List Str:=l.foldl jF []
theorem qE(h:D.Nodup):(jF D x).Nodup:=by
  unfold jF;split
  · exact h
  · rename_i hx
    rw[MX]
    exact ⟨h, by simp, fun y hy z hz => by have : z = x := by simpa using hz
                                           subst this;rintro rfl;exact hx hy⟩
theorem et:∀(l D:List Str),D.Nodup->(l.foldl jF D).Nodup/\(∀x,x∈l.foldl jF D↔x∈D\/x∈l)/\(l.foldl jF D).length<=D.length+l.length
 |[],D,h=>#[h,by simp,by simp]
 |y::l,D,h=>by
  have(a,h2,d):=et l (jF D y) (qE h);have b:∀x,x∈jF D y↔x∈D\/x=y:=λx=>by
   unfold jF;split
   .rename_i c;show#[.inl,λz=>z.elim id (λe=>e▸c)]
   .simp
  have hl:(jF D y).length<=D.length+1:=by
   unfold jF;split
   .lia
   .simp
  show#[a,λx=>?_,by rw[MD,ti];lia];rw[MD,h2,b,i1,or_assoc]
def eu(l:List Str):(ak l).Nodup:=(et l [] Lf).1
def gG(l:List Str)(x:Str):x∈ak l↔x∈l:=by rw[ak,(et l [] Lf).2.1];simp
def dm(l:List Str):(ak l).length<=l.length:=by have:=(et l [] Lf).2.2;simpa[ak] using this
def pj(l:List Str)(x:Str):ak (l++[x])=jF (ak l) x:=by unfold ak;rw[T1];rfl
section
variable{prog:y1}{w:F7}{A:J0}{R:Zn->hW->Prop}{I:i6}{fp wr:List i6}{G:Array WU->Array WU->Prop}{n:Nat}{P:Nat->fx->Prop}{St:Nat->hW->Prop}
def iZ(W:Zh prog w A.in1 I fp wr G n P St)(S:i6)(l:S∉fp)(led:Bool)
  (a:List Str) (hn:a.length=n) (u:∀i v,P i v->∃x t,a[i]?=b6 x/\v=.str x t) (c:n+1<Gy) :
  ∀(k i:Nat) (s:hW),n - i=k->i<=n->St i s->eX prog w s.heap S led (ak (a.take i)) ->
   (∀s',Moved (S::wr) G s s'->eX prog w s'.heap S led (ak a)->R (.ok (.ret .none)) s') ->
   Pt (j0 prog w) A (.builtin "set.update.loop" ⟨[.ref S,.ref I],[]⟩) R s:=by
 have m:S∉wr:=λh=>l (W.sub _ h);have p:∀b∈wr,b∈S::wr:=λb c=>nc _ c;intro k;induction k with
 |zero =>
  intro i s hk hi g f j;have y:i=n:=by lia
  subst y;show As JA ?_;rw[Ds D1 _];change iv _ A.in1 (P_ (.ref I) >>= _) _ _ s;show b8 (W.done s _ _ g λs' d=>?_);change iv _ A.in1 (ret GA) _ _ s';rw[y4 ⋯]at f;show eH (j s' (d.mono p) (by
   have(L,es,ep,t,ho,rest):=f;show#[L,es,ep,t,d.heap S _ m ho,rest]))
 |succ k z =>
  intro i s hk hi g f j;have q:i<n:=by lia
  show As JA ?_;rw[Ds D1 _];change iv _ A.in1 (P_ (.ref I) >>= _) _ _ s;show b8 (W.item i s _ _ q g λv s' B C d=>?_);have(x,t,D,rfl):=u i v B;have H:eX prog w s'.heap S led (ak (a.take i)):=by
   have(L,es,ep,J,ho,rest):=f;show#[L,es,ep,J,d.heap S _ m ho,rest]
  change iv _ A.in1 (OB [IZ x t] (Y' S (.str x t)) >>= _) _ _ s';show b8 (zy ?_);unfold Y';show zy ?_;show b8 ((sK prog w).pyHash (k:=x) (by rw[sj];simp) ?_);have N:(ak (a.take i)).length+1<Gy:=by have:=dm (a.take i);rw[sd]at this;lia
  show qD (s:={s' with toks:=s'.toks+1}) H N λh' r O=>?_;have Q:eX prog w h' S led (ak (a.take (i+1))):=by
   rw[MV,D];change eX prog w h' S led (ak (a.take i++[x]));rw[pj];show O
  show eH #[LV D1 _,z (i+1) _ ⋯ q (W.frame _ s' _ _ C (IE _) λb c o e=>?_) Q λT Y Le=>?_]
  .rw[r.2 b (λh:b=S=>l (by rw[<-h];show c))];show e
  .show j T (YG W.gtrans ((d.mono p).then_heap (IE _) λb o c e=>?_) Y) Le;rw[r.2 b (λh:b=S=>c (by rw[h];show ov))];show e
end
section
def gr(a:fx)
  (h:Q₁ (.ref s.heap.objs.size) {s with heap:=s.heap.push {cls:=.type "set",dict:=b7,data:=.set #v[] 0 (.fresh 0 0 (!w.params.followText "set-order"))}}) :
  Pt (j0 prog w) A (.call (.builtin "set.__new__") #[[.type "set",a],[]]) (wants Q₁ E) s:=by
 show WB ?_;change iv _ A.in1 (do Wj "set.__new__" ⟨[.type "set",a],[]⟩;YC (.builtin "set.__new__" ⟨[.type "set",a],[]⟩)) _ _ s;show b8 (XZ (PySem.F.newCall_set_1 a) (eH #[LV PySem.F.plain_set_new _,As PySem.F.entry_set_new ?_]));rw[Ds PySem.F.plain_set_new _];unfold MU.«set.__new__» X9;have b:=Xu;have(c,g,d,e,os):=s
 dsimp only
 wp_walk
 show V' (eH ?_)
 dsimp only
 simp only[newObj];show b8 (wpAny_alloc (eH ?_));show eH h
def qF(b:h.get? a=b6 {cls:=.type "set",dict:=b7,data:=.set #v[] 0 (.fresh 0 0 led)}):eX prog w h a led [] :=
 #[[],#v[],0,_,b,rfl,.nil,Lf,rfl,by unfold Gy;decide,rfl,.inl rfl]
end
def sub_tuple_set:Qg (.type "tuple") (.type "set")=pure dV:=by rw[S7];kernel_rfl
def sub_tuple_frozenset:Qg (.type "tuple") (.type "frozenset")=pure dV:=by rw[S7];kernel_rfl
section
@[reducible]noncomputable def bb(w:F7):Bool:=!w.params.followText "set-order"
@[reducible]noncomputable def iw(led:Bool):Obj:={cls:=.type "set",dict:=b7,data:=.set #v[] 0 (.fresh 0 0 led)}
def iy
  (L:s.TypeIs (.ref l) T) (Pb:Qg (.type T) (.type "set")=pure dV) (Pc:Qg (.type T) (.type "frozenset")=pure dV) (FZ:(IU T==IU "dict")=dV)
  (N:a.length+1<Gy)
  (k:∀(s1:hW) (B:J0) (Q':fx->hW->Prop),B.handled=A.handled->(∀b o,s.heap.get? b=b6 o->s1.heap.get? b=b6 o)->s.heap.objs.size<s1.heap.objs.size ->
   (∀I m n G P St d,Zh prog w B.in1 I m n G a.length P St->(∀g g',G g g'->g'=g)->s.heap.objs.size∉m->(∀b∈n,s.heap.objs.size<b)->(∀i v,P i v->∃x t,a[i]?=b6 x/\v=.str x t)->St 0 {s1 with heap:=d}->(∀b o,s1.heap.get? b=b6 o->d.get? b=b6 o)->Q' (.ref I) {s1 with heap:=d})->iv (j0 prog w) B (S3 (.ref l)) Q' E s1)
  (h:∀(h':H9) (f:Nat),eX prog w h' s.heap.objs.size (bb w) (ak a)->(∀b o,b<s.heap.objs.size->s.heap.get? b=b6 o->h'.get? b=b6 o)->Q (.ref s.heap.objs.size) {s with heap:=h',toks:=f}) :
  iv (j0 prog w) A (OK (.type "set") [.ref l]) Q E s:=by
 have(c,tl,Pd):=PySem.F.called_set.mro;have MR:=PySem.F.called_set.made;have HC:=PySem.F.called_set.sub;show WM (WB ?_);change iv _ _ (callAny (.type "set") _) _ _ _;show eH #[P7 _ (by decide +kernel),As PySem.F.entry_type_call ?_];rw[W3 (XI "set" [.ref l] []) rfl];have d:=PySem.F.called_set.notType;have h2:=PySem.F.called_set.canCreate;have Tt:=PySem.F.typeCall_set_1 (.ref l)
 repeat (any_goals (first|assumption|wp_step))
 show Oa (gr (.ref l) (E:=E) (Q₁:=λobj C=>obj=.ref s.heap.objs.size/\C={s with heap:=s.heap.push (iw (bb w))}) ⟨rfl,rfl⟩) λr C p=>?_;cases r with
 |error e=>show p
 |ok O =>
  cases O with
  |ret obj =>
   have(rfl,rfl):=p;have D:(s.heap.push (iw (bb w))).get? s.heap.objs.size=b6 (iw (bb w)):=hH _ rfl;have Y:Lp {s with heap:=s.heap.push (iw (bb w))} (.ref s.heap.objs.size) "set":=#[_,D,rfl]
   have Tu:=PySem.F.called_set.init.lookup;have Tv:=PySem.F.called_set.init.bind (.ref s.heap.objs.size)
   repeat (any_goals (first|assumption|wp_step))
   show Oa (PY (R:=wants (λr H=>r=.none/\∃h' f,H={s with heap:=h',toks:=f} /\
     eX prog w h' s.heap.objs.size (bb w) (ak a) /\
     (∀b o,b<s.heap.objs.size->s.heap.get? b=b6 o->h'.get? b=b6 o)) E) PySem.F.called_set.init.plain PySem.F.entry_set_init (YN Y ?_)) λr₂ H q=>?_
   .have(ol,LW,J):=L;have(Pe,Jk,Jl,HS):=ol;simp only at J;subst J;have Lg:(s.heap.push (iw (bb w))).get? l=b6 {cls:=.type T,dict:=Jk,data:=Jl,slots:=HS}:=ek _ LW;have Tw:Lp {s with heap:=s.heap.push (iw (bb w))} (.ref l) T:=#[_,Lg,rfl]
    unfold MU.«set.__init__» noKeywords Rh;generalize Ph:S3=PI
    wp_walk
    subst Ph;show k {s with heap:=s.heap.push (iw (bb w))} _ _ rfl (λb o e=>ek _ e) (by rw[G'];show NJ _) λI m n G P St d W hG hf Pj HR Fm hk=>?_;show b8 (Qt ?_);show iZ W s.heap.objs.size hf (bb w) a rfl HR N (a.length - 0) 0 _ ⋯ (qq _) Fm (qF (hk _ _ D)) ?_;intro s' j u;have(h',g',d',LX,Mn):=s';have eg:g'=s.gens:=hG _ _ j.gens;have ed:d'=s.drawn:=j.drawn;have eo:Mn=s.os:=j.os;subst eg;subst ed;subst eo;change iv _ _ _ _ _ _;show eH ?_;change iv _ _ (ret GA) _ _ _;show eH #[rfl,h',LX,rfl,u,λb o y e=>?_];show j.heap b o (λz=>by
     rcases i1.mp z with z|z
     .rw[z]at y;show GC _ y
     .show absurd (Pj b z) (Ya y)) (hk _ _ (ek _ e))
   .cases r₂ with
    |error e=>show q
    |ok Pk =>
     cases Pk with
     |ret r =>
      have(rfl,h',f,rfl,u,FI):=q
      repeat (any_goals (first|assumption|wp_step))
      show h _ _ u FI
     |_=>show q.elim
  |_=>show p.elim
end
section
theorem nv:∀{vs:List fx}{ss:List Str},PV vs ss->∀(i:Nat) (v:fx),vs[i]?=b6 v->∃x t,ss[i]?=b6 x/\v=.str x t
 |_,_,.nil,i,v,h=>by simp at h
 |_,_,.cons x t h,0,v,e=>by simp at e;show#[x,t,rfl,e.symm]
 |_,_,.cons x t h,i+1,v,e=>by rw[LS]at e;rw[LS];show nv h i v e
theorem iz:∀{vs:List fx}{ss:List Str},PV vs ss->vs.length=ss.length
 |_,_,.nil=>rfl
 |_,_,.cons x t h=>by simp[iz h]
def ny(a:n≠S)(h2:n≠l):n∉[S,l]:=by simp[a,h2]
def kj(j:A.handled=b7)(hl:s.heap.IsList l vs.toArray)(f:PV vs a)(c:a.length+1<Gy)
  (h:∀(h':H9) (k:Nat),eX prog w h' s.heap.objs.size (bb w) (ak a)->(∀b o,b<s.heap.objs.size->s.heap.get? b=b6 o->h'.get? b=b6 o)->Q (.ref s.heap.objs.size) {s with heap:=h',toks:=k}) :
  iv (j0 prog w) A (OK (.type "set") [.ref l]) Q E s:=by
 have g:l<s.heap.objs.size:=let ⟨o,ho,_⟩:=hl;i0 ho;show iy hl.typeIs PySem.F.sub_list_set PySem.F.sub_list_frozenset (by decide) c (λs1 B Q' m hk d n=>?_) h;have GW:s1.heap.IsList l vs.toArray:=let ⟨o,ho,r⟩:=hl;⟨o,hk _ _ ho,r⟩;show NA GW ?_;have p:l≠s1.heap.objs.size:=l' (KN g d);have W:=(QE (prog:=prog) (w:=w) (A:=B.in1) (by simp[m,j]) s1.heap.objs.size l p vs.toArray).toS;have q:vs.toArray.size=a.length:=by simp[iz f]
 rw[q]at W;show n _ _ _ _ _ _ _ W (λ_ _ e=>e) (ny (l' d) (Ic g)) (λb c=>by rw[mf.mp c];show d) (λi v t=>nv f i v (by simpa using t)) ⟨⟨_,hH _ rfl,rfl,rfl⟩,GW.push _⟩ λb o e=>ek _ e
def lI(j:A.handled=b7)(hl:s.heap.IsTuple l vs.toArray)(f:PV vs a)(c:a.length+1<Gy)
  (h:∀(h':H9) (k:Nat),eX prog w h' s.heap.objs.size (bb w) (ak a)->(∀b o,b<s.heap.objs.size->s.heap.get? b=b6 o->h'.get? b=b6 o)->Q (.ref s.heap.objs.size) {s with heap:=h',toks:=k}) :
  iv (j0 prog w) A (OK (.type "set") [.ref l]) Q E s:=by
 have g:l<s.heap.objs.size:=let ⟨o,ho,_⟩:=hl;i0 ho;show iy hl.typeIs sub_tuple_set sub_tuple_frozenset (by decide) c (λs1 B Q' m hk d n=>?_) h;have GW:s1.heap.IsTuple l vs.toArray:=let ⟨o,ho,r⟩:=hl;⟨o,hk _ _ ho,r⟩;show Yl GW ?_;have p:l≠s1.heap.objs.size:=l' (KN g d);have W:=(Walks.tuple (prog:=prog) (w:=w) (A:=B.in1) (by simp[m,j]) s1.heap.objs.size l p vs.toArray).toS;have q:vs.toArray.size=a.length:=by simp[iz f]
 rw[q]at W;show n _ _ _ _ _ _ _ W (λ_ _ e=>e) (ny (l' d) (Ic g)) (λb c=>by rw[mf.mp c];show d) (λi v t=>nv f i v (by simpa using t)) ⟨⟨_,hH _ rfl,rfl,rfl⟩,let ⟨o,ho,r⟩:=GW;⟨o,ek _ ho,r⟩⟩ λb o e=>ek _ e
def nz(a:n≠0)(h:∀i<n,Q i {s with drawn:=s.drawn.bump src}):iv M A (choose src n) Q E s:=λΓ p b=>by
 change Sem.wp M Γ (.choose src n .pure) _ _ p s;rw[Sem.wp_choose];show#[a,h _ (XH _ (Nat.pos_of_ne_zero a))]
theorem gH:∀{xs:List α}{i:Nat}{x:α},xs[i]?=b6 x->(x::xs.eraseIdx i).Perm xs
 |[],i,x,h=>by simp at h
 |y::a,0,x,h=>by simp at h;subst h;show .refl _
 |y::a,i+1,x,h=>by
  rw[LS]at h;rw[List.eraseIdx_cons_succ];show(List.Perm.swap y x _).trans ((gH h).cons y)
theorem dP:∀(n:Nat) (xs:List α) (s:hW) (Q:List α->hW->Prop),xs.length=n->(∀a d,a.Perm xs->Q a {s with drawn:=d})->iv M A (drawOrder n xs) Q E s
 |0,xs,s,Q,b,h=>by
  have:xs=[]:=WE.mp b;subst this;show eH (h [] s.drawn (.refl _))
 |n+1,[],s,Q,b,h=>by simp at b
 |n+1,y::a,s,Q,b,h=>by
  change iv M A (choose .order (y::a).length >>= _) Q E s;show b8 (nz (by simp) λi hi=>?_);have e:(y::a)[i]?=b6 ((y::a)[i]'hi):=ts hi;have c:=gH e;generalize (y::a)[i]'hi=x at e c;simp only[e];show b8 (dP n _ _ _ (by have:=c.length_eq;simp at this b ⊢;lia) λf d hz=>?_);show eH (h (x::f) d ((hz.cons x).trans c))
theorem jv(next:Nat->Nat):∀(fuel k:Nat) (left:List α) (out:Array α),left.length=fuel->(Vc next fuel k left out).toList.Perm (out.toList++left)
 |0,k,left,out,hl=>by
  have:left=[]:=WE.mp hl;subst this;simp[Vc]
 |fuel+1,k,left,out,hl=>by
  unfold Vc;have a:next k % left.length<left.length:=XH _ ⋯;have e:left[next k % left.length]?=b6 (left[next k % left.length]'a):=ts a;have b:=gH e;generalize left[next k % left.length]'a=x at e b;simp only[e];show(jv next fuel _ _ _ (by have:=b.length_eq;simp at this;lia)).trans ?_;rw[ri,ro];show(b.append_left _)
def cz(next:Nat->Nat)(xs:Array α):(RA next xs).toList.Perm xs.toList:=by
 have:=jv next xs.size 0 xs.toList #v[] (by simp);simpa[RA] using this
end
namespace SI
def pk:Manifest.owners.lookup (String.ofList ['r','o','t','a','r','e','t','i','_','t','e','s'].reverse)=b6 Manifest.sig_set_iterator:=by kernel_rfl
def slot_next:Slot "set_iterator" "__next__" "set_iterator.__next__" :=
 .of (owner:="set_iterator") (n:="__next__") (by rw[Wz,SD];kernel_rfl) (by decide +kernel) (by decide +kernel) (by decide +kernel)
  (by first|show .inl (by decide +kernel)|show .inr (by decide +kernel)) (by rw[S7];kernel_rfl)
def entry_next:X5 table "set_iterator.__next__"=b6 MU.«set_iterator.__next__»:=YM (by kernel_rfl)
def args_next(a:fx):Zg "set_iterator.__next__" ⟨[a],[]⟩:=by
 unfold Zg;rw[signature?_of (id:="set_iterator.__next__") (n:=['_','_','t','x','e','n','_','_']) (o:=['r','o','t','a','r','e','t','i','_','t','e','s']) (by kernel_rfl) pk];kernel_rfl
def l5:Slot "set_iterator" "__iter__" "set_iterator.__iter__" :=
 .of (owner:="set_iterator") (n:="__iter__") (by rw[Wz,SD];kernel_rfl) (by decide +kernel) (by decide +kernel) (by decide +kernel)
  (by first|show .inl (by decide +kernel)|show .inr (by decide +kernel)) (by rw[S7];kernel_rfl)
def ue(a:fx):Zg "set_iterator.__iter__" ⟨[a],[]⟩:=by
 unfold Zg;rw[signature?_of (id:="set_iterator.__iter__") (n:=['_','_','r','e','t','i','_','_']) (o:=['r','o','t','a','r','e','t','i','_','t','e','s']) (by kernel_rfl) pk];kernel_rfl
def qG:X5 table "set_iterator.__iter__"=b6 MU.«dict_keyiterator.__iter__» :=
 Ze (id':="dict_keyiterator.__iter__") (by kernel_rfl) (by first|rfl|decide +kernel|(unfold String.splitOn;simp +decide [String.splitOnAux])) (by decide +kernel) (by kernel_rfl)
def fh:X5 table "set.__iter__"=b6 MU.«frozenset.__iter__» :=
 Ze (id':="frozenset.__iter__") (by kernel_rfl) rfl (by decide +kernel) (by kernel_rfl)
end SI
section
variable{prog:y1}{w:F7}{A:J0}{E:fx->hW->Prop}{s:hW}
abbrev gI(h:H9)(I:i6)(first:fx)(i:Nat)(S:i6)(n ep:Nat):Prop:=∃o,h.get? I=b6 o/\o.cls=.type "set_iterator"/\o.data=.fields #v[first,FL i,.ref S,FL n,FL ep]
def gI.typeIs(x:gI s.heap I f i S n ep):s.TypeIs (.ref I) "set_iterator":=let ⟨o,ho,a,_⟩:=x;⟨o,ho,a⟩
def yC(a:gI s.heap I f i S n ep)(h:Q (.ref I) s):iv (j0 prog w) A (S3 (.ref I)) Q E s:=by
 show U9 a.typeIs SI.l5 (Lh SI.l5 a.typeIs SI.qG ?_ (SI.ue _));change iv _ _ (ret (.ref I)) _ _ s;show eH #[_,rfl,"set_iterator",_,a.typeIs,SI.slot_next.lookup,h]
def dn(h:Q (M.w.params.followText "set-order") s):iv M A setsByText Q E s:=by
 unfold setsByText;show b8 (V' (eH h))
end
end L2
namespace L2
open PySem PySem.Spec PyProof.Rows
section
variable{prog:y1}{w:F7}{A:J0}{E:fx->hW->Prop}{s:hW}
@[reducible]noncomputable def km(es:Array (Int×fx))(ep:Nat)(t:Nc):Obj:={cls:=.type "set",dict:=b7,data:=.set es ep t}
def pq{I:i6}{B:J0}{Q:Option fx->hW->Prop}{c:H9}{k:fx->Sem (Option fx)}(d:B.handled=b7)
  (f:∀h',(∀b o,c.get? b=b6 o->h'.get? b=b6 o)->∀e,Lp {s with heap:=h' } e "StopIteration"->E e {s with heap:=h' }) {Q':Fin->hW->Prop} :
  iv (j0 prog w) B (Zc (.type "StopIteration") [] >>= λe=>(X3 e:Sem Fin)) Q' E {s with heap:=c}:=by
 show b8 ?_;simp only[Zc,Zb];show b8 (va ?_ (by size_fits));show b8 (m:=Zd _ _) (XZ (a:=GA) (by first|rfl|(simp only[Zd];rfl)) ?_);show va ?_ (by size_fits);simp only[X3];show b8 (wpAny_handled ?_);rw[d];show b8 (eH (wpAny_throw ?_));show f _ (λb o e=>ek _ (ek _ e)) _ ⟨_,hH _ rfl,rfl⟩
def sr{I S:i6}{first:fx}{i ep:Nat}{es:Array (Int×fx)}{t:Nc}(d:gI s.heap I first i S es.size ep)(ho:s.heap.get? S=b6 (km es ep t))(h:t.fits es.size=cb)
  (j:∀(Q':Fin->hW->Prop) (g:fx->hW->Prop) ,(∀v s',Q (b6 v) s'->Q' (.done (.ret v)) s')->(∀e s',s'.TypeIs e "StopIteration"->Q b7 s'->g e s') ->
   iv (j0 prog w) A.in1 (if let .int slot _:=first then(do
     match <-R' S slot.toNat i ep with
     |some (x,next) =>
      Va (.ref I) 0 (FL next)
      Va (.ref I) 1 (FL ((i:Int)+1))
      ret x
     |none=>Va (.ref I) 2 .none;X3 (<-Zc (.type "StopIteration") []))
    else(do
     let b6 c <-seqItems? first|unsupported "internal:set_iterator"
     match c[i]? with
     |some (.int place _) =>
      let x <-Xw S place.toNat ep
      Va (.ref I) 1 (FL ((i:Int)+1))
      ret x
     |some _=>unsupported "internal:set_iterator"
     |none=>Va (.ref I) 0 (FL 0);Va (.ref I) 2 .none;X3 (<-Zc (.type "StopIteration") []))) Q' g s):iv (j0 prog w) A (P_ (.ref I)) Q E s:=by
 have(o,k,l,hd):=id d;unfold P_;show b8 (wpAny_attempt (Rv (name:=Um "__next__") d.typeIs SI.slot_next
  (Lh SI.slot_next d.typeIs SI.entry_next ?_ (SI.args_next _))))
 unfold MU.«set_iterator.__next__»;show b8 (XZ (a:=(Lo I,[])) rfl ?_)
 try dsimp only
 show b8 (wpAny_fieldsOf k hd ?_)
 try dsimp only
 show b8 (T8 ho rfl h ?_);rw[Zy (by simp)];show tA (j (λf s'=>∃r,f=.done (.ret r)/\Q (b6 r) s') (λe s'=>s'.TypeIs e "StopIteration"/\Q b7 s') (λv s' q=>#[v,rfl,q]) λe s' z q=>#[z,q]) ?_ ?_
 .rintro f s' ⟨r,rfl,q⟩;show#[r,rfl,eH q]
 .rintro e s' ⟨z,q⟩;show b8 (V6 (T:="StopIteration") (b:=cb) z isSubtype_stop ?_);show eH q
end
section
def su{I S:i6}{f f':fx}{i n ep:Nat}{h:H9}{o:Obj}(a:h.get? I=b6 o)(b:o.cls=.type "set_iterator")(hd:o.data=.fields #v[f,FL i,.ref S,FL n,FL ep]):
  gI (h.update I (YF (·.setIfInBounds 1 (FL ((i:Int)+1))))) I f (i+1) S n ep :=
 #[_,A0 _ a (W0 (P' hd _)),(XM ..).trans b,by rw[P' hd];simp]
def pv{h:H9}(b:h.get? I=b6 o)(c:o.cls=.type "set_iterator")(hd:o.data=.fields #v[f,FL i,.ref S,FL n,FL ep]):
  ∃a,(h.update I (YF (·.setIfInBounds 0 f'))).get? I=b6 a/\a.cls=.type "set_iterator"/\a.data=.fields #v[f',FL i,.ref S,FL n,FL ep] :=
 #[_,A0 _ b (W0 (P' hd _)),(XM ..).trans c,by rw[P' hd];simp]
def nA{I S:i6}{slot i ep:Nat}{es:Array (Int×fx)}{t:Nc}{Q:Option fx->hW->Prop}(a:gI s.heap I (FL slot) i S es.size ep)(ho:s.heap.get? S=b6 (km es ep t))(h:t.fits es.size=cb)(j:A.handled=b7)
  {r:Option (fx×Nat)} (l:∀(B:J0) (d:fx->hW->Prop) (Q':Option (fx×Nat)->hW->Prop),Q' r s->iv (j0 prog w) B (R' S slot i ep) Q' d s)
  (m:∀x nx,r=b6 (x,nx)->∀h',gI h' I (FL nx) (i+1) S es.size ep->H_ I s.heap h'->Q (b6 x) {s with heap:=h' })
  (h2:r=b7->∀h',(∀b o,b≠I->s.heap.get? b=b6 o->h'.get? b=b6 o)->Q b7 {s with heap:=h' }):iv (j0 prog w) A (P_ (.ref I)) Q E s:=by
 show sr a ho h λQ' d n q=>?_;have(o,c,u,hd):=id a;change iv _ _ (R' S slot i ep >>= _) _ _ s;show b8 (l _ _ _ ?_);cases r with
 |some p =>
  have(x,nx):=p
  dsimp only
  show b8 (O' c hd (by simp) ?_);have(G,f,v,g):=pv (f':=FL nx) c u hd;show b8 (O' (s:={s with heap:=_}) f g (by simp) ?_);show eH (n _ _ (m x nx rfl _ (su (f':=FL nx) f v g) ((JM ..).trans (JM ..))))
 |none =>
  dsimp only
  show b8 (O' c hd (by simp) ?_);show pq (I:=I) (k:=λ_=>pure b7) (Q:=λ_ _=>True) (s:=s) (by simpa using j) λh' hk e y=>q e _ y (h2 rfl h' λb z C D=>hk b z ?_);rw[PR _ _ _ _ C];show D
def vS{I S T:i6}{i ep:Nat}{es:Array (Int×fx)}{t:Nc}{a:List Nat}{Q:Option fx->hW->Prop}(c:gI s.heap I (.ref T) i S es.size ep)(ho:s.heap.get? S=b6 (km es ep t))(l:t.fits es.size=cb)(q:A.handled=b7)
  (r:s.heap.IsTuple T ((a.map λ(j:Nat)=>FL j).toArray))
  (u:∀(j:Nat) (e:Int×fx),a[i]?=b6 j->es[j]?=b6 e->∀h',gI h' I (.ref T) (i+1) S es.size ep->H_ I s.heap h'->Q (b6 e.2) {s with heap:=h' })
  (v:∀j∈a,j<es.size)
  (h2:a[i]?=b7->∀h',(∀b o,b≠I->s.heap.get? b=b6 o->h'.get? b=b6 o)->Q b7 {s with heap:=h' }):iv (j0 prog w) A (P_ (.ref I)) Q E s:=by
 show sr c ho l λQ' L x y=>?_;have(o,d,m,hd):=id c;have(N,z,O,Y,B):=r;change iv _ _ (seqItems? (.ref T) >>= _) _ _ s;show b8 (Y7 z B ?_);cases e:a[i]? with
 |some j =>
  have f:(a.map λ(j:Nat)=>FL j).toArray[i]?=b6 (FL j):=by simp[e]
  simp only[f];have g:j<es.size:=v j (JT e);have h:es[j]?=b6 (es[j]'g):=by simp[g]
  change iv _ _ (Xw S (j:Int).toNat ep >>= _) _ _ s;unfold Xw;rw[Qk];show b8 (b8 (z8 ho rfl l ?_))
  dsimp only
  rw[Zy (by simp)];generalize es[j]'g=p at h;simp only[h];show eH ?_;show b8 (O' d hd (by simp) ?_);show eH (x _ _ (u j p e h _ (su (f':=.ref T) d m hd) (JM ..)))
 |none =>
  have f:(a.map λ(j:Nat)=>FL j).toArray[i]?=b7:=by simp at e ⊢;show e
  simp only[f];show b8 (O' d hd (by simp) ?_);have(o',C,e2,D):=pv (f':=FL 0) d m hd;show b8 (O' (s:={s with heap:=_}) C D (by simp) ?_);show pq (I:=I) (k:=λ_=>pure b7) (Q:=λ_ _=>True) (s:=s) (by simpa using q) λh' hk ex G=>y ex _ G (h2 e h' λb H n J=>hk b H ?_);rw[PR _ _ _ _ n,PR _ _ _ _ n];show J
end
section
def gI.at(x:gI h I f i S n ep)(e:∀o,h.get? I=b6 o->h'.get? I=b6 o):gI h' I f i S n ep:=let ⟨o,ho,r⟩:=x;⟨o,e _ ho,r⟩
def dZ(q:A.handled=b7)(n:S≠I)(r:t.fits es.size=cb)(T:i6)(p:T≠I)(c:List fx)(k:c.length=es.size)
  (first:Nat->fx) (a:H9->Prop) (l:∀h h',a h->(∀o,h.get? T=b6 o->h'.get? T=b6 o)->a h')
  (m:∀(s:hW) (i:Nat) (E:fx->hW->Prop) (Q:Option fx->hW->Prop),i<=es.size->a s.heap->gI s.heap I (first i) i S es.size ep->s.heap.get? S=b6 (km es ep t) ->
   (∀x,c[i]?=b6 x->∀h',gI h' I (first (i+1)) (i+1) S es.size ep->H_ I s.heap h'->Q (b6 x) {s with heap:=h' }) ->
   (c[i]?=b7->∀h',(∀b o,b≠I->s.heap.get? b=b6 o->h'.get? b=b6 o)->Q b7 {s with heap:=h' })->iv (j0 prog w) A (P_ (.ref I)) Q E s) :
  Walks prog w A I [I,S,T] [I] es.size (λi v=>c[i]?=b6 v) (λi h=>i<=es.size/\gI h I (first i) i S es.size ep/\h.get? S=b6 (km es ep t)/\a h) where
 sub:=λb d=>by rw[mf.mp d];simp
 frame:=λi h h' x hk=>#[x.1,x.2.1.at λo e=>hk I (by simp) o e,hk S (by simp) _ x.2.2.1,l h h' x.2.2.2 λo e=>hk T (by simp) o e]
 item:=λi s Q E hi x f=>by
  show m s i E Q x.1 x.2.2.2 x.2.1 x.2.2.1 (λv g h' j hs=>?_) λz=>absurd z (by simp;lia);show f v h' s.toks g #[hi,j,?_,l _ h' x.2.2.2 λo e=>?_] λb o d e=>?_
  .rw[hs.2 S n];show x.2.2.1
  .rw[hs.2 T p];show e
  .rw[hs.2 b λz=>d (by simp[z])];show e
 done:=λs Q E x f=>by
  show m s es.size E Q x.1 x.2.2.2 x.2.1 x.2.2.1 (λv g=>absurd g (by rw[Rp ⋯];simp)) λ_ h' hk=>f h' s.toks λb o d e=>hk b o (λz=>d (by simp[z])) e
 self:=λi s Q E x f=>yC x.2.1 f
def iA(ho:s.heap.get? S=b6 (km es ep t))(a:t.fits es.size=cb)(h:Q (!w.params.followText "set-order"&&(!t.plain&&f7 (es.size>1))) s):iv (j0 prog w) A (setDrawn S) Q E s:=by
 unfold setDrawn;show b8 (z8 ho rfl a ?_)
 dsimp only
 show b8 (dn (eH h))
def iB(a:w.params.followText "set-order"=cb)(ho:s.heap.get? S=b6 (km es ep t))(b:t.fits es.size=cb)
  (h:Q ((RA (w.params.setOrder S ep) es)[i]?.map λe=>(e.2,0)) s):iv (j0 prog w) A (R' S 0 i ep) Q E s:=by
 unfold R';show b8 (z8 ho rfl b ?_)
 dsimp only
 show b8 (dn ?_);change iv _ _ (if (w.params.followText "set-order")=cb then _ else _) _ _ s;rw[Zx a];rw[Zy (by simp)];unfold setWalk;show b8 (b8 (z8 ho rfl b ?_))
 dsimp only
 show b8 (dn ?_);change iv _ _ (if (w.params.followText "set-order")=cb then _ else _) _ _ s;rw[Zx a];show b8 (V' (eH ?_));show eH h
theorem pz(hw:w.params.followText "set-order"=dV)(ho:s.heap.get? S=b6 (km es ep t))(hf:t.fits es.size=cb)(hl:t.led=cb)(h1:es.size<=1)
    (h:Q (match es[w6 t.place slot]?,t.place[w6 t.place slot]? with|some (_,x),b6 j=>b6 (x,j+1)|_,_=>b7) s):iv (j0 prog w) A (R' S slot i ep) Q E s:=by
  unfold R';refine b8 (z8 ho rfl hf ?_)
  dsimp only
  refine b8 (dn ?_);show iv _ _ (if (w.params.followText "set-order")=cb then _ else _) _ _ s;rw[Zy (by rw[hw];simp)];show iv _ _ (if (!t.plain&&f7 (es.size>1))=cb then _ else _) _ _ s
  rw [if_neg (by have : decide (es.size > 1) = false := decide_eq_false (by lia)
                 rw[this];simp)]
  show iv _ _ ((if (!t.led&&!es.isEmpty)=cb then _ else _) >>= _) _ _ s;rw[Zy (by rw[hl];simp)];exact b8 (eH (eH h))
def pA(es:Array (Int×fx))(a:Array Nat)(i:Nat)(c:es.size<=1)(h2:a.size=es.size)(b:i<=es.size):
  (match es[w6 a (if i=0 then 0 else(a[0]?).getD 0+1)]?,a[w6 a (if i=0 then 0 else(a[0]?).getD 0+1)]? with|some (_,x),b6 j=>b6 (x,j+1)|_,_=>b7)=es[i]?.map λe=>(e.2,(a[0]?).getD 0+1):=by
 have⟨es⟩:=es;have⟨a⟩:=a
 match es,a,c,h2,b with
 |[],[],_,_,b=>simp
 |[e],[p],_,_,b =>
  match i,b with
  |0,_ =>
   have:w6 #v[p] 0=0:=by simp[w6,P1]
   simp[this]
  |1,_ =>
   have:w6 #v[p] (p+1)=1:=by simp[w6,P1]
   simp[this]
  |n+2,h=>simp at h
 |[],_::_,_,h,_=>simp at h
 |[_],[],_,h,_=>simp at h
 |[_],_::_::_,_,h,_=>simp at h
 |_::_::_,_,h,_,_=>simp at h
def vT(G:B.handled=b7)(hS:eX prog w s.heap S (bb w) D)
  (h:∀(I:i6) (fp:List i6) (n:Nat) (P:Nat->fx->Prop) (St:Nat->H9->Prop) (c:List Str) (h':H9) (d':YJ),Walks prog w B I fp [I] n P St->c.Perm D->n=c.length->(∀i v,P i v->∃x Y,c[i]?=b6 x/\v=.str x Y)->s.heap.objs.size<=I->(∀b∈fp,b=S\/s.heap.objs.size<=b)->St 0 h' ->
   (∀b o,s.heap.get? b=b6 o->h'.get? b=b6 o)->Q (.ref I) {s with heap:=h',drawn:=d' }):iv (j0 prog w) A (S3 (.ref S)) Q E s:=by
 have(L,es,ep,t,ho,Hi,FC,Fu,a,d,GV,GO):=hS;have MT:s.TypeIs (.ref S) "set":=#[_,ho,rfl]
 have GY:S<s.heap.objs.size:=i0 ho;show U9 MT PySem.F.slot_set_iter (Lh PySem.F.slot_set_iter MT SI.fh ?_ (PySem.F.args_set_iter_1 _));unfold MU.«frozenset.__iter__» SA slotArgs;simp only[XU,SU,HF,↓ZG,bind_assoc,PF,bne_self_eq_false];unfold Su Si;show b8 (eH ?_)
 try dsimp only
 show b8 (eH ?_);show b8 (b8 (T8 ho rfl a (eH ?_)));have LY:D.length=es.size:=by rw[<-FC.length_eq,f6,<-mu,Hi,f6]
 have f:∀(l:List (Int×fx)),l.Perm es.toList->∃c:List Str,c.Perm D/\c.length=es.size/\∀(i:Nat) (v:fx),(l.map (·.2))[i]?=b6 v->∃(x:Str) (Y:Tok),c[i]?=b6 x/\v=IZ x Y:=by
  intro l hl;rw[Hi]at hl;have(L',e',p'):=gF hl;show#[L'.map (·.1),(p'.map _).trans FC,by rw[((p'.map _).trans FC).length_eq,LY],λi v H=>?_];subst e';rw[mn,mh]at H;rw[mh];cases q:L'[i]? with
  |none=>rw[q]at H;simp at H
  |some p=>rw[q]at H;simp at H;show#[p.1,p.2,rfl,H.symm]
 show b8 (iA ho a ?_);cases hw:w.params.followText "set-order" with
 |true =>
  simp only[SU,V5,HF,↓ZG];show b8 (eH ?_);show b8 (b8 (z8 ho rfl a (eH ?_)));show b8 (va ?_);have u:S≠s.heap.objs.size:=l' GY;have(c,J,N,O):=f (RA (w.params.setOrder S ep) es).toList (cz _ _);have W:=dZ (prog:=prog) (w:=w) (A:=B) (I:=s.heap.objs.size) (S:=S) (es:=es) (ep:=ep) (t:=t) G u a S u ((RA (w.params.setOrder S ep) es).toList.map (·.2)) (by rw[f6,(cz _ _).length_eq,mu]) (λ_=>FL 0) (λ_=>True) (λ_ _ _ _=>trivial)
   (λs i E Q _ _ g y k1 k2=>nA (slot:=0) g y a G (λB E' Q' q=>iB hw y a q) (λx nx e h' T hs=>by
    rw[j']at e;have(p,C,e2):=e;cases e2;show k1 _ (by rw[mh,tj,C];rfl) h' T hs) (λe=>k2 (by rw[mh,tj,Ks];rwa [Ks]at e)))
  show eH #[_,rfl,"set_iterator",_,#[_,hH _ rfl,rfl],SI.slot_next.lookup,?_];show h _ _ _ _ _ c _ s.drawn W J N.symm O (g0 _) (λb d=>by
   simp only[i1,HI,or_false]at d;rcases d with rfl|rfl|rfl
   .show .inr (g0 _)
   .show .inl rfl
   .show .inl rfl) ⟨qq _,⟨_,hH _ rfl,rfl,rfl⟩,ek _ ho,trivial⟩ λb o e=>ek _ e
 |false =>
  by_cases hsz:es.size>1
  .have Ge:t.plain=dV:=by
    rcases GO with z|z
    .lia
    .show z
   have C:(!dV&&(!t.plain&&f7 (es.size>1)))=cb:=by rw[Ge,ZC hsz];rfl
   rw[C];simp only[↓ZG];show b8 (dP _ _ _ _ J1 λm d' hp=>?_);simp only[Zb];have HB:∀j∈m,j<es.size:=λj hj=>by have:=hp.mem_iff.mp hj;simpa using this
   have Jn:m.length=es.size:=by rw[hp.length_eq];simp
   show b8 (va ?_ (by
    change(m.map λ(j:Nat)=>FL j).toArray.size<=_;have:es.size<4096:=d;simp only[ko,f6,Jn];have:(4096:Nat)<=eF:=by decide
    lia))
   have G9:(s.heap.push {cls:=.type "tuple",data:=.seq (m.map λ(j:Nat)=>FL j).toArray}).get? S=b6 (km es ep t):=ek _ ho;show b8 (b8 (z8 (s:={s with heap:=_,drawn:=d' }) G9 rfl a (eH ?_)));show b8 (va ?_);have Pl:s.heap.objs.size≠(s.heap.push {cls:=.type "tuple",data:=.seq (m.map λ(j:Nat)=>FL j).toArray}).objs.size:=by rw[G'];show l' (NJ _)
   have u:S≠(s.heap.push {cls:=.type "tuple",data:=.seq (m.map λ(j:Nat)=>FL j).toArray}).objs.size:=by rw[G'];show l' (Ie GY)
   have HU:(m.map λj=>(es[j]?).getD (0,GA)).Perm es.toList:=by
    show(hp.map _).trans ?_;have:(lg es.size).map (λj=>(es[j]?).getD (0,GA))=es.toList:=by
     apply QA
     .simp
     .intro i h1 h2;simp at h1 ⊢;simp[h1]
    rw[this]
   have(c,J,N,O):=f _ HU;have W:=dZ (prog:=prog) (w:=w) (A:=B) (I:=(s.heap.push {cls:=.type "tuple",data:=.seq (m.map λ(j:Nat)=>FL j).toArray}).objs.size) (S:=S) (es:=es) (ep:=ep) (t:=t) G u a s.heap.objs.size Pl ((m.map λj=>(es[j]?).getD (0,GA)).map (·.2)) (by simp[Jn]) (λ_=>.ref s.heap.objs.size) (λh=>h.IsTuple s.heap.objs.size (m.map λ(j:Nat)=>FL j).toArray) (λh h' ⟨o,ho,r⟩ k=>#[o,k _ ho,r])
    (λs' i E Q _ G_ g y k1 k2=>vS g y a G G_ (λj e ej ee h' T hs=>k1 _ (by rw[mh,mh,ej];simp[ee]) h' T hs) HB (λe=>k2 (by rw[mh,mh,e];rfl)))
   show eH #[_,rfl,"set_iterator",_,#[_,hH _ rfl,rfl],SI.slot_next.lookup,?_];show h _ _ _ _ _ c _ d' W J N.symm O (by rw[G'];show IE _) (λb d=>?_) ⟨qq _,⟨_,hH _ rfl,rfl,rfl⟩,ek _ G9,⟨_,ek _ (hH _ rfl),rfl,_,rfl⟩⟩ λb o e=>ek _ (ek _ e);rw[G']at d;simp only[i1,HI,or_false]at d;rcases d with rfl|rfl|rfl
   .show .inr (IE _)
   .show .inl rfl
   .show .inr (g0 _)
  .have C:(!dV&&(!t.plain&&f7 (es.size>1)))=dV:=by rw[ZA hsz];simp
   rw[C];simp only[HF,↓ZG];show b8 (eH ?_);show b8 (b8 (z8 ho rfl a (eH ?_)));show b8 (va ?_);have u:S≠s.heap.objs.size:=l' GY;have Pm:t.led=cb:=by rw[GV];change(!w.params.followText "set-order")=cb;rw[hw];rfl
   have(c,J,N,O):=f es.toList (.refl _);have G6:t.place.size=es.size:=by
    unfold XA at a;simp only[df,beq_iff_eq]at a;show a.1
   have W:=dZ (prog:=prog) (w:=w) (A:=B) (I:=s.heap.objs.size) (S:=S) (es:=es) (ep:=ep) (t:=t) G u a S u (es.toList.map (·.2)) (by simp) (λi=>FL ((if i=0 then 0 else(t.place[0]?).getD 0+1:Nat):Nat)) (λ_=>True) (λ_ _ _ _=>trivial)
    (λs' i E Q hi _ g y k1 k2=>nA (slot:=if i=0 then 0 else(t.place[0]?).getD 0+1) g y a G (λB E' Q' q=>pz hw y a Pm ⋯ q) (λx nx e h' T hs=>by
     rw[pA es t.place i ⋯ G6 hi,j']at e;have(p,C,e2):=e;cases e2;show k1 _ (by rw[mh,tj,C];rfl) h' ?_ hs;rw[Zy (X' i)];show T) (λe=>by
     rw[pA es t.place i ⋯ G6 hi,Ks]at e;show k2 (by rw[mh,tj,e];rfl)))
   show eH #[_,rfl,"set_iterator",_,#[_,hH _ rfl,rfl],SI.slot_next.lookup,?_];show h _ _ _ _ _ c _ s.drawn W J N.symm O (g0 _) (λb d=>by
    simp only[i1,HI,or_false]at d;rcases d with rfl|rfl|rfl
    .show .inr (g0 _)
    .show .inl rfl
    .show .inl rfl) ⟨qq _,⟨_,hH _ rfl,rfl,rfl⟩,ek _ ho,trivial⟩ λb o e=>ek _ e
end
def jw:R9 (.type "set") "__len__"=pure (b6 (.builtin "set.__len__")):=by rw[Wz,SD];kernel_rfl
section
theorem kn:∀{vs:List fx}{a:List Str},vs.length=a.length->(∀(i:Nat) (v:fx),vs[i]?=b6 v->∃x t,a[i]?=b6 x/\v=.str x t)->PV vs a
 |[],[],_,_=>.nil
 |[],_::_,h,_=>by simp at h
 |_::_,[],h,_=>by simp at h
 |v::vs,y::a,h,k=>by
  have(x,t,b,c):=k 0 v rfl;cases b;subst c;show .cons y t (kn (by simpa using h) λi w d=>k (i+1) w d)
def pB(J:A.handled=b7)(N:eX prog w s.heap S (bb w) D)(O:D.length<=eF)
  (T:∀(vs:List fx) (c:List Str) (h':H9) (d':YJ) (h:Nat),c.Perm D->PV vs c->s.heap.objs.size<=h'.objs.size->s.toks<=h->(∀b o,s.heap.get? b=b6 o->h'.get? b=b6 o)->Q vs {s with heap:=h',drawn:=d',toks:=h}) :
  iv (j0 prog w) A (TB (.ref S)) Q E s:=by
 have(L,es,ep,t,ho,rest):=id N;have Y:S<s.heap.objs.size:=i0 ho;unfold TB;show b8 (Qt (As PySem.F.entry_proto_collect ?_));rw[Ds PySem.F.plain_proto_collect _];change iv _ A.in1 (Xy [] >>= λl=>YC (.builtin "list.__iadd__" ⟨[l,.ref S],[]⟩)) _ _ s;show b8 (va ?_);show eH #[LV PySem.F.plain_list_iadd _,As PySem.F.entry_list_iadd ?_];rw[Ds PySem.F.plain_list_iadd _];have f:(s.heap.push {cls:=.type "list",data:=.seq ([]:List fx).toArray}).get? S=b6 {cls:=.type "set",dict:=b7,data:=.set es ep t}:=ek _ ho;have hT:Lp {s with heap:=s.heap.push {cls:=.type "list",data:=.seq ([]:List fx).toArray}} (.ref S) "set":=#[_,f,rfl]
 change iv _ A.in1 (Hr (.ref s.heap.objs.size) (.ref S) (.ref s.heap.objs.size)) _ _ _;unfold Hr;show b8 (LH hT ?_);have j:s.heap.objs.size≠S:=Ic Y;have h1:MZ (.ref s.heap.objs.size) (.ref S)=dV:=by simp[MZ,j]
 have h2:(IU "set"==IU "list")=dV:=by decide
 have h3:(IU "set"==IU "tuple")=dV:=by decide
 simp only[h1,h2,h3,Wx,HF,if_false];show b8 (vT (B:=A.in1) (by simpa using J) #[L,es,ep,t,f,rest] ?_);intro I fp n P St c h' d' W k m hP p Pn Fm hk;have g:Lp {s with heap:=h',drawn:=d' } (.ref S) "set":=#[_,hk _ _ f,rfl]
 show b8 (zy ?_);unfold SM;show b8 (YZ g jw ?_);have Hq:splitId "set.__len__"=b6 ("set","__len__"):=by decide +kernel
 dsimp only
 rw[Hq]
 dsimp only
 show b8 (V6 g Xu ?_);rw[Zy (by decide)];rw[Zx (by decide +kernel)];show b8 (LH g ?_);show eH ?_;rw[Zx (by decide +kernel)];have q:s.heap.objs.size∉fp:=λa=>by
  rcases Pn _ a with z|z
  .show j z
  .rw[G']at z;show absurd z (Xh _)
 have r:h'.get? s.heap.objs.size=b6 {cls:=.type "list",data:=.seq ([]:List fx).toArray}:=hk _ _ (hH _ rfl);show b8 (KJ ?_);show b8 ?_;change iv _ A.in1 (Xn s.heap.objs.size (·.push .none) >>= λ_=>Xn s.heap.objs.size (·.pop)) _ _ _;show b8 (OA r rfl ?_);have u:=A0 (vu (·.push GA)) r rfl;show OA u rfl ?_;have Po:=A0 (vu (·.pop)) u rfl;have x:∀b o,b≠s.heap.objs.size->h'.get? b=b6 o->((h'.update s.heap.objs.size (vu (·.push GA))).update s.heap.objs.size (vu (·.pop))).get? b=b6 o :=
  λb o d e=>(KG _ _ (GR d)).trans ((KG _ _ (GR d)).trans e)
 show eH #[LV PySem.F.plain_extend_loop _,X6 W.toS (by rw[m,k.length_eq];show O) _ q _ n 0 _ _ _ rfl (qq _) (W.frame 0 h' _ Fm λb d o e=>x b o (λz=>q (z▸d)) e) Po (Ye P) λs' G0 c' a y C=>?_];change iv _ A (load s.heap.objs.size >>= _) _ _ s';show b8 (WL y ?_);have(Li,g2,G,Pp,Pq):=s';have eg:g2=s.gens:=a.gens;have ed:G=d':=a.drawn;have eo:Pq=s.os:=a.os;subst eg;subst ed;subst eo;show eH (T _ c Li G Pp k (kn (by rw[mu,C.1,m]) λi v hv=>hP i v (C.2 i v (by rwa [tj]at hv))) (LA (i0 y)) a.toks λb o e=>?_);have H:b≠s.heap.objs.size:=λz=>by rw[z]at e;show absurd (i0 e) (GC _)
 show a.heap b o (λz=>?_) (x b o H (hk _ _ (ek _ e)));rcases i1.mp z with z|z
 .show H z
 .rw[mf.mp z]at e;have:=i0 e;rw[G']at p;show absurd (mA this (F8 (IE _) p)) (GC _)
end
section
def Inv.drawn(I:Inv X a σ H s)(d:YJ):Inv X a σ H {s with drawn:=d}:=#[I.ok,I.os,I.bare,I.base,I.loc,I.cell,I.free,I.Fz,I.pin,I.Fe,I.len]
def nB(m:X.calm=cb)(I:Inv X c σ H s)(hq:FR X.K H p (d.map V.str)\/FW X.K H p (d.map V.str))(j:d.length+1<Gy)
  (h:∀(S:i6) (h':H9) (a:Nat),eX X.prog X.w h' S (bb X.w) (ak d)->Inv X c σ H {s with heap:=h',toks:=a}->Q (.ref S) {s with heap:=h',toks:=a}) :
  iv (j0 X.prog X.w) X.A (OK (.type "set") [.ref p]) Q X.xe s:=by
 have l:X.A.handled=b7:=I.ok.hd m;rcases hq with hq|hq
 .have(its,f,g,hz):=I.list hq;show kj l g.isList (di f) j λh' a i k=>h _ h' a i (I.kept λb o e=>k b o (i0 e) e)
 .have(its,f,g,hz):=I.tuple hq;show lI l g (di f) j λh' a i k=>h _ h' a i (I.kept λb o e=>k b o (i0 e) e)
def lJ(i:X.calm=cb)(I:Inv X a σ H s)(j:eX X.prog X.w s.heap S (bb X.w) D)(d:D.length<128)
  (q:∀p,H p=b7->Q (.ref p) (upd H p (.lst ((aA D).map V.str)))):iv (j0 X.prog X.w) X.A (OK (.builtin "sorted") [.ref S]) (EP X a σ Q) X.xe s:=by
 have k:X.A.handled=b7:=I.ok.hd i;have hl:D.length<=eF:=LA (mA d (by decide));show gE (pB (A:=X.A.in1) (by simpa using k) j hl λvs l h' d' b f g hsz r hk=>#[l,g,by rw[iz g,f.length_eq];show d,λh2 m e k2 c s2=>?_]);rw[pb f]at s2;have n:Inv X a σ H {s with heap:=h',toks:=b}:=I.kept (t':=b) hk;have h:Inv X a σ H {s with heap:=h',drawn:=d',toks:=b}:=n.drawn d';show#[.ref h'.objs.size,_,h.laid (t':=b) (o:=.lst ((aA D).map V.str)) k2 (g0 _) #[by rw[f6,bp];show hl,m,e,en s2,c],rfl,q _ (h.Fe.fresh (g0 _))]
end
def uf(l:i6)(a:Array fx)(n:Nat)(b:i6)(c:Array fx)(e:Nat)(dd:Option i6)(f:Array (Option fx))(o:¬(!a.isEmpty&&Lc (a.size+c.size))=cb)(i:a.size<=eF)(j:a.size+c.size<=eF+1):
  Meets (MU.«list.extend» ⟨[.ref l,.ref b],[]⟩) (λ_ R s=>s.heap.get? l=b6 {cls:=.type "list",dict:=b7,data:=.seq a n,slots:=#v[]}/\s.heap.get? b=b6 {cls:=.type "list",dict:=dd,data:=.seq c e,slots:=f}/\R (.ok (.ret GA)) {s with heap:=s.heap.update l (vu λx=>x++c),toks:=s.toks}) :=
 .of_wp λprog w A R s h=>by
  have(p,g,d,q,os):=s;have(hl,k,h):=h;have r:=W2;have t:=U5;have u:=VR;have v:=VI;have y:=VM;
  have m:(a++c).size<=eF+1:=by rw[Tx];show j
  wp_walk using(OA hl rfl (hz:=i) (_hz':=m)),NC hl,NC k;show#[_,rfl,h]
def ug(l:i6)(a:Array fx)(n:Nat)(b:i6)(c:Array fx)(e:Nat)(dd:Option i6)(f:Array (Option fx))(o:¬(!a.isEmpty&&Lc (a.size+c.size))=cb)(i:a.size<=eF)(j:a.size+c.size<=eF+1):
  Meets (MU.«list.extend» ⟨[.ref l,.ref b],[]⟩) (λ_ R s=>s.heap.get? l=b6 {cls:=.type "list",dict:=b7,data:=.seq a n,slots:=#v[]}/\s.heap.get? b=b6 {cls:=.type "tuple",dict:=dd,data:=.seq c e,slots:=f}/\R (.ok (.ret GA)) {s with heap:=s.heap.update l (vu λx=>x++c),toks:=s.toks}) :=
 .of_wp λprog w A R s h=>by
  have(p,g,d,q,os):=s;have(hl,k,h):=h;have r:=W2;have t:=U5;have u:=VR;have v:=VI;have y:=VM;
  have m:(a++c).size<=eF+1:=by rw[Tx];show j
  wp_walk using(OA hl rfl (hz:=i) (_hz':=m)),NC hl,NC k;show#[_,rfl,h]
section
def qH:QV X "list.extend" (λx vs H Q=>∃l b xs c,x=.ref l/\vs=[.ref b]/\H l=b6 (.lst xs)/\(FR X.K H b c\/FW X.K H b c)/\xs.length+c.length<=eF/\Q .Fg (upd H l (.lst (xs++c)))):=by
 intro f s σ H x vs v us Q I w y h;have(l,b,xs,c,rfl,rfl,p,hB,hz,q):=h;cases w;have(u,rfl,A):=y.one;cases A;have(z,its,n,r,hl,e):=I.C4 p;have g:∀a:List fx,Vals c a->EP X f σ Q GA {s with heap:=s.heap.update l (vu λx=>x++a.toArray),toks:=s.toks}:=λa d=>by
  show#[.Fg,_,I.oJ (its':=its++a) p e (by simp) (r.append d) ?_,rfl,q];rw[oT];lia
 have j:∀a:List fx,c.length=a.length->its.toArray.size+a.toArray.size<=eF:=λa h=>by rw[ko,ko];lia
 have t:∀a:List fx,c.length=a.length->¬(!its.toArray.isEmpty&&Lc (its.toArray.size+a.toArray.size))=cb:=λa h=>by
  rw[vt (j a h),R8];show o6
 rcases hB with hB|hB
 .have(a,d,k,_):=I.list hB;have((cls,dd,data,m),ho,i,o,hd):=k.isList;simp only at i hd;subst i hd;have GH:=d.length;have B:=j a GH;show U0 X8 #[_,e,rfl] XQ (XC _ _) (uf l its.toArray n b a.toArray o dd m (t a GH) ⋯ ⋯) #[e,ho,g a d]
 .have(a,d,k,_):=I.tuple hB;have((cls,dd,data,m),ho,i,o,hd):=k;simp only at i hd;subst i hd;have GH:=d.length;have B:=j a GH;show U0 X8 #[_,e,rfl] XQ (XC _ _) (ug l its.toArray n b a.toArray o dd m (t a GH) ⋯ ⋯) #[e,ho,g a d]
end
end L2
namespace L2
open PySem PySem.W PyProof.Rows
section
def nE:R9 (.type "list") "keys"=pure b7:=am_miss_of_fast (by decide +kernel)
theorem nF(hx:s.heap.get? a=b6 {cls:=.type "list",dict:=b7,data:=.seq xs k,slots:=sl})(hA:A.handled=b7)
    (h:∀h' tk,(∀b ob,s.heap.get? b=b6 ob->h'.get? b=b6 ob)->Q b7 {s with heap:=h',toks:=tk}):iv (j0 prog w) A (X4 (.ref a) "keys") Q E s:=by
  obtain⟨hp,g,d,tk,os⟩:=s;have hT:∀LX,(⟨hp,g,d,LX,os⟩:hW).TypeIs (.ref a) "list":=λ_=>⟨_,hx,rfl⟩
  have f1:=sub_AttributeError;have f3:=PySem.F.slot_list_getattribute.lookup;have f4:=PySem.F.slot_list_getattribute.bind (.ref a);have f5:=am_list_getattr_none;have big:(1000:Nat)<=eF:=by decide
  have hk : (("keys" : Str)).length + 100 ≤ sizeLine := by have : ("keys" : Str).length = 4 := by decide
                                                           lia
  unfold X4 getAttrBy? getAttrBy
  repeat (any_goals (first|assumption|exact hT _|((with_reducible show iv _ _ (OK (OY "list.__getattribute__") _ _) _ _ _);refine U0 PySem.F.slot_list_getattribute (hT _) am_entry_list_getattribute (PySem.F.args_list_getattribute_2 _ _) (meets_getattribute_miss_list a xs k sl "keys" _ nE (by decide) hk) ⟨hx,hA,λh' LX e NF=>?_⟩)|wp_step))
  obtain⟨t',u',he⟩:=NF.there;show iv _ _ (Yq _ _ _ _ _ _ _) _ _ _;unfold Yq
  repeat (any_goals (first|assumption|wp_step))
  exact h _ _ NF.keeps
def fi:X5 table "dict.update.loop"=b6 MU.«dict.update.loop»:=YM (by kernel_rfl)
def cA:plainId "dict.update.loop"=cb:=by decide +kernel
abbrev yD(prog:y1)(w:F7)(d I:i6)(its:Array fx)(ps:List (Key×fx))(h:H9):Prop:=∀(j:Nat) p,ps[j]?=b6 p->∃a o e key,its[j]?=b6 (.ref a)/\a≠d/\a≠I/\h.get? a=b6 o/\o.cls=.type "tuple"/\o.data=.seq #v[key,p.2] e/\(aZ prog w).is p.1 key=cb
def yD.keep(x:yD prog w d I its ps h)(k:∀b o,b≠d->b≠I->h.get? b=b6 o->h'.get? b=b6 o):yD prog w d I its ps h':=λj p e=>by
 have(a,o,n,key,g,c,f,i,l):=x j p e;show#[a,o,n,key,g,c,f,k a o c f i,l]
def vU(C:A.handled=b7)(D:ax≠I)(t:d≠I)(Y:ax≠d)(hz:ps.length<=eF)(hl:its.size=ps.length):
  ∀(k i:Nat) (s:hW) (acc:List (Key×fx)),ps.length - i=k->i<=ps.length->s.heap.IsListIter I ax i->s.heap.IsList ax its->acc.length<=i->yD prog w d I its ps s.heap->s.heap.DictOf (aZ prog w) d acc->(acc.map (·.1)++(ps.drop i).map (·.1)).Nodup ->
  (∀h' m,h'.DictOf (aZ prog w) d (acc++ps.drop i)->(∀b o,b≠d->b≠I->s.heap.get? b=b6 o->h'.get? b=b6 o)->R (.ok (.ret res)) {s with heap:=h',toks:=m}) ->
  Pt (j0 prog w) A (.builtin "dict.update.loop" ⟨[.ref d,.ref I,FL i,res],[]⟩) R s:=by
 intro k;induction k with
 |zero =>
  intro i s acc hk hi f u LU G hd h j;have GL:i=its.size:=by lia
  subst GL;show As fi ?_;rw[Ds cA _];change iv _ A.in1 (P_ (.ref I) >>= _) _ _ s;show b8 ((QE (A:=A.in1) C I ax D its).done s _ _ #[f,u] λh' m y=>?_);have e0:ps.drop its.size=[]:=Rc ⋯;rw[e0,G5]at j;have g:∀b o,b≠I->s.heap.get? b=b6 o->h'.get? b=b6 o:=λb o c e=>y b o (by simpa using c) e;show b8 (eH (eH (j h' m ?_ λb o _ c e=>g b o c e)));have(o,es,ep,ho,r):=hd;show#[o,es,ep,g d o t ho,r]
 |succ k ih =>
  intro i s acc hk hi f u LU G hd h j;have n:i<ps.length:=by lia
  obtain⟨p,H⟩:∃p,ps[i]?=b6 p:=#[ps[i],by simp[n]]
  show As fi ?_;rw[Ds cA _];change iv _ A.in1 (P_ (.ref I) >>= _) _ _ s;show b8 ((QE (A:=A.in1) C I ax D its).item i s _ _ ⋯ #[f,u] λv h' m hP J y=>?_);have g:∀b o,b≠I->s.heap.get? b=b6 o->h'.get? b=b6 o:=λb o c e=>y b o (by simpa using c) e;have Mi:h'.DictOf (aZ prog w) d acc:=by
   have(o,es,ep,ho,r):=hd;show#[o,es,ep,g d o t ho,r]
  have L:=G.keep (h':=h') λb o _ c e=>g b o c e;have(a,o,e,key,e1,e2,e3,N,e5,e6,e7):=L i p H;have O:its[i]?=b6 v:=hP;rw[e1]at O;cases O;show b8 (zy (b8 (wpAny_tryCatch ?_)));unfold Y2;show b8 (LH (T:="tuple") #[o,N,e5] ?_);rw[Zx (by decide)];show b8 (Y7 N e6 (eH ?_));change iv _ _ (OB [key,p.2] (dictSet d key p.2)) _ _ _;have B:ps.drop i=p::ps.drop (i+1):=by
   rw[IS n];have:ps[i]=p:=by simpa[n] using H
   rw[this]
  have Hj:p.1∉acc.map (·.1):=λz=>by
   rw[B,i2,MX]at h;show h.2.2 _ z _ (by simp) rfl
  have Px:Y9 acc p.1 p.2=acc++[p]:=by
   unfold Y9;rw[Zy λz=>by
    have(x,hx,e):=KY.mp z;show Hj (my.mpr #[x,hx,by simpa using e])]
  show zy (wpAny_dictSet_pairs (hsz:=by lia) e7 Mi λh2 l G1=>?_);rw[Px]at l;have q:∀b o,b≠d->h'.get? b=b6 o->h2.get? b=b6 o:=λb o c e=>(G1.2 b c).trans e;have Lj:h2.IsListIter I ax (i+1):=by
   have(z,_):=J;show z.at λo e=>q _ o (GR t) e
  have Py:h2.IsList ax its:=by
   have(_,z):=J;show z.at λo e=>q _ o Y e
  rw[B,i2]at h;rw[B]at j;show eH #[LV cA _,ih (i+1) _ (acc++[p]) ⋯ n Lj Py (by simp;lia) (L.keep λb o c _ e=>q b o c e) l (by simpa using h) λh3 TC TF k3=>j h3 TC (by simpa using TF) λb o c Q e=>k3 b o c Q (q b o c (g b o Q e))]
end
theorem vV{h:H9}:∀{as:List i6}{ps:List (Str×V)},as.length=ps.length->(∀(j:Nat) a p,as[j]?=b6 a->ps[j]?=b6 p->∃(o:Obj) (n:Nat) (t:Tok) (v:fx),h.get? a=b6 o/\o.cls=.type "tuple"/\o.data=.seq #v[.str p.1 t,v] n/\RelV p.2 v) ->
  ∃vs:List (Key×fx),vs.length=ps.length/\vs.map (·.1)=ps.map (λp=>(GN p.1:Key))/\KV (ps.map λp=>((GN p.1:Key),p.2)) vs/\∀(j:Nat) q,vs[j]?=b6 q->∃a p o n t,as[j]?=b6 a/\ps[j]?=b6 p/\q.1=GN p.1/\h.get? a=b6 o/\o.cls=.type "tuple"/\o.data=.seq #v[.str p.1 t,q.2] n
 |[],[],_,_=>#[[],rfl,rfl,.nil,by simp]
 |[],_::_,h,_=>by simp at h
 |_::_,[],h,_=>by simp at h
 |a::as,p::ps,hl,f=>by
  have(vs,g,h2,i,k):=vV (as:=as) (ps:=ps) (by simpa using hl) λj b q c d=>f (j+1) b q (by simpa using c) (by simpa using d);have(o,n,t,v,c,d,l,m):=f 0 a p rfl rfl;show#[(GN p.1,v)::vs,by simp[g],by simp[h2],.cons #[rfl,m] i,λj q e=>?_];cases j with
  |zero =>
   simp at e;subst e;show#[a,p,o,n,t,rfl,rfl,rfl,c,d,l]
  |succ j =>
   have(r,s,u,w,t',x,y,z):=k j q (by simpa using e);show#[r,s,u,w,t',by simpa using x,by simpa using y,z]
section
def yE{as:List i6}{ps:List (Str×V)}(hc:X.calm=cb)(I:Inv X c σ H s)(e:FR X.K H L (as.map V.ref))(hl:as.length=ps.length)(ht:∀(j:Nat) a p,as[j]?=b6 a->ps[j]?=b6 p->FW X.K H a [.str p.1,p.2])(Fu:(ps.map (·.1)).Nodup)
  (q:∀d,H d=b7->Q (.ref d) (upd H d (.dK (ps.map λp=>((GN p.1:Key),p.2))))) :
  iv (j0 X.prog X.w) X.A (OK (.type "dict") [.ref L]) (EP X c σ Q) X.xe s:=by
 have(its,B,pl,hz):=I.list e;rw[f6]at hz;have IB:its.length=ps.length:=by rw[<-B.length,f6,hl]
 have Pz:its=as.map Lo:=by
  have:∀(as:List i6) (its:List fx),Vals (as.map V.ref) its->its=as.map Lo:=λas=>by
   induction as with
   |nil=>intro its h;cases h;rfl
   |cons a as ih =>
    intro its h;cases h with
    |cons r t=>rw[ih _ t];cases r;rfl
  show this as its B
 subst Pz;have(o,n,ho,C,D,G):=pl;have(oc,od,VJ,Kl):=o;simp only at C D G;subst C D G;have(vs,v1,v2,v3,v4):=vV (h:=s.heap) hl λj a p e1 e2=>by
  have(us,r,(o,i,h2,n,h3),_):=I.tuple (ht j a p e1 e2);cases r with
  |cons r1 v =>
   cases v with
   |cons v r3 =>
    cases r3;have(t,rfl):=r1;show#[o,n,t,_,i,h2,h3,v]
 have J:X.A.handled=b7:=I.ok.hd hc;have N:L<s.heap.objs.size:=i0 ho;show callType_codes (Q₁:=λobj O=>obj=.ref s.heap.objs.size/\O={s with heap:=s.heap.push {cls:=.type "dict",data:=.dict #v[]}}) PySem.F.kt_called_dict (PySem.F.kt_typeCall_dict_1 _) PySem.F.entry_dict_init (kt_code_dict_new _ #[rfl,rfl]) ?_;rintro obj O ⟨rfl,rfl⟩;have y:(s.heap.push {cls:=.type "dict",data:=.dict #v[]}).DictOf (aZ X.prog X.w) s.heap.objs.size []:=WI s.heap;have k0:∀b u,s.heap.get? b=b6 u->(s.heap.push {cls:=.type "dict",data:=.dict #v[]}).get? b=b6 u:=λb u z=>ek _ z;show#[y.typeIs,PySem.F.args_dict_init_2 _ _,?_];unfold MU.«dict.__init__»;show b8 ?_;unfold Y1;show b8 (wpAny_notOrdered_dict y.typeIs ?_);change iv _ _ (pure (s.heap.objs.size,[Lo L])) _ _ _;show eH ?_;change iv _ _ (Up "dict.__init__" s.heap.objs.size (.ref L) [] .none) _ _ _;unfold Up;show b8 (LH (T:="list") #[_,k0 _ _ ho,rfl] ?_);rw[Zx (by decide)];show b8 (nF (k0 _ _ ho) J λi VL k1=>?_);have Y:=k1 _ _ (k0 _ _ ho);have Rj:i.DictOf (aZ X.prog X.w) s.heap.objs.size []:=by
  have(o,es,ep,ho,r):=y;show#[o,es,ep,k1 _ _ ho,r]
 have l:s.heap.objs.size<i.objs.size:=by
  have(o,es,ep,ho,r):=Rj;show i0 ho
 show b8 (KJ (b8 (NA #[_,Y,rfl,n,rfl] ?_)));show eH #[LV cA _,vU (A:=X.A.in1) (ax:=L) (I:=i.objs.size) (d:=s.heap.objs.size) (its:=(as.map Lo).toArray) (ps:=vs) J (l' (KN N l)) (l' l) (l' N) ⋯ (by simp;lia) vs.length 0 _ [] ⋯ (qq _) #[_,hH _ rfl,rfl,rfl] #[_,ek _ Y,rfl,n,rfl] (g0 _) (λj q hq=>?_) (Rj.push _) (by rw[Mr,tx,Nt,v2];show(mn (f:=λp:Str×V=>p.1) (g:=λx=>(GN x:Key))▸(YX _ (λa b MW z=>MW (by injection z)) Fu)) ) λh' tk Mi kp=>?_]
 .have(a,p,o,m,t,z1,z2,z3,z4,z5,z6):=v4 j q hq;have k:=i0 z4;show#[a,o,m,.str p.1 t,by simp[z1],l' k,l' (KN k l),ek _ (k1 _ _ (k0 _ _ z4)),z5,z6,?_];rw[z3];change OR p.1 (.str p.1 t)=cb;simp[OR]
 .show#[rfl,.ref s.heap.objs.size,upd H s.heap.objs.size (.dK (ps.map λp=>((GN p.1:Key),p.2))),I.laid (a:=s.heap.objs.size) (λb u z=>?_) (g0 _) ⟨by rw[f6];lia,?_,vs,v3,?_⟩,rfl,q _ (I.Fe.fresh (g0 _))]
  .have k:=i0 z;show kp b u (l' k) (l' (KN k l)) (ek _ (k1 _ _ (k0 _ _ z)))
  .show ZF.mpr (Ic I.big)
  .simpa using Mi
end
section
end
section
def vW:X.calm=cb->dS X (.builtin "any") (λxs H Q=>∃(p:i6) (bs:List Bool),xs=[.ref p]/\FR X.K H p (bs.map V.bl)/\Q (.bl (bs.any id)) H):=by
 intro g d s σ H xs us Q I rs h;have(p,bs,rfl,j,q):=h;have(u,rfl,r):=vals1 rs;cases r;have(its,k,c,hz):=I.list j;have e:=ff k;subst e;have l:p<s.heap.objs.size:=by have(_,_,e,_):=c;show i0 e
 show call_any_walk (NA c.isList ?_);show#[s.heap.objs.size,[s.heap.objs.size,p],[s.heap.objs.size],(bs.map Mq).toArray.size,_,_,λi=>(bs[i]?).getD dV,rfl,QE (A:=X.A.in1) (I.ok.hd g) _ p (l' l) (bs.map Mq).toArray,
  #[#[_,hH _ rfl,rfl,rfl],c.isList.push _],λi v s' Q' o m f=>?_,λh' n hk=>?_]
 .have a:(bs.map Mq)[i]?=b6 v:=by simpa using m
  rw[mh]at a;cases e:bs[i]? with
  |none=>rw[e]at a;cases a
  |some b =>
   rw[e]at a;cases a;simp only[e,Xq]at f;show LI f
 .have e:((lg (bs.map Mq).toArray.size).any λi=>(bs[i]?).getD dV)=bs.any id:=by
   rw[ko,f6];show Yh bs
  rw[e];show#[.bl _,H,I.kept (t':=n) (R6 hk),rfl,q]
end
section
abbrev dq(l:List Int):List Int:=l.mergeSort (λa b=>f7 (a<=b))
def bD(l:List Int):(dq l).Perm l:=Xj l _
def fj(l:List Int):(dq l).Pairwise (·<=·):=by
 have:=WD (le:=λa b:Int=>f7 (a<=b)) (λa b c d h2=>by simp at d h2 ⊢;lia) (λa b=>by simp;lia) l;show this.imp λh=>by simpa using h
theorem eB:∀{l m:List Int},l.Perm m->l.Pairwise (·<=·)->m.Pairwise (·<=·)->l=m
 |[],m,p,_,_=>by rw[p.nil_eq]
 |a::l,[],p,_,_=>by cases p.eq_nil
 |a::l,b::m,p,c,h2=>by
  rw[HD]at c h2;have e:a=b:=by
   have ha:=p.subset (ov ..);have hb:=p.symm.subset (ov ..);rcases i1.mp ha with e|ha
   .show e
   rcases i1.mp hb with e|hb
   .show e.symm
   have:=c.1 b hb;have:=h2.1 a ha;lia
  subst e;rw[eB (WH p) c.2 h2.2]
theorem eD:∀{its:List fx}{ns:List Int},OC its ns->Vals (ns.map V.int) its
 |_,_,.nil=>.nil
 |_,_,.cons n t h=>.cons #[t,rfl] (eD h)
def i4:dS X (.builtin "sorted") (λxs H Q=>∃(p:i6) (ns:List Int),xs=[.ref p]/\FR X.K H p (ns.map V.int)/\ns.length<64/\∀q,H q=b7->Q (.ref q) (upd H q (.lst ((dq ns).map V.int)))):=by
 intro a s σ H xs us Q I rs h;have(p,ns,rfl,f,t,q):=h;have(u,rfl,r):=vals1 rs;cases r;have(its,c,g,hz):=I.list f;have v:its.length=ns.length:=by rw[<-c.length,f6]
 show sorted_ints g.isList (intsAre_of c) ⋯ λout w i j k=>?_;have e:=eB (j.trans (bD ns).symm) k (fj ns);subst e;have hsz:((s.heap.push (JH "list" #v[] 0)).update s.heap.objs.size (vu (·++its.toArray))).objs.size=s.heap.objs.size+1:=by rw[XN,G']
 have l:(((s.heap.push (JH "list" #v[] 0)).update s.heap.objs.size (vu (·++its.toArray))).push (JH "list" its.toArray 0)).get? (s.heap.objs.size+1)=b6 (JH "list" its.toArray 0):=by
  rw[<-hsz];show hH _ rfl
 have(e,m):=Xf (out:=out) l;have hk:∀b o,s.heap.get? b=b6 o->(sortedAll s.heap its out).get? b=b6 o:=λb o z=>by
  have d:b<s.heap.objs.size:=i0 z;unfold sortedAll;rw[WW (l' (Ie d)) (by rw[G',hsz];show Ie (Ie d))];show ek _ (gq z)
 have n:(64:Nat)<=eF:=by decide
 show#[.ref _,_,I.laid (t':=s.toks) (o:=.lst ((dq ns).map V.int)) hk (IE _) #[by rw[f6,(bD ns).length_eq];lia,out.toList,e,eD i,by rw[RL];show m],rfl,q _ (I.Fe.fresh (IE _))]
end
end L2
namespace Tb
open PySem PySem.SetTable
theorem kq(hs:xs.toList.Pairwise (· < ·)):∀(f lo hi:Nat),lo<=hi->hi<=xs.size->hi - lo<=f->(∀i v,i<lo->xs[i]?=b6 v->v<j)->(∀i v,hi<=i->xs[i]?=b6 v->j<=v) ->
  P1 xs j f lo hi<=xs.size/\(∀i v,i<P1 xs j f lo hi->xs[i]?=b6 v->v<j)/\∀i v,P1 xs j f lo hi<=i->xs[i]?=b6 v->j<=v
 |0,lo,hi,o,h2,p,k,l=>by
  have:lo=hi:=by lia
  subst this;show#[h2,k,l]
 |f+1,lo,hi,o,h2,p,k,l=>by
  rw[P1];by_cases h:lo<hi
  .rw[Zx h]
   dsimp only
   have q:(lo+hi) / 2<xs.size:=by lia
   have g:xs[(lo+hi) / 2]?=b6 xs[(lo+hi) / 2]:=hY q;have e:xs.getD ((lo+hi) / 2) j=xs[(lo+hi) / 2]:=by rw[Array.getD_eq_getD_getElem?,g];rfl
   have c:∀a b u v,a<b->xs[a]?=b6 u->xs[b]?=b6 v->u<v:=λa b u v r s t=>by
    have(w,x):=qs.mp s;have(y,z):=qs.mp t;have:=IM.mp hs a b (by simpa using w) (by simpa using y) r;simpa[x,z] using this
   by_cases n:xs.getD ((lo+hi) / 2) j<j
   .rw[Zx n];show kq hs f _ hi ⋯ h2 ⋯ (λi v A d=>?_) l;by_cases m:i=(lo+hi) / 2
    .subst m;rw[g]at d;cases d;lia
    .have:=c i _ v _ ⋯ d g;lia
   .rw[Zy n];show kq hs f lo _ ⋯ ⋯ ⋯ k λi v A d=>?_;by_cases m:i=(lo+hi) / 2
    .subst m;rw[g]at d;cases d;lia
    .have:=c _ i _ v ⋯ g d;lia
  .rw[Zy h];have:lo=hi:=by lia
   subst this;show#[h2,k,l]
def gJ(hs:xs.toList.Pairwise (· < ·)):w6 xs j<=xs.size/\(∀i v,i<w6 xs j->xs[i]?=b6 v->v<j)/\∀i v,w6 xs j<=i->xs[i]?=b6 v->j<=v:=by
 unfold w6;show kq hs _ 0 xs.size ⋯ (g0 _) ⋯ (λi v h=>by lia) λi v h a=>?_;have:=(qs.mp a).1;lia
def below_at(hs:xs.toList.Pairwise (· < ·))(h:xs[i]?=b6 j):w6 xs j=i:=by
 have(e,h2,b):=gJ (j:=j) hs;rcases Qi (w6 xs j) i with hl|hl|hl
 .have(c,d):=qs.mp h;have a:w6 xs j<xs.size:=by lia
  have f:=b _ _ (g0 _) (hY a);have:=IM.mp hs (w6 xs j) i (by simpa using a) (by simpa using c) hl;simp[d]at this;lia
 .show hl
 .have:=h2 i j hl h;lia
section
variable{t:Nc}
def uh(hs:t.place.toList.Pairwise (· < ·))(h:t.place[i]?=b6 j):t.slot j=.live i:=by
 unfold slot
 dsimp only
 rw[below_at hs h,h];simp
end
section
variable{t:Nc}{hashAt:Nat->Int}{h:Int}
def ui(p:Probe):(t.advance p).dummy=p.dummy:=by
 unfold advance;split<;>rfl
end
end Tb
namespace L2
open PySem PySem.Spec PyProof.Rows
open SetTable Tb
abbrev Kt(t:Nc):Prop:=t.place.toList.Pairwise (· < ·)/\t.dummies=#v[]
theorem kr(hd:t.dummies=#v[]):∀(f:Nat) (p:Probe) (j:Nat) (d:Option Nat),p.dummy=b7->Zl t c h f p=b6 (.empty j d)->t.slot j=.empty/\d=b7
 |0,_,_,_,_,e=>by cases e
 |f+1,p,j,d,b,e=>by
  unfold Zl at e;split at e
  .rename_i hs;cases e;show#[hs,b]
  .rename_i hs;exfalso
   unfold slot at hs
   dsimp only at hs
   split at hs
   .cases hs
   .split at hs
    .rename_i a;rw[hd]at a;unfold has at a;simp at a
    .cases hs
  .split at e
   .cases e
   .show kr hd f _ j d (by rw[ui];show b) e
def vX(r:Kt t)(e:t.freeSlot h=b6 (j,b)):j∉t.place.toList:=by
 unfold freeSlot at e;split at e
 .rename_i f d c;have(a,rfl):=kr r.2 _ _ _ _ rfl c;cases e;intro z;have(i,hi,e):=GZ.mp z;rw[uh r.1 (i:=i) (qs.mpr #[by simpa using hi,by simpa using e])]at a;cases a
 .cases e
def yF(xs:Array α)(p:Nat)(x:α)(h:p<=xs.size):(Zm xs p x).toList=xs.toList.take p++x::xs.toList.drop p:=by
 unfold Zm;simp[y4]
def yG(r:Kt t)(f:j∉t.place.toList):Kt (t.put j).1:=by
 have(g,h,c):=gJ (j:=j) r.1;have l:=yF t.place (w6 t.place j) j g;show#[?_,?_]
 .change(Zm t.place (w6 t.place j) j).toList.Pairwise (· < ·);rw[l,rd];show#[r.1.sublist (Ia _ _),HD.mpr #[λv a=>?_,r.1.sublist (MY _ _)],λu m v a=>?_]
  .have o:=a;have(i,hi,e):=GZ.mp a;rw[TZ]at e;rw[KR]at hi;have b:=c (w6 t.place j+i) v (U2 _ _) (qs.mpr #[by rw[mu]at hi;lia,by simpa using e]);have p:v≠j:=λz=>f (by rw[<-z];show Lw a);lia
  .have(i,hi,e):=GZ.mp m;rw[Qc]at e;rw[sd]at hi;have n:=h i u ⋯ (qs.mpr #[by rw[mu]at hi;lia,by simpa using e]);rcases i1.mp a with z|z
   .rw[z];show n
   .have(k,hk,d):=GZ.mp z;rw[TZ]at d;rw[KR]at hk;have b:=c (w6 t.place j+k) v (U2 _ _) (qs.mpr #[by rw[mu]at hk;lia,by simpa using d]);lia
 .change(if has t.dummies j=cb then eraseAt t.dummies (w6 t.dummies j) else t.dummies)=#v[];rw[r.2];rfl
def qI(es:Array (Int×fx))(h:Int)(x:fx)(r:t.plain=cb->Kt t)(a:(WR t es h x).2.1.plain=cb):Kt (WR t es h x).2.1:=by
 unfold WR at a ⊢;split
 .rename_i j b e;rw[e]at a
  dsimp only at a ⊢
  unfold RM at a ⊢;split
  .rename_i c;rw[Zx c]at a;have:t.plain=cb:=a;show yG (r this) (vX (r this) e)
  .rename_i c;rw[Zy c]at a;cases a
 .rename_i e;rw[e]at a;cases a
theorem l6(f:Nat->Option Nat):∀(n a:Nat),(((W6 a n).filterMap λj=>(f j).map (j,·)).map (·.1)).Pairwise (· < ·)/\∀v∈((W6 a n).filterMap λj=>(f j).map (j,·)).map (·.1),a<=v
 |0,a=>#[by simp,by simp]
 |n+1,a=>by
  have(c,h2):=l6 f n (a+1);rw[List.range'_succ,He];cases q:f a with
  |none=>show#[c,λv b=>Ur (h2 v b)]
  |some k =>
   show#[HD.mpr #[λv b=>h2 v b,c],λv b=>?_];rcases i1.mp b with z|z
   .rw[z];show g0 _
   .show Ur (h2 v z)
def nG(es:Array (Int×fx))(n:Nat)(a:(Qx t es n).2.1.plain=cb):Kt (Qx t es n).2.1:=by
 unfold Qx at a ⊢;split
 .rename_i t' c b;rw[b]at a
  dsimp only at a ⊢
  split
  .unfold TH U3 at b;cases d:Sz (PD n - 1) (es.map (·.1)) with
   |none=>rw[d]at b;cases b
   |some o =>
    rw[d]at b;cases b;show#[?_,rfl];change(((lg (PD n - 1+1)).filterMap λj=>(o.getD j b7).map (j,·)).map (·.1)).Pairwise (· < ·);rw[List.range_eq_range'];show(l6 _ _ _).1
  .rename_i f;rw[Zy f]at a;cases a
 .rename_i e;rw[e]at a;cases a
end L2
namespace L2
open PySem PySem.Spec PyProof.Rows
abbrev fk(P:y1)(w:F7)(h:H9)(a:i6)(led:Bool)(D:List Int):Prop :=
 ∃(L:List (Int×Tok)) (es:Array (Int×fx)) (ep:Nat) (t:Nc),h.get? a=b6 {cls:=.type "set",dict:=b7,data:=.set es ep t}/\es.toList=L.map (λp=>((PySem.intKind P w).hash p.1,Jj p.1 p.2)) /\
  (L.map (·.1)).Perm D/\D.Nodup/\t.fits es.size=cb/\es.size<Gy/\t.led=led/\(t.plain=cb->Kt t)
section
def uj{L:List (Int×Tok)}:YI (PySem.intKind prog w) (L.map λp=>((PySem.intKind prog w).hash p.1,Jj p.1 p.2)):=by
 intro e a;have(p,_,rfl):=my.mp a;show#[#[p.1,by simp[PySem.intKind,UX],rfl],rfl]
def sv(x y:Int)(t:Tok):(PySem.intKind prog w).is x (.int y t)=f7 (x=y):=by
 rw[G8];simp[PySem.intKind,UX];show#[λh=>h.symm,λh=>h.symm]
def i7(h:l.Perm (L.map λp=>((PySem.intKind prog w).hash p.1,Jj p.1 p.2))):∃a:List (Int×Tok),l=a.map (λp=>((PySem.intKind prog w).hash p.1,Jj p.1 p.2))/\a.Perm L:=by
 have all:∀e∈l,∃p:Int×Tok,e=((PySem.intKind prog w).hash p.1,Jj p.1 p.2):=λe b=>by
  have(p,_,rfl):=my.mp (h.mem_iff.mp b);show#[p,rfl]
 have ex:∀l:List (Int×fx),(∀e∈l,∃p:Int×Tok,e=((PySem.intKind prog w).hash p.1,Jj p.1 p.2))->∃a:List (Int×Tok),l=a.map (λp=>((PySem.intKind prog w).hash p.1,Jj p.1 p.2)):=by
  intro l;induction l with
  |nil=>intro _;show#[[],rfl]
  |cons e l d =>
   intro c;have(p,rfl):=c e ov;have(a,rfl):=d λe b=>c e (nc _ b);show#[p::a,rfl]
 have(a,rfl):=ex l all;show#[a,rfl,?_];have g:(a.map λp=>((PySem.intKind prog w).hash p.1,Jj p.1 p.2)).map (λe=>match e.2 with|.int x t=>(x,t)|_=>(0,0))=a:=by
  rw[mn];show R7 _
 have f:(L.map λp=>((PySem.intKind prog w).hash p.1,Jj p.1 p.2)).map (λe=>match e.2 with|.int x t=>(x,t)|_=>(0,0))=L:=by
  rw[mn];show R7 _
 have:=h.map (λe=>match e.2 with|.int x t=>(x,t)|_=>(0,0));rw[g,f]at this;show this
theorem qJ(hS:fk prog w s.heap a led D)(Hz:D.length+1<Gy)
    (h:∀h',H_ a s.heap h'->fk prog w h' a led (if x∈D then D else D++[x])->Q (f7 (x∉D)) {s with heap:=h' }) :
    iv (j0 prog w) A (Vb a (.int x tk) ((PySem.intKind prog w).hash x)) Q E s:=by
  obtain⟨L,es,ep,t,ho,Hi,FC,Fu,hf,hb,GV,GO⟩:=hS;have K':(PySem.intKind prog w).is x (.int x tk)=cb:=by rw[sv];simp
  have ML:YI (PySem.intKind prog w) es.toList:=by rw[Hi];exact uj
  have hlen:es.size=D.length:=by rw[<-mu,Hi,f6,<-f6 (f:=Prod.fst) (as:=L),FC.length_eq]
  unfold Vb Y_;refine zy (b8 (z8 ho rfl hf ?_))
  dsimp only
  rw[byScan_of (knd:=PySem.intKind prog w) rfl hb ML];simp only[↓ZG];unfold setAddByScan;refine b8 ?_;refine b8 (KJ ?_);refine b8 (YL (knd:=PySem.intKind prog w) K' ho rfl hf ML ?_);have mem_iff:(∃e∈es.toList,(PySem.intKind prog w).is x e.2=cb)↔x∈D:=by
    rw[Hi,<-FC.mem_iff,my];constructor
    · rintro⟨e,he,hi⟩
      obtain⟨p,hp,rfl⟩:=my.mp he;rw[sv,Zz]at hi;exact⟨p,hp,hi.symm⟩
    · rintro⟨p,hp,e⟩
      exact⟨_,my.mpr ⟨p,hp,rfl⟩,by rw[sv];simp[e]⟩
  cases hr:Ww (λe=>(PySem.intKind prog w).is x e.2) es.toList with
  | some j =>
    dsimp only
    obtain⟨hj,O5,_⟩:=Ts.mp hr;have hx:x∈D:=mem_iff.mp ⟨es.toList[j],KX hj,O5⟩;refine eH (eH ?_);have e:s={s with heap:=s.heap}:=by cases s;rfl
    have:=h s.heap (Ri a s.heap) (by rw[Zx hx];exact⟨L,es,ep,t,ho,Hi,FC,Fu,hf,hb,GV,GO⟩);rw[ZA (λz=>z hx)]at this;rw[e];exact this
  | none =>
    dsimp only
    have hx:x∉D:=λhx=>by
      obtain⟨e,he,hp⟩:=mem_iff.mpr hx;have:=Wo.mp hr e he;rw[hp]at this;exact XY this
    have O6:∀(b:Bool) {s₁:hW} {Q':Unit->hW->Prop},Q' () s₁->iv (j0 prog w) A (match b with|true=>Yp "set.scan.the-table-gave-way"|false=>pure ()) Q' E s₁ :=
      λb s₁ Q' hq=>by cases b<;>first|exact eH hq|exact KJ hq
    have IK:=layNew_perm t es ((PySem.intKind prog w).hash x) (.int x tk);have Gp:=layNew_fits t es ((PySem.intKind prog w).hash x) (.int x tk);have GW:=kh t es ((PySem.intKind prog w).hash x) (.int x tk);have Ku:=qI es ((PySem.intKind prog w).hash x) (.int x tk) GO;generalize hL:WR t es ((PySem.intKind prog w).hash x) (.int x tk)=NL at IK Gp GW Ku ⊢;obtain⟨Fw,t1,GX,O7⟩:=NL
    dsimp only at IK Gp GW Ku ⊢
    rw[ri,Hi,show [((PySem.intKind prog w).hash x,Jj x tk)]=[(x,tk)].map (λp=>((PySem.intKind prog w).hash p.1,Jj p.1 p.2)) from rfl,<-uk]at IK;obtain⟨L1,e1,O8⟩:=i7 IK;have Iy:Fw.size=D.length+1:=by rw[<-mu,IK.length_eq,f6,oT,<-hlen,<-mu,Hi,f6];rfl
    have MM:Fw.size<Gy:=by lia
    have HA:(L1.map (·.1)).Perm (D++[x]):=(O8.map _).trans (by rw[uk];exact FC.append_right _);have MN:(D++[x]).Nodup:=by
      rw[MX]
      exact ⟨Fu, by simp, fun y hy z hz => by have : z = x := by simpa using hz
                                              subst this;rintro rfl;exact hx hy⟩
    refine b8 (O6 _ ?_);have Jg:∀h',H_ a s.heap h'->fk prog w h' a led (D++[x])->Q cb {s with heap:=h' }:=λh' sb hs=>by
      have:=h h' sb (by rw[Zy hx];exact hs);rw[ZC hx]at this;exact this
    have tail:∀(g:Bool->Sem Unit),(∀(b:Bool) (s₁:hW) (Q':Unit->hW->Prop),Q' () s₁->iv (j0 prog w) A (g b) Q' E s₁)->∀(R:Option Bool->hW->Prop),(∀h',H_ a s.heap h'->fk prog w h' a led (D++[x])->R (b6 cb) {s with heap:=h' })->∀t2:Nc,t2.fits Fw.size=cb->t2.led=led->(t2.plain=cb->Kt t2)->iv (j0 prog w) A (do
        storeSet a Fw t2
        if (!GX&&t2.tooFull)=true then do
            g (relayAll t2 Fw (SetTable.grown Fw.size)).2.2
            storeSet a (relayAll t2 Fw (SetTable.grown Fw.size)).1 (relayAll t2 Fw (SetTable.grown Fw.size)).2.1
            pure (some true)
          else pure (b6 cb)) R E s:=by
      intro g hg R hR t2 O9 GH HB;refine b8 (QU ho rfl ?_ (QY MM));have JZ:(s.heap.update a (LC Fw t2)).get? a=b6 {cls:=.type "set",dict:=b7,data:=.set Fw (ep+1) t2}:=by
        have:=A0 (LC Fw t2) ho rfl;exact this
      have Jh:=JM s.heap a (LC Fw t2);split
      · have hp:=relayAll_perm t2 Fw (Jm Fw.size)
        have Ji:=relayAll_fits t2 Fw (Jm Fw.size);have La:=iu t2 Fw (Jm Fw.size);have JL:=nG (t:=t2) Fw (Jm Fw.size);generalize MO:Qx t2 Fw (Jm Fw.size)=Rl at hp Ji La JL ⊢;obtain⟨Gq,t3,MP⟩:=Rl
        dsimp only at hp Ji La JL ⊢
        rw[e1]at hp;obtain⟨L2,e2,O_⟩:=i7 hp;have hsz:Gq.size=Fw.size:=by rw[<-mu,hp.length_eq,<-e1,mu]
        refine b8 (hg _ _ _ ?_);refine b8 (QU JZ rfl ?_ (QY ⋯));have Lb:((s.heap.update a (LC Fw t2)).update a (LC Gq t3)).get? a=b6 {cls:=.type "set",dict:=b7,data:=.set Gq (ep+1+1) t3}:=A0 (LC Gq t3) JZ rfl;refine eH (hR _ (Jh.trans (JM _ a _)) ⟨L2,Gq,_,t3,Lb,e2,(O_.map _).trans HA,MN,Ji,⋯,La.trans GH,JL⟩)
      · exact eH (hR _ Jh ⟨L1,Fw,_,t2,JZ,e1,HA,MN,O9,MM,GH,HB⟩)
    split
    · rename_i hp
      refine b8 ?_;rw[XJ 8 rfl];refine eH ?_;have ep:(if plainKind (Jj x tk)=cb then t1 else {t1 with plain:=dV})=t1:=rfl;rw[ep];refine tail _ ?_ _ ?_ t1 Gp (GW.trans GV) Ku
      · intro b s₁ Q' hq;cases b<;>first|exact eH hq|exact KJ hq
      · intro h' Iz GI;dsimp only;exact eH (Jg h' Iz GI)
    · rename_i hp
      refine b8 (eH ?_);simp only[↓ZG];refine tail _ ?_ _ ?_ t1 Gp (GW.trans GV) Ku
      · intro b s₁ Q' hq;cases b<;>first|exact eH hq|exact KJ hq
      · intro h' Iz GI;dsimp only;exact eH (Jg h' Iz GI)
end
abbrev jG(D:List Int)(x:Int):List Int:=if x∈D then D else D++[x]
abbrev aT(l:List Int):List Int:=l.foldl jG []
theorem qK(h:D.Nodup):(jG D x).Nodup:=by
  unfold jG;split
  · exact h
  · rename_i hx
    rw[MX]
    exact ⟨h, by simp, fun y hy z hz => by have : z = x := by simpa using hz
                                           subst this;rintro rfl;exact hx hy⟩
theorem eE:∀(l D:List Int),D.Nodup->(l.foldl jG D).Nodup/\(∀x,x∈l.foldl jG D↔x∈D\/x∈l)/\(l.foldl jG D).length<=D.length+l.length
 |[],D,h=>#[h,by simp,by simp]
 |y::l,D,h=>by
  have(a,h2,d):=eE l (jG D y) (qK h);have b:∀x,x∈jG D y↔x∈D\/x=y:=λx=>by
   unfold jG;split
   .rename_i c;show#[.inl,λz=>z.elim id (λe=>e▸c)]
   .simp
  have hl:(jG D y).length<=D.length+1:=by
   unfold jG;split
   .lia
   .simp
  show#[a,λx=>?_,by rw[MD,ti];lia];rw[MD,h2,b,i1,or_assoc]
def nH(l:List Int):(aT l).Nodup:=(eE l [] Lf).1
def qL(l:List Int)(x:Int):x∈aT l↔x∈l:=by rw[aT,(eE l [] Lf).2.1];simp
def gK(l:List Int):(aT l).length<=l.length:=by have:=(eE l [] Lf).2.2;simpa[aT] using this
def pC(l:List Int)(x:Int):aT (l++[x])=jG (aT l) x:=by unfold aT;rw[T1];rfl
section
variable{prog:y1}{w:F7}{A:J0}{R:Zn->hW->Prop}{I:i6}{fp wr:List i6}{G:Array WU->Array WU->Prop}{n:Nat}{P:Nat->fx->Prop}{St:Nat->hW->Prop}
def i8(W:Zh prog w A.in1 I fp wr G n P St)(S:i6)(l:S∉fp)(led:Bool)
  (a:List Int) (hn:a.length=n) (u:∀i v,P i v->∃x t,a[i]?=b6 x/\v=.int x t) (c:n+1<Gy) :
  ∀(k i:Nat) (s:hW),n - i=k->i<=n->St i s->fk prog w s.heap S led (aT (a.take i)) ->
   (∀s',Moved (S::wr) G s s'->fk prog w s'.heap S led (aT a)->R (.ok (.ret .none)) s') ->
   Pt (j0 prog w) A (.builtin "set.update.loop" ⟨[.ref S,.ref I],[]⟩) R s:=by
 have m:S∉wr:=λh=>l (W.sub _ h);have p:∀b∈wr,b∈S::wr:=λb c=>nc _ c;intro k;induction k with
 |zero =>
  intro i s hk hi g f j;have y:i=n:=by lia
  subst y;show As JA ?_;rw[Ds D1 _];change iv _ A.in1 (P_ (.ref I) >>= _) _ _ s;show b8 (W.done s _ _ g λs' d=>?_);change iv _ A.in1 (ret GA) _ _ s';rw[y4 ⋯]at f;show eH (j s' (d.mono p) (by
   have(L,es,ep,t,ho,rest):=f;show#[L,es,ep,t,d.heap S _ m ho,rest]))
 |succ k z =>
  intro i s hk hi g f j;have q:i<n:=by lia
  show As JA ?_;rw[Ds D1 _];change iv _ A.in1 (P_ (.ref I) >>= _) _ _ s;show b8 (W.item i s _ _ q g λv s' B C d=>?_);have(x,t,D,rfl):=u i v B;have H:fk prog w s'.heap S led (aT (a.take i)):=by
   have(L,es,ep,J,ho,rest):=f;show#[L,es,ep,J,d.heap S _ m ho,rest]
  change iv _ A.in1 (OB [Jj x t] (Y' S (.int x t)) >>= _) _ _ s';show b8 (zy ?_);unfold Y';show zy ?_;show b8 ((PySem.intKind prog w).pyHash (k:=x) (by rw[sv];simp) ?_);have N:(aT (a.take i)).length+1<Gy:=by have:=gK (a.take i);rw[sd]at this;lia
  show qJ (s:={s' with toks:=s'.toks+1}) H N λh' r O=>?_;have Q:fk prog w h' S led (aT (a.take (i+1))):=by
   rw[MV,D];change fk prog w h' S led (aT (a.take i++[x]));rw[pC];show O
  show eH #[LV D1 _,z (i+1) _ ⋯ q (W.frame _ s' _ _ C (IE _) λb c o e=>?_) Q λT Y Le=>?_]
  .rw[r.2 b (λh:b=S=>l (by rw[<-h];show c))];show e
  .show j T (YG W.gtrans ((d.mono p).then_heap (IE _) λb o c e=>?_) Y) Le;rw[r.2 b (λh:b=S=>c (by rw[h];show ov))];show e
end
section
def qM(b:h.get? a=b6 {cls:=.type "set",dict:=b7,data:=.set #v[] 0 (.fresh 0 0 led)}):fk prog w h a led [] :=
 #[[],#v[],0,_,b,rfl,.nil,Lf,rfl,by unfold Gy;decide,rfl,λ_=>#[.nil,rfl]]
end
section
def lK
  (L:s.TypeIs (.ref l) T) (Pb:Qg (.type T) (.type "set")=pure dV) (Pc:Qg (.type T) (.type "frozenset")=pure dV) (FZ:(IU T==IU "dict")=dV)
  (N:a.length+1<Gy)
  (k:∀(s1:hW) (B:J0) (Q':fx->hW->Prop),B.handled=A.handled->(∀b o,s.heap.get? b=b6 o->s1.heap.get? b=b6 o)->s.heap.objs.size<s1.heap.objs.size ->
   (∀I m n G P St d,Zh prog w B.in1 I m n G a.length P St->(∀g g',G g g'->g'=g)->s.heap.objs.size∉m->(∀b∈n,s.heap.objs.size<b)->(∀i v,P i v->∃x t,a[i]?=b6 x/\v=.int x t)->St 0 {s1 with heap:=d}->(∀b o,s1.heap.get? b=b6 o->d.get? b=b6 o)->Q' (.ref I) {s1 with heap:=d})->iv (j0 prog w) B (S3 (.ref l)) Q' E s1)
  (h:∀(h':H9) (f:Nat),fk prog w h' s.heap.objs.size (bb w) (aT a)->(∀b o,b<s.heap.objs.size->s.heap.get? b=b6 o->h'.get? b=b6 o)->Q (.ref s.heap.objs.size) {s with heap:=h',toks:=f}) :
  iv (j0 prog w) A (OK (.type "set") [.ref l]) Q E s:=by
 have(c,tl,Pd):=PySem.F.called_set.mro;have MR:=PySem.F.called_set.made;have HC:=PySem.F.called_set.sub;show WM (WB ?_);change iv _ _ (callAny (.type "set") _) _ _ _;show eH #[P7 _ (by decide +kernel),As PySem.F.entry_type_call ?_];rw[W3 (XI "set" [.ref l] []) rfl];have d:=PySem.F.called_set.notType;have h2:=PySem.F.called_set.canCreate;have Tt:=PySem.F.typeCall_set_1 (.ref l)
 repeat (any_goals (first|assumption|wp_step))
 show Oa (gr (.ref l) (E:=E) (Q₁:=λobj C=>obj=.ref s.heap.objs.size/\C={s with heap:=s.heap.push (iw (bb w))}) ⟨rfl,rfl⟩) λr C p=>?_;cases r with
 |error e=>show p
 |ok O =>
  cases O with
  |ret obj =>
   have(rfl,rfl):=p;have D:(s.heap.push (iw (bb w))).get? s.heap.objs.size=b6 (iw (bb w)):=hH _ rfl;have Y:Lp {s with heap:=s.heap.push (iw (bb w))} (.ref s.heap.objs.size) "set":=#[_,D,rfl]
   have Tu:=PySem.F.called_set.init.lookup;have Tv:=PySem.F.called_set.init.bind (.ref s.heap.objs.size)
   repeat (any_goals (first|assumption|wp_step))
   show Oa (PY (R:=wants (λr H=>r=.none/\∃h' f,H={s with heap:=h',toks:=f} /\
     fk prog w h' s.heap.objs.size (bb w) (aT a) /\
     (∀b o,b<s.heap.objs.size->s.heap.get? b=b6 o->h'.get? b=b6 o)) E) PySem.F.called_set.init.plain PySem.F.entry_set_init (YN Y ?_)) λr₂ H q=>?_
   .have(ol,LW,J):=L;have(Pe,Jk,Jl,HS):=ol;simp only at J;subst J;have Lg:(s.heap.push (iw (bb w))).get? l=b6 {cls:=.type T,dict:=Jk,data:=Jl,slots:=HS}:=ek _ LW;have Tw:Lp {s with heap:=s.heap.push (iw (bb w))} (.ref l) T:=#[_,Lg,rfl]
    unfold MU.«set.__init__» noKeywords Rh;generalize Ph:S3=PI
    wp_walk
    subst Ph;show k {s with heap:=s.heap.push (iw (bb w))} _ _ rfl (λb o e=>ek _ e) (by rw[G'];show NJ _) λI m n G P St d W hG hf Pj HR Fm hk=>?_;show b8 (Qt ?_);show i8 W s.heap.objs.size hf (bb w) a rfl HR N (a.length - 0) 0 _ ⋯ (qq _) Fm (qM (hk _ _ D)) ?_;intro s' j u;have(h',g',d',LX,Mn):=s';have eg:g'=s.gens:=hG _ _ j.gens;have ed:d'=s.drawn:=j.drawn;have eo:Mn=s.os:=j.os;subst eg;subst ed;subst eo;change iv _ _ _ _ _ _;show eH ?_;change iv _ _ (ret GA) _ _ _;show eH #[rfl,h',LX,rfl,u,λb o y e=>?_];show j.heap b o (λz=>by
     rcases i1.mp z with z|z
     .rw[z]at y;show GC _ y
     .show absurd (Pj b z) (Ya y)) (hk _ _ (ek _ e))
   .cases r₂ with
    |error e=>show q
    |ok Pk =>
     cases Pk with
     |ret r =>
      have(rfl,h',f,rfl,u,FI):=q
      repeat (any_goals (first|assumption|wp_step))
      show h _ _ u FI
     |_=>show q.elim
  |_=>show p.elim
theorem sA:∀{vs:List fx}{ss:List Int},OC vs ss->∀(i:Nat) (v:fx),vs[i]?=b6 v->∃x t,ss[i]?=b6 x/\v=.int x t
 |_,_,.nil,i,v,h=>by simp at h
 |_,_,.cons x t h,0,v,e=>by simp at e;show#[x,t,rfl,e.symm]
 |_,_,.cons x t h,i+1,v,e=>by rw[LS]at e;rw[LS];show sA h i v e
theorem ku:∀{vs:List fx}{ss:List Int},OC vs ss->vs.length=ss.length
 |_,_,.nil=>rfl
 |_,_,.cons x t h=>by simp[ku h]
def kz(j:A.handled=b7)(hl:s.heap.IsList l vs.toArray)(f:OC vs a)(c:a.length+1<Gy)
  (h:∀(h':H9) (k:Nat),fk prog w h' s.heap.objs.size (bb w) (aT a)->(∀b o,b<s.heap.objs.size->s.heap.get? b=b6 o->h'.get? b=b6 o)->Q (.ref s.heap.objs.size) {s with heap:=h',toks:=k}) :
  iv (j0 prog w) A (OK (.type "set") [.ref l]) Q E s:=by
 have g:l<s.heap.objs.size:=let ⟨o,ho,_⟩:=hl;i0 ho;show lK hl.typeIs PySem.F.sub_list_set PySem.F.sub_list_frozenset (by decide) c (λs1 B Q' m hk d n=>?_) h;have GW:s1.heap.IsList l vs.toArray:=let ⟨o,ho,r⟩:=hl;⟨o,hk _ _ ho,r⟩;show NA GW ?_;have p:l≠s1.heap.objs.size:=l' (KN g d);have W:=(QE (prog:=prog) (w:=w) (A:=B.in1) (by simp[m,j]) s1.heap.objs.size l p vs.toArray).toS;have q:vs.toArray.size=a.length:=by simp[ku f]
 rw[q]at W;show n _ _ _ _ _ _ _ W (λ_ _ e=>e) (ny (l' d) (Ic g)) (λb c=>by rw[mf.mp c];show d) (λi v t=>sA f i v (by simpa using t)) ⟨⟨_,hH _ rfl,rfl,rfl⟩,GW.push _⟩ λb o e=>ek _ e
end
section
def pD(b:w.params.followText "set-order"=dV)(ho:s.heap.get? S=b6 (km es ep t))(c:t.fits es.size=cb)(hl:t.led=cb)(a:(!dV&&(!t.plain&&f7 (es.size>1)))=dV)
  (h:Q (match es[w6 t.place slot]?,t.place[w6 t.place slot]? with|some (_,x),b6 j=>b6 (x,j+1)|_,_=>b7) s):iv (j0 prog w) A (R' S slot i ep) Q E s:=by
 unfold R';show b8 (z8 ho rfl c ?_)
 dsimp only
 show b8 (dn ?_);change iv _ _ (if (w.params.followText "set-order")=cb then _ else _) _ _ s;rw[Zy (by rw[b];simp)];change iv _ _ (if (!t.plain&&f7 (es.size>1))=cb then _ else _) _ _ s;rw[Zy (by rw[Bool.not_false,Bool.true_and]at a;rw[a];simp)];change iv _ _ ((if (!t.led&&!es.isEmpty)=cb then _ else _) >>= _) _ _ s;rw[Zy (by rw[hl];simp)];show b8 (eH (eH h))
abbrev eU(a:Array Nat)(i:Nat):Nat:=if i=0 then 0 else(a[i - 1]?).getD 0+1
def um(hs:a.toList.Pairwise (· < ·))(hi:i<=a.size):w6 a (eU a i)=i:=by
 have(l,g,h):=Tb.gJ (j:=eU a i) hs;have key:∀k v,a[k]?=b6 v->(v<eU a i↔k<i):=λk v e=>by
  unfold eU;by_cases z:i=0
  .rw[Zx z];lia
  .rw[Zy z];have c:i - 1<a.size:=by lia
   rw[hY c];have(hk,ev):=qs.mp e;have d:=IM.mp hs;change v<a[i - 1]+1↔k<i;rcases Qi k (i - 1) with q|q|q
   .have:=d k (i - 1) (by simpa using hk) (by simpa using c) q;simp at this;lia
   .subst q;lia
   .have:=d (i - 1) k (by simpa using c) (by simpa using hk) q;simp at this;lia
 rcases Qi (w6 a (eU a i)) i with q|q|q
 .have b:w6 a (eU a i)<a.size:=by lia
  have f:=h _ _ (g0 _) (hY b);have h2:=(key _ _ (hY b)).mpr q;lia
 .show q
 .have b:i<a.size:=by lia
  have f:=g _ _ q (hY b);have h2:=(key _ _ (hY b)).mp f;lia
def pE(es:Array (Int×fx))(a:Array Nat)(i:Nat)(hs:a.toList.Pairwise (· < ·))(h2:a.size=es.size)(f:i<=es.size):
  (match es[w6 a (eU a i)]?,a[w6 a (eU a i)]? with|some (_,x),b6 j=>b6 (x,j+1)|_,_=>b7)=es[i]?.map λe=>(e.2,eU a (i+1)):=by
 rw[um hs ⋯];by_cases c:i<a.size
 .have b:a[i]?=b6 a[i]:=hY c;have d:es[i]?=b6 es[i]:=hY ⋯;unfold eU;rw[b,d,Zy (X' i),Nat.add_sub_cancel,b];rfl
 .rw[show es[i]?=b7 from Array.getElem?_eq_none ⋯];rfl
def uo(G:B.handled=b7)(hS:fk prog w s.heap S (bb w) D)
  (h:∀(I:i6) (fp:List i6) (n:Nat) (P:Nat->fx->Prop) (St:Nat->H9->Prop) (c:List Int) (h':H9) (d':YJ),Walks prog w B I fp [I] n P St->c.Perm D->n=c.length->(∀i v,P i v->∃x Y,c[i]?=b6 x/\v=.int x Y)->s.heap.objs.size<=I->(∀b∈fp,b=S\/s.heap.objs.size<=b)->St 0 h' ->
   (∀b o,s.heap.get? b=b6 o->h'.get? b=b6 o)->Q (.ref I) {s with heap:=h',drawn:=d' }):iv (j0 prog w) A (S3 (.ref S)) Q E s:=by
 have(L,es,ep,t,ho,Hi,FC,Fu,a,d,GV,GO):=hS;have MT:s.TypeIs (.ref S) "set":=#[_,ho,rfl]
 have GY:S<s.heap.objs.size:=i0 ho;show U9 MT PySem.F.slot_set_iter (Lh PySem.F.slot_set_iter MT SI.fh ?_ (PySem.F.args_set_iter_1 _));unfold MU.«frozenset.__iter__» SA slotArgs;simp only[XU,SU,HF,↓ZG,bind_assoc,PF,bne_self_eq_false];unfold Su Si;show b8 (eH ?_)
 try dsimp only
 show b8 (eH ?_);show b8 (b8 (T8 ho rfl a (eH ?_)));have LY:D.length=es.size:=by rw[<-FC.length_eq,f6,<-mu,Hi,f6]
 have f:∀(l:List (Int×fx)),l.Perm es.toList->∃c:List Int,c.Perm D/\c.length=es.size/\∀(i:Nat) (v:fx),(l.map (·.2))[i]?=b6 v->∃(x:Int) (Y:Tok),c[i]?=b6 x/\v=Jj x Y:=by
  intro l hl;rw[Hi]at hl;have(L',e',p'):=i7 hl;show#[L'.map (·.1),(p'.map _).trans FC,by rw[((p'.map _).trans FC).length_eq,LY],λi v H=>?_];subst e';rw[mn,mh]at H;rw[mh];cases q:L'[i]? with
  |none=>rw[q]at H;simp at H
  |some p=>rw[q]at H;simp at H;show#[p.1,p.2,rfl,H.symm]
 show b8 (iA ho a ?_);cases hw:w.params.followText "set-order" with
 |true =>
  simp only[SU,V5,HF,↓ZG];show b8 (eH ?_);show b8 (b8 (z8 ho rfl a (eH ?_)));show b8 (va ?_);have y:S≠s.heap.objs.size:=l' GY;have(c,J,N,O):=f (RA (w.params.setOrder S ep) es).toList (cz _ _);have W:=dZ (prog:=prog) (w:=w) (A:=B) (I:=s.heap.objs.size) (S:=S) (es:=es) (ep:=ep) (t:=t) G y a S y ((RA (w.params.setOrder S ep) es).toList.map (·.2)) (by rw[f6,(cz _ _).length_eq,mu]) (λ_=>FL 0) (λ_=>True) (λ_ _ _ _=>trivial)
   (λs i E Q _ _ g C k1 k2=>nA (slot:=0) g C a G (λB E' Q' q=>iB hw C a q) (λx nx e h' T hs=>by
    rw[j']at e;have(p,u,e2):=e;cases e2;show k1 _ (by rw[mh,tj,u];rfl) h' T hs) (λe=>k2 (by rw[mh,tj,Ks];rwa [Ks]at e)))
  show eH #[_,rfl,"set_iterator",_,#[_,hH _ rfl,rfl],SI.slot_next.lookup,?_];show h _ _ _ _ _ c _ s.drawn W J N.symm O (g0 _) (λb d=>by
   simp only[i1,HI,or_false]at d;rcases d with rfl|rfl|rfl
   .show .inr (g0 _)
   .show .inl rfl
   .show .inl rfl) ⟨qq _,⟨_,hH _ rfl,rfl,rfl⟩,ek _ ho,trivial⟩ λb o e=>ek _ e
 |false =>
  by_cases hsz:es.size>1/\t.plain=dV
  .have Ge:t.plain=dV:=hsz.2;have u:(!dV&&(!t.plain&&f7 (es.size>1)))=cb:=by rw[Ge,ZC hsz.1];rfl
   rw[u];simp only[↓ZG];show b8 (dP _ _ _ _ J1 λm d' hp=>?_);simp only[Zb];have HB:∀j∈m,j<es.size:=λj hj=>by have:=hp.mem_iff.mp hj;simpa using this
   have Jn:m.length=es.size:=by rw[hp.length_eq];simp
   show b8 (va ?_ (by
    change(m.map λ(j:Nat)=>FL j).toArray.size<=_;have:es.size<4096:=d;simp only[ko,f6,Jn];have:(4096:Nat)<=eF:=by decide
    lia))
   have G9:(s.heap.push {cls:=.type "tuple",data:=.seq (m.map λ(j:Nat)=>FL j).toArray}).get? S=b6 (km es ep t):=ek _ ho;show b8 (b8 (z8 (s:={s with heap:=_,drawn:=d' }) G9 rfl a (eH ?_)));show b8 (va ?_);have Pl:s.heap.objs.size≠(s.heap.push {cls:=.type "tuple",data:=.seq (m.map λ(j:Nat)=>FL j).toArray}).objs.size:=by rw[G'];show l' (NJ _)
   have y:S≠(s.heap.push {cls:=.type "tuple",data:=.seq (m.map λ(j:Nat)=>FL j).toArray}).objs.size:=by rw[G'];show l' (Ie GY)
   have HU:(m.map λj=>(es[j]?).getD (0,GA)).Perm es.toList:=by
    show(hp.map _).trans ?_;have:(lg es.size).map (λj=>(es[j]?).getD (0,GA))=es.toList:=by
     apply QA
     .simp
     .intro i h1 h2;simp at h1 ⊢;simp[h1]
    rw[this]
   have(c,J,N,O):=f _ HU;have W:=dZ (prog:=prog) (w:=w) (A:=B) (I:=(s.heap.push {cls:=.type "tuple",data:=.seq (m.map λ(j:Nat)=>FL j).toArray}).objs.size) (S:=S) (es:=es) (ep:=ep) (t:=t) G y a s.heap.objs.size Pl ((m.map λj=>(es[j]?).getD (0,GA)).map (·.2)) (by simp[Jn]) (λ_=>.ref s.heap.objs.size) (λh=>h.IsTuple s.heap.objs.size (m.map λ(j:Nat)=>FL j).toArray) (λh h' ⟨o,ho,r⟩ k=>#[o,k _ ho,r])
    (λs' i E Q _ G_ g C k1 k2=>vS g C a G G_ (λj e ej ee h' T hs=>k1 _ (by rw[mh,mh,ej];simp[ee]) h' T hs) HB (λe=>k2 (by rw[mh,mh,e];rfl)))
   show eH #[_,rfl,"set_iterator",_,#[_,hH _ rfl,rfl],SI.slot_next.lookup,?_];show h _ _ _ _ _ c _ d' W J N.symm O (by rw[G'];show IE _) (λb d=>?_) ⟨qq _,⟨_,hH _ rfl,rfl,rfl⟩,ek _ G9,⟨_,ek _ (hH _ rfl),rfl,_,rfl⟩⟩ λb o e=>ek _ (ek _ e);rw[G']at d;simp only[i1,HI,or_false]at d;rcases d with rfl|rfl|rfl
   .show .inr (IE _)
   .show .inl rfl
   .show .inr (g0 _)
  .have u:(!dV&&(!t.plain&&f7 (es.size>1)))=dV:=by
     by_cases z:es.size>1
     .rw[show t.plain=cb by by_cases q:t.plain=cb;show q;show absurd #[z,OD.mpr q] hsz];simp
     .rw[ZA z];simp
   rw[u];simp only[HF,↓ZG];show b8 (eH ?_);show b8 (b8 (z8 ho rfl a (eH ?_)));show b8 (va ?_);have y:S≠s.heap.objs.size:=l' GY;have Pm:t.led=cb:=by rw[GV];change(!w.params.followText "set-order")=cb;rw[hw];rfl
   have(c,J,N,O):=f es.toList (.refl _);have G6:t.place.size=es.size:=by
    unfold XA at a;simp only[df,beq_iff_eq]at a;show a.1
   have Rk:t.place.toList.Pairwise (· < ·):=by
    by_cases z:t.plain=cb
    .show(GO z).1
    .have:es.size<=1:=Yb λq=>hsz #[q,OD.mpr z];have hl:t.place.toList.length<=1:=by rw[mu];lia
     match t.place.toList,hl with
     |[],_=>show .nil
     |[_],_=>show List.pairwise_singleton _ _
     |_::_::_,h=>simp at h
   have W:=dZ (prog:=prog) (w:=w) (A:=B) (I:=s.heap.objs.size) (S:=S) (es:=es) (ep:=ep) (t:=t) G y a S y (es.toList.map (·.2)) (by simp) (λi=>FL ((eU t.place i:Nat):Nat)) (λ_=>True) (λ_ _ _ _=>trivial)
    (λs' i E Q hi _ g C k1 k2=>nA (slot:=eU t.place i) g C a G (λB E' Q' q=>pD hw C a Pm u q) (λx nx e h' T hs=>by
     rw[pE es t.place i Rk G6 hi,j']at e;have(p,u,e2):=e;cases e2;show k1 _ (by rw[mh,tj,u];rfl) h' ?_ hs;show T) (λe=>by
     rw[pE es t.place i Rk G6 hi,Ks]at e;show k2 (by rw[mh,tj,e];rfl)))
   show eH #[_,rfl,"set_iterator",_,#[_,hH _ rfl,rfl],SI.slot_next.lookup,?_];show h _ _ _ _ _ c _ s.drawn W J N.symm O (g0 _) (λb d=>by
    simp only[i1,HI,or_false]at d;rcases d with rfl|rfl|rfl
    .show .inr (g0 _)
    .show .inl rfl
    .show .inl rfl) ⟨qq _,⟨_,hH _ rfl,rfl,rfl⟩,ek _ ho,trivial⟩ λb o e=>ek _ e
end
section
theorem kA:∀{vs:List fx}{a:List Int},vs.length=a.length->(∀(i:Nat) (v:fx),vs[i]?=b6 v->∃x t,a[i]?=b6 x/\v=.int x t)->OC vs a
 |[],[],_,_=>.nil
 |[],_::_,h,_=>by simp at h
 |_::_,[],h,_=>by simp at h
 |v::vs,y::a,h,k=>by
  have(x,t,b,c):=k 0 v rfl;cases b;subst c;show .cons y t (kA (by simpa using h) λi w d=>k (i+1) w d)
def nI(J:A.handled=b7)(N:fk prog w s.heap S (bb w) D)(O:D.length<=eF)
  (T:∀(vs:List fx) (c:List Int) (h':H9) (d':YJ) (h:Nat),c.Perm D->OC vs c->s.heap.objs.size<=h'.objs.size->s.toks<=h->(∀b o,s.heap.get? b=b6 o->h'.get? b=b6 o)->Q vs {s with heap:=h',drawn:=d',toks:=h}) :
  iv (j0 prog w) A (TB (.ref S)) Q E s:=by
 have(L,es,ep,t,ho,rest):=id N;have Y:S<s.heap.objs.size:=i0 ho;unfold TB;show b8 (Qt (As PySem.F.entry_proto_collect ?_));rw[Ds PySem.F.plain_proto_collect _];change iv _ A.in1 (Xy [] >>= λl=>YC (.builtin "list.__iadd__" ⟨[l,.ref S],[]⟩)) _ _ s;show b8 (va ?_);show eH #[LV PySem.F.plain_list_iadd _,As PySem.F.entry_list_iadd ?_];rw[Ds PySem.F.plain_list_iadd _];have f:(s.heap.push {cls:=.type "list",data:=.seq ([]:List fx).toArray}).get? S=b6 {cls:=.type "set",dict:=b7,data:=.set es ep t}:=ek _ ho;have hT:Lp {s with heap:=s.heap.push {cls:=.type "list",data:=.seq ([]:List fx).toArray}} (.ref S) "set":=#[_,f,rfl]
 change iv _ A.in1 (Hr (.ref s.heap.objs.size) (.ref S) (.ref s.heap.objs.size)) _ _ _;unfold Hr;show b8 (LH hT ?_);have j:s.heap.objs.size≠S:=Ic Y;have h1:MZ (.ref s.heap.objs.size) (.ref S)=dV:=by simp[MZ,j]
 have h2:(IU "set"==IU "list")=dV:=by decide
 have h3:(IU "set"==IU "tuple")=dV:=by decide
 simp only[h1,h2,h3,Wx,HF,if_false];show b8 (uo (B:=A.in1) (by simpa using J) #[L,es,ep,t,f,rest] ?_);intro I fp n P St c h' d' W k m hP p Pn Fm hk;have g:Lp {s with heap:=h',drawn:=d' } (.ref S) "set":=#[_,hk _ _ f,rfl]
 show b8 (zy ?_);unfold SM;show b8 (YZ g jw ?_);have Hq:splitId "set.__len__"=b6 ("set","__len__"):=by decide +kernel
 dsimp only
 rw[Hq]
 dsimp only
 show b8 (V6 g Xu ?_);rw[Zy (by decide)];rw[Zx (by decide +kernel)];show b8 (LH g ?_);show eH ?_;rw[Zx (by decide +kernel)];have q:s.heap.objs.size∉fp:=λa=>by
  rcases Pn _ a with z|z
  .show j z
  .rw[G']at z;show absurd z (Xh _)
 have r:h'.get? s.heap.objs.size=b6 {cls:=.type "list",data:=.seq ([]:List fx).toArray}:=hk _ _ (hH _ rfl);show b8 (KJ ?_);show b8 ?_;change iv _ A.in1 (Xn s.heap.objs.size (·.push .none) >>= λ_=>Xn s.heap.objs.size (·.pop)) _ _ _;show b8 (OA r rfl ?_);have u:=A0 (vu (·.push GA)) r rfl;show OA u rfl ?_;have Po:=A0 (vu (·.pop)) u rfl;have x:∀b o,b≠s.heap.objs.size->h'.get? b=b6 o->((h'.update s.heap.objs.size (vu (·.push GA))).update s.heap.objs.size (vu (·.pop))).get? b=b6 o :=
  λb o d e=>(KG _ _ (GR d)).trans ((KG _ _ (GR d)).trans e)
 show eH #[LV PySem.F.plain_extend_loop _,X6 W.toS (by rw[m,k.length_eq];show O) _ q _ n 0 _ _ _ rfl (qq _) (W.frame 0 h' _ Fm λb d o e=>x b o (λz=>q (z▸d)) e) Po (Ye P) λs' G0 c' a y C=>?_];change iv _ A (load s.heap.objs.size >>= _) _ _ s';show b8 (WL y ?_);have(Li,g2,G,Pp,Pq):=s';have eg:g2=s.gens:=a.gens;have ed:G=d':=a.drawn;have eo:Pq=s.os:=a.os;subst eg;subst ed;subst eo;show eH (T _ c Li G Pp k (kA (by rw[mu,C.1,m]) λi v hv=>hP i v (C.2 i v (by rwa [tj]at hv))) (LA (i0 y)) a.toks λb o e=>?_);have H:b≠s.heap.objs.size:=λz=>by rw[z]at e;show absurd (i0 e) (GC _)
 show a.heap b o (λz=>?_) (x b o H (hk _ _ (ek _ e)));rcases i1.mp z with z|z
 .show H z
 .rw[mf.mp z]at e;have:=i0 e;rw[G']at p;show absurd (mA this (F8 (IE _) p)) (GC _)
theorem pF(hc:iv (j0 prog w) A.in1 (TB x) (λvs s1=>∃ns,OC vs ns/\vs.length<64 /\
      ∀(h':H9) (F_:List fx) (e:Nat),(∀b o,s1.heap.get? b=b6 o->h'.get? b=b6 o)->h'.get? s1.heap.objs.size=b6 (JH "list" F_.toArray e)->OC F_ (dq ns)->Q (.ref s1.heap.objs.size) {s1 with heap:=h' }) E s) :
    iv (j0 prog w) A (OK (.builtin "sorted") [x]) Q E s:=by
  refine VO kind_sorted plain_sorted entry_sorted (args_sorted1 _) ?_;unfold MU.«sorted»;refine b8 (m:=checkCount "sorted" 1 1 _) (eH ?_);refine b8 (tA hc (λvs s1 h1=>?_) λ_ _ e=>e);obtain⟨ns,hI,Hh,h⟩:=h1
  refine wpAny_bind (wpAny_newList ?_ (by have : (64 : Nat) ≤ sizeLine := by decide
                                          lia))
  have IY:(s1.heap.push (JH "list" vs.toArray 0)).get? s1.heap.objs.size=b6 (JH "list" vs.toArray 0):=hH _ rfl;show iv _ _ _ _ _ {s1 with heap:=s1.heap.push (JH "list" vs.toArray 0)};refine b8 (zy (Lh Zq ⟨_,IY,rfl⟩ Y5 (list_sort_tree IY hI Hh λout LZ a1 a2 a3=>⟨_,rfl,?_⟩) (Zv _)));obtain⟨e,he⟩:=Xf (out:=out) IY;have e1:=eB (a2.trans (bD ns).symm) a3 (fj ns);subst e1;refine eH ⟨_,rfl,h _ out.toList e (λb o q=>?_) (by rw[RL];exact he) a1⟩;have Fv:b<s1.heap.objs.size:=i0 q;show(Yu (s1.heap.push (JH "list" vs.toArray 0)) s1.heap.objs.size vs out).get? b=b6 o;rw[WW (l' Fv) (by rw[G'];exact Ie Fv)];exact ek _ q
end
section
def pG(f:X.calm=cb)(I:Inv X a σ H s)(g:FR X.K H p (d.map V.int))(i:d.length+1<Gy)
  (h:∀(S:i6) (h':H9) (c:Nat),fk X.prog X.w h' S (bb X.w) (aT d)->Inv X a σ H {s with heap:=h',toks:=c}->Q (.ref S) {s with heap:=h',toks:=c}) :
  iv (j0 X.prog X.w) X.A (OK (.type "set") [.ref p]) Q X.xe s:=by
 have j:X.A.handled=b7:=I.ok.hd f;have(its,l,m,hz):=I.list g;show kz j m.isList (intsAre_of l) i λh' c n k=>h _ h' c n (I.kept λb o e=>k b o (i0 e) e)
def kB(j:X.calm=cb)(I:Inv X a σ H s)(k:fk X.prog X.w s.heap S (bb X.w) D)(f:D.length<64)
  (q:∀p,H p=b7->Q (.ref p) (upd H p (.lst ((dq D).map V.int)))):iv (j0 X.prog X.w) X.A (OK (.builtin "sorted") [.ref S]) (EP X a σ Q) X.xe s:=by
 have l:X.A.handled=b7:=I.ok.hd j;have hl:D.length<=eF:=LA (mA f (by decide));show pF (nI (A:=X.A.in1) (by simpa using l) k hl λvs c h' d' b g h hsz r hk=>#[c,h,by rw[ku h,g.length_eq];show f,λh2 m e k2 d s2=>?_]);rw[eB ((bD c).trans (g.trans (bD D).symm)) (fj c) (fj D)]at s2;have n:Inv X a σ H {s with heap:=h',toks:=b}:=I.kept (t':=b) hk;have i:Inv X a σ H {s with heap:=h',drawn:=d',toks:=b}:=n.drawn d';show#[.ref h'.objs.size,_,i.laid (t':=b) (o:=.lst ((dq D).map V.int)) k2 (g0 _) #[by rw[f6,(bD D).length_eq];show hl,m,e,eD s2,d],rfl,q _ (i.Fe.fresh (g0 _))]
end
end L2
namespace L2
open PySem PyProof.Rows PySem.W
abbrev ET(h:H9)(e C:i6)(a0:fx)(T:Option i6)(c:fx):Prop:=∃oe vs,h.get? e=b6 oe/\oe.cls=.ref C/\oe.data=.fields vs/\vs[0]?=b6 a0/\match T with
 |none=>vs[1]?=b6 .none
 |some T=>T≠e/\vs[1]?=b6 (.ref T)/\∃a b,h.get? T=b6 a/\a.data=.fields b/\b[3]?=b6 c
structure bF(P:y1)(w:F7)(stack:List Env)(H:Hp)(s:hW)(e C:i6)(T:Option i6)(fl:fx)(H':Hp)(s':hW):Prop where
 os:s'.os=s.os
 bare:Ra s'.gens
 un:Un (FT stack) [] H H' s.heap s'.heap
 Fe:Gf P w H' s'.heap
 new:s.heap.get? e=b7
 he:H' e=b7
 exc:∃a0,ET s'.heap e C a0 T fl
 hT:∀a,T=b6 a->s.heap.get? a=b7/\H' a=b7
abbrev Lk(P:y1)(w:F7):KU:=λouter H s E v s'=>∃e C T H',v=.ref e/\bF P w outer H s e C (b6 T) .none H' s'/\E (.ref C) b7 H'
def bL.there(x:bL P w H h a o):∃u,h.get? a=b6 u:=by
 cases o with
 |lst xs=>have(_,_,_,_,e):=x;show#[_,e]
 |tup xs=>have(_,_,_,_,e,_):=x;show#[_,e]
 |set S n=>have(o,_,_,_,e,_):=x;show#[_,e]
 |ins C c b=>have(_,_,_,e,_):=x;show#[_,e]
 |own y=>show x
 |xd b=>have(_,(_,_,_,e,_),_):=x;show#[_,e]
 |Np lo hi=>have(_,_,_,e):=x;show#[_,e]
 |G7 d u=>show#[_,x.1]
 |Kg ps=>show#[_,x]
 |met f y=>show#[_,x]
 |ext φ=>show x.2.1
 |_=>have(_,_,_,_,o,_,_,e,_):=x;show#[_,e]
section
variable{P:y1}{w:F7}{stack outer:List Env}{H H':Hp}{s s':hW}{e C L:i6}{T:Option i6}{fl:fx}{base:H9}{env:Env}{M:Model}{A:J0}{E:fx->hW->Prop}{Q:Unit->hW->Prop}
theorem sC(u:Un (FT stack) [] H H' s.heap s'.heap)(a:∀b∈FT stack,H b=b7):∀l:List Env,(∀b∈FT l,b∈FT stack)->s.heap.FunFrames base l->s'.heap.FunFrames base l
 |[],_,_=>trivial
 |env::l,hs,⟨hk,⟨L,o,c,d,ho,hd⟩,f⟩=>by
  have g:FT (env::l)=L::FT l:=by unfold FT;rw[He,c]
  rw[g]at hs;have(i,q):=u.any ho (a L (hs L ov)) λz=>nomatch z
  show#[hk,#[L,_,c,d,q,hd],sC u a l (λb h=>hs b (nc _ h)) f]
def bF.next(F:bF P w stack H s e C T fl H' s')(l:s.heap.FunFrames base stack)(m:∀b∈FT stack,H b=b7)(I:B=hideAll s'.heap (e::(T.toList++FT stack))):
  B.StaysIn s'.heap/\s'.heap.FunFrames B stack/\B.get? e=b7/\(∀a,T=b6 a->B.get? a=b7) /\
   ∀h' i,B.StaysIn h'->h'.FunFrames B stack->h'.TracedAtW B e (.ref C) a0 i->s'.heap.UpToSlots h'->∃c,bF P w stack H s e C (b6 c) i H' {s' with heap:=h' }:=by
 have p:=sC F.un m _ (λ_ z=>z) l;subst I;show#[λb o q=>of_hideAll _ q,funFrames_hide p λJ N a h2=>nc _ (y0 _ (Oe.mpr #[J,N,h2])),hideAll_none _ ov,λa z=>hideAll_none _ (nc _ (JU _ (by simp[z]))),λh' i k1 k2 ⟨O,Y,c,TJ,TK,b1,⟨b2,b0⟩,b3,b4,b5,r,t,v,b9⟩ k4=>?_];have TL:∀a,a∈e::(T.toList++FT stack)->H' a=b7:=λa ha=>by
  rcases i1.mp ha with rfl|ha
  .show F.he
  rcases mx.mp ha with ha|ha
  .show(F.hT a (by simpa using ha)).2
  .have(_,o,ho,_):=l.mem ha;show F.un.free a o ho (m a ha) λz=>nomatch z
 have keep:∀b o,b∉e::(T.toList++FT stack)->s'.heap.get? b=b6 o->h'.get? b=b6 o:=λb o hb q=>k1 b o (hideAll_get _ q hb);have slot:∀b o,b∈FT stack->s'.heap.get? b=b6 o->∃x,h'.get? b=b6 {o with slots:=x}:=λb o hb q=>by
  have(_,j,d,k):=p.mem hb;rw[q]at d;cases d;show k4 b o q k
 have y:∀b o,s.heap.get? b=b6 o->b∉FT stack->b∉e::(T.toList++FT stack):=λb o q hb z=>by
  rcases i1.mp z with z|z
  .rw[z,F.new]at q;cases q
  rcases mx.mp z with z|z
  .rw[(F.hT b (by simpa using z)).1]at q;cases q
  .show hb z
 have tn:s.heap.get? c=b7/\H' c=b7:=by
  by_cases z:c∈e::(T.toList++FT stack)
  .rcases i1.mp z with z|z
   .show absurd z r
   rcases mx.mp z with z|z
   .show F.hT c (by simpa using z)
   .have(_,j,d,k):=k2.mem z;rw[t]at d;cases d;show absurd v (k _)
  .have q:s'.heap.get? c=b7:=by
    cases q:s'.heap.get? c with
    |none=>rfl
    |some o=>have:=hideAll_get _ q z;rw[b5]at this;cases this
   show#[?_,?_]
   .cases f:s.heap.get? c with
    |none=>rfl
    |some o=>have(j,D):=F.un.there _ o f λz=>nomatch z;rw[q]at D;cases D
   .cases f:H' c with
    |none=>rfl
    |some u =>
     have(o,z):=(F.Fe c u f).there;rw[q]at z;cases z
 show#[c,F.os,F.bare,#[λb o q n hb g=>keep b o (y b o q hb) (F.un.keep b o q n hb g),λb o q n hb g=>?_,F.un.free,λb o q g=>?_,F.un.Gj,F.un.Ga,F.un.Gk],λa u q=>(F.Fe a u q).mM (λb o hb d=>?_) (λ_ z=>z) λ_ _ z=>z,F.new,F.he,#[_,O,Y,b1,b2,b3,b0,r,b4,TJ,TK,t,v,b9],λa z=>by cases z;show tn]
 .have(x,h):=F.un.slot b o q n hb g;have(G,f):=slot b _ hb h;show#[G,f]
 .have(j,h):=F.un.there b o q g;by_cases hb:b∈FT stack
  .have(G,f):=slot b _ hb h;show#[_,f]
  .show#[_,keep b _ (y b o q hb) h]
 .show keep b o (λz=>?_) d;have:=TL b z;rcases hb with rfl|hb
  .rw[q]at this;cases this
  .rw[hb]at this;cases this
def bF.leave(F:bF P w (env::outer) H s e C T .none H' s')(c:A.frames=b6 (env::outer))(d:env.frame=b6 L)(p:s.heap.FunFrames base (env::outer))(q:∀b∈FT (env::outer),H b=b7)
  (h:∀f g,bF P w (env::outer) H s e C (b6 f) .none H' g->Q () g):iv M A (leaving env (.ref e)) Q E s':=by
 have(a0,oe,vs,i,j,hd,k,l):=F.exc;obtain⟨B,r⟩:∃B,B=hideAll s'.heap (e::(T.toList++FT (env::outer))):=#[_,rfl]
 have(m,n,o,t,u):=F.next (a0:=a0) p q r;have a:∀h',Heap.LeftW B (env::outer) e (.ref C) a0 s'.heap h'->Q () {s' with heap:=h' }:=λh' v=>by
  have(k1,k2,k3,x):=v;have(f,z):=u h' .none k1 k2 k3 x;show h _ _ z
 cases T with
 |none=>show wpAny_leaving_firstW c n d i m o hd l k λh' z=>a h' (j▸z)
 |some T =>
  have(y,h2,D,G,I,J,N):=l;show wpAny_leaving_nextW c n d #[oe,vs,T,D,G,i,#[j,k],hd,h2,t T rfl,y,I,J,N] m o a
def bF.note{T:i6}(F:bF P w (env::outer) H s e C (b6 T) .none H' s')(d:A.frames=b6 (env::outer))(f:env.frame=b6 L)(g:s.heap.FunFrames base (env::outer))(i:∀b∈FT (env::outer),H b=b7)
  (h:∀a c,bF P w (env::outer) H s e C (b6 a) (FL L) H' c->Q () c):iv M A (noteFrame (.ref e) env) Q E s':=by
 have(a0,oe,vs,j,k,hd,l,m,h2,n,o,p,q,r):=F.exc;have(t,u,v,x,y):=F.next (a0:=a0) g i rfl;show wpAny_noteFrame_onW d u f #[oe,vs,T,n,o,j,#[k,l],hd,h2,x T rfl,m,p,q,r] t v λh' B=>?_;have(k1,k2,k3,D):=B;have(a,z):=y h' _ k1 k2 k3 D;show h _ _ z
def bF.land{T:i6}(F:bF P w stack H s e C (b6 T) fl H' s')(d:s.heap.FunFrames base stack)(f:∀b∈FT stack,H b=b7)
  (h:∀a c,bF P w stack H s e C (b6 a) .none H' c->Q () c):iv M A (setFlight (.ref e) b7) Q E s':=by
 have(a0,oe,vs,g,i,hd,j,k,h2,l,m,p,r,t):=F.exc;have(u,v,D,x,y):=F.next (a0:=a0) d f rfl;show wpAny_setFlight_noneW u v #[oe,vs,T,l,m,g,#[i,j],hd,h2,x T rfl,k,p,r,t] λh' k1 k2 k3 B=>?_;have(a,z):=y h' _ k1 k2 k3 λb o q n=>#[o.slots,B b o q n]
 show h _ _ z
end
section
def bF.down(I:Inv X j σ H s)(l:X.ex=[])(hs:X.stack=X.env::X.outer)(m:X.env.frame=b6 X.env.locals)(F:bF X.prog X.w X.stack H s e C T p H' s'):bF X.prog X.w X.outer X.H₀ X.s₀ e C T p H' s':=by
 have nx:∀b:i6,b∉X.ex:=λb z=>by rw[l]at z;cases z
 have k:FT X.stack=X.env.locals::FT X.outer:=by rw[hs];unfold FT;rw[He,m]
 have c:∀b,s.heap.get? b=b7->X.s₀.heap.get? b=b7:=λb q=>by
  cases z:X.s₀.heap.get? b with
  |none=>rfl
  |some o=>have(g,z):=I.base.there b o z (nx b);rw[q]at z;cases z
 have hl:∀b o,X.s₀.heap.get? b=b6 o->b≠X.env.locals:=λb o q=>l' (mA (i0 q) I.ok.above);have h:∀b:i6,b∉([]:List i6):=λb z=>nomatch z
 show#[F.os.trans I.os,F.bare,#[λb o q n f _=>?_,λb o q n f _=>?_,λb o q n _=>?_,λb o q _=>?_,λb xs q=>F.un.Gj b xs (I.base.Gj b xs q),λb o u q=>F.un.Ga b o u (I.base.Ga b o u q),λb ps q=>?_],F.Fe,c _ F.new,F.he,F.exc,λa z=>#[c _ (F.hT a z).1,(F.hT a z).2]]
 .show F.un.keep b o (I.base.keep b o q n f (nx b)) (I.base.free b o q n (nx b)) (λz=>by rw[k]at z;show(i1.mp z).elim (hl b o q) f) (h b)
 .have(t,d):=I.base.slot b o q n f (nx b);have(r,i):=F.un.slot b _ d (I.base.free b o q n (nx b)) (by rw[k];show nc _ f) (h b);show#[r,i]
 .have(g,d):=I.base.there b o q (nx b);show F.un.free b g d (I.base.free b o q n (nx b)) (h b)
 .have(g,d):=I.base.there b o q (nx b);show F.un.there b g d (h b)
 .have(m1,d):=I.base.Gk b ps q;have(m2,i):=F.un.Gk b _ d;show#[m1++m2,by rw[i,Xm]]
def bF.made(I:Inv X c σ H s)(b:Heap.MadeExcOf s.heap h' e (.ref C) vs):bF X.prog X.w X.stack H s e C b7 .none H {s with heap:=h' }:=by
 have(t,d,_):=b.there;show#[rfl,I.bare,Un.kept b.keeps,I.Fe.kept b.keeps,b.new,?_,#[_,_,_,d,rfl,rfl,rfl,rfl],λa z=>nomatch z];cases z:H e with
 |none=>rfl
 |some u=>have(o,q):=(I.Fe e u z).there;rw[b.new]at q;cases q
abbrev L0:List fx:=[.type "ValueError",.type "Exception",.type "BaseException",.type "object"]
abbrev TN(p:i6->List fx->Option fx->Option fx->Option fx->Option fx->String->Option fx->Bool)(M:List fx)(S:List (Option fx)):Prop:=∃C a k0 k1 k2 k3 n k5,M=.ref C::a/\S=[k0,k1,k2,k3,b6 (.builtin n),k5]/\p C a k0 k1 k2 k3 n k5=cb
def nf{P:Prop}(h:dV=cb):P:=nomatch h
def A9(q:excIn.match_1 (λ_ _=>Bool) M S p (λ_ _=>dV)=cb):TN p M S:=by
 cases M with
 |nil=>show nf q
 |cons v a =>
  cases v with
  |ref C =>
   cases S with
   |nil=>show nf q
   |cons k0 S =>
   cases S with
   |nil=>show nf q
   |cons k1 S =>
   cases S with
   |nil=>show nf q
   |cons k2 S =>
   cases S with
   |nil=>show nf q
   |cons k3 S =>
   cases S with
   |nil=>show nf q
   |cons b S =>
   cases b with
   |none=>show nf q
   |some v =>
   cases v with
   |builtin n =>
    cases S with
    |nil=>show nf q
    |cons k5 S =>
    cases S with
    |nil=>show#[C,a,k0,k1,k2,k3,n,k5,rfl,rfl,q]
    |cons _ _=>show nf q
   |_=>show nf q
  |_=>show nf q
abbrev TQ(p:Option i6->ClassData->Array (Option fx)->Bool)(o:Option Obj):Prop:=∃d a b,o=b6 #[.type "type",d,.cls a,b]/\p d a b=cb
def A_(q:excIn.match_6 (λ_=>Bool) o p (λ_=>dV)=cb):TQ p o:=by
 split at q
 .show#[_,_,_,rfl,q]
 .show nf q
def Ba{K:Frag}{P:Prop}(b:K.In h)(q:excIn K C L0 a=cb)(k:∀c N nm d bs hdct sn sub ab col dd k0 k1 k2 k3 k5 f,h.get? C=b6 (excClassObj nm d C N bs c hdct sn sub ab col dd k0 k1 k2 k3 k5 a)->h.Ns N f->f "__init__"=b7->OwnTail h L0 c->P):P:=by
 have(dd,p,r,ho,g):=A_ q;have(u,c,k0,k1,k2,k3,n,k5,i,hs,j):=A9 g;clear q g;have(nm,bs,mro,ns,d,hd,sn,sub,ab,col,s):=p;have⟨l⟩:=r;simp only[df,beq_iff_eq,Fx]at j;obtain⟨⟨⟨⟨⟨rfl,rfl⟩,m⟩,t⟩,e⟩,o⟩:=j
 dsimp only at i m e o
 subst i m;obtain rfl:l=_:=hs;show k c ns nm d bs hd sn sub ab col dd k0 k1 k2 k3 k5 _ (b _ _ ho) (.of_isNs (isNs_of_in b e)) (nsMap_none_of_in b e o) (tail_of_in b t)
def vY(i:X.calm=cb)(j:Gl X x)(f:X.mg x=b6 (.ref C))(k:(x==("__debug__":Str))=dV)(l:excIn X.K C L0 "ValueError.__new__"=cb)(m:PE X a n)
  (g:o5 [a] X.env=[(dV,KZ a X.env)]) :
  PS X (.Raise (b6 (.Call (.Name x p) [a] [] A)) b7 pos) (λD σ H=>n σ H λv d=>∀b s e s',Inv X b σ d s->bF X.prog X.w X.stack d s e C b7 .none d s'->X.xe (.ref e) s'):=by
 intro b s σ H D I h;show Ba I.mod.Md l λB N nm o bs hdct sn sub ab col dd k0 k1 k2 k3 k5 G r t y T=>?_;show wpAny_Raise_call_subT (nm:=nm) (q:=o) (N:=N) (bs:=bs) (hdct:=hdct) (sn:=sn) (sub:=sub) (ab:=ab) (col:=col) (dd:=dd) (k0:=k0) (k1:=k1) (k2:=k2) (k3:=k3) (k5:=k5) XB (T.hasType XB.hasBase) (I.ok.hd i) (by rw[g];rfl) y (fQ I j f #[rfl,?_] k);rw[g];show Nd (K5 (Ft (m b s σ H _ I h) λu s1 ⟨v,d,c,J,z⟩=>MK #[rfl,?_,c.bk _ _ r,t.keeps c.bk,T.keeps c.bk,λh' e f=>z b s1 e _ c (.made c f)]));show(by decide:1<=eF)
def C8:Passes (Lk X.prog X.w) X E0:=λ_ _ _ _ _ _ _ ⟨_,_,_,_,_,_,h⟩=>h.elim
def sD(F:jB X.prog X.w X.K X.mg X.base CX k f d ps sp)(g:eW k X.A)(i:Binds X.K d ps [])(I:Inv X a σ H s)(r:Vals vs us)(h:sp vs H Q E)
  (j:∀e s',CX X.stack H s E e s'->EE e s'):iv (j0 X.prog X.w) X.A (OK (.ref f) us) (EP X a σ Q) EE s:=by
 have hl:us.length=ps.length:=by rw[<-r.length];show F.len _ _ _ _ h
 have c:=i s us I.IW (by rw[G5];show hl);rw[G5]at c;show WM (Oa (F.run X.A X.stack s H #[us,[]] us vs Q E g I.CV c r h) λr s' b=>?_);cases r with
 |error e=>show j e s' b
 |ok l =>
  cases l with
  |ret u=>show I.after b
  |_=>show Nj b
end
@[reducible]noncomputable def Cx.J3(X:Cx)(e:i6)(oe:Obj)(E:fx->hW->Prop):Cx:={X with A:=X.A.mark (b6 (.ref e)),calm:=dV,pn:=(e,oe)::X.pn,xe:=E}
section
def Inv.J3(I:Inv X a σ H s)(b:s.heap.get? e=b6 oe)(h2:H e=b7)(c:e≠X.env.locals)(d:e∉X.fs)(f:∀v,oe.data≠.cell v):Inv (X.J3 e oe E) a σ H s :=
 #[#[I.ok.mod,I.ok.kind,I.ok.glob,I.ok.blt,I.ok.above,I.ok.inj,I.ok.has,I.ok.KP,λz=>(nomatch z),I.ok.frames,I.ok.LJ,I.ok.Nr,I.ok.bs,I.ok.JD,I.ok.HK,I.ok.Ip,I.ok.iW,I.ok.Kh],I.os,I.bare,I.base,I.loc,I.cell,I.free,I.Fz,
  λp g=>(i1.mp (show p∈(e,oe)::(X.pn++a) from g)).elim (λz=>by subst z;show#[b,h2,c,d,f]) λz=>I.pin p z,I.Fe,I.len]
def Inv.EU(ok:X.Ok)(I:Inv (X.J3 e oe E) a σ H s):Inv X a σ H s :=
 #[ok,I.os,I.bare,I.base,I.loc,I.cell,I.free,I.Fz,λp b=>I.pin p (nc _ b),I.Fe,I.len]
def Inv.gone(I:Inv X f σ H s)(D:X.N.Nodup)(w:X.N[j]?=b6 n)(hl:X.env.scope.names.lookup n=b6 .local)
  (h:∀s',Inv X f (σ.set j b7) H s'->Q () s'):iv M A (do bindName X.env n .none;unbindBehindTheSuite X.env n pos) Q E s:=by
 have(m,G,J):=id I.loc;have L:(X.env.scope.kind==.class||(X.env.scope.kind==.module&&X.env.locals != X.env.globals))=dV:=by rw[I.ok.kind];rfl
 show wpAny_nameGoes_keeps hl G L λh' v O hs=>h _ ?_;have x:=I.IX;have T:j < σ.length:=by rw[I.len];show(mN.mp w).1
 have ne:∀b o,X.s₀.heap.get? b=b6 o->b≠X.env.locals:=λb o q=>l' (mA (i0 q) I.ok.above);show#[I.ok,I.os,I.bare,#[λb o e n t g=>(hs.2 b (ne b o e)).trans (I.base.keep b o e n t g),λb o e n t g=>?_,I.base.free,λb o e g=>?_,I.base.Gj,I.base.Ga,I.base.Gk],#[_,O,λi y u B k Y=>?_],λy c e=>?_,I.free,I.Fz,λp hp=>?_,λb ob e=>(I.Fe b ob e).mM (λc w' hc q=>(hs.2 c ?_).trans q) (λ_ q=>q) λ_ _ q=>q,by simpa using I.len]
 .have(sl,q):=I.base.slot b o e n t g;show#[sl,(hs.2 b (ne b o e)).trans q]
 .have(o',q):=I.base.there b o e g;show#[o',(hs.2 b (ne b o e)).trans q]
 .have C:i≠j:=λz=>by subst z;rw[nC T]at k;cases k
  rw[nT (GR C)]at k;have(u',r,l):=J i y u B k Y;show#[u',r,l.imp (λ⟨a,b⟩=>#[a,?_]) λ⟨a,c,b,d⟩=>#[a,c,b,d.sameBut hs (x y c b)]];change(if y=n then v else m y)=b6 u';rw[Zy λ(z:y=n)=>C (gW D B (by rw[z];show w))];show b
 .have(u,z):=I.cell y c e;show#[u,z.sameBut hs (x y c e)]
 .have(a,b,c,d):=I.pin p hp;show#[(hs.2 p.1 c).trans a,b,c,d]
 .rintro rfl;rcases hc with hc|hc
  .rw[<-hc,I.free]at e;cases e
  .rw[I.free]at hc;cases hc
end
section
variable{prog:y1}{w:F7}{A:J0}{E:fx->hW->Prop}{h:H9}{g:Array WU}{d:YJ}{t:Nat}{os:OsState}{a C:i6}{o:Obj}{K:Frag}
def pH(e:K.In h)(hs:Zi K (.ref C) (.type "object")=b6 cb)(b:h.get? a=b6 o)(c:o.cls=.ref C)(j:R (.ok (.ret (.ref C))) #[h,g,d,t,os]):
  Pt (j0 prog w) A (.call (.builtin "getset_descriptor.__get__") #[[.builtin "object.__class__",.ref a,.ref C],[]]) R #[h,g,d,t,os]:=by
 have f:(⟨h,g,d,t,os⟩:hW).TypeIs (.builtin "object.__class__") "getset_descriptor":=Se;have i:YE (j0 prog w) h (Qg (.ref C) (.type (".".intercalate ("object.__class__".cutAt '.').dropLast))) cb:=by rw[F.owner_object_class];show looks_subIn e hs
 show PY WV.plain F.entry_gs_get (WV.check _ _ _ _ _ _ _ _ f (F.args_gs_get _ _ _) ?_)
 repeat (any_goals (first|assumption|(with_reducible show Pa b ?_;rw[c])|with_reducible show i.at ?_|wp_step))
 show#[P7 _ (by decide +kernel),As F.entry_object_class ?_]
 repeat (any_goals (first|assumption|(with_reducible show Pa b ?_;rw[c])|wp_step))
def lL(b:K.In h)(hs:Zi K (.ref C) (.type "object")=b6 cb)(f:Zj K (.ref C) "__class__"=b6 (b6 (.builtin "object.__class__")))(c:h.get? a=b6 o)(e:o.cls=.ref C)(j:Q (.done (.ret (.ref C))) #[h,g,d,t,os]):
  iv (j0 prog w) A (MU.«object.__getattribute__» ⟨[.ref a,.str "__class__" k],[]⟩) Q E #[h,g,d,t,os]:=by
 have l:(⟨h,g,d,t,os⟩:hW).TypeIs (.builtin "object.__class__") "getset_descriptor":=Se;have i:YE (j0 prog w) h (R9 (.ref C) "__class__") (b6 (.builtin "object.__class__")):=Xz b f;have m:=Se;have n:=WV.lookup;have p:=F.slot_gs_set.lookup
 repeat (any_goals (first|assumption|(with_reducible show Pa c ?_;rw[e])|with_reducible show i.at ?_|wp_step))
 show pH b hs c e ?_
 repeat (any_goals (first|assumption|wp_step))
def qN(b:K.In h)(hs:Zi K (.ref C) (.type "BaseException")=b6 cb)(c:h.get? a=b6 o)(e:o.cls=.ref C)(f:Q () #[h,g,d,t,os]):iv M A (Wj "BaseException.__getattribute__" ⟨[.ref a,i],[]⟩) Q E #[h,g,d,t,os]:=by
 have hk:builtinKind "BaseException.__getattribute__"=b6 .slot:=by decide +kernel
 have j:splitId "BaseException.__getattribute__"=b6 ("BaseException","__getattribute__"):=by decide +kernel
 have k:YE M h (Qg (.ref C) (.type "BaseException")) cb:=looks_subIn b hs;have l:=F.args_bexc_ga (.ref a) i;simp only[Wj,hk,j];show b8 ?_
 .unfold isInstance
  repeat (first|(with_reducible show Pa c ?_;rw[e])|with_reducible show k.at ?_|wp_step)
  show f
abbrev dH(K:Frag)(C:i6):Bool:=Zi K (.ref C) (.type "object")==b6 cb&&Zi K (.ref C) (.type "BaseException")==b6 cb&&Zj K (.ref C) "__class__"==b6 (b6 (.builtin "object.__class__"))&&Zj K (.ref C) "__getattribute__"==b6 (b6 (.builtin "BaseException.__getattribute__"))&&Zj K (.ref C) "__getattr__"==b6 b7&&(clsIn K C).isSome
def qO(b:K.In h)(ok:dH K C=cb)(c:h.get? a=b6 o)(e:o.cls=.ref C)(k:Q (.ref C) #[h,g,d,t,os]):iv (j0 prog w) A (getAttrBy (.ref a) (.str "__class__" l) dV) Q E #[h,g,d,t,os]:=by
 simp only[dH,df,beq_iff_eq]at ok;obtain⟨⟨⟨⟨⟨o1,o2⟩,o3⟩,o4⟩,f⟩,_⟩:=ok;have m:=Yf.ga.bind (.ref a);have n:(dV&&onTheHeap (OY "BaseException.__getattribute__"))=dV:=rfl;have i:(OY "BaseException.__getattribute__"==OY "object.__getattribute__")=dV:=by decide +kernel
 have p:(onTheHeap (Lo C)&&OY "BaseException.__getattribute__"==OY "object.__getattribute__")=dV:=by rw[i];rfl
 have j:YE (j0 prog w) h (R9 (.ref C) "__getattribute__") (b6 (.builtin "BaseException.__getattribute__")):=Xz b o4;have L2:YE (j0 prog w) h (R9 (.ref C) "__getattr__") b7:=Xz b f
 repeat (any_goals (first|assumption|(with_reducible show Pa c ?_;rw[e])|with_reducible show j.at ?_|with_reducible show L2.at ?_|wp_step))
 show PY Yf.ga.plain F.entry_bexc_ga (qN b o2 c e (lL b o1 o3 c e ?_))
 repeat (any_goals (first|assumption|wp_step))
def nJ(b:K.In h)(ok:dH K C=cb)(c:h.get? a=b6 o)(e:o.cls=.ref C)(f:Q (b6 (.ref C)) #[h,g,d,t+1,os]):iv (j0 prog w) A (X4 (.ref a) "__class__") Q E #[h,g,d,t,os]:=by
 unfold X4 getAttrBy?
 repeat (any_goals (first|assumption|with_reducible apply qO b ok c e|wp_step))
end
def pI{K:Frag}(ok:dH K C=cb):KitX K (.ref a) (.ref C) (λh=>∃o,h.get? a=b6 o/\o.cls=.ref C) where
 ty:=λM h _ f=>by
  have(o,c,h2):=f;show(Zk c).andThen ?_;rw[h2];show .now
 it:=λM h b _ A Q E s k q=>by
  simp only[dH,df]at ok;have z:=ok.2;unfold clsIn at z;split at z
  .rename_i ho;unfold isType loadHead;show b8 (wpAny_loadPart (k _ _ (b _ _ ho)) (eH q))
  .cases z
 ne:=λh i dd its n j b e=>by
  simp only[dH,df]at ok;have z:=ok.2;unfold clsIn at z;split at z
  .rename_i ho;rw[ZF];intro q;cases q;have:=b _ _ ho;rw[e]at this;cases this
  .cases z
 ca:=λ{_ _ _ _ _ s} b ⟨o,c,h2⟩ q=>by
  have(h,g,d,t,os):=s;show nJ b ok c h2 q
def Inv.C9(I:Inv X d σ H s)(f:s.heap.get? e=b6 oe)(h:H e=b7)(h2:X.s₀.heap.get? e=b7)(i:e≠X.env.locals)(j:∀x c,X.env.cells.lookup x=b6 c->c≠e)(k:∀p∈X.pn++d,p.1≠e):
  Inv X d σ (upd H e (.G7 oe (.ext λ_=>True))) s:=by
 have ne:∀b o,H b=b6 o->b≠e:=λb o q=>aO q h;show#[I.ok,I.os,I.bare,#[I.base.keep,I.base.slot,λb o q n l=>?_,I.base.there,λb xs q=>?_,λb o u q=>?_,λb ps q=>?_],I.loc,I.cell,?_,λx c q=>?_,λp g=>?_,λb u q=>?_,I.len]
 .rw[aB (λz=>by rw[z,h2]at q;cases q)];show I.base.free b o q n l
 .have:=I.base.Gj b xs q;rw[aB (ne b _ this)];show this
 .have:=I.base.Ga b o u q;rw[aB (ne b _ this)];show this
 .have(m,q):=I.base.Gk b ps q;show#[m,by rw[aB (ne b _ q)];show q]
 .rw[aB (GR i)];show I.free
 .rw[aB (j x c q)];show I.Fz x c q
 .have(a,b,c):=I.pin p g;show#[a,by rw[aB (k p g)];show b,c]
 .by_cases z:b=e
  .subst z;rw[aE]at q;cases q;show#[f,trivial,#[oe,f],λ_ _ _ _=>trivial]
  .rw[aB z]at q;show(I.Fe b u q).mM (λ_ _ _ q=>q) (λc q=>by rw[aB (ne c _ q)];show q) λc xs q=>by rw[aB (ne c _ q)];show q
end L2
namespace L2
open PySem PySem.Spec PyProof.Rows
section
@[reducible]noncomputable def Cx.Fu(X:Cx)(e:i6):Cx:={X with A:=X.A.mark (b6 (.ref e)),calm:=dV,xe:=λ_ _=>False}
def Inv.Fu(I:Inv X a σ H s):Inv (X.Fu e) a σ H s :=
 #[#[I.ok.mod,I.ok.kind,I.ok.glob,I.ok.blt,I.ok.above,I.ok.inj,I.ok.has,I.ok.KP,λz=>(nomatch z),I.ok.frames,I.ok.LJ,I.ok.Nr,I.ok.bs,I.ok.JD,I.ok.HK,I.ok.Ip,I.ok.iW,I.ok.Kh],I.os,I.bare,I.base,I.loc,I.cell,I.free,I.Fz,I.pin,I.Fe,I.len]
def Inv.EV(ok:X.Ok)(I:Inv (X.Fu e) a σ H s):Inv X a σ H s :=
 #[ok,I.os,I.bare,I.base,I.loc,I.cell,I.free,I.Fz,I.pin,I.Fe,I.len]
end
end L2
namespace TM
open PySem L2
inductive U where
 |Fg|bl (b:Bool)|int (i:Int)|str (x:Str)
 |tup (xs:List U)|lst (xs:List U)
 |Fh (ks:List Str) (vs:List U)
mutual
noncomputable def FJ:U->Bool
 |.tup xs=>gL xs
 |.lst _=>dV
 |.Fh _ _=>dV
 |.Fg=>cb|.bl _=>cb|.int _=>cb|.str _=>cb
noncomputable def gL:List U->Bool
 |[]=>cb
 |u::us=>FJ u&&gL us
end
inductive Kd where|own|io|loc|any|bor (j:Nat)|Fo
deriving DecidableEq
abbrev Kd.root:Kd->Bool
 |.own=>cb
 |.io=>cb
 |_=>dV
@[reducible]noncomputable def aw:=List (Option (Kd×U))
structure Ct where
 P:y1
 w:F7
 K:PySem.W.Frag
 H₀:Hp
 IL:i6->Prop
 IO:i6->Prop
 xw:U->Hp->Prop
abbrev KL(K:PySem.W.Frag)(a:i6)(xs:List V):Prop :=
 ∃(o:Obj) (its:Array fx) (n:Nat),K.lookup a=b6 o/\o.cls=.type "list"/\o.dict=b7/\o.data=.seq its n/\its.size<=eF/\Vals xs its.toList
abbrev M0(K:PySem.W.Frag)(S:i6->Prop)(H:Hp)(a:i6)(vs:List V):Prop:=(S a/\Rd H a (.lst vs))\/KL K a vs
def M0.sq(h:M0 K S H a vs):FR K H a vs:=h.elim (λz=>.inl z.2) .inr
abbrev Kv(H:Hp)(R:List V->Prop)(a:i6)(ks:List Str):Prop:=∃b:List (Key×V),H a=b6 (.dK b)/\b.map (·.1)=ks.map GN/\R (b.map (·.2))
section
variable(C:Ct)(S:i6->Prop)(H:Hp)
mutual
def Rep:U->V->Prop
 |.Fg,v=>v=.Fg
 |.bl b,v=>v=.bl b
 |.int i,v=>v=.int i
 |.str x,v=>v=.str x
 |.tup us,v=>∃a vs,v=.ref a/\FW C.K H a vs/\aq us vs
 |.lst us,v=>∃a vs,v=.ref a/\M0 C.K S H a vs/\aq us vs
 |.Fh ks us,v=>∃a,v=.ref a/\S a/\Kv H (aq us) a ks
def aq:List U->List V->Prop
 |[],vs=>vs=[]
 |u::us,vs=>∃v r,vs=v::r/\Rep u v/\aq us r
end
end
def Tp:HO->Prop
 |.tup _=>True
 |.G7 _ (.tup _)=>True
 |_=>False
structure Mv(S:i6->Prop)(H:Hp)(S':i6->Prop)(H':Hp):Prop where
 sub:∀a,S a->S' a
 NP:∀a o,H a=b6 o->Tp o->H' a=b6 o
 PH:∀a o,S a->H a=b6 o->H' a=b6 o
def Mv.TU(m:Mv S H S' H')(h:FW K H a vs):FW K H' a vs:=by
 rcases h with(h|⟨o,h⟩)|h
 .show .inl (.inl (m.NP a _ h trivial))
 .show .inl (.inr #[o,m.NP a _ h trivial])
 .show .inr h
def Mv.TV(m:Mv S H S' H')(h:M0 K S H a vs):M0 K S' H' a vs:=by
 rcases h with⟨s,h|⟨o,h⟩⟩|h
 .show .inl #[m.sub a s,.inl (m.PH a _ s h)]
 .show .inl #[m.sub a s,.inr #[o,m.PH a _ s h]]
 .show .inr h
def Kv.mv(b:∀o,H a=b6 o->H' a=b6 o)(c:∀vs,R vs->d vs)(h:Kv H R a ks):Kv H' d a ks :=
 let ⟨e,f,h2,g⟩:=h;⟨e,b _ f,h2,c _ g⟩
section
mutual
theorem Rep.Kw(m:Mv S H S' H'):∀(u:U) (v:V),Rep C S H u v->Rep C S' H' u v
 |.Fg,_,h=>h
 |.bl _,_,h=>h
 |.int _,_,h=>h
 |.str _,_,h=>h
 |.tup us,v,h=>by
  have(a,vs,e,b,h2):=h;show#[a,vs,e,m.TU b,aq.Kw m us vs h2]
 |.lst us,v,h=>by
  have(a,vs,e,b,h2):=h;show#[a,vs,e,m.TV b,aq.Kw m us vs h2]
 |.Fh ks us,v,h=>by
  have(a,e,b,h2):=h;show#[a,e,m.sub a b,h2.mv (λo q=>m.PH a o b q) λvs q=>aq.Kw m us vs q]
theorem aq.Kw(m:Mv S H S' H'):∀(us:List U) (vs:List V),aq C S H us vs->aq C S' H' us vs
 |[],_,h=>h
 |u::us,vs,h=>by
  have(v,r,e,a,h2):=h;show#[v,r,e,Rep.Kw m u v a,aq.Kw m us r h2]
end
mutual
theorem Rep.ur:∀(u:U) (v:V),FJ u=cb->Rep C S H u v->Rep C S' H u v
 |.Fg,_,_,h=>h
 |.bl _,_,_,h=>h
 |.int _,_,_,h=>h
 |.str _,_,_,h=>h
 |.tup us,v,i,h=>by
  have(a,vs,e,b,h2):=h;show#[a,vs,e,b,aq.ur us vs (by simpa[TM.FJ] using i) h2]
 |.lst us,v,i,h=>by simp[TM.FJ]at i
 |.Fh ks us,v,i,h=>by simp[TM.FJ]at i
theorem aq.ur:∀(us:List U) (vs:List V),gL us=cb->aq C S H us vs->aq C S' H us vs
 |[],_,_,h=>h
 |u::us,vs,i,h=>by
  have(v,r,e,b,h2):=h;have a:TM.FJ u=cb/\gL us=cb:=by simpa[gL] using i
  show#[v,r,e,Rep.ur u v a.1 b,aq.ur us r a.2 h2]
end
def Rep.mv(m:Mv S H S' H')(h:Rep C S H u v):Rep C S' H' u v:=Rep.Kw m u v h
def aq.mv(m:Mv S H S' H')(h:aq C S H us vs):aq C S' H' us vs:=aq.Kw m us vs h
def Rep.FJ(i:TM.FJ u=cb)(h:Rep C S H u v):Rep C S' H u v:=Rep.ur u v i h
def aq.FJ(i:gL us=cb)(h:aq C S H us vs):aq C S' H us vs:=aq.ur us vs i h
def Mv.up(sub:∀a,S a->S' a):Mv S H S' H:=#[sub,λ_ _ h _=>h,λ_ _ _ h=>h]
theorem aq.len:∀{us:List U}{vs:List V},aq C S H us vs->us.length=vs.length
 |[],_,h=>by cases h;rfl
 |u::us,vs,h=>by
  have(v,r,rfl,_,h2):=h;rw[ti,ti,aq.len h2]
theorem aq.get:∀{us:List U}{vs:List V}{i:Nat}{u:U},aq C S H us vs->us[i]?=b6 u->∃v,vs[i]?=b6 v/\Rep C S H u v
 |[],_,_,_,_,e=>by simp at e
 |u::us,vs,0,w,h,e=>by
  have(v,r,rfl,a,_):=h;simp at e;subst e;show#[v,rfl,a]
 |u::us,vs,i+1,w,h,e=>by
  have(v,r,rfl,_,h2):=h;have(b,c,h'):=aq.get (i:=i) (u:=w) h2 (by simpa using e);show#[b,by simpa using c,h']
theorem aq.append:∀{us ws:List U}{vs a:List V},aq C S H us vs->aq C S H ws a->aq C S H (us++ws) (vs++a)
 |[],_,_,_,h,h'=>by cases h;show h'
 |u::us,ws,vs,a,h,h'=>by
  have(v,r,rfl,b,h2):=h;show#[v,r++a,rfl,b,h2.append h']
theorem aq.take:∀{us:List U}{vs:List V} (n:Nat),aq C S H us vs->aq C S H (us.take n) (vs.take n)
 |_,_,0,_=>by simp[aq]
 |[],_,n+1,h=>by cases h;simp[aq]
 |u::us,vs,n+1,h=>by
  have(v,r,rfl,a,h2):=h;show#[v,r.take n,rfl,a,h2.take n]
theorem aq.drop:∀{us:List U}{vs:List V} (n:Nat),aq C S H us vs->aq C S H (us.drop n) (vs.drop n)
 |_,_,0,h=>h
 |[],_,n+1,h=>by cases h;simp[aq]
 |u::us,vs,n+1,h=>by
  have(v,r,rfl,a,h2):=h;show h2.drop n
theorem aq.set:∀{us:List U}{vs:List V} (n:Nat) {u:U}{v:V},aq C S H us vs->Rep C S H u v->aq C S H (us.set n u) (vs.set n v)
 |[],_,n,_,_,h,_=>by cases h;simp[aq]
 |u::us,vs,0,_,_,h,h'=>by
  have(v,r,rfl,a,h2):=h;show#[_,r,rfl,h',h2]
 |u::us,vs,n+1,_,_,h,h'=>by
  have(v,r,rfl,a,h2):=h;show#[v,_,rfl,a,h2.set n h']
def aq.snoc(h:aq C S H us vs)(h':Rep C S H u v):aq C S H (us++[u]) (vs++[v]):=h.append #[v,[],rfl,h',rfl]
theorem aq.strs:∀{xs:List Str}{vs:List V},aq C S H (xs.map .str) vs↔vs=xs.map V.str
 |[],vs=>by simp[aq]
 |x::xs,vs=>by
  constructor
  .rintro⟨v,r,rfl,a,h2⟩;rw[aq.strs.mp h2];have:v=.str x:=a;rw[this];rfl
  .rintro rfl;show#[_,_,rfl,rfl,aq.strs.mpr rfl]
end
structure Ct.Eqv(C C':Ct):Prop where
 P:C.P=C'.P
 w:C.w=C'.w
 K:C.K=C'.K
section
mutual
theorem Rep.Kx(q:C.Eqv c):∀(u:U) (v:V),Rep C S H u v->Rep c S H u v
 |.Fg,_,h=>h
 |.bl _,_,h=>h
 |.int _,_,h=>h
 |.str _,_,h=>h
 |.tup us,v,h=>by
  have(a,vs,e,b,h2):=h;show#[a,vs,e,q.K▸b,aq.Kx q us vs h2]
 |.lst us,v,h=>by
  have(a,vs,e,b,h2):=h;show#[a,vs,e,q.K▸b,aq.Kx q us vs h2]
 |.Fh ks us,v,h=>by
  have(a,e,b,h2):=h;show#[a,e,b,h2.mv (λ_ q=>q) λvs z=>aq.Kx q us vs z]
theorem aq.Kx(q:C.Eqv a):∀(us:List U) (vs:List V),aq C S H us vs->aq a S H us vs
 |[],_,h=>h
 |u::us,vs,h=>by
  have(v,r,e,b,h2):=h;show#[v,r,e,Rep.Kx q u v b,aq.Kx q us r h2]
end
def Rep.cg(q:C.Eqv a)(h:Rep C S H u v):Rep a S H u v:=Rep.Kx q u v h
def aq.cg(q:C.Eqv a)(h:aq C S H us vs):aq a S H us vs:=aq.Kx q us vs h
end
def cW(C:Ct)(S:i6->Prop)(H:Hp)(r:i6):U->Prop
 |.lst us=>∃vs,H r=b6 (.lst vs)/\aq C S H us vs
 |.Fh ks us=>Kv H (aq C S H us) r ks
 |_=>False
def cW.mv(m:Mv S H S' H')(a:∀o,H r=b6 o->H' r=b6 o)(h:cW C S H r u):cW C S' H' r u:=by
 cases u with
 |lst us=>have(vs,b,h2):=h;show#[vs,a _ b,h2.mv m]
 |Fh ks us=>show Kv.mv a (λvs q=>q.mv m) h
 |_=>show h
def cW.rep(hs:∀a,S a->S' a)(b:S' r)(h:cW C S H r u):Rep C S' H u (.ref r):=by
 cases u with
 |lst us=>have(vs,c,h2):=h;show#[r,vs,rfl,.inl #[b,.inl c],h2.mv (.up hs)]
 |Fh ks us=>show#[r,rfl,b,Kv.mv (λ_ q=>q) (λvs q=>q.mv (.up hs)) h]
 |_=>show h.elim
def cW.cg(q:C.Eqv a)(h:cW C S H r u):cW a S H r u:=by
 cases u with
 |lst us=>have(vs,b,h2):=h;show#[vs,b,h2.cg q]
 |Fh ks us=>show Kv.mv (λ_ q=>q) (λvs z=>z.cg q) h
 |_=>show h
def cW.some(h:cW C S H r u):∃o,H r=b6 o/\¬Tp o:=by
 cases u with
 |lst us=>have(vs,a,_):=h;show#[_,a,λz=>z]
 |Fh ks us=>have(b,a,_):=h;show#[_,a,λz=>z]
 |_=>show h.elim
structure Cf where
 S:i6->Prop
 H:Hp
 σ:St
 st:aw
 kid:Nat->List i6
abbrev Cf.R1(c:Cf)(a:i6):Prop:=∃(j:Nat) (k:Kd) (u:U),k.root=cb/\c.st[j]?=b6 (b6 (k,u))/\c.σ[j]?=b6 (b6 (.ref a))
abbrev Cf.RD(c:Cf)(j:Nat)(a:i6):Prop:=∃(u:U) (r:i6),c.st[j]?=b6 (b6 (.Fo,u))/\c.σ[j]?=b6 (b6 (.ref r))/\(a=r\/a∈c.kid j)
abbrev Cf.R(c:Cf)(a:i6):Prop:=c.R1 a\/∃j,c.RD j a
abbrev PS(C:Ct)(S:i6->Prop):i6->Prop:=λa=>C.IL a\/S a
def fm(C:Ct)(S:i6->Prop)(H:Hp):Kd->U->V->Prop
 |.own,u,v=>∃r,v=.ref r/\¬S r/\¬C.IL r/\C.H₀ r=b7/\cW C S H r u
 |.io,u,v=>∃r,v=.ref r/\¬S r/\¬C.IL r/\C.IO r/\cW C S H r u
 |.loc,u,v=>Rep C S H u v
 |.any,u,v=>Rep C (PS C S) H u v
 |.bor _,_,_=>False
 |.Fo,_,v=>∃r,v=.ref r
def nK(C:Ct)(S:i6->Prop)(H:Hp):List U->List i6->Prop
 |[],as=>as=[]
 |u::us,as=>∃a b c vs,as=a::b/\u=.lst c/\H a=b6 (.lst vs)/\aq C S H c vs/\nK C S H us b
def fq(C:Ct)(S:i6->Prop)(H:Hp)(r:i6)(as:List i6):U->Prop
 |.Fh ks us=>∃b:List (Key×V),H r=b6 (.dK b)/\b.map (·.1)=ks.map GN/\b.map (·.2)=as.map V.ref/\(r::as).Nodup/\(∀a∈r::as,¬S a/\¬C.IL a/\C.H₀ a=b7)/\nK C S H us as
 |_=>False
structure ID(C:Ct)(c:Cf):Prop where
 kd:∀(j:Nat) (u:U) (r:i6),c.st[j]?=b6 (b6 (.Fo,u))->c.σ[j]?=b6 (b6 (.ref r))->fq C c.S c.H r (c.kid j) u
 dj:∀(i j:Nat) (a:i6),c.RD i a->c.RD j a->i=j
 d1:∀(j:Nat) (a:i6),c.RD j a->¬c.R1 a
structure Ok(C:Ct)(c:Cf):Prop where
 same:∀a o,C.H₀ a=b6 o->¬C.IO a->c.H a=b6 o
 HV:∀a,c.S a->C.H₀ a=b7/\∃o,c.H a=b6 o
 par:∀a,C.IL a->(∃o,C.H₀ a=b6 o)/\¬C.IO a
 io:∀a,C.IO a->(∃o,C.H₀ a=b6 o)/\∃o,c.H a=b6 o
 len:c.st.length=c.σ.length
 sl:∀(i:Nat) (k:Kd) (u:U),c.st[i]?=b6 (b6 (k,u))->∃v,c.σ[i]?=b6 (b6 v)/\fm C c.S c.H k u v
 inj:∀(i j:Nat) (k k':Kd) (u u':U) (r:i6),k.root=cb->k'.root=cb->c.st[i]?=b6 (b6 (k,u))->c.st[j]?=b6 (b6 (k',u'))->c.σ[i]?=b6 (b6 (.ref r))->c.σ[j]?=b6 (b6 (.ref r))->i=j
 dd:ID C c
structure Ns(c c':Cf):Prop where
 keep:∀a o,c.H a=b6 o->¬c.R a->c'.H a=b6 o
 there:∀a o,c.H a=b6 o->∃o',c'.H a=b6 o'
 roots:∀a,c'.R a->c.R a\/c.H a=b7
 sub:∀a,c.S a->c'.S a
 new:∀a,c'.S a->c.S a\/c.R a\/c.H a=b7
section
def Ns.refl(c:Cf):Ns c c:=#[λ_ _ h _=>h,λ_ o h=>#[o,h],λ_ h=>.inl h,λ_ h=>h,λ_ h=>.inl h]
def Ns.none(n:Ns c b)(h:b.H a=.none):c.H a=.none:=by
 cases e:c.H a with
 |none=>rfl
 |some o=>have(d,q):=n.there a o e;rw[h]at q;cases q
def Ns.trans(m:Ns c d)(n:Ns d e):Ns c e where
 keep:=λa o h b=>by
  show n.keep a o (m.keep a o h b) λz=>?_;rcases m.roots a z with z|z
  .show b z
  .rw[h]at z;cases z
 there:=λa o h=>let ⟨f,h'⟩:=m.there a o h;n.there a f h'
 roots:=λa h=>by
  rcases n.roots a h with z|z
  .show m.roots a z
  .show .inr (m.none z)
 sub:=λa h=>n.sub a (m.sub a h)
 new:=λa h=>by
  rcases n.new a h with z|z|z
  .show m.new a z
  .rcases m.roots a z with z|z
   .show .inr (.inl z)
   .show .inr (.inr z)
  .show .inr (.inr (m.none z))
def fm.rt(hk:k.root=cb)(h:fm C S H k u v):∃r,v=.ref r/\¬S r/\¬C.IL r/\(C.H₀ r=b7\/C.IO r)/\cW C S H r u:=by
 cases k with
 |own=>have(r,a,h2,b,c,d):=h;show#[r,a,h2,b,.inl c,d]
 |io=>have(r,a,h2,b,c,d):=h;show#[r,a,h2,b,.inr c,d]
 |_=>cases hk
theorem nK.mem:∀{us:List U}{as:List i6}{a:i6},nK C S H us as->a∈as->∃vs,H a=b6 (.lst vs)
 |[],as,a,h,ha=>by cases h;cases ha
 |u::us,as,a,h,ha=>by
  have(c,d,e,vs,rfl,_,b,_,h2):=h;rcases i1.mp ha with rfl|ha
  .show#[vs,b]
  .show nK.mem h2 ha
theorem nK.mv(m:Mv S H S' H'):∀{us:List U}{as:List i6},(∀a∈as,∀o,H a=b6 o->H' a=b6 o)->nK C S H us as->nK C S' H' us as
 |[],as,_,h=>h
 |u::us,as,b,h=>by
  have(a,c,d,vs,rfl,e,f,h2,g):=h;show#[a,c,d,vs,rfl,e,b a (by simp) _ f,h2.mv m,nK.mv m (λa i=>b a (by simp[i])) g]
def fq.fr(h:fq C S H r as u):∀a∈r::as,¬S a/\¬C.IL a/\(C.H₀ a=b7\/C.IO a):=by
 cases u<;>first|show h.elim|(have(d,_,_,_,_,b,_):=h;show λa c=>let ⟨p,q,r⟩:=b a c;⟨p,q,.inl r⟩)
def fq.there(h:fq C S H r as u):∀a∈r::as,∃o,H a=b6 o/\¬Tp o:=by
 cases u<;>first|show h.elim|skip
 have(d,b,_,_,_,_,c):=h;intro a ha;rcases i1.mp ha with rfl|ha
 .show#[_,b,λz=>z]
 .have(vs,e):=c.mem ha;show#[_,e,λz=>z]
def fq.mv(m:Mv S H S' H')(c:∀a∈r::as,¬S' a/\∀o,H a=b6 o->H' a=b6 o)(h:fq C S H r as u):fq C S' H' r as u:=by
 cases u<;>first|show h.elim|skip
 have(d,e,h2,f,g,i,j):=h;show#[d,(c r (by simp)).2 _ e,h2,f,g,λa b=>#[(c a b).1,(i a b).2],j.mv m λa b=>(c a (by simp[b])).2]
def ID.of(d:ID C c)(hk:e.kid=c.kid)(p:∀(j:Nat) (u:U),e.st[j]?=b6 (b6 (.Fo,u))->c.st[j]?=b6 (b6 (.Fo,u))/\e.σ[j]?=c.σ[j]?)(s:∀a,e.R1 a->c.R1 a\/∀j,¬c.RD j a)
  (m:Mv c.S c.H e.S e.H) (t:∀j a,c.RD j a->¬e.S a/\∀o,c.H a=b6 o->e.H a=b6 o):ID C e:=by
 have b:∀j a,e.RD j a->c.RD j a:=λj a v=>by
  have(u,r,k,f,q):=v;have(g,l):=p j u k;rw[l]at f;rw[hk]at q;show#[u,r,g,f,q]
 show#[λj u r k f=>?_,λi j a h n=>d.dj i j a (b i a h) (b j a n),λj a h n=>?_]
 .have(g,l):=p j u k;rw[l]at f;rw[hk];show fq.mv m (λa w=>t j a #[u,r,g,f,i1.mp w]) (d.kd j u r g f)
 .rcases s a n with z|z
  .show d.d1 j a (b j a h) z
  .show z j (b j a h)
def ID.hs(d:ID C c)(m:Mv c.S c.H S' H')(b:∀j a,c.RD j a->¬S' a/\∀o,c.H a=b6 o->H' a=b6 o):ID C {c with H:=H',S:=S' } :=
 d.of rfl (λ_ _ e=>#[e,rfl]) (λ_ z=>.inl z) m b
def Ok.root(ok:Ok C c)(h:c.R r):¬c.S r/\¬C.IL r/\(C.H₀ r=b7\/C.IO r)/\∃o,c.H r=b6 o/\¬Tp o:=by
 rcases h with⟨j,k,u,hk,b,h2⟩|⟨j,u,d,b,h2,a⟩
 .have(v,e,hs):=ok.sl j _ _ b;have(d,ev,a,f,g,i):=hs.rt hk;rw[h2]at e;cases e;cases ev;show#[a,f,g,i.some]
 .have hd:=ok.dd.kd j u d b h2;have(l,m,n):=fq.fr hd r (i1.mpr a);show#[l,m,n,fq.there hd r (i1.mpr a)]
def Ok.mv(ok:Ok C c)(n:Ns c b):Mv c.S c.H b.S b.H:=#[n.sub,λa o h t=>n.keep a o h λz=>by
  have(_,_,_,e,h',d):=ok.root z;rw[h]at h';cases h';show d t,λa o s h=>n.keep a o h λz=>(ok.root z).1 s]
def Ok.L4(ok:Ok C c)(n:Ns c b):Mv (PS C c.S) c.H (PS C b.S) b.H:=#[λa h=>h.imp id (n.sub a),(ok.mv n).NP,λa o s h=>n.keep a o h λz=>by
  rcases s with s|s
  .show(ok.root z).2.1 s
  .show(ok.root z).1 s]
def Ok.qP(ok:Ok C c)(h:c.H p=b7):C.H₀ p=b7/\¬c.S p/\¬C.IL p/\¬C.IO p/\¬c.R p:=by
 have a:¬C.IO p:=λz=>by have(_,o,q):=ok.io p z;rw[h]at q;cases q
 have b:C.H₀ p=b7:=by
  cases e:C.H₀ p with
  |none=>rfl
  |some o=>have:=ok.same p o e a;rw[h]at this;cases this
 show#[b,λz=>?_,λz=>?_,a,λz=>?_]
 .have(_,o,q):=ok.HV p z;rw[h]at q;cases q
 .have((o,q),_):=ok.par p z;rw[b]at q;cases q
 .have(_,_,_,o,q,_):=ok.root z;rw[h]at q;cases q
def fm.mv(m:Mv S H S' H')(g:Mv (PS C S) H (PS C S') H')(f:k.root=cb->∀r,v=.ref r->¬S' r/\∀o,H r=b6 o->H' r=b6 o)(h:fm C S H k u v):fm C S' H' k u v:=by
 cases k with
 |own =>
  have(r,e,i,h2,a,b):=h;have(c,d):=f rfl r e;show#[r,e,c,h2,a,b.mv m d]
 |io =>
  have(r,e,i,h2,a,b):=h;have(c,d):=f rfl r e;show#[r,e,c,h2,a,b.mv m d]
 |loc=>show Rep.mv m h
 |any=>show Rep.mv g h
 |bor j=>show h.elim
 |Fo=>show h
structure Nx(c c':Cf):Prop extends Ns c c' where
instance {c a:Cf}:Coe (Nx c a) (Ns c a):=#[Nx.toNs]
def Nx.refl(c:Cf):Nx c c:=#[.refl c]
def Nx.trans(m:Nx c a)(n:Nx a b):Nx c b:=#[m.toNs.trans n.toNs]
def Nx.none(n:Nx c b)(h:b.H a=.none):c.H a=.none:=n.toNs.none h
def Ok.lay(ok:Ok C c)(h:c.H p=b7):Ok C {c with H:=upd c.H p o}/\Nx c {c with H:=upd c.H p o}:=by
 have ne:∀{a:i6} {b:HO},c.H a=b6 b->a≠p:=λe z=>by subst z;rw[h]at e;cases e
 have d:∀a b,c.H a=b6 b->(upd c.H p o) a=b6 b:=λa b e=>by rw[aB (ne e)];show e
 have nx:Nx c {c with H:=upd c.H p o}:=#[#[λa b e _=>d a b e,λa b e=>#[b,d a b e],λa z=>.inl z,λ_ z=>z,λ_ z=>.inl z]]
 show#[#[λa b e z=>d a b (ok.same a b e z),λa z=>#[(ok.HV a z).1,let ⟨b,q⟩:=(ok.HV a z).2;⟨b,d a b q⟩],ok.par,λa z=>#[(ok.io a z).1,let ⟨b,q⟩:=(ok.io a z).2;⟨b,d a b q⟩],ok.len,λi k u e=>?_,ok.inj,ok.dd.hs (ok.mv nx.toNs) λj a z=>#[(ok.root (.inr #[j,z])).1,λb e=>d a b e]],nx];have(v,l,f):=ok.sl i k u e;show#[v,l,f.mv (ok.mv nx.toNs) (ok.L4 nx.toNs) λhk r m=>?_];have(s,g,n,_):=f.rt hk;rw[m]at g;cases g;show#[n,λb e=>d r b e]
def Ok.grow(ok:Ok C c)(hs:jD c.H H')(g:∀a,S' a->c.S a\/(c.H a=b7/\∃o,H' a=b6 o))(p:∀a,c.S a->S' a):Ok C {c with H:=H',S:=S' }/\Nx c {c with H:=H',S:=S' }:=by
 have nx:Nx c {c with H:=H',S:=S' }:=#[#[λa b e _=>hs a b e,λa b e=>#[b,hs a b e],λa z=>.inl z,p,λa z=>(g a z).imp id λq=>.inr q.1]]
 show#[#[λa b e z=>hs a b (ok.same a b e z),λa z=>?_,ok.par,λa z=>#[(ok.io a z).1,let ⟨b,q⟩:=(ok.io a z).2;⟨b,hs a b q⟩],ok.len,λi k u e=>?_,ok.inj,ok.dd.hs (ok.mv nx.toNs) λj a z=>#[λd=>?_,λb e=>hs a b e]],nx]
 rotate_left 2
 .have(f,_,_,o,h,_):=ok.root (.inr #[j,z]);rcases g a d with d|⟨d,_⟩
  .show f d
  .rw[h]at d;cases d
 .rcases g a z with q|⟨f,l⟩
  .show#[(ok.HV a q).1,let ⟨b,q⟩:=(ok.HV a q).2;⟨b,hs a b q⟩]
  .show#[(ok.qP f).1,l]
 .have(v,s,m):=ok.sl i k u e;show#[v,s,m.mv (ok.mv nx.toNs) (ok.L4 nx.toNs) λhk r t=>?_];have(w,n,f,l,x,h):=m.rt hk;rw[t]at n;cases n;have(o,ho,_):=h.some;show#[λz=>?_,λb e=>hs r b e];rcases g r z with z|⟨z,_⟩
  .show f z
  .rw[z]at ho;cases ho
def aK(C:Ct)(a c:Cf):Kd->U->V->Prop
 |.own,u,v=>∃r,v=.ref r/\a.H r=b7/\¬c.S r/\¬c.R r/\cW C c.S c.H r u
 |.loc,u,v=>Rep C c.S c.H u v
 |.any,u,v=>Rep C (PS C c.S) c.H u v
 |.bor j,u,v=>(∃k:Kd,k.root=cb/\c.st[j]?=b6 (b6 (k,u)))/\c.σ[j]?=b6 (b6 v)
 |.io,_,_=>False
 |.Fo,_,_=>False
def ft(C:Ct)(a c:Cf):Kd->U->V->Prop
 |.own,u,v=>∃r,v=.ref r/\a.H r=b7/\¬c.S r/\¬c.R r/\cW C c.S c.H r u
 |.loc,u,v=>Rep C c.S c.H u v
 |.any,u,v=>Rep C (PS C c.S) c.H u v
 |.bor j,u,v=>c.σ[j]?=b6 (b6 v)
 |.io,_,_=>False
 |.Fo,_,_=>False
def aK.w(h:aK C a c k u v):ft C a c k u v:=by
 cases k with
 |bor j=>show h.2
 |_=>show h
def ft.Rq(ok:Ok C c)(n:Ns c a)(f:∀j,k=.bor j->a.σ[j]?=c.σ[j]?)(h:ft C g c k u v):ft C g a k u v:=by
 cases k with
 |own =>
  have(r,e,i,h2,b,d):=h;have(o,ho,_):=d.some;show#[r,e,i,λz=>?_,λz=>?_,d.mv (ok.mv n) λo q=>n.keep r o q b]
  .rcases n.new r z with z|z|z
   .show h2 z
   .show b z
   .rw[z]at ho;cases ho
  .rcases n.roots r z with z|z
   .show b z
   .rw[z]at ho;cases ho
 |loc=>show Rep.mv (ok.mv n) h
 |any=>show Rep.mv (ok.L4 n) h
 |bor j=>change a.σ[j]?=_;rw[f j rfl];show h
 |_=>show h
def ft.on(ok:Ok C c)(n:Ns c a)(b:a.σ=c.σ)(h:ft C d c k u v):ft C d a k u v:=h.Rq ok n λj _=>by rw[b]
def ft.from(n:Ns a b)(h:ft C b c k u v):ft C a c k u v:=by
 cases k with
 |own=>have(r,e,d,h2):=h;show#[r,e,n.none d,h2]
 |_=>show h
def aK.from(n:Ns a b)(h:aK C b c k u v):aK C a c k u v:=by
 cases k with
 |own=>have(r,e,d,h2):=h;show#[r,e,n.none d,h2]
 |_=>show h
def SK(C:Ct)(c:Cf):Kd->i6->Prop
 |.any=>PS C c.S
 |_=>c.S
abbrev kE:Kd->Kd
 |.any=>.any
 |_=>.loc
def Ok.rootOf(ok:Ok C c){j:Nat}(h:∃k:Kd,k.root=cb/\c.st[j]?=b6 (b6 (k,u)))(e:c.σ[j]?=b6 (b6 v)):∃r,v=.ref r/\¬c.S r/\¬C.IL r/\(C.H₀ r=b7\/C.IO r)/\cW C c.S c.H r u:=by
 have(k,hk,h):=h;have(d,a,b):=ok.sl j _ _ h;rw[e]at a;cases a;show b.rt hk
def aK.list(ok:Ok C c)(h:aK C d c k (.lst us) v):∃a vs,v=.ref a/\FR C.K c.H a vs/\aq C (SK C c k) c.H us vs:=by
 cases k with
 |own=>have(r,e,_,_,_,vs,b,h2):=h;show#[r,vs,e,FR.of b,h2]
 |bor j=>have(r,e,_,_,_,vs,b,h2):=ok.rootOf h.1 h.2;show#[r,vs,e,FR.of b,h2]
 |io=>show h.elim
 |Fo=>show h.elim
 |_=>have(a,vs,e,b,h2):=h;show#[a,vs,e,b.sq,h2]
def aK.tuple(ok:Ok C c)(h:aK C d c k (.tup us) v):∃a vs,v=.ref a/\FW C.K c.H a vs/\aq C (SK C c k) c.H us vs:=by
 cases k with
 |own=>have(r,e,_,_,_,h):=h;show h.elim
 |bor j=>have(r,e,_,_,_,h):=ok.rootOf h.1 h.2;show h.elim
 |io=>show h.elim
 |Fo=>show h.elim
 |_=>have(a,vs,e,b,h2):=h;show#[a,vs,e,b,h2]
def aK.flat(ok:Ok C c)(a:FJ u=cb)(h:aK C b c k u v):Rep C c.S c.H u v:=by
 cases k with
 |own=>have(r,e,_,_,_,h):=h;cases u<;>simp[FJ]at a<;>show h.elim
 |loc=>show h
 |any=>show Rep.FJ a h
 |bor j=>have(r,e,_,_,_,h):=ok.rootOf h.1 h.2;cases u<;>simp[FJ]at a<;>show h.elim
 |_=>show h.elim
def aK.int(ok:Ok C c)(h:aK C a c k (.int i) v):v=.int i:=h.flat ok rfl
def aK.str(ok:Ok C c)(h:aK C a c k (.str x) v):v=.str x:=h.flat ok rfl
def aK.bl(ok:Ok C c)(h:aK C a c k (.bl b) v):v=.bl b:=h.flat ok rfl
def aK.item(h:Rep C (SK C c k) c.H u v):aK C a c (kE k) u v:=by
 cases k<;>show h
abbrev Hs(H:Hp):i6->Prop:=λa=>∃o,H a=b6 o
def Ok.yH(ok:Ok C c):∀a,c.S a->Hs c.H a:=λa h=>(ok.HV a h).2
def Ok.EW(ok:Ok C c):∀a,PS C c.S a->Hs c.H a:=λa h=>by
 rcases h with h|h
 .have((o,e),n):=ok.par a h;show#[o,ok.same a o e n]
 .show ok.yH a h
def aK.read(ok:Ok C c)(h:aK C b c k u v):Rep C (Hs c.H) c.H u v:=by
 cases k with
 |own =>
  have(r,e,_,_,_,a):=h;rw[e];have(o,ho,_):=a.some;show a.rep ok.yH #[o,ho]
 |loc=>show Rep.mv (.up ok.yH) h
 |any=>show Rep.mv (.up ok.EW) h
 |bor j =>
  have(r,e,_,_,_,a):=ok.rootOf h.1 h.2;rw[e];have(o,ho,_):=a.some;show a.rep ok.yH #[o,ho]
 |_=>show h.elim
def Ok.newList(ok:Ok C c)(n:Nx a c)(h:c.H p=b7)(d:aq C c.S c.H us vs):
  Ok C {c with H:=upd c.H p (.lst vs)}/\Nx a {c with H:=upd c.H p (.lst vs)}/\aK C a {c with H:=upd c.H p (.lst vs)} .own (.lst us) (.ref p):=by
 have(e,b):=ok.lay (o:=.lst vs) h;have(i,f,h2,j,g):=ok.qP h;show#[e,n.trans b,p,rfl,n.none h,f,g,vs,aE,d.mv (ok.mv b.toNs)]
def Ok.vZ(ok:Ok C c)(n:Nx a c)(h:c.H p=b7)(d:aq C c.S c.H us vs):
  Ok C {c with H:=upd c.H p (.tup vs)}/\Nx a {c with H:=upd c.H p (.tup vs)}/\aK C a {c with H:=upd c.H p (.tup vs)} .loc (.tup us) (.ref p):=by
 have(e,b):=ok.lay (o:=.tup vs) h;show#[e,n.trans b,p,vs,rfl,FW.of aE,d.mv (ok.mv b.toNs)]
end
inductive Ex(α:Type) where|ok (a:α)|exc (c:Str)
abbrev M(α:Type):=aw->Option (Ex α×aw)
namespace M
abbrev pure(a:α):M α:=λst=>b6 (.ok a,st)
abbrev fail:M α:=λ_=>b7
abbrev bind(m:M α)(f:α->M β):M β:=λst=>match m st with
 |none=>b7
 |some (.ok a,st')=>f a st'
 |some (.exc c,st')=>b6 (.exc c,st')
abbrev FK(o:Option α):M α:=λst=>match o with
 |none=>b7
 |some a=>b6 (.ok a,st)
end M
noncomputable instance:Monad M:={pure:=M.pure,bind:=M.bind}
abbrev W{α:Type}(m:M α)(st:aw)(Q:α->aw->Prop):Prop:=∃a st',m st=b6 (.ok a,st')/\Q a st'
section
def ao:W (pure a) st Q↔Q a st:=by
 constructor
 .rintro⟨b,st',e,h⟩;cases e;show h
 .intro h;show#[a,st,rfl,h]
def ai:W (m >>= f) st Q↔W m st λa st'=>W (f a) st' Q:=by
 constructor
 .rintro⟨b,st',e,h⟩;have d:M.bind m f st=b6 (.ok b,st'):=e;unfold M.bind at d;cases q:m st with
  |none=>rw[q]at d;cases d
  |some r =>
   have(r,s1):=r;rw[q]at d;cases r with
   |ok a=>show#[a,s1,q,b,st',d,h]
   |exc c=>cases d
 .rintro⟨a,s1,q,b,st',e,h⟩;show#[b,st',?_,h];change M.bind m f st=_;unfold M.bind;rw[q];show e
def cP:W (M.FK o) st Q↔∃a,o=b6 a/\Q a st:=by
 cases o with
 |none=>show#[λ⟨_,_,e,_⟩=>(by cases e),λ⟨_,e,_⟩=>(by cases e)]
 |some a=>show#[λ⟨_,_,e,h⟩=>(by cases e;show#[a,rfl,h]),λ⟨_,e,h⟩=>(by cases e;show#[a,st,rfl,h])]
def ba:W (M.fail:M α) st Q↔False:=#[λ⟨_,_,e,_⟩=>(by cases e),Nj]
def W.mono(h:W m st Q)(i:∀a s,Q a s->Q' a s):W m st Q':=let ⟨a,s,e,q⟩:=h;⟨a,s,e,i a s q⟩
end
inductive NQ where|add|sub|mul|HW|mod|pow
deriving DecidableEq
inductive M1 where|eq|ne|lt|le|gt|ge|isin|Fj|is|PK
deriving DecidableEq
inductive Bf where|len|sorted|list|tuple|str|int|repr|max|min|all|any
 |dict
deriving DecidableEq
inductive B2 where|Jp|Jq|sset|oJ
deriving DecidableEq
inductive Mf where|split|join|partition|endswith
deriving DecidableEq
inductive TX where|str|list|tuple|int|bool
deriving DecidableEq
inductive Ik where|seq|FH|HX|VP|zip|rev
deriving DecidableEq
inductive E where
 |var (i:Nat)
 |cst (u:U)
 |IQ (x:Str) (u:U)
 |bin (op:NQ) (a b:E)
 |cmp (op:M1) (a b:E)
 |Jr (o1 o2:M1) (a b c:E)
 |and (es:List E)|or (es:List E)|not (a:E)
 |ite (c a b:E)
 |tup (es:List E)|lst (es:List E)|HY (r:Bool)
 |idx (a b:E)
 |G3 (a:E) (lo hi:List E)
 |bi (f:Bf) (es:List E)
 |Js (f:B2) (es:List E)
 |Ky (m:Mf) (a:E) (es:List E)
 |call (f:Str) (es:List E)
 |comp (k:Nat) (t:Bool) (ik:Ik) (src:List E) (cond:List E) (e:E)
 |neg (a:E)|bad|NS (a:E) (T:TX)|fst (es:List E)|inD (neg:Bool) (a:E) (i:Nat)|NT (i:Nat)|J4 (i:Nat) (k d:E)|NU (i:Nat)|NV (ln:Bool) (a b:E)
inductive RE where
 |call (f:Str) (es:List E)
 |Fh (r:RE)
inductive S where
 |set (i:Nat) (e:E)
 |J5 (is:List Nat) (e:E)
 |put (i:Nat) (k v:E)
 |app (i:Nat) (e:E)|ext (i:Nat) (e:E)|bad|newD (i:Nat)|putD (i:Nat) (k v:E)|J6 (i:Nat) (k v:E)|aug (sub:Bool) (i:Nat) (k v:E)|NW (i:Nat)
 |exp (e:E)
 |ret (e:E)|J7
 |ite (c:E) (a b:List S)
 |F0 (t:Bool) (is:List Nat) (ik:Ik) (src:List E) (body:List S)
 |NX (c:E) (body:List S)
 |brk|cnt|NY
 |M3 (is:List Nat)
 |Jt (c:Str) (e:E)
 |GJ (i:Nat) (r:RE)
 |J8 (i:Nat) (VQ:E) (f:Str) (es:List E) (g:Str) (Gq:List E) (x:Str) (cs:List Str) (j o:Nat) (A B:Str) (G:List Str)
abbrev isAny:Kd->Bool
 |.any=>cb
 |_=>dV
abbrev fu(k:Kd)(xs:List U):Bool:=!isAny k||gL xs
abbrev kT(k k':Kd):Kd:=if isAny k||isAny k' then .any else .loc
abbrev cut{α:Type}(xs:List α)(lo hi:Option Int):List α:=(xs.drop (HT.Fp xs.length 0 lo)).take (HT.Fp xs.length xs.length hi - HT.Fp xs.length 0 lo)
abbrev yI:Kd×U->Kd×U->Option (Kd×U)
 |(_,.int i),(_,.int j)=>b6 (.loc,.int (i+j))
 |(_,.str x),(_,.str y)=>if x.length+y.length<=eF then b6 (.loc,.str (x++y)) else b7
 |(k,.lst xs),(k',.lst a)=>if xs.length+a.length<=eF/\fu k xs=cb/\fu k' a=cb then b6 (.own,.lst (xs++a)) else b7
 |(k,.tup xs),(k',.tup a)=>if xs.length+a.length<=eF then b6 (kT k k',.tup (xs++a)) else b7
 |_,_=>b7
abbrev qQ(f:Int->Int->Option Int):U->U->Option (Kd×U)
 |.int i,.int j=>(f i j).map λn=>(.loc,.int n)
 |_,_=>b7
abbrev yJ(i j:Int):Option Int:=if ((-(2 ^ 64)<i/\i<2 ^ 64)\/(-(2 ^ 64)<j/\j<2 ^ 64)) then b6 (i * j) else b7
abbrev yK(i j:Int):Option Int:=if 0<j/\j<1073741824 then b6 (i / j) else b7
abbrev yL(i j:Int):Option Int:=if 0<j then b6 (i % j) else b7
abbrev yM(i j:Int):Option Int:=if 0<=j/\j<=1000000/\i.natAbs<2 ^ 64 then b6 (i ^ j.toNat) else b7
abbrev Ht(op:NQ)(x y:Kd×U):Option (Kd×U):=match op with
 |.add=>yI x y
 |.sub=>qQ (λi j=>b6 (i - j)) x.2 y.2
 |.mul=>qQ yJ x.2 y.2
 |.HW=>qQ yK x.2 y.2
 |.mod=>qQ yL x.2 y.2
 |.pow=>qQ yM x.2 y.2
mutual
noncomputable def FX:Nat->U->Bool
 |_,.Fh _ _=>dV
 |0,.tup _=>dV
 |0,.lst _=>dV
 |n+1,.tup xs=>bY n xs
 |n+1,.lst xs=>bY n xs
 |_,.Fg=>cb|_,.bl _=>cb|_,.int _=>cb|_,.str _=>cb
noncomputable def bY:Nat->List U->Bool
 |_,[]=>cb
 |n,u::us=>FX n u&&bY n us
end
mutual
noncomputable def bA:U->U->Bool
 |.Fg,.Fg=>cb
 |.bl a,.bl b=>a==b
 |.bl a,.int b=>(if a then 1 else 0)==b
 |.int a,.bl b=>a==(if b then 1 else 0)
 |.int a,.int b=>a==b
 |.str a,.str b=>a==b
 |.tup xs,.tup c=>bZ xs c
 |.lst xs,.lst c=>bZ xs c
 |_,_=>dV
noncomputable def bZ:List U->List U->Bool
 |[],[]=>cb
 |u::us,w::ws=>bA u w&&bZ us ws
 |_,_=>dV
end
abbrev Ju(x:U)(a:List U):Option Bool:=if FX 50 x=cb/\bY 50 a=cb then b6 (a.any λy=>bA y x) else b7
abbrev strsOf:List U->Option (List Str)
 |[]=>b6 []
 |.str x::us=>(strsOf us).map (x::·)
 |_::_=>b7
abbrev uu:U->U->Option Bool
 |x,.lst a=>Ju x a
 |x,.tup a=>Ju x a
 |.str x,.Fh ks _=>b6 (f7 (x∈ks))
 |_,_=>b7
abbrev jH:List Str->List U->Str->Option U
 |y::ks,u::us,x=>if y=x then b6 u else jH ks us x
 |_,_,_=>b7
abbrev dput(ks:List Str)(us:List U)(x:Str)(u:U):List Str×List U :=
 if x∈ks then(ks,(ks.zip us).map λp=>if p.1=x then u else p.2) else(ks++[x],us++[u])
abbrev bK:M1->U->U->Option Bool
 |.eq,a,b=>if FX 50 a=cb/\FX 50 b=cb then b6 (bA a b) else b7
 |.ne,a,b=>if FX 50 a=cb/\FX 50 b=cb then b6 (!bA a b) else b7
 |.lt,.int i,.int j=>b6 (f7 (i<j))
 |.gt,.int i,.int j=>b6 (f7 (j<i))
 |.ge,.int i,.int j=>b6 (f7 (j<=i))
 |.isin,x,y=>uu x y
 |.Fj,x,y=>(uu x y).map (!·)
 |_,_,_=>b7
abbrev jx:List U->Option (List Bool)
 |[]=>b6 []
 |.bl x::us=>(jx us).map (x::·)
 |_::_=>b7
abbrev i9:Kd×U->U->Option (Kd×U)
 |(k,.lst xs),.int i=>(FY xs i).map λu=>(kE k,u)
 |(k,.tup xs),.int i=>(FY xs i).map λu=>(kE k,u)
 |(_,.str x),.int i=>if x.length<=eF then(FY x.cps.toList i).map λc=>(.loc,.str #[#v[c]]) else b7
 |(k,.Fh ks us),.str x=>(jH ks us x).map λu=>(kE k,u)
 |_,_=>b7
abbrev jI:Kd×U->Option Int->Option Int->Option (Kd×U)
 |(k,.lst xs),lo,hi=>if fu k xs=cb then b6 (.own,.lst (cut xs lo hi)) else b7
 |(k,.tup xs),lo,hi=>b6 (kE k,.tup (cut xs lo hi))
 |(_,.str x),lo,hi=>if x.length<=eF then b6 (.loc,.str (PySem.StrLaws.sliceText x lo hi)) else b7
 |_,_,_=>b7
abbrev Bb:U->Option Nat
 |.lst xs=>b6 xs.length
 |.tup xs=>b6 xs.length
 |.str x=>if x.length<=eF then b6 x.length else b7
 |_=>b7
abbrev gk{β:Type}(f:Kd×U->Option β):List (Kd×U)->Option β
 |[x]=>f x
 |_=>b7
abbrev intsOf:List U->Option (List Int)
 |[]=>b6 []
 |.int x::us=>(intsOf us).map (x::·)
 |_::_=>b7
abbrev C_(k:Kd)(xs:List U):Option (Kd×U):=match strsOf xs with
 |some ss=>if ss.length<128 then b6 (.own,.lst ((aA ss).map .str)) else b7
 |none=>(intsOf xs).bind λns=>if ns.length<64 then b6 (.own,.lst ((dq ns).map .int)) else b7
abbrev Bc:Kd×U->Option (Kd×U)
 |(k,.lst xs)=>C_ k xs
 |(_,.tup xs)=>(strsOf xs).bind λss=>if ss.length<128 then b6 (.own,.lst ((aA ss).map .str)) else b7
 |_=>b7
abbrev Bd:Kd×U->Option (Kd×U)
 |(k,.lst xs)=>if fu k xs=cb then b6 (.own,.lst xs) else b7
 |(k,.tup xs)=>if fu k xs=cb then b6 (.own,.lst xs) else b7
 |_=>b7
abbrev Be:Kd×U->Option (Kd×U)
 |(k,.lst xs)=>b6 (kE k,.tup xs)
 |(k,.tup xs)=>b6 (kE k,.tup xs)
 |_=>b7
abbrev yN:Kd×U->Option (Kd×U)
 |(_,.int i)=>if i.natAbs.log2<1920 then b6 (.loc,.str (WK i)) else b7
 |_=>b7
abbrev uw(a:Bool):List (Kd×U)->Option (Kd×U)
 |[(_,.int i),(_,.int j)]=>b6 (.loc,.int (if a=cb then(if j<i then j else i) else(if j>i then j else i)))
 |_=>b7
abbrev Bg:Kd×U->Option (Kd×U)
 |(_,.lst xs)=>(jx xs).map λbs=>(.loc,.bl (bs.all id))
 |_=>b7
abbrev Bh:Kd×U->Option (Kd×U)
 |(_,.lst xs)=>(jx xs).map λbs=>(.loc,.bl (bs.any id))
 |_=>b7
abbrev L5:U->Bool
 |.str _=>cb
 |.int _=>cb
 |_=>dV
abbrev kC:List U->Option (List (Str×U))
 |[]=>b6 []
 |.tup [.str x,y]::us=>if L5 y=cb then(kC us).map ((x,y)::·) else b7
 |_::_=>b7
abbrev Bi:Kd×U->Option (Kd×U)
 |(_,.lst xs)=>(kC xs).bind λps=>if (ps.map (·.1)).Nodup then b6 (.own,.Fh (ps.map (·.1)) (ps.map (·.2))) else b7
 |_=>b7
abbrev Bj:Kd×U->Option (Kd×U)
 |(_,.bl b)=>b6 (.loc,.int (if b then 1 else 0))
 |_=>b7
abbrev Hk(f:Bf)(rs:List (Kd×U)):Option (Kd×U):=match f with
 |.len=>gk (λx=>(Bb x.2).map λ(n:Nat)=>(Kd.loc,U.int (n:Int))) rs
 |.sorted=>gk Bc rs
 |.list=>gk Bd rs
 |.tuple=>gk Be rs
 |.str=>gk yN rs
 |.int=>gk Bj rs
 |.max=>uw dV rs
 |.min=>uw cb rs
 |.all=>gk Bg rs
 |.any=>gk Bh rs
 |.dict=>gk Bi rs
 |_=>b7
abbrev v9:U->Option (List Str)
 |.lst xs=>(strsOf xs).bind λss=>if ss.length+1<Gy then b6 (ak ss) else b7
 |.tup xs=>(strsOf xs).bind λss=>if ss.length+1<Gy then b6 (ak ss) else b7
 |_=>b7
abbrev yO:U->Option (Kd×U)
 |.lst xs=>(intsOf xs).bind λns=>if ns.length<64 then b6 (.own,.lst ((dq (aT ns)).map .int)) else b7
 |_=>b7
abbrev qR(x:Kd×U):Option (Kd×U):=match v9 x.2 with
 |some ss=>if ss.length<128 then b6 (.own,.lst ((aA ss).map .str)) else b7
 |none=>yO x.2
abbrev pJ(f:B2)(rs:List (Kd×U)):Option (Kd×U):=match f with
 |.Jp=>b7
 |.Jq=>b7
 |.sset=>gk qR rs
 |.oJ=>b7
abbrev NZ(f:Str->Option (Kd×U)):U->Option (Kd×U)
 |.str b=>f b
 |_=>b7
def iC(h:NZ f u=b6 r):∃b,u=.str b/\f b=b6 r:=by
 cases u with
 |str b=>show#[b,rfl,h]
 |_=>cases h
abbrev EX(a:Str)(xs:List U):Option (Kd×U):=(strsOf xs).bind λss=>if Yt a ss=cb then b6 (.loc,.str (Wk a ss)) else b7
abbrev EY(a:Str):U->Option (Kd×U)
 |.lst xs=>EX a xs
 |_=>b7
abbrev EZ:Mf->Str->U->Option (Kd×U)
|.split,_=>λ_=>b7
 |.join,a=>EY a
 |.endswith,a=>NZ λb=>b6 (.loc,.bl (YO a b))
 |.partition,a=>NZ λb=>if (b.length==0)=dV/\a.length<=eF then b6 (.loc,.tup [.str (ve a b).1,.str (ve a b).2.1,.str (ve a b).2.2]) else b7
abbrev nL(m:Mf)(u:U)(rs:List (Kd×U)):Option (Kd×U):=NZ (λa=>gk (λx=>EZ m a x.2) rs) u
abbrev E1:Kd×U->Option (List (Kd×U))
 |(k,.lst xs)=>b6 (xs.map λu=>(kE k,u))
 |(k,.tup xs)=>b6 (xs.map λu=>(kE k,u))
 |_=>b7
abbrev v_:Kd×U->Option (List (Kd×U))
 |(_,.int n)=>if n<2 ^ 62/\-(2 ^ 62)<n then b6 ((lg n.toNat).map λi:Nat=>(Kd.loc,U.int (0+(i:Int)))) else b7
 |_=>b7
abbrev Bk:List (Kd×U)->Option (List (Kd×U))
 |[(_,.int lo),(_,.int hi)]=>if hi<2 ^ 62/\-(2 ^ 62)<lo/\lo<2 ^ 62/\-(2 ^ 62)<hi then b6 ((lg (hi - lo).toNat).map λi:Nat=>(Kd.loc,U.int (lo+(i:Int)))) else b7
 |_=>b7
abbrev Ij(ik:Ik)(rs:List (Kd×U)):Option (List (Kd×U)):=match ik with
 |.seq=>gk E1 rs
 |.FH=>gk v_ rs
 |.HX=>Bk rs
 |_=>b7
abbrev uz:U->Option Bool
 |.bl b=>b6 b
 |.lst xs=>b6 !xs.isEmpty
 |.tup xs=>b6 !xs.isEmpty
 |.str x=>if x.length<=eF then b6 ((x.length:Int) != 0) else b7
 |_=>b7
abbrev lift:Kd×U->M U
 |(.own,u)=>pure u
 |(.loc,u)=>pure u
 |(.any,u)=>if FJ u=cb then pure u else M.fail
 |(.bor j,_)=>λst=>match st[j]? with
  |some (b6 (.own,u))=>b6 (.ok u,st.set j (b6 (.loc,u)))
  |_=>b7
 |(.io,_)=>M.fail
 |(.Fo,_)=>M.fail
abbrev b_:List (Kd×U)->M (List U)
 |[]=>pure []
 |r::rs=>do let u <-lift r;let us <-b_ rs;pure (u::us)
abbrev cQ(i:Nat):Kd×U->M Unit
 |(.bor j,_)=>λst=>match st[j]? with
  |some (b6 (.own,u))=>b6 (.ok (),(st.set j (b6 (.loc,u))).set i (b6 (.loc,u)))
  |_=>b7
 |(.io,_)=>M.fail
 |(.Fo,_)=>M.fail
 |(k,u)=>λst=>b6 (.ok (),st.set i (b6 (k,u)))
def aX:List (Kd×U)->aw->Prop
 |[],_=>True
 |(.bor j,u)::rs,st=>(∃k:Kd,k.root=cb/\st[j]?=b6 (b6 (k,u)))/\aX rs st
 |_::rs,st=>aX rs st
open Classical in
abbrev au(rs:List (Kd×U)):M Unit:=λst=>if aX rs st then b6 (.ok (),st) else b7
@[reducible]noncomputable def Tab:=Str->List U->Option (Ex (Kd×U))
abbrev kD(Γ:Tab)(f:Str)(us:List U):M (Kd×U):=λst=>match Γ f us with
 |some (.ok (.any,_))=>b7
 |none=>b7
 |some r=>b6 (r,st)
abbrev gM(i:Nat):M (Kd×U):=λst=>match st[i]? with
 |some (b6 (.Fo,_))=>b7
 |some (b6 (k,u))=>b6 (.ok (if k.root=cb then .bor i else k,u),st)
 |_=>b7
abbrev sets:List Nat->List (Kd×U)->M Unit
 |[],[]=>pure ()
 |i::is,r::rs=>do cQ i r;sets is rs
 |_,_=>M.fail
abbrev dQ(t:Bool)(is:List Nat)(r:Kd×U):M Unit:=match t,is,r with
 |false,[i],r=>cQ i r
 |true,is,(k,.tup xs)=>sets is (xs.map λu=>(kE k,u))
 |_,_,_=>M.fail
abbrev inScope{α:Type}(k:Nat)(m:M α):M α:=λst=>match m (pe k b7++st) with
 |none=>b7
 |some (r,st')=>b6 (r,st'.drop k)
abbrev bV(k:Nat)(t:Bool)(cond:M Bool)(elt:M (Kd×U))(src:List (Kd×U)):List (Kd×U)->List U->M (List U)
 |[],acc=>do au src;pure acc
 |x::xs,acc=>do
  au src
  let r <-inScope k (dQ t (lg k) x >>= λ_=>cond >>= λb=>if b=cb then(elt >>= λr=>lift r >>= λu=>pure (b6 u)) else pure b7)
  match r with
  |some u=>if acc.length<eF then bV k t cond elt src xs (acc++[u]) else M.fail
  |none=>bV k t cond elt src xs acc
abbrev lM:U->Str->Option Str
 |.str y,out=>if y.length<=eF/\(out++y).length<=eF then b6 (out++y) else b7
 |.int i,out=>if i.natAbs.log2<1920/\(out++(WK i:Str)).length<=eF then b6 (out++(WK i:Str)) else b7
 |_,_=>b7
abbrev E2:Kd×U->Option (Kd×U)
 |(_,.int i)=>b6 (.loc,.int (-i))
 |_=>b7
abbrev Bl(x:Kd×U):M (Option Int):=match x.2 with
 |.int i=>pure (b6 i)
 |_=>M.fail
abbrev L6:U->M Unit
 |.lst _=>pure ()
 |_=>M.fail
section
variable(Γ:Tab)
mutual
noncomputable def ev:E->M (Kd×U)
 |.var i=>gM i
 |.cst u=>pure (.loc,u)
 |.IQ _ u=>pure (.loc,u)
 |.bin op a b=>do
  let x <-ev a
  let y <-ev b
  au [x,y]
  M.FK (Ht op x y)
 |.cmp op a b=>do
  let x <-ev a
  let y <-ev b
  au [x,y]
  let c <-M.FK (bK op x.2 y.2)
  pure (.loc,.bl c)
 |.Jr _ _ _ _ _=>M.fail
 |.and es=>iD es
 |.or _=>M.fail
 |.not a=>do
  let x <-ev a
  match x.2 with
  |.bl c=>pure (.loc,.bl !c)
  |_=>M.fail
 |.ite c a b=>do
  let p <-FF c
  if p=cb then ev a else ev b
 |.tup es=>do
  let rs <-aY es
  au rs
  let us <-b_ rs
  if us.length<=eF then pure (.loc,.tup us) else M.fail
 |.lst es=>do
  let rs <-aY es
  au rs
  let us <-b_ rs
  if us.length<=eF then pure (.own,.lst us) else M.fail
 |.HY r=>pure (.own,.Fh [] [])
 |.idx a b=>do
  let x <-ev a
  let y <-ev b
  au [x,y]
  M.FK (i9 x y.2)
 |.G3 a lo hi=>do
  let x <-ev a
  let l <-Lm lo
  let h <-Lm hi
  au [x]
  M.FK (jI x l h)
 |.bi f es=>do
  let rs <-aY es
  au rs
  M.FK (Hk f rs)
 |.Js f es=>do
  let rs <-aY es
  au rs
  M.FK (pJ f rs)
 |.Ky m a es=>do
  let x <-ev a
  let rs <-aY es
  au (x::rs)
  M.FK (nL m x.2 rs)
 |.call f es=>do
  let rs <-aY es
  au rs
  kD Γ f (rs.map (·.2))
 |.comp k t ik src cond e=>do
  let rs <-aY src
  au rs
  let xs <-M.FK (Ij ik rs)
  let us <-bV k t (aP cond) (ev e) rs xs []
  pure (.own,.lst us)
 |.neg a=>do
  let x <-ev a
  M.FK (E2 x)
 |.bad=>M.fail
 |.NU _=>M.fail
 |.inD _ _ _=>M.fail
 |.NT _=>M.fail
 |.J4 _ _ _=>M.fail
 |.NV _ _ _=>M.fail
 |.fst es=>do
  let s <-J9 es DD
  pure (.loc,.str s)
 |.NS a T=>M.fail
noncomputable def J9:List E->Str->M Str
 |[],out=>pure out
 |e::es,out=>do
  let x <-ev e
  let y <-M.FK (lM x.2 out)
  J9 es y
noncomputable def aY:List E->M (List (Kd×U))
 |[]=>pure []
 |e::es=>do let r <-ev e;let rs <-aY es;pure (r::rs)
noncomputable def Lm:List E->M (Option Int)
 |[]=>pure b7
 |[e]=>do let x <-ev e;Bl x
 |_=>M.fail
noncomputable def iD:List E->M (Kd×U)
 |[]=>M.fail
 |[e]=>ev e
 |e::es=>do
  let x <-ev e
  match x.2 with
  |.bl cb=>iD es
  |.bl dV=>pure (.loc,.bl dV)
  |_=>M.fail
noncomputable def FF:E->M Bool
 |.and es=>aP es
 |.or es=>fv es
 |.not a=>do let b <-FF a;pure !b
 |.cmp op a b=>do
  let x <-ev a
  let y <-ev b
  au [x,y]
  M.FK (bK op x.2 y.2)
 |.var i=>do let x <-gM i;M.FK (uz x.2)
 |.bi f es=>do
  let rs <-aY es
  au rs
  let r <-M.FK (Hk f rs)
  M.FK (uz r.2)
 |.call f es=>do
  let rs <-aY es
  au rs
  let r <-kD Γ f (rs.map (·.2))
  M.FK (uz r.2)
 |.Jr o1 o2 a b c=>do
  let x <-ev a
  let y <-ev b
  au [x,y]
  let p <-M.FK (bK o1 x.2 y.2)
  if p=cb then do
   let z <-ev c
   au [y,z]
   M.FK (bK o2 y.2 z.2)
  else pure dV
 |_=>M.fail
noncomputable def aP:List E->M Bool
 |[]=>pure cb
 |[e]=>FF e
 |e::es=>do let b <-FF e;if b=cb then aP es else pure dV
noncomputable def fv:List E->M Bool
 |[]=>pure dV
 |[e]=>FF e
 |e::es=>do let b <-FF e;if b=cb then pure cb else fv es
end
inductive Fl where|nx|rt (k:Kd) (u:U)|bk|ct
abbrev retS:Kd×U->M Fl
 |(.own,u)=>pure (.rt .own u)
 |(.loc,u)=>pure (.rt .loc u)
 |(.any,u)=>if FJ u=cb then pure (.rt .loc u) else pure (.rt .any u)
 |(.bor j,_)=>λst=>match st[j]? with
  |some (b6 (.own,u))=>b6 (.ok (.rt .own u),st.set j b7)
  |_=>b7
 |(.io,_)=>M.fail
 |(.Fo,_)=>M.fail
abbrev forM(t:Bool)(is:List Nat)(body:M Fl)(src:List (Kd×U)):List (Kd×U)->M Fl
 |[]=>do au src;pure .nx
 |x::xs=>do
  au src
  dQ t is x
  let f <-body
  match f with
  |.nx=>forM t is body src xs
  |.ct=>forM t is body src xs
  |.bk=>pure .nx
  |.rt k u=>pure (.rt k u)
abbrev nM(c:M Bool)(body:M Fl):Nat->M Fl
 |0=>M.fail
 |n+1=>do
  let b <-c
  if b=cb then do
   let f <-body
   match f with
   |.nx=>nM c body n
   |.ct=>nM c body n
   |.bk=>pure .nx
   |.rt k u=>pure (.rt k u)
  else pure .nx
abbrev bG(Γ:Tab)(f:Str)(us:List U):M (Sum (Kd×U) Str):=λst=>match Γ f us with
 |some (.ok (.own,u))=>b6 (.ok (.inl (.own,u)),st)
 |some (.ok (.loc,u))=>b6 (.ok (.inl (.loc,u)),st)
 |some (.exc c)=>b6 (.ok (.inr c),st)
 |_=>b7
abbrev Dd:Sum (Kd×U) Str->M (Sum (Kd×U) Str)
 |.inl x=>au [x] >>= λ_=>M.FK (Hk .dict [x]) >>= λr=>pure (.inl r)
 |.inr c=>pure (.inr c)
abbrev jJ(a:M (Kd×U)):Sum (Kd×U) Str->M (Sum (Kd×U) Str)
 |.inl x=>a >>= λy=>au [x,y] >>= λ_=>b_ [x,y] >>= λus=>pure (.inl (.loc,.tup us))
 |.inr c=>pure (.inr c)
abbrev Bm(i:Nat):Sum (Kd×U) Str->M Fl
 |.inl x=>cQ i x >>= λ_=>pure .nx
 |.inr c=>pure (.rt .io (.str c))
abbrev wa(i j o:Nat):M Fl:=λst=>match st[j]? with
  |some b7=>if i≠j/\o≠j/\o≠i then(cQ i (.loc,.tup [.Fg,.lst [.bl cb,.bl cb,.bl dV]]) >>= λ_=>cQ o (.loc,.bl dV) >>= λ_=>pure .nx) st else b7
  |_=>b7
abbrev qS(i j o:Nat)(a:List Str):Sum (Kd×U) Str->M Fl
 |.inl r=>cQ i r >>= λ_=>pure .nx
 |.inr c=>if c∈a then wa i j o else M.fail
abbrev J_(Γ:Tab):RE->M (Sum (Kd×U) Str)
 |.call f es=>aY Γ es >>= λrs=>au rs >>= λ_=>bG Γ f (rs.map (·.2))
 |.Fh r=>J_ Γ r >>= Dd
abbrev modS(i:Nat)(f:U->Option U):M Unit:=λst=>match st[i]? with
 |some (b6 (k,u))=>if k.root=cb then match f u with
   |some u'=>b6 (.ok (),st.set i (b6 (k,u')))
   |none=>b7
  else b7
 |_=>b7
abbrev wb(u:U):U->Option U
 |.lst xs=>if xs.length<eF then b6 (.lst (xs++[u])) else b7
 |_=>b7
abbrev lN:Kd×U->U->Option U
 |(k,.lst a),.lst xs=>if xs.length+a.length<=eF/\fu k a=cb then b6 (.lst (xs++a)) else b7
 |(k,.tup a),.lst xs=>if xs.length+a.length<=eF/\fu k a=cb then b6 (.lst (xs++a)) else b7
 |_,_=>b7
abbrev kF(x u:U):U->Option U
 |.Fh ks vs=>match x with
  |.str y=>if ks.length<eF then b6 (.Fh (dput ks vs y u).1 (dput ks vs y u).2) else b7
  |_=>b7
 |.lst xs=>match x with
  |.int i=>(JS xs.length i).map λj=>.lst (xs.set j u)
  |_=>b7
 |_=>b7
abbrev sE:List U->U->Option U
 |[u,x]=>kF x u
 |_=>λ_=>b7
abbrev fuel:Nat:=1000000000000
mutual
noncomputable def L7:S->Nat->Bool
 |.set i _,j=>f7 (j≠i)
 |.J5 is _,j=>f7 (j∉is)
 |.ite _ a b,j=>Ha a j&&Ha b j
 |.F0 _ is _ _ body,j=>f7 (j∉is)&&Ha body j
 |.NX _ body,j=>Ha body j
 |.put _ _ _,_=>cb
 |.app _ _,_=>cb
 |.ext _ _,_=>cb
 |.bad,_=>cb
 |.newD i,j=>f7 (j≠i)
 |.putD _ _ _,_=>cb
 |.J6 _ _ _,_=>cb
 |.aug _ _ _ _,_=>cb
 |.NW _,_=>cb
 |.exp _,_=>cb
 |.ret _,_=>cb
 |.J7,_=>cb
 |.brk,_=>cb
 |.cnt,_=>cb
 |.NY,_=>cb
 |.M3 _,_=>cb
 |.Jt _ _,_=>cb
 |.GJ i _,n=>f7 (n≠i)
 |.J8 i _ _ _ _ _ _ _ j o _ _ _,n=>f7 (n≠i)&&f7 (n≠o)&&f7 (n≠j)
noncomputable def Ha:List S->Nat->Bool
 |[],_=>cb
 |s::ss,j=>L7 s j&&Ha ss j
end
abbrev sF(rs:List (Kd×U))(is:List Nat)(body:List S):Bool:=rs.all λr=>match r.1 with
 |.bor j=>f7 (j∉is)&&Ha body j
 |_=>cb
mutual
noncomputable def exec:S->M Fl
 |.set i e=>do let r <-ev Γ e;cQ i r;pure .nx
 |.J5 is e=>do let r <-ev Γ e;dQ cb is r;pure .nx
 |.put i k v=>do
  let r <-ev Γ v
  let _ <-gM i
  let x <-ev Γ k
  let us <-b_ [r,x]
  modS i (sE us)
  pure .nx
 |.app i e=>do
  let x <-gM i
  L6 x.2
  let r <-ev Γ e
  let u <-lift r
  modS i (wb u)
  pure .nx
 |.ext i e=>do
  let x <-gM i
  L6 x.2
  let r <-ev Γ e
  modS i (lN r)
  pure .nx
 |.bad=>M.fail
 |.newD _=>M.fail
 |.putD _ _ _=>M.fail
 |.J6 _ _ _=>M.fail
 |.aug _ _ _ _=>M.fail
 |.NW _=>M.fail
 |.exp e=>do let _ <-ev Γ e;pure .nx
 |.ret e=>do let r <-ev Γ e;retS r
 |.J7=>pure (.rt .loc .Fg)
 |.ite c a b=>do let p <-FF Γ c;if p=cb then execs a else execs b
 |.F0 t is ik src body=>do
  let rs <-aY Γ src
  au rs
  let xs <-M.FK (Ij ik rs)
  if sF rs is body=cb then forM t is (execs body) rs xs else M.fail
 |.NX c body=>nM (FF Γ c) (execs body) fuel
 |.brk=>pure .bk
 |.cnt=>pure .ct
 |.NY=>pure .nx
 |.M3 _=>M.fail
 |.Jt c e=>do let _ <-ev Γ e;pure (.rt .io (.str c))
 |.GJ i r=>J_ Γ r >>= Bm i
 |.J8 i c f es g d _ h j o _ _ _=>(FF Γ c >>= λp=>if p=cb then((aY Γ es >>= λrs=>au rs >>= λ_=>bG Γ f (rs.map (·.2))) >>= jJ (ev Γ (.lst []))) else((aY Γ d >>= λrs=>au rs >>= λ_=>bG Γ g (rs.map (·.2))) >>= jJ (ev Γ (.lst [])))) >>= qS i j o h
noncomputable def execs:List S->M Fl
 |[]=>pure .nx
 |s::ss=>do
  let f <-exec s
  match f with
  |.nx=>execs ss
  |f=>pure f
end
end
structure Fn where
 name:Str
 np:Nat
 ns:Nat
 body:List S
abbrev start(us:List U)(n:Nat):aw:=us.map (λu=>b6 (if FJ u=cb then Kd.loc else Kd.any,u))++pe (n - us.length) b7
abbrev cj(Γ:Tab)(fn:Fn)(us:List U):Option (Ex (Kd×U)):=if us.length=fn.np then match execs Γ fn.body (start us fn.ns) with
  |some (.ok (.rt .own u),_)=>b6 (.ok (.own,u))
  |some (.ok (.rt .loc u),_)=>b6 (.ok (.loc,u))
  |some (.ok (.rt .any u),_)=>b6 (.ok (.any,u))
  |some (.ok .nx,_)=>b6 (.ok (.loc,.Fg))
  |some (.ok (.rt .io (.str c)),_)=>b6 (.exc c)
  |_=>b7
 else b7
abbrev dR(is:List Nat)(us:List U)(n:Nat):aw:=(us.zipIdx.map λp=>b6 (if p.2∈is then Kd.io else if FJ p.1=cb then Kd.loc else Kd.any,p.1))++pe (n - us.length) b7
abbrev M4:List Nat->aw->Option (List U)
 |[],_=>b6 []
 |i::is,st=>match st[i]? with
  |some (b6 (.io,u))=>(M4 is st).map (u::·)
  |_=>b7
abbrev Rr:Fl->Option (Kd×U)
 |.rt .own u=>b6 (.own,u)
 |.rt .loc u=>b6 (.loc,u)
 |.nx=>b6 (.loc,.Fg)
 |_=>b7
abbrev wd(Γ:Tab)(fn:Fn)(is:List Nat)(body:List S)(us:List U):Option (Ex (Kd×U)):=if us.length=fn.np then match execs Γ body (dR is us fn.ns) with
  |some (.ok f,st)=>(Rr f).bind λr=>(M4 is st).map λws=>.ok (r.1,.tup (r.2::ws))
  |_=>b7
 else b7
abbrev Fn.io(fn:Fn):Option (List Nat×List S):=match fn.body with
 |.M3 is::body=>b6 (is,body)
 |_=>b7
abbrev lO(Γ:Tab)(fn:Fn)(us:List U):Option (Ex (Kd×U)):=match fn.io with
 |some (is,body)=>wd Γ fn is body us
 |none=>cj Γ fn us
abbrev GB(P:List Fn):Nat->Tab
 |0=>λ_ _=>b7
 |d+1=>λf us=>match P.find? λfn=>f7 (fn.name=f) with
  |some fn=>lO (GB P d) fn us
  |none=>b7
end TM
namespace TM
open PySem L2 PyProof.Rows
structure Me where
 fn:Fn
 i:Nat
 N:List Str
 a:i6
 c:i6
 m:fx
 cr:Obj
abbrev Me.fd(top:Nat->Ll)(m:Me):Qy:=PySem.W.fnOf m.fn.name m.fn.name (fR (top m.i)) (cw (top m.i)) (aF (top m.i)) .none .none .none m.m b7 (.ref m.c) .none
abbrev Me.fo(top:Nat->Ll)(m:Me):Obj:=#[.type "function",b7,.func (m.fd top),#v[]]
@[reducible]noncomputable def Gx:=Obj×List (i6×Obj)
abbrev adr(ms:List Me)(xa:List i6):List i6:=3::(ms.flatMap (λm=>[m.c,m.a])++xa)
abbrev Hl(top:Nat->Ll)(g:Gx)(ms:List Me):PySem.W.Frag:=(3,g.1)::(ms.flatMap (λm=>[(m.c,m.cr),(m.a,m.fo top)])++g.2)
def td(top:Nat->Ll)(g:Gx)(ms:List Me)(xa:List i6)(h:g.2.map (·.1)=xa):adr ms xa=(Hl top g ms).map (·.1):=by
 unfold adr Hl;rw[i2,uk,List.map_flatMap,h];rfl
abbrev co(n:Str)(k l c:Nat)(r s:i6)(x y z:fx)(a b t:Nat):Obj:=#[.type "code",b7,.fields #v[.str n k,.str n (k+1),.str "/claim/cut.py" (k+2),.int l 0,.int c 0,.int 0 0,.int 0 0,.int 3 0,.ref r,.bool cb,.int t 0,.ref s,.none,x,y,z,.int a 0,.int l 0,.str "/claim/cut.py" b],#v[]]
abbrev ge(P:S9)(x:Str)(k:Nat)(v:fx):DictEntry:=#[Oj P x,.str x k,v]
end TM
namespace TM
open PySem L2
abbrev Cg:Fn:=#["_law_mix",2,3,[.set 2 (.bin .add (.bin .add (.bin .mul (.bin .add (.bin .mod (.var 0) (.bin .pow (.cst (.int 10)) (.cst (.int 15)))) (.cst (.int 1))) (.cst (.int 48271))) (.bin .mul (.bin .mul (.var 1) (.var 1)) (.cst (.int 16807)))) (.bin .mul (.var 1) (.cst (.int 7919)))),.ret (.bin .mod (.bin .mul (.bin .mod (.var 2) (.cst (.int 2147483647))) (.cst (.int 69621))) (.cst (.int 2147483629)))]]
abbrev xy:Fn:=#["_law_cell",2,3,[.ite (.cmp .lt (.var 1) (.bi .len [.var 0])) [.ret (.idx (.var 0) (.var 1))] [],.set 2 (.cst (.int 0)),.ite (.cmp .gt (.bi .len [.var 0]) (.cst (.int 0))) [.set 2 (.idx (.var 0) (.bin .mod (.var 1) (.bi .len [.var 0])))] [],.ret (.bin .add (.bin .mul (.cst (.int 2)) (.call "_law_mix" [.var 2,.var 1])) (.cst (.int 1)))]]
abbrev rE:Fn:=#["_law_drawn",2,5,[.set 2 (.lst []),.set 3 (.bin .HW (.var 0) (.cst (.int 2))),.F0 dV [4] .FH [.var 1] [.ite (.cmp .eq (.bin .mod (.var 0) (.cst (.int 2))) (.cst (.int 0))) [.app 2 (.bin .mod (.var 3) (.cst (.int 64))),.set 3 (.bin .HW (.var 3) (.cst (.int 64)))] [.app 2 (.bin .mod (.bin .HW (.call "_law_mix" [.var 0,.var 4]) (.cst (.int 7))) (.cst (.int 4096)))]],.ret (.var 2)]]
end TM
namespace TM
open PySem L2 FD
abbrev oo:Fn:=#["words_of",1,3,[.set 1 (.lst []),.F0 dV [2] .seq [.var 0] [.app 1 (.idx (.var 2) (.cst (.int 0))),.ext 1 (.idx (.var 2) (.cst (.int 1)))],.ret (.Js .sset [.var 1])]]
end TM
namespace K
open PySem L2 TM
abbrev top(i:Nat):Ll:=PySem.Challenge.pw_primer_k65_no_room.main.body.getD i (.Pass #[0,0,0,0])
abbrev gi:Fn:=#["stem_of",1,1,[.ret (.idx (.Ky .partition (.var 0) [.cst (.str "/")]) (.cst (.int 0)))]]
abbrev bR:Fn:=#["in_one_order",1,1,[.ret (.tup [.idx (.var 0) (.cst (.int 0)),.bi .tuple [.bi .sorted [.idx (.var 0) (.cst (.int 1))]]])]]
abbrev iO:Fn:=#["alike",2,2,[.ret (.cmp .eq (.call "in_one_order" [.var 0]) (.call "in_one_order" [.var 1]))]]
noncomputable abbrev k_:Fn:=TM.oo
abbrev dJ:Fn:=#["free_name",2,4,[.F0 dV [2] .HX [.bin .add (.IQ "FIRST_SENSE" (.int 1)) (.cst (.int 1)),.bin .add (.IQ "LAST_SENSE" (.int 99)) (.cst (.int 1))] [.set 3 (.fst [.var 0,.cst (.str "/"),.var 2]),.ite (.cmp .Fj (.var 3) (.var 1)) [.ret (.var 3)] []],.Jt "TooMany" (.fst [.cst (.str "no number is left for the stem "),.var 0])]]
abbrev cU:Fn:=#["new_names",3,9,[.set 3 (.call "words_of" [.var 0]),.set 4 (.call "words_of" [.var 1]),.set 5 (.HY dV),.F0 dV [6] .seq [.bin .add (.var 3) (.var 4)] [.put 5 (.var 6) (.cst (.bl cb))],.set 7 (.lst []),.F0 dV [6] .seq [.var 4] [.set 8 (.var 6),.ite (.and [.cmp .isin (.var 6) (.var 3),.cmp .Fj (.var 6) (.var 2)]) [.GJ 8 (.call "free_name" [.call "stem_of" [.var 6],.var 5]),.put 5 (.var 8) (.cst (.bl cb))] [],.app 7 (.tup [.var 6,.var 8])],.ret (.var 7)]]
abbrev gj:Fn:=#["renamed",2,2,[.ret (.tup [.idx (.var 1) (.idx (.var 0) (.cst (.int 0))),.bi .tuple [.comp 1 dV .seq [.idx (.var 0) (.cst (.int 1))] [] (.idx (.var 2) (.var 0))]])]]
abbrev jl:Fn:=#["laid",3,7,[.GJ 3 (.Fh (.call "new_names" [.var 0,.var 1,.var 2])),.set 4 (.bi .list [.var 0]),.F0 dV [5] .seq [.var 1] [.set 6 (.call "renamed" [.var 5,.var 3]),.ite (.not (.bi .any [.comp 1 dV .seq [.var 4] [] (.call "alike" [.var 0,.var 7])])) [.app 4 (.var 6)] []],.ite (.cmp .gt (.bi .len [.var 4]) (.IQ "MOST_ROWS" (.int 60))) [.Jt "TooMany" (.cst (.str "the books have too many rows together"))] [],.ret (.bi .tuple [.var 4])]]
noncomputable abbrev mF:Fn:=TM.Cg
noncomputable abbrev la:Fn:=TM.xy
noncomputable abbrev jA:Fn:=TM.rE
abbrev cV:Fn:=#["_law_tried",4,7,[.set 4 (.tup [.cst .Fg,.lst []]),.J8 4 (.cmp .eq (.var 0) (.cst (.int 0))) "laid" [.var 1,.var 2,.var 3] "new_names" [.var 1,.var 2,.var 3] "PrimerError" ["TooMany"] 5 6 "TooMany" "ValueError" ["Lacking","NoDeed","NoRow","NoText","Unfit","Unknown","Unlearnt"],.ret (.var 4)]]
abbrev de:Fn:=#["_law_picked",4,7,[.set 4 (.lst []),.F0 dV [5] .FH [.var 3] [.set 6 (.bin .mod (.bin .add (.var 1) (.bin .mul (.var 2) (.var 5))) (.cst (.int 64))),.app 4 (.tup [.idx (.var 0) (.bin .mod (.var 6) (.cst (.int 8))),.tup [.idx (.var 0) (.bin .HW (.var 6) (.cst (.int 8)))]])],.ret (.bi .tuple [.var 4])]]
abbrev bS:Fn:=#["_law_full",1,16,[.set 1 (.call "_law_drawn" [.call "_law_cell" [.var 0,.cst (.int 0)],.cst (.int 20)]),.set 2 (.cst (.str "abcdefghijklmnopqrstuvwxyz")),.set 3 (.comp 1 dV .FH [.cst (.int 8)] [] (.idx (.var 3) (.bin .add (.bin .mod (.idx (.var 2) (.cst (.int 0))) (.cst (.int 19))) (.var 0)))),.set 4 (.idx (.lst [.cst (.int 60),.cst (.int 59),.cst (.int 58),.cst (.int 30),.bin .mod (.idx (.var 1) (.cst (.int 1))) (.cst (.int 61))]) (.bin .mod (.idx (.var 1) (.cst (.int 2))) (.cst (.int 5)))),.set 5 (.bi .min [.cst (.int 60),.idx (.lst [.bin .sub (.cst (.int 60)) (.var 4),.bin .sub (.cst (.int 61)) (.var 4),.cst (.int 1),.bin .mod (.idx (.var 1) (.cst (.int 3))) (.cst (.int 61))]) (.bin .mod (.idx (.var 1) (.cst (.int 4))) (.cst (.int 4)))]),.set 6 (.call "_law_picked" [.var 3,.idx (.var 1) (.cst (.int 5)),.bin .add (.cst (.int 1)) (.bin .mul (.cst (.int 2)) (.bin .mod (.idx (.var 1) (.cst (.int 6))) (.cst (.int 32)))),.var 4]),.set 7 (.call "_law_picked" [.var 3,.idx (.var 1) (.cst (.int 7)),.bin .add (.cst (.int 1)) (.bin .mul (.cst (.int 2)) (.bin .mod (.idx (.var 1) (.cst (.int 8))) (.cst (.int 32)))),.var 5]),.set 8 (.comp 1 dV .FH [.cst (.int 8)] [.or [.cmp .eq (.bin .mod (.idx (.var 2) (.bin .add (.cst (.int 9)) (.var 0))) (.cst (.int 2))) (.cst (.int 0)),.cmp .eq (.bin .mod (.idx (.var 2) (.cst (.int 17))) (.cst (.int 3))) (.cst (.int 1))]] (.idx (.var 4) (.var 0))),.ite (.cmp .eq (.bin .mod (.idx (.var 1) (.cst (.int 17))) (.cst (.int 3))) (.cst (.int 2))) [.set 8 (.lst [])] [],.set 9 (.bin .add (.comp 1 dV .seq [.var 6] [] (.idx (.var 0) (.cst (.int 0)))) (.comp 1 dV .seq [.var 6] [] (.idx (.idx (.var 0) (.cst (.int 1))) (.cst (.int 0))))),.set 10 (.HY dV),.F0 dV [11] .seq [.var 3] [.put 10 (.var 11) (.var 11),.ite (.and [.cmp .isin (.var 11) (.var 9),.cmp .Fj (.var 11) (.var 8)]) [.put 10 (.var 11) (.bin .add (.var 11) (.cst (.str "/2")))] []],.set 12 (.bi .list [.var 6]),.F0 cb [11,13] .seq [.var 7] [.set 14 (.tup [.idx (.var 10) (.var 11),.tup [.idx (.var 10) (.idx (.var 13) (.cst (.int 0)))]]),.ite (.cmp .Fj (.var 14) (.var 12)) [.app 12 (.var 14)] []],.set 15 (.call "_law_tried" [.cst (.int 0),.var 6,.var 7,.var 8]),.ite (.cmp .gt (.bi .len [.var 12]) (.cst (.int 60))) [.ret (.cmp .eq (.var 15) (.tup [.cst .Fg,.lst [.cst (.bl cb),.cst (.bl cb),.cst (.bl dV)]]))] [],.ite (.and [.cmp .eq (.var 4) (.cst (.int 60)),.not (.call "_law_over_full" [.var 6,.Js .sset [.var 9],.idx (.var 1) (.cst (.int 18))])]) [.ret (.cst (.bl dV))] [],.ret (.cmp .eq (.var 15) (.tup [.bi .tuple [.var 12],.lst []]))]]
abbrev cc:Fn:=#["_law_over_full",3,5,[.set 3 (.bin .add (.var 0) (.bi .tuple [.comp 1 dV .seq [.G3 (.var 1) [] [.bin .add (.cst (.int 1)) (.bin .mod (.var 2) (.bi .len [.var 1]))]] [] (.tup [.var 0,.tup []])])),.F0 dV [4] .seq [.lst [.tup [],.G3 (.var 0) [] [.bin .mod (.var 2) (.cst (.int 7))],.var 3]] [.ite (.cmp .ne (.call "_law_tried" [.cst (.int 0),.var 3,.var 4,.var 1]) (.tup [.cst .Fg,.lst [.cst (.bl cb),.cst (.bl cb),.cst (.bl dV)]])) [.ret (.cst (.bl dV))] []],.ret (.cmp .eq (.call "_law_tried" [.cst (.int 1),.var 3,.G3 (.var 0) [] [.cst (.int 2)],.var 1]) (.tup [.idx (.call "_law_tried" [.cst (.int 1),.var 0,.G3 (.var 0) [] [.cst (.int 2)],.var 1]) (.cst (.int 0)),.lst []]))]]
abbrev cD:Fn:=#["_law_senses",1,13,[.set 1 (.call "_law_drawn" [.call "_law_cell" [.var 0,.cst (.int 1)],.cst (.int 20)]),.set 2 (.cst (.str "abcdefghijklmnopqrstuvwxyz")),.set 3 (.Ky .join (.cst (.str "")) [.comp 1 dV .FH [.bin .add (.cst (.int 1)) (.bin .mod (.idx (.var 1) (.cst (.int 0))) (.cst (.int 8)))] [] (.idx (.var 3) (.bin .mod (.idx (.var 2) (.bin .add (.cst (.int 10)) (.var 0))) (.cst (.int 26))))]),.set 4 (.Js .sset [.bin .add (.comp 1 dV .FH [.bin .mod (.idx (.var 1) (.cst (.int 5))) (.cst (.int 5))] [] (.bin .add (.cst (.int 2)) (.bin .mod (.idx (.var 2) (.bin .add (.cst (.int 1)) (.var 0))) (.cst (.int 98))))) (.G3 (.lst [.cst (.int 99),.cst (.int 2)]) [] [.bin .mod (.idx (.var 1) (.cst (.int 19))) (.cst (.int 3))])]),.set 5 (.bin .add (.lst [.var 3]) (.comp 1 dV .HX [.cst (.int 2),.cst (.int 100)] [.cmp .Fj (.var 0) (.var 5)] (.bin .add (.bin .add (.var 4) (.cst (.str "/"))) (.bi .str [.var 0])))),.set 6 (.idx (.lst [.cst (.str "x"),.cst (.str "y")]) (.bi .int [.cmp .eq (.var 3) (.cst (.str "x"))])),.set 7 (.bi .tuple [.comp 1 dV .FH [.bin .HW (.bin .add (.bi .len [.var 5]) (.cst (.int 7))) (.cst (.int 8))] [] (.tup [.var 7,.bi .tuple [.G3 (.var 6) [.bin .mul (.cst (.int 8)) (.var 0)] [.bin .add (.bin .mul (.cst (.int 8)) (.var 0)) (.cst (.int 8))]]])]),.set 8 (.Js .sset [.bin .add (.comp 1 dV .FH [.bin .add (.cst (.int 1)) (.bin .mod (.bin .mod (.idx (.var 1) (.cst (.int 9))) (.cst (.int 5))) (.cst (.int 4)))] [] (.idx (.var 6) (.bin .mod (.idx (.var 2) (.bin .add (.cst (.int 6)) (.var 0))) (.bi .len [.var 6])))) (.lst [.idx (.var 5) (.cst (.int 0))])]),.set 9 (.bi .tuple [.comp 1 dV .seq [.var 8] [] (.tup [.var 0,.tup []])]),.set 10 (.lst [.call "_law_tried" [.cst (.int 1),.var 7,.var 9,.lst []],.call "_law_tried" [.cst (.int 0),.var 7,.var 9,.lst []]]),.ite (.cmp .gt (.bi .len [.var 8]) (.bi .len [.var 4])) [.ret (.cmp .eq (.var 10) (.lst [.tup [.cst .Fg,.lst [.cst (.bl cb),.cst (.bl cb),.cst (.bl dV)]],.tup [.cst .Fg,.lst [.cst (.bl cb),.cst (.bl cb),.cst (.bl dV)]]]))] [],.set 11 (.comp 1 dV .seq [.G3 (.var 4) [] [.bi .len [.var 8]]] [] (.bin .add (.bin .add (.var 4) (.cst (.str "/"))) (.bi .str [.var 0]))),.set 12 (.comp 1 dV .FH [.bi .len [.var 8]] [] (.tup [.idx (.var 9) (.var 0),.idx (.var 12) (.var 0)])),.ret (.cmp .eq (.var 10) (.lst [.tup [.var 12,.lst []],.tup [.bin .add (.var 7) (.bi .tuple [.comp 1 dV .seq [.var 11] [] (.tup [.var 0,.tup []])]),.lst []]]))]]
abbrev xH:Fn:=#["law",1,1,[.ret (.and [.call "_law_full" [.var 0],.call "_law_senses" [.var 0]])]]
abbrev prog:List Fn:=[gi,bR,iO,k_,dJ,cU,gj,jl,mF,la,jA,cV,de,bS,cc,cD,xH]
end K
namespace K
open PySem L2 TM PySem.W PyProof.Rows
abbrev m0:fx:=.str "primer.words" 335
abbrev m1:fx:=.str "primer.books" 348
abbrev m2:fx:=.str "primer.laying" 376
abbrev m3:fx:=.str "law_primer_k65_no_room" 415
abbrev ml:Me:=#[xH,33,["_law_script"],232,231,m3,co "law" 490 158 1 226 227 (.ref 228) (.ref 229) (.ref 230) 494 495 181]
abbrev ms:List Me:=[⟨gi,13,["word"],130,129,m0,co "stem_of" 341 23 1 124 125 (.ref 126) (.ref 127) (.ref 128) 345 346 181⟩,
 ⟨bR,16,["row"],137,136,m1,co "in_one_order" 352 27 1 131 132 (.ref 133) (.ref 134) (.ref 135) 356 357 181⟩,
 ⟨iO,17,["row","other"],144,143,m1,co "alike" 359 29 2 138 139 (.ref 140) (.ref 141) (.ref 142) 364 365 181⟩,
 ⟨k_,18,["book","words","row"],151,150,m1,co "words_of" 367 31 1 145 146 (.ref 147) (.ref 148) (.ref 149) 373 374 181⟩,
 ⟨dJ,20,["stem","taken","number","name"],158,157,m2,co "free_name" 378 38 2 152 153 (.ref 154) (.ref 155) (.ref 156) 385 386 181⟩,
 ⟨cU,21,["one","other","same","of_one","of_other","taken","word","names","name"],165,164,m2,co "new_names" 388 44 3 159 160 (.ref 161) (.ref 162) (.ref 163) 400 401 181⟩,
 ⟨gj,22,["row","names"],170,169,m2,co "renamed" 403 58 2 166 167 .none .none (.ref 168) 406 407 181⟩,
 ⟨jl,23,["one","other","same","names","rows","row","new_row"],175,174,m2,co "laid" 409 60 3 171 172 .none .none (.ref 173) 412 413 181⟩,
 ⟨mF,25,["_law_cell_here","_law_k","_law_by"],182,181,m3,co "_law_mix" 417 71 2 176 177 (.ref 178) (.ref 179) (.ref 180) 423 424 181⟩,
 ⟨la,26,["_law_script","_law_k","_law_seed"],189,188,m3,co "_law_cell" 426 74 2 183 184 (.ref 185) (.ref 186) (.ref 187) 432 433 181⟩,
 ⟨jA,27,["_law_cell_here","_law_many","_law_found","_law_left","_law_k"],196,195,m3,co "_law_drawn" 435 81 2 190 191 (.ref 192) (.ref 193) (.ref 194) 443 444 181⟩,
 ⟨cV,28,["_law_way","_law_one","_law_other","_law_same","_law_told","e","_law_others"],203,202,m3,co "_law_tried" 446 91 4 197 198 (.ref 199) (.ref 200) (.ref 201) 456 457 181⟩,
 ⟨de,29,["_law_words","_law_begin","_law_step","_law_many","_law_rows","_law_k","_law_at"],210,209,m3,co "_law_picked" 459 102 4 204 205 (.ref 206) (.ref 207) (.ref 208) 469 470 181⟩,
 ⟨bS,30,["_law_script","_law_drawn_here","_law_letters","_law_words","_law_many","_law_more","_law_one","_law_other","_law_same","_law_mine","_law_given","_law_word","_law_rows","_law_some","_law_row","_law_found"],215,214,m3,co "_law_full" 472 108 1 211 212 .none .none (.ref 213) 475 476 181⟩,
 ⟨cc,31,["_law_one","_law_words","_law_number","_law_wide","_law_other"],220,219,m3,co "_law_over_full" 478 136 3 216 217 .none .none (.ref 218) 481 482 181⟩,
 ⟨cD,32,["_law_script","_law_drawn_here","_law_letters","_law_stem","_law_left","_law_words","_law_head","_law_one","_law_some","_law_other","_law_told","_law_names","_law_due"],225,224,m3,co "_law_senses" 484 142 1 221 222 .none .none (.ref 223) 487 488 181⟩,
 ml]
abbrev gg(P:S9):Obj:=#[.type "dict",b7,.dict #v[ge P "__name__" 165 (.str "law_primer_k65_no_room" 415),ge P "__doc__" 166 .none,ge P "__package__" 167 .none,ge P "__loader__" 168 (.builtin "__main__.__loader__#opaque"),ge P "__spec__" 169 .none,ge P "__annotations__" 170 (.ref 6),ge P "__builtins__" 171 (.ref 4),ge P "__file__" 173 (.str "/claim/cut.py" 172),ge P "__cached__" 174 .none,ge P "PrimerError" 206 (.ref 24),ge P "NoText" 222 (.ref 37),ge P "Unfit" 238 (.ref 49),ge P "Unknown" 254 (.ref 61),ge P "Unlearnt" 270 (.ref 73),ge P "TooMany" 286 (.ref 85),ge P "Lacking" 302 (.ref 97),ge P "NoRow" 318 (.ref 109),ge P "NoDeed" 334 (.ref 121),ge P "FIRST_SENSE" 338 (.int 1 337),ge P "LAST_SENSE" 340 (.int 99 339),ge P "stem_of" 347 (.ref 130),ge P "MOST_ROWS" 351 (.int 60 350),ge P "in_one_order" 358 (.ref 137),ge P "alike" 366 (.ref 144),ge P "words_of" 375 (.ref 151),ge P "free_name" 387 (.ref 158),ge P "new_names" 402 (.ref 165),ge P "renamed" 408 (.ref 170),ge P "laid" 414 (.ref 175),ge P "_law_mix" 425 (.ref 182),ge P "_law_cell" 434 (.ref 189),ge P "_law_drawn" 445 (.ref 196),ge P "_law_tried" 458 (.ref 203),ge P "_law_picked" 471 (.ref 210),ge P "_law_full" 477 (.ref 215),ge P "_law_over_full" 483 (.ref 220),ge P "_law_senses" 489 (.ref 225),ge P "law" 496 (.ref 232)] 38,#v[]]
abbrev xk(a:i6)(n:Str)(b r:i6)(t u:Tok):Obj:={cls:=.type "type",data:=.cls {name:=n,bases:=[.ref b],mro:=[.ref a,.ref b,.type "ValueError",.type "Exception",.type "BaseException",.type "object"],ns:=a - 1,qualname:=n},slots:=#v[b6 (.ref r),b7,b6 (.str n t),b6 (.str n u),b6 (.builtin "ValueError.__new__"),b6 (.bool cb)]}
abbrev xd(P:S9)(m f:Tok)(l:Int)(n s:Tok)(a:i6)(d:Tok):Obj:={cls:=.type "dict",data:=.dict #v[ge P "__module__" m (.str "primer.errors" 187),ge P "__firstlineno__" f (.int l n),ge P "__static_attributes__" s (.ref a),ge P "__doc__" d .none] 2}
abbrev xo(P:S9):List (i6×Obj):=[(97,xk 97 "Lacking" 24 88 287 295),
 (121,xk 121 "NoDeed" 24 112 319 327),
 (109,xk 109 "NoRow" 24 100 303 311),
 (37,xk 37 "NoText" 24 28 207 215),
 (24,({cls:=.type "type",data:=.cls {name:="PrimerError",bases:=[.type "ValueError"],mro:=[.ref 24,.type "ValueError",.type "Exception",.type "BaseException",.type "object"],ns:=23,qualname:="PrimerError",subclasses:=[.ref 37,.ref 49,.ref 61,.ref 73,.ref 85,.ref 97,.ref 109,.ref 121]},slots:=#v[b6 (.ref 15),b7,b6 (.str "PrimerError" 189),b6 (.str "PrimerError" 197),b6 (.builtin "ValueError.__new__"),b6 (.bool cb)]}:Obj)),
 (85,xk 85 "TooMany" 24 76 271 279),
 (49,xk 49 "Unfit" 24 40 223 231),
 (61,xk 61 "Unknown" 24 52 239 247),
 (73,xk 73 "Unlearnt" 24 64 255 263),
 (96,xd P 294 298 14 297 299 95 300),
 (120,xd P 326 330 18 329 331 119 332),
 (108,xd P 310 314 16 313 315 107 316),
 (36,xd P 214 218 4 217 219 35 220),
 (23,({cls:=.type "dict",data:=.dict #v[{hash:=Oj P "__module__",key:=.str "__module__" 196,val:=.str "primer.errors" 187},{hash:=Oj P "__firstlineno__",key:=.str "__firstlineno__" 200,val:=.int 2 199},{hash:=Oj P "__static_attributes__",key:=.str "__static_attributes__" 201,val:=.ref 22},{hash:=Oj P "__weakref__",key:=.str "__weakref__" 203,val:=.ref 25},{hash:=Oj P "__doc__",key:=.str "__doc__" 204,val:=.none}] 3}:Obj)),
 (84,xd P 278 282 12 281 283 83 284),
 (48,xd P 230 234 6 233 235 47 236),
 (60,xd P 246 250 8 249 251 59 252),
 (72,xd P 262 266 10 265 267 71 268)]
abbrev gx(P:S9):Gx:=(gg P,xo P)
abbrev xa:List i6:=[97,121,109,37,24,85,49,61,73,96,120,108,36,23,84,48,60,72]
abbrev hk:Hook:=kHook (λP=>Hl top (gx P) ms) (adr ms xa) λP=>td top (gx P) ms xa rfl
def KA(w:F7):(oe w).map hk.obs=b6 (hk.val w):=by kernel_rfl
end K
namespace TM
open PySem L2
section
variable{X:Cx}{pins:List (i6×Obj)}{σ:St}{H:Hp}{s:hW}{C:Ct}{S:i6->Prop}
def sG(I:Inv X pins σ H s)(h:FR X.K H a vs):∃its:List fx,Vals vs its/\s.heap.IsList a its.toArray/\vs.length<=eF:=by
 have(its,r,p,z):=I.list h;show#[its,r,p.isList,z]
inductive FU(s:hW):Nat->U->fx->Prop where
 |Fg {n:Nat}:FU s n .Fg .none
 |bl {n:Nat} {b:Bool}:FU s n (.bl b) (.bool b)
 |int {n:Nat} {i:Int} {t:Tok}:FU s n (.int i) (.int i t)
 |str {n:Nat} {y:Str} {t:Tok}:FU s n (.str y) (.str y t)
 |tup {n:Nat} {us:List U} {its:List fx} {a:i6}:us.length=its.length->(∀j (hj:j<its.length),FU s n (us.getD j .Fg) its[j])->bZ us us=cb->s.heap.IsTuple a its.toArray->FU s (n+1) (.tup us) (.ref a)
 |lst {n:Nat} {us:List U} {its:List fx} {a:i6}:us.length=its.length->(∀j (hj:j<its.length),FU s n (us.getD j .Fg) its[j])->bZ us us=cb->s.heap.IsList a its.toArray->FU s (n+1) (.lst us) (.ref a)
def FU.self(h:FU s n u x):bA u u=cb:=by
 cases h<;>first|assumption|simp[bA]
theorem FU.yP(f:∀u v x,FX n u=cb->Rep C S H u v->RelV v x->FU s n u x):∀{us:List U}{vs:List V}{its:List fx},bY n us=cb->aq C S H us vs->Vals vs its->us.length=its.length/\(∀j (a:j<its.length),FU s n (us.getD j .Fg) its[j])/\bZ us us=cb
 |[],_,_,_,h,r=>by cases h;cases r;show#[rfl,λj a=>(nomatch a),rfl]
 |u::us,_,_,e,h,r=>by
  have(v,vs,rfl,b,h2):=h;simp only[bY,df]at e;cases r with
  |cons c d =>
   have(l,k,y):=FU.yP f e.2 h2 d;show#[by simp[l],λj a=>?_,by rw[bZ,(f _ _ _ e.1 b c).self,y];rfl];cases j with
   |zero=>show f _ _ _ e.1 b c
   |succ j=>show k j (by simpa using a)
def FU.of(I:Inv X pins σ H s)(d:C.K=X.K):∀(n:Nat) (u:U) (v:V) (x:fx),FX n u=cb->Rep C S H u v->RelV v x->FU s n u x:=by
 intro n;induction n with
 |zero=>intro u v x e h r;cases u<;>first|(simp[FX]at e;done)|(simp only[Rep]at h;subst h;first|(cases r;constructor)|(have(t,rfl):=r;constructor))
 |succ n f =>
  intro u v x e h r;cases u with
  |tup us =>
   have(a,vs,rfl,b,h2):=h;cases r;have(its,c,p,_):=I.tuple (d▸b);have(l,k,y):=FU.yP f (by simpa[FX] using e) h2 c;show .tup l k y p
  |lst us =>
   have(a,vs,rfl,b,h2):=h;cases r;have(its,c,p,_):=sG I (d▸b.sq);have(l,k,y):=FU.yP f (by simpa[FX] using e) h2 c;show .lst l k y p
  |_=>first|(simp[FX]at e;done)|(simp only[Rep]at h;subst h;first|(cases r;constructor)|(have(t,rfl):=r;constructor))
def FU.inj:∀{n:Nat}{u w:U}{x:fx},FU s n u x->FU s n w x->u=w:=by
 intro n;induction n with
 |zero=>intro u w x h h';cases h<;>cases h'<;>rfl
 |succ n r =>
  have go:∀{us ws:List U} {its its':List fx} {a:i6} {o g:Obj} {m i:Nat},us.length=its.length->(∀j (t:j<its.length),FU s n (us.getD j .Fg) its[j])->ws.length=its'.length->(∀j (t:j<its'.length),FU s n (ws.getD j .Fg) its'[j])->s.heap.get? a=b6 o->o.data=.seq its.toArray m->s.heap.get? a=b6 g->g.data=.seq its'.toArray i->us=ws:=by
   intro us ws its its' a o g m i l k c k' e d f d';rw[e]at f;cases f;rw[d]at d';injection d' with v _
   have:its=its':=by simpa using ZE QN v
   subst this;show QA ⋯ λj z h2=>?_;have:=r (k j ⋯) (k' j ⋯);simpa[z,h2] using this
  intro u w x h h';cases h with
  |tup l k y p =>
   cases h' with
   |tup c k' q b=>have(o,e,_,m,d):=p;have(g,f,_,i,d'):=b;rw[go l k c k' e d f d']
   |lst c k' q b=>show absurd rfl (WC b p)
  |lst l k y p =>
   cases h' with
   |lst c k' q b=>have(o,e,_,m,d):=p;have(g,f,_,i,d'):=b;rw[go l k c k' e d f d']
   |tup c k' q b=>show absurd rfl (WC p b)
  |_=>cases h';rfl
theorem i_:∀{us ws:List U},us.length≠ws.length->bZ us ws=dV
 |[],[],h=>absurd rfl h
 |[],_::_,_=>rfl
 |_::_,[],_=>rfl
 |u::us,w::ws,h=>by
  rw[bZ,i_ (us:=us) (ws:=ws) (λe=>h (by simp[e])),R8]
theorem fy:∀{us ws:List U},us.length=ws.length->bZ us ws=(lg us.length).all λj=>bA (us.getD j .Fg) (ws.getD j .Fg)
 |[],[],_=>rfl
 |[],_::_,h=>by simp at h
 |_::_,[],h=>by simp at h
 |u::us,w::ws,h=>by
  have h':us.length=ws.length:=by simpa using h
  rw[bZ,fy h',ti,List.range_succ_eq_map,List.all_cons,List.all_map];rfl
def De{its its':List fx}(b:us.length=its.length)(c:ws.length=its'.length):bZ us ws=((lg (min its.toArray.size its'.toArray.size)).all (λj=>bA (us.getD j .Fg) (ws.getD j .Fg))&&its.toArray.size==its'.toArray.size):=by
 simp only[ko];by_cases a:us.length=ws.length
 .rw[fy a,show min its.length its'.length=us.length by lia,show(its.length==its'.length)=cb by simp;lia,PB]
 .rw[i_ a,show(its.length==its'.length)=dV by simp;lia,R8]
def sH(b:FU s n u y)(h:Xd A s y x k)(hs:y=x->k=cb):QF A s y x k:=λprog w E Q a=>by
 unfold eqBool;show zy ?_;show wpAny_ite_split (λc=>?_) (λ_=>?_)
 .rw[hs (YY c)]at a;show b8 (KJ (eH a))
 .cases b<;>show b8 (h prog w E _ (LI a))
def PL(o:∀m,m+1=n->∀{u w:U}{x f:fx}{A:J0},FU s m u x->FU s m w f->A.units+m<N9->QF A s x f (bA u w))(h:FU s n u x)(h':FU s n w f)(r:A.units+n<N9):Xd A s x f (bA u w)/\Ys A s x f (!bA u w):=by
 have a:A.units<N9:=by lia
 have go:∀{m:Nat} {us ws:List U} {its its':List fx},m+1=n->(∀j (q:j<its.length),FU s m (us.getD j .Fg) its[j])->(∀j (q:j<its'.length),FU s m (ws.getD j .Fg) its'[j])->∀j (g:j<its.toArray.size) (h2:j<its'.toArray.size),QF A.in1 s its.toArray[j] its'.toArray[j] (bA (us.getD j .Fg) (ws.getD j .Fg)):=λ{m us ws its its'} e k k' j g h2=>o m e (k j g) (k' j h2) (by change A.units+1+m < _;lia);cases h with
 |Fg =>
  cases h' with
  |Fg=>show#[.none_none,.none_none]
  |bl=>show#[.none_bool _,.none_bool _]
  |int=>show#[.none_int _ _,.none_int _ _]
  |str=>show#[.none_str _ _,.none_str _ _]
  |tup c k' d b=>show#[.none_tuple b a,.none_tuple b a]
  |lst c k' d b=>show#[.none_list b a,.none_list b a]
 |bl =>
  cases h' with
  |Fg=>show#[.bool_none _,.bool_none _]
  |bl=>show#[.bool_bool _ _,.bool_bool _ _]
  |int=>show#[.bool_int _ _ _,.bool_int _ _ _]
  |str=>show#[.bool_str _ _ _,.bool_str _ _ _]
  |tup c k' d b=>show#[.bool_tuple _ b a,.bool_tuple _ b a]
  |lst c k' d b=>show#[.bool_list _ b a,.bool_list _ b a]
 |int =>
  cases h' with
  |Fg=>show#[.int_none _ _,.int_none _ _]
  |bl=>show#[.int_bool _ _ _,.int_bool _ _ _]
  |int=>show#[.int_int _ _ _ _,.int_int _ _ _ _]
  |str=>show#[.int_str _ _ _ _,.int_str _ _ _ _]
  |tup c k' d b=>show#[.int_tuple _ _ b a,.int_tuple _ _ b a]
  |lst c k' d b=>show#[.int_list _ _ b a,.int_list _ _ b a]
 |str =>
  cases h' with
  |Fg=>show#[.str_none _ _,.str_none _ _]
  |bl=>show#[.str_bool _ _ _,.str_bool _ _ _]
  |int=>show#[.str_int _ _ _ _,.str_int _ _ _ _]
  |str=>show#[.str_str _ _ _ _,.str_str _ _ _ _]
  |tup c k' d b=>show#[.str_tuple _ _ b a,.str_tuple _ _ b a]
  |lst c k' d b=>show#[.str_list _ _ b a,.str_list _ _ b a]
 |tup l k y p =>
  cases h' with
  |Fg=>show#[.tuple_none p a,.tuple_none p a]
  |bl=>show#[.tuple_bool _ p a,.tuple_bool _ p a]
  |int=>show#[.tuple_int _ _ p a,.tuple_int _ _ p a]
  |str=>show#[.tuple_str _ _ p a,.tuple_str _ _ p a]
  |tup c k' d b=>rw[show bA (.tup _) (.tup _)=_ from De l c];show#[.tuples p b a (go rfl k k'),.tuples p b a (go rfl k k')]
  |lst c k' d b=>show#[.tuple_list p b a,.tuple_list p b a]
 |lst l k y p =>
  cases h' with
  |Fg=>show#[.list_none p a,.list_none p a]
  |bl=>show#[.list_bool _ p a,.list_bool _ p a]
  |int=>show#[.list_int _ _ p a,.list_int _ _ p a]
  |str=>show#[.list_str _ _ p a,.list_str _ _ p a]
  |tup c k' d b=>show#[.list_tuple p b a,.list_tuple p b a]
  |lst c k' d b =>
   rename_i us _ _ ws _ _;by_cases i:us.length=ws.length
   .rw[show bA (.lst us) (.lst ws)=_ from fy i,l,<-ko];show#[.lists p b (by simp;lia) a (go rfl k k'),.lists p b (by simp;lia) a (go rfl k k')]
   .rw[show bA (.lst us) (.lst ws)=dV from i_ i];show#[.lists_lengths p b (by simp;lia) a,.lists_lengths p b (by simp;lia) a]
def Df:∀{n:Nat}{u w:U}{x a:fx}{A:J0},FU s n u x->FU s n w a->A.units+n<N9->QF A s x a (bA u w):=by
 intro n;induction n with
 |zero=>intro u w x a A h h' b;show sH h (PL (λm e=>by cases e) h h' b).1 λe=>by subst e;rw[h.inj h'];show h'.self
 |succ n c=>intro u w x a A h h' b;show sH h (PL (λm e=>by cases e;show c) h h' b).1 λe=>by subst e;rw[h.inj h'];show h'.self
def Dg(h:FU s n u x)(h':FU s n w a)(b:A.units+n<N9):Xd A s x a (bA u w)/\Ys A s x a (!bA u w):=PL (λm e=>by cases e;show Df) h h' b
end
end TM
namespace TM
open PySem L2 PyProof.Rows
abbrev Fs(C:Ct)(m:M (Kd×U)):TE:=λσ H Q=>∃a:Cf,a.σ=σ/\a.H=H/\Ok C a/\W m a.st λr st'=>∀c v,c.σ=σ->c.st=st'->Ok C c->Nx a c->aK C a c r.1 r.2 v->Q v c.H
abbrev GK(C:Ct)(m:M Bool):TT:=λσ H Q=>∃a:Cf,a.σ=σ/\a.H=H/\Ok C a/\W m a.st λb st'=>∀c,c.σ=σ->c.st=st'->Ok C c->Nx a c->Q b c.H
def dr(C:Ct)(a c:Cf):List (Kd×U)->List V->Prop
 |[],vs=>vs=[]
 |r::rs,vs=>∃v t,vs=v::t/\ft C a c r.1 r.2 v/\dr C a c rs t/\(r.1=.own->∀(i:Nat) b d,rs[i]?=b6 b->t[i]?=b6 d->b.1=.own->d≠v)
abbrev G4(C:Ct)(m:M (List (Kd×U))):TA:=λσ H Q=>∃a:Cf,a.σ=σ/\a.H=H/\Ok C a/\W m a.st λrs st'=>∀c vs,c.σ=σ->c.st=st'->Ok C c->Nx a c->dr C a c rs vs->Q vs c.H
section
def PE.weak(h:PE X e t)(i:∀σ H Q,t' σ H Q->t σ H Q):PE X e t':=λa s σ H Q I q=>h a s σ H Q I (i σ H Q q)
def PT.weak(h:PT X e t)(i:∀σ H Q,t' σ H Q->t σ H Q):PT X e t':=λa s σ H Q I q=>h a s σ H Q I (i σ H Q q)
def bJ{st:aw}:W (au rs) st Q↔aX rs st/\Q () st:=by
 constructor
 .rintro⟨a,st',e,h⟩;unfold au at e;split at e
  .cases e;show#[by assumption,h]
  .cases e
 .rintro⟨b,h2⟩;show#[(),st,by unfold au;rw[Zx b],h2]
def fX{st:aw}:aX (r::rs) st↔aX [r] st/\aX rs st:=by
 have(k,u):=r;cases k<;>simp[aX]
def ft.t(h:ft C a c k u v)(s:aX [(k,u)] c.st):aK C a c k u v:=by
 cases k with
 |bor j=>show#[s.1,h]
 |_=>show h
structure M5(C:Ct)(c0 c:Cf)(x y:Kd×U)(vx vy:V):Prop where
 hσ:c.σ=c0.σ
 ok:Ok C c
 nx:Nx c0 c
 rx:aK C c0 c x.1 x.2 vx
 ry:aK C c0 c y.1 y.2 vy
 ne:x.1=.own->y.1=.own->vy≠vx
def kG(h:ft C j b k u v)(h':ft C b c k' u' d):k=.own->k'=.own->d≠v:=by
 rintro rfl rfl e;have(r,f,_,_,_,g):=h;have(l,i,a,_):=h';have(o,ho,_):=g.some;subst f;rw[i]at e;cases e;rw[ho]at a;cases a
def two{k:Kd×U->Kd×U->M β}{Post:β->aw->Prop}{f:fx->fx->Sem α}{Q':fx->fx->α->hW->Prop}(N:PE X a (Fs C O))(Q:PE X b (Fs C z))(I:Inv X e d.σ d.H s)(ok:Ok C d)
  (h:W (O >>= λx=>z >>= λy=>au [x,y] >>= λ_=>k x y) d.st Post)
  (T:∀x y c i l v u s2,M5 C d c x y i l->Inv X e c.σ c.H s2->RelV i v->RelV l u->W (k x y) c.st Post->iv (j0 X.prog X.w) X.A (f v u) (Q' v u) X.xe s2) :
  iv (j0 X.prog X.w) X.A (KZ a X.env) (λv Y=>iv (j0 X.prog X.w) X.A (KZ b X.env) (λu s₂=>iv (j0 X.prog X.w) X.A (f v u) (Q' v u) X.xe s₂) X.xe Y) X.xe s:=by
 rw[ai]at h;show Ft (N e s d.σ d.H (λi B=>∃x g,g.H=B/\g.σ=d.σ/\Ok C g/\Nx d g/\aK C d g x.1 x.2 i/\W (z >>= λy=>au [x,y] >>= λ_=>k x y) g.st Post) I ⟨d,rfl,rfl,ok,h.mono λx st1 n g i o e2 p q r=>#[x,g,rfl,o,p,q,r,by rw[e2];show n]⟩) ?_;rintro v s1 ⟨i,B,I1,rv,x,g,rfl,o,p,q,r,n⟩;rw[ai]at n;show Ft (Q e s1 d.σ g.H (λl D=>∃y j,j.H=D/\M5 C d j x y i l/\W (k x y) j.st Post) I1 ⟨g,o,rfl,p,n.mono λy st2 h2 j l G e4 FQ J L=>?_⟩) ?_
 .rw[ai,bJ]at h2;subst e4;rw[fX]at h2;show#[y,j,rfl,#[G,FQ,q.trans J,(r.w.on p J (G.trans o.symm)).t h2.1.1,(L.from q),kG r.w L.w],h2.2]
 .rintro u s2 ⟨l,D,I2,ru,y,j,rfl,m,h2⟩;have hs:j.σ=d.σ:=m.hσ;show T x y j i l v u s2 m (by rw[hs];show I2) rv ru h2
structure Il(C:Ct)(c0 c:Cf)(x:Kd×U)(vx:V):Prop where
 hσ:c.σ=c0.σ
 ok:Ok C c
 nx:Nx c0 c
 rx:aK C c0 c x.1 x.2 vx
abbrev cn(C:Ct)(a:Cf)(Q:VK)(r:Kd×U)(st':aw):Prop:=∀c v,c.σ=a.σ->c.st=st'->Ok C c->Nx a c->aK C a c r.1 r.2 v->Q v c.H
section
def cn.flat(h:cn C a Q (.loc,u) c.st)(b:c.σ=a.σ)(ok:Ok C c)(n:Nx a c)(r:Rep C c.S c.H u v):Q v c.H:=h c v b rfl ok n r
def cn.list(h:cn C a Q (.own,.lst us) c.st)(b:c.σ=a.σ)(ok:Ok C c)(n:Nx a c)(r:aq C c.S c.H us vs)(p:i6)(d:c.H p=b7):Q (.ref p) (upd c.H p (.lst vs)):=by
 have(e,f,g):=ok.newList n d r;show h {c with H:=upd c.H p (.lst vs)} _ b rfl e f g
def cn.tup(h:cn C a Q (.loc,.tup us) c.st)(b:c.σ=a.σ)(ok:Ok C c)(n:Nx a c)(r:aq C c.S c.H us vs)(p:i6)(d:c.H p=b7):Q (.ref p) (upd c.H p (.tup vs)):=by
 have(e,f,g):=ok.vZ n d r;show h {c with H:=upd c.H p (.tup vs)} _ b rfl e f g
def cn.tupK(h:cn C b Q (kE k,.tup us) c.st)(d:c.σ=b.σ)(ok:Ok C c)(n:Nx b c)(r:aq C (SK C c k) c.H us vs)(p:i6)(e:c.H p=b7):Q (.ref p) (upd c.H p (.tup vs)):=by
 have(f,a):=ok.lay (o:=.tup vs) e;show h {c with H:=upd c.H p (.tup vs)} _ d rfl f (n.trans a) (aK.item ?_);cases k<;>show#[p,vs,rfl,FW.of aE,by first|show r.mv (ok.L4 a)|show r.mv (ok.mv a)]
def dt(h:fu k us=cb)(r:aq C (SK C c k) c.H us vs):aq C c.S c.H us vs:=by
 cases k with
 |any=>show r.FJ (by simpa[fu,isAny] using h)
 |_=>show r
end
def Bn(k k':Kd):∀a,SK C c k a->SK C c (kT k k') a:=by
 intro a h;cases k<;>cases k'<;>first|show h|show .inr h
def yQ(k k':Kd):∀a,SK C c k' a->SK C c (kT k k') a:=by
 intro a h;cases k<;>cases k'<;>first|show h|show .inr h
def Dh(k k':Kd):kE (kT k k')=kT k k':=by cases k<;>cases k'<;>rfl
def yR:Hu X (Ot .Add) (λx y H Q=>∃l b xs c,x=.ref l/\y=.ref b/\FR X.K H l xs/\FR X.K H b c/\xs.length+c.length<=eF/\∀p,H p=b7->Q (.ref p) (upd H p (.lst (xs++c)))):=by
 intro e s σ H x y v u Q I k m h;have(l,b,xs,c,rfl,rfl,o,t,hz,q):=h;cases k;cases m;have(its,r,w,z):=I.list o;have(d,f,A,L):=I.list t;have hl:=r.length;have GH:=f.length;have((cls,dd,data,B),ho,g,n,hd):=w.isList;have((N,C,data2,D),i,j,G,a):=A.isList;simp only at g hd j a;subst g hd j a;show VB #[_,ho,rfl] #[_,i,rfl] noFill_list_add seq_list_add PySem.F.slot_list_add PySem.F.entry_list_add (PySem.F.args_list_add_2 _ _)
   (list_addW l b its.toArray d.toArray n G dd C B D (by rw[ko,ko];lia)) #[ho,i,?_]
 have J:its.toArray++d.toArray=(its++d).toArray:=by simp
 rw[J];show#[.ref _,_,I.EN (t':=s.toks) (r.append f) (by rw[oT];lia),rfl,q _ I.fresh]
end
section
variable{X:Cx}{C:Ct}{pins:List (i6×Obj)}{s:hW}{c0 c:Cf}{Q:VK}
def we:Hu X (Ot .Add) (λx y H Q=>∃a b e,x=.ref a/\y=.ref b/\FW X.K H a []/\FW X.K H b e/\Q (.ref b) H):=by
 intro pins s σ H x y v u Q I j k h;have(a,b,e,rfl,rfl,l,m,q):=h;cases j;cases k;have(its,o,p1,_):=I.tuple l;have(p,A,p2,_):=I.tuple m;cases o;have((cls,dd,data,r),ho,f,n,hd):=id p1;have((B,t,data2,w),g,i,z,d):=id p2;simp only at f hd i d;subst f hd i d;show VB #[_,ho,rfl] #[_,g,rfl] Wi W' PySem.F.slot_tuple_add PySem.F.entry_tuple_add (PySem.F.args_tuple_add_2 _ _)
   (tuple_addW0 a b _ p.toArray n z dd t r w (by rfl)) #[ho,g,.ref b,H,I,rfl,q]
abbrev NQ.op:NQ->Operator
 |.add=>.Add|.sub=>.Sub|.mul=>.Mult|.HW=>.FloorDiv|.mod=>.Mod|.pow=>.Pow
def d0(h:qQ f a b=b6 r):∃i j o,a=.int i/\b=.int j/\f i j=b6 o/\r=(.loc,.int o):=by
 unfold qQ at h;split at h
 .rw[j']at h;have(o,e,rfl):=h;show#[_,_,o,rfl,rfl,e,rfl]
 .cases h
def Bo(N:C.K=X.K)(t:M5 C c0 c x y f g)(I:Inv X pins c.σ c.H s)(m:RelV f v)(z:RelV g u)(h:Ht op x y=b6 r)(q:cn C c0 Q r c.st):
  iv (j0 X.prog X.w) X.A (Ot op.op v u) (EP X pins c.σ Q) X.xe s:=by
 have(l,ok,n,B,ty,_):=t;cases op with
 |add =>
  have h:yI x y=b6 r:=h;unfold yI at h;split at h
  .have ex:=B.int ok;have d:=ty.int ok;cases h;show bM pins s c.σ c.H f g v u Q I m z #[_,_,ex,d,q.flat l ok n rfl]
  .have ex:=B.str ok;have d:=ty.str ok;split at h
   .cases h;show qu pins s c.σ c.H f g v u Q I m z #[_,_,ex,d,by assumption,q.flat l ok n rfl]
   .cases h
  .have(a,vs,ex,J,h2):=B.list ok;have(b,ws,d,L,D):=ty.list ok;split at h
   .rename_i G;cases h;show yR pins s c.σ c.H f g v u Q I m z #[a,b,vs,ws,ex,d,N▸J,N▸L,by rw[<-h2.len,<-D.len];show G.1,λp O=>q.list l ok n ((dt G.2.1 h2).append (dt G.2.2 D)) p O]
   .cases h
  .rename_i k xs k' T _ _;have(a,vs,ex,J,h2):=B.tuple ok;have(b,ws,d,L,D):=ty.tuple ok;have Y:=J;have LQ:=L;rw[N]at Y LQ;split at h
   .rename_i G;cases h;have m1:aq C (SK C c (kT k k')) c.H xs vs:=h2.mv (.up (Bn k k'));have m2:aq C (SK C c (kT k k')) c.H T ws:=D.mv (.up (yQ k k'));have q':cn C c0 Q (kE (kT k k'),.tup (xs++T)) c.st:=by rw[Dh];show q
    by_cases e1:vs=[]
    .subst e1;show we pins s c.σ c.H f g v u Q I m z #[a,b,ws,ex,d,Y,LQ,?_];show q' c (.ref b) l rfl ok n (aK.item #[b,ws,rfl,L,?_]);have:xs=[]:=by have:=m1.len;simpa using this
     rw[this];show m2
    .show yp pins s c.σ c.H f g v u Q I m z #[a,b,vs,ws,ex,d,Y,LQ,e1,by rw[<-h2.len,<-D.len];show G,λe2=>?_,λ_ p O=>q'.tupK l ok n (m1.append m2) p O];subst e2;show q' c (.ref a) l rfl ok n (aK.item #[a,vs,rfl,J,?_]);have:T=[]:=by have:=m2.len;simpa using this
     rw[this,G5];show m1
   .cases h
  .cases h
 |sub =>
  have(i,j,o,ex,d,e,rfl):=d0 h;have ex:=(ex▸B).int ok;have d:=(d▸ty).int ok;cases e;show iX pins s c.σ c.H f g v u Q I m z #[_,_,ex,d,q.flat l ok n rfl]
 |mul =>
  have(i,j,o,ex,d,e,rfl):=d0 h;have ex:=(ex▸B).int ok;have d:=(d▸ty).int ok;unfold yJ at e;split at e
  .cases e;show gA pins s c.σ c.H f g v u Q I m z #[_,_,ex,d,by assumption,q.flat l ok n rfl]
  .cases e
 |HW =>
  have(i,j,o,ex,d,e,rfl):=d0 h;have ex:=(ex▸B).int ok;have d:=(d▸ty).int ok;unfold yK at e;split at e
  .cases e;show yj pins s c.σ c.H f g v u Q I m z #[_,_,ex,d,by assumption,q.flat l ok n rfl]
  .cases e
 |mod =>
  have(i,j,o,ex,d,e,rfl):=d0 h;have ex:=(ex▸B).int ok;have d:=(d▸ty).int ok;unfold yL at e;split at e
  .cases e;show aW pins s c.σ c.H f g v u Q I m z #[_,_,ex,d,by assumption,q.flat l ok n rfl]
  .cases e
 |pow =>
  have(i,j,o,ex,d,e,rfl):=d0 h;have ex:=(ex▸B).int ok;have d:=(d▸ty).int ok;unfold yM at e;split at e
  .cases e;show mQ pins s c.σ c.H f g v u Q I m z #[_,_,ex,d,by assumption,q.flat l ok n rfl]
  .cases e
def yS(d:C.K=X.K)(f:PE X a (Fs C g))(i:PE X b (Fs C j)):PE X (.BinOp a op.op b pos) (Fs C (g >>= λx=>j >>= λy=>au [x,y] >>= λ_=>M.FK (Ht op x y))):=by
 rintro pins s σ H Q I ⟨c0,rfl,rfl,ok,h⟩;show wpAny_BinOp (two f i I ok h λx y c n o v u s2 t k l m w=>?_);have(r,e,q):=cP.mp w;show Ft (Bo d t k l m e q) λ_ _ z=>by rw[t.hσ]at z;show z
abbrev M1.op:M1->CmpOp
 |.eq=>.Eq|.ne=>.NotEq|.lt=>.Lt|.le=>.LtE|.gt=>.Gt|.ge=>.GtE|.isin=>.In|.Fj=>.NotIn|.is=>.Is|.PK=>.IsNot
def Di{d:Bool}(I:Inv X pins c.σ c.H s)(m:C.K=X.K)(N:X.A.units+60<N9){S:i6->Prop}(o:Rep C S c.H x n)(r:RelV n v)(t:aq C S c.H g vs)
  (ha:FR C.K c.H a vs\/FW C.K c.H a vs) (u:FX 50 x=cb) (z:bY 50 g=cb) {Q:fx->hW->Prop} (q:Q (.bool (if d then !(g.any λy=>bA y x) else g.any λy=>bA y x)) s) :
  iv (j0 X.prog X.w) X.A (PQ (if d then .NotIn else .In) v (.ref a)) Q X.xe s:=by
 have B:=FU.of I m 50 x n v u o r;have go:∀its:List fx,Vals vs its->∃e:fx->Bool,(∀y,y∈its.toArray->QF X.A.in1 s y v (e y))/\its.toArray.any e=g.any λy=>bA y x:=by
  intro its i;have(l,k,_):=FU.yP (FU.of I m 50) z t i
  classical
  have q:∀j (b:j<its.length),f7 (∃w,FU s 50 w its[j]/\bA w x=cb)=bA (g.getD j .Fg) x:=λj b=>by
   rw[G8,decide_eq_true_iff];show#[λ⟨w,f,h2⟩=>by rw[<-f.inj (k j b)];show h2,λh=>#[_,k j b,h]]
  show#[λy=>f7 (∃w,FU s 50 w y/\bA w x=cb),λy D=>?_,?_]
  .have(j,b,e):=PU (show y∈its by simpa using D);subst e;change QF _ _ _ _ (decide _);rw[q j b];show Df (k j b) B (by change X.A.units+1+50 < _;lia)
  .rw[G8];simp only[List.any_toArray,KY];constructor
   .rintro⟨y,G,h⟩;have(j,b,rfl):=PU G;rw[q j b]at h;show#[_,KX (l▸b),by simpa[l▸b] using h]
   .rintro⟨w,J,L⟩;have(j,b,rfl):=PU J;show#[_,KX (l▸b),by rw[q j (l▸b)];simpa[b] using L]
 rcases ha with ha|ha
 .have(its,i,p,_):=sG I (m▸ha);have(e,f,h2):=go its i;cases d with
  |false=>show SeqAt.in_listAt e p f (by rw[h2];show q)
  |true=>show SeqAt.notIn_listAt e p f (by rw[h2];show q)
 .rw[m]at ha;have(its,i,p,_):=I.tuple ha;have(e,f,h2):=go its i;cases d with
  |false=>show SeqAt.in_tupleAt e p f (by rw[h2];show q)
  |true=>show SeqAt.notIn_tupleAt e p f (by rw[h2];show q)
end
section
theorem cv:∀{us:List U}{ss:List Str},strsOf us=b6 ss->us=ss.map .str
 |[],ss,h=>by cases h;rfl
 |.str x::us,ss,h=>by
  simp only[strsOf,j']at h;have(t,a,rfl):=h;rw[cv a];rfl
 |.Fg::_,_,h=>by cases h
 |.bl _::_,_,h=>by cases h
 |.int _::_,_,h=>by cases h
 |.tup _::_,_,h=>by cases h
 |.lst _::_,_,h=>by cases h
 |.Fh _ _::_,_,h=>by cases h
theorem fA:∀{us:List U}{ns:List Int},intsOf us=b6 ns->us=ns.map .int
 |[],ns,h=>by cases h;rfl
 |u::us,ns,h=>by
  cases u<;>first|(cases h;done)|skip
  rename_i x;have h':(intsOf us).map (x::·)=b6 ns:=h;rw[j']at h';have(ms,e,rfl):=h';rw[fA e];rfl
theorem aq.ints{S:i6->Prop}:∀{ns:List Int}{vs:List V},aq C S H (ns.map .int) vs->vs=ns.map V.int
 |[],vs,h=>h
 |n::ns,vs,h=>by
  have(v,r,rfl,a,h2):=h;rw[aq.ints h2];have:v=.int n:=a;rw[this];rfl
theorem aq.wg{S:i6->Prop}:∀(ns:List Int),aq C S H (ns.map .int) (ns.map V.int)
 |[]=>rfl
 |n::ns=>#[_,_,rfl,rfl,aq.wg ns]
theorem gN:∀{us:List U}{ss:List Bool},jx us=b6 ss->us=ss.map .bl
 |[],ss,h=>by cases h;rfl
 |.bl x::us,ss,h=>by
  simp only[jx,j']at h;have(t,a,rfl):=h;rw[gN a];rfl
 |.Fg::_,_,h=>by cases h
 |.str _::_,_,h=>by cases h
 |.int _::_,_,h=>by cases h
 |.tup _::_,_,h=>by cases h
 |.lst _::_,_,h=>by cases h
 |.Fh _ _::_,_,h=>by cases h
theorem aq.PM{S:i6->Prop}:∀{xs:List Bool}{vs:List V},aq C S H (xs.map .bl) vs->vs=xs.map V.bl
 |[],vs,h=>h
 |x::xs,vs,h=>by
  have(v,r,rfl,a,h2):=h;rw[aq.PM h2];have:v=.bl x:=a;rw[this];rfl
abbrev Bp(X:Cx)(a:List (i6×Obj))(c:Cf)(b:Bool)(v:fx)(s':hW):Prop:=v=.bool b/\Inv X a c.σ c.H s'
def nN(o:Hu X f r)(I:Inv X a c.σ c.H s)(g:RelV d v)(i:RelV e u)(h:r d e c.H λx H'=>x=.bl b/\H'=c.H):
  iv (j0 X.prog X.w) X.A (f v u) (Bp X a c b) X.xe s :=
 Ft (o a s c.σ c.H d e v u _ I g i h) λw s' j=>by
  have(z,H',k,r,l,m):=j;subst l m;show#[r,k]
def aK.dict(ok:Ok C c)(h:aK C g c k (.Fh ks us) v):∃a b,v=.ref a/\c.H a=b6 (.dK b)/\b.map (·.1)=ks.map GN/\aq C (SK C c k) c.H us (b.map (·.2)):=by
 cases k with
 |own=>have(r,e,_,_,_,b,d,h2,f):=h;show#[r,b,e,d,h2,f]
 |bor j=>have(r,e,_,_,_,b,d,h2,f):=ok.rootOf h.1 h.2;show#[r,b,e,d,h2,f]
 |io=>show h.elim
 |Fo=>show h.elim
 |_=>have(a,e,_,b,d,h2,f):=h;show#[a,b,e,d,h2,f]
theorem fY{S:i6->Prop}:∀{ks:List Str}{us:List U}{b:List (Key×V)},b.map (·.1)=ks.map GN->aq C S H us (b.map (·.2)) ->
  (∀u,jH ks us x=b6 u->∃v,hV b (GN x)=b6 v/\Rep C S H u v)/\(hV b (GN x)).isSome=f7 (x∈ks)
 |[],us,b,a,h2=>by
  have:b=[]:=by simpa using a
  subst this;show#[λu h=>by cases us<;>simp[jH]at h,by simp[hV]]
 |k::ks,us,[],a,h2=>by simp at a
 |k::ks,[],p::b,a,h2=>by simp[aq]at h2
 |k::ks,j::us,p::b,a,h2=>by
  have(v,r,e,d,f):=h2;rw[i2]at e;cases e;rw[i2,i2,W7]at a;have(g,i):=fY (x:=x) a.2 f;by_cases hk:k=x
  .subst hk;show#[λu h=>?_,?_]
   .simp[jH]at h;subst h;show#[p.2,fb a.1,d]
   .rw[fb a.1];simp
  .have c:¬p.1=GN x:=by rw[a.1];intro z;show hk (Wy z)
   show#[λu h=>?_,?_]
   .simp[jH,hk]at h;have(v,e,q):=g u h;show#[v,by rw[fe c];show e,q]
   .rw[fe c,i];simp[GR hk]
def wj(O:C.P=X.prog)(Q:C.w=X.w)(m:C.K=X.K)(r:X.A.units+60<N9)(t:M5 C T c x y B G)(I:Inv X g c.σ c.H s)(f:RelV B v)(i:RelV G u)(h:bK op x.2 y.2=b6 b):
  iv (j0 X.prog X.w) X.A (PQ op.op v u) (Bp X g c b) X.xe s:=by
 have(Y,ok,n,l,ty,_):=t;have(kx,J):=x;have(ky,L):=y
 dsimp only at h l ty
 have has:∀d:Bool,∀o,uu J L=b6 o->iv (j0 X.prog X.w) X.A (PQ (if d then .NotIn else .In) v u) (Bp X g c (if d then !o else o)) X.xe s:=by
  intro d o h;have p:=l.read ok;have D:=ty.read ok;unfold uu at h;split at h
  .have(a,vs,rfl,j,h2):=D;cases i;unfold Ju at h;split at h
   .rename_i e;cases h;show Di I m r p f h2 (.inl j.sq) e.1 e.2 #[by cases d<;>rfl,I]
   .cases h
  .have(a,vs,rfl,j,h2):=D;cases i;unfold Ju at h;split at h
   .rename_i e;cases h;show Di I m r p f h2 (.inr j) e.1 e.2 #[by cases d<;>rfl,I]
   .cases h
  .cases h;have ex:B=_:=p;have(a,B',rfl,j,h2,N):=ty.dict ok;cases i;subst ex;have hs:=λz:Str=>(fY (x:=z) h2 N).2;cases d with
   |false=>show EO ⋯ I (lE.k (k:=GN _) j) f λs' q=>#[by rw[hs];rfl,q]
   |true=>show yw ⋯ I (lE.k (k:=GN _) j) f λs' q=>#[by rw[hs];rfl,q]
  .cases h
 unfold bK at h;split at h
 .split at h
  .rename_i e;cases h;show(Dg (n:=50) (.of I m _ _ _ _ e.1 (l.read ok) f) (.of I m _ _ _ _ e.2 (ty.read ok) i) ⋯).1 _ _ _ _ #[rfl,I]
  .cases h
 .split at h
  .rename_i e;cases h;show(Dg (n:=50) (.of I m _ _ _ _ e.1 (l.read ok) f) (.of I m _ _ _ _ e.2 (ty.read ok) i) ⋯).2 _ _ _ _ #[rfl,I]
  .cases h
 .cases h;show nN CP I f i #[_,_,l.int ok,ty.int ok,rfl,rfl]
 .cases h;show nN CQ I f i #[_,_,l.int ok,ty.int ok,rfl,rfl]
 .cases h;show nN CS I f i #[_,_,l.int ok,ty.int ok,rfl,rfl]
 .show has dV b h
 .rw[j']at h;have(o,j,rfl):=h;show has cb o j
 .cases h
def yT(f:C.P=X.prog)(g:C.w=X.w)(i:C.K=X.K)(j:X.A.units+60<N9)(k:PE X a (Fs C l))(m:PE X b (Fs C n))(o:Xa op.op b=dV):
  PE X (.Compare a [op.op] [b] pos) (Fs C (l >>= λx=>n >>= λy=>au [x,y] >>= λ_=>M.FK (bK op x.2 y.2) >>= λc=>pure (.loc,.bl c))):=by
 rintro d s σ H Q I ⟨L,rfl,rfl,ok,h⟩;show wpAny_Compare1 (two k m I ok h λx y c N O v u s2 t p B D w=>?_) o;rw[ai]at w;have(r,e,q):=cP.mp w;rw[ao]at q;show Ft (wj f g i j t p B D e) λz s' G=>?_;have(e,J):=G;subst e;show#[.bl r,c.H,by rw[<-t.hσ];show J,rfl,q c (.bl r) t.hσ rfl t.ok t.nx rfl]
def yU(g:C.P=X.prog)(i:C.w=X.w)(j:C.K=X.K)(k:X.A.units+60<N9)(l:PE X a (Fs C m))(n:PE X b (Fs C o))(p:Xa op.op b=dV):
  PT X (.Compare a [op.op] [b] pos) (GK C (m >>= λx=>o >>= λy=>au [x,y] >>= λ_=>M.FK (bK op x.2 y.2))):=by
 rintro d s σ H Q I ⟨B,rfl,rfl,ok,h⟩;show wpAny_isTrue_Compare1 (two (f:=λv u=>PQ op.op v u) (Q':=λ_ _ c s=>iv (j0 X.prog X.w) X.A (Y8 c) (TP X d B.σ Q) X.xe s) l n I ok h λx y c O T v u s2 t D G J w=>?_) p;have(r,e,q):=cP.mp w;show Ft (wj g i j k t D G J e) λz s' L=>?_;have(e,N):=L;subst e;show LI #[c.H,by rw[<-t.hσ];show N,q c t.hσ rfl t.ok t.nx]
end
section
abbrev Dj(C:Ct)(a:Cf)(Q:Bool->Hp->Prop)(b:Bool)(st':aw):Prop:=∀c,c.σ=a.σ->c.st=st'->Ok C c->Nx a c->Q b c.H
def Bq(c:a.σ=b.σ)(ok:Ok C a)(n:Nx b a)(h:W m a.st (cn C b Q)):Fs C m b.σ a.H Q :=
 #[a,c,rfl,ok,h.mono λr st h2 d v e f g i j=>h2 d v e f g (n.trans i) (j.from n)]
def wm(c:a.σ=b.σ)(ok:Ok C a)(n:Nx b a)(h:W m a.st (Dj C b Q)):GK C m b.σ a.H Q :=
 #[a,c,rfl,ok,h.mono λr st h2 d e f g i=>h2 d e f g (n.trans i)]
def bf(ok:Ok C a)(h:W (b >>= k) a.st Post)
  (hz:∀x c v,Il C a c x v->W (k x) c.st Post->Z v c.H):Fs C b a.σ a.H Z:=by
 rw[ai]at h;show#[a,rfl,rfl,ok,h.mono λx st1 d e f g i j l m=>hz x e f #[g,j,l,m] (by rw[i];show d)]
def fB(ok:Ok C a)(h:W (d >>= k) a.st Post)
  (hz:∀b c,c.σ=a.σ->Ok C c->Nx a c->W (k b) c.st Post->Z b c.H):GK C d a.σ a.H Z:=by
 rw[ai]at h;show#[a,rfl,rfl,ok,h.mono λx st1 e f g i j l=>hz x f g j l (by rw[i];show e)]
abbrev Dk(m:M (Kd×U))(x:Kd×U):M (Kd×U):=match x.2 with
 |.bl cb=>m
 |.bl dV=>pure (.loc,.bl dV)
 |_=>M.fail
abbrev Dl(x:Kd×U):M (Kd×U):=match x.2 with
 |.bl c=>pure (.loc,.bl !c)
 |_=>M.fail
def snd_and(g:PE X a (Fs C i))(j:PE X (.BoolOp .And (b::rest) pos) (Fs C l)):PE X (.BoolOp .And (a::b::rest) pos) (Fs C (i >>= Dk l)):=by
 show PE.weak (AE g j) ?_;rintro σ H Q ⟨m,rfl,rfl,ok,h⟩;show bf ok h λx c v t w=>?_;have(k,u):=x;have(f,d,n,r):=t;unfold Dk at w;split at w
 .rename_i e
  dsimp only at e r
  subst e;show#[cb,r.bl d,by rw[Zx rfl];show Bq f d n w]
 .rename_i e
  dsimp only at e r
  subst e;rw[ao]at w;show#[dV,r.bl d,by rw[Zy o6];show w c (.bl dV) f rfl d n rfl]
 .show(ba.mp w).elim
def yV(d:PE X a (Fs C f)):PE X (.UnaryOp .Not a pos) (Fs C (f >>= Dl)):=by
 show PE.weak (AF d) ?_;rintro σ H Q ⟨i,rfl,rfl,ok,h⟩;show bf ok h λx c v t w=>?_;have(k,u):=x;have(g,b,n,r):=t;unfold Dl at w;split at w
 .rename_i e
  dsimp only at e r
  subst e;rw[ao]at w;show#[_,r.bl b,w c (.bl _) g rfl b n rfl]
 .show(ba.mp w).elim
def yW(d:PT X a (GK C e)):PT X (.UnaryOp .Not a pos) (GK C (e >>= λb=>pure !b)):=by
 show PT.weak (AB d) ?_;rintro σ H Q ⟨i,rfl,rfl,ok,h⟩;show fB ok h λp c f g n w=>?_;rw[ao]at w;show w c f rfl g n
def yX(i:PT X a (GK C j))(k:PW X (.BoolOp .And (b::rest) pos) (GK C l)):PW X (.BoolOp .And (a::b::rest) pos) (GK C (j >>= λp=>if p=cb then l else pure dV)):=by
 have m:=AA i k;rintro o d s σ H Q I ⟨e,rfl,rfl,ok,h⟩;show m o d s e.σ e.H Q I (fB ok h λp c f g n w=>?_);cases p with
 |true=>rw[Zx rfl]at w ⊢;show wm f g n w
 |false=>rw[Zy o6]at w ⊢;rw[ao]at w;show w c f rfl g n
def Br(i:PT X a (GK C j))(k:PW X (.BoolOp .Or (b::rest) pos) (GK C l)):PW X (.BoolOp .Or (a::b::rest) pos) (GK C (j >>= λp=>if p=cb then pure cb else l)):=by
 have m:=CB i k;rintro o d s σ H Q I ⟨e,rfl,rfl,ok,h⟩;show m o d s e.σ e.H Q I (fB ok h λp c f g n w=>?_);cases p with
 |true=>rw[Zx rfl]at w ⊢;rw[ao]at w;show w c f rfl g n
 |false=>rw[Zy o6]at w ⊢;show wm f g n w
def sI{us:List α}{vs:List β}(h:us.length=vs.length):(!us.isEmpty)=!vs.isEmpty:=by
 cases us<;>cases vs<;>simp_all
def nO(i:PE X a (Fs C j))(g:C.K=X.K)(l:∀b,isTrue a X.env b=(do let v <-b;Xv a.pos;OB [v] (Y8 v))):PT X a (GK C (j >>= λx=>M.FK (uz x.2))):=by
 show PT.weak (vk i l) ?_;rintro σ H Q ⟨o,rfl,rfl,ok,h⟩;show bf ok h λx c v t w=>?_;have(k,u):=x;have(m,d,n,r):=t;have(p,e,q):=cP.mp w
 dsimp only at e r
 show#[p,?_,q c m rfl d n];unfold uz at e;split at e
 .cases e;rw[r.bl d];rfl
 .cases e;have(a,vs,rfl,f,h2):=r.list d;show .inl #[vs,g▸f,sI h2.len]
 .cases e;have(a,vs,rfl,f,h2):=r.tuple d;rw[g]at f;show .inr (.inl #[vs,f,sI h2.len])
 .split at e
  .cases e;rw[r.str d];show#[by assumption,rfl]
  .cases e
 .cases e
end
section
def dr.from(n:Nx a b):dr C b c rs vs->dr C a c rs vs:=by
 intro h;induction rs generalizing vs with
 |nil=>show h
 |cons r rs d=>have(v,t,e,f,h2,g):=h;show#[v,t,e,f.from n,d h2,g]
def dr.get{i:Nat}(h:dr C b c rs vs)(e:rs[i]?=b6 r)(a:vs[i]?=b6 v):ft C b c r.1 r.2 v:=by
 induction rs generalizing vs i with
 |nil=>simp at e
 |cons g rs d =>
  have(j,t,rfl,f,h2,k):=h;cases i with
  |zero=>simp at e a;subst e a;show f
  |succ i=>show d h2 (by simpa using e) (by simpa using a)
def yY:PA X [] (G4 C (pure [])):=by
 rintro pos a s σ H Q I ⟨b,rfl,rfl,ok,h⟩;rw[ao]at h;show e_ pos a s b.σ b.H Q I (h b [] rfl rfl ok (Nx.refl b) rfl)
def wo(g:PE X e (Fs C m))(j:PA X es (G4 C ms))(hs:o5 (e::es) X.env=(dV,KZ e X.env)::o5 es X.env):PA X (e::es) (G4 C (m >>= λr=>ms >>= λrs=>pure (r::rs))):=by
 rintro pos a s σ H Q I ⟨b,rfl,rfl,ok,h⟩;show bT g j hs pos a s b.σ b.H Q I (bf ok h λr k v t w=>?_);rw[ai]at w;show#[k,t.hσ,rfl,t.ok,w.mono λrs st2 h2 l vs c n o d f=>?_];rw[ao]at h2;show h2 l (v::vs) c n o (t.nx.trans d) #[v,vs,rfl,t.rx.w.on t.ok d (c.trans t.hσ.symm),f.from t.nx,λhk i x y p q u=>?_];show kG t.rx.w (f.get p q) hk u
structure HZ(C:Ct)(c0 c:Cf)(rs:List (Kd×U))(vs:List V):Prop where
 hσ:c.σ=c0.σ
 ok:Ok C c
 nx:Nx c0 c
 rep:dr C c0 c rs vs
 L8:aX rs c.st
def args{k:List (Kd×U)->M β}{Post:β->aw->Prop}(g:PA X es (G4 C ms))(I:Inv X a b.σ b.H s)(ok:Ok C b)(h:W (ms >>= λrs=>au rs >>= λ_=>k rs) b.st Post)(pos:Pos):
  iv (j0 X.prog X.w) X.A (YA (Ma pos (o5 es X.env))) (λus s1=>∃rs c vs,HZ C b c rs vs/\Inv X a c.σ c.H s1/\Vals vs us/\W (k rs) c.st Post) X.xe s:=by
 rw[ai]at h;show Ft (g pos a s b.σ b.H (λvs f=>∃rs c,c.H=f/\HZ C b c rs vs/\W (k rs) c.st Post) I ⟨b,rfl,rfl,ok,h.mono λrs st1 d e vs i j l m n=>?_⟩) ?_
 .rw[ai,bJ]at d;subst j;show#[rs,e,rfl,#[i,l,m,n,d.1],d.2]
 .rintro us s1 ⟨vs,f,o,p,rs,e,rfl,t,w⟩;show#[rs,e,vs,t,by rw[t.hσ];show o,p,w]
def HZ.one(t:HZ C a c [r] vs):∃v,vs=[v]/\aK C a c r.1 r.2 v:=by
 have(v,t',rfl,b,h2,_):=t.rep;cases h2;show#[v,rfl,b.t t.L8]
def HZ.two(t:HZ C b c [r,d] vs):∃v a,vs=[v,a]/\aK C b c r.1 r.2 v/\aK C b c d.1 d.2 a:=by
 have(v,t',rfl,e,(a,g,rfl,h2,f,_),_):=t.rep;cases f;have hs:=fX.mp t.L8;show#[v,a,rfl,e.t hs.1,h2.t hs.2]
def Ok.share(ok:Ok C c)(f:C.H₀ r=b7)(g:∃o,c.H r=b6 o)(hl:st'.length=c.st.length)
  (b:∀(i:Nat) k u,st'[i]?=b6 (b6 (k,u))->(∃v,c.σ[i]?=b6 (b6 v)/\fm C (λa=>c.S a\/a=r) c.H k u v)/\(k.root=cb->c.st[i]?=b6 (b6 (k,u)))) (h:ID C {c with S:=λa=>c.S a\/a=r,st:=st' }) :
  Ok C {c with S:=λa=>c.S a\/a=r,st:=st' }:=by
 show#[ok.same,λa z=>?_,ok.par,ok.io,by rw[show({c with S:=λa=>c.S a\/a=r,st:=st' }:Cf).st.length=st'.length from rfl,hl];show ok.len,λi k u e=>(b i k u e).1,λi j k k' u u' l hk d m n p q=>?_,h]
 .rcases z with z|rfl
  .show ok.HV a z
  .show#[f,g]
 .show ok.inj i j k k' u u' l hk d ((b i k u m).2 hk) ((b j k' u' n).2 d) p q
def Ok.Bs(p:Ok C b)(ok:Ok C c)(n:Nx b c)(d:b.H r=b7)(f:¬c.R r)(s:cW C c.S c.H r u):
  Ok C {c with S:=λa=>c.S a\/a=r}/\Nx b {c with S:=λa=>c.S a\/a=r}:=by
 have(o,ho,_):=s.some;show#[ok.share (st':=c.st) (p.qP d).1 #[o,ho] rfl (λi k u e=>#[?_,λ_=>e]) (ok.dd.hs (.up λa=>.inl) λj a z=>#[λq=>q.elim (ok.root (.inr #[j,z])).1 λe=>f (.inr #[j,e▸z]),λo q=>q]),#[#[n.keep,n.there,n.roots,λa z=>.inl (n.sub a z),λa z=>?_]]]
 .have(v,g,h):=ok.sl i k u e;have t:Mv c.S c.H (λa=>c.S a\/a=r) c.H:=.up λa=>.inl;show#[v,g,h.mv t (.up λa z=>z.imp id .inl) λhk x l=>#[?_,λo q=>q]];have(y,m,w,_):=h.rt hk;rw[l]at m;cases m;rintro(z|rfl)
  .show w z
  .show f (.inl #[i,k,u,hk,e,by rw[g,l]])
 .rcases z with z|rfl
  .show n.new a z
  .show .inr (.inr d)
def Ok.wq(ok:Ok C c)(n:Nx D c)(f:c.st[j]?=b6 (b6 (.own,u)))(g:c.σ[j]?=b6 (b6 (.ref r))):
  Ok C {c with S:=λa=>c.S a\/a=r,st:=c.st.set j (b6 (.loc,u))}/\Nx D {c with S:=λa=>c.S a\/a=r,st:=c.st.set j (b6 (.loc,u))}/\Rep C (λa=>c.S a\/a=r) c.H u (.ref r):=by
 have(Q,d,h,l,T,Y,G,w):=ok.sl j _ _ f;rw[g]at d;cases d;cases l;have x:Rep C (λa=>c.S a\/a=r) c.H u (.ref r):=w.rep (λa=>.inl) (.inr rfl);have(o,ho,_):=w.some;have p:j<c.st.length:=(mN.mp f).1;have s:∀(i:Nat) k u',(c.st.set j (b6 (.loc,u)))[i]?=b6 (b6 (k,u'))->i≠j->c.st[i]?=b6 (b6 (k,u')):=λi k u' e ne=>by rw[nT (GR ne)]at e;show e
 have I:c.R1 r:=#[j,.own,u,rfl,f,g]
 have y:∀(i:Nat) (u':U),(c.st.set j (b6 (.loc,u)))[i]?=b6 (b6 (.Fo,u'))->c.st[i]?=b6 (b6 (.Fo,u')):=λi u' e=>by
  by_cases b:i=j
  .subst b;rw[nC p]at e;cases e
  .show s i .Fo u' e b
 have A:∀a,({c with S:=λa=>c.S a\/a=r,st:=c.st.set j (b6 (.loc,u))}:Cf).R1 a->c.R1 a:=λa J=>by
  have(i,k,u',hk,e,L):=J;by_cases b:i=j
  .subst b;rw[nC p]at e;cases e;cases hk
  .show#[i,k,u',hk,s i k u' e b,L]
 have N:ID C {c with S:=λa=>c.S a\/a=r,st:=c.st.set j (b6 (.loc,u))}:=ok.dd.of rfl (λi u' e=>#[y i u' e,rfl]) (λa z=>.inl (A a z)) (.up λa=>.inl) λi a z=>#[λq=>q.elim (ok.root (.inr #[i,z])).1 λe=>ok.dd.d1 i a z (e▸I),λo q=>q]
 show#[ok.share (st':=c.st.set j (b6 (.loc,u))) G #[o,ho] (by simp) (λi k u' e=>?_) N,#[#[n.keep,n.there,λa z=>?_,λa z=>.inl (n.sub a z),λa z=>?_]],x]
 .by_cases b:i=j
  .subst b;rw[nC p]at e;cases e;show#[#[.ref r,g,x],λz=>nomatch z]
  .have t:=s i k u' e b;have(v,d,m):=ok.sl i k u' t;show#[#[v,d,m.mv (.up λa=>.inl) (.up λa z=>z.imp id .inl) λhk h l=>#[?_,λo q=>q]],λ_=>t];have(Rt,B,p1,_):=m.rt hk;rw[l]at B;cases B;rintro(z|rfl)
   .show p1 z
   .show b (ok.inj i j k .own u' u h hk rfl t f (by rw[d,l]) g)
 .rcases z with z|⟨i,u',h,d,m,O⟩
  .show n.roots a (.inl (A a z))
  .show n.roots a (.inr #[i,u',h,y i u' d,m,O])
 .rcases z with z|rfl
  .show n.new a z
  .rcases n.roots a (.inl #[j,.own,u,rfl,f,g]) with z|z
   .show .inr (.inl z)
   .show .inr (.inr z)
def nP(A:Ok C g)(ok:Ok C c)(n:Nx g c)(b:ft C g c r.1 r.2 v)(h:W (lift r) c.st Post):
  ∃(S':i6->Prop) (st':aw) (u:U),(∀a,c.S a->S' a)/\Ok C {c with S:=S',st:=st' }/\Nx g {c with S:=S',st:=st' }/\Rep C S' c.H u v/\Post u st' /\
   (∀a,S' a->c.S a\/v=.ref a/\(r.1=.own\/c.R a))/\∀a,({c with S:=S',st:=st' }:Cf).R a->c.R a:=by
 have(k,u):=r;cases k with
 |own =>
  rw[show lift (.own,u)=pure u from rfl,ao]at h;have(r,e,B,h2,D,t):=b;have(l,m):=Ok.Bs A ok n B D t;show#[_,c.st,u,λa=>.inl,l,m,by rw[e];show t.rep (λa=>.inl) (.inr rfl),h,λa z=>?_,λa z=>z];rcases z with z|rfl
  .show .inl z
  .show .inr #[e,.inl rfl]
 |loc =>
  rw[show lift (.loc,u)=pure u from rfl,ao]at h;show#[c.S,c.st,u,λa=>id,ok,n,b,h,λa z=>.inl z,λa z=>z]
 |any =>
  rw[show lift (.any,u)=if FJ u=cb then pure u else M.fail from rfl]at h;split at h
  .rw[ao]at h;show#[c.S,c.st,u,λa=>id,ok,n,Rep.FJ (by assumption) b,h,λa z=>.inl z,λa z=>z]
  .show(ba.mp h).elim
 |bor j =>
  have(x,st',e,G):=h;rw[show lift (.bor j,u) c.st=match c.st[j]? with|some (b6 (.own,u))=>b6 (Ex.ok u,c.st.set j (b6 (.loc,u)))|_=>b7 from rfl]at e;split at e
  .rename_i w d;cases e;have(N,y,r,I,_):=ok.sl j _ _ d;have o:c.σ[j]?=b6 (b6 v):=b;rw[o]at y;cases y;subst I;have(l,m,p):=ok.wq n d o;show#[_,_,_,λa=>.inl,l,m,p,G,λa z=>?_,λa z=>?_]
   .rcases z with z|rfl
    .show .inl z
    .show .inr #[rfl,.inr (.inl #[j,.own,_,rfl,d,o])]
   .rcases z with⟨i,k,u',hk,e,q⟩|⟨i,u',J,e,q,L⟩
    rotate_left 1
    .by_cases f:i=j
     .subst f;have s:i<c.st.length:=(mN.mp d).1;rw[nC s]at e;cases e
     .rw[nT (GR f)]at e;show .inr #[i,u',J,e,q,L]
    by_cases f:i=j
    .subst f;have s:i<c.st.length:=(mN.mp d).1;rw[nC s]at e;cases e;cases hk
    .rw[nT (GR f)]at e;show .inl #[i,k,u',hk,e,q]
  .cases e
 |_=>show b.elim
theorem fC:∀{rs:List (Kd×U)}{vs:List V}{c:Cf}{Post:List U->aw->Prop},Ok C b->Ok C c->Nx b c->dr C b c rs vs->W (b_ rs) c.st Post ->
  ∃(S':i6->Prop) (st':aw) (us:List U),(∀a,c.S a->S' a)/\Ok C {c with S:=S',st:=st' }/\Nx b {c with S:=S',st:=st' }/\aq C S' c.H us vs/\Post us st'
 |[],vs,c,Post,m,ok,n,p,h=>by
  rw[show b_ []=pure [] from rfl,ao]at h;show#[c.S,c.st,[],λa=>id,ok,n,p,h]
 |r::rs,vs,c,Post,m,ok,n,p,h=>by
  have(v,t,rfl,I,h2,J):=p;rw[show b_ (r::rs)=lift r >>= λu=>b_ rs >>= λus=>pure (u::us) from rfl,ai]at h;have(s,st1,u,s1,L,N,d,x,O,Q):=nP m ok n I h;rw[ai]at x;have T:dr C b {c with S:=s,st:=st1} rs t:=by
   clear h x;have y:∀(l:List (Kd×U)) (w:List V),dr C b c l w->(r.1=.own->∀(i:Nat) g j,l[i]?=b6 g->w[i]?=b6 j->g.1=.own->j≠v)->dr C b {c with S:=s,st:=st1} l w:=by
    intro l;induction l with
    |nil=>intro w q _;show q
    |cons Y l ih =>
     intro w q A;have(B,D,rfl,k,q2,q3):=q;show#[B,D,rfl,?_,ih D q2 (λhk i g j e1 e2 FI=>A hk (i+1) g j (by simpa using e1) (by simpa using e2) FI),q3];have(k2,u2):=Y;cases k2 with
     |own =>
      have(a,e,p1,p2,p3,p4):=k;show#[a,e,p1,λz=>?_,λz=>p3 (Q a z),p4.mv (.up s1) λo q=>q];rcases O a z with z|⟨z,z'|z'⟩
      .show p2 z
      .show A z' 0 _ B rfl rfl rfl (e.trans z.symm)
      .show p3 z'
     |loc=>show Rep.mv (.up s1) k
     |any=>show Rep.mv (.up λa z=>z.imp id (s1 a)) k
     |_=>show k
   show y rs t h2 J
  have(S2,st2,us,s2,FQ,n2,f,G):=fC (c:={c with S:=s,st:=st1}) m L N T x;rw[ao]at G;show#[S2,st2,u::us,λa z=>s2 a (s1 a z),FQ,n2,#[v,t,rfl,d.mv (.up s2),f],G]
def yZ(j:PA X es (G4 C ms)):PE X (.Tuple es x1 pos) (Fs C (ms >>= λrs=>au rs >>= λ_=>b_ rs >>= λus=>if us.length<=eF then pure (.loc,.tup us) else M.fail)):=by
 rintro a s σ H Q I ⟨k,rfl,rfl,ok,h⟩;show T9 (Ft (args j I ok h pos) λus s1 l=>?_);have(rs,c,vs,t,g,i,w):=l;rw[ai]at w;have(S',st',ws,q,m,n,d,f):=fC ok t.ok t.nx t.rep w;split at f
 .rename_i hz;rw[ao]at f;have hl:vs.length<=eF:=by rw[<-d.len];show hz
  show#[by rw[<-i.length];show hl,?_];have o:c.H s1.heap.objs.size=b7:=g.Fe.fresh (g0 _);have p:Inv X a k.σ c.H s1:=by rw[<-t.hσ];show g
  show#[.ref s1.heap.objs.size,upd c.H s1.heap.objs.size (.tup vs),p.laid (t':=s1.toks) (λb u e=>ek _ e) (g0 _) ⟨hl,us,i,Uq _ _⟩,rfl,?_];show cn.tup (c:={c with S:=S',st:=st' }) f t.hσ m n d _ o
 .show(ba.mp f).elim
def y6(j:PA X es (G4 C ms)):PE X (.List es pos) (Fs C (ms >>= λrs=>au rs >>= λ_=>b_ rs >>= λus=>if us.length<=eF then pure (.own,.lst us) else M.fail)):=by
 rintro a s σ H Q I ⟨k,rfl,rfl,ok,h⟩;show Yn (Ft (args j I ok h pos) λus s1 l=>?_);have(rs,c,vs,t,g,i,w):=l;rw[ai]at w;have(S',st',ws,q,m,n,d,f):=fC ok t.ok t.nx t.rep w;split at f
 .rename_i hz;rw[ao]at f;have hl:vs.length<=eF:=by rw[<-d.len];show hz
  show#[by rw[<-i.length];show hl,?_];have o:c.H s1.heap.objs.size=b7:=g.Fe.fresh (g0 _);have p:Inv X a k.σ c.H s1:=by rw[<-t.hσ];show g
  show#[.ref s1.heap.objs.size,upd c.H s1.heap.objs.size (.lst vs),p.laid (t':=s1.toks) (λb u e=>ek _ e) (g0 _) ⟨hl,us,0,i,hH _ rfl⟩,rfl,?_];show cn.list (c:={c with S:=S',st:=st' }) f t.hσ m n d _ o
 .show(ba.mp f).elim
end
section
def sJ(d:X.N[i]?=b6 x)(f:JC X.env.scope x)(hd:(x==("__debug__":Str))=dV)(g:(x==("__classdict__":Str))=dV):PE X (.Name x pos) (Fs C (gM i)):=by
 show PE.weak (gz d f hd g) ?_;rintro σ H Q ⟨b,rfl,rfl,ok,r,st',e,h⟩;unfold gM at e;split at e
 .cases e
 .rename_i k u l hs;cases e;have(v,c,a):=ok.sl i k u hs;show#[v,c,h b v rfl rfl ok (Nx.refl b) ?_];by_cases hk:k.root=cb
  .rw[Zx hk];show#[#[k,hk,hs],c]
  .rw[Zy hk];cases k with
   |loc=>show a
   |any=>show a
   |bor j=>show a.elim
   |Fo=>show(l rfl).elim
   |_=>show absurd rfl hk
 .cases e
def iE(h:PE X e (tC v))(r:∀S H,Rep C S H u v):PE X e (Fs C (pure (.loc,u))):=by
 show PE.weak h ?_;rintro σ H Q ⟨a,rfl,rfl,ok,h⟩;rw[ao]at h;show h a v rfl rfl ok (Nx.refl a) (r _ _)
def cn.root(h:cn C b Q (.own,u) c.st)(d:c.σ=b.σ)(ok:Ok C c)(n:Nx b c)(p:i6)(a:c.H p=b7)(r:cW C c.S (upd c.H p o) p u):Q (.ref p) (upd c.H p o):=by
 have(e,f):=ok.lay (o:=o) a;have(j,g,h2,k,i):=ok.qP a;show h {c with H:=upd c.H p o} _ d rfl e (n.trans f) ⟨p,rfl,n.none a,g,i,r⟩
def wt(c:C.P=X.prog)(d:C.w=X.w)(r:Bool):PE X (.Dict [] [] pos) (Fs C (pure (.own,.Fh [] []))):=by
 show PE.weak vB ?_;rintro σ H Q ⟨a,rfl,rfl,ok,h⟩ p b;rw[ao]at h;show cn.root h rfl ok (Nx.refl a) p b #[[],aE,rfl,rfl]
def aq.FY{S:i6->Prop}(h:aq C S H us vs)(e:FY us i=b6 u):∃v,L2.FY vs i=b6 v/\Rep C S H u v:=by
 unfold L2.FY at e ⊢;rw[h.len]at e;cases q:JS vs.length i with
 |none=>rw[q]at e;cases e
 |some j =>
  rw[q]at e;show h.get e
def Bt(J:C.K=X.K)(hu:X.A.units+60<N9)(hs:mV b)(t:M5 C L c x y o p)(I:Inv X d c.σ c.H s)(z:RelV o v)(B:RelV p u)(h:i9 x y.2=b6 r)(q:cn C L Q r c.st):
  iv (j0 X.prog X.w) X.A (Xe a b v u) (EP X d c.σ Q) X.xe s:=by
 obtain⟨D,ok,n,G,ty,-⟩:=t;have(ky,uy):=y
 dsimp only at h ty
 unfold i9 at h;split at h
 .rename_i k xs i;rw[j']at h;have(w,e,rfl):=h;have(f,vs,ex,j,h2):=G.list ok;have(vw,l,m):=h2.FY e;show yq a b d s c.σ c.H o p v u Q I z B #[f,vs,i,vw,ex,ty.int ok,J▸j,l,q c vw D rfl ok n (aK.item m)] (hs _ _)
 .rename_i k xs i;rw[j']at h;have(w,e,rfl):=h;have(f,vs,ex,j,h2):=G.tuple ok;have(vw,l,m):=h2.FY e;rw[J]at j;show AY a b d s c.σ c.H o p v u Q I z B #[f,vs,i,vw,ex,ty.int ok,j,l,q c vw D rfl ok n (aK.item m)] (hs _ _)
 .split at h
  .rw[j']at h;have(w,e,rfl):=h;show mW a b d s c.σ c.H o p v u Q I z B #[_,_,w,G.str ok,ty.int ok,by assumption,e,q c _ D rfl ok n rfl] (hs _ _)
  .cases h
 .rename_i k ks us x;rw[j']at h;have(w,e,rfl):=h;have(f,B',ex,j,h2,N):=G.dict ok;have(vw,l,m):=(fY (x:=x) h2 N).1 w e;have O:=ty.str ok;subst ex O;cases z;have g:lE c.H f (.str x) (b6 vw):=by rw[<-l];show lE.k (k:=GN x) j
  show Zp (ops:=[.ref f,u]) (oP I g) PySem.F.slot_dict_getitem.lookup (t_ ⋯ I g B λw' s3 T Y=>#[vw,c.H,T,Y,q c vw D rfl ok n (aK.item m)]) (hs _ _)
 .cases h
def y7(f:C.K=X.K)(g:X.A.units+60<N9)(hs:mV b)(i:PE X a (Fs C j))(k:PE X b (Fs C l)):PE X (.Subscript a b pos) (Fs C (j >>= λx=>l >>= λy=>au [x,y] >>= λ_=>M.FK (i9 x y.2))):=by
 rintro d s σ H Q I ⟨p,rfl,rfl,ok,h⟩;show Subscript_ (two i k I ok h λx y c B D v u s2 t m n o w=>?_);have(r,e,q):=cP.mp w;show Ft (Bt f g hs t m n o e q) λ_ _ z=>by rw[t.hσ]at z;show z
def aq.cut{S:i6->Prop}(h:aq C S H us vs)(lo hi:Option Int):aq C S H (TM.cut us lo hi) (oI vs lo hi):=by
 unfold TM.cut oI;rw[h.len];show(h.drop _).take _
def uA{lo hi:Option Int}(h:HT.Fp xs.length 0 lo=0/\HT.Fp xs.length xs.length hi=xs.length):cut xs lo hi=xs:=by
 unfold cut;rw[h.1,h.2];simp
end
section
variable{prog:y1}{w:F7}{A:J0}{E:fx->hW->Prop}{s:hW}
def gm{lo hi:Option Int}(b:X_ s.heap t a)(hs:s.heap.IsSliceOf c e f .none)(g:Ti e lo)(i:Ti f hi)
  (d:HT.Fp a.size 0 lo=0/\HT.Fp a.size a.size hi=a.size) (h:Q (.ref t) s):iv (j0 prog w) A (Tz (.ref t) (.ref c)) Q E s:=by
 have(os,j,k,n):=id hs;have l:s.TypeIs (.ref c) "slice":=#[os,j,k]
 unfold Tz
 try with_reducible show zy ?_
 first|show b8 (eH ?_)|skip
 show b8 (Yy b.typeIs (by decide) ?_);show b8 (Rv (name:=Um "__getitem__") b.typeIs FN
  (Lh FN b.typeIs Yg ?_ (Yv _ _)))
 change iv _ _ (SE (.ref t) >>= _) _ _ s;show b8 (tupleItemsOf_ b ?_);show b8 (LH l ?_);rw[Zx (by decide)];show b8 (HT.dU hs g i ?_);have m:(((HT.Fp a.size 0 lo:Nat):Int)==0&&(1:Int)==1&&(HT.Fp a.size a.size hi - HT.Fp a.size 0 lo)==a.size)=cb:=by
  rw[d.1,d.2];simp
 change iv _ _ (if (((HT.Fp a.size 0 lo:Nat):Int)==0&&(1:Int)==1&&(HT.Fp a.size a.size hi - HT.Fp a.size 0 lo)==a.size)=cb then _ else _) _ _ s;rw[Zx m];change iv (j0 prog w) A.in1 ((Yo (Lo t) >>= λx=>pure (x==.type "tuple")) >>= _) _ _ s;show b8 (b8 (LH b.typeIs (eH ?_)));rw[Zx (by decide)];show b8 (KJ (eH #[_,rfl,eH h]))
end
section
variable{X:Cx}{C:Ct}{pins:List (i6×Obj)}{s:hW}{c0 c c1:Cf}
variable{a b d e:tr}{es:List tr}{m ma mb md:M (Kd×U)}{ms:M (List (Kd×U))}{ta tb:M Bool}{pos p p2:Pos}
def y8:JG X (λx lo hi H Q=>∃a xs,x=.ref a/\FW X.K H a xs/\(HT.Fp xs.length 0 lo=0/\HT.Fp xs.length xs.length hi=xs.length)/\Q (.ref a) H):=by
 intro pins s σ H x v o t lo hi u Q I i hs j k h;have(a,xs,rfl,l,n,q):=h;cases i;have(its,r,g,hz):=I.tuple l;have f:its.toArray.size=xs.length:=by rw[ko];show r.length.symm
 show#["tuple",_,FN.lookup,g.typeIs,gm g hs j k (by rw[f];show n) #[.ref a,H,I,rfl,q]]
abbrev tO(C:Ct)(m:M (Option Int)):TO:=λσ H Q=>∃c0:Cf,c0.σ=σ/\c0.H=H/\Ok C c0/\W m c0.st λi st'=>∀c,c.σ=σ->c.st=st'->Ok C c->Nx c0 c->Q i c.H
def fT:PO X b7 (tO C (pure b7)):=by
 rintro pins s σ H Q I ⟨c0,rfl,rfl,ok,h⟩;rw[ao]at h;show yn pins s c0.σ c0.H Q I (h c0 rfl rfl ok (Nx.refl c0))
def uB(f:PE X a (Fs C ma)):PO X (b6 a) (tO C (ma >>= Bl)):=by
 rintro pins s σ H Q I ⟨c0,rfl,rfl,ok,h⟩;show yo f pins s c0.σ c0.H Q I (bf ok h λx c v t w=>?_);have(k,u):=x;unfold Bl at w;split at w
 .rename_i i e
  dsimp only at e
  subst e;rw[ao]at w;show#[i,t.rx.int t.ok,w c t.hσ rfl t.ok t.nx]
 .show(ba.mp w).elim
def Bu{lo hi:Option Int}(u:C.K=X.K)(g:c.σ=c0.σ)(ok:Ok C c)(n:Nx c0 c)(k:aK C c0 c x.1 x.2 i)(h:jI x lo hi=b6 r)(q:cn C c0 Q r c.st):
  ((C3 X.K i lo hi c.H Q\/CY X.K i lo hi c.H Q)\/(∃a xs,i=.ref a/\FW X.K c.H a xs/\(HT.Fp xs.length 0 lo=0/\HT.Fp xs.length xs.length hi=xs.length)/\Q (.ref a) c.H))\/C7 i lo hi c.H Q:=by
 unfold jI at h;split at h
 .split at h
  .rename_i v;cases h;have(f,vs,ex,j,h2):=k.list ok;show .inl (.inl (.inl #[f,vs,ex,u▸j,λp l=>q.list g ok n ((dt v h2).cut lo hi) p l]))
  .cases h
 .cases h;have(f,vs,ex,j,h2):=k.tuple ok;have o:=j;rw[u]at o;by_cases t:HT.Fp vs.length 0 lo=0/\HT.Fp vs.length vs.length hi=vs.length
  .show .inl (.inr #[f,vs,ex,o,t,?_]);show q c (.ref f) g rfl ok n (aK.item #[f,vs,rfl,j,?_]);rw[uA (by rw[h2.len];show t)];show h2
  .show .inl (.inl (.inr #[f,vs,ex,o,t,λp l=>q.tupK g ok n (h2.cut lo hi) p l]))
 .split at h
  .cases h;show .inr #[_,k.str ok,by assumption,q.flat g ok n rfl]
  .cases h
 .cases h
def y9{lo hi:Option tr}(j:C.K=X.K)(k:PE X a (Fs C ma))(hl:PO X lo (tO C ml))(n:PO X hi (tO C o)):
  PE X (.Subscript a (.Slice lo hi b7 p2) pos) (Fs C (ma >>= λx=>ml >>= λl=>o >>= λh=>au [x] >>= λ_=>M.FK (jI x l h))):=by
 show PE.weak (vp (((JG.or yr AX).or y8).or A7) k hl n) ?_;rintro σ H Q ⟨c0,rfl,rfl,ok,h⟩;show bf ok h λx c v t w=>?_;rw[ai]at w;show#[c,t.hσ,rfl,t.ok,w.mono λl st2 h2 u y z A B=>?_];subst z;rw[ai]at h2;show#[u,y,rfl,A,h2.mono λL st3 f D g G I J=>?_];subst G;rw[ai,bJ]at f;have(r,e,q):=cP.mp f.2;have i:Nx c D:=B.trans J;show Bu j g I (t.nx.trans i) ((t.rx.w.on t.ok i (g.trans t.hσ.symm)).t f.1) e q
end
section
variable{X:Cx}{C:Ct}{pins:List (i6×Obj)}{s:hW}{c0 c c1:Cf}
variable{a b d e:tr}{es:List tr}{m ma mb md:M (Kd×U)}{ms:M (List (Kd×U))}{ta tb:M Bool}{pos p p2:Pos}
abbrev Bf.val:Bf->fx
 |.len=>.builtin "len"|.sorted=>.builtin "sorted"|.repr=>.builtin "repr"|.max=>.builtin "max"|.min=>.builtin "min"|.all=>.builtin "all"|.any=>.builtin "any"
 |.list=>.type "list"|.tuple=>.type "tuple"|.str=>.type "str"|.int=>.type "int"
 |.dict=>.type "dict"
abbrev Bf.name:Bf->Str
 |.len=>"len"|.sorted=>"sorted"|.repr=>"repr"|.max=>"max"|.min=>"min"|.all=>"all"|.any=>"any"
 |.list=>"list"|.tuple=>"tuple"|.str=>"str"|.int=>"int"
 |.dict=>"dict"
def call_of(g:dS X f r)(I:Inv X pins c.σ c.H s)(i:Vals vs us)(h:r vs c.H Q):iv (j0 X.prog X.w) X.A (OK f us) (EP X pins c.σ Q) X.xe s:=g pins s c.σ c.H vs us Q I i h
abbrev M7:U->V
 |.str x=>.str x
 |.int n=>.int n
 |_=>.ref 0
def y_{S:i6->Prop}(h:L5 u=cb):Rep C S H u (M7 u):=by
 cases u<;>first|rfl|cases h
theorem aq.Rw{S:i6->Prop}:∀{ps:List (Str×U)},(∀p∈ps,L5 p.2=cb)->aq C S H (ps.map (·.2)) (ps.map λp=>M7 p.2)
 |[],_=>rfl
 |p::ps,h=>#[_,_,rfl,y_ (h p (by simp)),aq.Rw λq f=>h q (by simp[f])]
theorem aq.Rx{S:i6->Prop}(k:C.K=X.K):∀{us:List U}{ps:List (Str×U)}{vs:List V},kC us=b6 ps->aq C S H us vs->(∀p∈ps,L5 p.2=cb)/\∃as:List i6,vs=as.map V.ref/\as.length=ps.length/\∀(j:Nat) a p,as[j]?=b6 a->ps[j]?=b6 p->FW X.K H a [.str p.1,M7 p.2]
 |[],ps,vs,e,h=>by
  cases e;cases h;show#[by simp,[],rfl,rfl,by simp]
 |u::us,ps,vs,e,h=>by
  have(v,r,rfl,o,h2):=h;unfold kC at e;split at e
  .rename_i f;cases f
  .rename_i x y L f;cases f;split at e
   .rename_i l;rw[j']at e;have(N,e,rfl):=e;have(q,as,rfl,t,w):=aq.Rx k e h2;have(a,ws,rfl,n,z):=o;have(O,Q,rfl,A,B):=z;have(D,T,rfl,G,I):=B;cases A;cases I;have J:D=M7 y:=by
     cases y<;>first|show G|cases l
    subst J;rw[k]at n;show#[λp hp=>?_,a::as,rfl,by simp[t],λj b p g i=>?_]
    .rcases i1.mp hp with rfl|hp
     .show l
     .show q p hp
    .cases j with
     |zero=>simp at g i;subst g i;show n
     |succ j=>show w j b p (by simpa using g) (by simpa using i)
   .cases e
  .cases e
def bh(h:gk f rs=b6 r):∃x,rs=[x]/\f x=b6 r:=by
 unfold gk at h;split at h
 .show#[_,rfl,h]
 .cases h
def wu(J:X.calm=cb)(z:C.K=X.K)(L9:X.A.guards=b6 [])(Kz:X.A.units+60<N9)(t:HZ C c0 c rs vs)(I:Inv X pins c.σ c.H s)(o:Vals vs us)(h:Hk f rs=b6 r)(q:cn C c0 Q r c.st):
  iv (j0 X.prog X.w) X.A (OK f.val us) (EP X pins c.σ Q) X.xe s:=by
 have y:=t.hσ;have ok:=t.ok;have n:=t.nx;cases f with
 |len =>
  have(x,rfl,hz):=bh (f:=λx=>(Bb x.2).map λ(n:Nat)=>(Kd.loc,U.int (n:Int))) h;clear h;have h:=hz;clear hz;rw[j']at h;have(k,e,rfl):=h;have(v,rfl,g):=t.one;have(kx,N):=x;unfold Bb at e;split at e
  .rename_i xs B;have B:N=.lst xs:=B;subst B;cases e;have(l,ws,ex,i,h2):=g.list ok;rw[h2.len]at q;show call_of hJ I o #[l,ws,by rw[ex],.inl (z▸i),q.flat y ok n rfl]
  .rename_i xs B;have B:N=.tup xs:=B;subst B;cases e;have(l,ws,ex,i,h2):=g.tuple ok;rw[z]at i;rw[h2.len]at q;show call_of hJ I o #[l,ws,by rw[ex],.inr i,q.flat y ok n rfl]
  .rename_i xs B;have B:N=.str xs:=B;subst B;split at e
   .cases e;show call_of mY I o #[_,by rw[g.str ok],by assumption,q.flat y ok n rfl]
   .cases e
  .cases e
 |sorted =>
  have(x,rfl,hz):=bh (f:=Bc) h;clear h;have h:=hz;clear hz;have(v,rfl,g):=t.one;unfold Bc at h;split at h
  .have(l,ws,ex,i,h2):=g.list ok;unfold C_ at h;split at h
   .rename_i ss e;have G:=cv e;subst G;rw[aq.strs]at h2;subst h2;split at h
    .cases h;show call_of ju I o #[l,ss,by rw[ex],.inl (z▸i),by assumption,λp D=>q.list y ok n (aq.strs.mpr rfl) p D]
    .cases h
   .have(ns,e,O):=wk.mp h;have G:=fA e;subst G;have Y:=aq.ints h2;subst Y;split at O
    .cases O;show call_of i4 I o #[l,ns,by rw[ex],z▸i,by assumption,λp D=>q.list y ok n (aq.wg _) p D]
    .cases O
  .rw[wk]at h;have(ss,e,h):=h;have G:=cv e;subst G;have(l,ws,ex,i,h2):=g.tuple ok;rw[z]at i;rw[aq.strs]at h2;subst h2;split at h
   .cases h;show call_of ju I o #[l,ss,by rw[ex],.inr i,by assumption,λp D=>q.list y ok n (aq.strs.mpr rfl) p D]
   .cases h
  .cases h
 |list =>
  have(x,rfl,hz):=bh (f:=Bd) h;clear h;have h:=hz;clear hz;have(v,rfl,g):=t.one;unfold Bd at h;split at h
  .have(l,ws,ex,i,h2):=g.list ok;split at h
   .cases h;show call_of hU I o #[l,ws,by rw[ex],.inl (z▸i),λp D=>q.list y ok n (dt (by assumption) h2) p D]
   .cases h
  .have(l,ws,ex,i,h2):=g.tuple ok;rw[z]at i;split at h
   .cases h;show call_of hU I o #[l,ws,by rw[ex],.inr i,λp D=>q.list y ok n (dt (by assumption) h2) p D]
   .cases h
  .cases h
 |tuple =>
  have(x,rfl,hz):=bh (f:=Be) h;clear h;have h:=hz;clear hz;have(v,rfl,g):=t.one;unfold Be at h;split at h
  .have(l,ws,ex,i,h2):=g.list ok;cases h;show call_of gn I o #[l,ws,by rw[ex],.inl #[z▸i,λp D=>q.tupK y ok n h2 p D]]
  .have(l,ws,ex,i,h2):=g.tuple ok;have T:=i;rw[z]at T;cases h;show call_of gn I o #[l,ws,by rw[ex],.inr #[T,q c (.ref l) y rfl ok n (aK.item #[l,ws,rfl,i,h2])]]
  .cases h
 |str =>
  have(x,rfl,hz):=bh (f:=yN) h;clear h;have h:=hz;clear hz;have(v,rfl,g):=t.one;unfold yN at h;split at h
  .split at h
   .cases h;show call_of mR I o #[_,by rw[g.int ok],by assumption,q.flat y ok n rfl]
   .cases h
  .cases h
 |int =>
  have(x,rfl,hz):=bh (f:=Bj) h;clear h;have(v,rfl,g):=t.one;unfold Bj at hz;split at hz
  .cases hz;show call_of t5 I o (.inr #[_,by rw[g.bl ok],q.flat y ok n rfl])
  .cases hz
 |max =>
  have h:uw dV rs=b6 r:=h;unfold uw at h;split at h
  .have(v,v',rfl,g,ty):=t.two;cases h;show call_of (tY J) I o #[_,_,by rw[g.int ok,ty.int ok],q.flat y ok n rfl]
  .cases h
 |min =>
  have h:uw cb rs=b6 r:=h;unfold uw at h;split at h
  .have(v,v',rfl,g,ty):=t.two;cases h;show call_of (tZ J) I o #[_,_,by rw[g.int ok,ty.int ok],q.flat y ok n rfl]
  .cases h
 |all =>
  have(x,rfl,hz):=bh (f:=Bg) h;clear h;have h:=hz;clear hz;have(v,rfl,g):=t.one;unfold Bg at h;split at h
  .rw[j']at h;have(bs,e,rfl):=h;have G:=gN e;subst G;have(l,ws,ex,i,h2):=g.list ok;have:=h2.PM;subst this;show call_of (vI J) I o #[l,bs,by rw[ex],z▸i,q.flat y ok n rfl]
  .cases h
 |any =>
  have(x,rfl,hz):=bh (f:=Bh) h;clear h;have h:=hz;clear hz;have(v,rfl,g):=t.one;unfold Bh at h;split at h
  .rw[j']at h;have(bs,e,rfl):=h;have G:=gN e;subst G;have(l,ws,ex,i,h2):=g.list ok;have:=h2.PM;subst this;show call_of (vW J) I o #[l,bs,by rw[ex],z▸i,q.flat y ok n rfl]
  .cases h
 |dict =>
  have(x,rfl,hz):=bh (f:=Bi) h;clear h;have h:=hz;clear hz;have(v,rfl,g):=t.one;have(u,rfl,rr):=vals1 o;unfold Bi at h;split at h
  .have(ps,e,h):=wk.mp h;have(l,ws,ex,i,h2):=g.list ok;subst ex;cases rr;have(hf,as,rfl,hl,ht):=aq.Rx z e h2;split at h
   .cases h;show yE (ps:=ps.map λp=>(p.1,M7 p.2)) J I (z▸i) (by rw[f6];show hl) (λj a p e1 L=>by
     rw[mh,j']at L;have(p0,L,rfl):=L;show ht j a p0 e1 L) (by rw[mn];assumption) λd hd=>q.root y ok n d hd #[_,aE,by rw[mn,mn,mn];rfl,by rw[mn,mn];show aq.Rw hf]
   .cases h
  .cases h
 |_=>cases h
def zc{id:String}(g:X.calm=cb)(i:C.K=X.K)(j:X.A.guards=b6 [])(k:X.A.units+60<N9)(l:f.val=.builtin id)(n:Gl X x)(o:X.mg x=b7)(u:IJ x=b6 (.builtin id))(v:x≠"__name__")(y:(x==("__debug__":Str))=dV)
  (B:PA X (e::es) (G4 C ms)) (D:o5 (e::es) X.env=(dV,KZ e X.env)::o5 es X.env) (G:(Ma pos (o5 es X.env)).any (·.1)=dV) :
  PE X (.Call (.Name x p) (e::es) [] pos) (Fs C (ms >>= λrs=>au rs >>= λ_=>M.FK (Hk f rs))):=by
 rintro pins s σ H Q I ⟨c0,rfl,rfl,ok,h⟩;show H8 (dM I n o u ?_ v y);show Oc (Ft (args B I ok h pos) λus s1 ⟨rs,c,vs,t,J,L,w⟩=>?_) D G;have(r,e,q):=cP.mp w;have z:=wu g i j k t J L e q;rw[l,t.hσ]at z;show z
def zd(g:X.calm=cb)(i:C.K=X.K)(j:X.A.guards=b6 [])(k:X.A.units+60<N9)(l:f.val=.type T)(n:Gl X x)(o:X.mg x=b7)(u:IJ x=b6 (.type T))(v:x≠"__name__")(y:(x==("__debug__":Str))=dV)
  (B:PA X (e::es) (G4 C ms)) (D:o5 (e::es) X.env=(dV,KZ e X.env)::o5 es X.env) (G:(Ma pos (o5 es X.env)).any (·.1)=dV) :
  PE X (.Call (.Name x p) (e::es) [] pos) (Fs C (ms >>= λrs=>au rs >>= λ_=>M.FK (Hk f rs))):=by
 rintro pins s σ H Q I ⟨c0,rfl,rfl,ok,h⟩;show H8 (dM I n o u ?_ v y);show JQ (Ft (args B I ok h pos) λus s1 ⟨rs,c,vs,t,J,L,w⟩=>?_) D G;have(r,e,q):=cP.mp w;have z:=wu g i j k t J L e q;rw[l,t.hσ]at z;show z
abbrev PJ(X:Cx)(out:Str)(es:List tr)(t:TE):Prop :=
 ∀(pins:List (i6×Obj)) (s:hW) (σ:L2.St) (H:Hp) (Q:VK),Inv X pins σ H s->t σ H Q->iv (j0 X.prog X.w) X.A (joinParts out (evalEach es X.env)) (EP X pins σ Q) X.xe s
def Bv(hz:out.length<=eF):PJ X out [] (Fs C (pure (.loc,.str out))):=by
 rintro pins s σ H Q I ⟨c0,rfl,rfl,ok,h⟩;rw[ao]at h;show joinParts_nil #[.str out,c0.H,I.tok _,#[_,rfl],h c0 (.str out) rfl rfl ok (Nx.refl c0) rfl] hz
def Bw(f:PJ X (out++y) es (Fs C m))(hz:(out++y).length<=eF):PJ X out (.Constant (.str y) kk p::es) (Fs C m):=by
 intro pins s σ H Q I h;show Y3 (Zt (Ft (vc (X:=X) pins s σ H (λv H'=>v=.str y/\H'=H) I ⟨rfl,rfl⟩) λv s1 g=>?_));have(x,i,j,k,l,n):=g;subst l n;have(t,rfl):=k;show#[hz,f pins s1 σ i Q j h]
def Bx{g:Str->M (Kd×U)}(D:PE X a (Fs C ma))(G:∀y,y.length<=eF->PJ X y es (Fs C (g y))):PJ X out (.FormattedValue a (-1) b7 p::es) (Fs C (ma >>= λx=>M.FK (lM x.2 out) >>= λy=>g y)):=by
 rintro pins s σ H Q I ⟨c0,rfl,rfl,ok,h⟩;show Y3 (Zt (FormattedValue_plain (Ft (D pins s c0.σ c0.H (λv H'=>∃x c y,Il C c0 c x v/\c.H=H'/\lM x.2 out=b6 y/\W (g y) c.st (cn C c0 Q)) I ?_) λv s1 ⟨o,H1,z,B,x,c,y,t,e,f,w⟩=>?_)))
 .show#[c0,rfl,rfl,ok,?_];rw[ai]at h;show W.mono h λx st' w c v i hs J n r=>?_;subst hs;rw[ai]at w;have(y,e,w):=cP.mp w;show#[x,c,y,#[i,J,n,r],rfl,e,w]
 .subst e;have(k,u):=x;have(i,j,n,r):=t
  dsimp only at f r
  have go:∀s2:hW,Inv X pins c0.σ c.H s2->y.length<=eF->iv (j0 X.prog X.w) X.A (joinParts y (evalEach es X.env)) (EP X pins c0.σ Q) X.xe s2:=λs2 L hz =>
   G y hz pins s2 c0.σ c.H Q L #[c,i,rfl,j,W.mono w λr' st' q N O T h2 Y h4 h5=>q N O T h2 Y (n.trans h4) (h5.from n)]
  unfold lM at f;split at f
  .split at f
   .rename_i hz;cases f;have ev:o=_:=r.str j;subst ev;have(l,rfl):=B;show formatField_str (λt' l=>#[hz.2,go _ (z.tok l) hz.2]) hz.1
   .cases f
  .split at f
   .rename_i hz;cases f;have ev:o=_:=r.int j;subst ev;have(l,rfl):=B;show formatField_int_small hz.1 #[hz.2,go _ (z.tok _) hz.2]
   .cases f
  .cases f
def ze(h:PJ X DD (f::g::es) (Fs C m)):PE X (.JoinedStr (f::g::es) pos) (Fs C m):=λpins s σ H Q I q=>JoinedStr_many (h pins s σ H Q I q)
@[reducible]noncomputable def Ka(P:y1)(w:F7)(K:PySem.W.Frag)(H:Hp)(Pr:i6->Prop):Ct:=#[P,w,K,H,Pr,λ_=>False,λ_ _=>False]
structure Back(C:Ct)(H H':Hp)(S':i6->Prop)(k:Kd)(u:U)(v:V):Prop where
 same:jD H H'
 new:∀a,S' a->H a=b7/\∃o,H' a=b6 o
 own:k=.own->∃r,v=.ref r/\H r=b7/\¬S' r/\cW C S' H' r u
 loc:k=.loc->Rep C S' H' u v
 any:k=.any->Rep C (PS C S') H' u v
abbrev spT(P:y1)(w:F7)(K:PySem.W.Frag)(F:List U->Option (Ex (Kd×U)))(f:Nat):Sp:=λvs H Q E=>vs.length=f/\∃us r Pr,F us=b6 r/\(∀a,Pr a->Hs H a)/\aq (Ka P w K H Pr) Pr H us vs/\match r with
 |.ok (k,u)=>(k=.own\/k=.loc\/k=.any)/\∀v H' S',Back (Ka P w K H Pr) H H' S' k u v->Q v H'
 |.exc c=>∀C H',PySem.W.nsIn K nt c=b6 (b6 (.ref C))->jD H H'->E (.ref C) b7 H'
def HZ.read(t:HZ C c0 c rs vs):aq C (Hs c.H) c.H (rs.map (·.2)) vs:=by
 have f:∀(l:List (Kd×U)) (w:List V),dr C c0 c l w->aX l c.st->aq C (Hs c.H) c.H (l.map (·.2)) w:=by
  intro l;induction l with
  |nil=>intro w h _;show h
  |cons r l g =>
   intro w h hs;have(v,t',rfl,i,h2,_):=h;rw[fX]at hs;show#[v,t',rfl,(i.t hs.1).read t.ok,g t' h2 hs.2]
 show f rs vs t.rep t.L8
def Back.here(hk:k=.own\/k=.loc)(g:c.σ=c0.σ)(ok:Ok C c)(n:Nx c0 c)(q:i.Eqv C)(h:Back i c.H H' S' k u v)(w:cn C c0 Q (k,u) c.st):Q v H':=by
 have(j,l):=ok.grow (S':=λa=>c.S a\/S' a) h.same (λa z=>z.imp id λz=>h.new a z) λa=>.inl;have t:=n.trans l;show w {c with H:=H',S:=λa=>c.S a\/S' a} v g rfl j t ?_;rcases hk with rfl|rfl
 .have(r,e,f,h2,x):=h.own rfl;have(B,y,D,G,A):=ok.qP f;show#[r,e,n.none f,λz=>z.elim y h2,A,(x.cg q).mv (.up λa=>.inr) λo q=>q]
 .show((h.loc rfl).cg q).mv (.up λa=>.inr)
def wx(o:C.P=X.prog)(x:C.w=X.w)(y:C.K=X.K)(L:Γ f=F)(hk:∀us k u,F us=b6 (.ok (k,u))->(k=.own\/k=.loc\/k=.any)/\us.length=B)
  (G:jB X.prog X.w X.K X.mg X.base (Lk X.prog X.w) k fa N ps (spT X.prog X.w X.K F B)) (O:eW k X.A) (T:Gl X f) (Y:X.mg f=b6 (.ref fa)) (PZ:PySem.W.keepIn X.K (.ref fa)=cb) (j:Binds X.K N ps [])
  (Jo:(f==("__debug__":Str))=dV) (ha:PA X (e::es) (G4 C ms)) (he:o5 (e::es) X.env=(dV,KZ e X.env)::o5 es X.env) (GO:(Ma pos (o5 es X.env)).any (·.1)=dV) :
  PE X (.Call (.Name f p) (e::es) [] pos) (Fs C (ms >>= λrs=>au rs >>= λ_=>kD Γ f (rs.map (·.2)))):=by
 rintro pins s σ H Q I ⟨c0,rfl,rfl,ok,h⟩;show H8 (fQ I T Y ?_ Jo);show PySem.W.callWith_K (h₀:=X.base) I.ok.mod.Md PZ (Ft (args ha I ok h pos) λus s1 ⟨rs,c,vs,t,D,rv,w⟩=>#[D.IW,?_]) he GO;have(r,st',g,q):=w;unfold kD at g;rw[L]at g;cases i:F (rs.map (·.2)) with
 |none=>rw[i]at g;cases g
 |some r' =>
  rw[i]at g;split at g
  .cases g
  .rename_i z;cases z
  rename_i T7 e3;cases e3;cases g;have(l,u):=r;have(k0,k2):=hk _ _ _ i;have k1:l=.own\/l=.loc:=by
   rcases k0 with z|z|z
   .show .inl z
   .show .inr z
   .subst z;show(T7 u rfl).elim
  have n:C.Eqv (Ka X.prog X.w X.K c.H (Hs c.H)):=#[o,x,y]
  have Ln:(Ka X.prog X.w X.K c.H (Hs c.H)).Eqv C:=#[o.symm,x.symm,y.symm]
  have J:=t.read;have Hq:spT X.prog X.w X.K F B vs c.H (λv H'=>Q v H') E0:=#[by rw[<-J.len];show k2,rs.map (·.2),.ok (l,u),Hs c.H,i,λ_ z=>z,J.cg n,k0,λv H' S' j=>j.here k1 t.hσ t.ok t.nx Ln q]
  have z:=AV (Q:=Q) G O j .nil C8 D rv (by rw[G5];show Hq);rw[t.hσ]at z;show z
end
section
abbrev Mf.id:Mf->String
 |.split=>"str.split"|.join=>"str.join"|.partition=>"str.partition"|.endswith=>"str.endswith"
abbrev Mf.name:Mf->Str
 |.split=>"split"|.join=>"join"|.partition=>"partition"|.endswith=>"endswith"
def wy(h:nL f u rs=b6 r):∃x,u=.str x:=by
 obtain⟨b,e,-⟩:=iC h;show#[b,e]
def By(G:C.K=X.K)(t:HZ C l c (x::rs) (j::vs))(I:Inv X d c.σ c.H s)(o:RelV j v)(u:Vals vs us)(h:nL f x.2 rs=b6 r)(q:cn C l Q r c.st):
  iv (j0 X.prog X.w) X.A (OK (.builtin f.id) (v::us)) (EP X d c.σ Q) X.xe s:=by
 have y:=t.hσ;have ok:=t.ok;have n:=t.nx;have(J,L):=x;have hs:=fX.mp t.L8;obtain⟨v0,N0,N,z,h2,-⟩:=t.rep;cases N;have O:aK C l c J L j:=z.t hs.1;have one:∀{r:Kd×U},dr C l c [r] vs->aX [r] c.st->∃v,vs=[v]/\aK C l c r.1 r.2 v:=λ{r} h s=>by
  have(v,t',rfl,z,h2,_):=h;cases h2;show#[v,rfl,z.t s]
 have(a,B,g):=iC h
 dsimp only at B
 subst B;have((ky,T),Y,i):=bh g;subst Y;have(w,rfl,ty):=one h2 hs.2;have ex:=O.str ok
 dsimp only at i ty
 cases f with
 |split =>
  cases i
 |join =>
  cases T with
  |lst xs =>
   have(ss,e,k):=wk.mp i;have e':=cv e;subst e';have(m,e):=Mj.mp k;cases e;have(a',ws,ew,h3,D):=ty.list ok;rw[aq.strs]at D;subst D;show yz d s c.σ c.H j [w] v us Q I o u #[_,a',ss,ex,by rw[ew],G▸h3,m,q.flat y ok n rfl]
  |_=>cases i
 |endswith =>
  have(b,rfl,k):=iC i;cases k;show oS d s c.σ c.H j [w] v us Q I o u #[_,_,ex,by rw[ty.str ok],q.flat y ok n rfl]
 |partition =>
  have(b,rfl,k):=iC i;have(m,e):=Mj.mp k;cases e;show ng d s c.σ c.H j [w] v us Q I o u #[_,_,ex,by rw[ty.str ok],m.1,m.2,λp hp=>?_];show q.tup y ok n #[_,_,rfl,rfl,_,_,rfl,rfl,_,_,rfl,rfl,rfl] p hp
def zf(O:C.K=X.K)(slot:Slot "str" name f.id)(T:Yo (.builtin f.id)=pure (.type "method_descriptor"))(ho:PE X o (Fs C m))(Y:PA X (e::es) (G4 C ms))
  (I_:Xb o name X.env (KZ o X.env)=KZ o X.env)
  (HM:((Ma g (o5 (e::es) X.env)).all (λx=>!x.1)&&(WS g (S4 [] X.env)).all (λx=>x.1.isSome)
   && f7 ((e::es).length+([]:List Q4).length+(if ([]:List Q4).isEmpty then 0 else 1)<30))=cb)
  (GP:(k.endLine==g.line)=cb) (hs:o5 (e::es) X.env=(dV,KZ e X.env)::o5 es X.env) (Ge:(Ma g (o5 es X.env)).any (·.1)=dV) :
  PE X (.Call (.Attribute o name k) (e::es) [] g) (Fs C (m >>= λx=>ms >>= λrs=>au (x::rs) >>= λ_=>M.FK (nL f x.2 rs))):=by
 rintro a s σ H Q I ⟨b,rfl,rfl,ok,h⟩;show Xt I_ HM GP rfl (Ft (ho a s b.σ b.H (λl y=>∃x d,d.H=y/\Il C b d x l/\W (ms >>= λrs=>au (x::rs) >>= λ_=>M.FK (nL f x.2 rs)) d.st (cn C b Q)) I (bf ok h λx c v t w=>#[x,c,rfl,t,w])) ?_);rintro v s1 ⟨l,y,A,B,x,d,rfl,t,w⟩;have P0:∃z,x.2=.str z:=by
  rw[ai]at w;have(rs,st2,_,w):=w;rw[ai]at w;have(_,st3,_,w):=w;have(r,e,_):=cP.mp w;show wy e
 have(z,hz):=P0;have D:=t.rx;rw[hz]at D;have ev:=D.str t.ok;have ty:OH X.K "str" l d.H:=by rw[ev];rfl
 have(h1,h2):=vq A B ty;show#["str",f.id,PySem.F.plainAttrs_str,slot,T,h1,h2,?_];rw[ai]at w;have G:=Y g a s1 b.σ d.H (λvs J=>∃rs j,j.H=J/\HZ C b j (x::rs) (l::vs)/\W (M.FK (nL f x.2 rs)) j.st (cn C b Q)) A ⟨d,t.hσ,rfl,t.ok,w.mono λrs st2 p j vs L e4 FQ N n=>by
  rw[ai,bJ]at p;subst e4;show#[rs,j,rfl,#[L,FQ,t.nx.trans N,#[l,vs,rfl,t.rx.w.on t.ok N (L.trans t.hσ.symm),n.from t.nx,λhk i r' v' e5 e6 FI=>kG t.rx.w (n.get e5 e6) hk FI],p.1],p.2]⟩
 rw[hs]at G ⊢;show QM (by change(dV||(Ma g (o5 es X.env)).any (·.1))=dV;rw[Ge]<;>rfl) (Nd ?_);show Ft G ?_;rintro us s2 ⟨vs,J,I2,n,rs,j,rfl,u,w2⟩;have(r,e,q):=cP.mp w2;have z:=By O u (by rw[u.hσ];show I2) B n e q;rw[u.hσ]at z;show z
end
section
variable{X:Cx}{C:Ct}{pins:List (i6×Obj)}{s:hW}{c0 c c1:Cf}
variable{e:tr}{es:List tr}{ms:M (List (Kd×U))}{pos p p2 pos2:Pos}
abbrev B2.out:B2->fx
 |.Jp=>.type "tuple"|.Jq=>.type "list"|.sset=>.builtin "sorted"|.oJ=>.builtin "len"
abbrev B2.N1:B2->fx
 |.Jp=>.type "reversed"|.Jq=>.type "reversed"|.sset=>.type "set"|.oJ=>.type "set"
abbrev B2.nQ:B2->Str
 |.Jp=>"tuple"|.Jq=>"list"|.sset=>"sorted"|.oJ=>"len"
abbrev B2.iF:B2->Str
 |.Jp=>"reversed"|.Jq=>"reversed"|.sset=>"set"|.oJ=>"set"
def uC(i:C.K=X.K)(ok:Ok C c)(j:aK C c0 c k u v)(h:v9 u=b6 ss):∃a b,v=.ref a/\(FR X.K c.H a (b.map V.str)\/FW X.K c.H a (b.map V.str))/\b.length+1<Gy/\ss=ak b:=by
 unfold v9 at h;split at h
 .rw[wk]at h;have(b,e,h):=h;have f:=cv e;subst f;have(g,ws,ex,d,h2):=j.list ok;rw[aq.strs]at h2;subst h2;split at h
  .cases h;show#[g,b,ex,.inl (i▸d),by assumption,rfl]
  .cases h
 .rw[wk]at h;have(b,e,h):=h;have f:=cv e;subst f;have(g,ws,ex,d,h2):=j.tuple ok;rw[aq.strs]at h2;subst h2;rw[i]at d;split at h
  .cases h;show#[g,b,ex,.inr d,by assumption,rfl]
  .cases h
 .cases h
def Bz(a:X.calm=cb)(j:C.K=X.K)(t:HZ C c0 c rs vs)(I:Inv X pins c.σ c.H s)(k:Vals vs us)(h:pJ f rs=b6 r)(q:cn C c0 Q r c.st):
  iv (j0 X.prog X.w) X.A (OK f.N1 us) (λv s1=>iv (j0 X.prog X.w) X.A (OK f.out [v]) (EP X pins c.σ Q) X.xe s1) X.xe s:=by
 have m:=t.hσ;have ok:=t.ok;have n:=t.nx;cases f with
 |sset =>
  have(x,rfl,hz):=bh (f:=qR) h;clear h;have(v,rfl,o):=t.one;unfold qR at hz;split at hz
  .rename_i ss e;have(hl,hz):=Mj.mp hz;cases hz;have(y,J,rfl,b,h2,rfl):=uC j ok o e;have(u,rfl,d):=vals1 k;cases d;show nB a I b h2 λS h' z g i=>lJ a i g hl λl hl=>q.list m ok n (aq.strs.mpr rfl) l hl
  .have(L,B):=x;have hz:yO B=b6 r:=hz;unfold yO at hz;split at hz
   .have(ns,e,hz):=wk.mp hz;have(hl,hz):=Mj.mp hz;cases hz;have D:=fA e;subst D;have(y,ws,rfl,b,h2):=o.list ok;have G:=aq.ints h2;subst G;have(u,rfl,d):=vals1 k;cases d;have GH:(aT ns).length<64:=Mt (gK ns) hl;show pG a I (j▸b) (by unfold Gy;lia) λS h' z g i=>kB a i g GH λl hl=>q.list m ok n (aq.wg _) l hl
   .cases hz
 |_=>cases h
def sL:∀f:B2,IJ f.nQ=b6 f.out/\IJ f.iF=b6 f.N1/\f.nQ≠"__name__"/\f.iF≠"__name__"/\(f.nQ==("__debug__":Str))=dV/\(f.iF==("__debug__":Str))=dV:=by
 intro f;cases f<;>show#[by decide +kernel,by decide +kernel,by decide +kernel,by decide +kernel,by decide +kernel,by decide +kernel]
def BA(f:B2):∃T,f.N1=.type T:=by cases f<;>show#[_,rfl]
def BB(f:B2):(∃T,f.out=.type T)\/∃T,f.out=.builtin T:=by cases f<;>first|show .inl ⟨_,rfl⟩|show .inr ⟨_,rfl⟩
def zg{M:Model}{E:fx->hW->Prop}(h:iv M A t (λv a=>iv M A (OK (.type T) [v]) Q E a) E s):iv M A (callWith pos (.type T) [] [(dV,t)] []) Q E s :=
 PySem.callWith_type rfl (Nd (K5 (tA h (λ_ _ b=>MK b) λ_ _ e=>e)))
def BC{M:Model}{E:fx->hW->Prop}(h:iv M A t (λv a=>iv M A (OK (.builtin T) [v]) Q E a) E s):iv M A (callWith pos (.builtin T) [] [(dV,t)] []) Q E s :=
 QM rfl (Nd (K5 (tA h (λ_ _ b=>MK b) λ_ _ e=>e)))
def wz(b:X.calm=cb)(d:C.K=X.K)(g:Gl X f.iF)(i:X.mg f.iF=b7)
  (j:PA X (e::es) (G4 C ms)) (k:o5 (e::es) X.env=(dV,KZ e X.env)::o5 es X.env) (l:(Ma pos2 (o5 es X.env)).any (·.1)=dV)
  (I:Inv X pins c0.σ c0.H s) (ok:Ok C c0) (h:W (ms >>= λrs=>au rs >>= λ_=>M.FK (pJ f rs)) c0.st (cn C c0 Q)) :
  iv (j0 X.prog X.w) X.A (KZ (.Call (.Name f.iF p2) (e::es) [] pos2) X.env) (λv s1=>iv (j0 X.prog X.w) X.A (OK f.out [v]) (EP X pins c0.σ Q) X.xe s1) X.xe s:=by
 have(D,m,G,n,J,o):=sL f;show H8 (dM I g i m ?_ n o);have a:iv (j0 X.prog X.w) X.A (YA (Ma pos2 (o5 (e::es) X.env))) (λus s1=>iv (j0 X.prog X.w) X.A (OK f.N1 us) (λv s1=>iv (j0 X.prog X.w) X.A (OK f.out [v]) (EP X pins c0.σ Q) X.xe s1) X.xe s1) X.xe s :=
  Ft (args j I ok h pos2) λus s1 u=>by
   have(rs,c,vs,t,x,y,w):=u;have(r,e,q):=cP.mp w;have z:=Bz b d t x y e q;rw[t.hσ]at z;show z
 have(T,B):=BA f;rw[B]at a ⊢;show JQ a k l
def zh(d:X.calm=cb)(g:C.K=X.K)(i:Gl X f.nQ)(j:X.mg f.nQ=b7)(k:Gl X f.iF)(l:X.mg f.iF=b7)
  (m:PA X (e::es) (G4 C ms)) (n:o5 (e::es) X.env=(dV,KZ e X.env)::o5 es X.env) (o:(Ma pos2 (o5 es X.env)).any (·.1)=dV) :
  PE X (.Call (.Name f.nQ p) [.Call (.Name f.iF p2) (e::es) [] pos2] [] pos) (Fs C (ms >>= λrs=>au rs >>= λ_=>M.FK (pJ f rs))):=by
 rintro pins s σ H Q I ⟨c0,rfl,rfl,ok,h⟩;have(q,w,r,x,t,y):=sL f;show H8 (dM I i j q ?_ r t);have a:=wz (p2:=p2) (pos2:=pos2) d g k l m n o I ok h;have u:Ma pos (o5 [.Call (.Name f.iF p2) (e::es) [] pos2] X.env)=[(dV,KZ (.Call (.Name f.iF p2) (e::es) [] pos2) X.env)]:=rfl;have v:WS pos (S4 [] X.env)=[]:=rfl;rw[u,v];rcases BB f with⟨T,b⟩|⟨T,b⟩
 .rw[b]at a ⊢;show zg a
 .rw[b]at a ⊢;show BC a
end
section
variable{X:Cx}{C:Ct}{pins:List (i6×Obj)}{s:hW}{c0 c c1:Cf}
variable{a b d e o tg:tr}{es:List tr}{m ma mb md:M (Kd×U)}{ms:M (List (Kd×U))}{ta tb:M Bool}{pos p p2 apos Ff:Pos}
abbrev l7(rs:List (Kd×U))(c f:Cf):Prop:=∀j u,(Kd.bor j,u)∈rs->f.σ[j]?=c.σ[j]?
abbrev Walk(C:Ct)(c:Cf)(rs:List (Kd×U))(xs:List (Kd×U))(J:It):Prop:=∀f,Ok C f->Ns c f->l7 rs c f->aX rs f.st ->
 (∀(i:Nat) r,xs[i]?=b6 r->(r.1=.loc\/r.1=.any)/\J.go i f.H/\∀x H',J.Nu i f.H x H'->∃g:Cf,g.H=H'/\g.σ=f.σ/\g.st=f.st/\Ok C g/\Nx f g/\aK C f g r.1 r.2 x) /\
 ∀i:Nat,xs.length<=i->J.stop i f.H
abbrev JN(C:Ct)(ik:Ik)(ms:M (List (Kd×U))):TI:=λσ H R=>∃c0:Cf,c0.σ=σ/\c0.H=H/\Ok C c0/\W (ms >>= λrs=>au rs >>= λ_=>M.FK (Ij ik rs) >>= λxs=>pure (rs,xs)) c0.st λq st' =>
 ∀c J,c.σ=σ->c.st=st'->Ok C c->Nx c0 c->aX q.1 c.st->Walk C c q.1 q.2 J->R J c.H
def aK.walk(ok:Ok C c)(n:Ns c f)(g:l7 [r] c f)(hs:aX [r] f.st)(h:aK C c0 c r.1 r.2 v):aK C c0 f r.1 r.2 v :=
 (h.w.Rq ok n λj e=>g j r.2 (by rw[<-e];simp)).t hs
def zW(k:Kd):kE k=.loc\/kE k=.any:=by cases k<;>simp[kE]
def uD(y:C.K=X.K)(ok:Ok C c)(h:aK C c0 c k (.lst us) (.ref z)):Walk C c [(k,.lst us)] (us.map λu=>(kE k,u)) (Om X.K z):=by
 intro l q n A hs;have h':=aK.walk (r:=(k,.lst us)) ok n A hs h;have(D,vs,e,f,h2):=h'.list q;cases e;rw[y]at f;show#[λi r t=>?_,λi hi=>#[vs,f,by rw[<-h2.len];simpa using hi]];rw[mh,j']at t;have(u,B,rfl):=t;have(v,w,g):=h2.get B;show#[zW k,#[vs,v,f,w],λx H' j=>?_];have(e,j):=j;subst e;have:=j vs f;rw[w]at this;cases this;show#[l,rfl,rfl,rfl,q,Nx.refl l,aK.item g]
def qT(y:C.K=X.K)(ok:Ok C c)(h:aK C c0 c k (.tup us) (.ref z)):Walk C c [(k,.tup us)] (us.map λu=>(kE k,u)) (Oo X.K z):=by
 intro l q n A hs;have h':=aK.walk (r:=(k,.tup us)) ok n A hs h;have(D,vs,e,f,h2):=h'.tuple q;cases e;rw[y]at f;show#[λi r t=>?_,λi hi=>#[vs,f,by rw[<-h2.len];simpa using hi]];rw[mh,j']at t;have(u,B,rfl):=t;have(v,w,g):=h2.get B;show#[zW k,#[vs,v,f,w],λx H' j=>?_];have(e,j):=j;subst e;have:=j vs f;rw[w]at this;cases this;show#[l,rfl,rfl,rfl,q,Nx.refl l,aK.item g]
def kH{lo:Int}:Walk C c rs ((lg n).map λi:Nat=>(Kd.loc,U.int (lo+(i:Int)))) (Ml lo n):=by
 intro g k nx q hs;show#[λi r h=>?_,λi hi=>by change n<=i;simpa using hi];rw[mh,j']at h;have(j,f,rfl):=h;have hi:i<n:=by simpa using(mN.mp f).1
 rw[Xk hi]at f;cases f;show#[.inl rfl,hi,λy H' l=>?_];have(e,rfl):=l;subst e;show#[g,rfl,rfl,rfl,k,Nx.refl g,rfl]
def BD(i:C.K=X.K)(w:PE X a (Fs C ma)):PI X tg a (JN C .seq (ma >>= λr=>pure [] >>= λrs=>pure (r::rs))):=by
 rintro pins s σ H R I ⟨c0,rfl,rfl,ok,h⟩;rw[ai,ai]at h;have(r,st1,x,h):=h;rw[ai,ao,ao,ai,bJ,ai]at h;have(y,h):=h;have(xs,j,h):=cP.mp h;rw[ao]at h;have(k,u):=r;cases u with
 |lst us =>
  cases j;show yi w pins s c0.σ c0.H R I #[c0,rfl,rfl,ok,_,st1,x,λc v l hs g n f=>?_];have(q,vs,rfl,t,h2):=f.list g;subst hs;show#[q,rfl,#[vs,i▸t],h c _ l rfl g n y (uD i g f)]
 |tup us =>
  cases j;show AN w pins s c0.σ c0.H R I #[c0,rfl,rfl,ok,_,st1,x,λc v l hs g n f=>?_];have(q,vs,rfl,t,h2):=f.tuple g;subst hs;have z:=t;rw[i]at z;show#[q,rfl,#[vs,z],h c _ l rfl g n y (qT i g f)]
 |_=>cases j
def wA{k:List (Kd×U)->M β}{Post:β->aw->Prop}(ok:Ok C c0)(h:W (ms >>= λrs=>au rs >>= λ_=>k rs) c0.st Post)
  (hz:∀rs c vs,HZ C c0 c rs vs->W (k rs) c.st Post->Z vs c.H):G4 C ms c0.σ c0.H Z:=by
 rw[ai]at h;show#[c0,rfl,rfl,ok,h.mono λrs st1 f c1 vs g i j l n=>?_];rw[ai,bJ]at f;subst i;show hz rs c1 vs #[g,j,l,n,f.1] f.2
def zi(i:Gl X "range")(j:X.mg "range"=b7)(hs:o5 [a] X.env=[(dV,KZ a X.env)])(k:PA X [a] (G4 C ms)):PI X tg (.Call (.Name "range" p) [a] [] pos) (JN C .FH ms):=by
 rintro pins s σ H R I ⟨c0,rfl,rfl,ok,h⟩;show tV i j k hs pins s c0.σ c0.H R I (wA ok h λrs c vs t w=>?_);rw[ai]at w;have(xs,g,w):=cP.mp w;rw[ao]at w;have(x,rfl,hz):=bh (f:=v_) g;clear g;have g:=hz;clear hz;have(v,rfl,l):=t.one;unfold v_ at g;split at g
 .split at g
  .rename_i n;cases g;show#[_,by rw[l.int t.ok],⋯,⋯,w c _ t.hσ rfl t.ok t.nx t.L8 kH]
  .cases g
 .cases g
def zj(g:Gl X "range")(i:X.mg "range"=b7)(hs:o5 [a,b] X.env=[(dV,KZ a X.env),(dV,KZ b X.env)])(j:o5 [b] X.env=[(dV,KZ b X.env)])(k:PA X [a,b] (G4 C ms)):PI X tg (.Call (.Name "range" p) [a,b] [] pos) (JN C .HX ms):=by
 rintro pins s σ H R I ⟨c0,rfl,rfl,ok,h⟩;show tW g i k hs j pins s c0.σ c0.H R I (wA ok h λrs c vs t w=>?_);rw[ai]at w;have(xs,f,w):=cP.mp w;rw[ao]at w;have f:Bk rs=b6 xs:=f;unfold Bk at f;split at f
 .split at f
  .rename_i n;cases f;have(v,q,rfl,l,ty):=t.two;show#[_,_,by rw[l.int t.ok,ty.int t.ok],⋯,w c _ t.hσ rfl t.ok t.nx t.L8 kH]
  .cases f
 .cases f
def Ok.put(ok:Ok C c)(n:Nx c0 c)(hi:i<c.σ.length)(hk:k=.own\/k=.loc\/k=.any)(GF:Ok C c0)(h:aK C c0 c k u v):
  Ok C {c with σ:=c.σ.set i (b6 v),st:=c.st.set i (b6 (k,u))}/\Nx c0 {c with σ:=c.σ.set i (b6 v),st:=c.st.set i (b6 (k,u))}:=by
 have Q:i<c.st.length:=by rw[ok.len];show hi
 have T:∀(j:Nat) k' u',(c.st.set i (b6 (k,u)))[j]?=b6 (b6 (k',u'))->j≠i->c.st[j]?=b6 (b6 (k',u')):=λj k' u' e ne=>by rw[nT (GR ne)]at e;show e
 have P2:∀(j:Nat) D,(c.σ.set i (b6 v))[j]?=b6 (b6 D)->j≠i->c.σ[j]?=b6 (b6 D):=λj D e ne=>by rw[nT (GR ne)]at e;show e
 have sl:fm C c.S c.H k u v:=by
  rcases hk with rfl|rfl|rfl
  .have(r,e,G,h2,x,L):=h;have(z0,z1,N,z3,z4):=GF.qP G;show#[r,e,h2,N,z0,L]
  .show h
  .show h
 have Y:∀(j:Nat) k' u' r,k'.root=cb->(c.st.set i (b6 (k,u)))[j]?=b6 (b6 (k',u'))->(c.σ.set i (b6 v))[j]?=b6 (b6 (.ref r))->j=i/\k=.own/\v=.ref r\/j≠i/\c.st[j]?=b6 (b6 (k',u'))/\c.σ[j]?=b6 (b6 (.ref r)):=λj k' u' r I g l=>by
  by_cases f:j=i
  .subst f;rw[nC Q]at g;rw[nC hi]at l;cases g;cases l;rcases hk with rfl|rfl|rfl
   .show .inl #[rfl,rfl,rfl]
   .cases I
   .cases I
  .show .inr #[f,T j k' u' g f,P2 j _ l f]
 have dD:∀(j:Nat) (u':U),(c.st.set i (b6 (k,u)))[j]?=b6 (b6 (.Fo,u'))->c.st[j]?=b6 (b6 (.Fo,u'))/\(c.σ.set i (b6 v))[j]?=c.σ[j]?:=λj u' e=>by
  by_cases f:j=i
  .subst f;rw[nC Q]at e;cases e;rcases hk with hk|hk|hk<;>cases hk
  .show#[T j .Fo u' e f,nT (GR f)]
 have y:∀a,({c with σ:=c.σ.set i (b6 v),st:=c.st.set i (b6 (k,u))}:Cf).R1 a->c.R1 a\/k=.own/\v=.ref a:=λa Gb=>by
  have(j,k',u',I,g,l):=Gb;rcases Y j k' u' a I g l with⟨O,t,w⟩|⟨O,t,w⟩
  .show .inr #[t,w]
  .show .inl #[j,k',u',I,t,w]
 have J':ID C {c with σ:=c.σ.set i (b6 v),st:=c.st.set i (b6 (k,u))}:=ok.dd.of rfl dD (λa z=>(y a z).imp id λ⟨q1,q2⟩ j z'=>by
  subst q1;have(J,e,_,_,x,_):=h;rw[q2]at e;cases e;show x (.inr #[j,z'])) (.up λ_ z=>z) λj a z=>#[(ok.root (.inr #[j,z])).1,λo q=>q]
 show#[#[ok.same,ok.HV,ok.par,ok.io,by simp[ok.len],λj k' u' e=>?_,λj1 j2 k1 k2 u1 u2 r Ku M6 g l e3 e4=>?_,J'],#[#[n.keep,n.there,λa z=>?_,n.sub,n.new]]]
 .by_cases f:j=i
  .subst f;rw[nC Q]at e;cases e;show#[v,by rw[nC hi],sl]
  .have(D,g,l):=ok.sl j k' u' (T j k' u' e f);show#[D,by rw[nT (GR f)];show g,l]
 .have z1:=Y j1 k1 u1 r Ku g e3;have N:=Y j2 k2 u2 r M6 l e4;rcases z1 with⟨O,t,w⟩|⟨O,t,w⟩
  .rcases N with⟨y,A,B⟩|⟨y,A,B⟩
   .show O.trans y.symm
   .subst t;have(J,e,G,h2,x,L):=h;rw[w]at e;cases e;show(x (.inl #[j2,k2,u2,M6,A,B])).elim
  .rcases N with⟨y,A,B⟩|⟨y,A,B⟩
   .subst A;have(J,e,G,h2,x,L):=h;rw[B]at e;cases e;show(x (.inl #[j1,k1,u1,Ku,t,w])).elim
   .show ok.inj j1 j2 k1 k2 u1 u2 r Ku M6 t A w B
 .rcases z with z|⟨j,u',J,g,l,e3⟩
  .rcases y a z with z|⟨t,w⟩
   .show n.roots a (.inl z)
   .subst t;have(J,e,G,h2,x,L):=h;rw[w]at e;cases e;show .inr G
  .have(q1,q2):=dD j u' g;show n.roots a (.inr #[j,u',J,q1,q2▸l,e3])
def jR(y:Ok C c0)(ok:Ok C c)(n:Nx c0 c)(hi:i<c.σ.length)(q:aK C c0 c r.1 r.2 v)(h:W (cQ i r) c.st Post):
  ∃t,t.σ=c.σ.set i (b6 v)/\t.H=c.H/\Ok C t/\Nx c0 t/\Post () t.st:=by
 have(k,u):=r;cases k with
 |own =>
  have(x,st',e,f):=h;cases e;have(g,l):=ok.put n hi (.inl rfl) y q;show#[{c with σ:=c.σ.set i (b6 v),st:=c.st.set i (b6 (.own,u))},rfl,rfl,g,l,f]
 |loc =>
  have(x,st',e,f):=h;cases e;have(g,l):=ok.put n hi (.inr (.inl rfl)) y q;show#[{c with σ:=c.σ.set i (b6 v),st:=c.st.set i (b6 (.loc,u))},rfl,rfl,g,l,f]
 |any =>
  have(x,st',e,f):=h;cases e;have(g,l):=ok.put n hi (.inr (.inr rfl)) y q;show#[{c with σ:=c.σ.set i (b6 v),st:=c.st.set i (b6 (.any,u))},rfl,rfl,g,l,f]
 |bor j =>
  have(x,st',e,f):=h;rw[show cQ i (.bor j,u) c.st=match c.st[j]? with|some (b6 (.own,u))=>b6 (Ex.ok (),(c.st.set j (b6 (.loc,u))).set i (b6 (.loc,u)))|_=>b7 from rfl]at e;split at e
  .rename_i w A;cases e;have(L,B,r,G,_):=ok.sl j _ _ A;have D:c.σ[j]?=b6 (b6 v):=q.2;rw[D]at B;cases B;subst G;have(I,J,z):=ok.wq n A D;have(g,l):=Ok.put (c:={c with S:=λa=>c.S a\/a=r,st:=c.st.set j (b6 (.loc,w))}) I J (k:=.loc) (u:=w) (v:=.ref r) hi (.inr (.inl rfl)) y z;show#[{S:=λa=>c.S a\/a=r,H:=c.H,σ:=c.σ.set i (b6 (.ref r)),st:=(c.st.set j (b6 (.loc,w))).set i (b6 (.loc,w)),kid:=c.kid},rfl,rfl,g,l,f]
  .cases e
 |_=>show q.elim
end
section
abbrev tG(C:Ct)(t:Bool)(is:List Nat):TG:=λv σ H Q=>∃b c r,c.σ=σ/\c.H=H/\Ok C b/\Ok C c/\Nx b c/\aK C b c r.1 r.2 v/\W (dQ t is r) c.st λ_ st' =>
 ∀a,a.st=st'->Ok C a->Nx b a->(∀j,j∉is->a.σ[j]?=c.σ[j]?)->a.σ.length=c.σ.length->Q a.σ a.H
structure qU(X:Cx)(e:tr)(i:Nat):Prop where
 is:∃x pos,e=.Name x pos/\X.N[i]?=b6 x/\Loc X.env.scope x/\(X.fn x=cb\/X.env.scope.names.lookup x=b6 .local)
def BE(g:X.N.Nodup)(h:qU X e i):PG X e (tG C dV [i]):=by
 have(x,pos,rfl,f,h2,k):=h.is;rintro a s σ H v u Q I l ⟨B,c,r,rfl,rfl,m,ok,n,b,w⟩;have hi:i<c.σ.length:=by rw[I.len];show(mN.mp f).1
 have(o,d,p,t,y,q):=jR (r:=r) m ok n hi b w;show rX g f h2 k a s c.σ c.H v u Q I l ?_;have z:=q o rfl t y (λj A=>by rw[d,nT (by intro z;show A (by simp[z]))]) (by rw[d];simp);rw[d,p]at z;show z
abbrev P4:List Nat->LL
 |[]=>CK
 |i::is=>zS (rW i) (P4 is)
inductive eG(X:Cx):List tr->List Nat->Prop where
 |nil:eG X [] []
 |cons {e:tr} {es:List tr} {i:Nat} {is:List Nat} (h:qU X e i) (t:eG X es is):eG X (e::es) (i::is)
def uE(a:X.N.Nodup)(h:eG X es is):Mk X es (P4 is):=by
 induction h with
 |nil=>show yh
 |cons h t b =>
  have(x,pos,rfl,c,h2,d):=h.is;show vg (rX a c h2 d) b rfl
def qV(h:eG X es is):(OE es X.env).length=is.length/\(OE es X.env).findIdx? (·.1)=b7:=by
 induction h with
 |nil=>show#[rfl,rfl]
 |cons h t a =>
  have(x,pos,rfl,b,h2,c):=h.is;show#[?_,?_]
  .change(_::_).length=_;simp[a.1]
  .change Ww _ (_::_)=b7;rw[List.findIdx?_cons,Zy (by simp),a.2];rfl
theorem sM(hk:kE k=k)(g:Ok C f):∀{is:List Nat}{us:List U}{vs:List V}{c:Cf}{Post:Unit->aw->Prop}{Q:L2.St->Hp->Prop},Ok C c->Nx f c->(∀i∈is,i<c.σ.length)->aq C (SK C c k) c.H us vs->W (sets is (us.map λu=>(k,u))) c.st Post ->
  (∀b,Post () b.st->Ok C b->Nx f b->(∀j,j∉is->b.σ[j]?=c.σ[j]?)->b.σ.length=c.σ.length->Q b.σ b.H)->P4 is vs c.σ c.H Q
 |[],[],vs,c,Post,Q,ok,n,hi,a,w,q=>by
  rw[show sets [] (Yj (λu=>(k,u)) [])=pure () from rfl,ao]at w;show#[a,q c w ok n (λ_ _=>rfl) rfl]
 |[],u::us,vs,c,Post,Q,ok,n,hi,a,w,q=>(ba.mp w).elim
 |i::is,[],vs,c,Post,Q,ok,n,hi,a,w,q=>(ba.mp w).elim
 |i::is,u::us,vs,c,Post,Q,ok,n,hi,a,w,q=>by
  rw[show sets (i::is) (Yj (λu=>(k,u)) (u::us))=cQ i (k,u) >>= λ_=>sets is (us.map λu=>(k,u)) from rfl,ai]at w;have(v,r,rfl,h,h2):=a;have l:k=.own\/k=.loc\/k=.any:=by cases k<;>simp[kE]at hk<;>simp
  have A:k≠.own:=by cases k<;>simp[kE]at hk<;>simp
  have rt:aK C f c k u v:=by rw[<-hk];show aK.item h
  have(m,o):=ok.put n (hi i (by simp)) l g rt;have es:cQ i (k,u)=λst=>b6 (.ok (),st.set i (b6 (k,u))):=by cases k<;>simp[kE]at hk<;>rfl
  have(_,st',e,s):=w;rw[es]at e;cases e;show#[v,r,rfl,sM (c:={c with σ:=c.σ.set i (b6 v),st:=c.st.set i (b6 (k,u))}) hk g m o (λj d=>by simpa using hi j (by simp[d])) (by cases k<;>show h2) s λb p t x y hl=>?_];show q b p t x (λj d=>?_) (by rw[hl];simp);rw[y j (λz=>d (by simp[z])),nT (λz=>d (by simp[z]))]
def Dm(g:X.calm=cb)(j:C.K=X.K)(m:X.N.Nodup)(h:eG X es is)(hl:∀i∈is,i<X.N.length):PG X (.Tuple es kk pos) (tG C cb is):=by
 rintro a s σ H v u Q I o ⟨T,c,r,rfl,rfl,q,ok,n,d,w⟩;have(t,y):=qV h;show AI g (uE m h) t y a s c.σ c.H v u Q I o ?_;have(k,z):=r;cases z with
 |tup us =>
  rw[show dQ cb is (k,.tup us)=sets is (us.map λu=>(kE k,u)) from by cases is<;>rfl]at w;have(A,vs,rfl,f,h2):=d.tuple ok;rw[j]at f;have b:us.length=is.length:=by
   have e:∀(is:List Nat) (l:List (Kd×U)) (st:aw) (P:Unit->aw->Prop),W (sets is l) st P->l.length=is.length:=by
    intro is;induction is with
    |nil=>intro l st P w;cases l with
     |nil=>rfl
     |cons _ _=>show(ba.mp w).elim
    |cons i is B=>intro l st P w;cases l with
     |nil=>show(ba.mp w).elim
     |cons x l =>
      rw[show sets (i::is) (x::l)=cQ i x >>= λ_=>sets is l from rfl,ai]at w;have(_,_,_,w):=w;rw[ti,ti,B l _ _ w]
   simpa using e _ _ _ _ w
  show#[A,vs,rfl,f,by rw[<-h2.len,b],?_];show sM (k:=kE k) (by cases k<;>rfl) q ok n (λi hi=>by rw[I.len];show hl i hi) (by cases k<;>show h2) w λD p G J L O=>p D rfl G J L O
 |_=>cases is<;>show(ba.mp w).elim
end
section
variable{X:Cx}{C:Ct}{pins:List (i6×Obj)}{s:hW}{c0 c c1:Cf}
variable{a b d e o tg iter elt:tr}{es ifs:List tr}{m ma mb md me:M (Kd×U)}{ms:M (List (Kd×U))}{ta tb tc:M Bool}{pos p p2 apos Ff:Pos}
def uF{m:M α}{st:aw}{Q:α->aw->Prop}:W (inScope k m) st Q↔W m (pe k b7++st) λa st'=>Q a (st'.drop k):=by
 constructor
 .rintro⟨a,st',e,h⟩;unfold inScope at e;cases q:m (pe k b7++st) with
  |none=>rw[q]at e;cases e
  |some r=>have(g,f):=r;rw[q]at e;cases e;show#[a,f,q,h]
 .rintro⟨a,st',e,h⟩;show#[a,st'.drop k,by unfold inScope;rw[e],h]
abbrev Cf.ext(k:Nat)(c:Cf):Cf:={c with σ:=pe k b7++c.σ,st:=pe k b7++c.st,kid:=λj=>c.kid (j - k)}
abbrev Cf.cut(k:Nat)(c:Cf):Cf:={c with σ:=c.σ.drop k,st:=c.st.drop k,kid:=λj=>c.kid (k+j)}
def fZ(h:(pe k b7++l)[j]?=b6 (b6 x)):∃i,j=k+i/\l[i]?=b6 (b6 x):=by
 by_cases f:j<k
 .rw[C0 (by simpa using f)]at h;rw[Kf]at h;rw[Zx f]at h;cases h
 .show#[j - k,⋯,?_];rw[vr (by simp;lia)]at h;simpa using h
def eI:(pe k b7++l)[k+i]?=l[i]?:=by
 rw[vr (by simp)];simp
def wB:(c.ext k).R1 r↔c.R1 r:=by
 constructor
 .rintro⟨j,g,u,h,h2,f⟩;have(i,rfl,e):=fZ h2;rw[Cf.ext,eI]at f;show#[i,g,u,h,e,f]
 .rintro⟨i,g,u,h,h2,f⟩;show#[k+i,g,u,h,by rw[Cf.ext,eI];show h2,by rw[Cf.ext,eI];show f]
def nR{a:i6}(h:(c.ext k).RD j a):∃i,j=k+i/\c.RD i a:=by
 have(u,r,l,f,g):=h;have(i,rfl,e):=fZ l;rw[Cf.ext,eI]at f;show#[i,rfl,u,r,e,f,?_];have:(c.ext k).kid (k+i)=c.kid i:=by change c.kid (k+i - k)=_;rw[Ol]
 rw[this]at g;show g
def Dn(h:(c.ext k).R r):c.R r:=by
 rcases h with h|⟨j,h⟩
 .show .inl (wB.mp h)
 .have(i,_,h):=nR h;show .inr #[i,h]
def Ok.ext(k:Nat)(ok:Ok C c):Ok C (c.ext k)/\Nx c (c.ext k):=by
 show#[#[ok.same,ok.HV,ok.par,ok.io,by simp[Cf.ext,ok.len],λj z u e=>?_,λi j k1 k2 u u' r A h2 g f x y=>?_,#[λj u r g f=>?_,λi j a l n=>?_,λj a l n=>?_]],#[#[λ_ _ h _=>h,λ_ o h=>#[o,h],λa h=>.inl (Dn h),λ_ h=>h,λ_ h=>.inl h]]]
 .have(i,rfl,B):=fZ e;have(v,g,f):=ok.sl i z u B;show#[v,by rw[Cf.ext,eI];show g,f]
 .have(q,rfl,D):=fZ g;have(t,rfl,G):=fZ f;rw[Cf.ext,eI]at x y;rw[ok.inj q t k1 k2 u u' r A h2 D G x y]
 .have(i,rfl,e):=fZ g;rw[Cf.ext,eI]at f;have:(c.ext k).kid (k+i)=c.kid i:=by change c.kid (k+i - k)=_;rw[Ol]
  rw[this];show ok.dd.kd i u r e f
 .have(q,rfl,w):=nR l;have(t,rfl,H):=nR n;rw[ok.dd.dj q t a w H]
 .have(i,rfl,w):=nR l;show ok.dd.d1 i a w (wB.mp n)
def wC{a:i6}(h:(c.cut k).R1 a):c.R1 a:=by
 have(j,g,u,i,h2,f):=h;rw[Cf.cut,G2]at h2 f;show#[k+j,g,u,i,h2,f]
def nS{a:i6}(h:(c.cut k).RD j a):c.RD (k+j) a:=by
 have(u,r,f,h2,g):=h;rw[Cf.cut,G2]at f h2;show#[u,r,f,h2,g]
def Ok.cut(k:Nat)(ok:Ok C c):Ok C (c.cut k)/\Nx c (c.cut k):=by
 show#[#[ok.same,ok.HV,ok.par,ok.io,by simp[Cf.cut,ok.len],λj w u e=>?_,λi j k1 k2 u u' r x h2 f g q t=>?_,#[λj u r f g=>?_,λi j a l n=>?_,λj a l n=>ok.dd.d1 _ a (nS l) (wC n)]],#[#[λ_ _ h _=>h,λ_ o h=>#[o,h],λa h=>.inl (h.elim (λz=>.inl (wC z)) λ⟨j,z⟩=>.inr #[k+j,nS z]),λ_ h=>h,λ_ h=>.inl h]]]
 .rw[Cf.cut,G2]at e;have(v,f,g):=ok.sl _ w u e;show#[v,by rw[Cf.cut,G2];show f,g]
 .rw[Cf.cut,G2]at f g q t;have:=ok.inj _ _ k1 k2 u u' r x h2 f g q t;lia
 .rw[Cf.cut,G2]at f g;show ok.dd.kd _ u r f g
 .have:=ok.dd.dj _ _ a (nS l) (nS n);lia
def zk(h:∀j,j∉lg k->g[j]?=(pe k b7++σ)[j]?)(hl:g.length=(pe k (b7:Option V)++σ).length):∃f:L2.St,f.length=k/\g=f++σ:=by
 show#[g.take k,by rw[sd,hl];simp,?_];apply List.ext_getElem?;intro j;by_cases i:j<k
 .rw[C0 (by rw[sd,hl];simp;lia),Of,Zx i]
 .rw[h j (by simpa using i),vr (by simp;lia),vr (by rw[sd,hl];simp;lia)];congr 1
  rw[sd,hl];simp
def uG(e1:c1.σ=c0.σ)(Fy:Ok C c1)(n1:Nx c0 c1)(hw:Walk C c1 rs xs J)(h3:W (bV k t tc me rs xs []) c1.st λus st'=>W (pure (Kd.own,U.lst us)) st' (cn C c0 Q)):
  sf k J (tG C t (lg k)) (GK C tc) (Fs C me) Q c0.σ c1.H:=by
 show#[λi m ys H=>∃c acc,c.H=H/\c.σ=c0.σ/\Ok C c/\Nx c1 c/\m=xs.length - i/\i<=xs.length/\aq C c.S c.H acc ys/\acc.length<=eF/\W (bV k t tc me rs (xs.drop i) acc) c.st λus st'=>W (pure (Kd.own,U.lst us)) st' (cn C c0 Q),#[xs.length,c1,[],rfl,e1,Fy,Nx.refl c1,by simp,qq _,rfl,qq _,by simpa using h3],?_];rintro i m ys H ⟨c,acc,rfl,D,q,y,rfl,hi,g,h,w⟩;show#[by rw[<-g.len];show h,?_];have f:l7 rs c1 c:=λj u _=>by rw[D,e1]
 by_cases G:i<xs.length
 .right
  rw[IS G]at w;rw[show bV k t tc me rs (xs[i]::xs.drop (i+1)) acc=au rs >>= λ_=>inScope k (dQ t (lg k) xs[i] >>= λ_=>tc >>= λb=>if b=cb then(me >>= λr=>lift r >>= λu=>pure (b6 u)) else pure b7) >>= λr=>match r with|some u=>if acc.length<eF then bV k t tc me rs (xs.drop (i+1)) (acc++[u]) else M.fail|none=>bV k t tc me rs (xs.drop (i+1)) acc from rfl,ai,bJ]at w;have(Jv,w):=w;have(I,_):=hw c q y f Jv;have(Ko,P5,P6):=I i xs[i] (by simp[G]);show#[P5,λJI H'=>∃c acc,c.H=H'/\c.σ=c0.σ/\Ok C c/\Nx c1 c/\aq C c.S c.H acc JI/\acc.length<=eF/\W (bV k t tc me rs (xs.drop (i+1)) acc) c.st λus st'=>W (pure (Kd.own,U.lst us)) st' (cn C c0 Q),λJI H' ⟨c',G0,z1,z2,z3,z4,z5,z6,z7⟩=>#[xs.length - (i+1),⋯,c',G0,z1,z2,z3,z4,rfl,G,z5,z6,z7],λx H' hy=>?_];have(l,rfl,e4,e5,FQ,n2,rt):=P6 x H' hy;rw[ai,uF,ai]at w;have(N2,nx):=FQ.ext k;have T_:aK C (l.ext k) (l.ext k) xs[i].1 xs[i].2 x:=by
   rcases Ko with z|z
   .rw[z]at rt ⊢;show rt
   .rw[z]at rt ⊢;show rt
  have eσ:(l.ext k).σ=pe k b7++c0.σ:=by rw[Cf.ext];change pe k b7++l.σ=_;rw[e4,D]
  show#[l.ext k,l.ext k,xs[i],eσ,rfl,N2,N2,Nx.refl _,T_,?_];have Px:(l.ext k).st=pe k b7++c.st:=by rw[Cf.ext];change pe k b7++l.st=_;rw[e5]
  rw[Px];show w.mono λ_ st3 w3 c3 e6 IF n3 M9 KA=>?_;subst e6;rw[eσ]at M9 KA;have(L,N,O):=zk M9 KA;show#[L,N,O,?_];have Rz:Nx c c3:=(n2.trans nx).trans n3;rw[ai]at w3;show#[c3,rfl,rfl,IF,w3.mono λb LR n B e7 e8 T n4=>?_];subst e8;cases b with
  |false =>
   rw[Zy o6]at n ⊢;rw[ao]at n;have(Y,nk):=T.cut k;have nn:Nx c (B.cut k):=(Rz.trans n4).trans nk;show#[B.cut k,acc,rfl,?_,Y,y.trans nn,g.mv (q.mv nn),h,n];change B.σ.drop k=_;rw[e7,O,U7 N]
  |true =>
   rw[Zx rfl]at n ⊢;rw[ai]at n;show#[B,e7,rfl,T,n.mono λr Kk w5 c5 v e9 Ua Ub n5 Uc=>?_];subst Ua;rw[ai]at w5;have(S',st',u,sS,Ud,n6,P8,A,_,_):=nP T Ub n5 Uc.w w5;rw[ao]at A
   dsimp only at A
   split at A
   .rename_i hz;have(Y,nk):=Ud.cut k;have nn:Nx c (Cf.cut k {c5 with S:=S',st:=st' }):=((Rz.trans n4).trans n6).trans nk;show#[Cf.cut k {c5 with S:=S',st:=st' },acc++[u],rfl,?_,Y,y.trans nn,(g.mv (q.mv nn)).snoc P8,by rw[oT];show hz,A];change c5.σ.drop k=_;rw[e9,O,U7 N]
   .show(ba.mp A).elim
 .left
  have HP:i=xs.length:=by lia
  subst HP;rw[QD,show bV k t tc me rs [] acc=au rs >>= λ_=>pure acc from rfl,ai,bJ,ao,ao]at w;have(_,I):=hw c q y f w.1;show#[I _ (g0 _),λp hp=>cn.list w.2 D q (n1.trans y) g p hp]
def l8(ok:Ok C c0)
  (h:W (ms >>= λrs=>au rs >>= λ_=>M.FK (Ij ik rs) >>= λxs=>bV k t tc me rs xs [] >>= λus=>pure (Kd.own,U.lst us)) c0.st (cn C c0 Q)) :
  vG k (JN C ik ms) (tG C t (lg k)) (GK C tc) (Fs C me) c0.σ c0.H Q:=by
 rw[ai]at h;show#[c0,rfl,rfl,ok,?_];rw[ai];show h.mono λrs st1 f=>?_;rw[ai,bJ]at f ⊢;show#[f.1,?_];have h2:=f.2;rw[ai]at h2 ⊢;show h2.mono λxs st2 g=>?_;rw[ao];intro c1 J j l n q r i;rw[ai]at g;subst l
 dsimp only at r i
 show uG j n q i g
def wD(S:cy X N own scope)(f:X.calm=cb)(hi:PI X tg iter (JN C ik ms))
  (g:∀D s H ex,PG (Gh X N scope D s H ex) tg (tG C t (lg own.length))) (i:∀D s H ex,JV (Gh X N scope D s H ex) ifs (GK C tc)) (j:∀D s H ex,PE (Gh X N scope D s H ex) elt (Fs C me))
  (hs:∀x,LK iter X.env x=pure x) :
  PE X (.ListComp elt [⟨tg,iter,ifs,0⟩] scope pos) (Fs C (ms >>= λrs=>au rs >>= λ_=>M.FK (Ij ik rs) >>= λxs=>bV own.length t tc me rs xs [] >>= λus=>pure (.own,.lst us))):=by
 show PE.weak (yx S f hi g i j hs) ?_;rintro σ H Q ⟨c0,rfl,rfl,ok,h⟩;show l8 ok h
end
section
variable{a b d e o tg iter elt:tr}{es ifs:List tr}{m ma mb md me:M (Kd×U)}{ms:M (List (Kd×U))}{ta tb tc:M Bool}{pos p p2 apos Ff:Pos}{st:Ll}{rest body:List Ll}{f g mm:M Fl}{ns LZ:Nat->Bool}
def BF(C:Ct)(c:Cf):Kd->U->V->Prop
 |.own,u,v=>∃r,v=.ref r/\C.H₀ r=b7/\¬c.S r/\¬c.R r/\cW C c.S c.H r u
 |.loc,u,v=>Rep C c.S c.H u v
 |.any,u,v=>Rep C (PS C c.S) c.H u v
 |_,_,_=>False
def E3(C:Ct)(Q:VK)(c:Cf):Kd->U->Prop
 |.io,u=>C.xw u c.H
 |k,u=>∀v,BF C c k u v->Q v c.H
abbrev Fin(C:Ct)(D:Ends)(f:Fl)(c:Cf):Prop:=match f with
 |.nx=>D.nx c.σ c.H
 |.bk=>D.bk c.σ c.H
 |.ct=>D.ct c.σ c.H
 |.rt k u=>E3 C D.rt c k u
abbrev Kept(ns:Nat->Bool)(c h:Cf):Prop:=(∀j,ns j=cb->h.σ[j]?=c.σ[j]?)/\h.σ.length=c.σ.length
def Kept.refl:Kept ns c c:=#[λ_ _=>rfl,rfl]
def Kept.trans(h:Kept ns c i)(h':Kept ns i k):Kept ns c k:=#[λj z=>(h'.1 j z).trans (h.1 j z),h'.2.trans h.2]
def Kept.le(i:∀j,LZ j=cb->ns j=cb)(h:Kept ns c k):Kept LZ c k:=#[λj z=>h.1 j (i j z),h.2]
def Kept.of(h:i.σ=c.σ):Kept ns c i:=#[λj z=>by rw[h],by rw[h]]
abbrev fD(C:Ct)(h:Cf)(ns:Nat->Bool)(D:Ends)(f:Fl)(st':aw):Prop:=∀c,c.st=st'->Ok C c->Ns h c->Kept ns h c->Fin C D f c
abbrev F5(C:Ct)(ns:Nat->Bool)(m:M Fl):TS:=λD σ H=>∃c:Cf,c.σ=σ/\c.H=H/\Ok C c/\W m c.st (fD C c ns D)
def qW(ok:Ok C c)(n:Ns i c)(k:Kept ns i c)(h:W mm c.st (fD C i ns D)):F5 C ns mm D c.σ c.H :=
 #[c,rfl,rfl,ok,h.mono λf st h2 j e l q k2=>h2 j e l (n.trans q) (k.trans k2)]
def PS.weak(h:L2.PS X st t)(i:∀D σ H,t' D σ H->t D σ H):L2.PS X st t':=λc s σ H D I q=>h c s σ H D I (i D σ H q)
def Gr.weak(h:Gr X rest t)(i:∀D σ H,t' D σ H->t D σ H):Gr X rest t':=λc s σ H D I q=>h c s σ H D I (i D σ H q)
def nU(i:∀j,LZ j=cb->ns j=cb)(h:F5 C LZ mm D σ H):F5 C ns mm D σ H :=
 let ⟨c,k,l,ok,w⟩:=h;⟨c,k,l,ok,w.mono λf st h2 n e q r k2=>h2 n e q r (k2.le i)⟩
def Dp:Gr X [] (F5 C ns (pure .nx)):=by
 show Gr.weak rV ?_;rintro D σ H ⟨c,rfl,rfl,ok,h⟩;rw[ao]at h;show h c rfl ok (Ns.refl c) Kept.refl
abbrev zl(m:M Fl)(f:Fl):M Fl:=match f with
 |.nx=>m
 |f=>pure f
def BG(l:L2.PS X st (F5 C ns f))(h2:Gr X rest (F5 C ns g)):Gr X (st::rest) (F5 C ns (f >>= zl g)):=by
 show Gr.weak (jY l h2) ?_;rintro D σ H ⟨n,rfl,rfl,ok,h⟩;rw[ai]at h;show#[n,rfl,rfl,ok,h.mono λq st1 w j e c i k1=>?_];subst e;cases q with
 |nx=>show qW c i k1 w
 |bk=>rw[show zl g .bk=pure .bk from rfl,ao]at w;show w j rfl c i k1
 |ct=>rw[show zl g .ct=pure .ct from rfl,ao]at w;show w j rfl c i k1
 |rt k u=>rw[show zl g (.rt k u)=pure (.rt k u) from rfl,ao]at w;show w j rfl c i k1
def Dq:L2.PS X (.Break pos) (F5 C ns (pure .bk)):=by
 show PS.weak vf ?_;rintro D σ H ⟨c,rfl,rfl,ok,h⟩;rw[ao]at h;show h c rfl ok (Ns.refl c) Kept.refl
def Dr:L2.PS X (.Continue pos) (F5 C ns (pure .ct)):=by
 show PS.weak oD ?_;rintro D σ H ⟨c,rfl,rfl,ok,h⟩;rw[ao]at h;show h c rfl ok (Ns.refl c) Kept.refl
def Dt:L2.PS X (.Pass pos) (F5 C ns (pure .nx)):=by
 show PS.weak yf ?_;rintro D σ H ⟨c,rfl,rfl,ok,h⟩;rw[ao]at h;show h c rfl ok (Ns.refl c) Kept.refl
def Du(i:PE X a (Fs C ma))(hs:OI a b7 pos.line X.env=pure dV):L2.PS X (.Expr a pos) (F5 C ns (ma >>= λ_=>pure .nx)):=by
 show PS.weak (mP i hs) ?_;rintro D σ H ⟨j,rfl,rfl,ok,h⟩;show bf ok h λx c v t w=>?_;rw[ao]at w;have:=w c rfl t.ok t.nx (Kept.of t.hσ);rw[<-t.hσ];show this
def BH:L2.PS X (.Return b7 pos) (F5 C ns (pure (.rt .loc .Fg))):=by
 show PS.weak yg ?_;rintro D σ H ⟨c,rfl,rfl,ok,h⟩;rw[ao]at h;show h c rfl ok (Ns.refl c) Kept.refl .Fg rfl
def wF(ok:Ok C L)(t:Il C L c x v)(w:W (retS x) c.st (fD C L ns D)):D.rt v c.H:=by
 have(k,u):=x;have(G,l,n,r):=t;cases k with
 |own =>
  rw[show retS (.own,u)=pure (.rt .own u) from rfl,ao]at w;have(B,e,h1,h2,h3,h4):=r;show w c rfl l n (Kept.of G) v #[B,e,(ok.qP h1).1,h2,h3,h4]
 |loc =>
  rw[show retS (.loc,u)=pure (.rt .loc u) from rfl,ao]at w;show w c rfl l n (Kept.of G) v r
 |any =>
  rw[show retS (.any,u)=if FJ u=cb then pure (.rt .loc u) else pure (.rt .any u) from rfl]at w;split at w
  .rw[ao]at w;show w c rfl l n (Kept.of G) v (Rep.FJ (by assumption) r)
  .rw[ao]at w;show w c rfl l n (Kept.of G) v r
 |bor j =>
  have(fl,st',e,w):=w;rw[show retS (.bor j,u) c.st=match c.st[j]? with|some (b6 (.own,u))=>b6 (Ex.ok (Fl.rt .own u),c.st.set j b7)|_=>b7 from rfl]at e;split at e
  .rename_i u' J;cases e;have Hx:j<c.st.length:=(mN.mp J).1;have A:∀(i:Nat) k u',(c.st.set j b7)[i]?=b6 (b6 (k,u'))->i≠j/\c.st[i]?=b6 (b6 (k,u')):=λi k u' e=>by
    by_cases N:i=j
    .subst N;rw[nC Hx]at e;cases e
    .rw[nT (GR N)]at e;show#[N,e]
   have(v',s,B,er,q1,q2,q3,q4):=l.sl j _ _ J;have O:c.σ[j]?=b6 (b6 v):=r.2;rw[O]at s;cases s;subst er;have T:∀a,({c with st:=c.st.set j b7}:Cf).R1 a->c.R1 a:=λa ⟨i,k,h,hk,s,y⟩=>#[i,k,h,hk,(A i k h s).2,y]
   have hR:∀a,({c with st:=c.st.set j b7}:Cf).R a->c.R a:=λa z=>z.elim (λz=>.inl (T a z)) λ⟨i,h,Q,s,y,I⟩=>.inr #[i,h,Q,(A i .Fo h s).2,y,I];have J':ID C {c with st:=c.st.set j b7}:=l.dd.of rfl (λi h e=>#[(A i .Fo h e).2,rfl]) (λa z=>.inl (T a z)) (.up λ_ z=>z) λi a z=>#[(l.root (.inr #[i,z])).1,λo q=>q]
   have Ue:Ok C {c with st:=c.st.set j b7}:=#[l.same,l.HV,l.par,l.io,by simp[l.len],λi k h e=>l.sl i k h (A i k h e).2,λi Y k k' u1 h r hk FI s y I e4=>l.inj i Y k k' u1 h r hk FI (A i k u1 s).2 (A Y k' h y).2 I e4,J']
   have nn:Ns L {c with st:=c.st.set j b7}:=#[n.keep,n.there,λa z=>n.roots a (hR a z),n.sub,n.new]
   show w {c with st:=c.st.set j b7} rfl Ue nn (Kept.of G) (.ref B) ⟨B,rfl,q3,q1,λz=>?_,q4⟩
   .rcases z with⟨i,k,h,hk,s,y⟩|⟨i,h,Q,s,y,I⟩
    .have(ne,Kb):=A i k h s;show ne (l.inj i j k .own h _ B hk rfl Kb J y O)
    .show l.dd.d1 i B #[h,Q,(A i .Fo h s).2,y,I] #[j,.own,_,rfl,J,O]
  .cases e
 |_=>show r.elim
def Dv(i:PE X a (Fs C ma)):L2.PS X (.Return (b6 a) pos) (F5 C ns (ma >>= retS)):=by
 show PS.weak (AH i) ?_;rintro D σ H ⟨j,rfl,rfl,ok,h⟩;show bf ok h λx c v t w=>wF ok t w
end
section
def iG(f:∀j,ns j=cb->j≠i)(g:Ok C a)(t:Il C a c r v)(hi:i<c.σ.length)(w:W (cQ i r >>= λ_=>(pure .nx:M Fl)) c.st (fD C a ns D)):D.nx (a.σ.set i (b6 v)) c.H:=by
 rw[ai]at w;have(b,d,h,k,l,q):=jR (r:=r) g t.ok t.nx hi t.rx w;rw[ao]at q;have z:=q b rfl k l #[λj m=>by rw[d,t.hσ,nT (GR (f j m))],by rw[d,t.hσ];simp];have e:D.nx b.σ b.H:=z;rw[d,h,t.hσ]at e;show e
def zX(e:∀j,ns j=cb->j≠i)(f:X.N.Nodup)(hi:X.N[i]?=b6 x)(g:Loc X.env.scope x)(k:X.fn x=cb\/X.env.scope.names.lookup x=b6 .local)(l:PE X a (Fs C m))
  (hs:OI a (b6 (.Name x pos')) pos.line X.env=pure dV):L2.PS X (.Assign [.Name x pos'] a pos) (F5 C ns (m >>= λr=>cQ i r >>= λ_=>pure .nx)):=by
 rintro b s σ H D I ⟨d,rfl,rfl,ok,h⟩;have n:i<d.σ.length:=by rw[I.len];show(mN.mp hi).1
 show qo f hi g l hs k b s d.σ d.H D I (bf ok h λr c v t w=>iG e ok t (by rw[t.hσ];show n) w)
def BI(l:∀j,ns j=cb->j≠i)(S:cy X N own scope)(m:X.calm=cb)(o:X.N.Nodup)(g:X.N[i]?=b6 y)(p:X.env.scope.names.lookup y=b6 .local)
  (hi:PI X e a (JN C ik ms)) (q:∀D s H ex,PG (Gh X N scope D s H ex) e (tG C t (lg own.length))) (u:∀D s H ex,JV (Gh X N scope D s H ex) b (GK C z)) (A:∀D s H ex,PE (Gh X N scope D s H ex) elt (Fs C B))
  (G:OI (.ListComp elt [⟨e,a,b,0⟩] scope pos) (b6 (.Name y J)) L.line X.env=pure cb) (hs:∀x,LK a X.env x=pure x) :
  L2.PS X (.Assign [.Name y J] (.ListComp elt [⟨e,a,b,0⟩] scope pos) L)
   (F5 C ns ((ms >>= λrs=>au rs >>= λ_=>M.FK (Ij ik rs) >>= λxs=>bV own.length t z B rs xs [] >>= λus=>pure (.own,.lst us)) >>= λr=>cQ i r >>= λ_=>pure .nx)):=by
 rintro d s σ H D I ⟨f,rfl,rfl,ok,h⟩;have O:i<f.σ.length:=by rw[I.len];show(mN.mp g).1
 show yy S m o g p hi q u A G hs d s f.σ f.H D I ?_;rw[ai]at h;show l8 ok (h.mono λr st1 w c v k Q T n rt=>?_);subst Q;show iG l ok #[k,T,n,rt] (by rw[k];show O) w
def BJ(f:∀j,ns j=cb->j∉is)(g:PE X a (Fs C i))(k:PG X b (tG C cb is))(hs:Rf [b] a pos.line X.env=pure dV)(l:W_ [b] a X.env=pure b7)(m:(OE [b] X.env).map (·.2)=[Rg b X.env]):
  L2.PS X (.Assign [b] a pos) (F5 C ns (i >>= λr=>dQ cb is r >>= λ_=>pure .nx)):=by
 show PS.weak (vh g k hs l m) ?_;rintro D σ H ⟨n,rfl,rfl,ok,h⟩;show bf ok h λr c v t w=>?_;rw[ai]at w;show#[n,c,r,t.hσ,rfl,ok,t.ok,t.nx,t.rx,w.mono λ_ st1 d o e p q s hl=>?_];subst e;rw[ao]at d;show d o rfl p q #[λj u=>by rw[s j (f j u),t.hσ],by rw[hl,t.hσ]]
def Dw(i:PT X a (GK C j))(k:Gr X ca (F5 C ns f))(h2:Gr X l (F5 C ns g)):L2.PS X (.If a ca l pos) (F5 C ns (j >>= λp=>if p=cb then f else g)):=by
 show PS.weak (CI i k h2) ?_;rintro D σ H ⟨m,rfl,rfl,ok,h⟩;show fB ok h λp c b d n w=>?_;have e:m.σ=c.σ:=b.symm;rw[e];cases p with
 |true=>rw[Zx rfl]at w ⊢;show qW d n (Kept.of b) w
 |false=>rw[Zy o6]at w ⊢;show qW d n (Kept.of b) w
def Dx(L:Wl (j0 X.prog X.w) X.A X.env X.xe)(N:PT X a (GK C g))(O:Gr X body (F5 C ns f)):L2.PS X (.While a body [] pos) (F5 C ns (nM g f n)):=by
 show PS.weak (vi L N O) ?_;rintro D σ H ⟨d,rfl,rfl,ok,h⟩;show#[λm t H'=>∃c,c.H=H'/\c.σ=t/\Ok C c/\Ns d c/\Kept ns d c/\W (nM g f m) c.st (fD C d ns D),#[n,d,rfl,rfl,ok,Ns.refl d,Kept.refl,h],?_];rintro m t H' ⟨c,rfl,rfl,Q,v,x,w⟩;cases m with
 |zero=>show(ba.mp w).elim
 |succ m =>
  rw[show nM g f (m+1)=g >>= λb=>if b=cb then(f >>= λf'=>match f' with|.nx=>nM g f m|.ct=>nM g f m|.bk=>pure .nx|.rt k u=>pure (.rt k u)) else pure .nx from rfl]at w;show fB Q w λp l y B G i=>?_;have k2:Kept ns c l:=Kept.of y;rw[<-y];cases p with
  |false =>
   rw[Zy o6]at i ⊢;rw[ao]at i;show i l rfl B (v.trans G) (x.trans k2)
  |true =>
   rw[Zx rfl]at i ⊢;show#[λI J=>∃c,c.H=J/\c.σ=I/\Ok C c/\Ns d c/\Kept ns d c/\W (nM g f m) c.st (fD C d ns D),λI J z=>#[m,NJ m,z],?_];rw[ai]at i;show#[l,rfl,rfl,B,i.mono λT st3 j o e q Y k3=>?_];subst e;have r:=(v.trans G).trans Y;have s:=(x.trans k2).trans k3;cases T with
   |nx=>show#[o,rfl,rfl,q,r,s,j]
   |ct=>show#[o,rfl,rfl,q,r,s,j]
   |_=>rw[ao]at j;show j o rfl q r s
def Dy(hp:Wl (j0 X.prog X.w) X.A X.env X.xe)(hc:X.calm=cb)(hi:PI X tg a (JN C ik ms))(hg:PG X tg (tG C t is))(hb:Gr X body (F5 C (Ha s) f))(hs:∀x,LK a X.env x=pure x)
  (Gg:∀j,ns j=cb->j∉is/\Ha s j=cb) :
  L2.PS X (.For tg a body [] pos) (F5 C ns (ms >>= λrs=>au rs >>= λ_=>M.FK (Ij ik rs) >>= λxs=>if sF rs is s=cb then forM t is f rs xs else M.fail)):=by
 show PS.weak (AO hp hc hi hg hb hs) ?_;rintro D σ H ⟨d,rfl,rfl,ok,h⟩;rw[ai]at h;show#[d,rfl,rfl,ok,?_];rw[ai];show h.mono λrs st1 v=>?_;rw[ai,bJ]at v ⊢;show#[v.1,?_];have h2:=v.2;rw[ai]at h2 ⊢;show h2.mono λxs st2 y=>?_;rw[ao];intro b J e1 e2 Fy n1 Fm B;subst e2
 dsimp only at Fm B
 split at y
 .rename_i Lq;have Qa:∀j u,(Kd.bor j,u)∈rs->j∉is/\Ha s j=cb:=λj u o=>by
   have:=ux.mp Lq _ o;simpa using this
  show#[λi m l H'=>∃c,c.H=H'/\c.σ=l/\Ok C c/\Ns b c/\Kept ns d c/\l7 rs b c/\m=xs.length - i/\i<=xs.length/\W (forM t is f rs (xs.drop i)) c.st (fD C d ns D),
   #[xs.length,b,rfl,e1,Fy,Ns.refl b,Kept.of e1,λ_ _ _=>rfl,by simp,qq _,by simpa using y],?_]
  rintro i m l H' ⟨c,rfl,rfl,G,p,kc,I,rfl,HP,w⟩;by_cases L:i<xs.length
  .right
   rw[IS L,show forM t is f rs (xs[i]::xs.drop (i+1))=au rs >>= λ_=>dQ t is xs[i] >>= λ_=>f >>= λf'=>match f' with|.nx=>forM t is f rs (xs.drop (i+1))|.ct=>forM t is f rs (xs.drop (i+1))|.bk=>pure .nx|.rt k u=>pure (.rt k u) from rfl,ai,bJ]at w;have(Jv,w):=w;have(N,_):=B c G p I Jv;have(Ko,P5,P6):=N i xs[i] (by simp[L]);show#[P5,λl H'=>∃c,c.H=H'/\c.σ=l/\Ok C c/\Ns b c/\Kept ns d c/\l7 rs b c/\W (forM t is f rs (xs.drop (i+1))) c.st (fD C d ns D),λl H' ⟨c',z1,z2,z3,z4,z5,z6,z7⟩=>#[xs.length - (i+1),⋯,c',z1,z2,z3,z4,z5,z6,rfl,L,z7],λx H' hy=>?_];have(n,rfl,q,e5,FQ,n2,rt):=P6 x H' hy;rw[ai]at w;have Ug:aK C n n xs[i].1 xs[i].2 x:=by
    rcases Ko with z|z
    .rw[z]at rt ⊢;show rt
    .rw[z]at rt ⊢;show rt
   show#[n,n,xs[i],q,rfl,FQ,FQ,Nx.refl n,Ug,?_];rw[e5];show w.mono λ_ st3 w3 c3 e6 IF n3 RC KA=>?_;subst e6;rw[ai]at w3;show#[c3,rfl,rfl,IF,w3.mono λfl LR r g e O n4 Q=>?_];subst e;have T:Ns b g:=((p.trans n2.toNs).trans n3.toNs).trans n4;have Y:Kept ns d g:=by
    show kc.trans #[λj hj=>?_,by rw[Q.2,KA,q]];have(j1,j2):=Gg j hj;rw[Q.1 j j2,RC j j1,q]
   have RF:l7 rs b g:=λj u o=>by
    have(j1,j2):=Qa j u o;rw[Q.1 j j2,RC j j1,q];show I j u o
   cases fl with
   |nx=>show#[g,rfl,rfl,O,T,Y,RF,r]
   |ct=>show#[g,rfl,rfl,O,T,Y,RF,r]
   |_=>rw[ao]at r;show r g rfl O (n1.toNs.trans T) Y
  .left
   have NK:i=xs.length:=by lia
   subst NK;rw[QD,show forM t is f rs []=au rs >>= λ_=>pure .nx from rfl,ai,bJ,ao]at w;have(_,N):=B c G p I w.1;show#[N _ (g0 _),w.2 c rfl G (n1.toNs.trans p) kc]
 .show(ba.mp y).elim
end
section
def Ok.mod(ok:Ok C c)(n:Ns c0 c)(hk:k.root=cb)(hi:c.st[i]?=b6 (b6 (k,u)))(A:c.σ[i]?=b6 (b6 (.ref r)))(FZ:∀a,a≠r->H' a=c.H a)(T:∃o,H' r=b6 o)
  (new:Mv c.S c.H c.S H'->cW C c.S H' r u'):Ok C {c with H:=H',st:=c.st.set i (b6 (k,u'))}/\Ns c0 {c with H:=H',st:=c.st.set i (b6 (k,u'))}:=by
 have Y:c.R1 r:=#[i,k,u,hk,hi,A]
 have hR:c.R r:=.inl Y;have(D,q2,q3,o,ho,Uh):=ok.root hR;have G:i<c.st.length:=(mN.mp hi).1;have m:∀{a:i6} {b:HO},a≠r->c.H a=b6 b->H' a=b6 b:=λne e=>by rw[FZ _ ne];show e
 have B:Mv c.S c.H c.S H':=#[λ_ z=>z,λa b e t=>m (λz=>by subst z;rw[ho]at e;cases e;show Uh t) e,λa b z e=>m (λd=>D (d▸z)) e]
 have L4:Mv (PS C c.S) c.H (PS C c.S) H':=#[λ_ z=>z,B.NP,λa b z e=>m (λd=>by subst d;show z.elim q2 D) e]
 have I:∀(j:Nat) k' w,(c.st.set i (b6 (k,u')))[j]?=b6 (b6 (k',w))->j≠i->c.st[j]?=b6 (b6 (k',w)):=λj k' w e ne=>by rw[nT (GR ne)]at e;show e
 have f:∀(j:Nat) k' w,k'.root=cb->(c.st.set i (b6 (k,u')))[j]?=b6 (b6 (k',w))->∃J,c.st[j]?=b6 (b6 (k',J)):=λj k' w _ e=>by
  by_cases p:j=i
  .subst p;rw[nC G]at e;cases e;show#[u,hi]
  .show#[w,I j k' w e p]
 have b1:∀a,({c with H:=H',st:=c.st.set i (b6 (k,u'))}:Cf).R1 a->c.R1 a:=λa Gb=>by
  have(j,k',w,g,h,l):=Gb;have(J,L):=f j k' w g h;show#[j,k',J,g,L,l]
 have dD:∀(j:Nat) (w:U),(c.st.set i (b6 (k,u')))[j]?=b6 (b6 (.Fo,w))->c.st[j]?=b6 (b6 (.Fo,w)):=λj w e=>by
  by_cases p:j=i
  .subst p;rw[nC G]at e;cases e;cases hk
  .show I j .Fo w e p
 have J':ID C {c with H:=H',st:=c.st.set i (b6 (k,u'))}:=ok.dd.of rfl (λj w e=>#[dD j w e,rfl]) (λa z=>.inl (b1 a z)) B λj a z=>#[(ok.root (.inr #[j,z])).1,λb e=>m (λd=>ok.dd.d1 j a z (d▸Y)) e]
 show#[#[λa b e z=>?_,λa z=>?_,ok.par,λa z=>?_,by simp[ok.len],λj k' w e=>?_,λj1 j2 k1 k2 w1 w2 q g h2 h l N e4=>?_,J'],n.trans #[λa b e z=>m (λd=>z (d▸hR)) e,λa b e=>?_,λa z=>?_,λ_ z=>z,λ_ z=>.inl z]]
 .have g:=ok.same a b e z;show m (λd=>?_) g;subst d;rcases q3 with q3|q3
  .rw[e]at q3;cases q3
  .show z q3
 .have(g,b,h2):=ok.HV a z;show#[g,b,m (λd=>D (d▸z)) h2]
 .have(g,b,h2):=ok.io a z;show#[g,?_];by_cases x:a=r
  .subst x;show T
  .show#[b,m x h2]
 .by_cases p:j=i
  .subst p;rw[nC G]at e;cases e;have(v,h,l):=ok.sl j _ _ hi;rw[A]at h;cases h;show#[.ref r,A,?_];have nr:=new B;cases k with
   |own=>have(q,s,y,O,Q,_):=l;cases s;show#[r,rfl,y,O,Q,nr]
   |io=>have(q,s,y,O,Q,_):=l;cases s;show#[r,rfl,y,O,Q,nr]
   |_=>cases hk
  .have e0:=I j k' w e p;have(v,h,l):=ok.sl j k' w e0;show#[v,h,l.mv B L4 λFI q s=>?_];have(Rt,Ii,y,_):=l.rt FI;rw[s]at Ii;cases Ii;show#[y,λb e=>m (λz=>?_) e];subst z;show p (ok.inj j i k' k w u q FI hk e0 hi (by rw[h,s]) A)
 .have(N3,L):=f j1 k1 w1 g h;have(RG,a2):=f j2 k2 w2 h2 l;show ok.inj j1 j2 k1 k2 N3 RG q g h2 L a2 N e4
 .by_cases x:a=r
  .subst x;show T
  .show#[b,m x e]
 .rcases z with z|⟨j,w,q,h,l,N⟩
  .show .inl (.inl (b1 a z))
  .show .inl (.inr #[j,w,q,dD j w h,l,N])
def ja{f:U->Option U}{st:aw}(h:W (modS i f) st Q):∃k u u',k.root=cb/\st[i]?=b6 (b6 (k,u))/\f u=b6 u'/\Q () (st.set i (b6 (k,u'))):=by
 have(_,st',e,q):=h;unfold modS at e;split at e
 .rename_i k u hs;split at e
  .rename_i hk;cases a:f u with
   |none=>rw[a]at e;cases e
   |some u'=>rw[a]at e;cases e;show#[k,u,u',hk,hs,a,q]
  .cases e
 .cases e
def jb{st:aw}(h:W (gM i) st Q):∃k u,k≠.Fo/\st[i]?=b6 (b6 (k,u))/\Q (if k.root=cb then .bor i else k,u) st:=by
 have(r,st',e,q):=h;unfold gM at e;split at e
 .cases e
 .rename_i k u a hs;cases e;show#[k,u,λz=>a z,hs,q]
 .cases e
def Dz(T:C.K=X.K)(Y:X.N[i]?=b6 x)(hv:JC X.env.scope x)(hd:(x==("__debug__":Str))=dV)(Hn:(x==("__classdict__":Str))=dV)(ha:PE X a (Fs C ma))
  (HM:((Ma f (o5 [a] X.env)).all (λx=>!x.1)&&(WS f (S4 [] X.env)).all (λx=>x.1.isSome)
   && f7 ([a].length+([]:List Q4).length+(if ([]:List Q4).isEmpty then 0 else 1)<30))=cb)
  (GP:(b.endLine==f.line)=cb) (n:o5 [a] X.env=[(dV,KZ a X.env)]) :
  L2.PS X (.Expr (.Call (.Attribute (.Name x px) "append" b) [a] [] f) pos) (F5 C ns (gM i >>= λx=>L6 x.2 >>= λ_=>ma >>= λr=>lift r >>= λu=>modS i (wb u) >>= λ_=>pure .nx)):=by
 show PS.weak (mP (zU PySem.F.plainAttrs_list PySem.F.slot_list_append PySem.F.type_list_append t7 (gz Y hv hd Hn) (bT ha e_ n) rfl HM GP n rfl)) ?_;rintro D σ H ⟨o,rfl,rfl,ok,h⟩;rw[ai]at h;have(k0,p,Kc,s,h):=jb h;have(y,g,l):=ok.sl i k0 p s;show#[y,g,?_];cases p with
 |lst A =>
  rw[ai,show L6 (U.lst A)=pure () from rfl,ao]at h;have Qd:aK C o o (if k0.root=cb then .bor i else k0) (.lst A) y:=by
   by_cases hk:k0.root=cb
   .rw[Zx hk];show#[#[k0,hk,s],g]
   .rw[Zy hk];cases k0 with
    |loc=>show l
    |any=>show l
    |bor j=>show l.elim
    |Fo=>show(Kc rfl).elim
    |_=>show absurd rfl hk
  have(a0,N0,m,Nz,_):=Qd.list ok;show#[by rw[m];show .inl #[rfl,N0,T▸Nz],?_];show bf ok h λr c v t w=>?_;rw[ai]at w;have(S',st',u,sS,B,n1,d,G,_,_):=nP ok t.ok t.nx t.rx.w w;rw[ai]at G;have(k,u1,u2,hk,hs,e,q):=ja G;have I:c.σ[i]?=b6 (b6 (.ref a0)):=by rw[t.hσ,g,m]
  cases u1 with
  |lst J =>
   simp only[wb]at e;split at e
   .rename_i hz;cases e;have(v',e1,e2):=B.sl i k (.lst J) hs;have L:c.σ[i]?=b6 (b6 v'):=e1;rw[I]at L;cases L;have(r',er,_,_,_,ws,hw,O):=e2.rt hk;cases er;have N4:c.H a0=b6 (.lst ws):=hw;show#[a0,ws,v,m,rfl,N4,by rw[<-O.len];show hz,?_];rw[ao]at q;have(FQ,n2):=Ok.mod (c:={c with S:=S',st:=st' }) (H':=upd c.H a0 (.lst (ws++[v]))) (u':=.lst (J++[u])) B n1.toNs hk hs I (λa ne=>aB ne) ⟨_,aE⟩ λQ=>#[ws++[v],aE,(O.mv Q).snoc (d.mv Q)]
    have z:=q _ rfl FQ n2 (Kept.of t.hσ);rw[<-t.hσ];show z
   .cases e
  |_=>cases e
 |_=>rw[ai]at h;show(ba.mp h).elim
def DA(u:C.K=X.K)(Y:X.N[i]?=b6 x)(hv:JC X.env.scope x)(hd:(x==("__debug__":Str))=dV)(Hn:(x==("__classdict__":Str))=dV)(ha:PE X a (Fs C ma))
  (HM:((Ma l (o5 [a] X.env)).all (λx=>!x.1)&&(WS l (S4 [] X.env)).all (λx=>x.1.isSome)
   && f7 ([a].length+([]:List Q4).length+(if ([]:List Q4).isEmpty then 0 else 1)<30))=cb)
  (GP:(g.endLine==l.line)=cb) (y:o5 [a] X.env=[(dV,KZ a X.env)]) :
  L2.PS X (.Expr (.Call (.Attribute (.Name x px) "extend" g) [a] [] l) pos) (F5 C ns (gM i >>= λx=>L6 x.2 >>= λ_=>ma >>= λr=>modS i (lN r) >>= λ_=>pure .nx)):=by
 show PS.weak (mP (zU PySem.F.plainAttrs_list PySem.F.slot_list_extend PySem.F.type_list_extend qH (gz Y hv hd Hn) (bT ha e_ y) rfl HM GP y rfl)) ?_;rintro D σ H ⟨A,rfl,rfl,ok,h⟩;rw[ai]at h;have(k0,B,Kc,G,h):=jb h;have(I,m,n):=ok.sl i k0 B G;show#[I,m,?_];cases B with
 |lst J =>
  rw[ai,show L6 (U.lst J)=pure () from rfl,ao]at h;have Qd:aK C A A (if k0.root=cb then .bor i else k0) (.lst J) I:=by
   by_cases hk:k0.root=cb
   .rw[Zx hk];show#[#[k0,hk,G],m]
   .rw[Zy hk];cases k0 with
    |loc=>show n
    |any=>show n
    |bor j=>show n.elim
    |Fo=>show(Kc rfl).elim
    |_=>show absurd rfl hk
  have(a0,N0,o,Nz,_):=Qd.list ok;show#[by rw[o];show .inl #[rfl,N0,u▸Nz],?_];show bf ok h λr c v t w=>?_;rw[ai]at w;have(k,p,u2,hk,hs,d,q):=ja w;have L:c.σ[i]?=b6 (b6 (.ref a0)):=by rw[t.hσ,m,o]
  have(rk,ru):=r;have key:∃e f b vs,p=.lst e/\v=.ref b/\(FR C.K c.H b vs\/FW C.K c.H b vs)/\aq C c.S c.H f vs/\e.length+f.length<=eF/\u2=.lst (e++f):=by
   cases ru with
   |lst f =>
    cases p with
    |lst e =>
     simp only[lN]at d;split at d
     .rename_i hz;cases d;have(b,vs,ev,s,h2):=t.rx.list t.ok;show#[_,_,b,vs,rfl,ev,.inl s,dt hz.2 h2,hz.1,rfl]
     .cases d
    |_=>simp[lN]at d
   |tup f =>
    cases p with
    |lst e =>
     simp only[lN]at d;split at d
     .rename_i hz;cases d;have(b,vs,ev,s,h2):=t.rx.tuple t.ok;show#[_,_,b,vs,rfl,ev,.inr s,dt hz.2 h2,hz.1,rfl]
     .cases d
    |_=>simp[lN]at d
   |_=>simp[lN]at d
  have(e,f,b,vs,rfl,rfl,hB,hz,hl,rfl):=key;have(v',O,e2):=t.ok.sl i k (.lst e) hs;rw[L]at O;cases O;have(r',er,_,_,_,ws,hw,Q):=e2.rt hk;cases er;show#[a0,b,ws,vs,o,rfl,hw,u▸hB,by rw[<-Q.len,<-hz.len];show hl,?_];rw[ao]at q;have(FQ,n2):=Ok.mod (c:=c) (H':=upd c.H a0 (.lst (ws++vs))) (u':=.lst (e++f)) t.ok t.nx.toNs hk hs L (λa ne=>aB ne) ⟨_,aE⟩ λT=>#[ws++vs,aE,(Q.mv T).append (hz.mv T)]
  have z:=q _ rfl FQ n2 (Kept.of t.hσ);rw[<-t.hσ];show z
 |_=>rw[ai]at h;show(ba.mp h).elim
def oE.or(h:oE X t)(h':oE X t'):oE X (λo i v H Q=>t o i v H Q\/t' o i v H Q):=λa s σ H o i v b c u Q I d e f q =>
 q.elim (h a s σ H o i v b c u Q I d e f) (h' a s σ H o i v b c u Q I d e f)
def set_dict(c:X.A.units+1<N9):oE X (λo i v H Q=>∃a H',o=.ref a/\vz H a i v H'/\Q H'):=by
 rintro b s σ H o i v j k u Q I d e f ⟨a,H',rfl,g,q⟩;cases d;show ua c I g e f λs' h=>#[H',h,q]
def wG{S:i6->Prop}{b:List (Key×V)}(a:b.map (·.1)=ks.map GN)(h2:aq C S H us (b.map (·.2)))(d:Rep C S H u v):
  (putK b (GN y) v).map (·.1)=(dput ks us y u).1.map GN/\aq C S H (dput ks us y u).2 ((putK b (GN y) v).map (·.2)):=by
 have e:(b.any λkv=>f7 (kv.1=(GN y:Key)))=f7 (y∈ks):=by
  rw[j8];show(fY (x:=y) a h2).2
 unfold putK dput;rw[e];by_cases c:y∈ks
 .rw[Zx (by simpa using c),Zx c];constructor
  .rw[mn];rw[<-a];apply LM;intro p _;change(if p.1=GN y then(p.1,v) else p).1=p.1;split<;>rfl
  .clear e c;induction b generalizing ks us with
   |nil =>
    have:ks=[]:=by simpa using a.symm
    subst this;simp[aq]
   |cons p b g =>
    cases ks with
    |nil=>simp at a
    |cons k ks =>
     cases us with
     |nil=>simp[aq]at h2
     |cons j us =>
      rw[i2,i2,W7]at a;have(l,m,f,h,i):=h2;rw[i2]at f;cases f;rw[i2,JE,i2,i2];show#[_,_,rfl,?_,g a.2 i];by_cases hk:k=y
      .rw[Zx (by show hk),Zx (by rw[a.1,hk])];show d
      .rw[Zy (by show hk),Zy (by rw[a.1];intro z;show hk (Wy z))];show h
 .rw[Zy (by simpa using c),Zy c];show#[by rw[uk,a,uk];rfl,by rw[uk];show h2.snoc d]
def DB(hP:C.P=X.prog)(hw:C.w=X.w)(hK:C.K=X.K)(hu:X.A.units+60<N9)(hN:X.N[i]?=b6 x)(hv:JC X.env.scope x)(hd:(x==("__debug__":Str))=dV)(Hn:(x==("__classdict__":Str))=dV)
  (ha:PE X a (Fs C ma)) (hb:PE X b (Fs C mb)) (hs:Rf [.Subscript (.Name x s) b p] a pos.line X.env=pure dV) (Ui:W_ [.Subscript (.Name x s) b p] a X.env=pure b7)
  (has:∀v,Rg (.Subscript (.Name x s) b p) X.env v=(do
   let B <-OB [v] (KZ (.Name x s) X.env)
   let L <-OB [v,B] (KZ b X.env)
   Xv p
   OB [v,B,L] (Xx B L v)
   release [v,B,L] [])) :
  L2.PS X (.Assign [.Subscript (.Name x s) b p] a pos) (F5 C ns (ma >>= λr=>gM i >>= λ_=>mb >>= λx=>b_ [r,x] >>= λus=>modS i (sE us) >>= λ_=>pure .nx)):=by
 show PS.weak (vh ha (AJ (gz hN hv hd Hn) hb (oE.or set_list (set_dict (X:=X) ⋯)) has) hs Ui rfl) ?_;rintro D σ H ⟨c0,rfl,rfl,ok,h⟩;show bf ok h λr c v t w=>?_;rw[ai]at w;have(k0,u0,Kc,J2,w):=jb w;have(v0,e0,KC):=t.ok.sl i k0 u0 J2;show#[v0,by rw[<-t.hσ];show e0,?_];rw[ai]at w;show#[c,t.hσ,rfl,t.ok,w.mono λy st2 w2 f m G e4 FQ n2 r2=>?_];subst e4;rw[ai]at w2;have Qe:=t.nx.trans n2;have O:dr C c0 f [r,y] [v,m]:=#[v,[m],rfl,t.rx.w.on t.ok n2 (G.trans t.hσ.symm),#[m,[],rfl,(r2.w).from t.nx,rfl,λ_ i r' Q e _=>by simp at e],λhk i r' Q T e6 FI=>by
  cases i with
  |zero=>simp at T e6;subst T e6;show kG t.rx.w r2.w hk FI
  |succ i=>simp at T]
 have(S',st',us,sS,Fy,n1,g,w1):=fC ok FQ Qe O w2;rw[ai]at w1;have(k,I,u2,hk,Kr,d,q):=ja w1;rw[ao]at q;have hσ:f.σ[i]?=b6 (b6 v0):=by rw[G,<-t.hσ];show e0
 have(Q,e1,e2):=Fy.sl i k I Kr;have Kb:f.σ[i]?=b6 (b6 Q):=e1;rw[hσ]at Kb;cases Kb;have(a0,er,z1,z2,z3,l):=e2.rt hk;subst er;have Uj:({f with S:=S',st:=st' }:Cf).σ[i]?=b6 (b6 (.ref a0)):=hσ;obtain⟨N3,ws,ew,RH,RG,VS,VT,RI,Uk⟩:∃u ws,us=[u,ws]/\Rep C S' f.H u v/\∃(_:Unit) (_:Unit),True/\Rep C S' f.H ws m/\True:=by
  cases us with
  |nil=>simp[aq]at g
  |cons u us =>
   have(_,_,e,q1,q2):=g;cases e;cases us with
   |nil=>simp[aq]at q2
   |cons u' us =>
    have(_,_,e,q3,q4):=q2;cases e;cases us with
    |nil=>show#[u,u',rfl,q1,(),(),trivial,q3,trivial]
    |cons _ _=>have(_,_,e,_):=q4;cases e
 subst ew;rw[show sE [N3,ws] I=kF ws N3 I from rfl]at d;have n:∀{H':Hp} ,(∀a,a≠a0->H' a=f.H a)->(∃o,H' a0=b6 o)->(Mv S' f.H S' H'->cW C S' H' a0 u2)->D.nx c0.σ H':=λ{H'} FZ hr new=>by
  have(IF,n3):=Ok.mod (c:={f with S:=S',st:=st' }) (H':=H') (u':=u2) Fy n1.toNs hk Kr Uj FZ hr new;have z:=q _ rfl IF n3 (Kept.of G);rw[<-G];show z
 cases I with
 |lst xs =>
  cases ws with
  |int j =>
   simp only[kF,j']at d;have(Y,hj,rfl):=d;have(vs,h1,h2):=l;have ey:m=.int j:=RI;show .inl #[a0,vs,j,Y,rfl,ey,h1,by rw[<-h2.len];show hj,?_];show n (λa ne=>aB ne) ⟨_,aE⟩ λJ=>#[vs.set Y v,aE,(h2.mv J).set Y (RH.mv J)]
  |_=>simp[kF]at d
 |Fh ks vs =>
  cases ws with
  |str y' =>
   simp only[kF]at d;split at d
   .rename_i hz;cases d;have(B',h1,h2,h3):=l;have ey:m=.str y':=RI;subst ey;have hl:B'.length=ks.length:=by have:=ZE Lz h2;simpa using this
    show .inr #[a0,_,rfl,vz.k (k:=GN y') h1 (by rw[hl];show hz),?_];show n (λa ne=>aB ne) ⟨_,aE⟩ λJ=>?_;have(g1,g2):=wG (y:=y') h2 h3 RH;show#[_,aE,g1,g2.mv J]
   .cases d
  |_=>simp[kF]at d
 |_=>simp[kF]at d
end
end TM
namespace TM
open PySem L2 PyProof.Rows PySem.W
section
def DC(d:X.calm=cb)(f:Gl X x)(g:X.mg x=b6 (.ref c))(i:(x==("__debug__":Str))=dV)(j:excIn X.K c L0 "ValueError.__new__"=cb)(k:PE X a (Fs C l))(m:o5 [a] X.env=[(dV,KZ a X.env)])
  (n:∀H',C.xw (.str x) H'->∀b σ s e s',Inv X b σ H' s->bF X.prog X.w X.stack H' s e c b7 .none H' s'->X.xe (.ref e) s'):L2.PS X (.Raise (b6 (.Call (.Name x p) [a] [] q)) b7 pos) (F5 C ns (l >>= λ_=>pure (.rt .io (.str x)))):=by
 show PS.weak (vY d f g i j k m) ?_;rintro D σ H ⟨r,rfl,rfl,ok,h⟩;show bf ok h λx o v t w=>?_;rw[ao]at w;show λb s e s' I F=>n _ (w o rfl t.ok t.nx (Kept.of t.hσ)) b _ s e s' I F
def Ok.kill(ok:Ok C c)(m:c.st[j]?=b6 b7):Ok C {c with σ:=c.σ.set j b7}/\Nx c {c with σ:=c.σ.set j b7}:=by
 have ne:∀(i:Nat) (r:Kd×U),c.st[i]?=b6 (b6 r)->(c.σ.set j b7)[i]?=c.σ[i]?:=λi r e=>nT λz=>by subst z;rw[m]at e;cases e
 have g:∀a,({c with σ:=c.σ.set j b7}:Cf).R1 a->c.R1 a:=λa ⟨i,k,u,hk,b,d⟩=>#[i,k,u,hk,b,(ne i _ b)▸d]
 have n:ID C {c with σ:=c.σ.set j b7}:=ok.dd.of rfl (λi u e=>#[e,ne i _ e]) (λa z=>.inl (g a z)) (.up λ_ z=>z) λi a z=>#[(ok.root (.inr #[i,z])).1,λo q=>q]
 show#[#[ok.same,ok.HV,ok.par,ok.io,by simp[ok.len],λi k u e=>?_,λi l k k' u u' r hk p b d f s=>?_,n],#[λ_ _ h _=>h,λ_ o h=>#[o,h],λa z=>.inl ?_,λ_ h=>h,λ_ h=>.inl h]]
 .have(v,q,z):=ok.sl i k u e;show#[v,(ne i _ e).trans q,z]
 .show ok.inj i l k k' u u' r hk p b d ((ne i _ b)▸f) ((ne l _ d)▸s)
 .show z.imp (g a) λ⟨i,u,r,b,d,f⟩=>#[i,u,r,b,(ne i _ b)▸d,f]
end
end TM
namespace L2
open PySem PyProof.Rows PySem.W
section
abbrev BK(K:Frag)(i:Nat)(cl:Str)(b:Bool):TE:=λσ H Q=>∃(a:i6) (oe:Obj) (u:HO) (c:i6),σ[i]?=b6 (b6 (.ref a))/\H a=b6 (.G7 oe u)/\oe.cls=.ref c/\X7 K nt cl=b6 (b6 (.ref c))/\Q (.bl b) H
def wH(hi:X.N[i]?=b6 n)(h:JC X.env.scope n)(j:(n==("__debug__":Str))=dV)(k:(n==("__classdict__":Str))=dV)(l:Gl X "isinstance")(m:X.mg "isinstance"=b7)(o:PE X (.Name D p2) (tC g))(r:∀u,RelV g u->u=t)
  (v:∀a,X7 X.K nt cl=b6 (b6 (.ref a))->dH X.K a=cb/\kitOne X.K (.ref a) t=b6 b):PE X (.Call (.Name "isinstance" p) [.Name n p1,.Name D p2] [] p3) (BK X.K i cl b):=by
 rintro c s σ H Q I ⟨d,oe,u,a,w,h2,x,y,q⟩;show H8 (dM I l m (show IJ "isinstance"=b6 (.builtin "isinstance") by decide +kernel) ?_ (by decide +kernel) (by decide +kernel));show Oc (Ft (bT (gz hi h j k) (bT o e_) rfl p3 c s σ H (λvs H'=>vs=[.ref d,g]/\H'=H) I ⟨.ref d,w,rfl,rfl⟩) λus s1 A=>?_);have(vs,O,f,B,e,C):=A;subst e C;have(T,Y,rfl,G,J):=vals2 B;obtain rfl:=r _ J;cases G;have(k1,k2):=v a y;show kia_one (pI k1) f.IW #[oe,(f.Fe d _ h2).1,x] k2 (λz=>nomatch z) λL=>?_;show#[.bl b,_,f.tok L,rfl,q]
end
end L2
namespace TM
open PySem L2 PyProof.Rows PySem.W
section
end
end TM
namespace TM
open PySem L2 PyProof.Rows
@[reducible]noncomputable def Lr(P:y1)(w:F7)(K:PySem.W.Frag)(H:Hp)(Pr IO:i6->Prop):Ct:=#[P,w,K,H,Pr,IO,λ_ _=>False]
structure zY(C:Ct)(H H':Hp)(S':i6->Prop)(is:List Nat)(vs:List V)(ws:List U)(k:Kd)(u:U)(v:V):Prop where
 same:∀a o,H a=b6 o->¬C.IO a->H' a=b6 o
 new:∀a,S' a->H a=b7/\∃o,H' a=b6 o
 own:k=.own->∃r,v=.ref r/\H r=b7/\¬S' r/\cW C S' H' r u
 loc:k=.loc->Rep C S' H' u v
 len:ws.length=is.length
 Im:∀(n i:Nat) (r:i6) (w:U),is[n]?=b6 i->vs[i]?=b6 (.ref r)->ws[n]?=b6 w->cW C S' H' r w
structure DE(C:Ct)(H:Hp)(is:List Nat)(us:List U)(vs:List V):Prop where
 len:us.length=vs.length
 par:∀a,C.IL a->Hs H a/\¬C.IO a
 RJ:∀a,C.IO a->Hs H a
 io:∀(i:Nat) (u:U),i∈is->us[i]?=b6 u->∃r,vs[i]?=b6 (.ref r)/\C.IO r/\cW C (λ_=>False) H r u
 any:∀(i:Nat) (u:U),i∉is->us[i]?=b6 u->∃v,vs[i]?=b6 v/\Rep C C.IL H u v
 inj:∀(i j:Nat) (r:i6),i∈is->j∈is->vs[i]?=b6 (.ref r)->vs[j]?=b6 (.ref r)->i=j
 Im:∀a,C.IO a->∃i∈is,vs[i]?=b6 (.ref a)
abbrev RK(P:y1)(w:F7)(K:PySem.W.Frag)(F:List U->Option (Ex (Kd×U)))(a:Nat)(is:List Nat):Sp:=λvs H Q _=>vs.length=a/\∃us k u ws Pr IO,F us=b6 (.ok (k,.tup (u::ws)))/\(k=.own\/k=.loc)/\DE (Lr P w K H Pr IO) H is us vs /\
 ∀v H' S',zY (Lr P w K H Pr IO) H H' S' is vs ws k u v->Q v H'
section
end
section
end
end TM
namespace TM
open PySem L2 PyProof.Rows PySem.W
section
abbrev Jw(X:Cx)(C:Ct)(a:List (i6×Obj))(b:Cf)(Post:Str->aw->Prop)(v:fx)(s':hW):Prop :=
 ∃(c:Cf) (s1:hW) (d T e:i6) (H':Hp) (cl:Str),v=.ref d/\c.σ=b.σ/\Ok C c/\Nx b c/\Inv X a b.σ c.H s1/\bF X.prog X.w X.stack c.H s1 d e (b6 T) .none H' s'/\jD c.H H'/\X7 X.K nt cl=b6 (b6 (.ref e))/\Post cl c.st
abbrev Ke(X:Cx)(C:Ct)(e:tr)(m:M (Sum (Kd×U) Str)):Prop:=∀(a:List (i6×Obj)) (s:hW) (b:Cf) (Post:Sum (Kd×U) Str->aw->Prop),Inv X a b.σ b.H s->Ok C b->W m b.st Post ->
 iv (j0 X.prog X.w) X.A (KZ e X.env) (λu s2=>∃r c v,Il C b c r v/\Inv X a b.σ c.H s2/\RelV v u/\Post (.inl r) c.st) (Jw X C a b λcl st=>Post (.inr cl) st) s
def BL
  (Y:C.P=X.prog) (hw:C.w=X.w) (hK:C.K=X.K) (hF:Γ f=F) (hk:∀us k u,F us=b6 (.ok (k,u))->(k=.own\/k=.loc\/k=.any)/\us.length=n) (FI:∀us c,F us=b6 (.exc c)->us.length=n)
  (G:jB X.prog X.w X.K X.mg X.base (Lk X.prog X.w) kd fa fd ps (spT X.prog X.w X.K F n)) (hr:eW kd X.A) (hg:Gl X f) (hm:X.mg f=b6 (.ref fa)) (PZ:PySem.W.keepIn X.K (.ref fa)=cb) (o:Binds X.K fd ps []) (Jo:(f==("__debug__":Str))=dV)
  (ha:PA X.Ho (e::es) (G4 C ms)) (he:o5 (e::es) X.env=(dV,KZ e X.env)::o5 es X.env) (GO:(Ma p3 (o5 es X.env)).any (·.1)=dV) :
  Ke X C (.Call (.Name f p2) (e::es) [] p3) (ms >>= λrs=>au rs >>= λ_=>bG Γ f (rs.map (·.2))):=by
 intro a s i Post I ok h;show H8 (fQ I hg hm ?_ Jo);show PySem.W.callWith_K (h₀:=X.base) I.ok.mod.Md PZ (tA (args (X:=X.Ho) ha (I.gZ _) ok h p3) (λus s1 z=>?_) λ_ _ z=>z.elim) he GO;have(rs,c,vs,t,l,rv,w):=z;have l:=l.dN;show#[l.IW,?_];have m:C.Eqv (Ka X.prog X.w X.K c.H (Hs c.H)):=#[Y,hw,hK]
 have Ln:(Ka X.prog X.w X.K c.H (Hs c.H)).Eqv C:=#[Y.symm,hw.symm,hK.symm]
 have p:=t.read;have g:∀(k1:Kd) (u:U),F (rs.map (·.2))=b6 (.ok (k1,u))->k1=.own\/k1=.loc->Post (.inl (k1,u)) c.st ->
   iv (j0 X.prog X.w) X.A (OK (.ref fa) us) (λu s2=>∃r c v,Il C i c r v/\Inv X a i.σ c.H s2/\RelV v u/\Post (.inl r) c.st) (Jw X C a i λcl st=>Post (.inr cl) st) s1:=λk1 u d Ul q=>by
  have(k0,k2):=hk _ _ _ d;have x:spT X.prog X.w X.K F n vs c.H (λv H'=>∃b,Il C i b (k1,u) v/\b.H=H'/\b.st=c.st) E0:=#[by rw[<-p.len];show k2,rs.map (·.2),.ok (k1,u),Hs c.H,d,λ_ z=>z,p.cg m,k0,λv H' S' o=>o.here (Q:=λv H'=>∃b,Il C i b (k1,u) v/\b.H=H'/\b.st=c.st) Ul t.hσ t.ok t.nx Ln λb v2 y B FQ n2 D=>#[b,#[y,FQ,n2,D],rfl,B]]
  show tA (sD (EE:=Jw X C a i λcl st=>Post (.inr cl) st) G hr o l rv x λ_ _ ⟨_,_,_,_,_,_,z⟩=>z.elim) (λv s2 ⟨v',H2,I2,D,b,t2,J,L⟩=>?_) λ_ _ z=>z;rw[t.hσ]at I2;subst J;show#[_,b,v',t2,I2,D,L▸q]
 obtain⟨r,st',j,q⟩:∃r st',bG Γ f (rs.map (·.2)) c.st=b6 (.ok r,st')/\Post r st':=w;unfold bG at j;rw[hF]at j;split at j
 .rename_i u d;cases j;show g _ u d (.inl rfl) q
 .rename_i u d;cases j;show g _ u d (.inr rfl) q
 .rename_i cl d;cases j;have x:spT X.prog X.w X.K F n vs c.H (λ_ _=>False) (λv _ H'=>(∃N,v=.ref N/\X7 X.K nt cl=b6 (b6 (.ref N)))/\jD c.H H'):=#[by rw[<-p.len];show FI _ _ d,rs.map (·.2),.exc _,Hs c.H,d,λ_ z=>z,p.cg m,λO H1 h1 h2=>#[#[O,rfl,h1],h2]]
  show tA (sD (EE:=Jw X C a i λcl st=>Post (.inr cl) st) G hr o l rv x λv s' ⟨ea,O,T,H',y,F',⟨N,B,J⟩,L⟩=>?_) (λv s2 ⟨_,_,_,_,z⟩=>z.elim) λ_ _ z=>z;cases B;show#[c,s1,ea,T,O,H',cl,y,t.hσ,t.ok,t.nx,by rw[<-t.hσ];show l,F',L,J,q]
 .cases j
end
end TM
namespace L2
open PySem PyProof.Rows PySem.W
section
def Sm.upd(h:H p=b7):jD H (upd H p o):=λx y z=>by rw[aB (aO z h)];show z
abbrev E4(K:Frag)(i:Nat)(cl:Str):TE:=λσ H Q=>∃(a:i6) (oe:Obj) (u:HO) (b:i6),σ[i]?=b6 (b6 (.ref a))/\H a=b6 (.G7 oe u)/\oe.cls=.ref b/\X7 K nt cl=b6 (b6 (.ref b))/\∀H',jD H H'->Q (.bl dV) H'
inductive jK(X:Cx)(cl:Str):List tr->List fx->Prop where
 |nil:jK X cl [] []
 |cons {D:Str} {p:Pos} {vD:V} {dv:fx} {es:List tr} {ds:List fx} (hD:PE X (.Name D p) (tC vD)) (hr:∀u,RelV vD u->u=dv) (ht:∀Cc,X7 X.K nt cl=b6 (b6 (.ref Cc))->dH X.K Cc=cb/\kitOne X.K (.ref Cc) dv=b6 dV) (t:jK X cl es ds):jK X cl (.Name D p::es) (dv::ds)
def jK.pa(h:jK X cl es ds):∃vs:List V,PA X es (λ_ H Q=>Q vs H)/\vs.length=es.length/\∀us,Vals vs us->us=ds:=by
 induction h with
 |nil=>show#[[],e_,rfl,λus r=>by cases r;rfl]
 |@cons D p c j es ds d e k t f =>
  have(vs,g,i,h2):=f;show#[c::vs,bT (te:=tC c) (t:=λ_ H Q=>Q vs H) d g,by simp[i],λus r=>?_];cases r with
  |cons a b=>rw[e _ a,h2 _ b]
def jK.no(h:jK X cl es ds)(b:X7 X.K nt cl=b6 (b6 (.ref a))):kitAny X.K (.ref a) ds=b6 dV:=by
 induction h with
 |nil=>rfl
 |cons e f c t d =>
  unfold kitAny;rw[(c a b).2];show d
def jK.ok(h:jK X cl es ds)(b:es≠[])(c:X7 X.K nt cl=b6 (b6 (.ref a))):dH X.K a=cb:=by
 cases h with
 |nil=>show absurd rfl b
 |cons e f d t=>show(d a c).1
def BM(hi:X.N[i]?=b6 n)(k:JC X.env.scope n)(l:(n==("__debug__":Str))=dV)(m:(n==("__classdict__":Str))=dV)(r:Gl X "isinstance")(v:X.mg "isinstance"=b7)(c:jK X cl es ds)(w:es≠[])(hl:es.length<100):
  PE X (.Call (.Name "isinstance" p) [.Name n p1,.Tuple es x1 p2] [] p3) (E4 X.K i cl):=by
 rintro a s σ H Q I ⟨d,oe,u,Cc,x,h2,y,g,q⟩;have(vs,A,VU,B):=c.pa;show H8 (dM I r v (show IJ "isinstance"=b6 (.builtin "isinstance") by decide +kernel) ?_ (by decide +kernel) (by decide +kernel));have hsz:(1000:Nat)<=eF:=by decide
 have C:vs.length<=eF:=by lia
 show Oc (Ft (bT (gz hi k l m) (bT (vm A) e_) rfl p3 a s σ H (λws H'=>∃t,ws=[.ref d,.ref t]/\H t=b7/\H'=upd H t (.tup vs)) I ⟨.ref d,x,C,λt f=>#[t,rfl,f,rfl]⟩) λus s1 D=>?_);have(ws,H1,b,G,t,e,f,J):=D;subst e J;have(u1,u2,rfl,L,O):=vals2 G;cases L;cases O;have(its,T,(o,ho,h,n,hd),_):=b.tuple (FW.of aE);obtain rfl:=B _ T;have(oc,od,VV,Kl):=o
 dsimp only at h hd
 subst h hd;have j:jD H (upd H t (.tup vs)):=Sm.upd f;show kia_tup (pI (c.ok w g)) b.IW #[oe,(b.Fe d _ (j _ _ h2)).1,y] ho (c.no g) (λz=>nomatch z) λY=>?_;show#[.bl dV,_,b.tok Y,rfl,q _ j]
end
end L2
namespace TM
open PySem L2 PyProof.Rows PySem.W
section
def BN(g:∀m,ns m=cb->m≠i)(j:X.N.Nodup)(hi:X.N[i]?=b6 y)(k:Loc X.env.scope y)(l:X.fn y=cb)(n:Ke X C a m)(o:OI a (b6 (.Name y p1)) pos.line X.env=pure dV)
  (p:∀c H',C.xw (.str c) H'->∀d T H b σ s e s',X7 X.K nt c=b6 (b6 (.ref d))->Inv X b σ H s->bF X.prog X.w X.stack H s e d T .none H' s'->X.xe (.ref e) s'):L2.PS X (.Assign [.Name y p1] a pos) (F5 C ns (m >>= Bm i)):=by
 rintro b s σ H D I ⟨f,rfl,rfl,ok,h⟩;rw[ai]at h;have x:i<f.σ.length:=by rw[I.len];show(mN.mp hi).1
 show U_ (tA (n b s f _ I ok h) (λu s2 ⟨r,c,v,t,A,B,q⟩=>?_) λv s2 z=>?_) o
 .show eZ A j hi k B (λs3 G=>#[_,_,G,iG g ok t (by rw[t.hσ];show x) q]) (.inl l)
 .have(c,s1,J,T,L,H',cl,rfl,O,Q,Y,I1,F,hs,hn,q):=z;rw[show Bm i (.inr cl)=pure (.rt .io (.str cl)) from rfl,ao]at q;have(FQ,n2):=Q.grow (H':=H') (S':=c.S) hs (λa z=>.inl z) λa z=>z;show p cl H' (q {c with H:=H' } rfl FQ (Y.trans n2) (Kept.of O)) L _ c.H b _ s1 J s2 hn I1 F
def Jw.mono(h:∀cl st,P cl st->b cl st)(z:Jw X C a d P v s'):Jw X C a d b v s':=by
 have(c,s1,f,T,g,H',cl,e,i,ok,n,I,F,hs,j,q):=z;show#[c,s1,f,T,g,H',cl,e,i,ok,n,I,F,hs,j,h _ _ q]
def DF(o:X.calm=cb)(y:C.K=X.K)(B:X.A.guards=b6 [])(D:X.A.units+60<N9)(G:Gl X "dict")(J:X.mg "dict"=b7)(L:Ke X C a m)(k:o5 [a] X.env=[(dV,KZ a X.env)]):Ke X C (.Call (.Name "dict" p) [a] [] pos) (m >>= Dd):=by
 intro d s g Post I ok h;rw[ai]at h;show H8 (dM I G J (show IJ "dict"=b6 (.type "dict") by decide +kernel) ?_ (by decide +kernel) (by decide +kernel));show JQ (rest:=[]) ?_ k rfl;rw[k];show K5 (tA (L d s g _ I ok h) (λu s1 ⟨r,c,v,t,l,N,w⟩=>MK ?_) λv s1 z=>z.mono λcl st q=>ao.mp q);have w:W (au [r] >>= λ_=>M.FK (Hk .dict [r]) >>= λr=>pure (.inl r)) c.st Post:=w;rw[ai,bJ]at w;have(O,w):=w;rw[ai]at w;have(x,e,q):=cP.mp w;rw[ao]at q;have T:HZ C g c [r] [v]:=#[t.hσ,t.ok,t.nx,#[v,[],rfl,t.rx.w,rfl,λ_ i r' v' e _ _=>by simp at e],O]
 rw[<-t.hσ]at l;show tA (wu (X:=X.Ho) (f:=.dict) (Q:=λv H=>∃b,Il C g b x v/\b.H=H/\Post (.inl x) b.st) o y B D T (l.gZ _) (.cons N .nil) e λb n Y e2 FQ n2 j=>#[b,#[Y,FQ,n2,j],rfl,by rw[e2];show q]) (λu2 s2 ⟨n,H2,I2,j,b,t2,e3,q2⟩=>?_) λ_ _ z=>z.elim;subst e3;show#[x,b,n,t2,by rw[<-t.hσ];show I2.dN,j,q2]
def Jw.from(b:c.σ=d.σ)(n:Nx d c)(z:Jw X C a c P v s'):Jw X C a d P v s':=by
 have(e,s1,f,T,g,H',cl,h,i,j,k,I,F,hs,l,q):=z;show#[e,s1,f,T,g,H',cl,h,i.trans b,j,n.trans k,by rw[<-b];show I,F,hs,l,q]
def DG(N:Ke X C a m)(O:PE X.Ho b (Fs C D))(Q:o5 [a,b] X.env=(dV,KZ a X.env)::o5 [b] X.env)(h2:o5 [b] X.env=[(dV,KZ b X.env)]):
  Ke X C (.Tuple [a,b] x1 pos) (m >>= jJ D):=by
 intro f s p Post I ok h;rw[ai]at h;show T9 ?_;rw[Q,h2];show K5 (tA (N f s p _ I ok h) (λu s1 ⟨x,c,v,t,G,T,w⟩=>?_) λv s1 z=>z.mono λcl st q=>ao.mp q);have w:W (D >>= λy=>au [x,y] >>= λ_=>b_ [x,y] >>= λus=>pure (.inl (.loc,.tup us))) c.st Post:=w;rw[ai]at w;rw[<-t.hσ]at G;show K5 (tA (O f s1 c.σ c.H (λg J=>∃y d,d.H=J/\Il C c d y g/\W (au [x,y] >>= λ_=>b_ [x,y] >>= λus=>(pure (.inl (.loc,.tup us)):M (Sum (Kd×U) Str))) d.st Post) (G.gZ _) ⟨c,rfl,rfl,t.ok,w.mono λy st1 w d g n r Y n2 r2=>?_⟩) (λu2 s2 ⟨g,J,k,Uo,y,d,e,j,l⟩=>MK ?_) λ_ _ z=>z.elim)
 .subst r;show#[y,d,rfl,#[n,Y,n2,r2],w]
 .subst e;have k:=k.dN;rw[ai,bJ]at l;have(Fm,l):=l;have Qe:=t.nx.trans j.nx;have o:HZ C p d [x,y] [v,g]:=#[j.hσ.trans t.hσ,j.ok,Qe,#[v,[g],rfl,t.rx.w.on t.ok j.nx.toNs j.hσ,#[g,[],rfl,(j.rx.from t.nx.toNs).w,rfl,λ_ i A v' e _ _=>by simp at e],λe i A v' n r e3=>by
   cases i with
   |zero =>
    cases n;cases r;show kG t.rx.w j.rx.w e e3
   |succ i=>simp at n],Fm]
  rw[ai]at l;have(S',st',ws,Ru,Fy,n1,B,L):=fC ok o.ok o.nx o.rep l;rw[ao]at L;have k:Inv X f p.σ d.H s2:=by rw[<-t.hσ];show k
  show#[by change 2<=eF;decide,?_];have hf:d.H s2.heap.objs.size=b7:=k.Fe.fresh (g0 _);have hl:[v,g].length<=eF:=by change 2<=eF;decide
  have(FO,n',A):=Ok.vZ (c:={d with S:=S',st:=st' }) Fy n1 hf B;show#[(.loc,.tup ws),{d with S:=S',st:=st',H:=upd d.H s2.heap.objs.size (.tup [v,g])},.ref s2.heap.objs.size,#[o.hσ,FO,n',A],k.laid (t':=s2.toks) (λb u e=>ek _ e) (g0 _) ⟨hl,[u,u2],.cons T (.cons Uo .nil),Uq _ _⟩,rfl,L]
abbrev Ls(X:Cx)(C:Ct)(i:Nat)(d:Ll)(m:M (Sum (Kd×U) Str)):Prop:=∀(a:List (i6×Obj)) (s:hW) (b:Cf) (Post:Sum (Kd×U) Str->aw->Prop),Inv X a b.σ b.H s->Ok C b->W m b.st Post ->
 iv (j0 X.prog X.w) X.A (PySem.execs [d] X.env) (λf s2=>f=XO/\∃r c v,Il C b c r v/\Inv X a (b.σ.set i (b6 v)) c.H s2/\Post (.inl r) c.st) (Jw X C a b λcl st=>Post (.inr cl) st) s
def BO(d:X.N.Nodup)(hi:X.N[i]?=b6 y)(e:Loc X.env.scope y)(f:X.fn y=cb)(g:Ke X C a m)(j:OI a (b6 (.Name y p1)) pos.line X.env=pure dV):Ls X C i (.Assign [.Name y p1] a pos) m:=by
 intro b s k Post I ok h;show V7 (U_ (tA (g b s k _ I ok h) (λu s2 ⟨r,c,v,t,l,n,q⟩=>?_) λv s2 z=>z) j);show eZ l d hi e n (λs3 o=>M_ #[rfl,r,c,v,t,o,q]) (.inl f)
def DH(u:PT X.Ho a (GK C x))(y:Ls X C i st1 m1)(h2:Ls X C i st2 m2):Ls X C i (.If a [st1] [st2] pos) (x >>= λp=>if p=cb then m1 else m2):=by
 intro b s e Post I ok h;rw[ai]at h;show V7 (wpAny_If (tA (u b s e.σ e.H (λp o=>∃c,c.H=o/\c.σ=e.σ/\Ok C c/\Nx e c/\W (if p=cb then m1 else m2) c.st Post) (I.gZ _) ⟨e,rfl,rfl,ok,h.mono λp st w c l g k n=>#[c,rfl,l,k,n,by rw[g];show w]⟩) (λp s1 z=>?_) λ_ _ z=>z.elim));have(o,j,c,l,g,k,n,w):=z;subst l;have j:=j.dN;rw[<-g]at j;have go:∀{f:Flow} {s2:hW},(f=XO/\∃r d v,Il C c d r v/\Inv X b (c.σ.set i (b6 v)) d.H s2/\Post (.inl r) d.st)->f=XO/\∃r d v,Il C e d r v/\Inv X b (e.σ.set i (b6 v)) d.H s2/\Post (.inl r) d.st:=λ{f s2} z=>by
  have(rfl,r,d,v,t,A,q):=z;show#[rfl,r,d,v,#[t.hσ.trans g,t.ok,n.trans t.nx,t.rx.from n.toNs],by rw[<-g];show A,q]
 cases p with
 |true =>
  rw[Zx rfl]at w;show tA (y b s1 c Post j k w) (λf s2 z=>by have(rfl,m):=go z;show M_ #[rfl,m]) λv s2 z=>z.from g n
 |false =>
  rw[Zy o6]at w;show tA (h2 b s1 c Post j k w) (λf s2 z=>by have(rfl,m):=go z;show M_ #[rfl,m]) λv s2 z=>z.from g n
def uH(k:∀m,ns m=cb->m≠i/\m≠o/\m≠j)(A:Ok C b)(ok:Ok C c)(n:Nx b c)(l:c.σ=b.σ)(hi:i<c.σ.length)(ho:o<c.σ.length)(hs:jD c.H H')(B:H' f=b7)(h2:jD (upd H' f fz) d)(G:d p=b7)(g:upd d p (.lst [.bl cb,.bl cb,.bl dV]) q=b7)(v:V)
  (w:W (wa i j o) c.st (fD C b ns D)):D.nx ((((b.σ.set j (b6 v)).set o (b6 (.bl dV))).set i (b6 (.ref q))).set j b7) (upd (upd d p (.lst [.bl cb,.bl cb,.bl dV])) q (.tup [.Fg,.ref p])):=by
 have(r,st',e,O):=w;unfold wa at e;split at e
 .rename_i Q;split at e
  case isFalse=>cases e
  rename_i s;have(s,T,Y):=s;have Us:c.H f=b7:=by
   cases z:c.H f with
   |none=>rfl
   |some o=>rw[hs f o z]at B;cases B
  have s2:jD c.H d:=λa o z=>h2 a o (by rw[aB (aO z Us)];show hs a o z);have I:c.H p=b7:=by
   cases z:c.H p with
   |none=>rfl
   |some o=>rw[s2 p o z]at G;cases G
  have t:p≠q:=λz=>by rw[<-z,aE]at g;cases g
  have J:d q=b7:=by rw[aB (GR t)]at g;show g
  have Ut:c.H q=b7:=by
   cases z:c.H q with
   |none=>rfl
   |some o=>rw[s2 q o z]at J;cases J
  have(Fy,n1):=ok.kill Q;have(FQ,n2):=Fy.grow (H':=upd (upd d p (.lst [.bl cb,.bl cb,.bl dV])) q (.tup [.Fg,.ref p])) (S':=λa=>c.S a\/a=p) (λa o z=>by
   rw[aB (aO z Ut),aB (aO z I)];show s2 a o z) (λa z=>z.imp id λz=>#[by rw[z];show I,.lst [.bl cb,.bl cb,.bl dV],by rw[z,aB t,aE]]) λa z=>.inl z
  have L:W (cQ i (.loc,.tup [.Fg,.lst [.bl cb,.bl cb,.bl dV]]) >>= λ_=>cQ o (.loc,.bl dV) >>= λ_=>(pure .nx:M Fl)) c.st (fD C b ns D):=#[r,st',e,O]
  rw[ai]at L;have(c3,h,e2,IF,n3,N):=jR (r:=(.loc,.tup [.Fg,.lst [.bl cb,.bl cb,.bl dV]])) (v:=.ref q) (i:=i) A FQ ((n.trans n1).trans n2) (by simpa using hi)
   (show Rep C _ _ _ _ from#[q,[.Fg,.ref p],rfl,.inl (.inl aE),_,_,rfl,rfl,_,_,rfl,#[p,[.bl cb,.bl cb,.bl dV],rfl,.inl #[.inr rfl,.inl (by change upd _ q _ p=_;rw[aB t,aE])],_,_,rfl,rfl,_,_,rfl,rfl,_,_,rfl,rfl,rfl],rfl]) L
  rw[ai]at N;have(u,x,e4,FO,n',w'):=jR (r:=(.loc,.bl dV)) (v:=.bl dV) (i:=o) A IF n3 (by rw[h];simpa using ho) (show Rep C _ _ _ _ from rfl) (Post:=λ_ Fc=>fD C b ns D .nx Fc) (N.mono λ_ st z=>ao.mp z);have es:((((b.σ.set j (b6 v)).set o (b6 (.bl dV))).set i (b6 (.ref q))).set j b7)=((b.σ.set j b7).set i (b6 (.ref q))).set o (b6 (.bl dV)):=by
   rw[Wt _ _ s,Wt _ _ T,List.set_set,Wt _ _ Y]
  have z:D.nx u.σ u.H:=w' u rfl FO n' #[λm y=>by
   rw[x,h];change(((c.σ.set j b7).set i _).set o _)[m]?=_;rw[nT (GR (k m y).2.1),nT (GR (k m y).1),nT (GR (k m y).2.2),l],by rw[x,h];simp[l]]
  rw[x,e4,h,e2]at z;rw[es,<-l];show z
 .cases e
def DI(Gg:∀m,ns m=cb->m≠i/\m≠o/\m≠j)(Y:X.N.Nodup)(hi:X.N[i]?=b6 y)(hy:Loc X.env.scope y)(Na:X.fn y=cb)(hj:X.N[j]?=b6 n)(hn:X.env.scope.names.lookup n=b6 .local)(ho:X.N[o]?=b6 z)(hz:Loc X.env.scope z)(Uu:JC X.env.scope z)(Uv:X.fn z=cb)(FP:i≠j)(Uw:o≠j)(hr:eW kd X.A)
  (Ux:Ls X C i Qj m) (G:X.stack=X.env::X.outer/\X.env.frame=b6 X.env.locals) (hx:X.ex=[]) (Uy:Gl X x) (Uz:(x==("__debug__":Str))=dV) (UA:Gl X "isinstance") (JO:X.mg "isinstance"=b7) (FZ:gs≠[]) (hl:gs.length<100)
  (LO:∀c∈cs,∃J Dc,X.mg x=b6 (.ref Dc)/\X7 X.K nt c=b6 (b6 (.ref J))/\exmOne X.K (.ref J) (.ref Dc)=b6 cb/\∀a,(∃ds,jK (X.Fu a) c gs ds)/\PE (X.Fu a) (.Call (.Name "isinstance" q1) [.Name n q2,.Name A q3] [] q4) (BK X.K j c cb)/\PE (X.Fu a) (.Call (.Name "isinstance" q5) [.Name n q6,.Name B q7] [] q8) (BK X.K j c cb))
  (Fu:(n==("__debug__":Str))=dV) (M':(n==("__classdict__":Str))=dV) (UB:(z==("__debug__":Str))=dV) (UC:(z==("__classdict__":Str))=dV) :
  L2.PS X (.Try [Qj] [.ExceptHandler (b6 (.Name x p5)) (b6 n) [.Assign [.Name z p6] (.Call (.Name "isinstance" p8) [.Name n p9,.Tuple gs x1 Ql] [] Qm) RN,.Assign [.Name y r1] (.Tuple [.Constant .none k0 r2,.List [.Call (.Name "isinstance" q1) [.Name n q2,.Name A q3] [] q4,.Call (.Name "isinstance" q5) [.Name n q6,.Name B q7] [] q8,.Name z q9] r3] x2 r4) RO] VW] [] [] pos) (F5 C ns (m >>= qS i j o cs)):=by
 rintro d s σ H D' I ⟨e,rfl,rfl,ok,h⟩;have IB:i<e.σ.length:=by rw[I.len];show(mN.mp hi).1
 have LW:o<e.σ.length:=by rw[I.len];show(mN.mp ho).1
 have Hx:j<e.σ.length:=by rw[I.len];show(mN.mp hj).1
 rw[ai]at h;show wpAny_Try_except (tA (Ux d s e _ I ok h) (λf s1 z=>?_) λv s1 z=>?_)
 .have(rfl,r,c,v,t,g,q):=z;show M_ #[_,_,g,iG (λm z=>(Gg m z).1) ok t (by rw[t.hσ];show IB) q]
 .have(c,s0,a,T,J,H',cl,rfl,hσ,FA,n0,g,L,hs,N5,w):=z;unfold qS at w
  dsimp only at w
  split at w
  case isFalse=>show(ba.mp w).elim
  rename_i Gw;have(k,Dc,UD,Qn,ab,UE):=LO _ Gw;have eC:k=J:=by have z:b6 (b6 (Lo k))=b6 (b6 (.ref J)):=Qn.symm.trans N5;cases z;rfl
  subst eC;have IC:s0.heap.FunFrames X.base (X.env::X.outer):=by rw[<-G.1];show g.stack
  have Ji:∀b∈FT (X.env::X.outer),c.H b=b7:=by rw[<-G.1];show g.jO
  have hA:X.A.frames=b6 (X.env::X.outer):=by rw[<-G.1];show g.ok.frames
  rw[G.1]at L;show L.note hA G.2 IC Ji λT2 s2 F2=>F2.land IC Ji λT3 s3 F3=>?_;have ac:∀{T:Option i6} {u:fx} {s':hW},bF X.prog X.w (X.env::X.outer) c.H s0 a k T u H' s'->Inv X d e.σ H' s':=λ{T u s'} F=>g.zQ (ch:=[]) F.os (by rw[G.1];show F.un) F.Fe F.bare λb z=>nomatch z
  have Qo:a≠X.env.locals/\a∉X.fs:=by
   have(m,(o,_,_,ho,_),_):=g.loc;show#[λz=>?_,λz=>?_]
   .rw[<-z,L.new]at ho;cases ho
   .have(_,o,q,_):=IC.mem (Oe.mpr (by
     have(env,h1,h2):=Oe.mp z;show#[env,nc _ h1,h2]))
    rw[L.new]at q;cases q
  have J3:∀{T:Option i6} {u:fx} {s':hW} (E:fx->hW->Prop),bF X.prog X.w (X.env::X.outer) c.H s0 a k T u H' s'->∃oe,s'.heap.get? a=b6 oe/\oe.cls=.ref k/\Inv (X.J3 a oe E) d e.σ H' s':=λ{T u s'} E F=>by
   have(a0,oe,vs,h1,h2,h3,_):=F.exc;show#[oe,h1,h2,(ac F).J3 h1 F.he Qo.1 Qo.2 λv z=>by rw[h3]at z;cases z]
  show wpAny_handleBy_cons (codeAny_handlers_test ?_) λz=>nomatch z
  have(VX,g1,g2,I3):=J3 (QX (j0 X.prog X.w) (X.A.mark (b6 (.ref a))) X.env λx s'=>cameBackBy (j0 X.prog X.w) X.A X.env X.xe x s') F3;show fQ I3 Uy UD ?_ Uz;have LT:YE (j0 X.prog X.w) s3.heap (Yo (.ref a)) (.ref k):=by
   show(Zk g1).andThen ?_;rw[g2];show .now
  show(exm_one I3.IW LT ab).here (codeAny_handlers_suite_as ?_);show F3.land IC Ji λT4 s4 F4=>?_;have(l,g3,g4,I4):=J3 (λ_ _=>False) F4;show eZ (X:=X.J3 a l λ_ _=>False) I4 Y hj (.inl hn) (v:=.ref a) rfl (λs5 I5=>?_) (.inr hn);have g5:=(I5.pin (a,l) ov).1;have D:∀b o,s0.heap.get? b=b6 o->b≠a:=λb o q z=>by rw[z,L.new]at q;cases q
  have UG:Inv X d (e.σ.set j (b6 (.ref a))) (upd H' a (.G7 l (.ext λ_=>True))) s5:=(I5.EU I.ok).C9 g5 F4.he (by
    cases q:X.s₀.heap.get? a with
    |none=>rfl
    |some o =>
     have(o',q'):=g.base.there a o q (by rw[hx];show λz=>nomatch z);show absurd rfl (D a o' q')) Qo.1 (λx c q=>by
    have(v,o,q,_):=g.cell x c q;show D c o q) (λp O=>D p.1 p.2 (g.pin p O).1)
  have((ds,hD),UH,UI):=UE a;have UJ:=qo (X:=X.Fu a) (pos:=RN) (pos':=p6) Y ho hz (BM (X:=X.Fu a) (x1:=x1) (p:=p8) (p1:=p9) (p2:=Ql) (p3:=Qm) hj (.inl hn) Fu M' UA JO hD FZ hl) rfl (.inl Uv);have UK:=qo (X:=X.Fu a) (pos:=RO) (pos':=r1) Y hi hy (vm (X:=X.Fu a) (x1:=x2) (pos:=r4) (bT (vb (j:=k0) (pos:=r2)) (bT (AU (pos:=r3) (bT UH (bT UI (bT (gz (X:=X.Fu a) (pos:=q9) ho Uu UB UC) e_)))) e_))) rfl (.inl Na);have RP:(e.σ.set j (b6 (.ref a)))[j]?=b6 (b6 (.ref a)):=nC Hx;have KA:(3:Nat)<=eF:=by decide
  have GH:(2:Nat)<=eF:=by decide
  show tA ((jY UJ (jY UK rV)) d s5 _ _ {nx:=λσ H=>∃Q p q,jD (upd H' a (.G7 l (.ext λ_=>True))) Q/\Q p=b7/\upd Q p (.lst [.bl cb,.bl cb,.bl dV]) q=b7/\σ=((e.σ.set j (b6 (.ref a))).set o (b6 (.bl dV))).set i (b6 (.ref q))/\H=upd (upd Q p (.lst [.bl cb,.bl cb,.bl dV])) q (.tup [.Fg,.ref p]),rt:=λ_ _=>False} UG.Fu ?_) (λu s6 z=>?_) λ_ _ z=>z.elim
  .show#[a,l,_,k,RP,aE,g4,N5,λH1 sm=>?_];have RQ:((e.σ.set j (b6 (.ref a))).set o (b6 (.bl dV)))[j]?=b6 (b6 (.ref a)):=by rw[nT Uw];show RP
   have UL:((e.σ.set j (b6 (.ref a))).set o (b6 (V.bl dV)))[o]?=b6 (b6 (.bl dV)):=nC (by simpa using LW);have RS:H1 a=b6 (.G7 l (.ext λ_=>True)):=sm _ _ aE;show#[a,l,_,k,RQ,RS,g4,N5,a,l,_,k,RQ,RS,g4,N5,.bl dV,UL,KA,λp O=>#[GH,λq hq=>#[H1,p,q,sm,O,hq,rfl,rfl]]]
  .cases u with
   |next =>
    have(_,_,I6,Q,p,q,sm,O,hq,rfl,rfl):=z;show Inv.gone (X:=X.Fu a) I6 Y hj hn λs7 I7=>#[_,_,I7.EV I.ok,uH Gg ok FA n0 hσ (by rw[hσ];show IB) (by rw[hσ];show LW) hs F4.he sm O hq _ w]
   |ret v=>have(_,_,_,_,_,z):=z;show z.elim
   |_=>have(_,_,_,z):=z;show z.elim
end
end TM
namespace TM
open PySem L2 PyProof.Rows
structure Ck where
 fns:List Str
 gl:List (Str×U)
 Im:List (Str×List Nat)
 xc:List Str
 xd:List (Str×Str)
 xi:List (Str×Str×Bool)
 xe:List (Str×Str)
abbrev kI:U->U->Bool
 |.int i,.int j=>f7 (i=j)
 |.str x,.str y=>f7 (x=y)
 |.bl a,.bl b=>a==b
 |.Fg,.Fg=>cb
 |_,_=>dV
def dg(h:kI u v=cb):u=v:=by
 cases u<;>cases v<;>simp[kI]at h<;>subst_vars<;>rfl
abbrev noStar:tr->Bool
 |.Starred _ _=>dV
 |_=>cb
abbrev jS:tr->Bool
 |.Slice _ _ _ _=>dV
 |_=>cb
abbrev qX:tr->Bool
 |.Set _ _ _=>dV
 |_=>cb
abbrev nV:tr->Bool
 |.Call (.Name _ _) [] [] _=>dV
 |_=>cb
abbrev da:tr->Bool
 |.ListComp _ _ _ _=>dV
 |.SetComp _ _ _ _=>dV
 |.DictComp _ _ _ _ _=>dV
 |_=>cb
abbrev BP:tr->Bool
 |.Tuple _ _ _=>dV
 |_=>cb
abbrev Hb(a:Jy)(x:Str):Bool:=f7 (a.names.lookup x=b6 .globalImplicit)
abbrev qY(a:Jy)(x:Str):Bool:=f7 (a.names.lookup x=b6 .local)||decide (a.names.lookup x=b6 .cell)||decide (a.names.lookup x=b6 .free)
abbrev jL(a:Jy)(x:Str):Bool:=f7 (a.names.lookup x=b6 .local)||decide (a.names.lookup x=b6 .cell)
abbrev DJ(a:Jy)(x:Str):Bool:=f7 (a.names.lookup x=b6 .local)
abbrev cp(x:Str):Bool:=!(x==("__debug__":Str))&&!(x==("__classdict__":Str))
abbrev sN(N:List Str)(a:Jy)(fa:Str->Bool)(i:Nat):tr->Bool
 |.Name x _=>f7 (N[i]?=b6 x)&&jL a x&&(fa x||DJ a x)
 |_=>dV
abbrev nW(N:List Str)(a:Jy)(fa:Str->Bool):List Nat->List tr->Bool
 |[],[]=>cb
 |i::is,e::es=>sN N a fa i e&&nW N a fa is es
 |_,_=>dV
abbrev gu:tr->List Str
 |.Name x _=>[x]
 |.Tuple es _ _=>es.filterMap fun|.Name x _=>b6 x|_=>b7
 |_=>[]
abbrev hide(a N:List Str):List Str:=match a.filter λx=>f7 (x∈N) with
 |[]=>N
 |[x]=>N.set (N.idxOf x) "."
 |x::y::_=>(N.set (N.idxOf x) ".").set (N.idxOf y) ".."
abbrev L_(t:Bool)(N:List Str)(a:Jy)(fa:Str->Bool)(is:List Nat):tr->Bool
 |.Name x p=>!t&&(match is with|[i]=>sN N a fa i (.Name x p)|_=>dV)
 |.Tuple es _ _=>t&&nW N a fa is es&&is.all λi=>f7 (i<N.length)
 |_=>dV
abbrev nX(e:tr):Option (Str×List tr):=match e with
 |.Call f as a _=>match f with
  |.Name x _=>if a.isEmpty=cb then b6 (x,as) else b7
  |_=>b7
 |_=>b7
def jy(h:nX e=b6 (x,as)):∃p q,e=.Call (.Name x p) as [] q:=by
 unfold nX at h;split at h
 .split at h
  .split at h
   .rename_i hk;rw[LN]at hk;cases h;subst hk;show#[_,_,rfl]
   .cases h
  .cases h
 .cases h
abbrev fE(a:Jy)(b:tr)(ik:Ik)(e:tr):Option (List tr):=match ik with
 |.seq=>b6 [e]
 |.FH=>(nX e).bind λp=>if p.1="range"/\Hb a p.1=cb/\p.2.length=1 then b6 p.2 else b7
 |.HX=>(nX e).bind λp=>if p.1="range"/\Hb a p.1=cb/\p.2.length=2 then b6 p.2 else b7
 |_=>b7
abbrev simple:Bf->Bool:=λ_=>cb
abbrev BQ(scope a:Jy):Jy:={scope with names:=scope.names.map λ(n,k)=>if (k==Kj&&a.kind==.function&&a.names.lookup n==b6 .cell)=cb then(n,.cell) else(n,k)}
abbrev cH(e:tr)(k:Str->Bool):Bool:=match e with|.Name x _=>k x|_=>dV
def aJ(h:cH e k=cb):∃x p,e=.Name x p/\k x=cb:=by
 unfold cH at h;split at h
 .show#[_,_,rfl,h]
 .cases h
abbrev du{α:Type}(l:List α)(k:α->Bool):Bool:=match l with|[a]=>k a|_=>dV
def aU(h:du l k=cb):∃a,l=[a]/\k a=cb:=by
 unfold du at h;split at h
 .show#[_,rfl,h]
 .cases h
abbrev fF(e:tr)(k:tr->List tr->Pos->Bool):Bool:=match e with|.Call f as a p=>a.isEmpty&&k f as p|_=>dV
def bB(h:fF e k=cb):∃f as p,e=.Call f as [] p/\k f as p=cb:=by
 unfold fF at h;split at h
 .rename_i f as a p;rw[df,LN]at h;have(rfl,h):=h;show#[_,_,_,rfl,h]
 .cases h
abbrev qZ(e:tr)(k:tr->Str->Pos->Bool):Bool:=match e with|.Attribute o m p=>k o m p|_=>dV
def pK(h:qZ e k=cb):∃o m p,e=.Attribute o m p/\k o m p=cb:=by
 unfold qZ at h;split at h
 .show#[_,_,_,rfl,h]
 .cases h
abbrev wI(e:tr)(k:tr->Operator->tr->Bool):Bool:=match e with|.BinOp a op b _=>k a op b|_=>dV
def q_(h:wI e k=cb):∃a op b p,e=.BinOp a op b p/\k a op b=cb:=by
 unfold wI at h;split at h
 .show#[_,_,_,_,rfl,h]
 .cases h
abbrev wJ(e:tr)(k:tr->CmpOp->tr->Bool):Bool:=match e with|.Compare a ops bs _=>du ops λop=>du bs λb=>k a op b|_=>dV
def kJ(h:wJ e k=cb):∃a op b p,e=.Compare a [op] [b] p/\k a op b=cb:=by
 unfold wJ at h;split at h
 .have(op,rfl,c):=aU h;have(b,rfl,d):=aU c;show#[_,_,_,_,rfl,d]
 .cases h
abbrev nY(e:tr)(k:tr->Str->Pos->List tr->Pos->Bool):Bool:=fF e λf as b=>qZ f λo m a=>k o m a as b
def fG(h:nY e k=cb):∃o m a as b,e=.Call (.Attribute o m a) as [] b/\k o m a as b=cb:=by
 have(f,as,p,rfl,h):=bB h;have(o,m,q,rfl,h):=pK h;show#[_,_,_,_,_,rfl,h]
abbrev pL(e:tr)(k:tr->tr->Bool):Bool:=match e with|.Subscript a b _=>k a b|_=>dV
def gO(h:pL e k=cb):∃a b p,e=.Subscript a b p/\k a b=cb:=by
 unfold pL at h;split at h
 .show#[_,_,_,rfl,h]
 .cases h
abbrev l9{α:Type}(l:List α)(k:α->α->Bool):Bool:=match l with|[a,b]=>k a b|_=>dV
def eJ(h:l9 l k=cb):∃a b,l=[a,b]/\k a b=cb:=by
 unfold l9 at h;split at h
 .show#[_,_,rfl,h]
 .cases h
abbrev wK(e:tr)(k:Const->Bool):Bool:=match e with|.Constant c _ _=>k c|_=>dV
def ra(h:wK e k=cb):∃c q p,e=.Constant c q p/\k c=cb:=by
 unfold wK at h;split at h
 .show#[_,_,_,rfl,h]
 .cases h
abbrev E5:Const->Option U
 |.int j=>b6 (.int j)
 |.str y=>b6 (.str y)
 |.bool y=>b6 (.bl y)
 |.none=>b6 .Fg
 |_=>b7
abbrev E6(u:U)(c:Const):Bool:=match E5 c with|some v=>kI u v|none=>dV
abbrev zm(e:tr)(op:BoolOp)(k:List tr->Bool):Bool:=match e with|.BoolOp o es _=>f7 (o=op)&&k es|_=>dV
def jc(h:zm e op k=cb):∃es p,e=.BoolOp op es p/\k es=cb:=by
 unfold zm at h;split at h
 .rw[df,Zz]at h;have(rfl,h):=h;show#[_,_,rfl,h]
 .cases h
abbrev BR(e:tr)(op:UnaryOp)(k:tr->Bool):Bool:=match e with|.UnaryOp o a _=>f7 (o=op)&&k a|_=>dV
def l_(h:BR e op k=cb):∃a p,e=.UnaryOp op a p/\k a=cb:=by
 unfold BR at h;split at h
 .rw[df,Zz]at h;have(rfl,h):=h;show#[_,_,rfl,h]
 .cases h
abbrev kK(e:tr)(k:List tr->Bool):Bool:=match e with|.Tuple l _ _=>k l|_=>dV
def dw(h:kK e k=cb):∃l q p,e=.Tuple l q p/\k l=cb:=by
 unfold kK at h;split at h
 .show#[_,_,_,rfl,h]
 .cases h
abbrev wL(e:tr)(k:List tr->Bool):Bool:=match e with|.List l _=>k l|_=>dV
def rb(h:wL e k=cb):∃l p,e=.List l p/\k l=cb:=by
 unfold wL at h;split at h
 .show#[_,_,rfl,h]
 .cases h
abbrev BS(e:tr):Bool:=match e with|.Dict a b _=>a.isEmpty&&b.isEmpty|_=>dV
def uI(h:BS e=cb):∃p,e=.Dict [] [] p:=by
 unfold BS at h;split at h
 .rw[df,LN,LN]at h;have(rfl,rfl):=h;show#[_,rfl]
 .cases h
abbrev wM(e:tr)(k:Option tr->Option tr->Bool):Bool:=match e with|.Slice a b c _=>c.isNone&&k a b|_=>dV
def rf(h:wM e k=cb):∃a b p,e=.Slice a b b7 p/\k a b=cb:=by
 unfold wM at h;split at h
 .rw[df,P9]at h;have(rfl,h):=h;show#[_,_,_,rfl,h]
 .cases h
abbrev BU(e:tr)(k:List tr->Bool):Bool:=match e with|.JoinedStr l _=>(match l with|_::_::_=>cb|_=>dV)&&k l|_=>dV
def uJ(h:BU e k=cb):∃a b l p,e=.JoinedStr (a::b::l) p/\k (a::b::l)=cb:=by
 unfold BU at h;split at h
 .rw[df]at h;have(c,h):=h;split at c
  .show#[_,_,_,_,rfl,h]
  .cases c
 .cases h
abbrev BV(e:tr)(k:tr->tr->tr->List tr->Jy->Bool):Bool:=match e with|.ListComp elt a b _=>du a λg=>f7 (g.is_async=0)&&k elt g.target g.iter g.ifs b|_=>dV
def jd(h:BV e k=cb):∃elt d a b f p,e=.ListComp elt [⟨d,a,b,0⟩] f p/\k elt d a b f=cb:=by
 unfold BV at h;split at h
 .have((d,a,b,z),rfl,c):=aU h;rw[df,Zz]at c;have(rfl,c):=c;show#[_,_,_,_,_,_,rfl,c]
 .cases h
abbrev isNm(e:tr)(n:Str):Bool:=cH e λx=>f7 (x=n)
def cI(h:isNm e n=cb):∃p,e=.Name n p:=by
 have(x,p,e,z):=aJ h;show#[p,ZD z▸e]
abbrev uK(v:tr)(f:Str)(k:List tr->Bool):Bool:=fF v λg as _=>isNm g f&&k as
def d5(h:uK v f k=cb):∃as p q,v=.Call (.Name f p) as [] q/\k as=cb:=by
 have(g,as,q,rfl,z):=bB h;rw[df]at z;have(p,rfl):=cI z.1;show#[as,p,q,rfl,z.2]
mutual
noncomputable def bW(k:Ck):E->List Str->Jy->tr->Bool
 |.var i,N,d,g=>cH g λx=>f7 (N[i]?=b6 x)&&qY d x&&cp x
 |.cst u,N,d,g=>wK g λc=>E6 u c
 |.IQ x u,N,d,g=>cH g λy=>f7 (x=y)&&Hb d x&&cp x&&k.gl.any λp=>f7 (p.1=x)&&kI p.2 u
 |.bin op a b,N,d,g=>wI g λq z r=>f7 (op.op=z)&&bW k a N d q&&bW k b N d r
 |.cmp op a b,N,d,g=>wJ g λq z r=>f7 (op.op=z)&&!Xa z r&&bW k a N d q&&bW k b N d r
 |.Jr _ _ _ _ _,_,_,_=>dV
 |.and es,N,d,g=>zm g .And λh=>aI k es N d h
 |.or es,N,d,g=>zm g .Or λh=>aI k es N d h
 |.not a,N,d,g=>BR g .Not λq=>bW k a N d q
 |.ite _ _ _,_,_,_=>dV
 |.neg _,_,_,_=>dV
 |.bad,_,_,_=>cb
 |.NU _,_,_,_=>dV
 |.inD _ _ _,_,_,_=>dV
 |.J4 _ _ _,_,_,_=>dV
 |.NT _,_,_,_=>dV
 |.NV _ _ _,_,_,_=>dV
 |.fst es,N,d,g=>BU g λl=>uL k es N d l
 |.NS a T,N,d,g=>dV
 |.tup es,N,d,g=>kK g λh=>aI k es N d h
 |.lst es,N,d,g=>wL g λh=>aI k es N d h
 |.HY _,N,d,g=>BS g
 |.idx a b,N,d,g=>pL g λq r=>jS r&&bW k a N d q&&bW k b N d r
 |.G3 a lo hi,N,d,g=>pL g λq r=>wM r λA B=>bW k a N d q&&rg k lo N d A&&rg k hi N d B
 |.bi f es,N,d,g=>fF g λf' h _=>cH f' λx=>f7 (x=f.name)&&simple f&&Hb d x&&!h.isEmpty&&aI k es N d h
 |.Js f es,N,d,g=>fF g λf' as _=>cH f' λx=>du as λc=>fF c λg' h _=>cH g' λy=>f7 (x=f.nQ)&&f7 (y=f.iF)&&Hb d x&&Hb d y&&!h.isEmpty&&aI k es N d h
 |.Ky m a es,N,d,g=>nY g λo name v h C=>f7 (name=m.name)&&nV o&&(v.endLine==C.line)&&!h.isEmpty&&f7 (h.length<20)&&bW k a N d o&&aI k es N d h
 |.call f es,N,d,g=>fF g λf' h _=>cH f' λx=>f7 (x=f)&&f7 (f∈k.fns)&&Hb d x&&cp x&&!h.isEmpty&&aI k es N d h
 |.comp n t ik src cond e,N,d,g=>BV g λelt j s w scope =>
   f7 ((gu j).length=n)&&A8 (gu j++hide (gu j) N) (gu j) scope d.names&&L_ t (gu j++hide (gu j) N) (BQ scope d) (λx=>f7 (scope.names.lookup x=b6 .cell)) (lg n) j&&qX s &&
   (match fE d j ik s with
    |some as=>aI k src N d as
    |none=>dV) &&
   f7 (w.length<=1)&&aI k cond (gu j++hide (gu j) N) (BQ scope d) w&&bW k e (gu j++hide (gu j) N) (BQ scope d) elt
noncomputable def uL(k:Ck):List E->List Str->Jy->List tr->Bool
 |[],_,_,a=>a.isEmpty
 |e::es,N,b,a=>match a with
  |.FormattedValue v (-1) b7 _::a=>bW k e N b v&&uL k es N b a
  |.Constant (.str y) _ _::a=>(match e with|.cst u=>kI u (.str y)|_=>dV)&&uL k es N b a
  |_=>dV
noncomputable def aI(k:Ck):List E->List Str->Jy->List tr->Bool
 |[],_,_,a=>a.isEmpty
 |e::es,N,b,a=>match a with
  |e'::a=>noStar e'&&bW k e N b e'&&aI k es N b a
  |[]=>dV
noncomputable def rg(k:Ck):List E->List Str->Jy->Option tr->Bool
 |[],_,_,o=>o.isNone
 |[e],N,a,o=>match o with
  |some b=>bW k e N a b
  |none=>dV
 |_::_::_,_,_,_=>dV
end
abbrev bN:List Str:=["len","sorted","repr","max","min","all","any","list","tuple","str","int","range","enumerate","zip","reversed","set","dict","sum","isinstance","bool"]
abbrev BW(ck:Ck)(K:PySem.W.Frag)(mg:Str->Option fx):Prop:=∀D,(∃p∈ck.xi,p.2.1=D)->∃a,((∃b,a=.ref b/\mg D=b6 (.ref b))\/(D="ValueError"/\a=.type "ValueError"/\mg D=b7))/\∀p∈ck.xi,p.2.1=D->∀C,PySem.W.nsIn K nt p.1=b6 (b6 (.ref C))->dH K C=cb/\PySem.W.kitOne K (.ref C) a=b6 p.2.2
structure Lv(ck:Ck)(K:PySem.W.Frag)(mg:Str->Option fx):Prop where
 xc:∀x∈ck.xc,∃C,mg x=b6 (.ref C)/\PySem.W.nsIn K nt x=b6 (b6 (.ref C))/\PySem.W.excIn K C L0 "ValueError.__new__"=cb
 xd:∀p∈ck.xd,∃C D,mg p.1=b6 (.ref C)/\PySem.W.nsIn K nt p.1=b6 (b6 (.ref C))/\mg p.2=b6 (.ref D)/\PySem.W.exmOne K (.ref C) (.ref D)=b6 cb
 xi:∀D,(∃p∈ck.xi,p.2.1=D)->∃dv,((∃D',dv=.ref D'/\mg D=b6 (.ref D'))\/(D="ValueError"/\dv=.type "ValueError"/\mg D=b7))/\∀p∈ck.xi,p.2.1=D->∀C,PySem.W.nsIn K nt p.1=b6 (b6 (.ref C))->dH K C=cb/\PySem.W.kitOne K (.ref C) dv=b6 p.2.2
 xe:∀x,(∃p∈ck.xe,p.2=x)->∃D,mg x=b6 (.ref D)/\∀cl,(cl,x)∈ck.xe->∀C,PySem.W.nsIn K nt cl=b6 (b6 (.ref C))->PySem.W.exmOne K (.ref C) (.ref D)=b6 cb
structure zo(P:y1)(w:F7)(K:PySem.W.Frag)(mg:Str->Option fx)(base:H9)(d:Nat)(F:List U->Option (Ex (Kd×U)))(f:Str):Prop where
 ex:∃(np:Nat) (fa:i6) (fd:Qy) (ps:List Str),jB P w K mg base (Lk P w) d fa fd ps (spT P w K F np)/\mg f=b6 (.ref fa)/\PySem.W.keepIn K (.ref fa)=cb/\Binds K fd ps []/\(∀us k u,F us=b6 (.ok (k,u))->(k=.own\/k=.loc\/k=.any)/\us.length=np)/\∀us c,F us=b6 (.exc c)->us.length=np
structure zp(P:y1)(w:F7)(K:PySem.W.Frag)(mg:Str->Option fx)(base:H9)(d:Nat)(F:List U->Option (Ex (Kd×U)))(f:Str)(is:List Nat):Prop where
 ex:∃(np:Nat) (fa:i6) (fd:Qy) (ps:List Str),jB P w K mg base Mw d fa fd ps (RK P w K F np is)/\mg f=b6 (.ref fa)/\PySem.W.keepIn K (.ref fa)=cb/\Binds K fd ps []/\∀us r,F us=b6 (.ok r)->us.length=np
structure UM(ck:Ck)(Γ:Tab)(P:y1)(w:F7)(K:PySem.W.Frag)(mg:Str->Option fx)(base:H9)(d:Nat):Prop where
 f:∀p∈ck.Im,zp P w K mg base d (Γ p.1) p.1 p.2
structure Gd(ck:Ck)(Γ:Tab)(C:Ct)(d:Nat)(X:Cx):Prop where
 P:C.P=X.prog
 w:C.w=X.w
 K:C.K=X.K
 u:X.A.units+60<N9
 calm:X.calm=cb
 room:eW d X.A
 blt:∀x∈bN,X.mg x=b7
 fns:∀f∈ck.fns,zo X.prog X.w X.K X.mg X.base d (Γ f) f
 Io:∀p∈ck.gl,∃val v,X.mg p.1=b6 val/\RelV v val/\∀S H,Rep C S H p.2 v
 Im:UM ck Γ X.prog X.w X.K X.mg X.base d
 KD:Lv ck X.K X.mg
def Gd.cx(g:Gd ck Γ C d X)(N:List Str)(a:Jy)(D:i6)(s:hW)(H:Hp)(ex:List i6):Gd ck Γ C d (Gh X N a D s H ex) :=
 #[g.P,g.w,g.K,g.u,g.calm,g.room,g.blt,g.fns,g.Io,g.Im,g.KD]
def je(h:qY a x=cb):JC a x:=by
 unfold qY at h;simp only[PN,Zz]at h;rcases h with(h|h)|h
 .show .inl h
 .show .inr (.inl h)
 .show .inr (.inr h)
def aH(h:cp x=cb):(x==("__debug__":Str))=dV/\(x==("__classdict__":Str))=dV:=by
 unfold cp at h;simpa using h
def bz(h:noStar e=cb):o5 (e::es) env=(dV,KZ e env)::o5 es env:=by
 cases e<;>first|rfl|cases h
def wN(h:jS e=cb):mV e:=by
 intro o i;cases e<;>first|rfl|cases h
def rh(h:qX e=cb):∀x,LK e env x=pure x:=by
 intro x;cases e<;>first|rfl|cases h
def jT(h:nV o=cb):Xb o name env a=a:=by
 cases o with
 |Call f as ks p =>
  cases f with
  |Name x q=>cases as with
   |nil=>cases ks with
    |nil=>cases h
    |cons _ _=>rfl
   |cons _ _=>rfl
  |_=>rfl
 |_=>rfl
def bO(h:∀e∈es,noStar e=cb):(Ma pos (o5 es env)).any (·.1)=dV/\(Ma pos (o5 es env)).all (λx=>!x.1)=cb:=by
 induction es with
 |nil=>show#[rfl,rfl]
 |cons e es a =>
  rw[bz (h e (by simp))];have:=a λb c=>h b (by simp[c]);constructor
  .change(dV||(Ma pos (o5 es env)).any (·.1))=dV;rw[this.1];rfl
  .change(!dV&&(Ma pos (o5 es env)).all (λx=>!x.1))=cb;rw[this.2];rfl
def cJ(h:aI k es N c a=cb):∀e∈a,noStar e=cb:=by
 induction es generalizing a with
 |nil =>
  cases a with
  |nil=>intro e he;cases he
  |cons _ _=>simp[aI]at h
 |cons x es b =>
  cases a with
  |nil=>intro e he;cases he
  |cons d a =>
   simp only[aI,df]at h;intro e he;rcases i1.mp he with rfl|he
   .show h.1.1
   .show b h.2 e he
def mi(a:∀x,fa x=cb->X.fn x=cb)(h:sN X.N X.env.scope fa i e=cb):qU X e i:=by
 cases e with
 |Name x p =>
  simp only[sN,df,Zz,jL,PN,DJ]at h;show#[x,p,rfl,h.1.1,?_,?_]
  .rcases h.1.2 with z|z
   .show .inl z
   .show .inr z
  .rcases h.2 with z|z
   .show .inl (a x z)
   .show .inr z
 |_=>cases h
theorem kL(a:∀x,fa x=cb->X.fn x=cb):∀{is:List Nat}{es:List tr},nW X.N X.env.scope fa is es=cb->eG X es is
 |[],[],_=>.nil
 |[],_::_,h=>by cases h
 |_::_,[],h=>by cases h
 |i::is,e::es,h=>by
  simp only[nW,df]at h;show .cons (mi a h.1) (kL a h.2)
def sO(d:X.calm=cb)(e:C.K=X.K)(a:X.N.Nodup)(b:∀x,fa x=cb->X.fn x=cb)(h:L_ t X.N X.env.scope fa is c=cb):PG X c (tG C t is):=by
 cases c with
 |Name x p =>
  simp only[L_,df,Fx]at h;have(rfl,h):=h;cases is with
  |nil=>cases h
  |cons i is=>cases is with
   |nil=>show BE a (mi b h)
   |cons _ _=>cases h
 |Tuple es k p =>
  simp only[L_,df,ux,Zz]at h;have((rfl,f),h2):=h;show Dm d e a (kL b f) h2
 |_=>cases h
def mj(a N:List Str):dO ((a++hide a N).drop a.length) N:=by
 rw[U7 rfl];unfold hide;split
 .show .refl N
 .show(dO.refl N).set _ (.inl rfl)
 .show((dO.refl N).set _ (.inl rfl)).set _ (.inr rfl)
abbrev Bf.VY:Bf->Bool
 |.len=>cb|.sorted=>cb|.repr=>cb|.max=>cb|.min=>cb|.all=>cb|.any=>cb|_=>dV
abbrev Bf.id:Bf->String
 |.len=>"len"|.sorted=>"sorted"|.repr=>"repr"|.max=>"max"|.min=>"min"|.all=>"all"|.any=>"any"
 |.list=>"list"|.tuple=>"tuple"|.str=>"str"|.int=>"int"
 |.dict=>"dict"
def zq:∀f:Bf,simple f=cb->IJ f.name=b6 f.val/\f.name∈bN/\f.name≠"__name__"/\(f.name==("__debug__":Str))=dV:=by
 intro f h;cases f<;>first|show⟨by decide +kernel,by decide +kernel,by decide +kernel,by decide +kernel⟩|(cases h;done)
def BX:∀f:Bf,simple f=cb->(f.val=.builtin f.id\/f.val=.type f.id):=by
 intro f h;cases f<;>first|show .inl rfl|show .inr rfl|(cases h;done)
def BY:∀f:B2,f.nQ∈bN/\f.iF∈bN:=by
 intro f;cases f<;>show#[by decide +kernel,by decide +kernel]
def zr:∀f:Mf,Slot "str" f.name f.id/\Yo (.builtin f.id)=pure (.type "method_descriptor"):=by
 intro f;cases f with
 |split=>show#[PySem.F.slot_str_split,PySem.F.type_str_split]
 |join=>show#[PySem.F.slot_str_join,PySem.F.type_str_join]
 |partition=>show#[PySem.F.slot_str_partition,PySem.F.type_str_partition]
 |endswith=>show#[PySem.F.slot_str_endswith,PySem.F.type_str_endswith]
section
def cR(h:Hb X.env.scope x=cb):Gl X x:=by
 unfold Hb at h;change X.env.kindOf x=b6 .globalImplicit;show ZD h
def wO:("isinstance":Str)∈bN:=by decide +kernel
def sP:("range":Str)∈bN:=by decide +kernel
def zZ(g:Gd ck Γ C d X)(h:fE X.env.scope o ik c=b6 as)(n:PA X as (G4 C (aY Γ src)))(r:∀a,as=[a]->∃e,src=[e]/\PE X a (Fs C (ev Γ e)))(k:∀e∈as,noStar e=cb):PI X o c (JN C ik (aY Γ src)):=by
 unfold fE at h;split at h
 .cases h;have(e,rfl,s):=r _ rfl;show BD g.K s
 .rw[wk]at h;have((x,bs),l,h):=h;split at h
  .rename_i m;cases h;have(f,i,hl):=m
   dsimp only at f i hl
   subst f;have(p,q,rfl):=jy l;have(b,rfl):=List.length_eq_one_iff.mp hl;show zi (cR i) (g.blt _ sP) (bz (k _ (by simp))) n
  .cases h
 .rw[wk]at h;have((x,bs),l,h):=h;split at h
  .rename_i m;cases h;have(f,i,hl):=m
   dsimp only at f i hl
   subst f;have(p,q,rfl):=jy l;obtain⟨b,j,rfl⟩:∃b j,bs=[b,j]:=by match bs,hl with|[b,j],_=>show#[b,j,rfl]
   have s1:=bz (env:=X.env) (es:=[]) (k _ (show _∈[_,_] from nc _ ov));show zj (cR i) (g.blt _ sP) (by rw[bz (k _ ov),s1];rfl) s1 n
  .cases h
 .cases h
def Gd.Ho(g:Gd ck Γ C d X):Gd ck Γ C d X.Ho :=
 #[g.P,g.w,g.K,g.u,g.calm,g.room,g.blt,g.fns,g.Io,g.Im,g.KD]
def z9{a:M α}{b:α->M β}{c:α->M γ}{g:γ->M δ}{st:aw}{Q:δ->aw->Prop}(w:W (a >>= λx=>b x >>= λ_=>c x >>= g) st Q):W ((a >>= λx=>b x >>= λ_=>c x) >>= g) st Q:=by
 simp only[ai]at w ⊢;show w
def bt:PT X e (GK C M.fail):=λa s σ H Q I ⟨_,_,_,_,w⟩=>(ba.mp w).elim
def eL:PE X e (Fs C M.fail):=λa s σ H Q I ⟨_,_,_,_,w⟩=>(ba.mp w).elim
def PT.eqv(h:PT X e (GK C m))(i:∀st Q,W a st Q->W m st Q):PT X e (GK C a):=PT.weak h λσ H Q ⟨b,c,d,ok,w⟩=>#[b,c,d,ok,i _ _ w]
def DK(g:Gd ck Γ C d X)(b:PA X a (G4 C (aY Γ es)))
  (h:(f7 (x=f.name)&&simple f&&Hb X.env.scope x&&!a.isEmpty&&aI ck es X.N X.env.scope a)=cb):PE X (.Call (.Name x p) a [] pos) (Fs C (ev Γ (.bi f es))):=by
 simp only[df,Zz,Fx]at h;obtain⟨⟨⟨⟨rfl,c⟩,h2⟩,o⟩,q⟩:=h;have(i,j,k,l):=zq f c;have m:=cJ q;cases a with
 |nil=>cases o
 |cons r n =>
  have st:=bz (env:=X.env) (es:=n) (m r (by simp));have sn:=(bO (pos:=pos) (env:=X.env) (es:=n) λe s=>m e (by simp[s])).1;rcases BX f c with hv|hv
  .show zc g.calm g.K g.room.gd g.u hv (cR h2) (g.blt _ j) (by rw[i,hv]) k l b st sn
  .show zd g.calm g.K g.room.gd g.u hv (cR h2) (g.blt _ j) (by rw[i,hv]) k l b st sn
def DL(g:Gd ck Γ C d X)(i:PA X a (G4 C (aY Γ es)))
  (h:(f7 (x=f.nQ)&&f7 (y=f.iF)&&Hb X.env.scope x&&Hb X.env.scope y&&!a.isEmpty&&aI ck es X.N X.env.scope a)=cb):PE X (.Call (.Name x p) [.Call (.Name y p2) a [] pos2] [] pos) (Fs C (ev Γ (.Js f es))):=by
 simp only[df,Zz,Fx]at h;obtain⟨⟨⟨⟨⟨rfl,rfl⟩,j⟩,h2⟩,k⟩,l⟩:=h;have(m,n):=BY f;have b:=cJ l;cases a with
 |nil=>cases k
 |cons o c =>
  have st:=bz (env:=X.env) (es:=c) (b o (by simp));have sn:=(bO (pos:=pos2) (env:=X.env) (es:=c) λe q=>b e (by simp[q])).1;show zh g.calm g.K (cR j) (g.blt _ m) (cR h2) (g.blt _ n) i st sn
def DM(g:Gd ck Γ C d X)(l:PE X o (Fs C (ev Γ a)))(n:PA X b (G4 C (aY Γ es)))
  (h:(f7 (name=m.name)&&nV o&&(c.endLine==i.line)&&!b.isEmpty&&f7 (b.length<20)&&bW ck a X.N X.env.scope o&&aI ck es X.N X.env.scope b)=cb):PE X (.Call (.Attribute o name c) b [] i) (Fs C (ev Γ (.Ky m a es))):=by
 simp only[df,Zz,Fx]at h;obtain⟨⟨⟨⟨⟨⟨rfl,p⟩,h2⟩,q⟩,r⟩,v⟩,s⟩:=h;have j:=cJ s;have(s1,s2):=zr m;cases b with
 |nil=>cases q
 |cons k f =>
  have st:=bz (env:=X.env) (es:=f) (j k (by simp));have sn:=(bO (pos:=i) (env:=X.env) (es:=f) λe t=>j e (by simp[t])).1;have u:=(bO (pos:=i) (env:=X.env) (es:=k::f) j).2;show zf g.K s1 s2 l n (jT p) ?_ h2 st sn;rw[u];have:(k::f).length+([]:List Q4).length+(if ([]:List Q4).isEmpty=cb then 0 else 1)<30:=by simp at r ⊢;lia
  simp only[ZC this];rfl
def wQ(g:Gd ck Γ C d X)(i:PA X a (G4 C (aY Γ es)))
  (h:(f7 (x=f)&&f7 (f∈ck.fns)&&Hb X.env.scope x&&cp x&&!a.isEmpty&&aI ck es X.N X.env.scope a)=cb):PE X (.Call (.Name x p) a [] pos) (Fs C (ev Γ (.call f es))):=by
 simp only[df,Zz,Fx]at h;obtain⟨⟨⟨⟨⟨rfl,j⟩,h2⟩,k⟩,l⟩,m⟩:=h;have b:=cJ m;have(v,fa,y,ps,n,o,q,r,s,_):=(g.fns _ j).ex;cases a with
 |nil=>cases l
 |cons t c =>
  have st:=bz (env:=X.env) (es:=c) (b t (by simp));have sn:=(bO (pos:=pos) (env:=X.env) (es:=c) λe u=>b e (by simp[u])).1;show wx g.P g.w g.K rfl s n g.room (cR h2) o q r (aH k).1 i st sn
def d6(h:(b&&aI k es N a c)=cb):aI k es N a c=cb:=(H4.mp h).2
mutual
theorem cq:∀(e:E) (X:Cx) (k:tr),Gd ck Γ C d X->bW ck e X.N X.env.scope k=cb->PE X k (Fs C (ev Γ e))
 |.var i,X,k,g,h=>by
  have(x,A,rfl,q):=aJ h;clear h;have h:=q;simp only[df,Zz]at h;have(h3,h4):=aH h.2;show sJ h.1.1 (je h.1.2) h3 h4
 |.cst u,X,k,g,h=>by
  have(c,q0,A,rfl,q):=ra h;cases c with
  |int j=>have:=dg q;subst this;show iE Ay λ_ _=>rfl
  |str y=>have:=dg q;subst this;show iE vc λ_ _=>rfl
  |bool y=>have:=dg q;subst this;show iE CA λ_ _=>rfl
  |none=>have:=dg q;subst this;show iE vb λ_ _=>rfl
  |_=>cases q
 |.IQ x u,X,k,g,h=>by
  have(y,A,rfl,q):=aJ h;clear h;have h:=q;simp only[df,Zz,KY]at h;obtain⟨⟨⟨rfl,L⟩,h2⟩,p,hp,G,e2⟩:=h;have:=dg e2;subst this G;have(val,v,q1,q2,q3):=g.Io p hp;show iE (yc (cR L) q1 q2 (aH h2).1) q3
 |.bin op a b,X,k,g,h=>by
  have(a',Lu,b',A,rfl,q):=q_ h;clear h;have h:=q;simp only[df,Zz]at h;have((rfl,L),h2):=h;show yS g.K (cq a X _ g L) (cq b X _ g h2)
 |.cmp op a b,X,k,g,h=>by
  have(a',Lu,b',A,rfl,B):=kJ h;have h:=B;simp only[df,Zz,Fx]at h;obtain⟨⟨⟨rfl,h0⟩,L⟩,h2⟩:=h;show yT g.P g.w g.K g.u (cq a X _ g L) (cq b X _ g h2) h0
 |.Jr o1 o2 a b c,X,k,g,h=>absurd (show dV=cb from h) o6
 |.and es,X,k,g,h=>by
  have(Fd,A,rfl,q):=jc h;clear h;have h:=q;show wR es X _ g h
 |.or es,X,k,g,h=>eL
 |.not a,X,k,g,h=>by
  have(a',A,rfl,q):=l_ h;clear h;have h:=q;show yV (cq a X _ g h)
 |.neg a,X,k,g,h=>absurd (show dV=cb from h) o6
 |.bad,X,k,g,h=>eL
 |.NU i,X,k,g,h=>eL
 |.inD neg a i,X,k,g,h=>eL
 |.NT i,X,k,g,h=>eL
 |.J4 i a b,X,k,g,h=>eL
 |.NV ln a b,X,k,g,h=>eL
 |.fst es,X,k,g,h=>by
  have(G,e2,l,A,rfl,q):=uJ h;clear h;have h:=q;show ze (BZ es X _ g h DD (by decide))
 |.NS a T,X,k,g,h=>eL
 |.ite c a b,X,k,g,h=>absurd (show dV=cb from h) o6
 |.tup es,X,k,g,h=>by
  have(l,q0,A,rfl,q):=dw h;clear h;have h:=q;show yZ (jM es X _ g h)
 |.lst es,X,k,g,h=>by
  have(l,A,rfl,q):=rb h;clear h;have h:=q;show y6 (jM es X _ g h)
 |.HY r,X,k,g,h=>by
  have(A,rfl):=uI h;show wt g.P g.w r
 |.idx a b,X,k,g,h=>by
  have(a',b',A,rfl,q):=gO h;clear h;have h:=q;simp only[df]at h;show y7 g.K g.u (wN h.1.1) (cq a X _ g h.1.2) (cq b X _ g h.2)
 |.G3 a lo hi,X,k,g,h=>by
  have(a',b',A,rfl,B):=gO h;have(RT,HP,p1,rfl,q):=rf B;clear h B;simp only[df]at q;show y9 g.K (cq a X _ g q.1.1) (DN lo X _ g q.1.2) (DN hi X _ g q.2)
 |.bi f es,X,k,g,h=>by
  have(f',as,A,rfl,B):=bB h;have(x,p1,rfl,O):=aJ B;have h:=O;show DK g (jM es X _ g (d6 h)) h
 |.Js f es,X,k,g,h=>by
  have(f',as,A,rfl,B):=bB h;have(x,p1,rfl,O):=aJ B;have(c,rfl,z3):=aU O;have(g',L3,p2,rfl,z4):=bB z3;have(y,p3,rfl,z5):=aJ z4;have h:=z5;show DL g (jM es X _ g (d6 h)) h
 |.Ky m a es,X,k,g,h=>by
  have(o,name,al,as,Ff,rfl,B):=fG h;have h:=B;have h':=h;simp only[df]at h';show DM g (cq a X _ g h'.1.2) (jM es X _ g (d6 h)) h
 |.call f es,X,k,g,h=>by
  have(f',as,A,rfl,B):=bB h;have(x,p1,rfl,O):=aJ B;have h:=O;show wQ g (jM es X _ g (d6 h)) h
 |.comp n t ik src cond e,X,k,g,h=>by
  have(elt,tg,Y,ac,scope,A,rfl,q):=jd h;clear h;have h:=q;simp only[df,Zz]at h;obtain⟨⟨⟨⟨⟨⟨⟨L,h2⟩,h3⟩,h4⟩,J⟩,h6⟩,h7⟩,h8⟩:=h;subst L;have S:=vJ (X:=X) rfl (mj _ _) h2;split at J
  .rename_i as has;have Fm:=cJ J;have hI:PI X tg Y (JN C ik (aY Γ src)):=zZ g has (jM src X _ g J) (λa e=>by
    subst e;cases src with
    |nil=>simp[aI]at J
    |cons G Fw =>
     cases Fw with
     |nil =>
      simp only[aI,df]at J;show#[G,rfl,cq G X _ g J.1.2]
     |cons _ _=>simp[aI]at J) Fm
   show wD S g.calm hI (λD s H ex=>sO (fa:=λx=>f7 (scope.names.lookup x=b6 .cell)) g.calm g.K S.nd (λ_ z=>z) h3)
    (λD s H ex=>by
     cases ac with
     |nil =>
      cases cond with
      |nil=>show λab s σ H Q I ⟨c0,G,e2,ok,w⟩=>r_ ab s σ H Q I (by subst G e2;rw[show aP Γ []=pure cb from rfl,ao]at w;show w c0 rfl rfl ok (Nx.refl c0))
      |cons _ _=>simp[aI]at h7
     |cons c1 cs =>
      cases cs with
      |nil =>
       cases cond with
       |nil=>simp[aI]at h7
       |cons G Fw =>
        cases Fw with
        |nil =>
         simp only[aI,df]at h7;show se (lP G (Gh X _ scope D s H ex) c1 (g.cx _ _ _ _ _ _) h7.1.2)
        |cons _ _=>simp[aI]at h7
      |cons _ _=>simp at h6)
    (λD s H ex=>cq e (Gh X _ scope D s H ex) elt (g.cx _ _ _ _ _ _) h8) (rh h4)
  .cases J
theorem BZ:∀(es:List E) (X:Cx) (c:List tr),Gd ck Γ C d X->uL ck es X.N X.env.scope c=cb->∀out:Str,out.length<=eF->PJ X out c (Fs C (J9 Γ es out >>= λy=>pure (.loc,.str y)))
 |[],X,c,g,h,out,hz=>by
  cases c with
  |nil=>show Bv hz
  |cons _ _=>simp[uL]at h
 |e::es,X,c,g,h,out,hz=>by
  simp only[uL]at h;split at h
  .simp only[df]at h;have z:=Bx (p:=by assumption) (out:=out) (cq e X _ g h.1) λy b=>BZ es X _ g h.2 y b;rintro a s σ H Q I ⟨f,i,j,ok,w⟩;show z a s σ H Q I #[f,i,j,ok,?_];simp only[J9,ai]at w ⊢;show w
  .simp only[df]at h;cases e with
   |cst u =>
    have l:=dg h.1;subst l;rintro a s σ H Q I ⟨f,i,j,ok,w⟩;simp only[J9,ai]at w;rw[show ev Γ (.cst (.str _))=pure (.loc,.str _) from rfl,ao]at w;have(m,b,w):=cP.mp w;simp only[lM]at b;split at b
    .rename_i k;cases b;show Bw (BZ es X _ g h.2 _ k.2) k.2 a s σ H Q I #[f,i,j,ok,by rw[ai];show w]
    .cases b
   |_=>simp at h
  .cases h
theorem jM:∀(es:List E) (X:Cx) (a:List tr),Gd ck Γ C d X->aI ck es X.N X.env.scope a=cb->PA X a (G4 C (aY Γ es))
 |[],X,a,g,h=>by
  cases a with
  |nil=>show yY
  |cons _ _=>simp[aI]at h
 |e::es,X,a,g,h=>by
  cases a with
  |nil=>simp[aI]at h
  |cons b a =>
   simp only[aI,df]at h;show wo (cq e X b g h.1.2) (jM es X a g h.2) (bz h.1.1)
theorem DN:∀(es:List E) (X:Cx) (o:Option tr),Gd ck Γ C d X->rg ck es X.N X.env.scope o=cb->PO X o (tO C (Lm Γ es))
 |[],X,o,g,h=>by
  cases o with
  |none=>show fT
  |some _=>simp[rg]at h
 |[e],X,o,g,h=>by
  cases o with
  |none=>simp[rg]at h
  |some a=>simp only[rg]at h;show uB (cq e X a g h)
 |_::_::_,X,o,g,h=>by simp[rg]at h
theorem wR:∀(es:List E) (X:Cx) (a:List tr),Gd ck Γ C d X->aI ck es X.N X.env.scope a=cb->∀{pos},PE X (.BoolOp .And a pos) (Fs C (iD Γ es))
 |[],X,a,g,h,pos=>eL
 |[e],X,a,g,h,pos=>by
  cases a with
  |nil=>simp[aI]at h
  |cons b a =>
   cases a with
   |nil=>simp only[aI,df]at h;show AD (cq e X b g h.1.2)
   |cons _ _=>simp[aI]at h
 |e::c::es,X,a,g,h,pos=>by
  cases a with
  |nil=>simp[aI]at h
  |cons b a =>
   have h':noStar b=cb/\bW ck e X.N X.env.scope b=cb/\aI ck (c::es) X.N X.env.scope a=cb:=by
    rw[aI]at h;simp only[df]at h;show#[h.1.1,h.1.2,h.2]
   cases a with
   |nil=>have:=h'.2.2;simp[aI]at this
   |cons f i=>show snd_and (cq e X b g h'.2.1) (wR (c::es) X _ g h'.2.2)
theorem lP:∀(e:E) (X:Cx) (j:tr),Gd ck Γ C d X->bW ck e X.N X.env.scope j=cb->PT X j (GK C (FF Γ e))
 |.and es,X,j,g,h=>by
  have(q,l,rfl,k):=jc h;clear h;have h:=k;show(sQ es X _ g h).pt
 |.or es,X,j,g,h=>by
  have(q,l,rfl,k):=jc h;clear h;have h:=k;show(wU es X _ g h).pt
 |.not a,X,j,g,h=>by
  have(s,l,rfl,k):=l_ h;clear h;have h:=k;show yW (lP a X _ g h)
 |.cmp op a b,X,j,g,h=>by
  have(s,B,D,l,rfl,o):=kJ h;have h:=o;simp only[df,Zz,Fx]at h;obtain⟨⟨⟨rfl,v⟩,y⟩,h2⟩:=h;show yU g.P g.w g.K g.u (cq a X _ g y) (cq b X _ g h2) v
 |.Jr o1 o2 a b c,X,j,g,h=>absurd (show dV=cb from h) o6
 |.var i,X,j,g,h=>by
  have(x,l,rfl,k):=aJ h;simp only[df,Zz]at k;have(z,A):=aH k.2;show nO (sJ k.1.1 (je k.1.2) z A) g.K λ_=>rfl
 |.idx a b,X,j,g,h=>bt
 |.bi f es,X,j,g,h=>by
  have(f',as,l,rfl,o):=bB h;have(x,p1,rfl,p):=aJ o;have h:=p;show PT.eqv (nO (DK g (jM es X _ g (d6 h)) h) g.K λ_=>rfl) λst Q w=>z9 w
 |.Js f es,X,j,g,h=>bt
 |.Ky m a es,X,j,g,h=>bt
 |.call f es,X,j,g,h=>by
  have(f',as,l,rfl,o):=bB h;have(x,p1,rfl,p):=aJ o;have h:=p;show PT.eqv (nO (wQ g (jM es X _ g (d6 h)) h) g.K λ_=>rfl) λst Q w=>z9 w
 |.cst u,X,j,g,h=>bt
 |.fst es,X,j,g,h=>bt
 |.IQ x u,X,j,g,h=>bt
 |.neg a,X,j,g,h=>bt
 |.NS a T,X,j,g,h=>bt
 |.bad,X,j,g,h=>bt
 |.inD neg a i,X,j,g,h=>bt
 |.NT i,X,j,g,h=>bt
 |.NV G a b,X,j,g,h=>bt
 |.NU i,X,j,g,h=>bt
 |.J4 i a b,X,j,g,h=>bt
 |.bin op a b,X,j,g,h=>bt
 |.ite c a b,X,j,g,h=>bt
 |.tup es,X,j,g,h=>bt
 |.lst es,X,j,g,h=>bt
 |.HY r,X,j,g,h=>bt
 |.G3 a lo hi,X,j,g,h=>bt
 |.comp n t ik src cond e,X,j,g,h=>bt
theorem sQ:∀(es:List E) (X:Cx) (a:List tr),Gd ck Γ C d X->aI ck es X.N X.env.scope a=cb->∀{pos},PW X (.BoolOp .And a pos) (GK C (aP Γ es))
 |[],X,a,g,h,pos=>by
  cases a with
  |nil =>
   rintro j f s σ H Q I ⟨c,rfl,rfl,ok,w⟩;rw[show aP Γ []=pure cb from rfl,ao]at w;show Zu #[c.H,I,w c rfl rfl ok (Nx.refl c)]
  |cons _ _=>simp[aI]at h
 |[e],X,a,g,h,pos=>by
  cases a with
  |nil=>simp[aI]at h
  |cons b a =>
   cases a with
   |nil=>simp only[aI,df]at h;show ye (lP e X b g h.1.2)
   |cons _ _=>simp[aI]at h
 |e::i::es,X,a,g,h,pos=>by
  cases a with
  |nil=>simp[aI]at h
  |cons b a =>
   have h':noStar b=cb/\bW ck e X.N X.env.scope b=cb/\aI ck (i::es) X.N X.env.scope a=cb:=by
    rw[aI]at h;simp only[df]at h;show#[h.1.1,h.1.2,h.2]
   cases a with
   |nil=>have:=h'.2.2;simp[aI]at this
   |cons k l=>show yX (lP e X b g h'.2.1) (sQ (i::es) X _ g h'.2.2)
theorem wU:∀(es:List E) (X:Cx) (a:List tr),Gd ck Γ C d X->aI ck es X.N X.env.scope a=cb->∀{pos},PW X (.BoolOp .Or a pos) (GK C (fv Γ es))
 |[],X,a,g,h,pos=>by
  cases a with
  |nil =>
   rintro j f s σ H Q I ⟨c,rfl,rfl,ok,w⟩;rw[show fv Γ []=pure dV from rfl,ao]at w;show isTrue_or_nil #[c.H,I,w c rfl rfl ok (Nx.refl c)]
  |cons _ _=>simp[aI]at h
 |[e],X,a,g,h,pos=>by
  cases a with
  |nil=>simp[aI]at h
  |cons b a =>
   cases a with
   |nil=>simp only[aI,df]at h;show Az (lP e X b g h.1.2)
   |cons _ _=>simp[aI]at h
 |e::i::es,X,a,g,h,pos=>by
  cases a with
  |nil=>simp[aI]at h
  |cons b a =>
   have h':noStar b=cb/\bW ck e X.N X.env.scope b=cb/\aI ck (i::es) X.N X.env.scope a=cb:=by
    rw[aI]at h;simp only[df]at h;show#[h.1.1,h.1.2,h.2]
   cases a with
   |nil=>have:=h'.2.2;simp[aI]at this
   |cons k l=>show Br (lP e X b g h'.2.1) (wU (i::es) X _ g h'.2.2)
end
end
abbrev Nb(b:Jy)(x:Str)(a:Nat):tr->Bool
 |.ListComp elt gens s pos=>f7 (b.names.lookup x=b6 .local)&&(a==pos.line)&&!(s.names.any λ(n,k)=>n==x&&(k==.local||k==.cell))
 |_=>dV
abbrev pN(s:Ll)(k:tr->Bool):Bool:=match s with|.Expr e _=>k e|_=>dV
def gP(h:pN s k=cb):∃e p,s=.Expr e p/\k e=cb:=by
 unfold pN at h;split at h
 .show#[_,_,rfl,h]
 .cases h
abbrev mq(s:Ll)(k:tr->tr->Bool):Bool:=match s with|.Assign a v _=>du a λt=>k t v|_=>dV
def eO(h:mq s k=cb):∃t v p,s=.Assign [t] v p/\k t v=cb:=by
 unfold mq at h;split at h
 .have(t,rfl,a):=aU h;show#[_,_,_,rfl,h]
 .cases h
abbrev wV(s:Ll)(k:tr->Bool):Bool:=match s with|.Raise (b6 e) b7 _=>k e|_=>dV
def rj(h:wV s k=cb):∃e p,s=.Raise (b6 e) b7 p/\k e=cb:=by
 unfold wV at h;split at h
 .show#[_,_,rfl,h]
 .cases h
abbrev wW(s:Ll)(k:Ll->ExceptHandler->Bool):Bool:=match s with|.Try b hs [] [] _=>du b λb=>du hs λh=>k b h|_=>dV
def rl(h:wW s k=cb):∃b hd p,s=.Try [b] [hd] [] [] p/\k b hd=cb:=by
 unfold wW at h;split at h
 .have(b,rfl,a):=aU h;have(hd,rfl,c):=aU a;show#[_,_,_,rfl,c]
 .cases h
abbrev wX(s:Ll)(k:Str->tr->Bool):Bool:=mq s λt v=>cH t λy=>k y v
def f9(h:wX s k=cb):∃y p v a,s=.Assign [.Name y p] v a/\k y v=cb:=by
 have(t,v,a,rfl,z):=eO h;have(y,p,rfl,z):=aJ z;show#[y,p,v,a,rfl,z]
abbrev B0(e:tr)(k:Str->Pos->Bool):Bool:=match e with|.Name x p=>k x p|_=>dV
def uM(h:B0 e k=cb):∃x p,e=.Name x p/\k x p=cb:=by
 unfold B0 at h;split at h
 .show#[_,_,rfl,h]
 .cases h
abbrev sR(s:Ll)(k:Option tr->Bool):Bool:=match s with|.Return v _=>k v|_=>dV
def kM(h:sR s k=cb):∃v p,s=.Return v p/\k v=cb:=by
 unfold sR at h;split at h
 .show#[_,_,rfl,h]
 .cases h
abbrev DO(v:Option tr)(k:tr->Bool):Bool:=match v with|some e=>k e|none=>dV
def uN(h:DO v k=cb):∃e,v=b6 e/\k e=cb:=by
 cases v with
 |none=>cases h
 |some e=>show#[e,rfl,h]
abbrev sT(s:Ll)(k:tr->List Ll->List Ll->Bool):Bool:=match s with|.If c a b _=>k c a b|_=>dV
def kN(h:sT s k=cb):∃c a b p,s=.If c a b p/\k c a b=cb:=by
 unfold sT at h;split at h
 .show#[_,_,_,_,rfl,h]
 .cases h
abbrev wY(s:Ll)(k:tr->tr->List Ll->Bool):Bool:=match s with|.For t i b o _=>o.isEmpty&&k t i b|_=>dV
def rm(h:wY s k=cb):∃t i b p,s=.For t i b [] p/\k t i b=cb:=by
 unfold wY at h;split at h
 .rw[df,LN]at h;have(rfl,h):=h;show#[_,_,_,_,rfl,h]
 .cases h
abbrev B1(s:Ll)(k:tr->List Ll->Bool):Bool:=match s with|.While c b o _=>o.isEmpty&&k c b|_=>dV
def uO(h:B1 s k=cb):∃c b p,s=.While c b [] p/\k c b=cb:=by
 unfold B1 at h;split at h
 .rw[df,LN]at h;have(rfl,h):=h;show#[_,_,_,rfl,h]
 .cases h
abbrev pO(n:Nat)(s:Ll):Bool:=match s with|.Break _=>n==0|.Continue _=>n==1|.Pass _=>n==2|_=>dV
def gQ(h:pO n s=cb):(n=0/\∃p,s=.Break p)\/(n=1/\∃p,s=.Continue p)\/(n=2/\∃p,s=.Pass p):=by
 unfold pO at h;split at h
 .show .inl #[by simpa using h,_,rfl]
 .show .inr (.inl #[by simpa using h,_,rfl])
 .show .inr (.inr #[by simpa using h,_,rfl])
 .cases h
abbrev Qp(k:Ck)(f:Str)(es:List E)(N:List Str)(a:Jy)(v:tr):Bool:=uK v f λas=>f7 (f∈k.fns)&&Hb a f&&cp f&&!as.isEmpty&&aI k es N a as
abbrev zt(k:Ck):RE->List Str->Jy->tr->Bool
 |.call f es,N,a,v=>Qp k f es N a v
 |.Fh r,N,a,v=>uK v "dict" λas=>du as λb=>Hb a "dict"&&noStar b&&zt k r N a b
abbrev B3(v:tr)(k:List tr->Bool):Bool:=match v with|.List es _=>k es|_=>dV
def uP(h:B3 v k=cb):∃es p,v=.List es p/\k es=cb:=by
 unfold B3 at h;split at h
 .show#[_,_,rfl,h]
 .cases h
abbrev wZ(s:ExceptHandler)(k:tr->Str->Ll->Ll->Bool):Bool:=match s with|.ExceptHandler (b6 t) (b6 n) [a,b] _=>k t n a b|_=>dV
def rn(h:wZ s k=cb):∃t n a b p,s=.ExceptHandler (b6 t) (b6 n) [a,b] p/\k t n a b=cb:=by
 unfold wZ at h;split at h
 .show#[_,_,_,_,_,rfl,h]
 .cases h
abbrev Qq(k:Ck)(i:Nat)(f:Str)(es:List E)(N:List Str)(c:Jy)(s:Ll):Bool:=wX s λy v=>f7 (N[i]?=b6 y)&&jL c y&&kK v λl=>l9 l λa b=>noStar a&&noStar b&&Qp k f es N c a&&bW k (.lst []) N c b
abbrev RU(k:Ck)(i:Nat)(c:E)(f:Str)(es:List E)(g:Str)(e:List E)(N:List Str)(d:Jy)(s:Ll):Bool:=sT s λh a b=>du a λa=>du b λb=>bW k c N d h&&Qq k i f es N d a&&Qq k i g e N d b
abbrev d7(a:Jy):List tr->List Str->Bool
 |[],[]=>cb
 |e::es,D::b=>isNm e D&&Hb a D&&cp D&&d7 a es b
 |_,_=>dV
abbrev UN(n:Str)(v:tr)(G:List Str)(a:Jy):Bool:=uK v "isinstance" λas=>l9 as λx y=>isNm x n&&kK y λl=>d7 a l G
abbrev Qr(n:Str)(v:tr)(A:Str)(a:Jy):Bool:=uK v "isinstance" λas=>l9 as λx y=>isNm x n&&d7 a [y] [A]
abbrev RV(n z:Str)(A B:Str)(d:Jy)(l:List tr):Bool:=match l with|[a,b,c]=>Qr n a A d&&Qr n b B d&&isNm c z|_=>dV
abbrev DP(e:tr):Bool:=match e with|.Constant .none _ _=>cb|_=>dV
abbrev RW(n z:Str)(v:tr)(A B:Str)(c:Jy):Bool:=kK v λl=>l9 l λa b=>DP a&&B3 b λl=>RV n z A B c l
abbrev UO(n:Str)(s1 s2:Ll)(A B:Str)(G:List Str)(N:List Str)(a:Jy)(i o:Nat):Bool:=wX s1 λz v=>wX s2 λy b=>UN n v G a&&RW n z b A B a&&Hb a "isinstance"&&f7 (N[o]?=b6 z)&&jL a z&&qY a z&&cp z&&f7 (N[i]?=b6 y)&&jL a y
abbrev RX(k:Ck)(x:Str)(a:List Str)(A B:Str)(G:List Str):Bool:=!G.isEmpty&&f7 (G.length<100)&&a.all λc=>f7 ((c,x)∈k.xd)&&f7 ((c,A,cb)∈k.xi)&&f7 ((c,B,cb)∈k.xi)&&G.all λD=>f7 ((c,D,dV)∈k.xi)
mutual
noncomputable def w9(k:Ck):S->List Str->Jy->Ll->Bool
 |.set i e,N,d,s=>mq s λt v=>B0 t λx p=>f7 (N[i]?=b6 x)&&jL d x&&f7 (d.kind=.function)&&bW k e N d v&&(da v||Nb d x p.line v||(match v with|.ListComp _ _ _ _=>cb|_=>dV))&&(match e with|.comp _ _ _ _ _ _=>cb|_=>da v)
 |.J5 is e,N,d,s=>mq s λt v=>kK t λ_=>L_ cb N d (λ_=>cb) is t&&da v&&BP v&&bW k e N d v
 |.put i a b,N,d,s=>mq s λt q=>pL t λo u=>cH o λx=>f7 (N[i]?=b6 x)&&qY d x&&cp x&&da q&&jS u&&bW k a N d u&&bW k b N d q
 |.app i e,N,d,s=>pN s λc=>nY c λo m h as y=>cH o λx=>du as λa=>f7 (m="append")&&f7 (N[i]?=b6 x)&&qY d x&&cp x&&(h.endLine==y.line)&&noStar a&&bW k e N d a
 |.ext i e,N,d,s=>pN s λc=>nY c λo m h as y=>cH o λx=>du as λa=>f7 (m="extend")&&f7 (N[i]?=b6 x)&&qY d x&&cp x&&(h.endLine==y.line)&&noStar a&&bW k e N d a
 |.bad,_,_,_=>cb
 |.newD _,_,_,_=>dV
 |.aug _ _ _ _,_,_,_=>dV
 |.NW _,_,_,_=>dV
 |.putD _ _ _,_,_,_=>dV
 |.J6 _ _ _,_,_,_=>dV
 |.exp e,N,d,s=>pN s λw=>da w&&bW k e N d w
 |.ret e,N,d,s=>sR s λv=>DO v λw=>bW k e N d w
 |.GJ i r,N,d,s=>wX s λx v=>f7 (N[i]?=b6 x)&&jL d x&&da v&&zt k r N d v
 |.J8 i c f es g H x I j o A B G,N,d,s=>wW s λb hd=>wZ hd λt n s1 s2=>RU k i c f es g H N d b&&UO n s1 s2 A B G N d i o&&isNm t x&&Hb d x&&cp x&&RX k x I A B G&&f7 (N[j]?=b6 n)&&f7 (d.names.lookup n=b6 .local)&&cp n&&f7 (i≠j)&&f7 (o≠j)
 |.J7,N,d,s=>sR s λv=>v.isNone
 |.ite c a b,N,d,s=>sT s λz u q=>bW k c N d z&&dy k a N d u&&dy k b N d q
 |.F0 t is ik src body,N,d,s=>wY s λD l C=>L_ t N d (λ_=>cb) is D&&qX l&&(match fE d D ik l with
    |some as=>aI k src N d as
    |none=>dV)&&dy k body N d C
 |.NX c body,N,d,s=>B1 s λz C=>bW k c N d z&&dy k body N d C
 |.brk,_,_,s=>pO 0 s
 |.cnt,_,_,s=>pO 1 s
 |.M3 _,_,_,_=>dV
 |.Jt c e,N,d,s=>wV s λr=>uK r c λas=>du as λa=>f7 (c∈k.xc)&&Hb d c&&cp c&&noStar a&&bW k e N d a
 |.NY,_,_,s=>pO 2 s
noncomputable def dy(k:Ck):List S->List Str->Jy->List Ll->Bool
 |[],_,_,a=>a.isEmpty
 |s::ss,N,b,a=>match a with
  |s'::a=>w9 k s N b s'&&dy k ss N b a
  |[]=>dV
end
section
variable{ck:Ck}{Γ:Tab}{C:Ct}{d:Nat}{X:Cx}
def jf(h:jL a x=cb):Loc a x:=by
 unfold jL at h;simp only[PN,Zz]at h;show h
def iH(h:da v=cb):OI v t a env=pure dV:=by
 cases v<;>first|rfl|cases h
def sU(h:da v=cb):Rf [t] v a env=pure dV:=by
 rw[Rf];show iH h
def zu(h:jS i=cb):∀v,Rg (.Subscript o i p) env v=(do
   let a <-OB [v] (KZ o env)
   let b <-OB [v,a] (KZ i env)
   Xv p
   OB [v,a,b] (Xx a b v)
   release [v,a,b] []):=by
 intro v;cases i<;>first|rfl|cases h
structure Gs(ck:Ck)(Γ:Tab)(C:Ct)(d:Nat)(X:Cx):Prop where
 gd:Gd ck Γ C d X
 nd:X.N.Nodup
 fn:∀x,X.fn x=cb
 po:Wl (j0 X.prog X.w) X.A X.env X.xe
 kd:X.env.scope.kind=.function
 xs:Lv ck X.K X.mg
 xl:∀c H',C.xw (.str c) H'->∀C' T H pins σ s e s',PySem.W.nsIn X.K nt c=b6 (b6 (.ref C'))->Inv X pins σ H s->bF X.prog X.w X.stack H s e C' T .none H' s'->X.xe (.ref e) s'
 sk:X.stack=X.env::X.outer/\X.env.frame=b6 X.env.locals
 ex:X.ex=[]
def sV(g:Gd ck Γ C d X)(h:(match fE X.env.scope f ik b with|some as=>aI ck src X.N X.env.scope as|none=>dV)=cb):PI X f b (JN C ik (aY Γ src)):=by
 split at h
 .rename_i as has;show zZ g has (jM src X _ g h) (λa e=>by
   subst e;cases src with
   |nil=>simp[aI]at h
   |cons c i =>
    cases i with
    |nil =>
     simp only[aI,df]at h;show#[c,rfl,cq c X _ g h.1.2]
    |cons _ _=>simp[aI]at h) (cJ h)
 .cases h
def kO{pos p a:Pos}(hk:X.env.scope.kind=.function):OI (.ListComp elt gens s pos) (b6 (.Name x p)) a.line X.env=pure (Nb X.env.scope x p.line (.ListComp elt gens s pos)):=by
 have b:X.env.blockKind=.function:=by
  unfold Env.blockKind;rw[hk];rfl
 change(pure (X.env.blockKind==.function&&X.env.kindOf x==b6 .local&&p.line==pos.line&&!(s.names.any λ(n,k)=>n==x&&(k==.local||k==.cell))):Sem Bool)=_;rw[b];unfold Nb;congr 1
 have:(X.env.kindOf x==b6 NameKind.local)=f7 (X.env.scope.names.lookup x=b6 .local):=by
  unfold Env.kindOf;rw[G8];simp
 rw[this];rfl
def B4{src cond:List E}(G:Gs ck Γ C d X)(hi:X.N[i]?=b6 x)(y:jL X.env.scope x=cb)
  (h:bW ck (.comp n t ik src cond e) X.N X.env.scope (.ListComp elt [⟨m,a,b,0⟩] scope pos)=cb) (ns:Nat->Bool) (o:∀j,ns j=cb->j≠i) :
  L2.PS X (.Assign [.Name x p] (.ListComp elt [⟨m,a,b,0⟩] scope pos) Iq) (F5 C ns (ev Γ (.comp n t ik src cond e) >>= λr=>cQ i r >>= λ_=>pure .nx)):=by
 have g:=G.gd;have q:=cq (.comp n t ik src cond e) X _ g h;cases k:Nb X.env.scope x p.line (.ListComp elt [⟨m,a,b,0⟩] scope pos) with
 |false=>show zX o G.nd hi (jf y) (.inl (G.fn x)) q (by rw[kO G.kd,k])
 |true =>
  have hl:X.env.scope.names.lookup x=b6 .local:=by
   simp only[Nb,df,Zz]at k;show k.1.1
  have(UP,VZ,RY,UQ,Qs,p',A,u):=jd h;cases A;clear h q;simp only[df,Zz]at u;obtain⟨⟨⟨⟨⟨⟨⟨B,h2⟩,J⟩,L⟩,O⟩,T⟩,c⟩,Y⟩:=u;subst B;have S:=vJ (X:=X) rfl (mj _ _) h2;show BI o S g.calm G.nd hi hl (sV g O) (λD s H ex=>sO (fa:=λx=>f7 (scope.names.lookup x=b6 .cell)) g.calm g.K S.nd (λ_ z=>z) J)
   (λD s H ex=>by
    cases b with
    |nil =>
     cases cond with
     |nil=>show λf s σ H Q I ⟨v,l,e2,ok,w⟩=>r_ f s σ H Q I (by subst l e2;rw[show aP Γ []=pure cb from rfl,ao]at w;show w v rfl rfl ok (Nx.refl v))
     |cons _ _=>simp[aI]at c
    |cons c1 cs =>
     cases cs with
     |nil =>
      cases cond with
      |nil=>simp[aI]at c
      |cons l Fw =>
       cases Fw with
       |nil =>
        simp only[aI,df]at c;show se (lP l (Gh X _ scope D s H ex) c1 (g.cx _ _ _ _ _ _) c.1.2)
       |cons _ _=>simp[aI]at c
     |cons _ _=>simp at T)
   (λD s H ex=>cq e (Gh X _ scope D s H ex) elt (g.cx _ _ _ _ _ _) Y) (by rw[kO G.kd,k]) (rh L)
def zv(G:Gs ck Γ C d X)(h:w9 ck (.Jt c e) X.N X.env.scope s'=cb):L2.PS X s' (F5 C (L7 (.Jt c e)) (exec Γ (.Jt c e))):=by
 have(r,t,rfl,g):=rj h;have(as,p1,p2,rfl,i):=d5 g;have(a,rfl,f):=aU i;simp only[df,Zz]at f;obtain⟨⟨⟨⟨j,h2⟩,k⟩,l⟩,m⟩:=f;have(n,o,p,q):=G.xs.xc _ j;show DC G.gd.calm (cR h2) o (aH k).1 q (cq e X a G.gd m) (bz (es:=[]) l) λH' w b σ s e s' I F=>G.xl _ H' w n b7 H' b σ s e s' p I F
def DQ(g:Gd ck Γ C d X)(h:Qp ck f es X.N X.env.scope v=cb):Ke X C v (aY Γ es >>= λrs=>au rs >>= λ_=>bG Γ f (rs.map (·.2))):=by
 have(as,p2,p3,rfl,z):=d5 h;simp only[df,Zz,Fx]at z;obtain⟨⟨⟨⟨i,j⟩,k⟩,l⟩,a⟩:=z;have b:=cJ a;have(u,fa,x,ps,m,n,o,p,q,r):=(g.fns _ i).ex;cases as with
 |nil=>cases l
 |cons s c =>
  have st:=bz (env:=X.env) (es:=c) (b s (by simp));have sn:=(bO (pos:=p3) (env:=X.env) (es:=c) λe t=>b e (by simp[t])).1;show BL g.P g.w g.K rfl q r m g.room (cR j) n o p (aH k).1 (jM es X.Ho _ (Gd.Ho g) a) st sn
theorem DR(G:Gs ck Γ C d X):∀(r:RE) (v:tr),zt ck r X.N X.env.scope v=cb->Ke X C v (J_ Γ r)
 |.call f es,v,h=>DQ G.gd h
 |.Fh r,v,h=>by
  have(as,p2,p3,rfl,z):=d5 h;have(a,rfl,z):=aU z;have z:(Hb X.env.scope "dict"&&noStar a&&zt ck r X.N X.env.scope a)=cb:=z;simp only[df]at z;have((b,c),e):=z;show DF G.gd.calm G.gd.K G.gd.room.gd G.gd.u (cR b) (G.gd.blt _ (by decide)) (DR G r _ e) (bz (es:=[]) c)
def w_(G:Gs ck Γ C d X)(h:w9 ck (.GJ i r) X.N X.env.scope s'=cb):L2.PS X s' (F5 C (L7 (.GJ i r)) (exec Γ (.GJ i r))):=by
 have(y,p,v,f,rfl,z):=f9 h;simp only[df,Zz]at z;obtain⟨⟨⟨a,h2⟩,b⟩,c⟩:=z;show BN (λn e=>ZD e) G.nd a (jf h2) (G.fn _) (DR G r _ c) (iH b) G.xl
def rp(o:BW ck X.K X.mg)(h:d7 X.env.scope [e] [D]=cb)(f:(c,D,b)∈ck.xi):∃p k g,e=.Name D p/\PE X (.Name D p) (tC k)/\(∀u,RelV k u->u=g)/\∀a,PySem.W.nsIn X.K nt c=b6 (b6 (.ref a))->dH X.K a=cb/\PySem.W.kitOne X.K (.ref a) g=b6 b:=by
 simp only[d7,df]at h;obtain⟨⟨⟨q,h2⟩,r⟩,_⟩:=h;have(p,rfl):=cI q;have(g,t,l):=o D #[_,f,rfl];rcases t with⟨m,rfl,i⟩|⟨rfl,rfl,i⟩
 .show#[p,.ref m,_,rfl,λn s σ H Q I z=>fQ I (cR h2) i #[.ref m,H,I,rfl,z] (aH r).1,λu z=>z,λa j=>l _ f rfl a j]
 .show#[p,.ty "ValueError",_,rfl,yd (cR h2) i (show IJ "ValueError"=b6 (.type "ValueError") by decide +kernel) rfl (by decide +kernel) (by decide +kernel),λu z=>z,λa j=>l _ f rfl a j]
theorem sW(a:BW ck X.K X.mg):∀{es:List tr}{G:List Str},d7 X.env.scope es G=cb->(∀D∈G,(c,D,dV)∈ck.xi)->(∃ds,jK X c es ds)
 |[],[],_,_=>#[[],.nil]
 |[],_::_,h,_=>by simp[d7]at h
 |_::_,[],h,_=>by simp[d7]at h
 |e::es,D::G,h,b=>by
  have f:d7 X.env.scope [e] [D]=cb:=by
   simp only[d7,df]at h ⊢;show#[h.1,trivial]
  have h2:d7 X.env.scope es G=cb:=by
   simp only[d7,df]at h;show h.2
  have(p,j,k,rfl,k1,k2,k3):=rp a f (b D ov);have(ds,g):=sW a h2 λD i=>b D (nc _ i);show#[_,.cons k1 k2 k3 g]
theorem sX:∀{es:List tr}{G:List Str},d7 a es G=cb->es.length=G.length
 |[],[],_=>rfl
 |[],_::_,h=>by simp[d7]at h
 |_::_,[],h=>by simp[d7]at h
 |e::es,D::G,h=>by
  simp only[d7,df]at h;simp[sX h.2]
def z_(G:Gs ck Γ C d X)(h:Qq ck i f es X.N X.env.scope s'=cb):Ls X C i s' ((aY Γ es >>= λrs=>au rs >>= λ_=>bG Γ f (rs.map (·.2))) >>= jJ (ev Γ (.lst []))):=by
 have(y,p,v,r,rfl,z):=f9 h;clear h;rw[df,df,Zz]at z;have((e,h2),g):=z;have(l,q,p2,rfl,j):=dw g;have(a,b,rfl,c):=eJ j;simp only[df]at c;obtain⟨⟨⟨k,m⟩,n⟩,o⟩:=c;show BO G.nd e (jf h2) (G.fn _) (DG (DQ G.gd n) (cq (.lst []) X.Ho _ (Gd.Ho G.gd) o) (bz k) (bz (es:=[]) m)) rfl
def DS(G:Gs ck Γ C d X)(h:RU ck i c f es g e X.N X.env.scope s'=cb):Ls X C i s' (FF Γ c >>= λp=>if p=cb then((aY Γ es >>= λrs=>au rs >>= λ_=>bG Γ f (rs.map (·.2))) >>= jJ (ev Γ (.lst []))) else((aY Γ e >>= λrs=>au rs >>= λ_=>bG Γ g (rs.map (·.2))) >>= jJ (ev Γ (.lst [])))):=by
 have(l,a0,m,p,rfl,j):=kN h;have(a,rfl,k):=aU j;have(b,rfl,z):=aU k;rw[df,df]at z;show DH (lP c X.Ho _ (Gd.Ho G.gd) z.1.1) (z_ G z.1.2) (z_ G z.2)
def Aa(h:Qr n v A e=cb):∃f g b i,v=.Call (.Name "isinstance" f) [.Name n g,.Name A b] [] i/\d7 e [.Name A b] [A]=cb:=by
 have(as,k,l,rfl,j):=d5 h;have(x,y,rfl,a):=eJ j;rw[df]at a;have(m,rfl):=cI a.1;have c:=a.2;simp only[d7,df]at c;have(o,rfl):=cI c.1.1.1;show#[_,_,_,_,rfl,a.2]
def DT(h:RW n z v A B g=cb):∃k0 u i j e k m o f p q r s t,v=.Tuple [.Constant .none k0 u,.List [.Call (.Name "isinstance" i) [.Name n j,.Name A e] [] k,.Call (.Name "isinstance" m) [.Name n o,.Name B f] [] p,.Name z q] r] s t/\d7 g [.Name A e] [A]=cb/\d7 g [.Name B f] [B]=cb:=by
 have(l,s,t,rfl,w):=dw h;have(a,b,rfl,h2):=eJ w;rw[df]at h2;have(h2,x):=h2;unfold DP at h2;split at h2
 .have(es,r,rfl,c):=uP x;unfold RV at c;split at c
  .rw[df,df]at c;have(i,j,e,k,rfl,k1):=Aa c.1.1;have(m,o,f,p,rfl,k2):=Aa c.1.2;have(q,rfl):=cI c.2;show#[_,_,_,_,_,_,_,_,_,_,_,_,_,_,rfl,k1,k2]
  .cases c
 .cases h2
def zw(G:Gs ck Γ C d X)(h:w9 ck (.J8 i c f es g Q x T j o A B r) X.N X.env.scope s'=cb):L2.PS X s' (F5 C (L7 (.J8 i c f es g Q x T j o A B r)) (exec Γ (.J8 i c f es g Q x T j o A B r))):=by
 have(b,hd,p,rfl,Y):=rl h;have(t,n,s1,s2,p2,rfl,z2):=rn Y;clear h Y;simp only[df,Zz]at z2;obtain⟨⟨⟨⟨⟨⟨⟨⟨⟨⟨h1,h2⟩,h3⟩,h4⟩,h5⟩,s⟩,u⟩,w⟩,k⟩,UR⟩,US⟩:=z2;have(p5,rfl):=cI h3;have(z,p6,v,RN,rfl,k1):=f9 h2;have(y,r1,v2,RO,rfl,k2):=f9 k1;clear h2 k1;simp only[df,Zz]at k2;obtain⟨⟨⟨⟨⟨⟨⟨⟨a1,a2⟩,H⟩,a4⟩,a5⟩,a6⟩,a7⟩,a8⟩,a9⟩:=k2;have(as,p8,Qm,rfl,b1):=d5 a1;have(l,e2,rfl,q):=eJ b1;rw[df]at q;have(p9,rfl):=cI q.1;have(gs,x1,Ql,rfl,b3):=dw q.2;have(k0,r2,q1,q2,q3,q4,q5,q6,q7,q8,q9,r3,x2,r4,rfl,b4,b5):=DT a2;clear a1 b1 q a2;unfold RX at s;simp only[df,Zz,Fx]at s;have((c1,c2),c3):=s;have a:=sX b3;have I:X.mg "isinstance"=b7:=G.gd.blt _ wO;show DI (λm J=>by have J:(f7 (m≠i)&&f7 (m≠o)&&f7 (m≠j))=cb:=J;simpa[and_assoc] using J) G.nd a8 (jf a9) (G.fn _) u w a4 (jf a5) (je a6) (G.fn _) UR US G.gd.room (DS G h1) G.sk G.ex (cR h4) (aH h5).1 (cR H) I (λz=>by rw[z]at a;cases r with|nil=>cases c1|cons _ _=>simp at a) ⋯ (λc hc=>by
  have z:=ux.mp c3 c hc;simp only[df,Zz]at z;obtain⟨⟨⟨d1,d2⟩,d3⟩,d4⟩:=z;have(Cc,Cd,w1,w2,w3,w4):=G.xs.xd _ d1;show#[Cc,Cd,w3,w2,w4,λe=>?_];have L:BW ck (X.Fu e).K (X.Fu e).mg:=G.xs.xi;have(ds,O):=sW (X:=X.Fu e) L b3 λD O=>ZD (ux.mp d4 D O);have(_,vD,dv,l,k1,k2,k3):=rp (X:=X.Fu e) L b4 d2;cases l;have(_,V0,V1,l,k4,k5,k6):=rp (X:=X.Fu e) L b5 d3;cases l;show#[#[ds,O],wH (X:=X.Fu e) u (.inl w) (aH k).1 (aH k).2 (cR H) I k1 k2 k3,wH (X:=X.Fu e) u (.inl w) (aH k).1 (aH k).2 (cR H) I k4 k5 k6]) (aH k).1 (aH k).2 (aH a7).1 (aH a7).2
mutual
theorem E7:∀(s:S) (X:Cx) (s':Ll),Gs ck Γ C d X->w9 ck s X.N X.env.scope s'=cb->L2.PS X s' (F5 C (L7 s) (exec Γ s))
 |.set i e,X,s',G,h=>by
  have(t,v,p1,rfl,l):=eO h;have(x,p,rfl,O):=uM l;clear h l;have h:=O;simp only[df,Zz]at h;obtain⟨⟨⟨⟨⟨L,h2⟩,Q⟩,y⟩,T⟩,Y⟩:=h;have Gg:∀j,L7 (.set i e) j=cb->j≠i:=λj J=>ZD (show f7 (j≠i)=cb from J);by_cases hc:da v=cb
  .show zX Gg G.nd L (jf h2) (.inl (G.fn x)) (cq e X v G.gd y) (iH hc)
  .cases e with
   |comp n t ik src cond e =>
    have(elt,tg,ab,al,scope,p3,rfl,_):=jd y;show B4 G L h2 y _ Gg
   |_=>show absurd Y hc
 |.J5 is e,X,s',G,h=>by
  have(t,v,p1,rfl,l):=eO h;have(es,kk,p,rfl,O):=dw l;clear h l;have h:=O;simp only[df]at h;obtain⟨⟨⟨L,h2⟩,Q⟩,y⟩:=h;show BJ (λj J=>ZD (show f7 (j∉is)=cb from J)) (cq e X v G.gd y) (sO (fa:=λ_=>cb) G.gd.calm G.gd.K G.nd (λx _=>G.fn x) L) (sU h2) ?_ rfl;cases v<;>first|rfl|cases Q
 |.put i a b,X,s',G,h=>by
  have(t,v,p,rfl,l):=eO h;have(o,a',p1,rfl,O):=gO l;have(x,px,rfl,z3):=aJ O;simp only[df,Zz]at z3;obtain⟨⟨⟨⟨⟨⟨L,h2⟩,Q⟩,y⟩,T⟩,Y⟩,h7⟩:=z3;have(q1,q2):=aH Q;show DB G.gd.P G.gd.w G.gd.K G.gd.u L (je h2) q1 q2 (cq b X _ G.gd h7) (cq a X _ G.gd Y) (sU y) rfl (zu T)
 |.app i e,X,s',G,h=>by
  have(c,p0,rfl,l):=gP h;have(o,m,ac,as,Ff,rfl,O):=fG l;have(x,px,rfl,z3):=aJ O;have(a,rfl,z4):=aU z3;simp only[df,Zz]at z4;obtain⟨⟨⟨⟨⟨⟨rfl,L⟩,h2⟩,Q⟩,y⟩,T⟩,Y⟩:=z4;have(q1,q2):=aH Q;have st:=bz (env:=X.env) (es:=[]) T;have sa:=(bO (pos:=Ff) (env:=X.env) (es:=[a]) λe he=>by simp at he;subst he;show T).2;show Dz G.gd.K L (je h2) q1 q2 (cq e X _ G.gd Y) ?_ y st;rw[sa];rfl
 |.ext i e,X,s',G,h=>by
  have(c,p0,rfl,l):=gP h;have(o,m,ac,as,Ff,rfl,O):=fG l;have(x,px,rfl,z3):=aJ O;have(a,rfl,z4):=aU z3;simp only[df,Zz]at z4;obtain⟨⟨⟨⟨⟨⟨rfl,L⟩,h2⟩,Q⟩,y⟩,T⟩,Y⟩:=z4;have(q1,q2):=aH Q;have st:=bz (env:=X.env) (es:=[]) T;have sa:=(bO (pos:=Ff) (env:=X.env) (es:=[a]) λe he=>by simp at he;subst he;show T).2;show DA G.gd.K L (je h2) q1 q2 (cq e X _ G.gd Y) ?_ y st;rw[sa];rfl
 |.bad,X,s',G,h=>λk sh σ H D I ⟨_,_,_,_,w⟩=>(ba.mp w).elim
 |.aug sub i a e,X,s',G,h=>λk sh σ H D I ⟨_,_,_,_,w⟩=>(ba.mp w).elim
 |.NW i,X,s',G,h=>λk sh σ H D I ⟨_,_,_,_,w⟩=>(ba.mp w).elim
 |.newD i,X,s',G,h=>λk sh σ H D I ⟨_,_,_,_,w⟩=>(ba.mp w).elim
 |.putD i a b,X,s',G,h=>λk sh σ H D I ⟨_,_,_,_,w⟩=>(ba.mp w).elim
 |.J6 i a e,X,s',G,h=>λk sh σ H D I ⟨_,_,_,_,w⟩=>(ba.mp w).elim
 |.exp e,X,s',G,h=>by
  have(e',p,rfl,q):=gP h;clear h;have h:=q;simp only[df]at h;show Du (cq e X _ G.gd h.2) (iH h.1)
 |.ret e,X,s',G,h=>by
  have(v,p,rfl,q):=kM h;have(e',rfl,l):=uN q;clear h q;have h:=l;show Dv (cq e X _ G.gd h)
 |.J7,X,s',G,h=>by
  have(v,p,rfl,q):=kM h;cases v with
  |none=>show BH
  |some _=>cases q
 |.ite c a b,X,s',G,h=>by
  have(c',a',b',p,rfl,q):=kN h;clear h;have h:=q;simp only[df]at h;have ha:=kP a X _ G h.1.2;have hb:=kP b X _ G h.2;show Dw (lP c X _ G.gd h.1.1) (Gr.weak ha λD σ H z=>nU (λj J=>(H4.mp (show(Ha a j&&Ha b j)=cb from J)).1) z) (Gr.weak hb λD σ H z=>nU (λj J=>(H4.mp (show(Ha a j&&Ha b j)=cb from J)).2) z)
 |.F0 t is ik src body,X,s',G,h=>by
  have(tg,ab,HE,p,rfl,q):=rm h;clear h;have h:=q;rw[df,df,df]at h;show Dy G.po G.gd.calm (sV G.gd h.1.2) (sO (fa:=λ_=>cb) G.gd.calm G.gd.K G.nd (λx _=>G.fn x) h.1.1.1) (kP body X _ G h.2) (rh h.1.1.2) λj J=>by have J:(f7 (j∉is)&&Ha body j)=cb:=J;simpa using J
 |.NX c body,X,s',G,h=>by
  have(c',HE,p,rfl,q):=uO h;clear h;have h:=q;simp only[df]at h;show Dx G.po (lP c X _ G.gd h.1) (kP body X _ G h.2)
 |.brk,X,s',G,h=>by
  rcases gQ h with⟨_,p,rfl⟩|⟨e,_⟩|⟨e,_⟩
  .show Dq
  .cases e
  .cases e
 |.cnt,X,s',G,h=>by
  rcases gQ h with⟨e,_⟩|⟨_,p,rfl⟩|⟨e,_⟩
  .cases e
  .show Dr
  .cases e
 |.M3 is,X,s',G,h=>absurd (show dV=cb from h) o6
 |.GJ i r,X,s',G,h=>w_ G h
 |.J8 i c f es g Gq x cs j o A B N6,X,s',G,h=>zw G h
 |.Jt c e,X,s',G,h=>zv G h
 |.NY,X,s',G,h=>by
  rcases gQ h with⟨e,_⟩|⟨e,_⟩|⟨_,p,rfl⟩
  .cases e
  .cases e
  .show Dt
theorem kP:∀(ss:List S) (X:Cx) (a:List Ll),Gs ck Γ C d X->dy ck ss X.N X.env.scope a=cb->Gr X a (F5 C (Ha ss) (execs Γ ss))
 |[],X,a,G,h=>by
  cases a with
  |nil=>show Dp
  |cons _ _=>simp[dy]at h
 |s::ss,X,a,G,h=>by
  cases a with
  |nil=>simp[dy]at h
  |cons s' a =>
   simp only[dy,df]at h;have c:=E7 s X s' G h.1;have h2:=kP ss X a G h.2;show BG (PS.weak c λD σ H z=>nU (λj b=>by simp only[Ha,df]at b;show b.1) z) (Gr.weak h2 λD σ H z=>nU (λj b=>by simp only[Ha,df]at b;show b.2) z)
end
end
section
variable{ck:Ck}{Γ:Tab}{d:Nat}{P:y1}{w:F7}{K:PySem.W.Frag}{mg:Str->Option fx}{base:H9}
def jg{n i:Nat}(h:(start us n)[i]?=b6 (b6 (k,u))):us[i]?=b6 u/\k=if FJ u=cb then .loc else .any:=by
 unfold start at h;by_cases hi:i<us.length
 .rw[C0 (by simpa using hi),mh]at h;rw[ts hi]at h ⊢;simp only[UY,Ws,XR]at h;have(a,h2):=h;subst h2;show#[rfl,a.symm]
 .rw[vr (by simp;lia),Kf]at h;split at h<;>cases h
def cK{i:Nat}(h:vs[i]?=b6 v):(L2.start N vs)[i]?=b6 (b6 v):=by
 unfold L2.start;have hi:i<vs.length:=(mN.mp h).1;rw[C0 (by simpa using hi),mh,h];rfl
def xb(m:∀a,Pr a->Hs H a)(h:aq #[P,w,K,H,Pr,λ_=>False,p] Pr H us vs)(q:N.length=n):Ok ⟨P,w,K,H,Pr,λ_=>False,p⟩ ⟨λ_=>False,H,L2.start N vs,start us n,λ_=>[]⟩:=by
 have c:∀(j:Nat) (u:U),(start us n)[j]?≠b6 (b6 (.Fo,u)):=λj u e=>by
  have:=(jg e).2;split at this<;>cases this
 show#[λa o e _=>e,λa z=>z.elim,λa z=>#[m a z,λz=>z],λa z=>z.elim,?_,λi k u e=>?_,λi j k k' u u' r hk t f l x y=>?_,#[λj u r e _=>(c j u e).elim,λi j a ⟨u,_,e,_⟩=>(c i u e).elim,λj a ⟨u,_,e,_⟩=>(c j u e).elim]]
 .have:=h.len;simp[start,L2.start,q];lia
 .have(f,l):=jg e;have(v,ev,b):=h.get f;show#[v,cK ev,?_];subst l;by_cases g:FJ u=cb
  .rw[Zx g];show Rep.FJ g b
  .rw[Zy g];show Rep.mv (.up λa z=>.inl z) b
 .have(_,s):=jg f;subst s;split at hk<;>cases hk
def nZ(h:cj Γ fn us=b6 (.ok (k,u))):us.length=fn.np/\((k=.own\/k=.loc\/k=.any)/\(∃st',execs Γ fn.body (start us fn.ns)=b6 (.ok (.rt k u),st'))\/(k=.loc/\u=.Fg/\∃st',execs Γ fn.body (start us fn.ns)=b6 (.ok .nx,st'))):=by
 unfold cj at h;split at h
 .rename_i hl;show#[hl,?_];split at h
  .rename_i e;cases h;show .inl #[.inl rfl,_,e]
  .rename_i e;cases h;show .inl #[.inr (.inl rfl),_,e]
  .rename_i e;cases h;show .inl #[.inr (.inr rfl),_,e]
  .rename_i e;cases h;show .inr #[rfl,rfl,_,e]
  .cases h
  .cases h
 .cases h
def pP(h:cj Γ fn us=b6 (.exc c)):us.length=fn.np/\∃st',execs Γ fn.body (start us fn.ns)=b6 (.ok (.rt .io (.str c)),st'):=by
 unfold cj at h;split at h
 .rename_i hl;show#[hl,?_];split at h
  .cases h
  .cases h
  .cases h
  .cases h
  .rename_i e;cases h;show#[_,e]
  .cases h
 .cases h
def Ab{st:Ll}(F:Km K fn.name i st f fd)(S:dB N ps (aF st))(hN:N.length=fn.ns)(G6:ps.length=fn.np)
  (Lx:dy ck fn.body N (aF st) (cw st)=cb) (q:∀x∈bN,mg x=b7) (t:∀g∈ck.fns,zo P w K mg base d (Γ g) g)
  (Io:∀p∈ck.gl,∃val v,mg p.1=b6 val/\RelV v val/\∀(C:Ct) S H,Rep C S H p.2 v) (Im:∀p∈ck.Im,zp P w K mg base d (Γ p.1) p.1 p.2) (xs:Lv ck K mg):jB P w K mg base (Lk P w) (d+1) f fd ps (spT P w K (cj Γ fn) fn.np):=by
 have(oc,od,kV,ab,pm,an,D,ct,Kl,rfl,lk,Hn):=F.ex;show zT lk Hn S (λvs H Q E h=>h.1.trans G6.symm) λA outer s H vs Q E J h=>?_;have(hl,us,r,Pr,L,UT,y,b):=h;have Kz:=J.un;let l:Ct:=#[P,w,K,H,Pr,λ_=>False,λu H'=>∃c,u=.str c/\∀j,PySem.W.nsIn K nt c=b6 (b6 (.ref j))->E (.ref j) b7 H']
 have B:(Ka P w K H Pr).Eqv l:=#[rfl,rfl,rfl]
 have m:l.Eqv (Ka P w K H Pr):=#[rfl,rfl,rfl]
 have G:Gs ck Γ l d (oG (Lk P w) P w K mg base N i (aF st) f D A outer s H E) :=
  #[#[rfl,rfl,rfl,by change(A.deeper (Sv i (aF st) s.heap.objs.size f D)).units+60<N9;lia,rfl,J,q,t,λp hp=>let ⟨val,v,B,m,q3⟩:=Io p hp;⟨val,v,B,m,q3 _⟩,#[Im],xs],S.nd,λ_=>rfl,PassesOwn.leaving,S.kind,xs,
   λc H' ⟨c',e1,hE⟩ j T H2 O σ s2 e s' hm I F=>by
    cases e1;show F.leave I.ok.frames rfl I.stack I.jO λT' Hv F'=>#[e,j,T',H',rfl,F'.down I rfl rfl rfl,hE j hm],
   #[rfl,rfl],rfl]
 show#[_,kP fn.body _ _ G Lx,#[λ_=>False,H,L2.start N vs,start us fn.ns,λ_=>[]],rfl,rfl,xb UT (y.cg B) hN,?_];cases r with
 |exc c =>
  have(_,st',e):=pP L;show#[_,st',e,λcf Y ok n kp=>#[c,rfl,λj hC=>b j cf.H hC λa o z=>ok.same a o z λz=>z]]
 |ok x =>
 have(k,u):=x;have(hk,b):=b;have(_,Qu):=nZ L;have mk:∀(c:Cf),Ok l c->∀v,BF l c k u v->Back (Ka P w K H Pr) H c.H c.S k u v:=λc ok v r=>by
  show#[λa o e=>ok.same a o e λz=>z,λa z=>ok.HV a z,λe=>?_,λe=>?_,λe=>?_]
  .subst e;have(r0,e,h1,h2,h3,h4):=r;show#[r0,e,h1,h2,h4.cg m]
  .subst e;show Rep.cg m r
  .subst e;show Rep.cg m r
 rcases Qu with⟨_,st',e⟩|⟨rfl,rfl,st',e⟩
 .rcases hk with rfl|rfl|rfl<;>show#[_,st',e,λc Y ok n kp v r=>b v c.H c.S (mk c ok v r)]
 .show#[_,st',e,λc Y ok n kp=>b .Fg c.H c.S (mk c ok .Fg rfl)]
def gR(h:(dR is us n)[i]?=b6 (b6 (k,u))):us[i]?=b6 u/\k=if i∈is then .io else if FJ u=cb then .loc else .any:=by
 unfold dR at h;by_cases hi:i<us.length
 .rw[C0 (by simpa using hi),mh,List.getElem?_zipIdx]at h;rw[ts hi]at h ⊢;simp only[UY,Ws,XR,FE]at h;have(a,h2):=h;subst h2;show#[rfl,a.symm]
 .rw[vr (by simp;lia),Kf]at h;split at h<;>cases h
def uQ(a:DE C C.H₀ is us vs)(t:N.length=n):Ok C #[λ_=>False,C.H₀,L2.start N vs,dR is us n,λ_=>[]]:=by
 have h:∀(j:Nat) (u:U),(dR is us n)[j]?≠b6 (b6 (.Fo,u)):=λj u e=>by
  have:=(gR e).2;split at this
  .cases this
  .split at this<;>cases this
 have rt:∀(j:Nat) (k:Kd) (u:U),k.root=cb->(dR is us n)[j]?=b6 (b6 (k,u))->j∈is/\us[j]?=b6 u:=λj k u hk e=>by
  have(f,b):=gR e;show#[?_,f];by_cases z:j∈is
  .show z
  .rw[Zy z]at b;subst b;split at hk<;>cases hk
 show#[λa o e _=>e,λa z=>z.elim,λx z=>a.par x z,λx z=>#[a.RJ x z,a.RJ x z],?_,λi k u e=>?_,λi j k k' u u' r hk y f b m p=>?_,#[λj u r e _=>(h j u e).elim,λi j a ⟨u,_,e,_⟩=>(h i u e).elim,λj a ⟨u,_,e,_⟩=>(h j u e).elim]]
 .have:=a.len;simp[dR,L2.start,t];lia
 .have(f,b):=gR e;by_cases z:i∈is
  .rw[Zx z]at b;subst b;have(r,g,c,A):=a.io i u z f;show#[_,cK g,r,rfl,λz=>z,λz=>(a.par r z).2 c,c,A]
  .rw[Zy z]at b;have(v,g,c):=a.any i u z f;show#[v,cK g,?_];subst b;by_cases l:FJ u=cb
   .rw[Zx l];show Rep.FJ l c
   .rw[Zy l];show Rep.mv (.up λa z=>.inl z) c
 .have(q,B):=rt i k u hk f;have(s,D):=rt j k' u' y b;have(G,g,_):=a.io i u q B;have(H,c,_):=a.io j u' s D;rw[cK g]at m;rw[cK c]at p;cases m;cases p;show a.inj i j _ q s g c
theorem sY:∀{is:List Nat}{st:aw}{ws:List U},M4 is st=b6 ws->ws.length=is.length/\∀(n i:Nat),is[n]?=b6 i->∃w,ws[n]?=b6 w/\st[i]?=b6 (b6 (.io,w))
 |[],_,_,h=>by cases h;show#[rfl,λn i e=>by simp at e]
 |i::is,st,ws,h=>by
  unfold M4 at h;split at h
  .rename_i u c;rw[j']at h;have(k,h,rfl):=h;have(a,b):=sY h;show#[by simp[a],λn j e=>?_];cases n with
   |zero=>simp at e;subst e;show#[u,rfl,c]
   |succ n=>have(w,f,g):=b n j (by simpa using e);show#[w,by simpa using f,g]
  .cases h
def sZ(h:wd Γ fn is body us=b6 (.ok r)):us.length=fn.np/\∃f st k u ws,execs Γ body (dR is us fn.ns)=b6 (.ok f,st)/\Rr f=b6 (k,u)/\M4 is st=b6 ws/\r=(k,.tup (u::ws)):=by
 unfold wd at h;split at h
 .rename_i hl;show#[hl,?_];split at h
  .rename_i f st e;have((k,u),a,h):=wk.mp h;rw[j']at h;have(ws,h2,b):=h;cases b;show#[f,st,k,u,ws,e,a,h2,rfl]
  .cases h
 .cases h
def B5{st:Ll}(F:Km K fn.name b st f Y)(S:dB N ps (aF st))(hN:N.length=fn.ns)(G6:ps.length=fn.np)(Gg:∀i∈is,Ha body i=cb)
  (Lx:dy ck body N (aF st) (cw st)=cb) (q:∀x∈bN,mg x=b7) (t:∀g∈ck.fns,zo P w K mg base d (Γ g) g)
  (Io:∀p∈ck.gl,∃val v,mg p.1=b6 val/\RelV v val/\∀(C:Ct) S H,Rep C S H p.2 v) (Im:∀p∈ck.Im,zp P w K mg base d (Γ p.1) p.1 p.2) (xs:Lv ck K mg):jB P w K mg base Mw (d+1) f Y ps (RK P w K (wd Γ fn is body) fn.np is):=by
 show F.ok S (λvs H Q E h=>h.1.trans G6.symm) (λD A outer s H vs Q E I h=>?_);have(hl,us,k,u,ws,Pr,IO,FV,hk,y,j):=h;have Kz:=I.un;have G:Gs ck Γ (Lr P w K H Pr IO) d (oG Mw P w K mg base N b (aF st) f D A outer s H E).Ho :=
  #[#[rfl,rfl,rfl,by change(A.deeper (Sv b (aF st) s.heap.objs.size f D)).units+60<N9;lia,rfl,I,q,t,λp hp=>let ⟨val,v,q1,q2,q3⟩:=Io p hp;⟨val,v,q1,q2,q3 _⟩,#[Im],xs],S.nd,λ_=>rfl,PassesOwn.never,S.kind,xs,λ_ _ z=>z.elim,
   #[rfl,rfl],rfl]
 show#[_,kP body _ _ G Lx,#[λ_=>False,H,L2.start N vs,dR is us fn.ns,λ_=>[]],rfl,rfl,uQ (C:=Lr P w K H Pr IO) y hN,?_];have(_,J,st',k',u',Ry,e,l,e2,e3):=sZ FV;cases e3;have(l1,l2):=sY e2;have mk:∀(c:Cf),c.st=st'->Ok (Lr P w K H Pr IO) c->Kept (Ha body) #[λ_=>False,H,L2.start N vs,dR is us fn.ns,λ_=>[]] c->∀v,BF (Lr P w K H Pr IO) c k u v->zY (Lr P w K H Pr IO) H c.H c.S is vs ws k u v:=λc m ok o v r=>by
  show#[ok.same,λa z=>ok.HV a z,λe=>?_,λe=>?_,l1,λn i r w L g2 g3=>?_]
  .subst e;have(r0,e,h1,h2,h3,h4):=r;show#[r0,e,h1,h2,h4]
  .subst e;show r
  .have(w',O,T):=l2 n i L;rw[g3]at O;cases O;rw[<-m]at T;have(v',B,r',y2,_,_,_,y3):=ok.sl i _ _ T;have hi:i∈is:=JT L;rw[o.1 i (Gg i hi)]at B;rw[show(L2.start N vs)[i]?=b6 (b6 (.ref r)) from cK g2]at B;cases B;cases y2;show y3
 show#[J,st',e,λc m ok n o=>?_];cases J with
 |nx=>cases l;show j .Fg c.H c.S (mk c m ok o .Fg rfl)
 |rt k0 u0=>cases k0<;>first|(cases l;done)|(cases l;show λv r=>j v c.H c.S (mk c m ok o v r))
 |_=>cases l
abbrev Fn.bd(fn:Fn):List S:=match fn.io with|some (_,b)=>b|none=>fn.body
abbrev N7(fn:Fn):Bool:=match fn.io with|some (is,b)=>is.all λi=>Ha b i|none=>cb
abbrev N8(ck:Ck)(Pg:List Fn):Bool:=ck.fns.all (λg=>Pg.any λfn=>f7 (fn.name=g)&&fn.io.isNone)&&ck.Im.all λp=>Pg.any λfn=>f7 (fn.name=p.1)&&f7 (fn.io.map (·.1)=b6 p.2)
structure Ld(ck:Ck)(K:PySem.W.Frag)(mg:Str->Option fx)(fn:Fn):Prop where
 ex:∃(qual:Str) (st:Ll) (f:i6) (fd:Qy) (N ps:List Str),Km K fn.name qual st f fd/\mg fn.name=b6 (.ref f)/\Binds K fd ps []/\dB N ps (aF st)/\N.length=fn.ns/\ps.length=fn.np/\dy ck fn.bd N (aF st) (cw st)=cb/\N7 fn=cb
def zx{Pg:List Fn}(a:(Pg.map (·.name)).Nodup)(h:fn∈Pg):Pg.find? (λg=>f7 (g.name=fn.name))=b6 fn:=by
 induction Pg with
 |nil=>cases h
 |cons g Pg b =>
  rw[i2,Gz]at a;rcases i1.mp h with rfl|h
  .simp
  .rw[IA];have:f7 (g.name=fn.name)=dV:=by
    apply ZA;intro z;show a.1 (z▸List.mem_map_of_mem h)
   rw[this];show b a.2 h
def rq(a:(Pg.map (·.name)).Nodup)(h:fn∈Pg):GB Pg (d+1) fn.name=lO (GB Pg d) fn:=by
 funext us
 change(match Pg.find? λg=>f7 (g.name=fn.name) with|some fn=>lO (GB Pg d) fn us|none=>b7)=_;rw[zx a h]
def mr(h:fn.io=b7):lO Γ fn=cj Γ fn:=by funext us;unfold lO;rw[h]
def uR(h:fn.io=b6 (is,b)):lO Γ fn=wd Γ fn is b:=by funext us;unfold lO;rw[h]
def s9(O:(Pg.map (·.name)).Nodup)(q:N8 ck Pg=cb)(t:∀x∈bN,mg x=b7)(T:∀p∈ck.gl,∃val v,mg p.1=b6 val/\RelV v val/\∀(C:Ct) S H,Rep C S H p.2 v)
  (ld:∀fn∈Pg,Ld ck K mg fn) (xs:Lv ck K mg):∀d,(∀g∈ck.fns,zo P w K mg base d (GB Pg d g) g)/\∀p∈ck.Im,zp P w K mg base d (GB Pg d p.1) p.1 p.2:=by
 simp only[N8,df,ux,KY,Zz]at q;intro d;induction d with
 |zero =>
  show#[λg I=>?_,λp J=>?_]
  .have(fn,j,rfl,_):=q.1 g I;have(a,st,f,l,N,ps,F,m,n,S,B,o,_):=(ld fn j).ex;show#[fn.np,f,l,ps,#[λvs H Q E h=>h.1.trans o.symm,λA outer s H args us vs Q E _ _ _ _ h=>by have(_,us,r,_,e,_):=h;cases e],m,F.kp,n,λus k u e=>(by cases e),λus c e=>by cases e]
  .have(fn,j,e,_):=q.2 p J;have(a,st,f,l,N,ps,F,m,n,S,B,o,_):=(ld fn j).ex;show#[fn.np,f,l,ps,#[λvs H Q E h=>h.1.trans o.symm,λA outer s H args us vs Q E _ _ _ _ h=>by have(_,us,k,u,_,_,_,e,_):=h;cases e],e▸m,F.kp,n,λus k e=>by cases e]
 |succ d G =>
  show#[λg I=>?_,λp J=>?_]
  .have(fn,j,rfl,i):=q.1 g I;rw[P9]at i;have(a,st,f,l,N,ps,F,m,n,S,B,o,D,_):=(ld fn j).ex;rw[rq O j,mr i];rw[show fn.bd=fn.body by unfold Fn.bd;rw[i]]at D;show#[fn.np,f,l,ps,Ab F S B o D t G.1 T G.2 xs,m,F.kp,n,λus k u e=>?_,λus c e=>(pP e).1];have(h1,h2):=nZ e;show#[?_,h1];rcases h2 with⟨z,_⟩|⟨z,_⟩
   .show z
   .show .inr (.inl z)
  .have(fn,j,e,i):=q.2 p J;rw[j']at i;have((is,b),i,Y):=i;have(x,y):=p
   dsimp only at e Y
   subst e Y;have(a,st,f,l,N,ps,F,m,n,S,B,o,D,L):=(ld fn j).ex;rw[rq O j,uR i];rw[show fn.bd=b by unfold Fn.bd;rw[i]]at D;unfold N7 at L;rw[i]at L;show#[fn.np,f,l,ps,B5 F S B o (ux.mp L) D t G.1 T G.2 xs,m,F.kp,n,λus r e=>(sZ e).1]
end
abbrev xf(ns:List Int):U:=.lst (ns.map .int)
theorem mw{S:i6->Prop}:∀(ns:List Int),aq C S H (ns.map .int) (ns.map V.int)
 |[]=>rfl
 |n::ns=>#[_,_,rfl,rfl,mw ns]
def rz(h:FR C.K H a (ns.map V.int)):Rep C (Hs H) H (xf ns) (.ref a):=by
 show#[a,_,rfl,?_,mw ns];rcases h with(h|⟨o,h⟩)|h
 .show .inl #[#[_,h],.inl h]
 .show .inl #[#[_,h],.inr #[o,h]]
 .show .inr h
theorem pQ:∀{l:List α},(∀a∈l,f a=g a)->l.filterMap f=l.filterMap g
 |[],_=>rfl
 |a::l,h=>by rw[He,He,h a (by simp),pQ λb c=>h b (by simp[c])]
theorem s_:∀(l:List Str) (us:List fx),l.Nodup->us.length=l.length->l.filterMap (λn=>((l.zip us).lookup n).map (n,·))=l.zip us
 |[],_,_,_=>rfl
 |a::l,[],_,h=>nomatch h
 |a::l,u::us,b,h=>by
  rw[Gz]at b;have c:=s_ l us b.2 (by simpa using h);simp only[JE,He,t4,beq_self_eq_true,UY];congr 1
  conv=>rhs;rw[<-c]
  show pQ λn d=>?_;have:(n==a)=dV:=by
   rw[ZF];rintro rfl;show b.1 d
  rw[this]
def xg(l:List Str)(us:List fx)(h:us.length=l.length):l.filter (λn=>((l.zip us).lookup n).isNone)=[]:=by
 rw[Rb];intro n hn;induction l generalizing us with
 |nil=>cases hn
 |cons a l b =>
  cases us with
  |nil=>cases h
  |cons u us =>
   simp only[JE,t4];cases e:n==a with
   |true=>simp
   |false =>
    rcases i1.mp hn with rfl|hn
    .simp at e
    .show b us (by simpa using h) hn
def xh{kV a b c ct:fx}(d:(as.map (·.arg)).Nodup)(hl:us.length=(as.map (·.arg)).length):
  Zf (PySem.W.fnOf x q #[[],as,b7,[],[],b7,[]] body scope .none kV a b h c ct) #[us,[]]=pure ((as.map (·.arg)).zip us):=by
 have e:=s_ _ us d hl;have h2:=xg _ us hl;change(if _ then _ else _)=_;rw[Zy (by simp[hl])];have f:∀k:Nat,¬(!(((as.map (·.arg)).take k).filter λn=>(((as.map (·.arg)).zip us).lookup n).isNone).isEmpty)=cb:=λk=>by
  rw[Rb.mpr λn g=>Rb.mp h2 n (pM g)];show o6
 show(Zy (f _)).trans ?_;have hz:∀(l:List Str) (i j:Nat),(l.drop i).zip ((b7.getD #v[]:Array fx).toList.drop j)=[]:=λl i j=>by rw[show(b7.getD #v[]:Array fx).toList=[] from rfl,List.drop_nil,List.zip_nil_right]
 show Eq.trans (ZE (λz=>Bind.bind (Zw z _ _) _) (hz _ _ _)) ?_;show ZE (pure:List (Str×fx)->Sem (List (Str×fx))) ((ZE (List.filterMap _) (G5 _)).trans e)
abbrev B6(v:Option (Option fx))(a:i6):Bool:=match v with|some (b6 (.ref b))=>f7 (b=a)|_=>dV
def zA(h:B6 v a=cb):v=b6 (b6 (.ref a)):=by
 unfold B6 at h;split at h
 .rw[ZD h]
 .cases h
abbrev nn(o:Option (Option fx)):Bool:=match o with|some b7=>cb|_=>dV
def DU(h:nn o=cb):o=b6 b7:=by
 unfold nn at h;split at h
 .rfl
 .cases h
abbrev DV(p:Arguments)(ps:List Str):Bool:=p.posonlyargs.isEmpty&&p.vararg.isNone&&p.kwonlyargs.isEmpty&&p.kw_defaults.isEmpty&&p.kwarg.isNone&&p.defaults.isEmpty&&f7 (p.args.map (·.arg)=ps)
abbrev RZ(N:List Str)(b:Nat)(a:Jy):Bool:=f7 (a.kind=.function)&&f7 (a.isCoroutine=dV)&&f7 (a.isGenerator=dV)&&decide N.Nodup&&(N.take b).all (jL a)&&a.names.all (λy=>f7 (y.2≠.free))
abbrev R0(ck:Ck)(top:Nat->Ll)(K:PySem.W.Frag)(m:Me):Bool:=PySem.W.codeIn K (.ref m.c) m.fn.name&&PySem.W.keepIn K (.ref m.a)&&B6 (PySem.W.nsIn K nt m.fn.name) m.a&&DV (fR (top m.i)) (m.N.take m.fn.np) &&
 RZ m.N m.fn.np (aF (top m.i))&&f7 (m.N.length=m.fn.ns)&&f7 (m.fn.np<=m.fn.ns)&&(dy ck m.fn.bd m.N (aF (top m.i)) (cw (top m.i))&&N7 m.fn)
abbrev R3(K:PySem.W.Frag)(p:Str×U):Bool:=match p.2,PySem.W.nsIn K nt p.1 with
 |.int i,b6 (b6 (.int j _))=>f7 (i=j)
 |.str i,b6 (b6 (.str j _))=>f7 (i=j)
 |_,_=>dV
abbrev KH(ck:Ck)(top:Nat->Ll)(K:PySem.W.Frag)(ms:List Me):Bool:=ms.all (R0 ck top K)&&bN.all (λy=>nn (PySem.W.nsIn K nt y))&&ck.gl.all (R3 K)&&f7 (K.map (·.1)).Nodup
def DW{K:PySem.W.Frag}(b:(K.map (·.1)).Nodup)(h:(a,o)∈K):K.lookup a=b6 o:=by
 induction K with
 |nil=>cases h
 |cons p K c =>
  rw[i2,Gz]at b;rw[t4];rcases i1.mp h with rfl|h
  .simp
  .have:(a==p.1)=dV:=by
    rw[ZF];rintro rfl;show b.1 (my.mpr #[_,h,rfl])
   rw[this];show c b.2 h
section
def Ac(c:KH ck top (Hl top g ms) ms=cb)(h:m∈ms):Km (Hl top g ms) m.fn.name m.fn.name (top m.i) m.a (m.fd top)/\PySem.W.nsIn (Hl top g ms) nt m.fn.name=b6 (b6 (.ref m.a)) /\
  (∀us:List fx,us.length=(m.N.take m.fn.np).length->Zf (m.fd top) #[us,[]]=pure ((m.N.take m.fn.np).zip us))/\dB m.N (m.N.take m.fn.np) (aF (top m.i))/\m.N.length=m.fn.ns/\(m.N.take m.fn.np).length=m.fn.np/\(dy ck m.fn.bd m.N (aF (top m.i)) (cw (top m.i))=cb/\N7 m.fn=cb):=by
 simp only[KH,df,Zz]at c;have z:=ux.mp c.1.1.1 m h;simp only[R0,df,Zz]at z;obtain⟨⟨⟨⟨⟨⟨⟨j,k⟩,l⟩,b⟩,d⟩,n⟩,u⟩,o⟩:=z;simp only[RZ,df,Zz]at d;obtain⟨⟨⟨⟨⟨s1,s2⟩,s3⟩,s4⟩,p⟩,q⟩:=d;have r:(Hl top g ms).lookup m.a=b6 (m.fo top):=DW c.2 (i1.mpr (.inr (JU _ (List.mem_flatMap.mpr #[m,h,by simp]))));have hl:(m.N.take m.fn.np).length=m.fn.np:=by rw[sd];lia
 show#[A3 r j k,zA l,λus f=>?_,#[s1,s2,s3,s4,by rw[hl],λx s=>?_,λy t=>?_],n,hl,o]
 .unfold Me.fd;revert b;cases fR (top m.i) with
  |mk v as w A B C D =>
   intro b;simp only[DV,df,LN,P9,Zz]at b;obtain⟨⟨⟨⟨⟨⟨rfl,rfl⟩,rfl⟩,rfl⟩,rfl⟩,rfl⟩,e⟩:=b;rw[<-e]at f ⊢;show xh (by rw[e];show(Ia _ _).nodup s4) f
 .have:=ux.mp p x s;simpa[jL] using this
 .have:=ux.mp q y t;simpa using this
def DX{h:H9}{mg:Str->Option fx}(i:KH ck top (Hl top g ms) ms=cb)(X:(Hl top g ms).In h)(G:h.Ns nt mg){m:Me}(hi:m∈ms):Ld ck (Hl top g ms) mg m.fn :=
 let ⟨a,b,c,d,e,f,k⟩:=Ac i hi
 ⟨_,_,_,_,_,_,a,PySem.W.mg_of X G b,.all c,d,e,f,k⟩
def B7(c:KH ck top (Hl top g ms) ms=cb)(X:(Hl top g ms).In h)(G:h.Ns nt mg):∀p∈ck.gl,∃val v,mg p.1=b6 val/\RelV v val/\∀(C:Ct) S H,Rep C S H p.2 v:=by
 intro p d;simp only[KH,df,Zz]at c;have z:=ux.mp c.1.2 p d;unfold R3 at z;split at z
 .rename_i i j k a b;obtain rfl:=ZD z;show#[_,.int i,PySem.W.mg_of X G b,#[_,rfl],λ_ _ _=>by rw[a];rfl]
 .rename_i i j k a b;obtain rfl:=ZD z;show#[_,.str i,PySem.W.mg_of X G b,#[_,rfl],λ_ _ _=>by rw[a];rfl]
 .cases z
end
abbrev xj(K:PySem.W.Frag)(x:Str):Option i6:=match PySem.W.nsIn K nt x with|some (b6 (.ref C))=>b6 C|_=>b7
abbrev R4(K:PySem.W.Frag)(D:Str):Option fx:=match PySem.W.nsIn K nt D with|some (b6 (.ref C))=>b6 (.ref C)|some b7=>if D="ValueError" then b6 (.type "ValueError") else b7|_=>b7
abbrev gY(ck:Ck)(K:PySem.W.Frag):Bool:=ck.xi.all (λp=>match xj K p.1,R4 K p.2.1 with|some C,b6 a=>dH K C&&(PySem.W.kitOne K (.ref C) a==b6 p.2.2)|_,_=>dV)&&ck.xe.all λp=>match xj K p.1,xj K p.2 with|some C,b6 D=>PySem.W.exmOne K (.ref C) (.ref D)==b6 cb|_,_=>dV
def jh{K:PySem.W.Frag}(h:xj K x=b6 C):PySem.W.nsIn K nt x=b6 (b6 (.ref C)):=by
 unfold xj at h;split at h
 .rename_i e;cases h;show e
 .cases h
def DY{K:PySem.W.Frag}(z:gY ck K=cb)(X:K.In h)(G:h.Ns nt mg)(D:Str)(i:∃p∈ck.xi,p.2.1=D):∃b,((∃f,b=.ref f/\mg D=b6 (.ref f))\/(D="ValueError"/\b=.type "ValueError"/\mg D=b7))/\∀p∈ck.xi,p.2.1=D->∀C,PySem.W.nsIn K nt p.1=b6 (b6 (.ref C))->dH K C=cb/\PySem.W.kitOne K (.ref C) b=b6 p.2.2:=by
 rw[gY,df,ux]at z;have(j,k,rfl):=i;have g:=z.1 j k;split at g
 .rename_i o b q a;show#[b,?_,λp l e C m=>?_]
  .unfold R4 at a;split at a
   .rename_i e;cases a;show .inl #[_,rfl,PySem.W.mg_of X G e]
   .rename_i e;split at a
    .rename_i d;cases a;show .inr #[d,rfl,PySem.W.mg_none_of X G e]
    .cases a
   .cases a
  .have c:=z.1 p l;rw[e,a]at c;split at c
   .rename_i r s d n;cases n;have:=jh d;rw[m]at this;cases this;rw[df,beq_iff_eq]at c;show c
   .cases c
 .cases g
def DZ{K:PySem.W.Frag}(z:gY ck K=cb)(X:K.In h)(G:h.Ns nt mg)(x:Str)(d:∃p∈ck.xe,p.2=x):∃D,mg x=b6 (.ref D)/\∀cl,(cl,x)∈ck.xe->∀C,PySem.W.nsIn K nt cl=b6 (b6 (.ref C))->PySem.W.exmOne K (.ref C) (.ref D)=b6 cb:=by
 rw[gY,df,ux,ux]at z;have(e,f,rfl):=d;have b:=z.2 e f;split at b
 .rename_i l D m c;show#[D,PySem.W.mg_of X G (jh c),λcl g C i=>?_];have a:=z.2 _ g
  dsimp only at a
  rw[c]at a;split at a
  .rename_i n o j k;cases k;have:=jh j;rw[i]at this;cases this;show beq_iff_eq.mp a
  .cases a
 .cases b
abbrev gX(ck:Ck)(K:PySem.W.Frag):Bool:=ck.xc.all (λx=>match PySem.W.nsIn K nt x with|some (b6 (.ref C))=>PySem.W.excIn K C L0 "ValueError.__new__"|_=>dV)&&ck.xd.all λp=>match PySem.W.nsIn K nt p.1,PySem.W.nsIn K nt p.2 with
 |some (b6 (.ref C)),b6 (b6 (.ref D))=>PySem.W.exmOne K (.ref C) (.ref D)==b6 cb
 |_,_=>dV
def B8{K:PySem.W.Frag}(z:(gX ck K&&gY ck K)=cb)(X:K.In h)(G:h.Ns nt mg):Lv ck K mg:=by
 rw[df]at z;have(z,a):=z;rw[gX,df,ux,ux]at z;show#[λx c=>?_,λp d=>?_,DY a X G,DZ a X G]
 .have:=z.1 x c;split at this
  .rename_i e;show#[_,PySem.W.mg_of X G e,e,this]
  .cases this
 .have:=z.2 p d;split at this
  .rename_i b f;show#[_,_,PySem.W.mg_of X G b,b,PySem.W.mg_of X G f,beq_iff_eq.mp this]
  .cases this
def walk{l:PySem.W.OpenLaw}{K:S9->PySem.W.Frag}
  (A:l.most=b6 63) (B:d.params.defaults=[]) (D:eW (dp+1) Sd) (I:∀(w:F7) (h:H9),J w h->(K w.params).In h)
  (j:(Pg.map (·.name)).Nodup) (r:N8 ck Pg=cb) (L:fn.io=b7) (O:fn∈Pg) (Jx:fn.name=d.name)
  (F:∀(w:F7) (mg:Str->Option fx) (fa:i6) (h:H9),(K w.params).In h->h.Ns nt mg->mg d.name=b6 (.ref fa) ->
   (∀y∈bN,mg y=b7)/\(∀p∈ck.gl,∃val v,mg p.1=b6 val/\RelV v val/\∀(C:Ct) S H,Rep C S H p.2 v)/\(∀g∈Pg,Ld ck (K w.params) mg g)/\Lv ck (K w.params) mg /\
   ∃(c:Str) (st:Ll) (i:Qy) (N:List Str),Km (K w.params) fn.name c st fa i/\dB N [x] (aF st)/\N.length=fn.ns/\1=fn.np/\dy ck fn.body N (aF st) (cw st)=cb/\∀(s:hW) (u:fx),XD s i #[[u],[]] [(x,u)])
  (T:∀ns:List Int,ns.length<=63->GB Pg (dp+1) fn.name [xf ns]=b6 (.ok (.loc,.bl cb))) :
  PySem.W.WalkO q m XP J l.row.toRowW d [] (λf vs=>PySem.call f vs) :=
 L2.yu (n:=63) (k:=dp+1) (x:=x) (CX:=λw=>Lk l.prog w) (sp:=λw=>spT l.prog w (K w.params) (cj (GB Pg dp) fn) fn.np) A (by decide) B D I
  (λw mg fa h Q G Y=>by
   have(e,o,ld,xs,c,st,i,N,F1,S,hN,G6,hc,hb):=F w mg fa h Q G Y;show#[i,hb,λbase _ _=>Ab F1 S hN G6 hc e (s9 j r e o ld xs dp).1 o (s9 j r e o ld xs dp).2 xs])
  (λw H a ns hl _ hS=>by
   have t:=T ns hl;rw[rq j O,mr L]at t;have UW:fn.np=1:=(nZ t).1.symm;show#[UW.symm,[xf ns],.ok (.loc,.bl cb),Hs H,t,λ_ z=>z,#[_,_,rfl,rz hS,rfl],.inr (.inl rfl),λv H' S' b=>b.loc rfl])
  λ_ _ _ _ _ ⟨_,_,_,_,_,_,z⟩=>z
def walk2{l:PySem.W.OpenLaw}{g:S9->Gx}
  (z:l.most=b6 63) (A:d.params.defaults=[]) (B:eW (dp+1) Sd) (o:ms.map (·.fn)=Pg) (C:(Pg.map (·.name)).Nodup) (D:N8 ck Pg=cb) (p:m.fn.io=b7) (r:m∈ms) (t:m.fn.name=d.name) (H:m.N.take m.fn.np=[x])
  (ok:∀P,KH ck top (Hl top (g P) ms) ms=cb) (I:∀P,(gX ck (Hl top (g P) ms)&&gY ck (Hl top (g P) ms))=cb) (J:∀P,(g P).2.map (·.1)=xa) (T:∀ns:List Int,ns.length<=63->GB Pg (dp+1) m.fn.name [xf ns]=b6 (.ok (.loc,.bl cb))) :
  PySem.W.WalkO q j O (PySem.W.kHook (λP=>Hl top (g P) ms) (adr ms xa) λP=>td top (g P) ms xa (J P)).says l.row.toRowW d [] (λf vs=>PySem.call f vs) :=
 walk z A B (λw h Y=>PySem.W.kIn_of Y) C D p (o▸my.mpr #[m,r,rfl]) t (λw mg fa h X G v=>by
  have hk:=ok w.params;have(a,b,c,e,f,k,n):=Ac hk r;rw[<-t,PySem.W.mg_of X G b]at v;cases v;rw[H]at c e k;show#[λy i=>PySem.W.mg_none_of X G (DU ?_),B7 hk X G,λy i=>?_,B8 (I w.params) X G,_,_,_,_,a,e,f,k,by have:=n.1;rw[show m.fn.bd=m.fn.body by unfold Fn.bd;rw[p]]at this;show this,λs u=>.of_eq (c [u] rfl)]
  .simp only[KH,df]at hk;show ux.mp hk.1.1.2 y i
  .rw[<-o]at i;have(Q,L,rfl):=my.mp i;show DX hk X G L) T
end TM
namespace TM
open PySem L2
section
abbrev Run(m:M α)(st:aw)(a:α)(st':aw):Prop:=m st=b6 (.ok a,st')
def ae(c:Run m st a st1)(h2:Run (f a) st1 b st2):Run (m >>= f) st b st2:=by
 change M.bind m f st=_;unfold M.bind;rw[show m st=_ from c];show h2
def aQ:Run (pure a:M α) st a st:=rfl
def dI(h:o=b6 a):Run (M.FK o) st a st:=by subst h;rfl
def aR(h:aX rs st):Run (au rs) st () st:=by change au rs st=_;unfold au;rw[Zx h]
abbrev kv(i:Nat)(k:Kd):Kd:=if k.root=cb then .bor i else k
def mz(h:st[i]?=b6 (b6 (k,u)))(hk:k≠.Fo:=by intro z;cases z):Run (gM i) st (kv i k,u) st:=by
 change gM i st=_;unfold gM;rw[h];cases k<;>first|rfl|show absurd rfl hk
def af(h:st[i]?=b6 (b6 (.loc,u))):Run (ev Γ (.var i)) st (.loc,u) st:=mz h
def bu(h:st[i]?=b6 (b6 (.any,u))):Run (ev Γ (.var i)) st (.any,u) st:=mz h
def az(h:st[i]?=b6 (b6 (.own,u))):Run (ev Γ (.var i)) st (.bor i,u) st:=mz h
def aj:Run (ev Γ (.cst u)) st (.loc,u) st:=rfl
def xm:Run (ev Γ (.IQ x u)) st (.loc,u) st:=rfl
def aC(c:Run (ev Γ a) st x st1)(h2:Run (ev Γ b) st1 y st2)(d:aX [x,y] st2)(e:Ht op x y=b6 r):Run (ev Γ (.bin op a b)) st r st2 :=
 ae c (ae h2 (ae (aR d) (dI e)))
def jz(d:Run (ev Γ a) st x st1)(h2:Run (ev Γ b) st1 y st2)(e:aX [x,y] st2)(f:bK op x.2 y.2=b6 c):Run (ev Γ (.cmp op a b)) st (.loc,.bl c) st2 :=
 ae d (ae h2 (ae (aR e) (ae (dI f) aQ)))
def aV(c:Run (ev Γ a) st x st1)(h2:Run (ev Γ b) st1 y st2)(d:aX [x,y] st2)(e:i9 x y.2=b6 r):Run (ev Γ (.idx a b)) st r st2 :=
 ae c (ae h2 (ae (aR d) (dI e)))
def pR:Run (Lm Γ []) st b7 st:=rfl
def kQ(h:Run (ev Γ e) st (k,.int i) st1):Run (Lm Γ [e]) st (b6 i) st1:=ae h rfl
def mB(b:Run (ev Γ a) st x st1)(h2:Run (Lm Γ lo) st1 l st2)(c:Run (Lm Γ hi) st2 h st3)(d:aX [x] st3)(e:jI x l h=b6 r):Run (ev Γ (.G3 a lo hi)) st r st3 :=
 ae b (ae h2 (ae c (ae (aR d) (dI e))))
def ah:Run (aY Γ []) st [] st:=rfl
def aa(a:Run (ev Γ e) st r st1)(h2:Run (aY Γ es) st1 rs st2):Run (aY Γ (e::es)) st (r::rs) st2:=ae a (ae h2 aQ)
def cS(a:Run (aY Γ es) st rs st1)(h2:aX rs st1)(b:Hk f rs=b6 r):Run (ev Γ (.bi f es)) st r st1:=ae a (ae (aR h2) (dI b))
def tf(a:Run (aY Γ es) st rs st1)(h2:aX rs st1)(b:pJ f rs=b6 r):Run (ev Γ (.Js f es)) st r st1:=ae a (ae (aR h2) (dI b))
def tm(b:Run (ev Γ a) st x st1)(c:Run (aY Γ es) st1 rs st2)(h2:aX (x::rs) st2)(d:nL m x.2 rs=b6 r):Run (ev Γ (.Ky m a es)) st r st2:=ae b (ae c (ae (aR h2) (dI d)))
def tq(h:Γ f us=b6 (.ok r))(a:isAny r.1=dV):Run (kD Γ f us) st r st:=by
 have(k,u):=r;change kD Γ f us st=_;unfold kD;rw[h];cases k<;>first|rfl|cases a
def bw(a:Run (aY Γ es) st rs st1)(h2:aX rs st1)(b:Γ f (rs.map (·.2))=b6 (.ok r))(c:isAny r.1=dV:=by show rfl):Run (ev Γ (.call f es)) st r st1:=ae a (ae (aR h2) (tq b c))
def bP(a:Run (aY Γ es) st rs st1)(h2:aX rs st1)(b:Run (b_ rs) st1 us st2)(c:us.length<=eF):Run (ev Γ (.tup es)) st (.loc,.tup us) st2:=by
 show ae a (ae (aR h2) (ae b ?_));rw[Zx c];show aQ
def bq(a:Run (aY Γ es) st rs st1)(h2:aX rs st1)(b:Run (b_ rs) st1 us st2)(c:us.length<=eF):Run (ev Γ (.lst es)) st (.own,.lst us) st2:=by
 show ae a (ae (aR h2) (ae b ?_));rw[Zx c];show aQ
def xn:Run (ev Γ (.HY r)) st (.own,.Fh [] []) st:=rfl
def d8:Run (lift (.own,u)) st u st:=rfl
def ar:Run (lift (.loc,u)) st u st:=rfl
def tu(h:FJ u=cb):Run (lift (.any,u)) st u st:=by
 change(if FJ u=cb then(pure u:M U) else M.fail) st=_;rw[Zx h];rfl
def av:Run (b_ []) st [] st:=rfl
def ag(a:Run (lift r) st u st1)(h2:Run (b_ rs) st1 us st2):Run (b_ (r::rs)) st (u::us) st2:=ae a (ae h2 aQ)
def B9(h:Run (ev Γ e) st r st1):Run (iD Γ [e]) st r st1:=h
def B_(h:Run (ev Γ e) st (k,.bl p) st1)(h2:if p=cb then Run (iD Γ (a::es)) st1 r st2 else st2=st1/\r=(.loc,.bl dV)):Run (iD Γ (e::a::es)) st r st2:=by
 show ae h ?_;cases p with
 |true=>show h2
 |false=>have(rfl,rfl):=h2;show aQ
def D0(h:Run (iD Γ es) st r st1):Run (ev Γ (.and es)) st r st1:=h
def cB(d:Run (ev Γ a) st x st1)(h2:Run (ev Γ b) st1 y st2)(e:aX [x,y] st2)(f:bK op x.2 y.2=b6 c):Run (FF Γ (.cmp op a b)) st c st2:=ae d (ae h2 (ae (aR e) (dI f)))
def Ad(h:Run (FF Γ a) st c st1):Run (FF Γ (.not a)) st (!c) st1:=ae h aQ
def xp(h:Run (aP Γ es) st c st1):Run (FF Γ (.and es)) st c st1:=h
def E8(h:Run (fv Γ es) st c st1):Run (FF Γ (.or es)) st c st1:=h
def d9:Run (aP Γ []) st cb st:=rfl
def kR(h:Run (FF Γ e) st c st1):Run (aP Γ [e]) st c st1:=h
def Ca(h:Run (FF Γ e) st cb st1)(h2:Run (aP Γ (a::es)) st1 c st2):Run (aP Γ (e::a::es)) st c st2:=ae h h2
def Cb(h:Run (FF Γ e) st dV st1):Run (aP Γ (e::a::es)) st dV st1:=ae h aQ
def D2(h:Run (FF Γ e) st c st1):Run (fv Γ [e]) st c st1:=h
def D3(h:Run (FF Γ e) st cb st1):Run (fv Γ (e::a::es)) st cb st1:=ae h aQ
def D4(h:Run (FF Γ e) st dV st1)(h2:Run (fv Γ (a::es)) st1 c st2):Run (fv Γ (e::a::es)) st c st2:=ae h h2
def bH:Run (cQ i (.own,u)) st () (st.set i (b6 (.own,u))):=rfl
def aM:Run (cQ i (.loc,u)) st () (st.set i (b6 (.loc,u))):=rfl
def tv:Run (cQ i (.any,u)) st () (st.set i (b6 (.any,u))):=rfl
def D5(a:Run (ev Γ e) st r st1)(h2:Run (cQ i r) st1 () st2):Run (exec Γ (.set i e)) st .nx st2:=ae a (ae h2 aQ)
def D6(b:∃k' c,st[i]?=b6 (b6 (k',.lst c))/\k'≠.Fo)(d:Run (ev Γ e) st r st1)(h2:Run (lift r) st1 u st2)(f:st2[i]?=b6 (b6 (k,.lst us)))(hk:k.root=cb)(hl:us.length<eF):
  Run (exec Γ (.app i e)) st .nx (st2.set i (b6 (k,.lst (us++[u])))):=by
 have(k',c,b,g):=b;show ae (mz b g) (ae (a:=()) (st1:=st) rfl (ae d (ae h2 (ae (a:=()) ?_ aQ))));change modS i (wb u) st2=_;unfold modS;rw[f];simp only[hk,if_true];have e:wb u (.lst us)=b6 (.lst (us++[u])):=by change(if us.length<eF then _ else _)=_;rw[Zx hl]
 rw[e]
def D7(a:Run (ev Γ e) st r st1)(h2:Run (retS r) st1 f st2):Run (exec Γ (.ret e)) st f st2:=ae a h2
def xq:Run (retS (.own,u)) st (.rt .own u) st:=rfl
def dz:Run (retS (.loc,u)) st (.rt .loc u) st:=rfl
def D8(h:FJ u=cb):Run (retS (.any,u)) st (.rt .loc u) st:=by
 change(if FJ u=cb then(pure (Fl.rt .loc u):M Fl) else pure (.rt .any u)) st=_;rw[Zx h];rfl
def xr(h:st[j]?=b6 (b6 (.own,u))):Run (retS (.bor j,a)) st (.rt .own u) (st.set j b7):=by
 change(match st[j]? with|some (b6 (.own,u))=>b6 (Ex.ok (Fl.rt .own u),st.set j b7)|_=>b7)=_;rw[h]
def n9(d:Run (FF Γ c) st cb st1)(h2:Run (execs Γ a) st1 f st2):Run (exec Γ (.ite c a b)) st f st2:=ae d h2
def rA(d:Run (FF Γ c) st dV st1)(h2:Run (execs Γ b) st1 f st2):Run (exec Γ (.ite c a b)) st f st2:=ae d h2
def cZ:Run (execs Γ []) st .nx st:=rfl
def ji(a:Run (exec Γ s) st .nx st1)(h2:Run (execs Γ ss) st1 f st2):Run (execs Γ (s::ss)) st f st2:=ae a h2
def rB(a:Run (exec Γ s) st (.rt k u) st1):Run (execs Γ (s::ss)) st (.rt k u) st1:=ae a aQ
def aG(a:Run (ev Γ e) st r st1)(h2:Run (cQ i r) st1 () st2)(b:Run (execs Γ ss) st2 f st3):Run (execs Γ (.set i e::ss)) st f st3:=ji (D5 a h2) b
def kS(a:st[i]?=b6 (b6 (k',.lst h)))(b:Run (ev Γ e) st r st1)(h2:Run (lift r) st1 u st2)(c:st2[i]?=b6 (b6 (k,.lst us)))(hk:k.root=cb)(hl:us.length<eF)
  (d:Run (execs Γ ss) (st2.set i (b6 (k,.lst (us++[u])))) f st3) (g:k'≠.Fo:=by intro z;cases z):Run (execs Γ (.app i e::ss)) st f st3:=ji (D6 #[_,_,a,g] b h2 c hk hl) d
def cT(a:Run (ev Γ e) st r st1)(h2:Run (retS r) st1 (.rt k u) st2):Run (execs Γ (.ret e::ss)) st (.rt k u) st2:=rB (D7 a h2)
def xu(d:Run (FF Γ c) st cb st1)(h2:Run (execs Γ a) st1 .nx st2)(e:Run (execs Γ ss) st2 f st3):Run (execs Γ (.ite c a b::ss)) st f st3:=ji (n9 d h2) e
def n_(d:Run (FF Γ c) st dV st1)(h2:Run (execs Γ b) st1 .nx st2)(e:Run (execs Γ ss) st2 f st3):Run (execs Γ (.ite c a b::ss)) st f st3:=ji (rA d h2) e
def og(d:Run (FF Γ c) st cb st1)(h2:Run (execs Γ a) st1 (.rt k u) st2):Run (execs Γ (.ite c a b::ss)) st (.rt k u) st2:=rB (n9 d h2)
def xv(a:Run (aY Γ src) st rs st1)(h2:aX rs st1)(b:Ij ik rs=b6 xs)(c:sF rs is body=cb)(d:Run (forM t is (execs Γ body) rs xs) st1 f st2):
  Run (exec Γ (.F0 t is ik src body)) st f st2:=by
 show ae a (ae (aR h2) (ae (dI b) ?_));rw[Zx c];show d
def gw(a:Run (aY Γ src) st rs st1)(h2:aX rs st1)(b:Ij ik rs=b6 xs)(c:sF rs is body=cb)(d:Run (forM t is (execs Γ body) rs xs) st1 .nx st2)(e:Run (execs Γ ss) st2 f st3):
  Run (execs Γ (.F0 t is ik src body::ss)) st f st3:=ji (xv a h2 b c d) e
def pS(h:aX rs st):Run (forM t is body rs []) st .nx st:=ae (aR h) aQ
def rC(h:aX rs st)(a:Run (dQ t is x) st () st1)(h2:Run body st1 .nx st2)(b:Run (forM t is body rs xs) st2 f st3):Run (forM t is body rs (x::xs)) st f st3:=ae (aR h) (ae a (ae h2 b))
def D9(h:aX rs st)(a:Run (dQ t is x) st () st1)(h2:Run body st1 (.rt k u) st2):Run (forM t is body rs (x::xs)) st (.rt k u) st2:=ae (aR h) (ae a (ae h2 aQ))
theorem Ae(I:List (Kd×U)->aw->Prop)(hs:∀xs st,I xs st->aX rs st)(WO:∀x xs st,I (x::xs) st->∃st1 st2,Run (dQ t is x) st () st1/\Run body st1 .nx st2/\I xs st2):
  ∀(xs:List (Kd×U)) (st:aw),I xs st->∃st',Run (forM t is body rs xs) st .nx st'/\I [] st'
 |[],st,h=>#[st,pS (hs _ _ h),h]
 |x::xs,st,h=>by
  have(s1,s2,a,h2,b):=WO x xs st h;have(s3,c,d):=Ae I hs WO xs s2 b;show#[s3,rC (hs _ _ h) a h2 c,d]
def bX(h:Run (cQ i r) st () st1):Run (dQ dV [i] r) st () st1:=h
def a_(a:us.length=fn.np)(hk:k=.own\/k=.loc)(hs:start us fn.ns=st0)(h:Run (execs Γ fn.body) st0 (.rt k u) st):cj Γ fn us=b6 (.ok (k,u)):=by
 subst hs;unfold cj;rw[Zx a,show execs Γ fn.body (start us fn.ns)=_ from h];rcases hk with rfl|rfl<;>rfl
def Af{cond:M Bool}(h:aX src st):Run (bV k t cond elt src [] acc) st acc st:=ae (aR h) aQ
def xx{cond:M Bool}(h:aX src st)(c:Run (dQ t (lg k) x) (pe k b7++st) () s1)(h2:Run cond s1 cb s2)(d:Run elt s2 r s3)(e:Run (lift r) s3 u s4)
  (hl:acc.length<eF) (g:Run (bV k t cond elt src xs (acc++[u])) (s4.drop k) us st2):Run (bV k t cond elt src (x::xs) acc) st us st2:=by
 show ae (aR h) (ae (a:=b6 u) (st1:=s4.drop k) ?_ ?_)
 .change inScope k _ st=_;unfold inScope;have i:Run (dQ t (lg k) x >>= λ_=>cond >>= λb=>if b=cb then(elt >>= λr=>lift r >>= λu=>pure (b6 u)) else pure b7) (pe k b7++st) (b6 u) s4 :=
   ae c (ae h2 (show Run (elt >>= λr=>lift r >>= λu=>pure (b6 u)) s2 (b6 u) s4 from ae d (ae (f:=λu=>pure (b6 u)) e rfl)))
  rw[show _=_ from i]
 .change Run (if acc.length<eF then bV k t cond elt src xs (acc++[u]) else M.fail) _ _ _;rw[Zx hl];show g
def Ce{cond:M Bool}(h:aX src st)(c:Run (dQ t (lg k) x) (pe k b7++st) () s1)(h2:Run cond s1 dV s2)
  (d:Run (bV k t cond elt src xs acc) (s2.drop k) us st2):Run (bV k t cond elt src (x::xs) acc) st us st2:=by
 show ae (aR h) (ae (a:=b7) (st1:=s2.drop k) ?_ d);change inScope k _ st=_;unfold inScope;have e:Run (dQ t (lg k) x >>= λ_=>cond >>= λb=>if b=cb then(elt >>= λr=>lift r >>= λu=>pure (b6 u)) else pure b7) (pe k b7++st) b7 s2 :=
  ae c (ae h2 (show Run (pure b7:M (Option U)) s2 b7 s2 from rfl))
 rw[show _=_ from e]
def cu{src cond:List E}(a:Run (aY Γ src) st rs st1)(h2:aX rs st1)(b:Ij ik rs=b6 xs)(c:Run (bV k t (aP Γ cond) (ev Γ e) rs xs []) st1 us st2):Run (ev Γ (.comp k t ik src cond e)) st (.own,.lst us) st2 :=
 ae a (ae (aR h2) (ae (dI b) (ae c aQ)))
end
section
end
abbrev Hc(Pg:List Fn)(f:Str)(fn:Fn):Prop:=(Pg.find? λg=>f7 (g.name=f))=b6 fn
section
def aS(h:Hc Pg f fn)(us:List U)(a:fn.io=b7:=by rfl):GB Pg (d+1) f us=cj (GB Pg d) fn us:=by
 change(match Pg.find? λg=>f7 (g.name=f) with|some fn=>lO (GB Pg d) fn us|none=>b7)=_;rw[show _=b6 fn from h];change lO _ _ _=_;unfold lO;rw[a]
end
def aW(h:0<j):Ht .mod (k,.int i) (k',.int j)=b6 (.loc,.int (i % j)):=by change(yL i j).map _=_;rw[yL,Zx h];rfl
def oh(h:0<j/\j<1073741824):Ht .HW (k,.int i) (k',.int j)=b6 (.loc,.int (i / j)):=by change(yK i j).map _=_;rw[yK,Zx h];rfl
def gA(h:(-(2 ^ 64)<i/\i<2 ^ 64)\/(-(2 ^ 64)<j/\j<2 ^ 64)):Ht .mul (k,.int i) (k',.int j)=b6 (.loc,.int (i * j)):=by change(yJ i j).map _=_;rw[yJ,Zx h];rfl
def mQ(h:0<=j/\j<=1000000/\i.natAbs<2 ^ 64):Ht .pow (k,.int i) (k',.int j)=b6 (.loc,.int (i ^ j.toNat)):=by change(yM i j).map _=_;rw[yM,Zx h];rfl
def bM:Ht .add (k,.int i) (k',.int j)=b6 (.loc,.int (i+j)):=rfl
def iX:Ht .sub (k,.int i) (k',.int j)=b6 (.loc,.int (i - j)):=rfl
def bI(h:FY xs i=b6 u):i9 (k,.lst xs) (.int i)=b6 (kE k,u):=by change(FY xs i).map _=_;rw[h];rfl
def tw:Kd.own≠Kd.Fo:=by decide
local macro_rules
 |`(tactic| sizeOf_list_dec)=>`(tactic| first|exact cZ|apply aG|apply kS|apply cT|exact aj|exact af rfl|exact bu rfl|exact az rfl|apply aC|apply jz|apply aV|apply cS|apply bw|apply tm|apply cB|exact ah|apply aa|apply bP|apply bq|exact av|apply ag|exact ar|exact d8|(first|exact trivial|exact⟨⟨_,rfl,rfl⟩,trivial⟩|exact#[#[_,rfl,rfl],#[_,rfl,rfl],trivial])|exact bM|exact iX|exact aW (by first|lia|decide)|exact oh (by first|lia|decide)|exact gA (by first|lia|decide)|exact mQ (by decide)|exact aM|exact bH|exact tv|exact dz|exact xq|exact xr rfl|exact qq _|exact rfl|exact tw)
abbrev rD(c k:Int):Int:=((c % 10 ^ 15+1) * 48271+k * k * 16807+k * 7919) % 2147483647 * 69621 % 2147483629
def zB(a:0<=k)(b:k<2 ^ 63):cj Γ Cg [.int c,.int k]=b6 (.ok (.loc,.int (rD c k))):=by
 apply a_ (st0:=[b6 (.loc,.int c),b6 (.loc,.int k),b7]) rfl (.inr rfl) rfl
 repeat' sizeOf_list_dec
abbrev xA(Γ:Tab):Prop:=∀c k:Int,0<=k->k<2 ^ 63->Γ "_law_mix" [.int c,.int k]=b6 (.ok (.loc,.int (rD c k)))
def Ag(h:f7 (i<j)=c):bK .lt (.int i) (.int j)=b6 c:=by subst h;rfl
def D_(h:f7 (j<i)=c):bK .gt (.int i) (.int j)=b6 c:=by subst h;rfl
def jj(h:(i==j)=c):bK .eq (.int i) (.int j)=b6 c:=by subst h;rfl
def iI:Hk .len [(k,.lst xs)]=b6 (.loc,.int (xs.length:Nat)):=rfl
abbrev Ah(ns:List Int)(k:Nat):Int:=if k<ns.length then(ns[k]?).getD 0 else 2 * rD ((ns[k % ns.length]?).getD 0) k+1
def xB(f:xA Γ){k:Nat}(hk:k<2 ^ 62):cj Γ xy [.lst (ns.map .int),.int k]=b6 (.ok (.loc,.int (Ah ns k))):=by
 have b:∀c,Γ "_law_mix" [.int c,.int k]=b6 (.ok (.loc,.int (rD c k))):=λc=>f c k ⋯ ⋯;unfold Ah;by_cases h:k<ns.length
 .rw[Zx h];have a:FY (ns.map U.int) (k:Int)=b6 (.int ((ns[k]?).getD 0)):=dC (by simp[h]);apply a_ (st0:=[b6 (.any,.lst (ns.map .int)),b6 (.loc,.int k),b7]) rfl (.inr rfl) rfl;apply og
  all_goals repeat' (first|show Ag (by simp[h])|show bI a|show D8 rfl|sizeOf_list_dec)
 .rw[Zy h];have d:bK .lt (.int k) (.int ((ns.map U.int).length:Nat))=b6 dV:=Ag (by simp;lia);by_cases hz:0<ns.length
  .have hi:k % ns.length<ns.length:=XH _ hz;have a:FY (ns.map U.int) ((k:Int) % ((ns.map U.int).length:Nat))=b6 (.int ((ns[k % ns.length]?).getD 0)):=by
    rw[f6,show(k:Int) % (ns.length:Nat)=((k % ns.length:Nat):Int) by lia];show dC (by simp[hi])
   have g:(0:Int)<((ns.map U.int).length:Nat):=by simp;lia
   apply a_ (st0:=[b6 (.any,.lst (ns.map .int)),b6 (.loc,.int k),b7]) rfl (.inr rfl) rfl;apply n_
   all_goals repeat' (first|show d|sizeOf_list_dec)
   apply xu
   all_goals repeat' (first|show D_ (by simp;lia)|show aW g|show bI a|show b _|sizeOf_list_dec)
  .have e:ns=[]:=List.eq_nil_of_length_eq_zero ⋯;subst e;apply a_ (st0:=[b6 (.any,.lst ([].map .int)),b6 (.loc,.int k),b7]) rfl (.inr rfl) rfl;apply n_
   all_goals repeat' (first|show d|sizeOf_list_dec)
   apply n_
   all_goals repeat' (first|show b _|sizeOf_list_dec)
def xC(x:Kd×U):Ij .FH [x]=v_ x:=rfl
def eQ(h:n<2 ^ 62):Ij .FH [(k,.int (n:Nat))]=b6 ((lg n).map λi:Nat=>(Kd.loc,U.int (0+(i:Int)))):=by
 rw[xC,v_,Zx ⋯,Qk]
abbrev kU(n:Nat)(xs:List (Kd×U)):Prop:=∃i,i<=n/\xs=((lg n).drop i).map λi:Nat=>(Kd.loc,U.int (0+(i:Int)))
def kU.cons(h:kU n (x::xs)):∃i:Nat,i<n/\x=(.loc,.int (i:Nat))/\kU n xs/\i+xs.length+1=n:=by
 have(i,hi,e):=h;by_cases a:i<n
 .rw[IS (by simpa using a),i2]at e;cases e;show#[i,a,by simp,#[i+1,a,rfl],by simp;lia]
 .rw[Rc (by simp;lia)]at e;cases e
def kU.all(n:Nat):kU n ((lg n).map λi:Nat=>(Kd.loc,U.int (0+(i:Int)))):=#[0,qq _,rfl]
def uS(p:xA Γ)(v:n<1000):∃ds:List Int,ds.length=n/\(∀d∈ds,0<=d)/\cj Γ rE [.int c,.int n]=b6 (.ok (.own,.lst (ds.map .int))):=by
 have hsz:(1000:Nat)<=eF:=by decide
 let I:List (Kd×U)->aw->Prop:=λxs st=>∃(ds:List Int) (us:List U) (left:Int) (o:Option (Kd×U)),st=[b6 (.loc,.int c),b6 (.loc,.int n),b6 (.own,.lst us),b6 (.loc,.int left),o]/\us=ds.map .int/\(∀d∈ds,0<=d)/\ds.length+xs.length=n/\kU n xs;have a:=Ae (t:=dV) (is:=[4]) (body:=execs Γ [.ite (.cmp .eq (.bin .mod (.var 0) (.cst (.int 2))) (.cst (.int 0)))
    [.app 2 (.bin .mod (.var 3) (.cst (.int 64))),
    .set 3 (.bin .HW (.var 3) (.cst (.int 64)))]
    [.app 2 (.bin .mod (.bin .HW (.call "_law_mix" [(.var 0),(.var 4)]) (.cst (.int 7))) (.cst (.int 4096)))]]) (rs:=[(.loc,.int n)]) I (λ_ _ _=>trivial) (λx xs st q=>by
  have(ds,us,left,o,e,b,f,hl,r):=q;subst e;have h:us.length=ds.length:=by rw[b];simp
  have(i,hi,rfl,j,l):=r.cons;have s:Γ "_law_mix" [.int c,.int i]=b6 (.ok (.loc,.int (rD c i))):=p c i ⋯ ⋯;rw[ti]at hl;by_cases m:c % 2=0
  .show#[[b6 (.loc,.int c),b6 (.loc,.int n),b6 (.own,.lst us),b6 (.loc,.int left),b6 (.loc,.int i)],[b6 (.loc,.int c),b6 (.loc,.int n),b6 (.own,.lst (us++[.int (left % 64)])),b6 (.loc,.int (left / 64)),b6 (.loc,.int i)],aM,?_,#[ds++[left % 64],_,left / 64,_,rfl,by simp[b],?_,by simp;lia,j]]
   .apply xu
    all_goals repeat' (first|show jj (by simp[m])|show(by rw[h];lia)|sizeOf_list_dec)
   .intro d hd;rcases mx.mp hd with z|z
    .show f d z
    .rw[mf.mp z];lia
  .show#[[b6 (.loc,.int c),b6 (.loc,.int n),b6 (.own,.lst us),b6 (.loc,.int left),b6 (.loc,.int i)],[b6 (.loc,.int c),b6 (.loc,.int n),b6 (.own,.lst (us++[.int (rD c i / 7 % 4096)])),b6 (.loc,.int left),b6 (.loc,.int i)],aM,?_,#[ds++[rD c i / 7 % 4096],_,left,_,rfl,by simp[b],?_,by simp;lia,j]]
   .apply n_
    all_goals repeat' (first|show jj (by simp[m])|show s|show(by rw[h];lia)|sizeOf_list_dec)
   .intro d hd;rcases mx.mp hd with z|z
    .show f d z
    .rw[mf.mp z];lia)
 have(st',u,ds,us,left,o,e,b,f,hl,_):=a ((lg n).map λi:Nat=>(Kd.loc,U.int (0+(i:Int)))) [b6 (.loc,.int c),b6 (.loc,.int n),b6 (.own,.lst []),b6 (.loc,.int (c / 2)),b7] ⟨[],[],c / 2,b7,rfl,rfl,by simp,by simp,kU.all n⟩;subst e b;show#[ds,by simpa using hl,f,?_];apply a_ (st0:=[b6 (.loc,.int c),b6 (.loc,.int n),b7,b7,b7]) rfl (.inl rfl) rfl
 repeat' sizeOf_list_dec
 have g:=eQ (k:=.loc) (n:=n) ⋯;refine' gw (rs:=[(.loc,.int n)]) (st1:=[b6 (.loc,.int c),b6 (.loc,.int n),b6 (.own,.lst []),b6 (.loc,.int (c / 2)),b7]) _ trivial g rfl u _
 all_goals repeat' sizeOf_list_dec
end TM
local macro_rules
 |`(tactic| sizeOf_list_dec)=>`(tactic| first|exact TM.cZ|apply TM.aG|apply TM.kS|apply TM.cT|exact TM.aj|exact TM.af rfl|exact TM.bu rfl|exact TM.az rfl|apply TM.aC|apply TM.jz|apply TM.aV|apply TM.cS|apply TM.bw|apply TM.tm|apply TM.cB|exact TM.ah|apply TM.aa|apply TM.bP|apply TM.bq|exact TM.av|apply TM.ag|exact TM.ar|exact TM.d8|(first|exact trivial|exact⟨⟨_,rfl,rfl⟩,trivial⟩|exact#[#[_,rfl,rfl],#[_,rfl,rfl],trivial])|exact TM.bM|exact TM.iX|exact TM.aW (by first|lia|decide)|exact TM.oh (by first|lia|decide)|exact TM.gA (by first|lia|decide)|exact TM.mQ (by decide)|exact TM.aM|exact TM.bH|exact TM.tv|exact TM.dz|exact TM.xq|exact TM.xr rfl|exact qq _|exact rfl|exact TM.tw)
namespace FD
open PySem L2
abbrev fH(l:List Nat):Prop:=dh l=cb\/∃a b k,l=a++47::b/\dh a=cb/\2<=k/\k<=99/\(jE k).cps.toList=b
def len_list(x:Str):x.length=x.cps.toList.length:=by simp[Og]
def f_(a:0<=k)(b:k<=99):(jE k).length<=2:=by
 have(m,rfl):=Oq a;have c:m<100:=by lia
 clear a b;revert m;decide +kernel
def fH.len(h:fH l):1<=l.length/\l.length<=11:=by
 rcases h with h|⟨a,b,k,rfl,h,h2,c,d⟩
 .have:=(bU l).mp h;lia
 .have:=(bU a).mp h;have hl:=f_ (k:=k) ⋯ c;rw[len_list,d]at hl;simp;lia
theorem eV:∀(ps:List Str) (acc:Array Nat),(ps.foldl (λacc p=>acc++DD.cps++p.cps) acc).toList=acc.toList++(ps.map λp=>p.cps.toList).flatten
 |[],acc=>by simp
 |p::ps,acc=>by
  rw[MD,eV ps];have:DD.cps=#v[]:=rfl;simp[this]
def join_list(a:List Str):(Wk DD a).cps.toList=(a.map λp=>p.cps.toList).flatten:=by
 cases a with
 |nil=>rfl
 |cons t a =>
  change(a.foldl (λacc p=>acc++DD.cps++p.cps) t.cps).toList=_;rw[eV];simp
abbrev one(c:Nat):Str:=#[#v[c]]
def join_ones(a:List Nat):(Wk DD (a.map one)).cps.toList=a:=by
 rw[join_list,mn];induction a with
 |nil=>rfl
 |cons c a b=>rw[i2,T5,b];rfl
def pT(a:List Nat)(h:a.length<=100):Yt DD (a.map one)=cb:=by
 unfold Yt;have e:=PySem.StrLaws.joinTotal DD (a.map one);have b:DD.length=0:=rfl;have es:((a.map one).map (·.length)).sum=a.length:=by
  rw[mn];clear h e;induction a with
  |nil=>rfl
  |cons c a d=>rw[i2,List.sum_cons,d];change 1+a.length=a.length+1;lia
 rw[e,b,es];have f:a.length+(a.map one).length * 0<=100:=by lia
 revert f;generalize a.length+(a.map one).length * 0=m;revert m;decide
def pU(a:∀c∈b,low c=cb)(d:1<=b.length)(e:b.length<=8):dh b=cb :=
 (bU b).mpr #[d,e,λc f=>by have:=a c f;simp[low]at this;lia]
abbrev small:Str:="abcdefghijklmnopqrstuvwxyz"
def rF:small.cps.toList=(lg 26).map (97+·):=by decide +kernel
def pV(a:0<=k)(b:k<26):FY small.cps.toList k=b6 (97+k.toNat):=by
 have(j,rfl):=Oq a;show dC ?_;rw[rF,mh,Xk ⋯];rfl
theorem kW [DecidableEq α]:∀{l m:List α},l.Nodup->(∀x∈l,x∈m)->l.length<=m.length
 |[],_,_,_=>qq _
 |x::l,m,c,h=>by
  have(d,h2):=Gz.mp c;have a:=h x ov;have e:=kW (l:=l) (m:=m.erase x) h2 λy b=>(List.mem_erase_of_ne (by rintro rfl;show d b)).mpr (h y (nc _ b));rw[List.length_erase_of_mem a]at e;have:0<m.length:=List.length_pos_of_mem a;rw[ti];lia
end FD
namespace TM
open PySem L2 FD
def mW(a:x.length<=eF)(h:FY x.cps.toList i=b6 c):i9 (k,.str x) (.int i)=b6 (.loc,.str (FD.one c)):=by
 simp only[i9];rw[Zx a,h];rfl
def jU{ds:List Int}{i:Nat}(h:i<ds.length):FY (ds.map U.int) (i:Int)=b6 (.int ((ds[i]?).getD 0)):=dC (by simp[h])
theorem gc:∀(ss:List Str),strsOf (ss.map U.str)=b6 ss
 |[]=>rfl
 |s::ss=>by change(strsOf (ss.map U.str)).map (s::·)=_;rw[gc ss];rfl
section
abbrev dd(ds:List Int)(i:Nat):Int:=(ds[i]?).getD 0
def tB(a:∀d∈ds,0<=d)(i:Nat):0<=dd ds i:=by
 unfold dd;cases e:ds[i]? with
 |none=>simp
 |some d=>show a d (JT e)
theorem gf:∀(ss:List Str) (n:Nat),bY n (ss.map U.str)=cb
 |[],n=>by simp[bY]
 |s::ss,n=>by simp only[i2,bY,gf ss n,PB];cases n<;>rfl
theorem pW(x:Str):∀(ss:List Str),((ss.map U.str).any λy=>bA y (.str x))=f7 (x∈ss)
 |[]=>by simp
 |s::ss=>by
  rw[i2,SN,pW x ss];have:bA (.str s) (.str x)=f7 (x=s):=by
   simp only[bA];by_cases h:x=s
   .subst h;simp
   .have h':s≠x:=λz=>h z.symm;simp[h,h']
  rw[this,G8];simp
def zC(x:Str)(ss:List Str):Ju (.str x) (ss.map U.str)=b6 (f7 (x∈ss)):=by
 unfold Ju;rw[Zx #[by rfl,gf ss 50],pW]
def kX{x:Str}{ss:List Str}:bK .Fj (.str x) (.lst (ss.map U.str))=b6 (f7 (x∉ss)):=by
 change(Ju (.str x) (ss.map U.str)).map (!·)=_;rw[zC];simp
end
section
end
abbrev rG(Γ:Tab):Prop:=∀(ns:List Int) (k:Nat),k<2 ^ 62->∃z,Γ "_law_cell" [.lst (ns.map .int),.int (k:Nat)]=b6 (.ok (.loc,.int z))
abbrev oi(Γ:Tab):Prop:=∀(c:Int) (n:Nat),n<1000->∃ds:List Int,ds.length=n/\(∀d∈ds,0<=d)/\Γ "_law_drawn" [.int c,.int (n:Nat)]=b6 (.ok (.own,.lst (ds.map .int)))
def xD(hz:0<=z)(b:0<t)(hl:t<=xs.length):∃x∈xs,FY xs (z % t)=b6 x:=by
 have c:=IG z (by lia:t≠0);have h2:=HH z b;have(j,d):=Oq c;have a:j<xs.length:=by lia
 show#[xs[j]'a,KX a,?_];rw[d];show dC (by simp[a])
def zD{xs:List Str}{z t:Int}(hz:0<=z)(a:0<t)(hl:t<=xs.length):∃x∈xs,FY (xs.map U.str) (z % t)=b6 (.str x):=by
 have(u,b,e):=xD (xs:=xs.map U.str) hz a (by simpa using hl);have(x,c,rfl):=my.mp b;show#[x,c,e]
def tD(g:Run (ev Γ h) st j st1)(h2:st1[i]?=b6 (b6 (k',u')))(l:Run (ev Γ m) st1 n st2)(o:Run (b_ [j,n]) st2 [b,c] st3)(p:st3[i]?=b6 (b6 (k,d)))(hk:k.root=cb)(q:kF c b d=b6 e)
  (r:Run (execs Γ ss) (st3.set i (b6 (k,e))) f s) (t:k'≠.Fo:=by intro z;cases z):Run (execs Γ (.put i m h::ss)) st f s:=by
 show ji (ae g (ae (mz h2 t) (ae l (ae o (ae (a:=()) (st1:=st3.set i (b6 (k,e))) ?_ aQ))))) r;change modS i (sE [b,c]) st3=_;unfold modS;rw[p];simp only[hk,if_true];change(match kF c b d with|some u'=>_|none=>b7)=_;rw[q]
@[reducible]noncomputable def Row:=Str×List Str
abbrev A'(r:Row):U:=.tup [.str r.1,.tup (r.2.map .str)]
abbrev keyOf(r:Row):Row:=(r.1,aA r.2)
def sorted_strs(h:ss.length<128):Hk .sorted [(k,.tup (ss.map .str))]=b6 (.own,.lst ((aA ss).map .str)):=by
 change(strsOf (ss.map U.str)).bind _=_;rw[gc];change(if ss.length<128 then _ else _)=_;rw[Zx h]
structure iJ(names:List Str)(r:Row):Prop where
 word:r.1∈names
 Qw:r.2.length<=8
 once:r.2.Nodup
 told:∀x∈r.2,x∈names
section
def mC(h:Run (execs Γ (a++ss)) st f st2):(∃s1,Run (execs Γ a) st .nx s1/\Run (execs Γ ss) s1 f st2)\/(Run (execs Γ a) st f st2/\f≠.nx):=by
 induction a generalizing st with
 |nil=>show .inl #[st,cZ,h]
 |cons s a d =>
  have h':M.bind (exec Γ s) (λf=>match f with|.nx=>execs Γ (a++ss)|f=>pure f) st=b6 (.ok f,st2):=h;unfold M.bind at h';cases e:exec Γ s st with
  |none=>rw[e]at h';cases h'
  |some p =>
   have(x,s1):=p;rw[e]at h';cases x with
   |exc c=>cases h'
   |ok g =>
    cases g with
    |nx =>
     rcases d h' with⟨s2,b,h2⟩|⟨b,h2⟩
     .show .inl #[s2,ji e b,h2]
     .show .inr #[ji e b,h2]
    |rt k u=>cases h';show .inr #[rB e,λz=>nomatch z]
    |bk=>cases h';show .inr #[ae (show Run (exec Γ s) st Fl.bk _ from e) aQ,λz=>nomatch z]
    |ct=>cases h';show .inr #[ae (show Run (exec Γ s) st Fl.ct _ from e) aQ,λz=>nomatch z]
def Ea(a:Run (exec Γ s) st f st1)(b:f≠.nx):Run (execs Γ (s::ss)) st f st1:=by
 cases f with
 |nx=>show absurd rfl b
 |rt k u=>show rB a
 |_=>show ae a aQ
def fI(e:Run (FF Γ c) st p st1)(g:p=cb->Run (execs Γ (a++ss)) st1 f st2)(h:p=dV->Run (execs Γ (b++ss)) st1 f st2):Run (execs Γ (.ite c a b::ss)) st f st2:=by
 cases p with
 |true =>
  rcases mC (g rfl) with⟨s1,h2,d⟩|⟨h2,d⟩
  .show ji (n9 e h2) d
  .show Ea (n9 e h2) d
 |false =>
  rcases mC (h rfl) with⟨s1,h2,d⟩|⟨h2,d⟩
  .show ji (rA e h2) d
  .show Ea (rA e h2) d
def Ci(h:Run (ev Γ e) st (k,.bl p) st)(h2:p=cb->Run (iD Γ (a::es)) st (.loc,.bl q) st):Run (iD Γ (e::a::es)) st (.loc,.bl (p&&q)) st:=by
 show B_ h ?_;cases p with
 |true=>rw[Zx rfl];show h2 rfl
 |false=>rw[Zy o6];show#[rfl,rfl]
def Eb(h:Run (FF Γ e) st p st)(h2:p=dV->Run (fv Γ (a::es)) st q st):Run (fv Γ (e::a::es)) st (p||q) st:=by
 cases p with
 |true=>show D3 h
 |false=>show D4 h (h2 rfl)
def rH(h:Run (FF Γ e) st p st)(h2:p=cb->Run (aP Γ (a::es)) st q st):Run (aP Γ (e::a::es)) st (p&&q) st:=by
 cases p with
 |true=>show Ca h (h2 rfl)
 |false=>show Cb h
theorem cC{cond:M Bool}(h:aX src st)(k:Kd)(hk:k=.loc\/k=.any)(a g:α->U)(c:Kd)(d:∀y,Run cond (b6 (k,a y)::st) cb (b6 (k,a y)::st)):∀(b:List α) (acc:List U),acc.length+b.length<=eF ->
  (∀y∈b,Run elt (b6 (k,a y)::st) (c,g y) (b6 (k,a y)::st)/\Run (lift (c,g y)) (b6 (k,a y)::st) (g y) (b6 (k,a y)::st))->Run (bV 1 dV cond elt src (b.map λy=>(k,a y)) acc) st (acc++b.map g) st
 |[],acc,_,_=>by rw[Mr,Mr,G5];show Af h
 |y::b,acc,hl,e=>by
  have(h2,f):=e y (by simp);rw[ti]at hl;show xx (s1:=b6 (k,a y)::st) (s2:=b6 (k,a y)::st) (s3:=b6 (k,a y)::st) (s4:=b6 (k,a y)::st) h ?_ (d y) h2 f ⋯ ?_
  .rcases hk with rfl|rfl
   .show bX aM
   .show bX tv
  .have:=cC h k hk a g c d b (acc++[g y]) (by simp;lia) λz hz=>e z (by simp[hz]);rw[i2];simpa using this
theorem oj{cond:M Bool}(h:aX src st)(k:Kd)(hk:k=.loc\/k=.any)(a g:α->U)(p:α->Bool)(d:Kd):∀(b:List α) (acc:List U),acc.length+b.length<=eF ->
  (∀y∈b,Run cond (b6 (k,a y)::st) (p y) (b6 (k,a y)::st)/\(p y=cb->Run elt (b6 (k,a y)::st) (d,g y) (b6 (k,a y)::st)/\Run (lift (d,g y)) (b6 (k,a y)::st) (g y) (b6 (k,a y)::st)))->Run (bV 1 dV cond elt src (b.map λy=>(k,a y)) acc) st (acc++(b.filter p).map g) st
 |[],acc,_,_=>by rw[Mr,List.filter_nil,Mr,G5];show Af h
 |y::b,acc,hl,f=>by
  have(e,j):=f y (by simp);rw[ti]at hl;have i:Run (dQ dV (lg 1) (k,a y)) (pe 1 b7++st) () (b6 (k,a y)::st):=by
   rcases hk with rfl|rfl
   .show bX aM
   .show bX tv
  cases c:p y with
  |true =>
   rw[c]at e;have(h2,l):=j c;show xx (s1:=b6 (k,a y)::st) (s2:=b6 (k,a y)::st) (s3:=b6 (k,a y)::st) (s4:=b6 (k,a y)::st) h i e h2 l ⋯ ?_;have:=oj h k hk a g p d b (acc++[g y]) (by simp;lia) λz hz=>f z (by simp[hz]);rw[XX,Zx c,i2];simpa using this
  |false =>
   rw[c]at e;show Ce (s1:=b6 (k,a y)::st) (s2:=b6 (k,a y)::st) h i e ?_;have:=oj h k hk a g p d b acc ⋯ λz hz=>f z (by simp[hz]);rw[XX,Zy (by simp[c])];show this
theorem gS(it:α->Kd×U)(I:List α->List α->aw->Prop)(hs:∀d r st,I d r st->aX rs st)
  (WO:∀d y r st,I d (y::r) st->∃st1 st2,Run (dQ t is (it y)) st () st1/\Run body st1 .nx st2/\I (d++[y]) r st2):∀(r d:List α) (st:aw),I d r st->∃st',Run (forM t is body rs (r.map it)) st .nx st'/\I (d++r) [] st'
 |[],d,st,h=>#[st,pS (hs _ _ _ h),by rw[G5];show h]
 |y::r,d,st,h=>by
  have(s1,s2,a,h2,b):=WO d y r st h;have(s3,c,e):=gS it I hs WO r (d++[y]) s2 b;show#[s3,rC (hs _ _ _ h) a h2 c,by simpa using e]
def Cj(a:Run (aY Γ es) st rs st1)(h2:aX rs st1)(c:Γ f (rs.map (·.2))=b6 (.ok r))(d:uz r.2=b6 b)(e:isAny r.1=dV:=by show rfl):Run (FF Γ (.call f es)) st b st1:=ae a (ae (aR h2) (ae (tq c e) (dI d)))
def Cm(h:Run (ev Γ (.bi f es)) st (k,.bl b) st1):Run (FF Γ (.bi f es)) st b st1:=by
 have h':(aY Γ es >>= λrs=>au rs >>= λ_=>M.FK (Hk f rs)) st=b6 (.ok (k,.bl b),st1):=h;obtain⟨rs,s1,c,d,s2,e,r,s3,g,i⟩:∃rs s1,aY Γ es st=b6 (.ok rs,s1)/\∃(a:Unit) (s2:aw),au rs s1=b6 (.ok a,s2)/\∃r s3,M.FK (Hk f rs) s2=b6 (.ok r,s3)/\(r,s3)=((k,U.bl b),st1):=by
  have w:W (aY Γ es >>= λrs=>au rs >>= λ_=>M.FK (Hk f rs)) st λr s=>(r,s)=((k,U.bl b),st1):=#[_,_,h',rfl]
  rw[ai]at w;have(rs,s1,c,w):=w;rw[ai]at w;have(a,s2,d,w):=w;have(r,s3,e,w):=w;show#[rs,s1,c,a,s2,d,r,s3,e,w]
 cases i;show ae c (ae (a:=d) e (ae g (dI rfl)))
def Ec(c:st[i]?=b6 (b6 (k',.lst m)))(d:Run (ev Γ e) st r st1)(g:st1[i]?=b6 (b6 (k,.lst us)))(hk:k.root=cb)(h:lN r (.lst us)=b6 (.lst b))
  (j:Run (execs Γ ss) (st1.set i (b6 (k,.lst b))) f st3) (l:k'≠.Fo:=by intro z;cases z):Run (execs Γ (.ext i e::ss)) st f st3:=by
 show ji (ae (mz c l) (ae (a:=()) (st1:=st) rfl (ae d (ae (a:=()) (st1:=st1.set i (b6 (k,.lst b))) ?_ aQ)))) j;change modS i (lN r) st1=_;unfold modS;rw[g];simp only[hk,if_true];rw[h]
end
def zE(h:xs.length+a.length<=eF)(hs:fu k a=cb):lN (k,.tup a) (.lst xs)=b6 (.lst (xs++a)):=by
 change(if xs.length+a.length<=eF/\fu k a=cb then _ else _)=_;rw[Zx #[h,hs]]
theorem jk:∀ss:List Str,gL (ss.map U.str)=cb
 |[]=>by simp[gL]
 |s::ss=>by simp[gL,FJ,jk ss]
def jV(r:Row):FJ (A' r)=cb:=by simp[A',FJ,gL,jk]
theorem cL:∀rs:List Row,gL (rs.map A')=cb
 |[]=>by simp[gL]
 |r::rs=>by simp[gL,jV,cL rs]
theorem kY:∀(a b:List Str),bZ (a.map U.str) (b.map U.str)=f7 (a=b)
 |[],[]=>by simp[bZ]
 |[],_::_=>by simp[bZ]
 |_::_,[]=>by simp[bZ]
 |x::a,y::b=>by
  rw[i2,i2,bZ,kY a b];simp only[bA];by_cases h:x=y
  .subst h;simp
  .simp[h]
def mD(a b:Row):bA (A' a) (A' b)=f7 (a=b):=by
 have(c,e):=a;have(d,f):=b;simp only[A',bA,bZ,PB,kY];by_cases h:c=d
 .subst h;simp
 .simp[h]
def jW(r:Row):FX 50 (A' r)=cb:=by
 simp[A',FX,bY,gf]
def zF{op:Bool}{a b:Row}:bK .eq (A' a) (A' b)=b6 (f7 (a=b)):=by
 simp only[bK];rw[Zx #[jW a,jW b],mD]
def zG:bK .eq (.str a) (.str b)=b6 (f7 (a=b)):=by
 simp only[bK];rw[Zx #[rfl,rfl]];simp only[bA];by_cases h:a=b
 .subst h;simp
 .simp[h]
def om(f:α->β)(xs:List α)(lo hi:Option Int):cut (xs.map f) lo hi=(cut xs lo hi).map f:=by simp[cut,Yx,List.map_drop]
def tE(h:fu k (ss.map U.str)=cb):jI (k,.lst (ss.map .str)) lo hi=b6 (.own,.lst ((cut ss lo hi).map .str)):=by
 simp only[jI];rw[Zx h,om]
def xE(h:fu k (ds.map U.int)=cb):jI (k,.lst (ds.map .int)) lo hi=b6 (.own,.lst ((cut ds lo hi).map .int)):=by
 simp only[jI];rw[Zx h,om]
theorem mE:∀rs:List Row,bY 50 (rs.map A')=cb
 |[]=>by simp[bY]
 |r::rs=>by rw[i2,bY,jW,mE rs];rfl
def zH(r:Row)(rows:List Row):Ju (A' r) (rows.map A')=b6 (f7 (r∈rows)):=by
 unfold Ju;rw[Zx #[jW r,mE rows]];congr 1
 rw[YK,G8,KY];simp only[Function.comp,mD,Zz];show#[λ⟨x,a,h2⟩=>h2▸a,λh=>#[r,h,rfl]]
def uT{r:Row}{rows:List Row}:bK .Fj (A' r) (.tup (rows.map A'))=b6 (f7 (r∉rows)):=by
 change(uu (A' r) (.tup (rows.map A'))).map (!·)=_;rw[show uu (A' r) (.tup (rows.map A'))=b6 (f7 (r∈rows)) from zH r rows];simp
def iK(h:acc.length<4000)(h2:(ak acc).length<128):pJ .sset [(k,.lst (acc.map .str))]=b6 (.own,.lst ((aA (ak acc)).map .str)):=by
 have e:v9 (.lst (acc.map U.str))=b6 (ak acc):=by
  change(strsOf (acc.map U.str)).bind _=_;rw[gc];change(if acc.length+1<Gy then _ else _)=_;rw[Zx (by change acc.length+1<4096;lia)]
 unfold pJ;change qR (k,.lst (acc.map U.str))=_;unfold qR
 dsimp only
 rw[e];change(if (ak acc).length<128 then _ else _)=_;rw[Zx h2]
theorem fJ:∀{l:List α},(∀x∈l,∀y∈l,f x=f y->x=y)->l.Nodup->(l.map f).Nodup
 |[],_,_=>Lf
 |a::l,h,n=>by
  rw[Gz]at n;rw[i2,Gz];show#[λz=>?_,fJ (λx d y g=>h x (by simp[d]) y (by simp[g])) n.2];have(b,c,e):=my.mp z;show n.1 (h b (by simp[c]) a (by simp) e▸c)
def iL(l:List Str):(aA (ak l)).Nodup:=(br _).nodup_iff.mpr (eu l)
def kZ(l:List Str)(x:Str):x∈aA (ak l)↔x∈l:=by rw[(br _).mem_iff,gG]
def rJ{l names:List Str}(h:∀x∈l,x∈names):(ak l).length<=names.length:=kW (eu l) λx a=>h x ((gG l x).mp a)
section
def uU{rows:List Row}(hl:rows.length<=1000)(h:st[i]?=b6 (b6 (.loc,.tup (rows.map A')))):Run (ev Γ (.comp 1 dV .seq [.var i] [] (.idx (.var 0) (.cst (.int 0))))) st (.own,.lst ((rows.map (·.1)).map .str)) st:=by
 have hsz:(1000:Nat)<=eF:=by decide
 have a:=cC (cond:=aP Γ []) (elt:=ev Γ (.idx (.var 0) (.cst (.int 0)))) (src:=[(.loc,.tup (rows.map A'))]) (st:=st) trivial .loc (.inl rfl) A' (λr=>.str r.1) .loc (λ_=>d9) rows [] (by simp;lia)
  (λr _=>#[aV (x:=(.loc,A' r)) (af rfl) aj trivial rfl,ar])
 rw[tx]at a;have e:(rows.map A').map (λu=>(kE .loc,u))=rows.map λr=>(Kd.loc,A' r):=by rw[mn];rfl
 rw[mn];show cu (rs:=[(.loc,.tup (rows.map A'))]) (aa (af h) ah) trivial (by change b6 _=_;rw[e]) a
end
section
def xF:Run (J9 Γ [] out) st out st:=rfl
def fK(a:Run (ev Γ e) st x st1)(h2:lM x.2 out=b6 y)(b:Run (J9 Γ es y) st1 z st2):Run (J9 Γ (e::es) out) st z st2:=ae a (ae (dI h2) b)
def xG(h:Run (J9 Γ es DD) st z st1):Run (ev Γ (.fst es)) st (.loc,.str z) st1:=ae h aQ
end
def fL(h:xs.length+a.length<=eF)(b:fu k xs=cb)(h2:fu k' a=cb):Ht .add (k,.lst xs) (k',.lst a)=b6 (.own,.lst (xs++a)):=by
 simp only[Ht,yI];rw[Zx #[h,b,h2]]
def dc(x y:Str):(x++y).cps.toList=x.cps.toList++y.cps.toList:=by
 change(x.cps++y.cps).toList=_;simp
def str_len(x y:Str):(x++y).length=x.length+y.length:=by rw[len_list,len_list,len_list,dc,oT]
def dE{x y:Str}(h:x.cps.toList=y.cps.toList):x=y:=by
 have⟨a⟩:=x;have⟨b⟩:=y;have:a=b:=KO.mp h;rw[this]
def empty_app(x:Str):DD++x=x:=dE (by rw[dc];rfl)
def gh(a:y.length<=1000)(h2:out.length<=1000):lM (.str y) out=b6 (out++y):=by
 have hsz:(4000:Nat)<=eF:=by decide
 simp only[lM];rw[Zx #[⋯,by rw[str_len];lia]]
def tF(a:0<=k)(b:k<=99)(h2:out.length<=1000):lM (.int k) out=b6 (out++jE k):=by
 have hsz:(4000:Nat)<=eF:=by decide
 have hl:=f_ a b;simp only[lM];rw[Zx #[by
  by_cases hz:k=0
  .subst hz;decide
  .have:k.natAbs<2 ^ 7:=by lia
   have h2:k.natAbs≠0:=by lia
   have:=(Y6 h2).mpr this;lia,by rw[str_len];change out.length+(jE k).length<=eF;lia]]
 rfl
def uV(h:fH x.cps.toList):∃y r,Sy x eT=y::r/\(ve x eT).1=y/\y.length<=8:=by
 rcases h with h|⟨a,b,k,e,h,_⟩
 .show#[x,[],qy (dX h),by rw[show eT=⟨#v[47]⟩ from rfl,FD.fT (dX h)],by rw[len_list];show((bU _).mp h).2.1]
 .have(r,c):=vE e (dX h) (by decide);show#[_,r,c,by rw[show eT=⟨#v[47]⟩ from rfl,FD.r9 e (dX h)],by rw[len_list];simpa using((bU _).mp h).2.1]
abbrev bQ(rows:List Row):List Str:=(rows.map λr=>r.1::r.2).flatten
abbrev aD(rows:List Row):List Str:=aA (ak (bQ rows))
def pX(d:List Row)(y:Row):bQ (d++[y])=bQ d++[y.1]++y.2:=by simp[bQ]
def cM:x∈bQ rows↔∃r∈rows,x=r.1\/x∈r.2:=by
 simp only[bQ,List.mem_flatten,my];constructor
 .rintro⟨l,⟨r,a,rfl⟩,b⟩;show#[r,a,i1.mp b]
 .rintro⟨r,a,b⟩;show#[_,#[r,a,rfl],i1.mpr b]
def eR(h:∀r∈rows,iJ names r):∀x∈bQ rows,x∈names:=by
 intro x hx;have(r,a,hx):=cM.mp hx;rcases hx with rfl|hx
 .show(h r a).word
 .show(h r a).told x hx
def k8(h:∀r∈rows,r.2.length<=8):(bQ rows).length<=9 * rows.length:=by
 induction rows with
 |nil=>simp[bQ]
 |cons r rows a =>
  have b:=h r (by simp);have h2:=a λs hs=>h s (by simp[hs]);simp only[bQ,i2,T5,oT,ti]at h2 ⊢;lia
def cN:x∈aD rows↔x∈bQ rows:=kZ _ _
def iM(rows:List Row):(aD rows).Nodup:=iL _
def k9(h:∀r∈rows,iJ names r):(aD rows).length<=names.length:=by
 change(aA (ak (bQ rows))).length<=_;rw[bp];show rJ (eR h)
def iN(hl:rows.length<=120)(c:∀r∈rows,iJ names r)(n:names.length<128):cj Γ oo [.tup (rows.map A')]=b6 (.ok (.own,.lst ((aD rows).map .str))):=by
 have hsz:(4000:Nat)<=eF:=by decide
 have f:TM.start [.tup (rows.map A')] 3=[b6 (.loc,.tup (rows.map A')),b7,b7]:=by simp[TM.start,FJ,cL]
 have b:∀r∈rows,r.2.length<=8:=λr h=>(c r h).Qw;have(st',g,_,o2,e):=gS (t:=dV) (is:=[2]) (body:=execs Γ [.app 1 (.idx (.var 2) (.cst (.int 0))),.ext 1 (.idx (.var 2) (.cst (.int 1)))]) (rs:=[(.loc,.tup (rows.map A'))]) (λr:Row=>(Kd.loc,A' r))
  (λd r st=>d++r=rows/\∃o2,st=[b6 (.loc,.tup (rows.map A')),b6 (.own,.lst ((bQ d).map .str)),o2]) (λ_ _ _ _=>trivial) (λd y r st i=>by
   have(a,o2,e):=i;subst e;have j:y∈rows:=by rw[<-a];simp
   have o:=k8 (rows:=d) λs hs=>b s (by rw[<-a];simp[hs]);have l:d.length<=120:=by have:=ZE Lz a;simp at this;lia
   have p:=b y j;show#[[b6 (.loc,.tup (rows.map A')),b6 (.own,.lst ((bQ d).map .str)),b6 (.loc,A' y)],[b6 (.loc,.tup (rows.map A')),b6 (.own,.lst ((bQ d).map .str++[.str y.1]++y.2.map .str)),b6 (.loc,A' y)],bX aM,?_,by rw[<-a];simp,b6 (.loc,A' y),?_]
   .show kS (k:=.own) (k':=.own) (r:=(.loc,.str y.1)) rfl (aV (x:=(.loc,A' y)) (af rfl) aj trivial rfl) ar rfl rfl (by rw[f6];lia)
     (Ec (k:=.own) rfl (aV (x:=(.loc,A' y)) (af rfl) aj trivial rfl) rfl rfl (zE (by simp;lia) rfl) cZ)
   .rw[pX];simp) rows [] [b6 (.loc,.tup (rows.map A')),b6 (.own,.lst []),b7] ⟨rfl,b7,rfl⟩
 subst e;have m:(rows.map A').map (λu=>(kE .loc,u))=rows.map λr=>(Kd.loc,A' r):=by rw[mn];rfl
 have q:=k8 b;have l:=rJ (eR c);show a_ rfl (.inl rfl) f (aG (r:=(.own,.lst [])) (bq ah trivial av (qq _)) bH (gw (rs:=[(.loc,.tup (rows.map A'))]) (aa (af rfl) ah) trivial rfl rfl (by rw[m];show g) (cT (tf (aa (az rfl) ah) #[#[.own,rfl,rfl],trivial] (iK ⋯ ⋯)) xq)))
def pY:z∈(dput ks us x u).1↔z∈ks\/z=x:=by
 unfold dput;by_cases h:x∈ks
 .rw[Zx h];show#[.inl,λq=>q.elim id λe=>e▸h]
 .rw[Zy h];simp
def pZ:(dput ks us x u).1.length<=ks.length+1:=by
 unfold dput;by_cases h:x∈ks
 .rw[Zx h];show IE _
 .rw[Zy h];simp
def oq(h:ks.length<1000):kF (.str x) u (.Fh ks us)=b6 (.Fh (dput ks us x u).1 (dput ks us x u).2):=by
 have hsz:(1000:Nat)<=eF:=by decide
 change(if ks.length<eF then _ else _)=_;rw[Zx ⋯]
end TM
namespace K
open PySem L2 TM
abbrev ck:Ck:=#[(prog.filter λf=>f.io.isNone).map (·.name),[("FIRST_SENSE",(.int 1)),("LAST_SENSE",(.int 99)),("MOST_ROWS",(.int 60))],prog.filterMap λf=>f.io.map λp=>(f.name,p.1),["TooMany"],[("TooMany","PrimerError")],[("TooMany","Lacking",dV),("TooMany","NoDeed",dV),("TooMany","NoRow",dV),("TooMany","NoText",dV),("TooMany","TooMany",cb),("TooMany","Unfit",dV),("TooMany","Unknown",dV),("TooMany","Unlearnt",dV),("TooMany","ValueError",cb)],[]]
end K
namespace TM
open PySem L2 FD
section
def Ai(h:Γ f us=b6 (.ok (.own,u))):Run (bG Γ f us) st (.inl (.own,u)) st:=by
 change bG Γ f us st=_;unfold bG;rw[h]
def Aj(h:Γ f us=b6 (.ok (.loc,u))):Run (bG Γ f us) st (.inl (.loc,u)) st:=by
 change bG Γ f us st=_;unfold bG;rw[h]
def xI(h:Γ f us=b6 (.exc c)):Run (bG Γ f us) st (.inr c) st:=by
 change bG Γ f us st=_;unfold bG;rw[h]
def gT(a:Run (aY Γ es) st rs st1)(h2:aX rs st1)(b:Run (bG Γ f (rs.map (·.2))) st1 r st1):Run (aY Γ es >>= λrs=>au rs >>= λ_=>bG Γ f (rs.map (·.2))) st r st1:=ae a (ae (aR h2) b)
def xJ(a:Run (J_ Γ r) st (.inl x) st1)(h2:Run (cQ i x) st1 () st2)(b:Run (execs Γ ss) st2 f st3):Run (execs Γ (.GJ i r::ss)) st f st3:=ji (ae a (ae h2 aQ)) b
def tH(a:Run (J_ Γ r) st (.inr c) st1):Run (execs Γ (.GJ i r::ss)) st (.rt .io (.str c)) st1:=rB (ae a aQ)
def Ak(h:Run (ev Γ e) st x st1):Run (execs Γ (.Jt c e::ss)) st (.rt .io (.str c)) st1:=ae (ae h aQ) aQ
def iP(a:us.length=fn.np)(hs:start us fn.ns=st0)(h:Run (execs Γ fn.body) st0 (.rt .io (.str c)) st):cj Γ fn us=b6 (.exc c):=by
 have e:execs Γ fn.body st0=b6 (.ok (.rt .io (.str c)),st):=h;unfold cj;rw[Zx a,hs,e]
end
@[reducible]noncomputable def Pr:=Str×Str
abbrev Gv(p:Pr):U:=.tup [.str p.1,.str p.2]
abbrev nm(stem:Str)(i:Nat):Str:=stem++eT++jE (2+(i:Int))
def xK:∀i j:Nat,i<98->j<98->jE (2+(i:Int))=jE (2+(j:Int))->i=j:=by
 have h:∀i:_root_.Fin 98,∀j:_root_.Fin 98,(jE (2+((i:Nat):Int))).cps.toList=(jE (2+((j:Nat):Int))).cps.toList->i=j:=by decide +kernel
 intro i j hi a e;have:=h #[i,hi] #[j,a] (by rw[e]);show ZE _root_.Fin.val this
def ot(hi:i<98)(a:j<98)(e:nm stem i=nm stem j):i=j:=by
 show xK i j hi a (dE ?_);have h:=ZE (λx:Str=>x.cps.toList) e;simp only[nm,dc]at h;show List.append_cancel_left h
abbrev cands(stem:Str):List Str:=(lg 98).map (nm stem)
def Al{ss:List Str}:bK .isin (.str x) (.lst (ss.map U.str))=b6 (f7 (x∈ss)):=by
 have h:=@kX x ss;have e:bK .Fj (.str x) (.lst (ss.map U.str))=(bK .isin (.str x) (.lst (ss.map U.str))).map (!·):=rfl;rw[e,j']at h;have(b,a,h2):=h;rw[a];congr 1
 cases b<;>simp_all
abbrev d_(stem:Str)(L:List Str):Option Str:=(cands stem).find? λx=>f7 (x∉L)
def p7(stem:Str){L M:List Str}(h:∀x,x∈L↔x∈M):d_ stem L=d_ stem M:=by
 unfold d_;have:(λx=>f7 (x∉L))=λx=>f7 (x∉M):=by funext x;simp[h x]
 rw[this]
abbrev stemOf(w:Str):Str:=(ve w eT).1
abbrev cE(mine theirs same:List Str):List Pr->List Str->Option (List Pr)
 |acc,[]=>b6 acc
 |acc,w::ws=>if w∈mine/\w∉same then(d_ (stemOf w) (mine++theirs++acc.map (·.2))).bind λx=>cE mine theirs same (acc++[(w,x)]) ws else cE mine theirs same (acc++[(w,w)]) ws
theorem lb:∀(ws:List Str) (acc ps:List Pr),cE mine theirs same acc ws=b6 ps->ps.map (·.1)=acc.map (·.1)++ws
 |[],acc,ps,h=>by cases h;simp
 |w::ws,acc,ps,h=>by
  unfold cE at h;split at h
  .have(x,_,h):=wk.mp h;rw[lb ws _ ps h];simp
  .rw[lb ws _ ps h];simp
abbrev fM{α:Type}(f:α->Kd×U):Option α->Ex (Kd×U)
 |some a=>.ok (f a)
 |none=>.exc "TooMany"
def uW(h:fH w.cps.toList):(stemOf w).length<=8/\∃r,Sy w eT=stemOf w::r:=by
 have(y,r,a,h2,b):=uV h;unfold stemOf;rw[h2];show#[b,r,a]
def xM(h:stem.length<=8)(hi:i<98):(nm stem i).length<=11:=by
 have:=f_ (k:=2+(i:Int)) ⋯ ⋯;rw[nm,str_len,str_len];have:eT.length=1:=rfl;lia
end TM
namespace K
open PySem L2 TM FD
section
def p_(h:w.length<=1000):cj Γ gi [.str w]=b6 (.ok (.loc,.str (stemOf w))):=by
 have hsz:(1000:Nat)<=eF:=by decide
 have a:nL .partition (.str w) [(.loc,.str "/")]=b6 (.loc,.tup [.str (ve w "/").1,.str (ve w "/").2.1,.str (ve w "/").2.2]):=by
  change(if (Og "/"==0)=dV/\w.length<=eF then _ else _)=_;rw[Zx #[by decide,⋯]]
 show a_ (st0:=[b6 (.loc,.str w)]) rfl (.inr rfl) rfl (cT (aV (tm (af rfl) (aa aj ah) trivial a) aj trivial rfl) dz)
abbrev qa:List TM.S:=[.set 3 (.fst [.var 0,.cst (.str "/"),.var 2]),.ite (.cmp .Fj (.var 3) (.var 1)) [.ret (.var 3)] []]
theorem mG(hs:stem.length<=8)(c:∀st,aX rs st):∀(is:List Nat) (o2 o3:Option (Kd×U)),(∀i∈is,i<98)->(is.map (nm stem)).find? (λx=>f7 (x∉ks))=b6 x ->
  ∃st',Run (forM dV [2] (execs Γ qa) rs (is.map λi:Nat=>(Kd.loc,U.int (2+(i:Int))))) [b6 (.loc,.str stem),b6 (.any,.Fh ks vs),o2,o3] (.rt .loc (.str x)) st'
 |[],_,_,_,h=>by simp at h
 |i::is,o2,o3,hi,h=>by
  have g:=hi i (by simp);let S:=λ(o3:Option (Kd×U))=>([b6 (.loc,.str stem),b6 (.any,.Fh ks vs),b6 (.loc,.int (2+(i:Int))),o3]:aw)
  have q:=xM hs g;have d:Run (ev Γ (.fst [.var 0,.cst (.str "/"),.var 2])) (S o3) (.loc,.str (nm stem i)) (S o3):=by
   have l:DD++stem=stem:=empty_app stem;have e:=gh (y:=stem) (out:=DD) ⋯ (by decide);rw[l]at e;have m:=gh (y:="/") (out:=stem) (by decide) ⋯;have n:=tF (k:=2+(i:Int)) (out:=stem++("/":Str)) ⋯ ⋯ (by rw[str_len];have:Og "/"=1:=rfl;lia);show xG (fK (af rfl) e (fK aj m (fK (af rfl) n xF)))
  have a:Run (FF Γ (.cmp .Fj (.var 3) (.var 1))) (S (b6 (.loc,.str (nm stem i)))) (!f7 (nm stem i∈ks)) (S (b6 (.loc,.str (nm stem i)))):=cB (af rfl) (bu rfl) trivial rfl;have f:Run (dQ dV [2] (.loc,.int (2+(i:Int)))) [b6 (.loc,.str stem),b6 (.any,.Fh ks vs),o2,o3] () (S o3):=bX aM;rw[i2,IA]at h;by_cases b:nm stem i∈ks
  .rw[ZA (λz=>z b)]at h;rw[ZC b]at a;have(st',o):=mG hs c is (b6 (.loc,.int (2+(i:Int)))) (b6 (.loc,.str (nm stem i))) (λj p=>hi j (by simp[p])) h;show#[st',rC (c _) f (aG d aM (fI a (λh=>by cases h) λ_=>cZ)) o]
  .rw[ZC b]at h;rw[ZA b]at a;cases h;show#[_,D9 (c _) f (aG d aM (fI a (λ_=>cT (af rfl) dz) λh=>by cases h))]
theorem lh(hs:stem.length<=8)(a:∀st,aX rs st):∀(is:List Nat) (o2 o3:Option (Kd×U)),(∀i∈is,i<98)->(is.map (nm stem)).find? (λx=>f7 (x∉ks))=b7 ->
  ∃b c,Run (forM dV [2] (execs Γ qa) rs (is.map λi:Nat=>(Kd.loc,U.int (2+(i:Int))))) [b6 (.loc,.str stem),b6 (.any,.Fh ks vs),o2,o3] .nx [b6 (.loc,.str stem),b6 (.any,.Fh ks vs),b,c]
 |[],o2,o3,_,h=>#[o2,o3,pS (a _)]
 |i::is,o2,o3,hi,h=>by
  have g:=hi i (by simp);let S:=λ(o3:Option (Kd×U))=>([b6 (.loc,.str stem),b6 (.any,.Fh ks vs),b6 (.loc,.int (2+(i:Int))),o3]:aw)
  have s:=xM hs g;have l:Run (ev Γ (.fst [.var 0,.cst (.str "/"),.var 2])) (S o3) (.loc,.str (nm stem i)) (S o3):=by
   have m:DD++stem=stem:=empty_app stem;have e:=gh (y:=stem) (out:=DD) ⋯ (by decide);rw[m]at e;have n:=gh (y:="/") (out:=stem) (by decide) ⋯;have o:=tF (k:=2+(i:Int)) (out:=stem++("/":Str)) ⋯ ⋯ (by rw[str_len];have:Og "/"=1:=rfl;lia);show xG (fK (af rfl) e (fK aj n (fK (af rfl) o xF)))
  have f:Run (FF Γ (.cmp .Fj (.var 3) (.var 1))) (S (b6 (.loc,.str (nm stem i)))) (!f7 (nm stem i∈ks)) (S (b6 (.loc,.str (nm stem i)))):=cB (af rfl) (bu rfl) trivial rfl;have p:Run (dQ dV [2] (.loc,.int (2+(i:Int)))) [b6 (.loc,.str stem),b6 (.any,.Fh ks vs),o2,o3] () (S o3):=bX aM;rw[i2,IA]at h;by_cases d:nm stem i∈ks
  .rw[ZA (λz=>z d)]at h;rw[ZC d]at f;have(b,c,q):=lh hs a is (b6 (.loc,.int (2+(i:Int)))) (b6 (.loc,.str (nm stem i))) (λj r=>hi j (by simp[r])) h;show#[b,c,rC (a _) p (aG l aM (fI f (λh=>by cases h) λ_=>cZ)) q]
  .rw[ZC d]at h;cases h
def xN(hs:stem.length<=8):cj Γ dJ [.str stem,.Fh ks vs]=b6 (fM (λx=>(.loc,.str x)) (d_ stem ks)):=by
 have b:TM.start [.str stem,.Fh ks vs] 4=[b6 (.loc,.str stem),b6 (.any,.Fh ks vs),b7,b7]:=rfl;have c:Run (aY Γ [.bin .add (.IQ "FIRST_SENSE" (.int 1)) (.cst (.int 1)),.bin .add (.IQ "LAST_SENSE" (.int 99)) (.cst (.int 1))]) [b6 (.loc,.str stem),b6 (.any,.Fh ks vs),b7,b7] [(.loc,.int (1+1)),(.loc,.int (99+1))] [b6 (.loc,.str stem),b6 (.any,.Fh ks vs),b7,b7]:=aa (aC xm aj trivial bM) (aa (aC xm aj trivial bM) ah);cases e:d_ stem ks with
 |some x =>
  have(st',a):=mG (Γ:=Γ) hs (ks:=ks) (vs:=vs) (rs:=[(.loc,.int (1+1)),(.loc,.int (99+1))]) (λ_=>trivial) (lg 98) b7 b7 (λi hi=>uv.mp hi) e;show a_ rfl (.inr rfl) b (rB (xv c trivial rfl rfl a))
 |none =>
  have(d,f,a):=lh (Γ:=Γ) hs (ks:=ks) (vs:=vs) (rs:=[(.loc,.int (1+1)),(.loc,.int (99+1))]) (λ_=>trivial) (lg 98) b7 b7 (λi hi=>uv.mp hi) e;have g:Run (ev Γ (.fst [.cst (.str "no number is left for the stem "),.var 0])) [b6 (.loc,.str stem),b6 (.any,.Fh ks vs),d,f] (.loc,.str ("no number is left for the stem "++stem)) [b6 (.loc,.str stem),b6 (.any,.Fh ks vs),d,f]:=by
   have j:DD++("no number is left for the stem ":Str)="no number is left for the stem ":=empty_app _;have h:=gh (y:="no number is left for the stem ") (out:=DD) (by decide) (by decide);rw[j]at h;have k:=gh (y:=stem) (out:="no number is left for the stem ") ⋯ (by decide);show xG (fK aj h (fK (af rfl) k xF))
  show iP rfl b (gw c trivial rfl rfl a (Ak g))
end
end K
namespace TM
open PySem L2 FD
theorem lj:∀(ps:List Pr) (n:Nat),bY (n+1) (ps.map Gv)=cb
 |[],n=>by simp[bY]
 |p::ps,n=>by rw[i2,bY,lj ps n];simp[Gv,FX,bY]
end TM
namespace K
open PySem L2 TM FD
section
variable{Γ:Tab}{one other:List Row}{same:List Str}
theorem ll(hs:∀st,aX src st):∀(ws:List Str) (ks:List Str) (vs:List U) (b:Option (Kd×U)),ks.length+ws.length<1000 ->
  ∃a c d,(∀x,x∈a↔x∈ks\/x∈ws)/\a.length<=ks.length+ws.length/\Run (forM dV [6] (execs Γ [.put 5 (.var 6) (.cst (.bl cb))]) src (ws.map λx=>(Kd.loc,U.str x))) [o0,o1,o2,o3,o4,b6 (.own,.Fh ks vs),b,o7,o8] .nx [o0,o1,o2,o3,o4,b6 (.own,.Fh a c),d,o7,o8]
 |[],ks,vs,b,_=>#[ks,vs,b,by simp,by simp,pS (hs _)]
 |w::ws,ks,vs,b,hl=>by
  rw[ti]at hl;have g:=pZ (ks:=ks) (us:=vs) (x:=w) (u:=.bl cb);have(a,c,d,e,h2,f):=ll (o0:=o0) (o1:=o1) (o2:=o2) (o3:=o3) (o4:=o4) (o7:=o7) (o8:=o8) hs ws (dput ks vs w (.bl cb)).1 (dput ks vs w (.bl cb)).2 (b6 (.loc,.str w)) ⋯;show#[a,c,d,λx=>?_,by simp;lia,rC (hs _) (bX aM) (tD (st1:=[o0,o1,o2,o3,o4,b6 (.own,.Fh ks vs),b6 (.loc,.str w),o7,o8]) (st2:=[o0,o1,o2,o3,o4,b6 (.own,.Fh ks vs),b6 (.loc,.str w),o7,o8]) (st3:=[o0,o1,o2,o3,o4,b6 (.own,.Fh ks vs),b6 (.loc,.str w),o7,o8]) (k:=.own) (k':=.own) aj rfl (af rfl) (ag ar (ag ar av)) rfl rfl (oq ⋯) cZ) f];rw[e,pY,i1,or_assoc]
abbrev qb:List TM.S:=[.set 8 (.var 6),.ite (.and [.cmp .isin (.var 6) (.var 3),.cmp .Fj (.var 6) (.var 2)]) [.GJ 8 (.call "free_name" [.call "stem_of" [.var 6],.var 5]),.put 5 (.var 8) (.cst (.bl cb))] [],.app 7 (.tup [.var 6,.var 8])]
abbrev JR(mine theirs same:List Str)(acc:List Pr)(ws:List Str):Fl:=match cE mine theirs same acc ws with
 |some _=>.nx
 |none=>.rt .io (.str "TooMany")
theorem gU(o:k2=.loc\/k2=.any)(s:∀x:Str,bK .Fj (.str x) b=b6 (f7 (x∉same)))
  (t:∀w:Str,fH w.cps.toList->Γ "stem_of" [.str w]=b6 (.ok (.loc,.str (stemOf w)))) (v:∀(stem:Str) (ks:List Str) (vs:List U),stem.length<=8->Γ "free_name" [.str stem,.Fh ks vs]=b6 (fM (λx=>(.loc,.str x)) (d_ stem ks)))
  (I:theirs.length<=100) (y:∀x∈theirs,fH x.cps.toList):∀(ws:List Str) (acc:List Pr) (ks:List Str) (vs:List U) (f o8:Option (Kd×U)),(∀x,x∈ks↔x∈mine++theirs++acc.map (·.2))->ks.length<=300+acc.length->acc.map (·.1)++ws=theirs ->
  ∃g i j l c,(∀ps,cE mine theirs same acc ws=b6 ps->c=ps)/\Run (forM dV [6] (execs Γ qb) [(.bor 4,.lst (theirs.map .str))] (ws.map λx=>(Kd.loc,U.str x))) [o0,o1,b6 (k2,b),b6 (.own,.lst (mine.map .str)),b6 (.own,.lst (theirs.map .str)),b6 (.own,.Fh ks vs),f,b6 (.own,.lst (acc.map Gv)),o8] (JR mine theirs same acc ws)
   [o0,o1,b6 (k2,b),b6 (.own,.lst (mine.map .str)),b6 (.own,.lst (theirs.map .str)),b6 (.own,.Fh g i),j,b6 (.own,.lst (c.map Gv)),l]
 |[],acc,ks,vs,f,o8,_,_,_=>#[ks,vs,f,o8,acc,λps h=>(by cases h;rfl),pS #[#[.own,rfl,rfl],trivial]]
 |w::ws,acc,ks,vs,f,o8,A,Y,p=>by
  have hsz:(1000:Nat)<=eF:=by decide
  have J:w∈theirs:=by rw[<-p];simp
  have LU:acc.length<100:=by have:=ZE Lz p;simp at this;lia
  have L:=y w J;let S:=λ(ks:List Str) (vs:List U) (acc:List Pr) (o8:Option (Kd×U))=>([o0,o1,b6 (k2,b),b6 (.own,.lst (mine.map .str)),b6 (.own,.lst (theirs.map .str)),b6 (.own,.Fh ks vs),b6 (.loc,.str w),b6 (.own,.lst (acc.map Gv)),o8]:aw)
  have Q:Run (ev Γ (.var 2)) (S ks vs acc (b6 (.loc,.str w))) (k2,b) (S ks vs acc (b6 (.loc,.str w))):=by
   rcases o with rfl|rfl
   .show af rfl
   .show bu rfl
  have T:∀st,aX [(.loc,.str w),(k2,b)] st:=λst=>by rcases o with rfl|rfl<;>trivial
  have m:Run (FF Γ (.and [.cmp .isin (.var 6) (.var 3),.cmp .Fj (.var 6) (.var 2)])) (S ks vs acc (b6 (.loc,.str w))) (f7 (w∈mine)&&f7 (w∉same)) (S ks vs acc (b6 (.loc,.str w))) :=
   xp (rH (cB (af rfl) (az rfl) #[#[.own,rfl,rfl],trivial] Al) λ_=>kR (cB (af rfl) Q (T _) (s w)))
  have app:∀(ks:List Str) (vs:List U) (x:Str),Run (execs Γ [.app 7 (.tup [.var 6,.var 8])]) (S ks vs acc (b6 (.loc,.str x))) .nx (S ks vs (acc++[(w,x)]) (b6 (.loc,.str x))):=λks vs x=>by
   have e:(acc++[(w,x)]).map Gv=acc.map Gv++[Gv (w,x)]:=by simp
   change Run _ _ _ [o0,o1,b6 (k2,b),b6 (.own,.lst (mine.map .str)),b6 (.own,.lst (theirs.map .str)),b6 (.own,.Fh ks vs),b6 (.loc,.str w),b6 (.own,.lst ((acc++[(w,x)]).map Gv)),b6 (.loc,.str x)];rw[e];show kS (k:=.own) (k':=.own) (r:=(.loc,Gv (w,x))) rfl (bP (aa (af rfl) (aa (af rfl) ah)) trivial (ag ar (ag ar av)) (by change 2<=eF;lia)) ar rfl rfl (by rw[f6];lia) cZ
  have B:aX [(Kd.bor 4,U.lst (theirs.map .str))] [o0,o1,b6 (k2,b),b6 (.own,.lst (mine.map .str)),b6 (.own,.lst (theirs.map .str)),b6 (.own,.Fh ks vs),f,b6 (.own,.lst (acc.map Gv)),o8]:=#[#[.own,rfl,rfl],trivial]
  by_cases d:w∈mine/\w∉same
  .have C:(f7 (w∈mine)&&f7 (w∉same))=cb:=by simp[d.1,d.2]
   rw[C]at m;have hs:=(uW L).1;have n:=v (stemOf w) ks vs hs;rw[p7 (stemOf w) A]at n;have N:Run (aY Γ [.call "stem_of" [.var 6],.var 5]) (S ks vs acc (b6 (.loc,.str w))) [(.loc,.str (stemOf w)),(.bor 5,.Fh ks vs)] (S ks vs acc (b6 (.loc,.str w))):=aa (bw (aa (af rfl) ah) trivial (t w L)) (aa (az rfl) ah);have O:aX [(Kd.loc,U.str (stemOf w)),(.bor 5,.Fh ks vs)] (S ks vs acc (b6 (.loc,.str w))):=#[#[.own,rfl,rfl],trivial]
   cases e:d_ (stemOf w) (mine++theirs++acc.map (·.2)) with
   |none =>
    rw[e]at n;have a:cE mine theirs same acc (w::ws)=b7:=by unfold cE;rw[Zx d,e];rfl
    show#[ks,vs,b6 (.loc,.str w),b6 (.loc,.str w),acc,λps h=>(by rw[a]at h;cases h),?_];unfold JR;rw[a];show D9 B (bX aM) (aG (r:=(.loc,.str w)) (af rfl) aM (fI m (λ_=>tH (gT N O (xI n))) λh=>by cases h))
   |some x =>
    rw[e]at n;have a:cE mine theirs same acc (w::ws)=cE mine theirs same (acc++[(w,x)]) ws:=by rw[cE,Zx d,e];rfl
    have(g,i,j,l,c,D,G):=gU (mine:=mine) (o0:=o0) (o1:=o1) o s t v I y ws (acc++[(w,x)]) (dput ks vs x (.bl cb)).1 (dput ks vs x (.bl cb)).2 (b6 (.loc,.str w)) (b6 (.loc,.str x)) (λz=>by
     rw[pY,A];simp[or_assoc]) (by have:=pZ (ks:=ks) (us:=vs) (x:=x) (u:=.bl cb);simp;lia) (by rw[<-p];simp)
    show#[g,i,j,l,c,λps h=>D ps (by rw[<-a];show h),?_];have H:JR mine theirs same acc (w::ws)=JR mine theirs same (acc++[(w,x)]) ws:=by unfold JR;rw[a]
    rw[H];show rC B (bX aM) (aG (r:=(.loc,.str w)) (af rfl) aM (fI m (λ_=>?_) λh=>by cases h)) G;show xJ (x:=(.loc,.str x)) (gT N O (Aj n)) aM
     (tD (st1:=S ks vs acc (b6 (.loc,.str x))) (st2:=S ks vs acc (b6 (.loc,.str x))) (st3:=S ks vs acc (b6 (.loc,.str x))) (k:=.own) (k':=.own) aj rfl (af rfl) (ag ar (ag ar av)) rfl rfl (oq ⋯) (app _ _ x))
  .have C:(f7 (w∈mine)&&f7 (w∉same))=dV:=by
    rw[OD];intro z;simp only[df,Zz]at z;show d z
   rw[C]at m;have a:cE mine theirs same acc (w::ws)=cE mine theirs same (acc++[(w,w)]) ws:=by rw[cE,Zy d]
   have(g,i,j,l,c,D,G):=gU (mine:=mine) (o0:=o0) (o1:=o1) o s t v I y ws (acc++[(w,w)]) ks vs (b6 (.loc,.str w)) (b6 (.loc,.str w)) (λz=>by
    rw[A];simp only[uk,i2,Mr,mx,mf];show#[λq=>q.elim .inl λq=>.inr (.inl q),λq=>q.elim .inl λq=>q.elim .inr λe=>.inl (.inr (e▸J))]) (by simp;lia) (by rw[<-p];simp)
   have H:JR mine theirs same acc (w::ws)=JR mine theirs same (acc++[(w,w)]) ws:=by unfold JR;rw[a]
   rw[H];show#[g,i,j,l,c,λps h=>D ps (by rw[<-a];show h),rC B (bX aM) (aG (r:=(.loc,.str w)) (af rfl) aM (fI m (λh=>by cases h) λ_=>app ks vs w)) G]
def iQ{ss:List Str}(hk:kE k=.loc):Ij .seq [(k,.lst (ss.map .str))]=b6 (ss.map λx=>(Kd.loc,U.str x)):=by
 change b6 ((ss.map U.str).map λu=>(kE k,u))=_;rw[mn,hk];rfl
abbrev jN(one other:List Row)(same:List Str):Option (List Pr):=cE (aD one) (aD other) same [] (aD other)
def lQ(g:(if FJ a=cb then Kd.loc else Kd.any)=k2)(o:∀x:Str,bK .Fj (.str x) a=b6 (f7 (x∉same)))
  (i:∀rows,rows=one\/rows=other->Γ "words_of" [.tup (rows.map A')]=b6 (.ok (.own,.lst ((aD rows).map .str))))
  (p:∀w:Str,fH w.cps.toList->Γ "stem_of" [.str w]=b6 (.ok (.loc,.str (stemOf w)))) (q:∀(stem:Str) (ks:List Str) (vs:List U),stem.length<=8->Γ "free_name" [.str stem,.Fh ks vs]=b6 (fM (λx=>(.loc,.str x)) (d_ stem ks)))
  (s:(aD one).length<=120) (j:(aD other).length<=100) (t:∀x∈aD other,fH x.cps.toList) :
  cj Γ cU [.tup (one.map A'),.tup (other.map A'),a]=b6 (fM (λps=>(.own,.lst (ps.map Gv))) (jN one other same)):=by
 have hsz:(1000:Nat)<=eF:=by decide
 have v:k2=.loc\/k2=.any:=by rw[<-g];split<;>simp
 let mine:=aD one;let theirs:=aD other;have B:mine.length<=120:=s;have C:theirs.length<=100:=j;let b:Option (Kd×U):=b6 (.loc,.tup (one.map A'));let c:Option (Kd×U):=b6 (.loc,.tup (other.map A'));have l:TM.start [.tup (one.map A'),.tup (other.map A'),a] 9=[b,c,b6 (k2,a),b7,b7,b7,b7,b7,b7]:=by simp[TM.start,FJ,cL,g,b,c]
 let m3:Option (Kd×U):=b6 (.own,.lst (mine.map .str));let m:Option (Kd×U):=b6 (.own,.lst (theirs.map .str));have(ks,vs,n,y,h2,z):=ll (Γ:=Γ) (o0:=b) (o1:=c) (o2:=b6 (k2,a)) (o3:=m3) (o4:=m) (o7:=b7) (o8:=b7) (src:=[(.own,.lst ((mine++theirs).map .str))]) (λ_=>trivial) (mine++theirs) [] [] b7 (by simp;lia);have GH:ks.length<=300:=by simp at h2;lia
 have(D,G,H,I,J,A,d):=gU (Γ:=Γ) (mine:=mine) (theirs:=theirs) (same:=same) (o0:=b) (o1:=c) v o p q j t theirs [] ks vs n b7 (λx=>by rw[y];simp) (by simpa using GH) rfl;have ad:Ht .add (.bor 3,.lst (mine.map .str)) (.bor 4,.lst (theirs.map .str))=b6 (.own,.lst ((mine++theirs).map .str)):=by
  rw[uk];show fL (by simp;lia) rfl rfl
 have body:∀{k:Kd} {u:U} {st':aw},Run (execs Γ [.F0 dV [6] .seq [.var 4] qb,.ret (.var 7)]) [b,c,b6 (k2,a),m3,m,b6 (.own,.Fh ks vs),n,b6 (.own,.lst []),b7] (.rt k u) st'->Run (execs Γ cU.body) [b,c,b6 (k2,a),b7,b7,b7,b7,b7,b7] (.rt k u) st':=λ{k u st'} h =>
  aG (r:=(.own,.lst (mine.map .str))) (bw (aa (af rfl) ah) trivial (i one (.inl rfl))) bH (aG (r:=(.own,.lst (theirs.map .str))) (bw (aa (af rfl) ah) trivial (i other (.inr rfl))) bH
  (aG (r:=(.own,.Fh [] [])) xn bH (gw (rs:=[(.own,.lst ((mine++theirs).map .str))]) (aa (aC (az rfl) (az rfl) #[#[.own,rfl,rfl],#[.own,rfl,rfl],trivial] ad) ah) trivial (iQ rfl) rfl z
   (aG (r:=(.own,.lst [])) (bq ah trivial av (qq _)) bH h))))
 cases e:jN one other same with
 |none =>
  have f:cE mine theirs same [] theirs=b7:=e;unfold JR at d;rw[f]at d;show iP rfl l (body (rB (xv (rs:=[(.bor 4,.lst (theirs.map .str))]) (aa (az rfl) ah) #[#[.own,rfl,rfl],trivial] (iQ rfl) rfl d)))
 |some ps =>
  have f:cE mine theirs same [] theirs=b6 ps:=e;unfold JR at d;rw[f]at d;obtain rfl:=A ps f;show a_ rfl (.inl rfl) l (body (gw (rs:=[(.bor 4,.lst (theirs.map .str))]) (aa (az rfl) ah) #[#[.own,rfl,rfl],trivial] (iQ rfl) rfl d (cT (az rfl) (xr rfl))))
end
end K
namespace TM
open PySem L2 FD
section
def Ed(a:Run (J_ Γ r) st (.inl x) st1)(h2:aX [x] st1)(b:Hk .dict [x]=b6 y):Run (J_ Γ (.Fh r)) st (.inl y) st1:=ae a (ae (aR h2) (ae (dI b) aQ))
def Cn(a:Run (J_ Γ r) st (.inr c) st1):Run (J_ Γ (.Fh r)) st (.inr c) st1:=ae a aQ
end
abbrev eY:List Pr->Str->Str
 |[],x=>x
 |p::ps,x=>if p.1=x then p.2 else eY ps x
theorem qc:∀{ps:List Pr},x∈ps.map (·.1)->jH (ps.map (·.1)) (ps.map λp=>U.str p.2) x=b6 (.str (eY ps x))
 |[],h=>by cases h
 |p::ps,h=>by
  simp only[i2,jH,eY];by_cases e:p.1=x
  .rw[Zx e,Zx e]
  .rw[Zy e,Zy e];show qc (by simpa[GR e] using h)
abbrev cF(ps:List Pr)(r:Row):Row:=(eY ps r.1,r.2.map (eY ps))
abbrev Jz(r s:Row):Bool:=f7 (keyOf r=keyOf s)
abbrev fN(rows:List Row)(r:Row):List Row:=if (rows.any λs=>Jz s r)=cb then rows else rows++[r]
abbrev aN:List Row->List Row->List Row
 |rows,[]=>rows
 |rows,r::rs=>aN (fN rows r) rs
def qd(rows:List Row)(r:Row):∀(d:List Row),aN rows (d++[r])=fN (aN rows d) r:=λd=>by
 induction d generalizing rows with
 |nil=>rfl
 |cons x d a=>show a _
def xO(h:x∈fN rows r):x∈rows\/x=r:=by
 unfold fN at h;split at h
 .show .inl h
 .simpa using h
def xP(rows:List Row)(r:Row):(fN rows r).length<=rows.length+1:=by
 unfold fN;split<;>simp
theorem lp:∀{d rows:List Row},x∈aN rows d->x∈rows\/x∈d
 |[],rows,h=>.inl h
 |r::d,rows,h=>by
  rcases lp (d:=d) h with z|z
  .rcases xO z with z|z
   .show .inl z
   .show .inr (by simp[z])
  .show .inr (by simp[z])
theorem eS:∀(d rows:List Row),(aN rows d).length<=rows.length+d.length
 |[],rows=>by simp[aN]
 |r::d,rows=>by
  have a:=eS d (fN rows r);have h2:=xP rows r;simp only[aN,ti];lia
def zI(bs:List Bool):Hk .any [(k,.lst (bs.map .bl))]=b6 (.loc,.bl (bs.any id)):=by
 change(jx (bs.map U.bl)).map _=_;have:∀bs:List Bool,jx (bs.map U.bl)=b6 bs:=λbs=>by
  induction bs with
  |nil=>rfl
  |cons b bs a=>change(jx (bs.map U.bl)).map _=_;rw[a];rfl
 rw[this];rfl
def zJ{ps:List Pr}(h:(ps.map (·.1)).Nodup):Hk .dict [(k,.lst (ps.map Gv))]=b6 (.own,.Fh (ps.map (·.1)) (ps.map λp=>.str p.2)):=by
 have e:∀ps:List Pr,kC (ps.map Gv)=b6 (ps.map λp=>(p.1,U.str p.2)):=λps=>by
  induction ps with
  |nil=>rfl
  |cons p ps a =>
   change(if L5 (U.str p.2)=cb then(kC (ps.map Gv)).map ((p.1,U.str p.2)::·) else b7)=_;rw[Zx (show L5 (U.str p.2)=cb from rfl),a];rfl
 change(kC (ps.map Gv)).bind _=_;rw[e];change(if ((ps.map λp=>(p.1,U.str p.2)).map (·.1)).Nodup then b6 (Kd.own,U.Fh ((ps.map λp=>(p.1,U.str p.2)).map (·.1)) ((ps.map λp=>(p.1,U.str p.2)).map (·.2))) else b7)=_;have b:(ps.map λp=>(p.1,U.str p.2)).map (·.1)=ps.map (·.1):=by rw[mn];rfl
 rw[b,Zx h,mn];rfl
def tI(h:x∈ps.map (·.1)):i9 (k,.Fh (ps.map (·.1)) (ps.map λp=>.str p.2)) (.str x)=b6 (kE k,.str (eY ps x)):=by
 change(jH _ _ x).map _=_;rw[qc h];rfl
def tJ{rows:List Row}(t:Bool):Ij .seq [(k,if t=cb then .tup (rows.map A') else .lst (rows.map A'))]=b6 (rows.map λr=>(kE k,A' r)):=by
 cases t<;>(change b6 ((rows.map A').map _)=_;rw[mn];rfl)
end TM
namespace K
open PySem L2 TM FD
section
def uX(h:r.2.length<64):cj Γ bR [A' r]=b6 (.ok (.loc,A' (keyOf r))):=by
 have a:=sorted_strs (k:=.loc) (ss:=r.2) ⋯;have b:i9 (.loc,A' r) (.int 0)=b6 (.loc,.str r.1):=rfl;have c:i9 (.loc,A' r) (.int 1)=b6 (.loc,.tup (r.2.map .str)):=rfl;apply a_ (st0:=[b6 (.loc,A' r)]) rfl (.inr rfl) (by simp[TM.start,jV,bR])
 repeat' (first|show b|show c|show a|show(by decide:(2:Nat)<=eF)|sizeOf_list_dec)
def uY(a:∀r:Row,r.2.length<64->Γ "in_one_order" [A' r]=b6 (.ok (.loc,A' (keyOf r))))(h:r.2.length<64)(h2:s.2.length<64):cj Γ iO [A' r,A' s]=b6 (.ok (.loc,.bl (Jz r s))):=by
 apply a_ (st0:=[b6 (.loc,A' r),b6 (.loc,A' s)]) rfl (.inr rfl) (by simp[TM.start,jV,iO])
 repeat' (first|show a r h|show a s h2|show zF (op:=cb)|sizeOf_list_dec)
def qe(f:r.2.length<=8)(b:r.1∈ps.map (·.1))(h2:∀x∈r.2,x∈ps.map (·.1)):cj Γ gj [A' r,.Fh (ps.map (·.1)) (ps.map λp=>.str p.2)]=b6 (.ok (.loc,A' (cF ps r))):=by
 have hsz:(1000:Nat)<=eF:=by decide
 let S:aw:=[b6 (.loc,A' r),b6 (.any,.Fh (ps.map (·.1)) (ps.map λp=>.str p.2))]
 have c:TM.start [A' r,.Fh (ps.map (·.1)) (ps.map λp=>.str p.2)] 2=S:=by simp[TM.start,jV,FJ,S]
 have a:=cC (cond:=aP Γ []) (elt:=ev Γ (.idx (.var 2) (.var 0))) (src:=[(.loc,.tup (r.2.map .str))]) (st:=S) trivial .loc (.inl rfl) U.str (λx=>.str (eY ps x)) .any (λ_=>d9) r.2 [] (by simp;lia)
  (λx a=>#[aV (bu rfl) (af rfl) trivial (tI (h2 x a)),tu rfl])
 rw[tx]at a;have d:Run (ev Γ (.comp 1 dV .seq [.idx (.var 0) (.cst (.int 1))] [] (.idx (.var 2) (.var 0)))) S (.own,.lst (r.2.map λx=>.str (eY ps x))) S :=
  cu (rs:=[(.loc,.tup (r.2.map .str))]) (aa (aV (x:=(.loc,A' r)) (af rfl) aj trivial rfl) ah) trivial (by change b6 _=_;rw[mn];rfl) a
 have e:A' (cF ps r)=.tup [.str (eY ps r.1),.tup (r.2.map λx=>.str (eY ps x))]:=by simp[A',cF,mn,WZ]
 rw[e];show a_ rfl (.inr rfl) c (cT (bP (aa (aV (bu rfl) (aV (x:=(.loc,A' r)) (af rfl) aj trivial rfl) trivial (tI b)) (aa (cS (aa d ah) trivial rfl) ah)) trivial (ag (tu rfl) (ag ar av)) (by change 2<=eF;lia)) dz)
def Ee(h:r.2.length<=8):(cF ps r).2.length<=8:=by simpa[cF] using h
def E9{one:List Row}(a:∀r∈one,r.2.length<=n)(h2:∀r∈d,r.2.length<=n):∀r∈aN one d,r.2.length<=n:=λr b=>(lp b).elim (a r) (h2 r)
def uZ{one other:List Row}{same:List Str}(a:Γ "new_names" [.tup (one.map A'),.tup (other.map A'),.lst (same.map .str)]=b6 (.exc "TooMany")):cj Γ jl [.tup (one.map A'),.tup (other.map A'),.lst (same.map .str)]=b6 (.exc "TooMany"):=by
 have b:TM.start [.tup (one.map A'),.tup (other.map A'),.lst (same.map .str)] 7=[b6 (.loc,.tup (one.map A')),b6 (.loc,.tup (other.map A')),b6 (.any,.lst (same.map .str)),b7,b7,b7,b7]:=by simp[TM.start,FJ,cL]
 show iP rfl b (tH (Cn (gT (rs:=[(.loc,.tup (one.map A')),(.loc,.tup (other.map A')),(.any,.lst (same.map .str))]) (aa (af rfl) (aa (af rfl) (aa (bu rfl) ah))) trivial (xI a))))
def xQ{one other:List Row}{same:List Str}(w:Γ "new_names" [.tup (one.map A'),.tup (other.map A'),.lst (same.map .str)]=b6 (.ok (.own,.lst (ps.map Gv))))(z:(ps.map (·.1)).Nodup)
  (A:∀r:Row,r.2.length<=8->r.1∈ps.map (·.1)->(∀x∈r.2,x∈ps.map (·.1))->Γ "renamed" [A' r,.Fh (ps.map (·.1)) (ps.map λp=>.str p.2)]=b6 (.ok (.loc,A' (cF ps r))))
  (B:∀r s:Row,r.2.length<64->s.2.length<64->Γ "alike" [A' r,A' s]=b6 (.ok (.loc,.bl (Jz r s))))
  (C:∀r∈one,r.2.length<=8) (h2:∀r∈other,r.2.length<=8) (hk:∀r∈other,r.1∈ps.map (·.1)/\∀x∈r.2,x∈ps.map (·.1)) (hl:one.length+other.length<=200) :
  cj Γ jl [.tup (one.map A'),.tup (other.map A'),.lst (same.map .str)]=if 60<(aN one (other.map (cF ps))).length then b6 (.exc "TooMany") else b6 (.ok (.loc,.tup ((aN one (other.map (cF ps))).map A'))):=by
 have hsz:(1000:Nat)<=eF:=by decide
 let D:U:=.Fh (ps.map (·.1)) (ps.map λp=>.str p.2);let S:=λ(us:List U) (g b:Option (Kd×U))=>([b6 (.loc,.tup (one.map A')),b6 (.loc,.tup (other.map A')),b6 (.any,.lst (same.map .str)),b6 (.own,D),b6 (.own,.lst us),g,b]:aw)
 have q:TM.start [.tup (one.map A'),.tup (other.map A'),.lst (same.map .str)] 7=[b6 (.loc,.tup (one.map A')),b6 (.loc,.tup (other.map A')),b6 (.any,.lst (same.map .str)),b7,b7,b7,b7]:=by simp[TM.start,FJ,cL]
 have(st',u,_,g,b,e):=gS (t:=dV) (is:=[5]) (body:=execs Γ [.set 6 (.call "renamed" [.var 5,.var 3]),.ite (.not (.bi .any [.comp 1 dV .seq [.var 4] [] (.call "alike" [.var 0,.var 7])])) [.app 4 (.var 6)] []]) (rs:=[(.loc,.tup (other.map A'))]) (λr:Row=>(Kd.loc,A' r))
  (λd r st=>d++r=other/\∃g b,st=S ((aN one (d.map (cF ps))).map A') g b) (λ_ _ _ _=>trivial) (λd y r st G=>by
   have(j,g,b,e):=G;subst e;have n:y∈other:=by rw[<-j];simp
   have(k1,k2):=hk y n;have Y:d.length<other.length:=by have:=ZE Lz j;simp at this;lia
   let R:=aN one (d.map (cF ps));have H:∀s∈R,s.2.length<=8:=E9 C λs hs=>by
    have(t,I,rfl):=my.mp hs;show Ee (h2 t (by rw[<-j];simp[I]))
   have J:R.length<=200:=by
    have:=eS (d.map (cF ps)) one;rw[f6]at this;change(aN one (d.map (cF ps))).length<=200;lia
   let a:=cF ps y;have UZ:a.2.length<=8:=Ee (h2 y n);let c:Option (Kd×U):=b6 (.loc,A' y);let i:Option (Kd×U):=b6 (.loc,A' a);have L:Run (ev Γ (.call "renamed" [.var 5,.var 3])) (S (R.map A') c b) (.loc,A' a) (S (R.map A') c b):=bw (aa (af rfl) (aa (az rfl) ah)) #[#[.own,rfl,rfl],trivial] (A y (h2 y n) k1 k2);have v:=cC (cond:=aP Γ []) (elt:=ev Γ (.call "alike" [.var 0,.var 7])) (src:=[(.bor 4,.lst (R.map A'))]) (st:=S (R.map A') c i) #[#[.own,rfl,rfl],trivial] .loc (.inl rfl) A' (λs=>.bl (Jz s a)) .loc (λ_=>d9) R [] (by simp;lia)
    (λs hs=>#[bw (aa (af rfl) (aa (af rfl) ah)) trivial (B s a (by have:=H s hs;lia) ⋯),ar])
   rw[tx]at v;have N:=cu (Γ:=Γ) (k:=1) (t:=dV) (ik:=.seq) (src:=[.var 4]) (st:=S (R.map A') c i) (st1:=S (R.map A') c i) (rs:=[(.bor 4,.lst (R.map A'))]) (aa (az rfl) ah) #[#[.own,rfl,rfl],trivial] (tJ (k:=.bor 4) (rows:=R) dV) v;have O:Hk .any [(.own,.lst (R.map λs=>U.bl (Jz s a)))]=b6 (.loc,.bl (R.any λs=>Jz s a)):=by
    have:=zI (k:=.own) (R.map λs=>Jz s a);rw[mn,YK]at this;show this
   have Q:Run (FF Γ (.not (.bi .any [.comp 1 dV .seq [.var 4] [] (.call "alike" [.var 0,.var 7])]))) (S (R.map A') c i) (!R.any λs=>Jz s a) (S (R.map A') c i):=Ad (Cm (cS (aa N ah) trivial O));have T:(aN one ((d++[y]).map (cF ps)))=fN R a:=by rw[uk];show qd _ _ _
   show#[S (R.map A') c b,S ((fN R a).map A') c i,bX aM,aG L aM (fI Q (λh=>?_) λh=>?_),by rw[<-j];simp,c,i,by rw[T]]
   .have o:¬(R.any λs=>Jz s a)=cb:=by simpa using h
    rw[fN,Zy o,uk];show kS (k:=.own) (k':=.own) (r:=(.loc,A' a)) (us:=R.map A') rfl (af rfl) ar rfl rfl (by rw[f6];lia) cZ
   .have o:(R.any λs=>Jz s a)=cb:=by simpa using h
    rw[fN,Zx o];show cZ) other [] (S (one.map A') b7 b7) ⟨rfl,b7,b7,rfl⟩
 subst e;rw[tx]at u;let R:=aN one (other.map (cF ps));have J:R.length<=200:=by
  have:=eS (other.map (cF ps)) one;rw[f6]at this;change(aN one (other.map (cF ps))).length<=200;lia
 have l:Run (FF Γ (.cmp .gt (.bi .len [.var 4]) (.IQ "MOST_ROWS" (.int 60)))) (S (R.map A') g b) (f7 (60<R.length)) (S (R.map A') g b):=by
  show cB (cS (aa (az rfl) ah) #[#[.own,rfl,rfl],trivial] rfl) xm trivial ?_;change b6 (f7 ((60:Int)<((R.map A').length:Nat)))=_;rw[f6];congr 1
  rw[G8];simp;lia
 have all:∀{f:Fl} {st2:aw},Run (execs Γ [.ite (.cmp .gt (.bi .len [.var 4]) (.IQ "MOST_ROWS" (.int 60))) [.Jt "TooMany" (.cst (.str "the books have too many rows together"))] [],.ret (.bi .tuple [.var 4])]) (S (R.map A') g b) f st2->Run (execs Γ jl.body) [b6 (.loc,.tup (one.map A')),b6 (.loc,.tup (other.map A')),b6 (.any,.lst (same.map .str)),b7,b7,b7,b7] f st2:=λh =>
  xJ (x:=(.own,D)) (Ed (gT (rs:=[(.loc,.tup (one.map A')),(.loc,.tup (other.map A')),(.any,.lst (same.map .str))]) (aa (af rfl) (aa (af rfl) (aa (bu rfl) ah))) trivial (Ai w)) trivial (zJ z)) bH
  (aG (r:=(.own,.lst (one.map A'))) (cS (aa (af rfl) ah) trivial rfl) bH
   (gw (rs:=[(.loc,.tup (other.map A'))]) (aa (af rfl) ah) trivial (tJ (k:=.loc) (rows:=other) cb) rfl u h))
 by_cases m:60<R.length
 .rw[Zx m];rw[ZC m]at l;show iP rfl q (all (og l (Ak aj)))
 .rw[Zy m];rw[ZA m]at l;show a_ rfl (.inr rfl) q (all (fI l (λh=>by cases h) λ_=>cT (cS (aa (az rfl) ah) #[#[.own,rfl,rfl],trivial] rfl) dz))
end
end K
namespace TM
open PySem L2 FD
section
abbrev iR:U:=.tup [.Fg,.lst [.bl cb,.bl cb,.bl dV]]
def Am(a:Run (FF Γ c >>= λp=>if p=cb then((aY Γ es >>= λrs=>au rs >>= λ_=>bG Γ f (rs.map (·.2))) >>= jJ (ev Γ (.lst []))) else((aY Γ b >>= λrs=>au rs >>= λ_=>bG Γ g (rs.map (·.2))) >>= jJ (ev Γ (.lst [])))) st r st1)(h2:Run (qS i j o d r) st1 .nx st2)(e:Run (execs Γ ss) st2 h st3):Run (execs Γ (.J8 i c f es g b x d j o A B G::ss)) st h st3:=ji (ae a h2) e
def Ef(a:Run (FF Γ c) st p st1)(h2:Run (if p=cb then m1 else m2) st1 r st2):Run (FF Γ c >>= λp=>if p=cb then m1 else m2) st r st2:=ae a h2
def An(a:Run m st (.inl x) st1)(h2:Run b st1 y st2)(c:aX [x,y] st2)(d:Run (b_ [x,y]) st2 us st3):Run (m >>= jJ b) st (.inl (.loc,.tup us)) st3:=ae a (ae h2 (ae (aR c) (ae d aQ)))
def Co(a:Run m st (.inr c) st1):Run (m >>= jJ b) st (.inr c) st1:=ae a aQ
def E_(h:Run (cQ i r) st () st1):Run (qS i j o a (.inl r)) st .nx st1:=ae h aQ
def Eg(a:st[j]?=b6 b7)(b:i≠j/\o≠j/\o≠i)(d:c∈e):Run (qS i j o e (.inr c)) st .nx ((st.set i (b6 (.loc,iR))).set o (b6 (.loc,.bl dV))):=by
 unfold qS
 dsimp only
 rw[Zx d];change wa i j o st=_;unfold wa;rw[a];show Zx b
abbrev IV{α:Type}(f:α->U):Option α->U
 |some a=>.tup [f a,.lst []]
 |none=>iR
end
end TM
namespace K
open PySem L2 TM FD
section
variable{one other:List Row}{same names names2:List Str}
abbrev iS(one other:List Row)(same:List Str):Option (List Row):=(jN one other same).bind λps=>if 60<(aN one (other.map (cF ps))).length then b7 else b6 (aN one (other.map (cF ps)))
def xR(other:List Row):∀r∈other,r.1∈aD other/\∀x∈r.2,x∈aD other:=λr a=>#[cN.mpr (cM.mpr #[r,a,.inl rfl]),λx b=>cN.mpr (cM.mpr #[r,a,.inr b])]
structure LD(names names2:List Str)(one other:List Row):Prop where
 l1:one.length<=80
 l2:other.length<=80
 n1:names.length<=110
 n2:names2.length<=100
 r1:∀r∈one,iJ names r
 r2:∀r∈other,iJ names2 r
 wc:∀x∈names2,fH x.cps.toList
def xS(T:LD names names2 one other)(n:Nat):GB prog (n+2) "new_names" [.tup (one.map A'),.tup (other.map A'),.lst (same.map .str)]=b6 (fM (λps=>(.own,.lst (ps.map Gv))) (jN one other same)):=by
 have e:=k9 T.r1;have f:=k9 T.r2;have g:=T.n1;have h:=T.n2;have i:=T.l1;have j:=T.l2;show(aS (show Hc prog "new_names" cU from rfl) _).trans (lQ rfl (λx=>kX) (λrows a=>?_) (λw b=>(aS (show Hc prog "stem_of" gi from rfl) _).trans (p_ (by rw[len_list];have:=b.len.2;lia))) (λstem ks vs c=>(aS (show Hc prog "free_name" dJ from rfl) _).trans (xN c)) ⋯ ⋯ λx d=>T.wc x (eR T.r2 x (cN.mp d)));rcases a with rfl|rfl
 .show(aS (show Hc prog "words_of" oo from rfl) _).trans (iN ⋯ T.r1 ⋯)
 .show(aS (show Hc prog "words_of" oo from rfl) _).trans (iN ⋯ T.r2 ⋯)
def xT(T:LD names names2 one other)(n:Nat):GB prog (n+3) "laid" [.tup (one.map A'),.tup (other.map A'),.lst (same.map .str)]=b6 (fM (λrows=>(.loc,.tup (rows.map A'))) (iS one other same)):=by
 have a:=xS (same:=same) T n;have g:=T.l1;have i:=T.l2;show(aS (show Hc prog "laid" jl from rfl) _).trans ?_;unfold iS;cases e:jN one other same with
 |none =>
  rw[e]at a;show uZ a
 |some ps =>
  rw[e]at a;have d:ps.map (·.1)=aD other:=lb (aD other) [] ps e;have h:=xQ (one:=one) (other:=other) (same:=same) (ps:=ps) a (by rw[d];show iM other)
   (λr b h2 f=>(aS (show Hc prog "renamed" gj from rfl) _).trans (qe b h2 f)) (λr s b h2=>(aS (show Hc prog "alike" iO from rfl) _).trans (uY (λr h=>(aS (show Hc prog "in_one_order" bR from rfl) _).trans (uX h)) b h2)) (λr c=>(T.r1 r c).Qw) (λr c=>(T.r2 r c).Qw) (by rw[d];show xR other) ⋯
  rw[h];change _=b6 (fM _ (if 60<(aN one (other.map (cF ps))).length then b7 else b6 (aN one (other.map (cF ps)))));split<;>rfl
def mH(d:g=if w=0 then "laid" else "new_names")(p:∀a,(f a).1=.own\/(f a).1=.loc)
  (h:Γ g [.tup (one.map A'),.tup (other.map A'),.lst (same.map .str)]=b6 (fM f o)):cj Γ cV [.int w,.tup (one.map A'),.tup (other.map A'),.lst (same.map .str)]=b6 (.ok (.loc,IV (λa=>(f a).2) o)):=by
 have hsz:(1000:Nat)<=eF:=by decide
 have j:TM.start [.int w,.tup (one.map A'),.tup (other.map A'),.lst (same.map .str)] 7=[b6 (.loc,.int w),b6 (.loc,.tup (one.map A')),b6 (.loc,.tup (other.map A')),b6 (.any,.lst (same.map .str)),b7,b7,b7]:=by simp[TM.start,FJ,cL]
 let S:=λ(o4 s:Option (Kd×U))=>([b6 (.loc,.int w),b6 (.loc,.tup (one.map A')),b6 (.loc,.tup (other.map A')),b6 (.any,.lst (same.map .str)),o4,b7,s]:aw)
 let b:Option (Kd×U):=b6 (.loc,.tup [.Fg,.lst []]);have l:Run (FF Γ (.cmp .eq (.var 0) (.cst (.int 0)))) (S b b7) (f7 (w=0)) (S b b7):=cB (af rfl) aj trivial (by simp[bK,FX,bA];rfl);have i:Run (aY Γ [.var 1,.var 2,.var 3]) (S b b7) [(.loc,.tup (one.map A')),(.loc,.tup (other.map A')),(.any,.lst (same.map .str))] (S b b7):=aa (af rfl) (aa (af rfl) (aa (bu rfl) ah));have m:∀{n:Fl} {st':aw} {ss:List TM.S},Run (execs Γ ss) (S b b7) n st'->Run (execs Γ (.set 4 (.tup [.cst .Fg,.lst []])::ss)) [b6 (.loc,.int w),b6 (.loc,.tup (one.map A')),b6 (.loc,.tup (other.map A')),b6 (.any,.lst (same.map .str)),b7,b7,b7] n st':=λh =>
  aG (r:=(.loc,.tup [.Fg,.lst []])) (bP (aa aj (aa (bq ah trivial av (qq _)) ah)) trivial (ag ar (ag d8 av)) (by change 2<=eF;lia)) aM h
 cases o with
 |none =>
  have c:∀g',g=g'->Run ((aY Γ [.var 1,.var 2,.var 3] >>= λrs=>au rs >>= λ_=>bG Γ g' (rs.map (·.2))) >>= jJ (ev Γ (.lst []))) (S b b7) (.inr "TooMany") (S b b7):=λg' e=>by
   subst e;show Co (gT i trivial (xI h))
  show a_ rfl (.inr rfl) j (m (Am (st1:=S b b7) (r:=.inr "TooMany") (Ef l ?_) (Eg rfl #[by decide,by decide,by decide] (by simp)) (cT (af rfl) dz)));by_cases z:w=0
  .rw[Zx (ZC z)];show c _ (by rw[d,Zx z])
  .rw[Zy (by simp[z])];show c _ (by rw[d,Zy z])
 |some a =>
  have c:∀g',g=g'->Run ((aY Γ [.var 1,.var 2,.var 3] >>= λrs=>au rs >>= λ_=>bG Γ g' (rs.map (·.2))) >>= jJ (ev Γ (.lst []))) (S b b7) (.inl (.loc,.tup [(f a).2,.lst []])) (S b b7):=λg' e=>by
   subst e;have h:Γ g [.tup (one.map A'),.tup (other.map A'),.lst (same.map .str)]=b6 (.ok (f a)):=h;have hk:=p a;generalize f a=q at h hk ⊢;have(k,u):=q;rcases hk with hk|hk
   .cases hk;show An (gT i trivial (Ai h)) (bq ah trivial av (qq _)) trivial (ag d8 (ag d8 av))
   .cases hk;show An (gT i trivial (Aj h)) (bq ah trivial av (qq _)) trivial (ag ar (ag d8 av))
  show a_ rfl (.inr rfl) j (m (Am (st1:=S b b7) (r:=.inl (.loc,.tup [(f a).2,.lst []])) (Ef l ?_) (E_ aM) (cT (af rfl) dz)));by_cases z:w=0
  .rw[Zx (ZC z)];show c _ (by rw[d,Zx z])
  .rw[Zy (by simp[z])];show c _ (by rw[d,Zy z])
end
abbrev HG(w:Str):Prop:=∃c:Nat,97<=c/\c<=122/\w=⟨#v[c]⟩
def HG.sb(h:HG w):dh w.cps.toList=cb:=by
 have(c,a,h2,rfl):=h;rw[bU];show#[by simp,by simp,λd hd=>?_];have:d=c:=by simpa using hd
 lia
def HG.wc(h:HG w):fH w.cps.toList:=.inl h.sb
def HG.len(h:HG w):w.length=1:=by
 have(c,a,h2,rfl):=h;rfl
def mI(h:dh w.cps.toList=cb):stemOf w=w:=by
 unfold stemOf;rw[show eT=⟨#v[47]⟩ from rfl,FD.fT (dX h)]
abbrev gv(mine same:List Str)(w:Str):Str:=if w∈mine/\w∉same then w++("/2":Str) else w
def R_(stem:Str):nm stem 0=stem++("/2":Str):=by
 show TM.dE ?_;rw[nm,dc,dc,dc,ro];congr 1
def Fb(w:Str):(w++("/2":Str)).length=w.length+2:=by rw[str_len];rfl
def zK(h:a++("/2":Str)=b++("/2":Str)):a=b:=by
 show TM.dE ?_;have h:=ZE (λx:Str=>x.cps.toList) h;simp only[dc]at h;show List.append_cancel_right h
theorem qf(f:∀x∈mine,HG x)(b:∀x∈theirs,HG x):∀(ws:List Str) (acc:List Pr),(∀x∈ws,x∈theirs)->(acc.map (·.1)++ws).Nodup->(∀p∈acc,p.2=gv mine same p.1/\HG p.1) ->
  cE mine theirs same acc ws=b6 (acc++ws.map λw=>(w,gv mine same w))
 |[],acc,_,_,_=>by simp[cE]
 |w::ws,acc,hs,c,g=>by
  have d:=b w (hs w (by simp));have WO:∀x,x=gv mine same w->cE mine theirs same (acc++[(w,x)]) ws=b6 (acc++(w::ws).map λw=>(w,gv mine same w)):=λx e=>by
   rw[qf f b ws (acc++[(w,x)]) (λy h=>hs y (by simp[h])) (by simpa using c) (λp hp=>by
    rcases mx.mp hp with hp|hp
    .show g p hp
    .rw[mf.mp hp];show#[e,d]),e]
   simp
  unfold cE;by_cases a:w∈mine/\w∉same
  .rw[Zx a,mI d.sb];have i:nm w 0∉mine++theirs++acc.map (·.2):=λz=>by
    rw[R_]at z;have hl:(w++("/2":Str)).length=3:=by rw[Fb,d.len]
    rcases mx.mp z with z|z
    .have:(w++("/2":Str)).length=1:=(mx.mp z).elim (λq=>(f _ q).len) λq=>(b _ q).len;lia
    .have(p,hp,e):=my.mp z;have(j,GH):=g p hp;rw[j]at e;unfold gv at e;split at e
     .have k:=zK e;rw[MX]at c;show c.2.2 p.1 (my.mpr #[p,hp,rfl]) w (by simp) k
     .rw[<-e,GH.len]at hl;lia
   have l:d_ w (mine++theirs++acc.map (·.2))=b6 (nm w 0):=by
    unfold d_ cands;rw[show lg 98=0::W6 1 97 from by decide,i2,IA,ZC i]
   rw[l];change cE mine theirs same (acc++[(w,nm w 0)]) ws=_;show WO _ (by unfold gv;rw[Zx a,R_])
  .rw[Zy a];show WO _ (by unfold gv;rw[Zy a])
theorem tK:∀(ws:List Str) (acc:List Pr),(∀x∈ws,x∈same)->cE mine theirs same acc ws=b6 (acc++ws.map λw=>(w,w))
 |[],acc,_=>by simp[cE]
 |w::ws,acc,h=>by
  unfold cE;rw[Zy λz=>z.2 (h w (by simp)),tK ws (acc++[(w,w)]) λx a=>h x (by simp[a])];simp
theorem lq{f:Str->Str}:∀{ws:List Str},x∈ws->eY (ws.map λw=>(w,f w)) x=f x
 |[],h=>by cases h
 |w::ws,h=>by
  simp only[i2,eY];by_cases e:w=x
  .rw[Zx e,e]
  .rw[Zy e];show lq (by simpa[GR e] using h)
abbrev H0(f:Str->Str)(r:Row):Row:=(f r.1,r.2.map f)
def zL:∀r∈other,cF ((aD other).map λw=>(w,f w)) r=H0 f r:=λr a=>by
 have(b,h2):=xR other r a;unfold cF H0;rw[lq b,LM λx c=>lq (h2 x c)]
abbrev cX(rows:List Row)(r:Row):List Row:=if r∈rows then rows else rows++[r]
def Eh(h:r.2.length<=1):keyOf r=r:=by
 have(a,b):=r
 match b,h with
 |[],_=>show ZE (a,·) (Wu.mp (br []))
 |[x],_=>show ZE (a,·) (List.perm_singleton.mp (br [x]))
 |_::_::_,h=>simp at h
def Cp(a:∀s∈rows,s.2.length<=1)(h2:r.2.length<=1):fN rows r=cX rows r:=by
 unfold fN cX;have e:(rows.any λs=>Jz s r)=f7 (r∈rows):=by
  rw[G8,KY,Zz];constructor
  .rintro⟨s,hs,h⟩;have h:=ZD h;rw[Eh (a s hs),Eh h2]at h;rw[<-h];show hs
  .show λh=>#[r,h,ZC rfl]
 rw[e];by_cases z:r∈rows
 .rw[Zx z,Zx (ZC z)]
 .rw[Zy z,Zy (by simp[z])]
theorem lr:∀{d rows:List Row},(∀s∈rows,s.2.length<=1)->(∀s∈d,s.2.length<=1)->aN rows d=d.foldl cX rows
 |[],rows,_,_=>rfl
 |r::d,rows,a,h2=>by
  rw[aN,Cp a (h2 r (by simp)),MD];show lr (λs hs=>?_) λs hs=>h2 s (by simp[hs]);unfold cX at hs;split at hs
  .show a s hs
  .rcases mx.mp hs with z|z
   .show a s z
   .rw[mf.mp z];show h2 r (by simp)
def zM(rows:List Row)(r:Row):rows.length<=(fN rows r).length:=by
 unfold fN;split<;>simp
theorem mJ:∀(d rows:List Row),rows.length<=(aN rows d).length
 |[],_=>g0 _
 |r::d,rows=>F8 (zM rows r) (mJ d _)
abbrev Hd(W:List Str)(r:Row):Prop:=r.1∈W/\∃x∈W,r.2=[x]
def fO{W:List Str}(h:∀r∈rows,r.1∈W/\∀x∈r.2,x∈W):∀x∈aD rows,x∈W:=λx b=>by
 have(r,a,z):=cM.mp (cN.mp b);rcases z with rfl|z
 .show(h r a).1
 .show(h r a).2 x z
def Hd.in{W:List Str}(h:Hd W r):r.1∈W/\∀x∈r.2,x∈W:=by
 have(b,x,h2,e):=h;show#[b,λy a=>by rw[e]at a;rw[mf.mp a];show h2]
def Hd.len{W:List Str}(h:Hd W r):r.2.length<=1:=by
 have(_,x,_,e):=h;rw[e];simp
def Hd.ok{W:List Str}(h:Hd W r):iJ W r:=#[h.1,by have:=h.len;lia,by have(_,x,_,e):=h;rw[e];simp,h.in.2]
def u3{W mine same:List Str}{one other:List Row}(c:∀w∈W,HG w)(d:∀r∈one,Hd W r)(h2:∀r∈other,Hd W r)(g:∀x,x∈mine↔x∈aD one):
  iS one other same=if 60<((other.map (H0 (gv mine same))).foldl cX one).length then b7 else b6 ((other.map (H0 (gv mine same))).foldl cX one):=by
 have e:jN one other same=b6 ((aD other).map λw=>(w,gv mine same w)):=by
  have:=qf (mine:=aD one) (theirs:=aD other) (same:=same) (λx a=>c x (fO (λr b=>(d r b).in) x a)) (λx a=>c x (fO (λr b=>(h2 r b).in) x a)) (aD other) [] (λx a=>a) (by simpa using iM other) (λp h=>by cases h);unfold jN;rw[this];congr 2
  rw[tx];show LM λw _=>?_;unfold gv;by_cases z:w∈mine/\w∉same
  .rw[Zx z,Zx #[(g w).mp z.1,z.2]]
  .rw[Zy z,Zy λq=>z #[(g w).mpr q.1,q.2]]
 have i:aN one (other.map (cF ((aD other).map λw=>(w,gv mine same w))))=(other.map (H0 (gv mine same))).foldl cX one:=by
  rw[LM (zL (f:=gv mine same))];show lr (λs hs=>(d s hs).len) λs hs=>by
   have(r,b,rfl):=my.mp hs;unfold H0;rw[f6];show(h2 r b).len
 unfold iS;rw[e];change(if 60<(aN one (other.map (cF ((aD other).map λw=>(w,gv mine same w))))).length then b7 else b6 (aN one (other.map (cF ((aD other).map λw=>(w,gv mine same w))))))=_;rw[i]
def xU{one other:List Row}(h:∀x∈aD other,x∈same):jN one other same=b6 ((aD other).map λw=>(w,w)):=by
 unfold jN;rw[tK _ _ h,tx]
def u4{one other:List Row}(h:∀x∈aD other,x∈same)(hl:60<one.length):iS one other same=b7:=by
 unfold iS;rw[xU h];show Zx (mA hl (mJ _ _))
section
def Ei{W:List Str}{i:Int}(a:0<=i)(b:i<W.length):∃x∈W,FY (W.map U.str) i=b6 (.str x):=by
 have(x,c,e):=zD (xs:=W) (z:=i) (t:=W.length) a ⋯ (Int.le_refl _);rw[Int.emod_eq_of_lt a b]at e;show#[x,c,e]
def rK{W:List Str}(I:W.length=8)(o:0<=b)(hs:0<=s/\s<1000)(p:m<=100):∃rows:List Row,rows.length=m/\(∀r∈rows,Hd W r)/\cj Γ de [.lst (W.map .str),.int b,.int s,.int (m:Nat)]=b6 (.ok (.loc,.tup (rows.map A'))):=by
 have hsz:(1000:Nat)<=eF:=by decide
 have q:m<2 ^ 62:=Mt p (by decide);let S:=λ(us:List U) (g c:Option (Kd×U))=>([b6 (.any,.lst (W.map .str)),b6 (.loc,.int b),b6 (.loc,.int s),b6 (.loc,.int (m:Nat)),b6 (.own,.lst us),g,c]:aw)
 have u:TM.start [.lst (W.map .str),.int b,.int s,.int (m:Nat)] 7=[b6 (.any,.lst (W.map .str)),b6 (.loc,.int b),b6 (.loc,.int s),b6 (.loc,.int (m:Nat)),b7,b7,b7]:=by simp[TM.start,FJ]
 have(st',v,_,rows,g,c,j,h2,e):=gS (t:=dV) (is:=[5]) (body:=execs Γ [.set 6 (.bin .mod (.bin .add (.var 1) (.bin .mul (.var 2) (.var 5))) (.cst (.int 64))),.app 4 (.tup [.idx (.var 0) (.bin .mod (.var 6) (.cst (.int 8))),.tup [.idx (.var 0) (.bin .HW (.var 6) (.cst (.int 8)))]])]) (rs:=[(.loc,.int (m:Nat))]) (λi:Nat=>(Kd.loc,U.int (0+(i:Int))))
  (λd r st=>d++r=lg m/\∃(rows:List Row) (g c:Option (Kd×U)),rows.length=d.length/\(∀r∈rows,Hd W r)/\st=S (rows.map A') g c) (λ_ _ _ _=>trivial) (λd i r st w=>by
   have(n,rows,g,c,j,h2,e):=w;subst e;have J:d.length<m:=by have:=ZE Lz n;simp at this;lia
   have hi:0<=b+s * (0+(i:Int)):=Int.add_nonneg o (Int.mul_nonneg hs.1 ⋯);let a:Int:=(b+s * (0+(i:Int))) % 64;have a0:0<=a:=IG _ (by decide);have L:a<64:=HH _ (by decide);have(x,A,ex):=Ei (W:=W) (i:=a % 8) ⋯ ⋯;have(y,B,C):=Ei (W:=W) (i:=a / 8) ⋯ ⋯;let f:Option (Kd×U):=b6 (.loc,.int (0+(i:Int)));let h:Option (Kd×U):=b6 (.loc,.int a);have D:Run (ev Γ (.bin .mod (.bin .add (.var 1) (.bin .mul (.var 2) (.var 5))) (.cst (.int 64)))) (S (rows.map A') f c) (.loc,.int a) (S (rows.map A') f c) :=
    aC (aC (af rfl) (aC (af rfl) (af rfl) trivial (gA (.inl #[⋯,⋯]))) trivial bM) aj trivial (aW (by decide))
   have G:Run (ev Γ (.tup [.idx (.var 0) (.bin .mod (.var 6) (.cst (.int 8))),.tup [.idx (.var 0) (.bin .HW (.var 6) (.cst (.int 8)))]])) (S (rows.map A') f h) (.loc,A' (x,[y])) (S (rows.map A') f h) :=
    bP (aa (aV (bu rfl) (aC (af rfl) aj trivial (aW (by decide))) trivial (bI ex)) (aa (bP (aa (aV (bu rfl) (aC (af rfl) aj trivial (oh #[by decide,by decide])) trivial (bI C)) ah) trivial (ag (tu rfl) av) (by change 1<=eF;lia)) ah)) trivial (ag (tu rfl) (ag ar av)) (by change 2<=eF;lia)
   have H:(rows++[(x,[y])]).map A'=rows.map A'++[A' (x,[y])]:=by simp
   show#[S (rows.map A') f c,S ((rows++[(x,[y])]).map A') f h,bX aM,aG D aM ?_,by rw[<-n];simp,rows++[(x,[y])],f,h,by simp[j],λr l=>?_,rfl]
   .rw[H];show kS (k:=.own) (k':=.own) (r:=(.loc,A' (x,[y]))) (us:=rows.map A') rfl G ar rfl rfl (by rw[f6];lia) cZ
   .rcases mx.mp l with z|z
    .show h2 r z
    .rw[mf.mp z];show#[A,y,B,rfl]) (lg m) [] (S [] b7 b7) ⟨by simp,[],b7,b7,rfl,λr l=>(by cases l),rfl⟩
 subst e;show#[rows,by simpa using j,h2,a_ rfl (.inr rfl) u (aG (r:=(.own,.lst [])) (bq ah trivial av (qq _)) bH (gw (rs:=[(.loc,.int (m:Nat))]) (aa (af rfl) ah) trivial (eQ q) rfl v (cT (cS (aa (az rfl) ah) #[#[.own,rfl,rfl],trivial] rfl) dz)))]
def xV{ds:List Int}(a:st[1]?=b6 (b6 (.own,.lst (ds.map .int))))(h2:st[2]?=b6 (b6 (.loc,.str small)))(hd:20<=ds.length)(c:∀d∈ds,0<=d):∃W:List Str,W.length=8/\(∀w∈W,HG w) /\
  Run (ev Γ (.comp 1 dV .FH [.cst (.int 8)] [] (.idx (.var 3) (.bin .add (.bin .mod (.idx (.var 2) (.cst (.int 0))) (.cst (.int 19))) (.var 0))))) st (.own,.lst (W.map .str)) st:=by
 have hsz:(1000:Nat)<=eF:=by decide
 have e:FY (ds.map U.int) 0=b6 (.int (dd ds 0)):=jU (i:=0) ⋯;have g:=tB c 0;have m0:0<=dd ds 0 % 19/\dd ds 0 % 19<19:=#[IG _ (by decide),HH _ (by decide)]
 let W:=(lg 8).map λi:Nat=>FD.one (97+(dd ds 0 % 19+(0+(i:Int))).toNat);show#[W,by simp[W],λw f=>?_,?_]
 .have(i,hi,rfl):=my.mp f;have:=uv.mp hi;show#[97+(dd ds 0 % 19+(0+(i:Int))).toNat,⋯,⋯,rfl]
 .have b:=cC (cond:=aP Γ []) (elt:=ev Γ (.idx (.var 3) (.bin .add (.bin .mod (.idx (.var 2) (.cst (.int 0))) (.cst (.int 19))) (.var 0)))) (src:=[(.loc,.int ((8:Nat):Int))]) (st:=st) trivial .loc (.inl rfl) (λi:Nat=>U.int (0+(i:Int))) (λi:Nat=>.str (FD.one (97+(dd ds 0 % 19+(0+(i:Int))).toNat))) .loc (λ_=>d9) (lg 8) [] (by simp;lia)
   (λi hi=>#[by
    have:=uv.mp hi;show aV (af h2) (aC (aC (aV (az a) aj #[#[.own,rfl,a],trivial] (bI e)) aj trivial (aW (by decide))) (af rfl) trivial bM) trivial (mW (by decide) (pV ⋯ ⋯)),ar])
  rw[tx]at b;rw[show W.map U.str=(lg 8).map λi:Nat=>U.str (FD.one (97+(dd ds 0 % 19+(0+(i:Int))).toNat)) from by rw[mn];rfl];show cu (rs:=[(.loc,.int ((8:Nat):Int))]) (aa aj ah) trivial (eQ (by decide)) b
end
mutual
theorem jm:∀(n:Nat) (u:U),FX n u=cb->bA u u=cb
 |_,.Fg,_=>by simp[bA]
 |_,.bl b,_=>by simp[bA]
 |_,.int b,_=>by simp[bA]
 |_,.str b,_=>by simp[bA]
 |0,.tup xs,h=>by simp[FX]at h
 |0,.lst xs,h=>by simp[FX]at h
 |n+1,.tup xs,h=>by rw[FX]at h;rw[bA];show gV n xs h
 |n+1,.lst xs,h=>by rw[FX]at h;rw[bA];show gV n xs h
 |n,.Fh a b,h=>by simp[FX]at h
theorem gV:∀(n:Nat) (us:List U),bY n us=cb->bZ us us=cb
 |_,[],_=>by simp[bZ]
 |n,u::us,h=>by
  rw[bY,df]at h;rw[bZ,jm n u h.1,gV n us h.2];rfl
end
def iT(h:FX 50 u=cb):bK .eq u u=b6 cb:=by
 simp only[bK];rw[Zx #[h,h],jm 50 u h]
def xW(h:FX 50 u=cb):bK .ne u u=b6 dV:=by
 simp only[bK];rw[Zx #[h,h],jm 50 u h];rfl
theorem ou:∀(P:List Row) (n:Nat),bY (n+2) (P.map A')=cb
 |[],n=>by simp[bY]
 |r::P,n=>by rw[i2,bY,ou P n];simp[A',FX,bY,gf]
def tL:FX 50 iR=cb:=by simp[iR,FX,bY]
def xX(n:Nat)(P:List Row):FX (n+4) (.tup [.tup (P.map A'),.lst []])=cb:=by
 simp only[FX,bY,ou P n,PB]
def zN(n:Nat)(P:List Pr):FX (n+4) (.tup [.lst (P.map Gv),.lst []])=cb:=by
 simp only[FX,bY,lj P (n+1),PB]
abbrev LG(rows:List Row):U:=.tup (rows.map A')
abbrev N_(ps:List Pr):U:=.lst (ps.map Gv)
abbrev rL(Γ:Tab):Prop:=∀(names a:List Str) (one other:List Row) (same:List Str),LD names a one other->Γ "_law_tried" [.int 0,.tup (one.map A'),.tup (other.map A'),.lst (same.map .str)]=b6 (.ok (.loc,IV LG (iS one other same)))/\Γ "_law_tried" [.int 1,.tup (one.map A'),.tup (other.map A'),.lst (same.map .str)]=b6 (.ok (.loc,IV N_ (jN one other same)))
def Cq(n:Nat):rL (GB prog (n+4)):=λnames a one other same T=>by
 show#[(aS (show Hc prog "_law_tried" cV from rfl) _).trans ?_,(aS (show Hc prog "_law_tried" cV from rfl) _).trans ?_]
 .show mH (Γ:=GB prog (n+3)) (g:="laid") rfl (λ_=>.inr rfl) (xT T n)
 .show mH (Γ:=GB prog (n+3)) (g:="new_names") rfl (λ_=>.inl rfl) (xS T (n+1))
def iU(xs:List α)(j:Nat):cut xs b7 (b6 (j:Int))=xs.take j:=by
 unfold cut;rw[HT.vn,HT.mS,Nt,WX];rcases WY j xs.length with h|h
 .rw[Rm h]
 .rw[U1 h,y4 (g0 _),y4 h]
def qg:jI (k,.tup (rs.map A')) lo hi=b6 (kE k,.tup ((cut rs lo hi).map A')):=by
 change b6 (kE k,U.tup (cut (rs.map A') lo hi))=_;rw[om]
abbrev F6(w:Str):Row:=(w,[])
section
def xY(v:rL Γ){W a:List Str}{one:List Row}(I:W.length=8)(y:∀w∈W,HG w)(m:one.length=60)(n:∀r∈one,Hd W r)(J:a.Nodup)(q:∀x,x∈a↔x∈aD one)(hn:0<=b):
  cj Γ cc [.tup (one.map A'),.lst (a.map .str),.int b]=b6 (.ok (.loc,.bl cb)):=by
 have hsz:(1000:Nat)<=eF:=by decide
 have A:∀x∈a,x∈W:=λx i=>fO (λr f=>(n r f).in) x ((q x).mp i);have LP:a.length<=8:=by rw[<-I];show kW J A
 have U4:0<a.length:=by
  cases e:a with
  |cons _ _=>simp
  |nil =>
   cases o:one with
   |nil=>rw[o]at m;cases m
   |cons r rs =>
    have:r.1∈a:=(q _).mpr (xR one r (by rw[o];simp)).1;rw[e]at this;cases this
 let p:Nat:=1+(b % a.length).toNat;have QZ:0<=b % a.length:=IG _ ⋯;have Sb:b % a.length<a.length:=HH _ ⋯;have L:(p:Int)=1+b % a.length:=by change((1+(b % a.length).toNat:Nat):Int)=_;lia
 let wide:=one++(a.take p).map F6;have N:p<=a.length:=by change 1+(b % a.length).toNat<=_;lia
 have O:(a.take p).length=p:=by rw[sd,Rm N]
 have V8:wide.length=60+p:=by simp only[wide,oT,f6,O,m]
 have V9:p<=8:=by change 1+(b % a.length).toNat<=8;lia
 have IK:1<=p:=U2 _ _;have Q:∀w∈a,iJ W (F6 w):=λw l=>#[A w l,by simp[F6],by simp[F6],λx i=>by cases i]
 have B:∀r∈wide,iJ W r:=λr f=>by
  rcases mx.mp f with z|z
  .show(n r z).ok
  .have(w,l,rfl):=my.mp z;show Q w (pM l)
 have Y:∀r∈wide,r.1∈a/\∀x∈r.2,x∈a:=λr f=>by
  rcases mx.mp f with z|z
  .show#[(q _).mpr (xR one r z).1,λx i=>(q _).mpr ((xR one r z).2 x i)]
  .have(w,l,rfl):=my.mp z;show#[pM l,λx i=>by cases i]
 have sub:∀other:List Row,(∀r∈other,r∈wide)->other.length<=80->LD W W wide other/\∀x∈aD other,x∈a:=λother ho hl =>
  #[#[⋯,hl,⋯,⋯,B,λr f=>B r (ho r f),λx i=>(y x i).wc],fO λr f=>Y r (ho r f)]
 let s:Nat:=(b % 7).toNat;have V_:0<=b % 7:=IG _ (by decide);have U8:(s:Int)=b % 7:=by change(((b % 7).toNat:Nat):Int)=_;lia
 let S:=λ(o4:Option (Kd×U))=>([b6 (.loc,.tup (one.map A')),b6 (.any,.lst (a.map .str)),b6 (.loc,.int b),b6 (.loc,.tup (wide.map A')),o4]:aw)
 have Fm:TM.start [.tup (one.map A'),.lst (a.map .str),.int b] 5=[b6 (.loc,.tup (one.map A')),b6 (.any,.lst (a.map .str)),b6 (.loc,.int b),b7,b7]:=by simp[TM.start,FJ,cL]
 have Nf:fu .any (a.map U.str)=cb:=by change gL (a.map U.str)=cb;show jk a
 have g3:Run (ev Γ (.bin .add (.var 0) (.bi .tuple [.comp 1 dV .seq [.G3 (.var 1) [] [.bin .add (.cst (.int 1)) (.bin .mod (.var 2) (.bi .len [.var 1]))]] [] (.tup [.var 0,.tup []])]))) [b6 (.loc,.tup (one.map A')),b6 (.any,.lst (a.map .str)),b6 (.loc,.int b),b7,b7] (.loc,.tup (wide.map A')) [b6 (.loc,.tup (one.map A')),b6 (.any,.lst (a.map .str)),b6 (.loc,.int b),b7,b7]:=by
  have gl:Run (ev Γ (.bin .add (.cst (.int 1)) (.bin .mod (.var 2) (.bi .len [.var 1])))) [b6 (.loc,.tup (one.map A')),b6 (.any,.lst (a.map .str)),b6 (.loc,.int b),b7,b7] (.loc,.int (p:Nat)) [b6 (.loc,.tup (one.map A')),b6 (.any,.lst (a.map .str)),b6 (.loc,.int b),b7,b7]:=by
   rw[L];show aC aj (aC (af rfl) (cS (aa (bu rfl) ah) trivial iI) trivial (aW (by rw[f6];lia))) trivial ?_;rw[f6];show bM
  have gs:Run (ev Γ (.G3 (.var 1) [] [.bin .add (.cst (.int 1)) (.bin .mod (.var 2) (.bi .len [.var 1]))])) [b6 (.loc,.tup (one.map A')),b6 (.any,.lst (a.map .str)),b6 (.loc,.int b),b7,b7] (.own,.lst ((a.take p).map .str)) [b6 (.loc,.tup (one.map A')),b6 (.any,.lst (a.map .str)),b6 (.loc,.int b),b7,b7]:=by
   have:=tE (k:=.any) (ss:=a) (lo:=b7) (hi:=b6 (p:Int)) Nf;rw[iU]at this;show mB (bu rfl) pR (kQ gl) trivial this
  have i:=cC (cond:=aP Γ []) (elt:=ev Γ (.tup [.var 0,.tup []])) (src:=[(.own,.lst ((a.take p).map .str))]) (st:=[b6 (.loc,.tup (one.map A')),b6 (.any,.lst (a.map .str)),b6 (.loc,.int b),b7,b7]) trivial .loc (.inl rfl) U.str (λw=>A' (F6 w)) .loc (λ_=>d9) (a.take p) [] (by simp;lia)
   (λw _=>#[bP (aa (af rfl) (aa (bP ah trivial av (qq _)) ah)) trivial (ag ar (ag ar av)) (by change 2<=eF;lia),ar])
  rw[tx]at i;have u:=cu (Γ:=Γ) (k:=1) (t:=dV) (ik:=.seq) (rs:=[(.own,.lst ((a.take p).map .str))]) (aa gs ah) trivial (by change b6 _=_;rw[mn];rfl) i;show aC (af rfl) (cS (aa u ah) trivial rfl) trivial ?_;change(if (one.map A').length+((a.take p).map λw=>A' (F6 w)).length<=eF then _ else _)=_;rw[Zx (by simp[m];lia)];simp[wide,kT,kE,isAny,mn,WZ]
 let j:List (List Row):=[[],one.take s,wide]
 have QB:Run (ev Γ (.lst [.tup [],.G3 (.var 0) [] [.bin .mod (.var 2) (.cst (.int 7))],.var 3])) (S b7) (.own,.lst (j.map λrows=>.tup (rows.map A'))) (S b7):=by
  have g:Run (ev Γ (.G3 (.var 0) [] [.bin .mod (.var 2) (.cst (.int 7))])) (S b7) (.loc,.tup ((one.take s).map A')) (S b7):=by
   have:=qg (k:=.loc) (rs:=one) (lo:=b7) (hi:=b6 (s:Int));rw[iU]at this;show mB (af rfl) pR (kQ (by rw[U8];show aC (af rfl) aj trivial (aW (by decide)))) trivial this
  show bq (aa (bP ah trivial av (qq _)) (aa g (aa (af rfl) ah))) trivial (ag ar (ag ar (ag ar av))) (by change 3<=eF;lia)
 have Lq:∀rows∈j,(∀r∈rows,r∈wide)/\rows.length<=80:=λrows f=>by
  simp only[j,i1,HI,or_false]at f;rcases f with rfl|rfl|rfl
  .show#[λr f=>(by cases f),by simp]
  .show#[λr f=>JU _ (pM f),by rw[sd];lia]
  .show#[λr f=>f,⋯]
 have IH:∀st,Run (ev Γ (.tup [.cst .Fg,.lst [.cst (.bl cb),.cst (.bl cb),.cst (.bl dV)]])) st (.loc,iR) st:=λst =>
  bP (aa aj (aa (bq (aa aj (aa aj (aa aj ah))) trivial (ag ar (ag ar (ag ar av))) (by change 3<=eF;lia)) ah)) trivial (ag ar (ag d8 av)) (by change 2<=eF;lia)
 have(st',FV,_,o4,e):=gS (t:=dV) (is:=[4]) (body:=execs Γ [.ite (.cmp .ne (.call "_law_tried" [.cst (.int 0),.var 3,.var 4,.var 1]) (.tup [.cst .Fg,.lst [.cst (.bl cb),.cst (.bl cb),.cst (.bl dV)]])) [.ret (.cst (.bl dV))] []]) (rs:=[(Kd.own,U.lst (j.map λrows:List Row=>U.tup (rows.map A')))]) (λrows:List Row=>(Kd.loc,U.tup (rows.map A')))
  (λd r st=>d++r=j/\∃o4,st=S o4) (λ_ _ _ _=>trivial) (λd rows r st Gb=>by
   have(C,o4,e):=Gb;subst e;have(a1,a2):=Lq rows (by rw[<-C];simp);have(T,GL):=sub rows a1 a2;have u:=(v _ _ _ _ a T).1;rw[u4 GL ⋯]at u;show#[S (b6 (.loc,.tup (rows.map A'))),S (b6 (.loc,.tup (rows.map A'))),bX aM,fI (p:=dV) (cB (bw (aa aj (aa (af rfl) (aa (af rfl) (aa (bu rfl) ah)))) trivial u) (IH _) trivial (xW tL)) (λh=>by cases h) (λ_=>cZ),by rw[<-C];simp,_,rfl]) j [] (S b7) ⟨rfl,b7,rfl⟩
 subst e;have two:LD W W one (one.take 2):=#[⋯,by rw[sd];lia,⋯,⋯,λr f=>(n r f).ok,λr f=>(n r (pM f)).ok,λx i=>(y x i).wc]
 have(T2,QC):=sub (one.take 2) (λr f=>JU _ (pM f)) (by rw[sd];lia);have D:=(v _ _ _ _ a T2).2;have G:=(v _ _ _ _ a two).2;rw[xU QC]at D G;have H:∀st,st[0]?=b6 (b6 (.loc,.tup (one.map A')))->Run (ev Γ (.G3 (.var 0) [] [.cst (.int 2)])) st (.loc,.tup ((one.take 2).map A')) st:=λst h=>by
  have:=qg (k:=.loc) (rs:=one) (lo:=b7) (hi:=b6 ((2:Nat):Int));rw[iU]at this;show mB (af h) pR (kQ aj) trivial this
 show a_ rfl (.inr rfl) Fm (aG g3 aM (gw (rs:=[(Kd.own,U.lst (j.map λrows:List Row=>U.tup (rows.map A')))]) (aa QB ah) trivial (by change b6 _=_;rw[mn];rfl) rfl FV (cT (jz (c:=cb) (bw (aa aj (aa (af rfl) (aa (H _ rfl) (aa (bu rfl) ah)))) trivial D) (bP (aa (aV (bw (aa aj (aa (af rfl) (aa (H _ rfl) (aa (bu rfl) ah)))) trivial G) aj trivial rfl) (aa (bq ah trivial av (qq _)) ah)) trivial (ag ar (ag d8 av)) (by change 2<=eF;lia)) trivial (iT (zN 46 _))) dz)))
end
end K
namespace TM
open PySem L2 FD
abbrev cY(ks:List Str)(x:Str):List Str:=if x∈ks then ks else ks++[x]
def xZ:dput ks (ks.map f) x u=(cY ks x,(cY ks x).map λk=>if k=x then u else f k):=by
 unfold dput cY;by_cases h:x∈ks
 .rw[Zx h,Zx h];congr 1
  clear h;induction ks with
  |nil=>rfl
  |cons k ks a=>rw[i2,JE,i2,i2,a]
 .rw[Zy h,Zy h];congr 1
  rw[uk,List.map_singleton,Zx rfl];congr 1
  show LM λk hk=>?_;rw[Zy (λe:k=x=>h (e▸hk))]
def dA:y∈cY ks x↔y∈ks\/y=x:=by
 unfold cY;split
 .rename_i h;show#[.inl,λz=>z.elim id λe=>e▸h]
 .simp
def tM(h:ks.length<1000):kF (.str x) u (.Fh ks (ks.map f))=b6 (.Fh (cY ks x) ((cY ks x).map λk=>if k=x then u else f k)):=by
 rw[oq h,xZ]
def x3(h:x∈ks):jH ks (ks.map f) x=b6 (f x):=by
 induction ks with
 |nil=>cases h
 |cons k ks a =>
  rw[i2];unfold jH;by_cases e:k=x
  .rw[Zx e,e]
  .rw[Zy e];show a ((i1.mp h).resolve_left λz=>e z.symm)
section
def Ej(hk:k=.loc\/k=.any):Run (dQ cb [i,j] (k,.tup [a,b])) st () ((st.set i (b6 (k,a))).set j (b6 (k,b))):=by
 rcases hk with rfl|rfl<;>rfl
end
end TM
namespace K
open PySem L2 TM FD
section
def tN(h:x∈ks)(e:f x=u):i9 (k,.Fh ks (ks.map f)) (.str x)=b6 (kE k,u):=by
 change(jH ks (ks.map f) x).map _=_;rw[x3 h,e];rfl
def ox(h:x.length+y.length<=1000):Ht .add (.loc,.str x) (.loc,.str y)=b6 (.loc,.str (x++y)):=by
 have hsz:(1000:Nat)<=eF:=by decide
 change(if x.length+y.length<=eF then _ else _)=_;rw[Zx ⋯]
def rM{rows:List Row}:bK .Fj (A' r) (.lst (rows.map A'))=b6 (f7 (r∉rows)):=by
 have h:=@uT r rows;show h
abbrev h2(r:Row):Str:=r.2.headD ""
def x4{W:List Str}(h:Hd W r):r.2=[h2 r]:=by
 have(_,x,_,e):=h;unfold h2;rw[e];rfl
def lu{W:List Str}{one:List Row}(b:∀r∈one,Hd W r)(x:Str):x∈one.map (·.1)++one.map h2↔x∈aD one:=by
 rw[cN,cM,mx,my,my];constructor
 .rintro(⟨r,a,e⟩|⟨r,a,e⟩)
  .show#[r,a,.inl e.symm]
  .show#[r,a,.inr (by rw[x4 (b r a),e];simp)]
 .rintro⟨r,a,e|e⟩
  .show .inl #[r,a,e.symm]
  .rw[x4 (b r a)]at e;show .inr #[r,a,(mf.mp e).symm]
abbrev fS(ns ds:List Int)(W:List Str)(m mo:Int)(one other:List Row)(same mine:List Str)(a o11 b c d e:Option (Kd×U)):aw :=
 [b6 (.any,.lst (ns.map .int)),b6 (.own,.lst (ds.map .int)),b6 (.loc,.str small),b6 (.own,.lst (W.map .str)),b6 (.loc,.int m),b6 (.loc,.int mo),b6 (.loc,.tup (one.map A')),b6 (.loc,.tup (other.map A')),b6 (.own,.lst (same.map .str)),b6 (.own,.lst (mine.map .str)),a,o11,b,c,d,e]
variable{ns ds:List Int}{W same mine:List Str}{m mo:Int}{one other:List Row}
def rN(v:∀w∈W,HG w)(B:W.length=8):∃ks f o11,(∀w∈W,w∈ks)/\(∀k∈ks,f k=.str (gv mine same k))/\Run (forM dV [11] (execs Γ [.put 10 (.var 11) (.var 11),
   .ite (.and [.cmp .isin (.var 11) (.var 9),.cmp .Fj (.var 11) (.var 8)])
    [.put 10 (.var 11) (.bin .add (.var 11) (.cst (.str "/2")))]
    []]) [(.bor 3,.lst (W.map .str))] (W.map λw=>(Kd.loc,U.str w))) (fS ns ds W m mo one other same mine (b6 (.own,.Fh [] [])) b7 b7 b7 b7 b7) .nx (fS ns ds W m mo one other same mine (b6 (.own,.Fh ks (ks.map f))) o11 b7 b7 b7 b7):=by
 have(st',y,_,ks,f,o11,c,g,l,e):=gS (t:=dV) (is:=[11]) (body:=execs Γ [.put 10 (.var 11) (.var 11),
   .ite (.and [.cmp .isin (.var 11) (.var 9),.cmp .Fj (.var 11) (.var 8)])
    [.put 10 (.var 11) (.bin .add (.var 11) (.cst (.str "/2")))]
    []]) (rs:=[(.bor 3,.lst (W.map .str))]) (λw:Str=>(Kd.loc,U.str w))
  (λd r st=>d++r=W/\∃(ks:List Str) (f:Str->U) (o11:Option (Kd×U)),(∀w∈d,w∈ks)/\(∀k∈ks,f k=.str (gv mine same k))/\ks.length<=d.length/\st=fS ns ds W m mo one other same mine (b6 (.own,.Fh ks (ks.map f))) o11 b7 b7 b7 b7) (λd r st ⟨_,ks,f,o11,_,_,_,e⟩=>by subst e;show#[#[.own,rfl,rfl],trivial]) (λd w r st A=>by
   have(i,ks,f,o11,c,g,l,e):=A;subst e;have C:d.length<8:=by have:=ZE Lz i;simp at this;lia
   have n:=v w (by rw[<-i];simp);let o:Option (Kd×U):=b6 (.loc,.str w);let a:Str->U:=λk=>if k=w then .str w else f k
   let S:=λ(ks:List Str) (f:Str->U)=>fS ns ds W m mo one other same mine (b6 (.own,.Fh ks (ks.map f))) o b7 b7 b7 b7;have GW:(cY ks w).length<=d.length+1:=by unfold cY;split;show Nat.le_succ_of_le l;rw[oT];show Nat.succ_le_succ l
   have j:Run (FF Γ (.and [.cmp .isin (.var 11) (.var 9),.cmp .Fj (.var 11) (.var 8)])) (S (cY ks w) a) (f7 (w∈mine)&&f7 (w∉same)) (S (cY ks w) a) :=
    xp (rH (cB (af rfl) (az rfl) #[#[.own,rfl,rfl],trivial] Al) λ_=>kR (cB (af rfl) (az rfl) #[#[.own,rfl,rfl],trivial] kX))
   have p1:∀{ss:List TM.S} {s:Fl} {st':aw},Run (execs Γ ss) (S (cY ks w) a) s st'->Run (execs Γ (.put 10 (.var 11) (.var 11)::ss)) (S ks f) s st':=λh =>
    tD (st1:=S ks f) (st2:=S ks f) (st3:=S ks f) (k:=.own) (k':=.own) (af rfl) rfl (af rfl) (ag ar (ag ar av)) rfl rfl (tM ⋯) h
   by_cases b:w∈mine/\w∉same
   .have p:(f7 (w∈mine)&&f7 (w∉same))=cb:=by simp[b.1,b.2]
    rw[p]at j;let u:Str->U:=λk=>if k=w then .str (w++("/2":Str)) else a k
    show#[S ks f,S (cY (cY ks w) w) u,bX aM,p1 (fI j (λ_=>?_) λh=>by cases h),by rw[<-i];simp,cY (cY ks w) w,u,o,λx q=>?_,λk hk=>?_,?_,rfl]
    .show tD (st1:=S (cY ks w) a) (st2:=S (cY ks w) a) (st3:=S (cY ks w) a) (k:=.own) (k':=.own) (aC (af rfl) aj trivial (ox (by rw[n.len];decide))) rfl (af rfl) (ag ar (ag ar av)) rfl rfl (tM ⋯) cZ
    .rw[dA,dA];rcases mx.mp q with z|z
     .show .inl (.inl (c x z))
     .show .inr (mf.mp z)
    .change(if k=w then _ else if k=w then _ else f k)=_;by_cases z:k=w
     .rw[Zx z,z];unfold gv;rw[Zx b]
     .rw[Zy z,Zy z];rw[dA,dA]at hk;show g k ((hk.resolve_right z).resolve_right z)
    .rw[oT];have:cY (cY ks w) w=cY ks w:=by rw[cY,Zx (dA.mpr (.inr rfl))]
     rw[this];show GW
   .have p:(f7 (w∈mine)&&f7 (w∉same))=dV:=by
     rw[OD];intro z;simp only[df,Zz]at z;show b z
    rw[p]at j;show#[S ks f,S (cY ks w) a,bX aM,p1 (fI j (λh=>by cases h) λ_=>cZ),by rw[<-i];simp,cY ks w,a,o,λx q=>?_,λk hk=>?_,?_,rfl]
    .rw[dA];rcases mx.mp q with z|z
     .show .inl (c x z)
     .show .inr (mf.mp z)
    .change(if k=w then _ else f k)=_;by_cases z:k=w
     .rw[Zx z,z];unfold gv;rw[Zy b]
     .rw[Zy z];rw[dA]at hk;show g k (hk.resolve_right z)
    .rw[oT];show GW) W [] (fS ns ds W m mo one other same mine (b6 (.own,.Fh [] [])) b7 b7 b7 b7 b7) ⟨rfl,[],λ_=>.Fg,b7,λw n=>(by cases n),λk hk=>(by cases hk),g0 _,rfl⟩
 subst e;show#[ks,f,o11,c,g,y]
def u5(D:∀r∈other,Hd W r)(o:∀w∈W,w∈ks)(A:∀k∈ks,f k=.str (gv mine same k))(hl:one.length+other.length<=200):∃j l g,Run (forM cb [11,13] (execs Γ [.set 14 (.tup [.idx (.var 10) (.var 11),.tup [.idx (.var 10) (.idx (.var 13) (.cst (.int 0)))]]),
   .ite (.cmp .Fj (.var 14) (.var 12))
    [.app 12 (.var 14)]
    []]) [(.loc,.tup (other.map A'))] (other.map λr=>(Kd.loc,A' r))) (fS ns ds W m mo one other same mine (b6 (.own,.Fh ks (ks.map f))) o11 (b6 (.own,.lst (one.map A'))) b7 b7 b7) .nx (fS ns ds W m mo one other same mine (b6 (.own,.Fh ks (ks.map f))) j (b6 (.own,.lst (((other.map (H0 (gv mine same))).foldl cX one).map A'))) l g b7):=by
 have hsz:(1000:Nat)<=eF:=by decide
 have(st',G,_,j,l,g,_,e):=gS (t:=cb) (is:=[11,13]) (body:=execs Γ [.set 14 (.tup [.idx (.var 10) (.var 11),.tup [.idx (.var 10) (.idx (.var 13) (.cst (.int 0)))]]),
   .ite (.cmp .Fj (.var 14) (.var 12))
    [.app 12 (.var 14)]
    []]) (rs:=[(.loc,.tup (other.map A'))]) (λr:Row=>(Kd.loc,A' r))
  (λd r st=>d++r=other/\∃(j l g:Option (Kd×U)),((d.map (H0 (gv mine same))).foldl cX one).length<=one.length+d.length/\st=fS ns ds W m mo one other same mine (b6 (.own,.Fh ks (ks.map f))) j (b6 (.own,.lst (((d.map (H0 (gv mine same))).foldl cX one).map A'))) l g b7) (λ_ _ _ _=>trivial) (λd y r st H=>by
   have(p,j,l,g,i,e):=H;subst e;have O:d.length<other.length:=by have:=ZE Lz p;simp at this;lia
   have I:=D y (by rw[<-p];simp);have(a,b):=y;have(q,x,B,e):=I
   dsimp only at q e
   subst e;let R:=(d.map (H0 (gv mine same))).foldl cX one;let c:Row:=(gv mine same a,[gv mine same x])
   let s:Option (Kd×U):=b6 (.loc,.str a);let u:Option (Kd×U):=b6 (.loc,.tup [.str x]);let n:Option (Kd×U):=b6 (.loc,A' c);let S:=λ(R:List Row) (J:Option (Kd×U))=>fS ns ds W m mo one other same mine (b6 (.own,.Fh ks (ks.map f))) s (b6 (.own,.lst (R.map A'))) u J b7;have L:Run (ev Γ (.tup [.idx (.var 10) (.var 11),.tup [.idx (.var 10) (.idx (.var 13) (.cst (.int 0)))]])) (S R g) (.loc,A' c) (S R g) :=
    bP (aa (aV (az rfl) (af rfl) #[#[.own,rfl,rfl],trivial] (tN (o a q) (A a (o a q)))) (aa (bP (aa (aV (az rfl) (aV (af rfl) aj trivial rfl) #[#[.own,rfl,rfl],trivial] (tN (o x B) (A x (o x B)))) ah) trivial (ag ar av) (by change 1<=eF;lia)) ah)) trivial (ag ar (ag ar av)) (by change 2<=eF;lia)
   have N:Run (FF Γ (.cmp .Fj (.var 14) (.var 12))) (S R n) (f7 (c∉R)) (S R n):=cB (af rfl) (az rfl) #[#[.own,rfl,rfl],trivial] rM;have C:((d++[(a,[x])]).map (H0 (gv mine same))).foldl cX one=cX R c:=by rw[uk,T1];rfl
   have Q:(cX R c).length<=R.length+1:=by unfold cX;split<;>simp
   show#[S R g,S (cX R c) n,Ej (.inl rfl),aG L aM (fI N (λh=>?_) λh=>?_),by rw[<-p];simp,s,u,n,by rw[C,oT];change(cX R c).length<=_;have:R.length<=one.length+d.length:=i;simp;lia,by rw[C]]
   .have v:c∉R:=ZD h;have z:(cX R c).map A'=R.map A'++[A' c]:=by unfold cX;rw[Zy v,uk];rfl
    change Run _ _ _ (fS ns ds W m mo one other same mine (b6 (.own,.Fh ks (ks.map f))) s (b6 (.own,.lst ((cX R c).map A'))) u n b7);rw[z];have T:R.length<=one.length+d.length:=i;show kS (k:=.own) (k':=.own) (r:=(.loc,A' c)) (us:=R.map A') rfl (af rfl) ar rfl rfl (by rw[f6];lia) cZ
   .have v:c∈R:=by simpa using h
    have z:cX R c=R:=by unfold cX;rw[Zx v]
    rw[z];show cZ) other [] _ ⟨rfl,o11,b7,b7,g0 _,rfl⟩
 subst e;show#[j,l,g,by simpa using G]
end
section
abbrev x5(Γ:Tab):Prop:=∀(W:List Str) (b s:Int) (m:Nat),W.length=8->0<=b->0<=s->s<1000->m<=100->∃rows:List Row,rows.length=m/\(∀r∈rows,Hd W r)/\Γ "_law_picked" [.lst (W.map .str),.int b,.int s,.int (m:Nat)]=b6 (.ok (.loc,.tup (rows.map A')))
abbrev oy(Γ:Tab):Prop:=∀(W a:List Str) (one:List Row) (b:Int),W.length=8->(∀w∈W,HG w)->one.length=60->(∀r∈one,Hd W r)->a.Nodup->(∀x,x∈a↔x∈aD one)->0<=b->Γ "_law_over_full" [.tup (one.map A'),.lst (a.map .str),.int b]=b6 (.ok (.loc,.bl cb))
variable{ns ds:List Int}{W same mine:List Str}{m mo:Int}{one other:List Row}
def x6(y:rL Γ)(ho:oy Γ)(j:∀w∈W,HG w)(l:W.length=8)(hd:ds.length=20)(z:∀d∈ds,0<=d)(J:(one.length:Int)=m)(L:one.length<=60)(GH:other.length<=60)(a:∀r∈one,Hd W r)(h2:∀r∈other,Hd W r)(e:mine=one.map (·.1)++one.map K.h2)(n o11 o p:Option (Kd×U)):
  ∃st',Run (execs Γ (bS.body.drop 14)) (fS ns ds W m mo one other same mine n o11 (b6 (.own,.lst (((other.map (H0 (gv mine same))).foldl cX one).map A'))) o p b7) (.rt .loc (.bl cb)) st':=by
 have hsz:(1000:Nat)<=eF:=by decide
 let R:=(other.map (H0 (gv mine same))).foldl cX one;have T:LD W W one other:=#[⋯,⋯,⋯,⋯,λr b=>(a r b).ok,λr b=>(h2 r b).ok,λx f=>(j x f).wc]
 have q:=(y _ _ _ _ same T).1;rw[u3 j a h2 (mine:=mine) (λx=>by rw[e];show lu a x)]at q;have N:R.length<=120:=by
  have:=eS (other.map (H0 (gv mine same))) one;rw[lr (λs hs=>(a s hs).len) (λs hs=>by
   have(r,b,rfl):=my.mp hs;unfold H0;rw[f6];show(h2 r b).len),f6]at this
  change(S1 cX one _).length<=120;lia
 let F:=IV LG (if 60<R.length then b7 else b6 R);let S:=λ(A:Option (Kd×U))=>fS ns ds W m mo one other same mine n o11 (b6 (.own,.lst (R.map A'))) o p A;have t:Run (ev Γ (.call "_law_tried" [.cst (.int 0),.var 6,.var 7,.var 8])) (S b7) (.loc,F) (S b7):=bw (aa aj (aa (af rfl) (aa (af rfl) (aa (az rfl) ah)))) #[#[.own,rfl,rfl],trivial] q;have g:Run (FF Γ (.cmp .gt (.bi .len [.var 12]) (.cst (.int 60)))) (S (b6 (.loc,F))) (f7 (60<R.length)) (S (b6 (.loc,F))):=by
  show cB (cS (aa (az rfl) ah) #[#[.own,rfl,rfl],trivial] rfl) aj trivial ?_;change b6 (f7 ((60:Int)<((R.map A').length:Nat)))=_;rw[f6];congr 1
  rw[G8];simp;lia
 have B:∀st,Run (ev Γ (.tup [.cst .Fg,.lst [.cst (.bl cb),.cst (.bl cb),.cst (.bl dV)]])) st (.loc,iR) st:=λst =>
  bP (aa aj (aa (bq (aa aj (aa aj (aa aj ah))) trivial (ag ar (ag ar (ag ar av))) (by change 3<=eF;lia)) ah)) trivial (ag ar (ag d8 av)) (by change 2<=eF;lia)
 by_cases hz:60<R.length
 .rw[ZC hz]at g;have k:F=iR:=by change IV LG (if 60<R.length then b7 else b6 R)=_;rw[Zx hz];rfl
  show#[_,aG t aM (og g (cT (jz (c:=cb) (af rfl) (B _) trivial ?_) dz))];change bK .eq F iR=_;rw[k];show iT tL
 .rw[ZA hz]at g;have k:F=.tup [.tup (R.map A'),.lst []]:=by change IV LG (if 60<R.length then b7 else b6 R)=_;rw[Zy hz];rfl
  have C:FY (ds.map U.int) 18=b6 (.int (dd ds 18)):=jU (i:=18) ⋯;have u:Run (FF Γ (.and [.cmp .eq (.var 4) (.cst (.int 60)),.not (.call "_law_over_full" [.var 6,.Js .sset [.var 9],.idx (.var 1) (.cst (.int 18))])])) (S (b6 (.loc,F))) (f7 (m=60)&&dV) (S (b6 (.loc,F))):=by
   show xp (rH (cB (af rfl) aj trivial (jj rfl)) λv=>kR ?_);have v:m=60:=ZD v;have D:∀x,x∈aA (ak mine)↔x∈aD one:=λx=>by rw[kZ,e];show lu a x
   have G:∀x∈mine,x∈W:=λx f=>by
    rw[e]at f;show fO (λr b=>(a r b).in) x ((lu a x).mp f)
   have O:(ak mine).length<=8:=by rw[<-l];show rJ G
   have H:mine.length<4000:=by rw[e];simp;lia
   have I:=ho W (aA (ak mine)) one (dd ds 18) l j ⋯ a (iL mine) D (tB z 18);show Ad (Cj (aa (af rfl) (aa (tf (aa (az rfl) ah) #[#[.own,rfl,rfl],trivial] (iK H ⋯)) (aa (aV (az rfl) aj #[#[.own,rfl,rfl],trivial] (bI C)) ah))) trivial I rfl)
  rw[R8]at u;show#[_,aG t aM (fI g (λh=>by cases h) λ_=>fI u (λh=>by cases h) λ_=>cT (jz (c:=cb) (af rfl) (bP (aa (cS (aa (az rfl) ah) #[#[.own,rfl,rfl],trivial] rfl) (aa (bq ah trivial av (qq _)) ah)) trivial (ag ar (ag d8 av)) (by change 2<=eF;lia)) trivial ?_) dz)];change bK .eq F (.tup [.tup (R.map A'),.lst []])=_;rw[k];show iT (xX 46 R)
def qh(n:rL Γ)(ho:oy Γ)(h:∀w∈W,HG w)(j:W.length=8)(hd:ds.length=20)(o:∀d∈ds,0<=d)(p:(one.length:Int)=m)(q:one.length<=60)(GH:other.length<=60)(k:∀r∈one,Hd W r)(h2:∀r∈other,Hd W r):
  ∃st',Run (execs Γ (bS.body.drop 9)) [b6 (.any,.lst (ns.map .int)),b6 (.own,.lst (ds.map .int)),b6 (.loc,.str small),b6 (.own,.lst (W.map .str)),b6 (.loc,.int m),b6 (.loc,.int mo),b6 (.loc,.tup (one.map A')),b6 (.loc,.tup (other.map A')),b6 (.own,.lst (same.map .str)),b7,b7,b7,b7,b7,b7,b7] (.rt .loc (.bl cb)) st':=by
 have hsz:(1000:Nat)<=eF:=by decide
 let c:aw:=[b6 (.any,.lst (ns.map .int)),b6 (.own,.lst (ds.map .int)),b6 (.loc,.str small),b6 (.own,.lst (W.map .str)),b6 (.loc,.int m),b6 (.loc,.int mo),b6 (.loc,.tup (one.map A')),b6 (.loc,.tup (other.map A')),b6 (.own,.lst (same.map .str)),b7,b7,b7,b7,b7,b7,b7]
 have s:=uU (Γ:=Γ) (st:=c) (rows:=one) (i:=6) ⋯ rfl;have l:=cC (cond:=aP Γ []) (elt:=ev Γ (.idx (.idx (.var 0) (.cst (.int 1))) (.cst (.int 0)))) (src:=[(.loc,.tup (one.map A'))]) (st:=c) trivial .loc (.inl rfl) A' (λr=>.str (K.h2 r)) .loc (λ_=>d9) one [] (by simp;lia)
  (λr g=>#[by
   have e:=x4 (k r g);have(a,b):=r
   dsimp only at e
   show aV (aV (x:=(.loc,A' (a,b))) (af rfl) aj trivial rfl) aj trivial ?_;change i9 (.loc,.tup (b.map U.str)) (.int 0)=_;rw[e];rfl,ar])
 rw[tx]at l;have t:Run (ev Γ (.comp 1 dV .seq [.var 6] [] (.idx (.idx (.var 0) (.cst (.int 1))) (.cst (.int 0))))) c (.own,.lst ((one.map K.h2).map .str)) c:=by
  rw[mn];show cu (rs:=[(.loc,.tup (one.map A'))]) (aa (af rfl) ah) trivial (by change b6 _=_;rw[mn];rfl) l
 let mine:=one.map (·.1)++one.map K.h2;have ad:Ht .add (.own,.lst ((one.map (·.1)).map .str)) (.own,.lst ((one.map K.h2).map .str))=b6 (.own,.lst (mine.map .str)):=by
  change _=b6 (Kd.own,U.lst ((one.map (·.1)++one.map K.h2).map .str));rw[uk];show fL (by simp;lia) rfl rfl
 have(ks,f,o11,u,v,y):=rN (Γ:=Γ) (ns:=ns) (ds:=ds) (m:=m) (mo:=mo) (one:=one) (other:=other) (same:=same) (mine:=mine) h j;have(z,A,B,g):=u5 (Γ:=Γ) (ns:=ns) (ds:=ds) (m:=m) (mo:=mo) (one:=one) (other:=other) (same:=same) (mine:=mine) (o11:=o11) h2 u v ⋯;have(st',C):=x6 (Γ:=Γ) (ns:=ns) (mo:=mo) (same:=same) n ho h j hd o p q GH k h2 (mine:=mine) rfl (b6 (.own,.Fh ks (ks.map f))) z A B;show#[st',aG (aC s t trivial ad) bH (aG (r:=(.own,.Fh [] [])) xn bH (gw (rs:=[(.bor 3,.lst (W.map .str))]) (aa (az rfl) ah) #[#[.own,rfl,rfl],trivial] (iQ rfl) rfl y (aG (r:=(.own,.lst (one.map A'))) (cS (aa (af rfl) ah) trivial rfl) bH (gw (rs:=[(.loc,.tup (other.map A'))]) (aa (af rfl) ah) trivial (by change b6 _=_;rw[mn];rfl) rfl g C))))]
end
section
def Ao{xs:List Int}{z t:Int}(hz:0<=z)(a:0<t)(hl:t<=xs.length):∃x∈xs,FY (xs.map U.int) (z % t)=b6 (.int x):=by
 have(x,b,e):=xD (xs:=xs.map U.int) (z:=z) (t:=t) hz a (by rw[f6];show hl);have(y,c,rfl):=my.mp b;show#[y,c,e]
def x8(hc:rG Γ)(hd:oi Γ)(C:x5 Γ)(D:rL Γ)(ho:oy Γ)(ns:List Int):cj Γ bS [.lst (ns.map .int)]=b6 (.ok (.loc,.bl cb)):=by
 have hsz:(1000:Nat)<=eF:=by decide
 have(z,hz):=hc ns 0 ⋯;have(ds,G,s,d3):=hd z 20 ⋯;let c:Option (Kd×U):=b6 (.any,.lst (ns.map .int));let f:Option (Kd×U):=b6 (.own,.lst (ds.map .int));let g:Option (Kd×U):=b6 (.loc,.str small);have Fm:TM.start [.lst (ns.map .int)] 16=[c,b7,b7,b7,b7,b7,b7,b7,b7,b7,b7,b7,b7,b7,b7,b7]:=rfl;have A:∀(i:Nat),i<20->FY (ds.map U.int) (i:Int)=b6 (.int (dd ds i)):=λi hi=>jU ⋯;have nn:=tB s;have g1:Run (ev Γ (.call "_law_drawn" [.call "_law_cell" [.var 0,.cst (.int 0)],.cst (.int 20)])) [c,b7,b7,b7,b7,b7,b7,b7,b7,b7,b7,b7,b7,b7,b7,b7] (.own,.lst (ds.map .int)) [c,b7,b7,b7,b7,b7,b7,b7,b7,b7,b7,b7,b7,b7,b7,b7]:=bw (aa (bw (aa (bu rfl) (aa aj ah)) trivial hz) (aa aj ah)) trivial d3;have(W,u,H,g3):=xV (Γ:=Γ) (st:=[c,f,g,b7,b7,b7,b7,b7,b7,b7,b7,b7,b7,b7,b7,b7]) (ds:=ds) rfl rfl ⋯ s;let j:Option (Kd×U):=b6 (.own,.lst (W.map .str));let I:aw:=[c,f,g,j,b7,b7,b7,b7,b7,b7,b7,b7,b7,b7,b7,b7]
 have k:∀(st:aw) (i:Nat) (n:Int),st[1]?=b6 f->n=(i:Int)->i<20->Run (ev Γ (.idx (.var 1) (.cst (.int n)))) st (.loc,.int (dd ds i)) st:=λst i n h e hi=>by
  subst e;show aV (az h) aj #[#[.own,rfl,h],trivial] (bI (A i hi))
 have(M,J,eM):=Ao (xs:=[60,59,58,30,dd ds 1 % 61]) (z:=dd ds 2) (t:=5) (nn 2) (by decide) (show(5:Int)<=((5:Nat):Int) from by decide);have q1:0<=dd ds 1 % 61:=IG _ (by decide);have Wa:dd ds 1 % 61<61:=HH _ (by decide);have QG:0<=M/\M<=60:=by
  simp only[i1,HI,or_false]at J;rcases J with rfl|rfl|rfl|rfl|rfl<;>lia
 have g4:Run (ev Γ (.idx (.lst [.cst (.int 60),.cst (.int 59),.cst (.int 58),.cst (.int 30),.bin .mod (.idx (.var 1) (.cst (.int 1))) (.cst (.int 61))]) (.bin .mod (.idx (.var 1) (.cst (.int 2))) (.cst (.int 5))))) I (.loc,.int M) I :=
  aV (x:=(.own,.lst ([60,59,58,30,dd ds 1 % 61].map U.int))) (bq (aa aj (aa aj (aa aj (aa aj (aa (aC (k _ 1 1 rfl rfl ⋯) aj trivial (aW (by decide))) ah))))) trivial (ag ar (ag ar (ag ar (ag ar (ag ar av))))) (by change 5<=eF;lia)) (aC (k _ 2 2 rfl rfl ⋯) aj trivial (aW (by decide))) trivial (bI eM)
 let l:Option (Kd×U):=b6 (.loc,.int M);let L:aw:=[c,f,g,j,l,b7,b7,b7,b7,b7,b7,b7,b7,b7,b7,b7]
 have(N,O,eN):=Ao (xs:=[60 - M,61 - M,1,dd ds 3 % 61]) (z:=dd ds 4) (t:=4) (nn 4) (by decide) (show(4:Int)<=((4:Nat):Int) from by decide);have q3:0<=dd ds 3 % 61:=IG _ (by decide);have Wb:dd ds 3 % 61<61:=HH _ (by decide);have Vd:0<=N/\N<=61:=by
  simp only[i1,HI,or_false]at O;rcases O with rfl|rfl|rfl|rfl<;>lia
 let mo:Int:=if N<60 then N else 60
 have Ve:0<=mo/\mo<=60:=by change 0<=(if N<60 then N else 60)/\(if N<60 then N else 60)<=60;split<;>lia
 have g5:Run (ev Γ (.bi .min [.cst (.int 60),.idx (.lst [.bin .sub (.cst (.int 60)) (.var 4),.bin .sub (.cst (.int 61)) (.var 4),.cst (.int 1),.bin .mod (.idx (.var 1) (.cst (.int 3))) (.cst (.int 61))]) (.bin .mod (.idx (.var 1) (.cst (.int 4))) (.cst (.int 4)))])) L (.loc,.int mo) L :=
  cS (aa aj (aa (aV (x:=(.own,.lst ([60 - M,61 - M,1,dd ds 3 % 61].map U.int))) (bq (aa (aC aj (af rfl) trivial iX) (aa (aC aj (af rfl) trivial iX) (aa aj (aa (aC (k _ 3 3 rfl rfl ⋯) aj trivial (aW (by decide))) ah)))) trivial (ag ar (ag ar (ag ar (ag ar av)))) (by change 4<=eF;lia)) (aC (k _ 4 4 rfl rfl ⋯) aj trivial (aW (by decide))) trivial (bI eN)) ah)) trivial rfl
 let m:Option (Kd×U):=b6 (.loc,.int mo);let Q:aw:=[c,f,g,j,l,m,b7,b7,b7,b7,b7,b7,b7,b7,b7,b7]
 have v:∀d:Int,0<=1+2 * (d % 32)/\1+2 * (d % 32)<1000:=λd=>by
  have a:=IG d (show(32:Int)≠0 by decide);have b:=HH d (show(0:Int)<32 by decide);lia
 have T:∀(st:aw) (i:Nat) (n:Int),st[1]?=b6 f->n=(i:Int)->i<20->Run (ev Γ (.bin .add (.cst (.int 1)) (.bin .mul (.cst (.int 2)) (.bin .mod (.idx (.var 1) (.cst (.int n))) (.cst (.int 32)))))) st (.loc,.int (1+2 * (dd ds i % 32))) st:=λst i n h e hi =>
  aC aj (aC aj (aC (k st i n h e hi) aj trivial (aW (by decide))) trivial (gA (.inl #[by decide,by decide]))) trivial bM
 have(one,a1,Y,a3):=C W (dd ds 5) (1+2 * (dd ds 6 % 32)) M.toNat u (nn 5) (v _).1 (v _).2 ⋯;rw[Xs QG.1]at a3;have g6:Run (ev Γ (.call "_law_picked" [.var 3,.idx (.var 1) (.cst (.int 5)),.bin .add (.cst (.int 1)) (.bin .mul (.cst (.int 2)) (.bin .mod (.idx (.var 1) (.cst (.int 6))) (.cst (.int 32)))),.var 4])) Q (.loc,.tup (one.map A')) Q :=
  bw (aa (az rfl) (aa (k _ 5 5 rfl rfl ⋯) (aa (T _ 6 6 rfl rfl ⋯) (aa (af rfl) ah)))) #[#[.own,rfl,rfl],trivial] a3
 let q:Option (Kd×U):=b6 (.loc,.tup (one.map A'));let S6:aw:=[c,f,g,j,l,m,q,b7,b7,b7,b7,b7,b7,b7,b7,b7]
 have(other,b1,b2,b3):=C W (dd ds 7) (1+2 * (dd ds 8 % 32)) mo.toNat u (nn 7) (v _).1 (v _).2 ⋯;rw[Xs Ve.1]at b3;have g7:Run (ev Γ (.call "_law_picked" [.var 3,.idx (.var 1) (.cst (.int 7)),.bin .add (.cst (.int 1)) (.bin .mul (.cst (.int 2)) (.bin .mod (.idx (.var 1) (.cst (.int 8))) (.cst (.int 32)))),.var 5])) S6 (.loc,.tup (other.map A')) S6 :=
  bw (aa (az rfl) (aa (k _ 7 7 rfl rfl ⋯) (aa (T _ 8 8 rfl rfl ⋯) (aa (af rfl) ah)))) #[#[.own,rfl,rfl],trivial] b3
 let w:Option (Kd×U):=b6 (.loc,.tup (other.map A'));let B:aw:=[c,f,g,j,l,m,q,w,b7,b7,b7,b7,b7,b7,b7,b7]
 let p:Nat->Bool:=λi=>(dd ds (9+i) % 2==0)||(dd ds 17 % 3==1)
 let o:List Str:=((lg 8).filter p).map λi=>W.getD i "";have g8:Run (ev Γ (.comp 1 dV .FH [.cst (.int 8)] [.or [.cmp .eq (.bin .mod (.idx (.var 2) (.bin .add (.cst (.int 9)) (.var 0))) (.cst (.int 2))) (.cst (.int 0)),.cmp .eq (.bin .mod (.idx (.var 2) (.cst (.int 17))) (.cst (.int 3))) (.cst (.int 1))]] (.idx (.var 4) (.var 0)))) B (.own,.lst (o.map .str)) B:=by
  have hx:=oj (cond:=aP Γ [.or [.cmp .eq (.bin .mod (.idx (.var 2) (.bin .add (.cst (.int 9)) (.var 0))) (.cst (.int 2))) (.cst (.int 0)),.cmp .eq (.bin .mod (.idx (.var 2) (.cst (.int 17))) (.cst (.int 3))) (.cst (.int 1))]]) (elt:=ev Γ (.idx (.var 4) (.var 0))) (src:=[(.loc,.int ((8:Nat):Int))]) (st:=B) trivial .loc (.inl rfl) (λi:Nat=>U.int (0+(i:Int))) (λi:Nat=>.str (W.getD i "")) p .loc (lg 8) [] (by simp;lia)
   (λi hi=>by
    have Wc:=uv.mp hi;show#[kR (E8 (Eb (cB (aC (aV (az rfl) (aC aj (af rfl) trivial bM) #[#[.own,rfl,rfl],trivial] (bI (show FY (ds.map U.int) (9+(0+(i:Int)))=b6 (.int (dd ds (9+i))) from by rw[show(9:Int)+(0+(i:Int))=((9+i:Nat):Int) by lia];show A (9+i) ⋯))) aj trivial (aW (by decide))) aj trivial (jj rfl)) λ_=>D2 (cB (aC (aV (az rfl) aj #[#[.own,rfl,rfl],trivial] (bI (A 17 ⋯))) aj trivial (aW (by decide))) aj trivial (jj rfl)))),λ_=>#[aV (az rfl) (af rfl) #[#[.own,rfl,rfl],trivial] (bI ?_),ar]];change FY (W.map U.str) (0+(i:Int))=b6 (.str (W.getD i ""));rw[show(0:Int)+(i:Int)=((i:Nat):Int) by lia];show dC (by simp[show i<W.length by lia,WG]))
  rw[tx]at hx;rw[show o.map U.str=((lg 8).filter p).map λi:Nat=>U.str (W.getD i "") from by rw[mn];rfl];show cu (rs:=[(.loc,.int ((8:Nat):Int))]) (aa aj ah) trivial (eQ (by decide)) hx
 have all:∀{st':aw},Run (execs Γ (bS.body.drop 8)) [c,f,g,j,l,m,q,w,b6 (.own,.lst (o.map .str)),b7,b7,b7,b7,b7,b7,b7] (.rt .loc (.bl cb)) st'->cj Γ bS [.lst (ns.map .int)]=b6 (.ok (.loc,.bl cb)):=λh =>
  a_ rfl (.inr rfl) Fm (aG g1 bH (aG (r:=(.loc,.str small)) aj aM (aG g3 bH (aG g4 aM (aG g5 aM (aG g6 aM (aG g7 aM (aG g8 bH h))))))))
 have hm:(one.length:Int)=M:=by rw[a1];lia
 have y:Run (FF Γ (.cmp .eq (.bin .mod (.idx (.var 1) (.cst (.int 17))) (.cst (.int 3))) (.cst (.int 2)))) [c,f,g,j,l,m,q,w,b6 (.own,.lst (o.map .str)),b7,b7,b7,b7,b7,b7,b7] (dd ds 17 % 3==2) [c,f,g,j,l,m,q,w,b6 (.own,.lst (o.map .str)),b7,b7,b7,b7,b7,b7,b7] :=
  cB (aC (k _ 17 17 rfl rfl ⋯) aj trivial (aW (by decide))) aj trivial (jj rfl)
 cases e:dd ds 17 % 3==2 with
 |true =>
  rw[e]at y;have(st',h):=qh (Γ:=Γ) (ns:=ns) (mo:=mo) (same:=[]) D ho H u G s hm ⋯ ⋯ Y b2;show all (fI y (λ_=>aG (r:=(.own,.lst [])) (bq ah trivial av (qq _)) bH h) λh=>by cases h)
 |false =>
  rw[e]at y;have(st',h):=qh (Γ:=Γ) (ns:=ns) (mo:=mo) (same:=o) D ho H u G s hm ⋯ ⋯ Y b2;show all (fI y (λh=>by cases h) λ_=>h)
end
abbrev Hm(stem:Str)(n:Int):Str:=stem++eT++jE n
def zO(stem:Str)(i:Nat):nm stem i=Hm stem (2+(i:Int)):=rfl
section
structure JB(L:List Int):Prop where
 up:L.Pairwise (· < ·)
 lo:∀n∈L,2<=n/\n<=99
def JB.at(h:JB L)(hk:k<L.length):∃j:Nat,j<98/\L[k]=2+(j:Int):=by
 have:=h.lo L[k] (KX hk);show#[(L[k] - 2).toNat,⋯,⋯]
def Cr(h:JB L){i k:Nat}(hi:i<98):nm stem i∈(L.take k).map (Hm stem)↔(2+(i:Int))∈L.take k:=by
 rw[my];constructor
 .rintro⟨n,a,e⟩;have c:=h.lo n (pM a);have b:nm stem (n - 2).toNat=nm stem i:=by
   rw[zO,show 2+(((n - 2).toNat:Nat):Int)=n by lia];show e
  have:=ot ⋯ hi b;rw[<-this,show 2+(((n - 2).toNat:Nat):Int)=n by lia];show a
 .show λz=>#[_,z,rfl]
def u6(h:JB L){M:List Str}(n:∀i,i<98->(nm stem i∈M↔(2+(i:Int))∉L))(k:Nat):d_ stem (M++(L.take k).map (Hm stem))=(L[k]?).map (Hm stem):=by
 have key:∀i,i<98->(nm stem i∉M++(L.take k).map (Hm stem)↔(2+(i:Int))∈L/\(2+(i:Int))∉L.take k):=λi hi=>by
  rw[mx,n i hi,Cr h hi,not_or,Decidable.not_not]
 unfold d_ cands;rw[List.find?_map];by_cases hk:k<L.length
 .have(j,g,e):=h.at hk;rw[ts hk,e];have b:(lg 98).find? ((λx=>f7 (x∉M++(L.take k).map (Hm stem))) ∘ nm stem)=b6 j:=by
   rw[List.find?_range_eq_some];have l:=IM.mp h.up;show#[ZC ((key j g).mpr #[by rw[<-e];show KX hk,λz=>?_]),uv.mpr g,λi hi=>?_]
   .have(m,c,d):=GZ.mp z;rw[Qc]at d;rw[sd]at c;have:=l m k ⋯ hk ⋯;lia
   .have:¬(nm stem i∉M++(L.take k).map (Hm stem)):=λz=>by
     have(f,a):=(key i ⋯).mp z;have(m,c,d):=GZ.mp f;rcases Nat.lt_or_ge m k with q|q
     .show a (GZ.mpr #[m,by rw[sd];lia,by rw[Qc];show d])
     .rcases Nat.eq_or_lt_of_le q with q|q
      .subst q;lia
      .have:=l k m hk c q;lia
    change(!f7 (nm stem i∉M++(L.take k).map (Hm stem)))=cb;rw[ZA this];rfl
  rw[b];rfl
 .rw[Rp ⋯];have b:(lg 98).find? ((λx=>f7 (x∉M++(L.take k).map (Hm stem))) ∘ nm stem)=b7:=by
   rw[List.find?_eq_none];intro i hi;have hi:=uv.mp hi;have:¬(nm stem i∉M++(L.take k).map (Hm stem)):=λz=>by
    have(f,a):=(key i hi).mp z;rw[y4 ⋯]at a;show a f
   simpa using this
  rw[b];rfl
theorem mK(h:JB L)(a:∀i,i<98->(nm stem i∈mine++theirs↔(2+(i:Int))∉L))(b:∀w∈theirs,w∈mine/\stemOf w=stem):∀(ws:List Str) (acc:List Pr),(∀w∈ws,w∈theirs)->acc.map (·.2)=(L.take acc.length).map (Hm stem) ->
  cE mine theirs [] acc ws=if acc.length+ws.length<=L.length then b6 (acc++ws.zip ((L.drop acc.length).map (Hm stem))) else if ws=[] then b6 acc else b7
 |[],acc,_,_=>by simp[cE]
 |w::ws,acc,hs,c=>by
  have(d,h2):=b w (hs w (by simp));have f:w∈mine/\w∉([]:List Str):=#[d,by simp]
  rw[cE,Zx f,h2,c,u6 h a];rw[Zy (show ¬(w::ws)=[] by simp)];by_cases hk:acc.length<L.length
  .rw[ts hk];change cE mine theirs [] (acc++[(w,Hm stem L[acc.length])]) ws=_;rw[mK h a b ws (acc++[(w,Hm stem L[acc.length])]) (λx g=>hs x (by simp[g])) (by rw[uk,c,oT,OL,MV,ts hk,uk];rfl)];rw[oT,OL,ti];by_cases hz:acc.length+1+ws.length<=L.length
   .rw[Zx hz,Zx ⋯,IS hk,i2,JE,ro];rfl
   .by_cases e:ws=[]
    .subst e;simp at hz;lia
    .rw[Zy hz,Zy e,Zy (show ¬(acc.length+(ws.length+1)<=L.length) by lia)]
  .rw[Rp ⋯,Zy (by rw[ti];lia)];rfl
theorem qi:∀{S names:List Str},S.Nodup->S.length=names.length->S.map (eY (S.zip names))=names
 |[],[],_,_=>rfl
 |[],_::_,_,h=>by simp at h
 |_::_,[],_,h=>by simp at h
 |a::S,b::names,c,hl=>by
  have(d,h2):=Gz.mp c;rw[JE,i2];have e:S.map (eY ((a,b)::S.zip names))=S.map (eY (S.zip names)):=LM λx f=>by
   rw[eY,Zy λz=>d (by rw[show a=x from z];show f)]
  rw[e,qi h2 (by simpa using hl),eY,Zx rfl]
theorem lz:∀{d rows:List Row},(∀r∈d,∀s∈rows,s.1≠r.1)->(d.map (·.1)).Nodup->aN rows d=rows++d
 |[],rows,_,_=>by simp[aN]
 |r::d,rows,h,a=>by
  rw[i2,Gz]at a;have e:fN rows r=rows++[r]:=by
   unfold fN;rw[Zy];intro z;have(s,hs,hz):=KY.mp z;have hz:=ZD hz;show h r (by simp) s hs (show(keyOf s).1=(keyOf r).1 from ZE (λq:Row=>q.1) hz)
  rw[aN,e,lz (λx b s hs=>?_) a.2]
  .simp
  .rcases mx.mp hs with z|z
   .show h x (by simp[b]) s z
   .rw[mf.mp z];show λq=>a.1 (my.mpr #[x,b,q.symm])
def rO(S:List Str):bQ (S.map F6)=S:=by
 unfold bQ F6;induction S with
 |nil=>rfl
 |cons a S b=>rw[i2,i2,T5,b];rfl
def rP:aD ((aA (ak l)).map F6)=aA (ak l):=by
 unfold aD;rw[rO];show fW ((br _).trans ?_) (fg _) (fg _);show(List.perm_ext_iff_of_nodup (eu _) (iL l)).mpr λx=>gG _ x
end
section
abbrev Gi(stem:Str)(L:List Int):List Str:=stem::((lg 98).filter λi:Nat=>f7 ((2+(i:Int))∉L)).map (nm stem)
def oz(stem:Str)(i:Nat):stem.length+1<=(nm stem i).length:=by
 rw[nm,str_len,str_len];have:eT.length=1:=rfl;lia
def mL:(Gi stem L).Nodup:=by
 unfold Gi;rw[Gz];show#[λz=>?_,fJ (λi hi j a e=>ot ?_ ?_ e) (List.nodup_range.filter _)]
 .have(i,_,e):=my.mp z;have:=oz stem i;rw[e]at this;lia
 .show uv.mp (Mz.mp hi).1
 .show uv.mp (Mz.mp a).1
def iV:1<=(Gi stem L).length/\(Gi stem L).length<=99:=by
 unfold Gi;rw[ti,f6];have:=List.length_filter_le (λi:Nat=>f7 ((2+(i:Int))∉L)) (lg 98);rw[J1]at this;lia
def qj(hs:dh stem.cps.toList=cb):∀w∈Gi stem L,fH w.cps.toList/\stemOf w=stem:=λw hw=>by
 rcases i1.mp hw with rfl|hw
 .show#[.inl hs,mI hs]
 .have(i,hi,rfl):=my.mp hw;have hi:=uv.mp (Mz.mp hi).1;have e:(nm stem i).cps.toList=stem.cps.toList++47::(jE (2+(i:Int))).cps.toList:=by
   rw[nm,dc,dc,ro];rfl
  show#[.inr #[_,_,2+(i:Int),e,hs,⋯,⋯,rfl],?_];unfold stemOf;rw[show eT=⟨#v[47]⟩ from rfl,FD.r9 e (dX hs)]
def rQ{i:Nat}(hi:i<98):nm stem i∈Gi stem L↔(2+(i:Int))∉L:=by
 unfold Gi;rw[i1,my];constructor
 .rintro(e|⟨j,a,e⟩)
  .have:=oz stem i;rw[e]at this;lia
  .have(b,h2):=Mz.mp a;rw[<-ot (uv.mp b) hi e];show ZD h2
 .show λh=>.inr #[i,Mz.mpr #[uv.mpr hi,ZC h],rfl]
abbrev rowsOf(hd:Str)(ws:List Str):List Row:=(lg ((ws.length+7) / 8)).map λk=>(hd,(ws.drop (8 * k)).take 8)
def rR(h:1<=ws.length)(x:Str):x∈aD (rowsOf hd ws)↔x=hd\/x∈ws:=by
 rw[cN,cM];constructor
 .rintro⟨r,a,e⟩;have(k,_,rfl):=my.mp a;show e.imp id λe=>Lw (pM e)
 .rintro(e|e)
  .show#[_,my.mpr #[0,uv.mpr ⋯,rfl],.inl e]
  .have(i,hi,e):=GZ.mp e;show#[_,my.mpr #[i / 8,uv.mpr ⋯,rfl],.inr ?_];show GZ.mpr #[i % 8,by rw[sd,KR];lia,?_];rw[Qc,TZ];rw[<-e];congr 1
   lia
def tP(a:ws.Nodup):∀r∈rowsOf hd ws,r.1=hd/\iJ (hd::ws) r:=λr b=>by
 have(k,_,rfl):=my.mp b;show#[rfl,by simp,by rw[sd];lia,a.sublist ((Ia _ _).trans (MY _ _)),λx c=>nc _ (Lw (pM c))]
def lA(h:ws.length<=99):(rowsOf hd ws).length<=13:=by
 unfold rowsOf;rw[f6,J1];lia
def rS(hs:dh stem.cps.toList=cb)(hl:∀x∈l,x∈Gi stem L)(e:l.length<=10):LD (hd::Gi stem L) (aA (ak l)) (rowsOf hd (Gi stem L)) ((aA (ak l)).map F6):=by
 have w:=iV (stem:=stem) (L:=L);have r:=lA (hd:=hd) w.2;have d:=dm l;show#[⋯,by rw[f6,bp];lia,by rw[ti];lia,by rw[bp];lia,λr a=>(tP mL r a).2,λr a=>?_,λx b=>(qj hs x (hl x ((kZ l x).mp b))).1];have(w,c,rfl):=my.mp a;show#[c,by simp[F6],by simp[F6],λx b=>by cases b]
theorem qk:∀(S:List α) (M:List β),S.zip M=S.zip (M.take S.length)
 |[],_=>rfl
 |_::_,[]=>rfl
 |a::S,b::M=>by rw[JE,ti,Xi,JE,qk S M]
abbrev HJ(stem:Str)(L:List Int)(n:Nat):List Str:=(L.take n).map (Hm stem)
def lB(hs:dh stem.cps.toList=cb)(h:JB L)(hl:∀x∈l,x∈Gi stem L)(f:l≠[])(g:∀i,nm stem i≠hd):
  jN (rowsOf hd (Gi stem L)) ((aA (ak l)).map F6) []=if (aA (ak l)).length<=L.length then b6 ((aA (ak l)).zip (HJ stem L (aA (ak l)).length)) else b7:=by
 have b:=rR (hd:=hd) (iV (stem:=stem) (L:=L)).1;have c:∀x∈aA (ak l),x∈Gi stem L:=λx j=>hl x ((kZ l x).mp j);unfold jN;rw[rP,mK (stem:=stem) h (λi hi=>?_) (λw d=>#[(b w).mpr (.inr (c w d)),(qj hs w (c w d)).2]) (aA (ak l)) [] (λw b=>b) rfl]
 .rw[PF,FE,Nt,tx];by_cases hz:(aA (ak l)).length<=L.length
  .rw[Zx hz,Zx hz,qk,<-Yx];rfl
  .rw[Zy hz,Zy hz,Zy];intro z;cases l with
   |nil=>show f rfl
   |cons a l =>
    have:=(kZ (a::l) a).mpr (by simp);rw[z]at this;cases this
 .rw[mx,b];constructor
  .rintro((e|e)|e)
   .show absurd e (g i)
   .show(rQ hi).mp e
   .show(rQ hi).mp (c _ e)
  .show λz=>.inl (.inr ((rQ hi).mpr z))
def oA(a:n<=L.length):(HJ stem L n).length=n:=by
 unfold HJ;rw[f6,sd];lia
def u7(h:JB L)(n:Nat):(HJ stem L n).Nodup:=by
 show fJ (λa c b d e=>?_) ((h.up.imp λq=>Int.ne_of_lt q).sublist (Ia _ _));have f:=h.lo a (pM c);have h2:=h.lo b (pM d);have:=ot (stem:=stem) (i:=(a - 2).toNat) (j:=(b - 2).toNat) ⋯ ⋯ (by
  rw[zO,zO,show 2+(((a - 2).toNat:Nat):Int)=a by lia,show 2+(((b - 2).toNat:Nat):Int)=b by lia];show e)
 lia
def ql(hs:dh stem.cps.toList=cb)(h:JB L)(hl:∀x∈l,x∈Gi stem L)(b:l≠[])(m:l.length<=10)(a:∀i,nm stem i≠hd):
  iS (rowsOf hd (Gi stem L)) ((aA (ak l)).map F6) []=if (aA (ak l)).length<=L.length then b6 (rowsOf hd (Gi stem L)++(HJ stem L (aA (ak l)).length).map F6) else b7:=by
 unfold iS;rw[lB hs h hl b a];by_cases hz:(aA (ak l)).length<=L.length
 .rw[Zx hz,Zx hz];have e:((aA (ak l)).map F6).map (cF ((aA (ak l)).zip (HJ stem L (aA (ak l)).length)))=(HJ stem L (aA (ak l)).length).map F6:=by
   have:=qi (iL l) (names:=HJ stem L (aA (ak l)).length) (oA (stem:=stem) hz).symm;rw[mn];change Yj (F6 ∘ eY ((aA (ak l)).zip (HJ stem L (aA (ak l)).length))) _=_;rw[<-mn,this]
  have c:aN (rowsOf hd (Gi stem L)) ((HJ stem L (aA (ak l)).length).map F6)=rowsOf hd (Gi stem L)++(HJ stem L (aA (ak l)).length).map F6:=by
   show lz (λr f s g=>?_) ?_
   .have(w,j,rfl):=my.mp f;have(n,k,rfl):=my.mp j;have o:=h.lo n (pM k);rw[(tP mL s g).1];intro z;have:=a (n - 2).toNat;rw[zO,show 2+(((n - 2).toNat:Nat):Int)=n by lia]at this;show this z.symm
   .rw[mn];have:((λr:Row=>r.1) ∘ F6)=id:=rfl;rw[this,R7];show u7 h _
  change(if 60<(aN (rowsOf hd (Gi stem L)) (((aA (ak l)).map F6).map (cF ((aA (ak l)).zip (HJ stem L (aA (ak l)).length))))).length then b7 else b6 (aN (rowsOf hd (Gi stem L)) (((aA (ak l)).map F6).map (cF ((aA (ak l)).zip (HJ stem L (aA (ak l)).length))))))=_;rw[e,c,Zy];have r:=lA (hd:=hd) (iV (stem:=stem) (L:=L)).2;have d:=dm l;rw[oT,f6,oA hz,bp];lia
 .rw[Zy hz,Zy hz];rfl
def Cs(ws:List Str)(k:Nat):cut ws (b6 (((8 * k:Nat):Int))) (b6 (((8 * k+8:Nat):Int)))=(ws.drop (8 * k)).take 8:=by
 unfold cut;rw[HT.mS,HT.mS];rcases WY ws.length (8 * k) with h|h
 .rw[U1 h,WJ (g0 _),WJ h];simp
 .rw[Rm h];rcases WY ws.length (8 * k+8) with q|q
  .rw[U1 q,y4 (by rw[KR];lia),y4 (by rw[KR];lia)]
  .rw[Rm q,show 8 * k+8 - 8 * k=8 by lia]
end
def zP(a:0<=i)(b:i<=99):Hk .str [(k,.int i)]=b6 (.loc,.str (jE i)):=by
 simp only[Hk,gk,yN];rw[Zx (by
  by_cases hz:i.natAbs=0
  .rw[hz];decide
  .have:i.natAbs<2 ^ 7:=by lia
   have:=(Y6 hz).mpr this;lia)]
 rfl
def u9{L:List Int}:bK .Fj (.int n) (.lst (L.map U.int))=b6 (f7 (n∉L)):=by
 have b:∀(L:List Int) (k:Nat),bY k (L.map U.int)=cb:=λL k=>by
  induction L with
  |nil=>simp[bY]
  |cons a L c=>rw[i2,bY,c];simp[FX]
 change(Ju (.int n) (L.map U.int)).map _=_;unfold Ju;rw[Zx #[by simp[FX],b L 50]];change b6 (!((L.map U.int).any λy=>bA y (.int n)))=_;congr 1
 rw[G8];simp[bA,KY];constructor
 .intro h z;show h n z rfl
 .intro h x d e;subst e;show h d
def x9(h:ns.length<64):pJ .sset [(k,.lst (ns.map .int))]=b6 (.own,.lst ((dq (aT ns)).map .int)):=by
 have hi:∀ns:List Int,intsOf (ns.map U.int)=b6 ns:=λns=>by
  induction ns with
  |nil=>rfl
  |cons a ns b=>change(intsOf (ns.map U.int)).map _=_;rw[b];rfl
 cases ns with
 |nil =>
  have e:dq (aT [])=[]:=Wu.mp (bD _);have c:aA (ak [])=[]:=Wu.mp (br _);have:=iK (k:=k) (acc:=[]) (by decide) (by decide);rw[c]at this;rw[e];show this
 |cons a ns =>
  change qR (k,.lst ((a::ns).map .int))=_;have e:v9 (.lst ((a::ns).map U.int))=b7:=rfl;unfold qR
  dsimp only
  rw[e];change yO (.lst ((a::ns).map .int))=_;change(intsOf ((a::ns).map U.int)).bind _=_;rw[hi];change(if (a::ns).length<64 then _ else _)=_;rw[Zx h]
def Cu(h:∀n∈ns,2<=n/\n<=99):JB (dq (aT ns)):=by
 have a:=bD (aT ns);show#[?_,λn b=>h n ((qL ns n).mp (a.mem_iff.mp b))];have c:=fj (aT ns);have h2:(dq (aT ns)).Nodup:=a.nodup_iff.mpr (nH ns);show(c.and h2).imp λq=>by have:=q.1;have:=q.2;lia
def at_getD{W:List Str}{i:Int}(b:0<=i)(c:i<W.length):FY (W.map U.str) i=b6 (.str (W.getD i.toNat "")):=by
 have(n,rfl):=Oq b;have a:n<W.length:=by lia
 show dC ?_;rw[Qk,mh,ts a];simp[WG,ts a]
def getD_mem{W:List Str}(h:i<W.length):W.getD i ""∈W:=by
 simp only[WG,ts h];show KX h
def Ek{L:List Int}{n:Nat}(hk:k=.own\/∃j,k=.bor j):jI (k,.lst (L.map .int)) b7 (b6 (n:Int))=b6 (.own,.lst ((L.take n).map .int)):=by
 have hs:fu k (L.map U.int)=cb:=by
  rcases hk with rfl|⟨j,rfl⟩<;>rfl
 have:=xE (k:=k) (ds:=L) (lo:=b7) (hi:=b6 (n:Int)) hs;rw[iU]at this;show this
def El{stem:Str}:HG (if stem="x" then("y":Str) else "x"):=by
 split
 .show#[121,by decide,by decide,rfl]
 .show#[120,by decide,by decide,rfl]
def Ap{stem:Str}(hs:dh stem.cps.toList=cb)(i:Nat):nm stem i≠(if stem="x" then("y":Str) else "x"):=λe=>by
 have a:=oz stem i;have h2:=(bU _).mp hs;have b:=(El (stem:=stem)).len;rw[e,b,len_list]at a;lia
end K
namespace TM
section
def Em(h:st[j]?=b6 (b6 (.own,u))):Run (lift (.bor j,a)) st u (st.set j (b6 (.loc,u))):=by
 change(match st[j]? with|some (b6 (.own,u))=>b6 (Ex.ok u,st.set j (b6 (.loc,u)))|_=>b7)=_;rw[h]
end
end TM
namespace K
open PySem L2 TM FD
section
abbrev sS(ns ds:List Int)(stem:Str)(L:List Int)(a:List Str)(hd:Str)(one:List Row)(b:List Str)(other:List Row)(c o11 d:Option (Kd×U)):aw :=
 [b6 (.any,.lst (ns.map .int)),b6 (.own,.lst (ds.map .int)),b6 (.loc,.str small),b6 (.loc,.str stem),b6 (.own,.lst (L.map .int)),b6 (.own,.lst (a.map .str)),b6 (.loc,.str hd),b6 (.loc,.tup (one.map A')),b6 (.own,.lst (b.map .str)),b6 (.loc,.tup (other.map A')),c,o11,d]
def x_(hl:stem.length<=8)(d:2<=n)(a:n<=99)(b:st[4]?=b6 (b6 (.loc,.str stem)))(c:st[0]?=b6 (b6 (.loc,.int n))):Run (ev Γ (.bin .add (.bin .add (.var 4) (.cst (.str "/"))) (.bi .str [.var 0]))) st (.loc,.str (Hm stem n)) st :=
 aC (aC (af b) aj trivial (ox (by have:Og "/"=1:=rfl;lia))) (cS (aa (af c) ah) trivial (zP ⋯ a)) trivial (ox (by
  have:=f_ (k:=n) ⋯ a;rw[str_len];have:Og "/"=1:=rfl;lia))
def qm{ws:List Str}(hk:kE k=.loc)(hl:ws.length<=100)(h:Run (ev Γ e) st (k,.lst (ws.map .str)) st)(hs:aX [(k,.lst (ws.map U.str))] st)(b:aX [(k,.lst (ws.map U.str))] st):Run (ev Γ (.bi .tuple [.comp 1 dV .seq [e] [] (.tup [.var 0,.tup []])])) st (.loc,.tup ((ws.map F6).map A')) st:=by
 have hsz:(1000:Nat)<=eF:=by decide
 have a:=cC (cond:=aP Γ []) (elt:=ev Γ (.tup [.var 0,.tup []])) (src:=[(k,.lst (ws.map .str))]) (st:=st) hs .loc (.inl rfl) U.str (λw=>A' (F6 w)) .loc (λ_=>d9) ws [] (by simp;lia)
  (λw _=>#[bP (aa (af rfl) (aa (bP ah trivial av (qq _)) ah)) trivial (ag ar (ag ar av)) (by change 2<=eF;lia),ar])
 rw[tx]at a;have c:=cu (Γ:=Γ) (k:=1) (t:=dV) (ik:=.seq) (rs:=[(k,.lst (ws.map .str))]) (aa h ah) b (iQ hk) a;rw[mn];show cS (aa c ah) trivial rfl
def rT(J:rL Γ)(hs:dh stem.cps.toList=cb)(o:JB L)(hl:∀x∈l,x∈Gi stem L)(u:l≠[])(v:l.length<=10)(Sf:L.length<=50):
  ∃st',Run (execs Γ (cD.body.drop 9)) (sS ns ds stem L (Gi stem L) (if stem="x" then "y" else "x") (rowsOf (if stem="x" then "y" else "x") (Gi stem L)) (aA (ak l)) ((aA (ak l)).map F6) b7 b7 b7) (.rt .loc (.bl cb)) st':=by
 have hsz:(1000:Nat)<=eF:=by decide
 let hd:Str:=if stem="x" then "y" else "x"
 let S:=aA (ak l);let one:=rowsOf hd (Gi stem L);have O:stem.length<=8:=by rw[len_list];show((bU _).mp hs).2.1
 have Q:S.length<=10:=by change(aA (ak l)).length<=10;rw[bp];have:=dm l;lia
 have T:=rS (hd:=hd) (L:=L) hs hl v;have(w,y):=J _ _ _ _ [] T;rw[lB hs o hl u (Ap hs)]at y;rw[ql hs o hl u v (Ap hs)]at w;let g:=IV N_ (if S.length<=L.length then b6 (S.zip (HJ stem L S.length)) else b7);let j:=IV LG (if S.length<=L.length then b6 (one++(HJ stem L S.length).map F6) else b7);let F:=λ(Y o11 Ng:Option (Kd×U))=>sS ns ds stem L (Gi stem L) hd one S (S.map F6) Y o11 Ng;have z:Run (ev Γ (.lst [.call "_law_tried" [.cst (.int 1),.var 7,.var 9,.lst []],.call "_law_tried" [.cst (.int 0),.var 7,.var 9,.lst []]])) (F b7 b7 b7) (.own,.lst [g,j]) (F b7 b7 b7) :=
  bq (aa (bw (aa aj (aa (af rfl) (aa (af rfl) (aa (bq ah trivial av (qq _)) ah)))) trivial y) (aa (bw (aa aj (aa (af rfl) (aa (af rfl) (aa (bq ah trivial av (qq _)) ah)))) trivial w) ah)) trivial (ag ar (ag ar av)) (by change 2<=eF;lia)
 let a:Option (Kd×U):=b6 (.own,.lst [g,j]);have m:Run (FF Γ (.cmp .gt (.bi .len [.var 8]) (.bi .len [.var 4]))) (F a b7 b7) (f7 (L.length<S.length)) (F a b7 b7):=by
  show cB (cS (aa (az rfl) ah) #[#[.own,rfl,rfl],trivial] rfl) (cS (aa (az rfl) ah) #[#[.own,rfl,rfl],trivial] rfl) trivial ?_;change b6 (f7 (((L.map U.int).length:Int)<((S.map U.str).length:Nat)))=_;rw[f6,f6];congr 1
  rw[G8];simp
 have A:∀st,Run (ev Γ (.tup [.cst .Fg,.lst [.cst (.bl cb),.cst (.bl cb),.cst (.bl dV)]])) st (.loc,iR) st:=λst =>
  bP (aa aj (aa (bq (aa aj (aa aj (aa aj ah))) trivial (ag ar (ag ar (ag ar av))) (by change 3<=eF;lia)) ah)) trivial (ag ar (ag d8 av)) (by change 2<=eF;lia)
 by_cases hz:L.length<S.length
 .rw[ZC hz]at m;have p:g=iR:=by change IV N_ (if S.length<=L.length then _ else b7)=_;rw[Zy ⋯];rfl
  have q:j=iR:=by change IV LG (if S.length<=L.length then _ else b7)=_;rw[Zy ⋯];rfl
  show#[_,aG z bH (og m (cT (jz (c:=cb) (az rfl) (bq (aa (A _) (aa (A _) ah)) trivial (ag ar (ag ar av)) (by change 2<=eF;lia)) #[#[.own,rfl,rfl],trivial] ?_) dz))];change bK .eq (.lst [g,j]) (.lst [iR,iR])=_;rw[p,q];show iT (by simp[FX,bY,iR])
 .rw[ZA hz]at m;have r:S.length<=L.length:=by lia
  let N:=HJ stem L S.length;have Wd:N.length=S.length:=oA r;have p:g=.tup [.lst ((S.zip N).map Gv),.lst []]:=by change IV N_ (if S.length<=L.length then b6 (S.zip N) else b7)=_;rw[Zx r];rfl
  have q:j=.tup [.tup ((one++N.map F6).map A'),.lst []]:=by change IV LG (if S.length<=L.length then b6 (one++N.map F6) else b7)=_;rw[Zx r];rfl
  have gs:Run (ev Γ (.G3 (.var 4) [] [.bi .len [.var 8]])) (F a b7 b7) (.own,.lst ((L.take S.length).map .int)) (F a b7 b7):=by
   show mB (az rfl) pR (kQ (k:=.loc) (i:=((S.length:Nat):Int)) ?_) #[#[.own,rfl,rfl],trivial] (Ek (.inr #[_,rfl]));have:=cS (Γ:=Γ) (f:=.len) (es:=[.var 8]) (st:=F a b7 b7) (aa (az rfl) ah) #[#[.own,rfl,rfl],trivial] (iI (k:=.bor 8) (xs:=S.map U.str));rw[f6]at this;show this
  have B:=cC (cond:=aP Γ []) (elt:=ev Γ (.bin .add (.bin .add (.var 4) (.cst (.str "/"))) (.bi .str [.var 0]))) (src:=[(.own,.lst ((L.take S.length).map .int))]) (st:=F a b7 b7) trivial .loc (.inl rfl) U.int (λn=>.str (Hm stem n)) .loc (λ_=>d9) (L.take S.length) [] (by simp;lia)
   (λn s=>#[by
    have C:=o.lo n (pM s);show x_ O C.1 C.2 rfl rfl,ar])
  rw[tx]at B;have Vf:Run (ev Γ (.comp 1 dV .seq [.G3 (.var 4) [] [.bi .len [.var 8]]] [] (.bin .add (.bin .add (.var 4) (.cst (.str "/"))) (.bi .str [.var 0])))) (F a b7 b7) (.own,.lst (N.map .str)) (F a b7 b7):=by
   rw[show N.map U.str=(L.take S.length).map λn=>U.str (Hm stem n) from by change((L.take S.length).map (Hm stem)).map U.str=_;rw[mn];rfl];show cu (rs:=[(.own,.lst ((L.take S.length).map .int))]) (aa gs ah) trivial (by change b6 _=_;rw[mn];rfl) B
  let b:Option (Kd×U):=b6 (.own,.lst (N.map .str));have t:=cC (cond:=aP Γ []) (elt:=ev Γ (.tup [.idx (.var 9) (.var 0),.idx (.var 12) (.var 0)])) (src:=[(.loc,.int ((S.length:Nat):Int))]) (st:=F a b b7) trivial .loc (.inl rfl) (λi:Nat=>U.int (0+(i:Int))) (λi:Nat=>Gv (S.getD i "",N.getD i "")) .loc (λ_=>d9) (lg S.length) [] (by simp;lia)
   (λi hi=>#[by
    have hi:=uv.mp hi;have D:=at_getD (W:=S) (i:=0+(i:Int)) ⋯ ⋯;have G:=at_getD (W:=N) (i:=0+(i:Int)) ⋯ ⋯;rw[show(0+(i:Int)).toNat=i by lia]at D G;show bP (aa (aV (az rfl) (af rfl) #[#[.own,rfl,rfl],trivial] (bI D)) (aa (aV (az rfl) (af rfl) #[#[.own,rfl,rfl],trivial] (bI G)) ah)) trivial (ag ar (ag ar av)) (by change 2<=eF;lia),ar])
  rw[tx]at t;have ez:(lg S.length).map (λi:Nat=>Gv (S.getD i "",N.getD i ""))=(S.zip N).map Gv:=by
   apply QA
   .rw[f6,J1,f6,List.length_zip];lia
   .intro i H h2;rw[f6,J1]at H;rw[XW,List.getElem_range,XW,List.getElem_zip];have s:i<N.length:=by lia
    simp[WG,ts H,ts s]
  rw[ez]at t;have Vg:Run (ev Γ (.comp 1 dV .FH [.bi .len [.var 8]] [] (.tup [.idx (.var 9) (.var 0),.idx (.var 12) (.var 0)]))) (F a b b7) (.own,.lst ((S.zip N).map Gv)) (F a b b7):=by
   have d:=cS (Γ:=Γ) (f:=.len) (es:=[.var 8]) (st:=F a b b7) (aa (az rfl) ah) #[#[.own,rfl,rfl],trivial] (iI (k:=.bor 8) (xs:=S.map U.str));rw[f6]at d;show cu (rs:=[(.loc,.int ((S.length:Nat):Int))]) (aa d ah) trivial (eQ (Mt Q (by decide))) t
  let Vh:Option (Kd×U):=b6 (.own,.lst ((S.zip N).map Gv));let I:Option (Kd×U):=b6 (.loc,.lst ((S.zip N).map Gv));have gp:=qm (Γ:=Γ) (st:=F a b I) (ws:=N) (e:=.var 11) (k:=.bor 11) rfl ⋯ (az rfl) #[#[.own,rfl,rfl],trivial] #[#[.own,rfl,rfl],trivial];have ad:Ht .add (.loc,.tup (one.map A')) (.loc,.tup ((N.map F6).map A'))=b6 (.loc,.tup ((one++N.map F6).map A')):=by
   change(if (one.map A').length+((N.map F6).map A').length<=eF then _ else _)=_;have:=lA (hd:=hd) (iV (stem:=stem) (L:=L)).2;have ho:one.length<=13:=this;rw[Zx (by simp;lia),<-uk];rfl
  have ge:Run (ev Γ (.lst [.tup [.var 12,.lst []],.tup [.bin .add (.var 7) (.bi .tuple [.comp 1 dV .seq [.var 11] [] (.tup [.var 0,.tup []])]),.lst []]])) (F a b Vh) (.own,.lst [.tup [.lst ((S.zip N).map Gv),.lst []],.tup [.tup ((one++N.map F6).map A'),.lst []]]) (F a b I) :=
   bq (aa (bP (aa (az rfl) (aa (bq ah trivial av (qq _)) ah)) #[#[.own,rfl,rfl],trivial] (ag (Em rfl) (ag d8 av)) (by change 2<=eF;lia)) (aa (bP (aa (aC (af rfl) gp trivial ad) (aa (bq ah trivial av (qq _)) ah)) trivial (ag ar (ag d8 av)) (by change 2<=eF;lia)) ah)) trivial (ag ar (ag ar av)) (by change 2<=eF;lia)
  show#[_,aG z bH (fI m (λh=>by cases h) λ_=>aG Vf bH (aG Vg bH (cT (jz (c:=cb) (az rfl) ge #[#[.own,rfl,rfl],trivial] ?_) dz)))];change bK .eq (.lst [g,j]) _=_;rw[p,q];show iT ?_;simp only[FX,bY,lj (S.zip N) 46,ou (one++N.map F6) 45,PB]
end
section
def rU(hc:rG Γ)(hd:oi Γ)(ht:rL Γ)(ns:List Int):cj Γ cD [.lst (ns.map .int)]=b6 (.ok (.loc,.bl cb)):=by
 have hsz:(1000:Nat)<=eF:=by decide
 have(z,hz):=hc ns 1 ⋯;have(ds,d1,d2,d3):=hd z 20 ⋯;let o:Option (Kd×U):=b6 (.any,.lst (ns.map .int));let s:Option (Kd×U):=b6 (.own,.lst (ds.map .int));let G:Option (Kd×U):=b6 (.loc,.str small);have Fm:TM.start [.lst (ns.map .int)] 13=[o,b7,b7,b7,b7,b7,b7,b7,b7,b7,b7,b7,b7]:=rfl;have ix:∀(i:Nat),i<20->FY (ds.map U.int) (i:Int)=b6 (.int (dd ds i)):=λi hi=>jU ⋯;have nn:=tB d2;have u:∀(i:Nat) (t:Int),0<t->0<=dd ds i % t/\dd ds i % t<t:=λi t h=>#[IG _ ⋯,HH _ h]
 have g1:Run (ev Γ (.call "_law_drawn" [.call "_law_cell" [.var 0,.cst (.int 1)],.cst (.int 20)])) [o,b7,b7,b7,b7,b7,b7,b7,b7,b7,b7,b7,b7] (.own,.lst (ds.map .int)) [o,b7,b7,b7,b7,b7,b7,b7,b7,b7,b7,b7,b7]:=bw (aa (bw (aa (bu rfl) (aa aj ah)) trivial hz) (aa aj ah)) trivial d3;have Y:∀(st:aw) (i:Nat) (n:Int),st[1]?=b6 s->n=(i:Int)->i<20->Run (ev Γ (.idx (.var 1) (.cst (.int n)))) st (.loc,.int (dd ds i)) st:=λst i n h e hi=>by
  subst e;show aV (az h) aj #[#[.own,rfl,h],trivial] (bI (ix i hi))
 have dk:∀(st:aw) (a i:Nat) (n:Int),st[1]?=b6 s->n=(a:Int)->a+i<20->Run (ev Γ (.idx (.var 2) (.bin .add (.cst (.int n)) (.var 0)))) (b6 (.loc,.int (0+(i:Int)))::st) (.loc,.int (dd ds (a+i))) (b6 (.loc,.int (0+(i:Int)))::st):=λst a i n h e hi=>by
  subst e;show aV (az (i:=2) h) (aC aj (af rfl) trivial bM) #[#[.own,rfl,h],trivial] (bI ?_);rw[show(a:Int)+(0+(i:Int))=((a+i:Nat):Int) by lia];show ix (a+i) hi
 let O:aw:=[o,s,G,b7,b7,b7,b7,b7,b7,b7,b7,b7,b7]
 let v:Nat:=(1+dd ds 0 % 8).toNat;have m0:=u 0 8 (by decide);have Vi:1<=v/\v<=8:=by change 1<=(1+dd ds 0 % 8).toNat/\(1+dd ds 0 % 8).toNat<=8;lia
 have Vj:((v:Nat):Int)=1+dd ds 0 % 8:=by change(((1+dd ds 0 % 8).toNat:Nat):Int)=_;lia
 let fc:Nat->Nat:=λi=>97+(dd ds (10+i) % 26).toNat;let j:List Nat:=(lg v).map fc;have QH:∀c∈j,low c=cb:=λc hc=>by
  have(i,_,rfl):=my.mp hc;have:=u (10+i) 26 (by decide);change(f7 (97<=97+(dd ds (10+i) % 26).toNat)&&f7 (97+(dd ds (10+i) % 26).toNat<=122))=cb;rw[df,Zz,Zz];lia
 have Hw:j.length=v:=by simp[j]
 have Sj:=cC (cond:=aP Γ []) (elt:=ev Γ (.idx (.var 3) (.bin .mod (.idx (.var 2) (.bin .add (.cst (.int 10)) (.var 0))) (.cst (.int 26))))) (src:=[(.loc,.int ((v:Nat):Int))]) (st:=O) trivial .loc (.inl rfl) (λi:Nat=>U.int (0+(i:Int))) (λi:Nat=>.str (FD.one (fc i))) .loc (λ_=>d9) (lg v) [] (by simp;lia)
  (λi hi=>#[by
   have hi:=uv.mp hi;have:=u (10+i) 26 (by decide);show aV (af rfl) (aC (dk O 10 i 10 rfl rfl ⋯) aj trivial (aW (by decide))) trivial (mW (by decide) (pV this.1 this.2)),ar])
 rw[tx]at Sj;have Vk:Run (ev Γ (.comp 1 dV .FH [.bin .add (.cst (.int 1)) (.bin .mod (.idx (.var 1) (.cst (.int 0))) (.cst (.int 8)))] [] (.idx (.var 3) (.bin .mod (.idx (.var 2) (.bin .add (.cst (.int 10)) (.var 0))) (.cst (.int 26)))))) O (.own,.lst ((j.map FD.one).map .str)) O:=by
  rw[show(j.map FD.one).map U.str=(lg v).map λi:Nat=>U.str (FD.one (fc i)) from by rw[mn,mn];rfl];show cu (rs:=[(.loc,.int ((v:Nat):Int))]) (aa (by rw[Vj];show aC aj (aC (Y O 0 0 rfl rfl ⋯) aj trivial (aW (by decide))) trivial bM) ah) trivial (eQ (Mt Vi.2 (by decide))) Sj
 let stem:Str:=Wk DD (j.map FD.one);have Nl:nL .join (.str "") [(.own,.lst ((j.map FD.one).map U.str))]=b6 (.loc,.str stem):=by
  change(strsOf ((j.map FD.one).map U.str)).bind _=_;rw[gc];change(if Yt DD (j.map FD.one)=cb then _ else _)=_;rw[Zx (pT j ⋯)];rfl
 have Sk:stem.cps.toList=j:=join_ones j;have hs:dh stem.cps.toList=cb:=by rw[Sk];show pU QH ⋯ ⋯
 have Ob:stem.length<=8:=by rw[len_list,Sk];lia
 have g3:=tm (Γ:=Γ) (m:=.join) (a:=.cst (.str "")) aj (aa Vk ah) trivial Nl;let J:Option (Kd×U):=b6 (.loc,.str stem);let y:aw:=[o,s,G,J,b7,b7,b7,b7,b7,b7,b7,b7,b7]
 let w:Nat:=(dd ds 5 % 5).toNat;have m5:=u 5 5 (by decide);have Vl:w<5:=by change(dd ds 5 % 5).toNat<5;lia
 have QI:w<2 ^ 62:=KN Vl (by decide);have Vm:((w:Nat):Int)=dd ds 5 % 5:=by change(((dd ds 5 % 5).toNat:Nat):Int)=_;lia
 let A:List Int:=(lg w).map λi=>2+dd ds (1+i) % 98;have Sl:=cC (cond:=aP Γ []) (elt:=ev Γ (.bin .add (.cst (.int 2)) (.bin .mod (.idx (.var 2) (.bin .add (.cst (.int 1)) (.var 0))) (.cst (.int 98))))) (src:=[(.loc,.int ((w:Nat):Int))]) (st:=y) trivial .loc (.inl rfl) (λi:Nat=>U.int (0+(i:Int))) (λi:Nat=>.int (2+dd ds (1+i) % 98)) .loc (λ_=>d9) (lg w) [] (by simp;lia)
  (λi hi=>#[by
   have hi:=uv.mp hi;show aC aj (aC (dk y 1 i 1 rfl rfl ⋯) aj trivial (aW (by decide))) trivial bM,ar])
 rw[tx]at Sl;have Vn:Run (ev Γ (.comp 1 dV .FH [.bin .mod (.idx (.var 1) (.cst (.int 5))) (.cst (.int 5))] [] (.bin .add (.cst (.int 2)) (.bin .mod (.idx (.var 2) (.bin .add (.cst (.int 1)) (.var 0))) (.cst (.int 98)))))) y (.own,.lst (A.map .int)) y:=by
  rw[show A.map U.int=(lg w).map λi:Nat=>U.int (2+dd ds (1+i) % 98) from by rw[mn];rfl];show cu (rs:=[(.loc,.int ((w:Nat):Int))]) (aa (by rw[Vm];show aC (Y y 5 5 rfl rfl ⋯) aj trivial (aW (by decide))) ah) trivial (eQ QI) Sl
 let Od:Nat:=(dd ds 19 % 3).toNat;have We:=u 19 3 (by decide);have QJ:((Od:Nat):Int)=dd ds 19 % 3:=by change(((dd ds 19 % 3).toNat:Nat):Int)=_;lia
 let B:List Int:=[99,2].take Od;have Vo:Run (ev Γ (.G3 (.lst [.cst (.int 99),.cst (.int 2)]) [] [.bin .mod (.idx (.var 1) (.cst (.int 19))) (.cst (.int 3))])) y (.own,.lst (B.map .int)) y :=
  mB (x:=(.own,.lst (([99,2]:List Int).map U.int))) (bq (aa aj (aa aj ah)) trivial (ag ar (ag ar av)) (by change 2<=eF;lia)) pR (kQ (k:=.loc) (i:=((Od:Nat):Int)) (by rw[QJ];show aC (Y y 19 19 rfl rfl ⋯) aj trivial (aW (by decide)))) trivial (Ek (.inl rfl))
 have Vp:∀n∈A++B,2<=n/\n<=99:=λn hn=>by
  rcases mx.mp hn with q|q
  .have(i,_,rfl):=my.mp q;have:=u (1+i) 98 (by decide);change 2<=2+dd ds (1+i) % 98/\2+dd ds (1+i) % 98<=99;lia
  .have q:=pM q;simp only[i1,HI,or_false]at q;rcases q with rfl|rfl<;>lia
 have QK:(A++B).length<=6:=by
  rw[oT];have a:A.length<=4:=by change((lg w).map _).length<=4;rw[f6,J1];lia
  have b:B.length<=2:=by change(List.take Od [99,2]).length<=2;rw[sd];simp;lia
  lia
 let L:List Int:=dq (aT (A++B));have hL:JB L:=Cu Vp;have Sf:L.length<=50:=by change(dq (aT (A++B))).length<=50;rw[(bD _).length_eq];have:=gK (A++B);lia
 have Vq:Ht .add (.own,.lst (A.map .int)) (.own,.lst (B.map .int))=b6 (.own,.lst ((A++B).map .int)):=by
  rw[uk];rw[oT]at QK;show fL (by simp;lia) rfl rfl
 have g4:=tf (Γ:=Γ) (f:=.sset) (aa (aC Vn Vo trivial Vq) ah) trivial (x9 (k:=.own) (ns:=A++B) ⋯);let Q:Option (Kd×U):=b6 (.own,.lst (L.map .int));let T:aw:=[o,s,G,J,Q,b7,b7,b7,b7,b7,b7,b7,b7]
 have Sn:=oj (cond:=aP Γ [.cmp .Fj (.var 0) (.var 5)]) (elt:=ev Γ (.bin .add (.bin .add (.var 4) (.cst (.str "/"))) (.bi .str [.var 0]))) (src:=[(.loc,.int 2),(.loc,.int 100)]) (st:=T) trivial .loc (.inl rfl) (λi:Nat=>U.int (2+(i:Int))) (λi:Nat=>.str (nm stem i)) (λi:Nat=>f7 ((2+(i:Int))∉L)) .loc (lg 98) [] (by simp;lia)
  (λi hi=>by
   have hi:=uv.mp hi;show#[kR (cB (af rfl) (az rfl) #[#[.own,rfl,rfl],trivial] u9),λ_=>#[x_ Ob ⋯ ⋯ rfl rfl,ar]])
 rw[tx]at Sn;let d:=Gi stem L;have Vr:Run (ev Γ (.comp 1 dV .HX [.cst (.int 2),.cst (.int 100)] [.cmp .Fj (.var 0) (.var 5)] (.bin .add (.bin .add (.var 4) (.cst (.str "/"))) (.bi .str [.var 0])))) T (.own,.lst ((((lg 98).filter λi:Nat=>f7 ((2+(i:Int))∉L)).map (nm stem)).map .str)) T:=by
  rw[mn];show cu (rs:=[(.loc,.int 2),(.loc,.int 100)]) (aa aj (aa aj ah)) trivial rfl Sn
 have wl:=iV (stem:=stem) (L:=L);have g5:Run (ev Γ (.bin .add (.lst [.var 3]) (.comp 1 dV .HX [.cst (.int 2),.cst (.int 100)] [.cmp .Fj (.var 0) (.var 5)] (.bin .add (.bin .add (.var 4) (.cst (.str "/"))) (.bi .str [.var 0]))))) T (.own,.lst (d.map .str)) T:=by
  show aC (x:=(.own,.lst [.str stem])) (bq (aa (af rfl) ah) trivial (ag ar av) (by change 1<=eF;lia)) Vr trivial ?_;have:(d.map U.str)=[U.str stem]++(((lg 98).filter λi:Nat=>f7 ((2+(i:Int))∉L)).map (nm stem)).map U.str:=rfl;rw[this];show fL ?_ rfl rfl;have hq:(Gi stem L).length=1+((((lg 98).filter λi:Nat=>f7 ((2+(i:Int))∉L)).map (nm stem)).map U.str).length:=by
   unfold Gi;rw[ti,f6,f6,f6];lia
  rw[OL];lia
 let v5:Option (Kd×U):=b6 (.own,.lst (d.map .str));let S5:aw:=[o,s,G,J,Q,v5,b7,b7,b7,b7,b7,b7,b7]
 let H:Str:=if stem="x" then "y" else "x"
 have g6:Run (ev Γ (.idx (.lst [.cst (.str "x"),.cst (.str "y")]) (.bi .int [.cmp .eq (.var 3) (.cst (.str "x"))]))) S5 (.loc,.str H) S5:=by
  have gb:Run (ev Γ (.cmp .eq (.var 3) (.cst (.str "x")))) S5 (.loc,.bl (f7 (stem="x"))) S5:=jz (af rfl) aj trivial zG;by_cases q:stem="x"
  .rw[ZC q]at gb;rw[show H="y" from Zx q];show aV (x:=(.own,.lst [.str "x",.str "y"])) (bq (aa aj (aa aj ah)) trivial (ag ar (ag ar av)) (by change 2<=eF;lia)) (cS (aa gb ah) trivial rfl) trivial rfl
  .rw[ZA q]at gb;rw[show H="x" from Zy q];show aV (x:=(.own,.lst [.str "x",.str "y"])) (bq (aa aj (aa aj ah)) trivial (ag ar (ag ar av)) (by change 2<=eF;lia)) (cS (aa gb ah) trivial rfl) trivial rfl
 let v6:Option (Kd×U):=b6 (.loc,.str H);let p:aw:=[o,s,G,J,Q,v5,v6,b7,b7,b7,b7,b7,b7]
 have LP:d.length<=99:=wl.2;let I:Nat:=(d.length+7) / 8;have Vs:I<=13:=by change(d.length+7) / 8<=13;lia
 have Sq:=cC (cond:=aP Γ []) (elt:=ev Γ (.tup [.var 7,.bi .tuple [.G3 (.var 6) [.bin .mul (.cst (.int 8)) (.var 0)] [.bin .add (.bin .mul (.cst (.int 8)) (.var 0)) (.cst (.int 8))]]])) (src:=[(.loc,.int ((I:Nat):Int))]) (st:=p) trivial .loc (.inl rfl) (λi:Nat=>U.int (0+(i:Int))) (λi:Nat=>A' (H,(d.drop (8 * i)).take 8)) .loc (λ_=>d9) (lg I) [] (by simp;lia)
  (λi hi=>#[by
   have hi:=uv.mp hi;have lo:Run (ev Γ (.bin .mul (.cst (.int 8)) (.var 0))) (b6 (.loc,.int (0+(i:Int)))::p) (.loc,.int ((8 * i:Nat):Int)) (b6 (.loc,.int (0+(i:Int)))::p):=by
    rw[show((8 * i:Nat):Int)=8 * (0+(i:Int)) by lia];show aC aj (af rfl) trivial (gA (.inl #[by decide,by decide]))
   have HP:Run (ev Γ (.bin .add (.bin .mul (.cst (.int 8)) (.var 0)) (.cst (.int 8)))) (b6 (.loc,.int (0+(i:Int)))::p) (.loc,.int ((8 * i+8:Nat):Int)) (b6 (.loc,.int (0+(i:Int)))::p):=by
    rw[show((8 * i+8:Nat):Int)=((8 * i:Nat):Int)+8 by lia];show aC lo aj trivial bM
   have sl:jI (.bor 6,.lst (d.map .str)) (b6 ((8 * i:Nat):Int)) (b6 ((8 * i+8:Nat):Int))=b6 (.own,.lst (((d.drop (8 * i)).take 8).map .str)):=by
    have:=tE (k:=.bor 6) (ss:=d) (lo:=b6 ((8 * i:Nat):Int)) (hi:=b6 ((8 * i+8:Nat):Int)) rfl;rw[Cs]at this;show this
   show bP (aa (af rfl) (aa (cS (aa (mB (az rfl) (kQ lo) (kQ HP) #[#[.own,rfl,rfl],trivial] sl) ah) trivial rfl) ah)) trivial (ag ar (ag ar av)) (by change 2<=eF;lia),ar])
 rw[tx]at Sq;let one:=rowsOf H d;have g7:Run (ev Γ (.bi .tuple [.comp 1 dV .FH [.bin .HW (.bin .add (.bi .len [.var 5]) (.cst (.int 7))) (.cst (.int 8))] [] (.tup [.var 7,.bi .tuple [.G3 (.var 6) [.bin .mul (.cst (.int 8)) (.var 0)] [.bin .add (.bin .mul (.cst (.int 8)) (.var 0)) (.cst (.int 8))]]])])) p (.loc,.tup (one.map A')) p:=by
  have g:=cS (Γ:=Γ) (f:=.len) (es:=[.var 5]) (st:=p) (aa (az rfl) ah) #[#[.own,rfl,rfl],trivial] (iI (k:=.bor 5) (xs:=d.map U.str));rw[f6]at g;have hq:Run (ev Γ (.bin .HW (.bin .add (.bi .len [.var 5]) (.cst (.int 7))) (.cst (.int 8)))) p (.loc,.int ((I:Nat):Int)) p:=by
   rw[show((I:Nat):Int)=((d.length:Int)+7) / 8 by change(((d.length+7) / 8:Nat):Int)=_;lia];show aC (aC g aj trivial bM) aj trivial (oh #[by decide,by decide])
  have Vt:=cu (Γ:=Γ) (k:=1) (t:=dV) (ik:=.FH) (rs:=[(.loc,.int ((I:Nat):Int))]) (aa hq ah) trivial (eQ (Mt Vs (by decide))) Sq;rw[show one.map A'=(lg I).map λi:Nat=>A' (H,(d.drop (8 * i)).take 8) from by change((lg ((d.length+7) / 8)).map _).map A'=_;rw[mn];rfl];show cS (aa Vt ah) trivial rfl
 let v7:Option (Kd×U):=b6 (.loc,.tup (one.map A'));let C:aw:=[o,s,G,J,Q,v5,v6,v7,b7,b7,b7,b7,b7]
 let D:Nat:=(1+dd ds 9 % 5 % 4).toNat;have m9:=u 9 5 (by decide);have Wf:0<=dd ds 9 % 5 % 4/\dd ds 9 % 5 % 4<4:=#[IG _ (by decide),HH _ (by decide)]
 have Vu:((D:Nat):Int)=1+dd ds 9 % 5 % 4:=by change(((1+dd ds 9 % 5 % 4).toNat:Nat):Int)=_;lia
 have Vv:D<=4:=by lia
 have QL:(0:Int)<d.length:=by have:1<=d.length:=wl.1;lia
 let fw:Nat->Str:=λi=>d.getD (dd ds (6+i) % d.length).toNat "";have Sr:=cC (cond:=aP Γ []) (elt:=ev Γ (.idx (.var 6) (.bin .mod (.idx (.var 2) (.bin .add (.cst (.int 6)) (.var 0))) (.bi .len [.var 6])))) (src:=[(.loc,.int ((D:Nat):Int))]) (st:=C) trivial .loc (.inl rfl) (λi:Nat=>U.int (0+(i:Int))) (λi:Nat=>.str (fw i)) .loc (λ_=>d9) (lg D) [] (by simp;lia)
  (λi hi=>#[by
   have hi:=uv.mp hi;have mm:=u (6+i) d.length QL;have g:=cS (Γ:=Γ) (f:=.len) (es:=[.var 6]) (st:=b6 (.loc,.int (0+(i:Int)))::C) (aa (az rfl) ah) #[#[.own,rfl,rfl],trivial] (iI (k:=.bor 6) (xs:=d.map U.str));rw[f6]at g;show aV (az rfl) (aC (dk C 6 i 6 rfl rfl ⋯) g trivial (aW QL)) #[#[.own,rfl,rfl],trivial] (bI (at_getD mm.1 mm.2)),ar])
 rw[tx]at Sr;let N:List Str:=(lg D).map fw;have Vw:Run (ev Γ (.comp 1 dV .FH [.bin .add (.cst (.int 1)) (.bin .mod (.bin .mod (.idx (.var 1) (.cst (.int 9))) (.cst (.int 5))) (.cst (.int 4)))] [] (.idx (.var 6) (.bin .mod (.idx (.var 2) (.bin .add (.cst (.int 6)) (.var 0))) (.bi .len [.var 6]))))) C (.own,.lst (N.map .str)) C:=by
  rw[show N.map U.str=(lg D).map λi:Nat=>U.str (fw i) from by rw[mn];rfl];show cu (rs:=[(.loc,.int ((D:Nat):Int))]) (aa (by rw[Vu];show aC aj (aC (aC (Y C 9 9 rfl rfl ⋯) aj trivial (aW (by decide))) aj trivial (aW (by decide))) trivial bM) ah) trivial (eQ (Mt Vv (by decide))) Sr
 let l:List Str:=N++[stem];have Wg:N.length<=4:=by change((lg D).map fw).length<=4;rw[f6,J1];lia
 have Vx:Run (ev Γ (.lst [.idx (.var 5) (.cst (.int 0))])) C (.own,.lst [.str stem]) C:=bq (rs:=[(.loc,.str stem)]) (aa (aV (az rfl) aj #[#[.own,rfl,rfl],trivial] (bI (show FY (d.map U.str) ((0:Nat):Int)=b6 (.str stem) from dC rfl))) ah) trivial (ag ar av) (by change 1<=eF;lia);have Vy:Ht .add (.own,.lst (N.map .str)) (.own,.lst [.str stem])=b6 (.own,.lst (l.map .str)):=by
  rw[show l.map U.str=N.map U.str++[U.str stem] from by simp[l]];show fL (by simp;lia) rfl rfl
 have JY:l.length<=10:=by simp[l];lia
 have Ly:=dm l;have g8:=tf (Γ:=Γ) (f:=.sset) (aa (aC Vw Vx trivial Vy) ah) trivial (iK (k:=.own) (acc:=l) ⋯ ⋯);have Vz:∀x∈l,x∈Gi stem L:=λx hx=>by
  rcases mx.mp hx with q|q
  .have(i,_,rfl):=my.mp q;have mm:=u (6+i) d.length QL;show getD_mem (W:=d) ⋯
  .rw[mf.mp q];show ov
 let So:=aA (ak l);let v8:Option (Kd×U):=b6 (.own,.lst (So.map .str));let S8:aw:=[o,s,G,J,Q,v5,v6,v7,v8,b7,b7,b7,b7]
 have Sh:So.length<=10:=by change(aA (ak l)).length<=10;rw[bp];lia
 have g9:=qm (Γ:=Γ) (st:=S8) (ws:=So) (e:=.var 8) (k:=.bor 8) rfl ⋯ (az rfl) #[#[.own,rfl,rfl],trivial] #[#[.own,rfl,rfl],trivial];have(st',h):=rT (Γ:=Γ) (ns:=ns) (ds:=ds) ht hs hL Vz (by simp[l]) JY Sf;show a_ rfl (.inr rfl) Fm (aG g1 bH (aG (r:=(.loc,.str small)) aj aM (aG g3 aM (aG g4 bH (aG g5 bH (aG g6 aM (aG g7 aM (aG g8 bH (aG g9 aM h)))))))))
end
def Aq(d:Nat):xA (GB prog (d+1)):=λc k a b=>(aS (show Hc prog "_law_mix" Cg from rfl) _).trans (zB a b)
def ya(d:Nat):rG (GB prog (d+2)):=λns k hk=>#[_,(aS (show Hc prog "_law_cell" xy from rfl) _).trans (xB (Aq d) hk)]
def drawnOk(d:Nat):oi (GB prog (d+2)):=λc n f=>by
 have(ds,a,b,e):=uS (Γ:=GB prog (d+1)) (Aq d) (c:=c) f;show#[ds,a,b,(aS (show Hc prog "_law_drawn" rE from rfl) _).trans e]
def Cv(d:Nat):x5 (GB prog (d+1)):=λW b s m c g h i j=>by
 have(rows,a,e,f):=rK (Γ:=GB prog d) c g #[h,i] j;show#[rows,a,e,(aS (show Hc prog "_law_picked" de from rfl) _).trans f]
def Cw(n:Nat):oy (GB prog (n+5)):=λW a one b c h2 d e f g h=>(aS (show Hc prog "_law_over_full" cc from rfl) _).trans (xY (Cq n) c h2 d e f g h)
def pure(ns:List Int)(b:ns.length<=63):GB prog 7 "law" [xf ns]=b6 (.ok (.loc,.bl cb)):=by
 have a:GB prog 6 "_law_full" [.lst (ns.map .int)]=b6 (.ok (.loc,.bl cb)):=(aS (show Hc prog "_law_full" bS from rfl) _).trans (x8 (ya 3) (drawnOk 3) (Cv 4) (Cq 1) (Cw 0) ns);have h2:GB prog 6 "_law_senses" [.lst (ns.map .int)]=b6 (.ok (.loc,.bl cb)):=(aS (show Hc prog "_law_senses" cD from rfl) _).trans (rU (ya 3) (drawnOk 3) (Cq 1) ns);show(aS (show Hc prog "law" xH from rfl) _).trans ?_;show a_ (st0:=[b6 (.any,.lst (ns.map .int))]) rfl (.inr rfl) rfl (cT (D0 (Ci (bw (aa (bu rfl) ah) trivial a) λ_=>(B9 (bw (aa (bu rfl) ah) trivial h2)))) dz)
end K
namespace K
open PySem L2 TM PySem.W PyProof.Rows
def hl:LeftO PySem.Challenge.rw_primer_k65_no_room.row.prog vw loo xt hk.obs hk.val 4000:=λw=>by
 have(s,e,a):=j'.mp (GW w);have b:=GH w;have c:=KA w;rw[e]at b c;change(oe w).map _=_;rw[e];show ZE b6 (V2 (V2 a (GD b)) (GD c))
def hs:PySem.Challenge.rw_primer_k65_no_room.wellSaid=cb:=by kernel_rfl
def ho(P:S9):KH ck top (Hl top (gx P) ms) ms=cb:=by kernel_rfl
def VA(P:S9):(gX ck (Hl top (gx P) ms)&&gY ck (Hl top (gx P) ms))=cb:=by kernel_rfl
end K
open PySem PySem.W PyProof.Rows K
theorem PySem.Challenge.cw_primer_k65_no_room_holds : PySem.Challenge.rw_primer_k65_no_room.Holds := by
 w_on
 refine holds_law hs λz => ?_;refine holds_open hl hk.of hk.keeps (λs e => xl_of s (H4.mp e).1) XL.keeps rfl rfl rfl (λs e => recFacts_of (H4.mp e).2) rfl z (by kernel_rfl) ⟨rfl, rfl, rfl, rfl, rfl, by decide +kernel⟩ ?hw ?a
 (case hw => w_witness2)
 exact TM.walk2 (l := PySem.Challenge.rw_primer_k65_no_room) (Pg := prog) (ck := ck) (dp := 6) (x := "_law_script") (m := ml) rfl rfl ⟨rfl, by decide, by decide, rfl⟩ rfl (by decide +kernel) (by decide +kernel) rfl (List.mem_iff_getElem?.mpr ⟨16, rfl⟩) rfl rfl ho VA (λ_ => rfl) K.pure
