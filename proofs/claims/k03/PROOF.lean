import PyProof.Rows.All
import Wide.All
import OpenK.AllK
import Wide.FinOn
import Lean
import PyProof.EqAt
import PyProof.EqKinds
import PyProof.TupleCall
import PyProof.StrLawsChain
import PyProof.StrLawsFirst
import PyProof.Rows.StrNews2
import OpenK.AllK
import PySem.SetOps
import PyProof.MeetsStr2
import PyProof.StationsW
import PyProof.ExcBaseAll.ValueError
import PyProof.RulesAs
import PyProof.NsDelKeeps
import OpenK.AllK
import PyProof.ExcArgsOwn
import PyProof.ExcAttrAll.ValueError
import PyProof.IsiBase
import PyProof.ReprBulk
import PySem.Challenge.RW_primer_k03_books_that_fit
set_option Elab.async false
set_option linter.all false
set_option bootstrap.genMatcherCode false
set_option maxRecDepth 100000
set_option maxHeartbeats 4000000
set_option genInjectivity false
set_option genSizeOf false
set_option autoImplicit true
set_option relaxedAutoImplicit true
open Option renaming some->a5,none->b6,map_eq_some_iff->et,bind_eq_some_iff->sh,map_some->ON,isNone_iff_eq_none->PD,isSome_map->P6,isSome_iff_exists->P9,map_eq_none_iff->QO,isSome_some->VS,any_eq_true->VT,getD_some->We,getD_none->Wf
open PySem renaming wpAny_bind->bw,wpAny_pure->cc,sizeLine->df,Value->d6,wpAny->eH,Shared->fx,Addr->gs,model->ko,starEach->mx,mainGlobals->mA,Expr->tr,wpAny_newObj_type->vr,Program->vu,wpAny_mono->vz,wpAny_setState_of->wh,World->DD,wpAny_holding->D1,wpAny_Call_Name_kw->Es,cLine->Ga,wpAny_truthy_bool->GX,codeAny_builtin->HB,rawInt->HV,bootBuiltins->Iw,Heap->IE,sysModules->Jo,wpAny_call_entry->J7,eval->Ka,backTo->Kc,Around->Ke,isSubtype_type->Kk,compareOp->Ks,cellsFrom->Ky,SetTable->K6,NameKind->K7,Scope->Lc,wpAny_forIn_list->Lh,scanBound->Ln,ofAClassStatement->Lo,foldedSetIterable->Lr,Stmt->Ls,isSubtype->LS,wpAny_typeOf->Mb,codeAny_mono->Mc,wpAny_passesOwn->Mp,wpAny_execs_nil->Mq,call->Nk,binaryOp->Nv,wpAny_specialOf->NA,Keyword->NB,Builtin->NO,wpAny_rule->N2,assignEach->N9,wpAny_getItem_str_slice->Oa,wpAny_callSpecial?_slot->Ob,wpAny_setField->Oh,wpAny_seqItems->Oo,wpAny_loadPart_at->Oq,tupleKeyHash->Ot,holding->Ou,codeAny->Ov,FuncData->OF,wpAny_isInstance->OY,typeIs_str->OZ,sliceBounds->O9,keywordEach->Pd,codeAny_call_builtin->Pe,pyNext->PQ,call_isinstance->PR,swapsWith->Qg,pushCells->QB,call_meets->QG,wpAny_storeSet_of->QU,wpAny_pyIter_list->QV,wpAny_field->Q1,notedBy->Q2,fits_of_scanBound->Q3,swapsWithSole->Rr,plainId_quiet->Rx,attributeBase->Ry,assign->Rz,relabel->Sk,getItem->Sl,callerA->Sm,builtinsNs->So,wpAny_updateSeq->SS,post_val_or_str->Td,letOwnedTupleGo->Te,isSubtype_tuple_tuple->To,builtinLookup_eq_fast->Tq,wpAny_runValue->T5,pyIter->Ua,backToKw->Ub,Params->Uh,IsPart->Ui,atKey->Uy,wpAny_tupleItemsOf->UC,wpAny_call->UD,typeLookup->UE,tupleKind_room_in1->UG,IsTupleKey->UH,wpAny_sequenceKey->UN,setNext->UO,setField->UP,setAddHashed->UQ,searchCouldBeSeen->UR,concat_meets->UT,compEnvC->UU,wpAny_execs_cons->U5,wpAny_askSetting->U6,typeOf->U7,tupleKind->U8,pickOrder->U9,noFill_tuple_add->U_,checkBuiltinCall->U',PassesOwn->Vc,typeLookup_type->Vk,pushCells_keeps->Vl,codeAny_of_tree->Vm,valueAt->Vs,BindsTo->Vu,wpAny_newFunctionEnv_cells->Vy,relayAll->Vz,recursionLimit->VA,newFunctionEnv->VB,isInstance->VC,bindL->VD,bindC->VE,GenState->VH,codeAny_handlers_suite_as->VN,wpAny_standAt->VW,wpAny_comprehension_free->VX,swappedStores->VY,step->VZ,seq_tuple_add->V0,evalPart_none->V1,behindInMarks->V2,strValues->Wa,eqIsQuiet->Wb,wpAny_Call_method_late->Wj,standAt->Wk,setNextDrawn->Wl,setItem->Wm,collect->Wn,PyData->Wt,weight_type_call_type->WE,codeAny_handlers_test->WG,codeAny_call_function->WH,wpAny_of_eq->WU,unsupported->WV,seqIndex_of->WW,raiseNew->WX,hashByValue->WY,wpAny_setEntries_of->W',wpAny_handleBy_cons->Xa,wpAny_setItem_heap->Xg,wpAny_pyIter_tuple->Xh,wpAny_load->Xi,wpAny_Name->Xj,wpAny_List_spliced->Xk,rule->Xl,JoinOk->Xo,wpAny_pyIter_slot->Xv,wpAny_assign_Name->Xw,wpAny_Assign_Name->Xx,spliced->Xy,slot_list_getitem->Xz,newList->XA,eqIsQuiet_byValue->XB,wpAny_Try_except->XI,wpAny_Dict_empty->XJ,storeName->XM,lastMarks->XN,check_set_init_1->XO,wpAny_Expr_any->X6,truthy->X7,setAddHashedIn->X8,setAdd->X9,numbered_texts->X_,newExc->X',firstArgMember->Ya,entryFor_alias->Yb,entryFor->Yc,carriedByValue->Yd,bindArgs->Ye,argsOk->Yf,again->Yg,WalksS->Yh,Result->Yl
open Bool renaming true->b7,and_eq_true->b8,false->cb,false_eq_true->mn,false_ne_true->oa,eq_iff_iff->pj,not_eq_true'->vl,not_true->Hd,and_eq_true_iff->Ij,or_eq_true->Jb,and_false->LB,or_eq_false_iff->M6,and_true->Nj,true_and->OK,not_false->PN,and_self->Vi,not_eq_false'->Wh,eq_false_iff->WD,false_and->Xf,or_false->Xu
open Decidable renaming decide->c4
open PySem.Heap renaming get?_push_of_some->dV,get?_push_size->hY,lt_size->lg,get?_update_self->F6,SameBut->H8,get?_update_other->NJ,get?_update_ne->O1,size_push->R'
open List renaming length_map->eh,range->ei,mem_cons_of_mem->ek,mem_cons->fz,length_append->gc,mem_cons_self->gw,getElem?_eq_some_iff->hQ,size_toArray->js,length_cons->lx,map_cons->l3,mem_append->l',mem_map->mh,getElem?_set_ne->mu,length_singleton->mN,getElem?_set_self->nc,getElem?_map->nt,replicate->pb,all_eq_true->ri,mem_singleton->rr,map_map->sx,mem_append_right->ti,length_take->tj,lookup_cons->tA,mem_range->ux,getElem?_append_right->va,getElem?_append_left->ve,map_append->w4,append_nil->w6,getElem?_eq_getElem->z8,filterMap_cons_some->C0,nil_append->FG,nodup_append->GR,mem_of_getElem?->Hb,nodup_cons->Hc,filterMap_cons->HJ,getElem?_replicate->Ii,foldl_cons->IL,mem_filterMap->JC,length_drop->JF,filterMap_cons_none->JS,mem_append_left->JZ,take_of_length_le->KS,length->KX,getElem_mem->KY,getElem?_drop->La,mem_iff_getElem->Lj,length_range->Lk,isEmpty_iff->Lu,any_eq_true->Lw,find?_cons->L8,length_replicate->Ma,mem_of_mem_take->M3,mem_filter->Nl,length_nil->Nm,zip_cons_cons->Nq,pairwise_cons->Nt,range_succ_eq_map->NT,mem_of_mem_drop->OV,eq_nil_of_length_eq_zero->OX,map_congr_left->O2,getElem_of_mem->O5,map_nil->O8,getD_eq_getElem?_getD->PM,drop_eq_getElem_cons->Qd,reverse_cons->Qf,getElem?_take_of_lt->QF,getElem?_cons_succ->QP,filter_eq_nil_iff->Q5,all_map->Q_,of_mem_zip->RE,take_append_drop->RS,getElem?_eq_none->R0,nodup_nil->Sd,length_reverse->Tg,getElem?_range->Tn,any_cons->Tt,all_cons->Tx,take_sublist->Up,perm_middle->UA,not_mem_nil->UB,drop_left'->UM,perm_append_singleton->U4,pairwise_iff_getElem->Vd,length_erase_of_mem->Vh,length_eq_zero_iff->Vq,length_pos_of_mem->Vx,cons_lt_cons_iff->VL,pairwise_append->VU,mem_erase_of_ne->VV,filterMap_map->Wg,take_add_one->Wz,foldl_append->WA,ext_getElem?->WB,append_assoc->WC,nodup_range->WO,filter_cons->WQ,ext_getElem->WR,drop_length->WS,cons_append->WT,length_set->W7,filter_map->W8,all_append->W9,map->Xe,set_comm->Xq,map_take->Xr,map_drop->Xs,findIdx?->Xt,set_set->XG,map_id->XW
open Nat renaming le_refl->ke,lt_of_lt_of_le->my,ne_of_lt->nC,zero_le->uv,le_trans->Hm,lt_irrefl->H4,le_of_lt->JY,ne_of_gt->KW,le_of_lt_succ->Mk,lt_succ_self->OJ,zero_add->Pn,mod_lt->P7,lt_succ_of_lt->QC,le_succ->QD,lt_trans->RC,le_of_eq->Uw,add_sub_cancel_left->Vw,succ_pos->VJ,add_right_comm->Wy,lt_trichotomy->WN,not_lt_of_lt->W5,le_add_right->W6,log2_lt->X4
open Array renaming length_toList->k9,getElem?_eq_some_iff->pa,getElem?_eq_getElem->E_,getD_eq_getD_getElem?->Gw,getElem?_toList->Jp,forIn_toList->LR,replicate->Ra,toList_append->Sr,size_append->Ul,toList_inj->Ux,toList->Vr,append_assoc->V',toList_push->Wi
open PySem.Txt renaming partition->oT,split->LC,join->Us,endswith->XQ
open PySem.SetTable renaming below->ro,insertAt->Jv,grown->Nn,turns->Ph,layClean->R3,sizeAbove->R4,tooFull->TN,relaid->Um,Probe->Uz,runEnd->Va,bits->Vb,orStandIn->Vt,laid->VG,leap->V5,fits->Wr
open PyProof.Rows renaming slot_tuple_getitem->tx,callWith_builtin1->Li,callWith_type1->LF,size_push'->Na,seqObj->N_,StrsAre->O7,envOfC->P5,AllBare->Q4,slicePart_none->Uj,entry_tuple_getitem->Uv,args_tuple_getitem->UJ,tupleItemsOf_->V8,subscriptTail->V9,IsTup->Wd,subscriptTail_builtinR->Ww,IntsAre->Wx,Subscript_->Xp,wpAny_notIn_heap->XT,slot_str_getitem->XU,call_isinstance_yes->X3,tail_any->Yo,isTrue_and_nil->Yp
open PySem.Value renaming ref->uk,none->Fq,str->FI,type->G2,isStrOf->L7,builtin->Og,bool->Pf,int->Wq,isInt->XD
open Option.some renaming inj->wk,injEq->Vg
open PySem.Builtin.Str renaming occurrences->y0,partsBetween->MZ,strKind->U1
open PyProof.Rows.F renaming plain_set_update_loop->zy,entry_set_update_loop->JB
open PySem.Builtin.Tuple renaming tupleExact->EY,tupleHashOf->Iy,tupleItemsOf->LG
open Int renaming toNat_of_nonneg->F_,emod_nonneg->Je,emod_lt_of_pos->JH,toNat_natCast->N',eq_ofNat_of_zero_le->QT,zero_add->RF,natCast_add->U0,ediv_one->XZ
open PySem.Obj renaming mapSeq->Gj,putSet->Kl,data_mapFields->P4,isFreed_of_fields->VP,cls_mapFields->WK,mapFields->XE
open PySem.Builtin.Slice renaming slicePlaces->GV,sliceApplied->Od,sliceAdjust->OG,sliceFields->TV,slicePartIndex->XR
open Ne renaming symm->HX
open PySem.Str renaming empty->JG,length->Ow,ofString->RA
open PySem.Heap.SameBut renaming update->JJ,refl->RQ
open PySem.Around renaming under_plainId->JP,frames_deeper->Vv,under_plain->VR
open Sum renaming inr->JT,inl->Ur
open False renaming elim->Kf
open PySem.NameKind renaming free->Km,cell->Kr
open Classical renaming byContradiction->K8,choose->VM
open PySem.Builtin.List renaming listTooLong->K_,listExtendWith->LD,listSameRef->Uo,listLengthHint->X2
open PySem.Calls renaming evalArgs_plain->MY,spliced_cons->Pm,spliced_nil->P8,callWith_builtin->QS,Name_function_global->UX
open LT renaming lt->M0
open PySem.AutoSeq1 renaming wpAny_loadPart'->M7,sub_tuple_tuple->UL,sub_tuple_list->UY,sub_list_tuple->UZ,sub_list_list->U2,idx_int->VQ
open ForInStep renaming yield->M8
open PySem.Shared renaming TypeIs->M'
open PySem.PyData renaming keyHash->Nu,leavesShort->O6,showable->QR,depth->TU,bulk->Ut,shown_fits_bulk->Ve,leavesShortAll->Vo,showableAll->VO,hasDictAll->V7,depthAll->Ws,hasDict->WI,bulkAll->WJ
open PySem.SetTable.below renaming go->Pk
open PySem.SetTable.layClean renaming free->Px
open PySem.Code renaming quiet_builtin->Py
open PySem.SetTable.probe renaming go->QH
open Prod renaming ext->QN,fst->U3
open PySem.SeqAt renaming EqAt->QQ,ne_of_list_tuple->Vn,RcAt->V6,RcNeAt->Xn
open PySem.Builtin.Frozenset renaming updateFrom->RB,slot0->W0,sizeOf->W2,newClass->W3,addrOf->W4
open PySem.F renaming typeOf_object_class->Sq,args_str_split_2->Uu,entry_str_split->UI,slot_str_split->UW,slot_gs_get->VI,excBase_ValueError->Wu,args_list_extend_2->Wv,entry_list_extend->WL,slot_list_extend->WZ,attr_ValueError->Xb
open True renaming intro->TJ
open List.cons renaming injEq->Uk
open LawfulBEq renaming eq_of_beq->Uq
open PySem.Heap.IsSliceOf renaming new->UK
open PySem.pickOrder renaming go->US
open PyProof.Rows.IsTup renaming new->Vf
open Sum.inr renaming inj->Vj
open PySem.Flow renaming next->Vp
open PySem.W.Looks renaming ld->VF
open PySem.Walks renaming list->V3
open PySem.StrLaws renaming strSub_toList->V4
open List.Perm renaming swap->V_
open PySem.W renaming Looks->Wc,looks_findIn->Wo,Frag->Xm,subIn->Yi,nsIn->Yj,findIn->Yk
open Prod.mk renaming injEq->WM
open LE renaming le->W_
open PyProof.Rows.LSm renaming range_all->Xc,kept_iter->Xd
open PySem.W.WShape renaming has->XC
open PySem.Moved renaming trans->XF
open ForIn renaming forIn->XH
open PySem.Builtin.Range renaming rangeSize->XS
open List.Pairwise renaming sublist->XX,nil->XY
open PySem.W.WData renaming int->X0
open PySem.Heap.DictOfH renaming new->X1
open ToString renaming toString->X5
open PySem.Heap.DictOf renaming new->Ym
open PySem.Data renaming cell->Yn
abbrev Yq:=@decide_eq_true_eq
abbrev Yr:=@if_pos
abbrev Ys:=@decide_eq_false
abbrev Yt:=@if_neg
abbrev Yu:=@decide_eq_true
abbrev Yv:=@of_decide_eq_true
abbrev Yw:=@decide_eq_false_iff_not
abbrev Yx:=@if_false
abbrev Yy:=@congrArg
abbrev Yz:=@beq_eq_false_iff_ne
abbrev YA:=@if_true
local macro_rules|`(def $a:declId $b* : $t :=$v)=>`(theorem $a:declId $b* : $t :=$v)
local macro_rules|`(abbrev $a:declId $b:optDeclSig $c:declVal)=>`(noncomputable def $a:declId $b:optDeclSig $c:declVal)
local macro_rules|`(tactic|show $t)=>`(tactic|refine $t)
local macro_rules|`(tactic|have⟨$a,*⟩:=$t)=>do let p<-a.getElems.mapM fun x=>`(Lean.Parser.Tactic.rcasesPatLo|$(⟨x⟩):ident);`(tactic|obtain⟨$p,*⟩:=$t)
local macro_rules|`(⋯)=>`(by lia)
namespace L2
open PySem PySem.Spec PyProof.Rows
@[reducible]noncomputable def Key:=Sum Int Str
abbrev lb:Key->d6->Bool
 |.inl k,v=>XD k v
 |.inr x,v=>L7 x v
abbrev D3(w:DD):Key->Int
 |.inl k=>hashInt k
 |.inr x=>hashStr w x
theorem bg:∀{k:Key}{v:d6},lb k v=b7->(∃i t,k=Ur i/\v=Wq i t)\/(∃x t,k=JT x/\v=FI x t)
 |.inl i,v,h=>by
  have⟨t,e⟩:=Value.isInt_shape (k:=i) (v:=v) h;show .inl ⟨i,t,rfl,e⟩
 |.inr x,v,h=>by
  have⟨t,e⟩:=Value.isStrOf_shape (x:=x) (v:=v) h;show .inr ⟨x,t,rfl,e⟩
def sO(i:Int)(t:Tok):lb (.inl i) (.int i t)=b7:=by simp[lb,XD]
def sQ(x:Str)(t:Tok):lb (.inr x) (.str x t)=b7:=by simp[lb,L7]
def Ae(a b:Int):c4 ((Ur a:Key)=Ur b)=(a==b):=by
 by_cases e:a=b
 .subst e;simp
 .have h:¬(Ur a:Key)=Ur b:=λq=>e (Sum.inl.inj q);rw[Ys h];show(Yz.mpr e).symm
def Af(a b:Str):c4 ((JT a:Key)=JT b)=c4 (a=b):=by
 by_cases e:a=b
 .subst e;simp
 .have h:¬(JT a:Key)=JT b:=λq=>e (Vj q);rw[Ys h,Ys e]
def Ag(a:Int)(b:Str):c4 ((Ur a:Key)=JT b)=cb:=Ys (λq=>nomatch q)
def Ah(a:Str)(b:Int):c4 ((JT a:Key)=Ur b)=cb:=Ys (λq=>nomatch q)
abbrev bE(prog:vu)(w:DD):PySem.KeyKind prog w Key where
 is:=lb
 hash:=D3 w
 inj:=λv a b g f=>by
  rcases bg g with⟨i,t,rfl,rfl⟩|⟨x,t,rfl,rfl⟩
  .rcases bg f with⟨j,u,rfl,e⟩|⟨y,u,rfl,e⟩
   .injection e with c _;rw[c]
   .show nomatch e
  .rcases bg f with⟨j,u,rfl,e⟩|⟨y,u,rfl,e⟩
   .show nomatch e
   .injection e with c _;rw[c]
 byValue:=λk v h=>by
  rcases bg h with⟨i,t,rfl,rfl⟩|⟨x,t,rfl,rfl⟩<;>rfl
 pyHash:=λd h=>by
  rcases bg d with⟨i,t,rfl,rfl⟩|⟨x,t,rfl,rfl⟩
  .show wpAny_pyHash_int h
  .show wpAny_pyHash_str h
 eqBool:=λl d h=>by
  rcases bg l with⟨i,t,rfl,rfl⟩|⟨x,t,rfl,rfl⟩
  .rcases bg d with⟨j,u,rfl,rfl⟩|⟨y,u,rfl,rfl⟩
   .rw[Ae]at h;show wpAny_eqBool_int h
   .rw[Ag]at h;show SeqAt.EqAt.int_str i t y u _ _ _ _ h
  .rcases bg d with⟨j,u,rfl,rfl⟩|⟨y,u,rfl,rfl⟩
   .rw[Ah]at h;show SeqAt.EqAt.str_int x t j u _ _ _ _ h
   .rw[Af]at h;show wpAny_eqBool_str h
 «strs»:=λk x t v h=>by
  rcases bg h with⟨i,u,rfl,e⟩|⟨y,u,rfl,e⟩
  .show nomatch e
  .injection e with c _
   subst c;cases v<;>rfl
def nQ(prog:vu)(w:DD)(i:Int)(t:Tok):(bE prog w).is (.inl i) (.int i t)=b7:=sO i t
def nR(prog:vu)(w:DD)(x:Str)(t:Tok):(bE prog w).is (.inr x) (.str x t)=b7:=sQ x t
inductive V where
 |EU|bl (b:Bool)|int (i:Int)|str (x:Str)|Mg (b:Array UInt8)|Mh (b:UInt64)|ref (a:gs)|ty (n:String)
 deriving DecidableEq
def RelV:V->d6->Prop
 |.EU,u=>u=Fq
 |.bl b,u=>u=Pf b
 |.int i,u=>∃t,u=Wq i t
 |.str x,u=>∃t,u=FI x t
 |.Mg b,u=>∃t,u=Value.bytes b t
 |.Mh b,u=>∃t,u=Value.float b t
 |.ref a,u=>u=uk a
 |.ty n,u=>u=G2 n
@[reducible]noncomputable def Vals:List V->List d6->Prop:=Paired RelV
def Vals.length(r:Vals xs us):xs.length=us.length:=Paired.length r
theorem Vals.get:∀{xs:List V}{us:List d6}{i:Nat}{x:V},Vals xs us->xs[i]?=a5 x->∃u,us[i]?=a5 u/\RelV x u
 |_,_,_,_,.nil,e=>by simp at e
 |_,_,0,_,.cons r _,e=>by simp at e;subst e;show⟨_,rfl,r⟩
 |_,_,i+1,x,.cons _ t,e=>by
  have⟨u,a,b⟩:=Vals.get (i:=i) (x:=x) t (by simpa using e);show⟨u,by simpa using a,b⟩
theorem Vals.set(r:RelV x u):∀{xs:List V}{us:List d6} (i:Nat),Vals xs us->Vals (xs.set i x) (us.set i u)
 |_,_,_,.nil=>.nil
 |_,_,0,.cons _ t=>.cons r t
 |_,_,i+1,.cons q t=>.cons q (Vals.set r i t)
theorem Vals.append:∀{xs a:List V}{us ws:List d6},Vals xs us->Vals a ws->Vals (xs++a) (us++ws)
 |_,_,_,_,.nil,s=>s
 |_,_,_,_,.cons r t,s=>.cons r (Vals.append t s)
theorem Vals.take:∀{xs:List V}{us:List d6} (n:Nat),Vals xs us->Vals (xs.take n) (us.take n)
 |_,_,0,_=>.nil
 |_,_,_+1,.nil=>.nil
 |_,_,n+1,.cons r t=>.cons r (Vals.take n t)
theorem Vals.drop:∀{xs:List V}{us:List d6} (n:Nat),Vals xs us->Vals (xs.drop n) (us.drop n)
 |_,_,0,r=>r
 |_,_,_+1,.nil=>.nil
 |_,_,n+1,.cons _ t=>Vals.drop n t
def sR:Option V->Option d6->Prop
 |some v,a5 u=>RelV v u
 |none,b6=>True
 |_,_=>False
abbrev KV{κ:Type}:List (κ×V)->List (κ×d6)->Prop:=Paired λ(p:κ×V) (q:κ×d6)=>p.1=q.1/\RelV p.2 q.2
abbrev kV:Key->V
 |.inl i=>.int i
 |.inr x=>.str x
inductive HO where
 |lst (xs:List V)
 |tup (xs:List V)
 |dK (EK:List (Key×V))|dT (EK:List (List Key×V))
 |set (S:Int->Bool) (n:Nat)
 |ins (C dx:gs) (fs:List (Str×V))
 |own (x:gs)
 |xd (fs:List (Str×V))
 |met (f x:gs)
 |Mi (lo hi:Int)
 |F9 (o:Obj) (u:HO)
 |Jc (ps:Array d6)
 |ext (φ:IE->Prop)
@[reducible]noncomputable def Hp:=gs->Option HO
abbrev upd(H:Hp)(a:gs)(o:HO):Hp:=λb=>if b=a then a5 o else H b
def aH:upd H a o a=a5 o:=by unfold upd;rw[Yr rfl]
def aw(h:b≠a):upd H a o b=H b:=by unfold upd;rw[Yt h]
def uu{H:Hp}(h:H a=a5 o)(h':H b=a5 u)(d:o≠u):a≠b:=by
 intro e;subst e;rw[h]at h';show d (wk h')
def aS{H:Hp}(h:H a=a5 o)(h':H b=b6):a≠b:=by
 intro e;subst e;rw[h]at h';cases h'
section
variable(P:vu)(w:DD)
def bF(H:Hp)(h:IE)(a:gs):HO->Prop
 |.lst xs=>xs.length<=df/\∃(c:List d6) (n:Nat),Vals xs c/\h.get? a=a5 {cls:=.type "list",data:=.seq c.toArray n}
 |.tup xs=>xs.length<=df/\∃c:List d6,Vals xs c/\Wd h a c.toArray
 |.dK d=>d.length<=df/\(a==Jo)=cb/\∃vs,KV d vs/\h.DictOf (bE P w) a vs
 |.dT d=>d.length<=df/\(a==Jo)=cb/\∃xs:List (List Key×gs×d6),
   Paired (λ(p:List Key×V) (q:List Key×gs×d6)=>p.1=q.1/\H q.2.1=a5 (.tup (p.1.map kV))/\RelV p.2 q.2.2) d xs /\
   ∃o es ep,h.get? a=a5 o/\o.ExactDict/\o.data=.dict es ep/\es.toList=xs.map (entryOfKey (U8 (bE P w)))/\(xs.map (·.1)).Nodup
 |.set S n=>h.SetOf (intKind P w) a S n
 |.ins C g e=>H g=a5 (.own a)/\e.length<=1000/\g≠a/\h.get? a=a5 (PySem.W.instObj C g) /\
   ∃b,h.Ns1 g b/\(∀f,sR (e.lookup f) (b f))/\PySem.Within b (e.map (·.1))
 |.own _=>∃o,h.get? a=a5 o
 |.xd e=>∃b,h.Ns1 a b/\∀f,sR (e.lookup f) (b f)
 |.Mi lo k=>∃t u v,h.get? a=a5 {cls:=.type "range",data:=.fields #[.int lo t,.int k u,.int 1 v]}
 |.F9 o u=>h.get? a=a5 o/\bF H h a u
 |.Jc l=>h.get? a=a5 {cls:=.none,data:=.fields l}
 |.met f x=>h.get? a=a5 (PySem.W.methodObj (.ref f) (.ref x))
 |.ext φ=>φ h/\(∃o,h.get? a=a5 o)/\∀i j:IE,φ i->(∀o,i.get? a=a5 o->j.get? a=a5 o)->φ j
abbrev FA(H:Hp)(h:IE):Prop:=∀a o,H a=a5 o->bF P w H h a o
end
section
def bF.lt(x:bF P w H h a o):a<h.objs.size:=by
 cases o with
 |lst xs=>obtain⟨_,_,_,_,e⟩:=x;show lg e
 |tup xs=>obtain⟨_,_,_,p⟩:=x;show p.lt
 |set S n=>obtain⟨o,_,_,_,e,_⟩:=x;show lg e
 |ins C c b=>obtain⟨_,_,_,e,_⟩:=x;show lg e
 |own y=>obtain⟨_,e⟩:=x;show lg e
 |xd b=>obtain⟨_,⟨_,_,_,e,_⟩,_⟩:=x;show lg e
 |Mi lo d=>obtain⟨_,_,_,e⟩:=x;show lg e
 |F9 g u=>obtain⟨e,_⟩:=x;show lg e
 |Jc i=>show lg (show h.get? a=a5 _ from x)
 |met f y=>show lg (show h.get? a=a5 _ from x)
 |ext φ=>obtain⟨_,⟨_,e⟩,_⟩:=x;show lg e
 |_=>obtain⟨_,_,_,_,o,_,_,e,_⟩:=x;show lg e
theorem Paired.Ai:∀{c:List α}{d:List β},Paired F c d->(∀a b,F a b->G a b)->Paired G c d
 |_,_,.nil,_=>.nil
 |_,_,.cons r t,f=>.cons (f _ _ r) (Paired.Ai t f)
def bF.l5(x:bF P w H h a o)(k:∀b u,(b=a\/H b=a5 (.own a))->h.get? b=a5 u->h'.get? b=a5 u)
  (ho:∀b,H b=a5 (.own a)->H' b=a5 (.own a)) (s:∀b xs,H b=a5 (.tup xs)->H' b=a5 (.tup xs)):bF P w H' h' a o:=by
 induction o with
 |lst xs=>have⟨z,i,n,r,e⟩:=x;show⟨z,i,n,r,k _ _ (.inl rfl) e⟩
 |tup xs=>have⟨z,i,r,g,e,c⟩:=x;show⟨z,i,r,g,k _ _ (.inl rfl) e,c⟩
 |dK A=>have⟨z,y,vs,r,g,es,ep,e,c⟩:=x;show⟨z,y,vs,r,g,es,ep,k _ _ (.inl rfl) e,c⟩
 |dT A =>
  have⟨z,y,xs,r,g,es,ep,e,c⟩:=x;show⟨z,y,xs,Paired.Ai r λp q z=>⟨z.1,s _ _ z.2.1,z.2.2⟩,g,es,ep,k _ _ (.inl rfl) e,c⟩
 |set S n=>have⟨g,es,ep,t,e,c⟩:=x;show⟨g,es,ep,t,k _ _ (.inl rfl) e,c⟩
 |ins C I B =>
  obtain⟨d,z,ne,e,j,⟨l,es,ep,D,c⟩,r⟩:=x;show⟨ho _ d,z,ne,k _ _ (.inl rfl) e,j,⟨l,es,ep,k _ _ (.inr d) D,c⟩,r⟩
 |own y=>have⟨g,e⟩:=x;show⟨g,k _ _ (.inl rfl) e⟩
 |xd B=>obtain⟨j,⟨l,es,ep,e,c⟩,r⟩:=x;show⟨j,⟨l,es,ep,k _ _ (.inl rfl) e,c⟩,r⟩
 |Mi lo J=>have⟨t,u,v,e⟩:=x;show⟨t,u,v,k _ _ (.inl rfl) e⟩
 |F9 g u G=>have⟨e,q⟩:=x;show⟨k _ _ (.inl rfl) e,G q⟩
 |Jc m =>
  have e:h.get? a=a5 {cls:=.none,data:=.fields m}:=x;change h'.get? a=a5 {cls:=.none,data:=.fields m};show k a _ (.inl rfl) e
 |met f y =>
  have e:h.get? a=a5 (PySem.W.methodObj (.ref f) (.ref y)):=x;change h'.get? a=a5 (PySem.W.methodObj (.ref f) (.ref y));show k a _ (.inl rfl) e
 |ext φ=>obtain⟨p,⟨o,e⟩,st⟩:=x;show⟨st _ _ p λo q=>k _ _ (.inl rfl) q,⟨o,k _ _ (.inl rfl) e⟩,st⟩
def FA.lt(x:FA P w H h)(e:H a=a5 o):a<h.objs.size:=(x a o e).lt
def FA.fresh(x:FA P w H h)(e:h.objs.size<=a):H a=b6:=by
 cases q:H a with
 |none=>rfl
 |some u=>show absurd (my (x.lt q) e) (H4 _)
def FA.kept(x:FA P w H h)(k:∀b u,h.get? b=a5 u->h'.get? b=a5 u):FA P w H h':=λa o e =>
 (x a o e).l5 (λb u _ q=>k b u q) (λ_ q=>q) λ_ _ q=>q
def FA.laid(x:FA P w H h)(k:∀b u,h.get? b=a5 u->h'.get? b=a5 u)(g:h.objs.size<=a)(new:bF P w (upd H a o) h' a o):FA P w (upd H a o) h':=λb u e=>by
 have d:=x.fresh g;by_cases f:b=a
 .subst f;rw[aH]at e;cases e;show new
 .rw[aw f]at e;show(x b u e).l5 (λc v _ q=>k c v q) (λc q=>by rw[aw (aS q d)];show q) λc xs q=>by rw[aw (aS q d)];show q
end
abbrev Rd(H:Hp)(a:gs)(u:HO):Prop:=H a=a5 u\/∃o,H a=a5 (.F9 o u)
def Rd.ok(r:Rd H a u)(x:FA P w H h):bF P w H h a u:=by
 rcases r with r|⟨o,r⟩
 .show x a u r
 .obtain⟨_,q⟩:=x a _ r;show q
def KU:Option HO->Prop
 |some (.lst _)=>True
 |some (.dK _)=>True
 |some (.dT _)=>True
 |some (.set _ _)=>True
 |some (.ins _ _ _)=>True
 |some (.ext _)=>True
 |_=>False
section
def FA.write(ok:FA P w H h)(a:KU (H x))(g:e=x\/H e=a5 (.own x))(k:∀b u,b≠e->h.get? b=a5 u->h'.get? b=a5 u)(m:∃u,h'.get? e=a5 u)
  (new:bF P w (upd H x i) h' x i):FA P w (upd H x i) h':=λb u q=>by
 have j:∀c y,H c=a5 (.own y)->c≠x:=λc y r z=>by subst z;rw[r]at a;show a
 have n:∀c xs,H c=a5 (.tup xs)->c≠x:=λc xs r z=>by subst z;rw[r]at a;show a
 by_cases d:b=x
 .subst d;rw[aH]at q;cases q;show new
 .rw[aw d]at q;by_cases f:b=e
  .have l:H b=a5 (.own x):=by
    rcases g with z|z
    .show absurd (f.trans z) d
    .rw[f];show z
   rw[q]at l;cases l;have⟨v,o⟩:=m;show⟨v,by rw[f];show o⟩
  .show(ok b u q).l5 (λc v hc r=>k c v ?_ r) (λc r=>by rw[aw (j c b r)];show r) λc xs r=>by rw[aw (n c xs r)];show r
   rcases hc with rfl|hc
   .show f
   .rintro rfl;rcases g with z|z
    .show j c b hc z
    .rw[hc]at z;cases z;show d rfl
end
structure Un(fs ex:List gs)(H H':Hp)(h h':IE):Prop where
 keep:∀b o,h.get? b=a5 o->H b=b6->b∉fs->b∉ex->h'.get? b=a5 o
 slot:∀b o,h.get? b=a5 o->H b=b6->b∈fs->b∉ex->∃sl,h'.get? b=a5 {o with slots:=sl}
 free:∀b o,h.get? b=a5 o->H b=b6->b∉ex->H' b=b6
 there:∀b o,h.get? b=a5 o->b∉ex->∃o',h'.get? b=a5 o'
 FD:∀b xs,H b=a5 (.tup xs)->H' b=a5 (.tup xs)
 Fy:∀b o u,H b=a5 (.F9 o u)->H' b=a5 (.F9 o u)
 FE:∀b ps,H b=a5 (.Jc ps)->∃more,H' b=a5 (.Jc (ps++more))
section
def Un.any(u:Un e ex H i h f)(q:h.get? b=a5 a)(n:H b=b6)(c:b∉ex):∃g,f.get? b=a5 {a with slots:=g}:=by
 by_cases d:b∈e
 .show u.slot b a q n d c
 .show⟨a.slots,u.keep b a q n d c⟩
def Un.kept(k:∀b u,h.get? b=a5 u->h'.get? b=a5 u):Un c ex H H h h' :=
 ⟨λb a q _ _ _=>k b a q,λb a q _ _ _=>⟨a.slots,k b a q⟩,λ_ _ _ n _=>n,λb a q _=>⟨a,k b a q⟩,λ_ _ q=>q,λ_ _ _ q=>q,λ_ d q=>⟨#[],by rw[q];simp⟩⟩
def Un.refl:Un a ex H H h h:=Un.kept λ_ _ q=>q
def Un.laid(k:∀b u,h.get? b=a5 u->h'.get? b=a5 u)(d:h.objs.size<=a)(c:H a=b6):Un e ex H (upd H a o) h h' where
 keep:=λb u q _ _ _=>k b u q
 slot:=λb u q _ _ _=>⟨u.slots,k b u q⟩
 free:=λb u q n _=>by rw[aw (nC (my (lg q) d))];show n
 there:=λb u q _=>⟨u,k b u q⟩
 FD:=λb xs q=>by rw[aw (aS q c)];show q
 Fy:=λb u xs q=>by rw[aw (aS q c)];show q
 FE:=λb f q=>⟨#[],by rw[aw (aS q c),q];simp⟩
def Un.write(a:KU (H x))(i:e=x\/H e=a5 (.own x))(k:∀b u,b≠e->h.get? b=a5 u->h'.get? b=a5 u)(j:∃u,h'.get? e=a5 u):Un l ex H (upd H x o) h h':=by
 have d:∀b,H b=b6->b≠x:=λb n z=>by subst z;rw[n]at a;show a
 have f:∀b,H b=b6->b≠e:=λb n z=>by
  subst z;rcases i with r|r
  .show d b n r
  .rw[n]at r;cases r
 have c:∀b u,H b=a5 u->¬KU (a5 u)->b≠x:=λb u q nm z=>by subst z;rw[q]at a;show nm a
 show⟨λb u q n _ _=>k b u (f b n) q,λb u q n _ _=>⟨u.slots,k b u (f b n) q⟩,λb u q n _=>by rw[aw (d b n)];show n,λb u q _=>?_,
  λb xs q=>by rw[aw (c b _ q λz=>z)];show q,λb u xs q=>by rw[aw (c b _ q λz=>z)];show q,λb m q=>⟨#[],by rw[aw (c b _ q λz=>z),q];simp⟩⟩
 by_cases g:b=e
 .subst g;show j
 .show⟨u,k b u g q⟩
end
abbrev GY(h:IE)(H:Hp):List gs:=(ei h.objs.size).filter λa=>(H a).isSome
abbrev l6(h:IE)(H:Hp):IE:=PySem.W.hideAll h (GY h H)
def sT(h:IE)(H:Hp):(l6 h H).objs.size=h.objs.size:=PySem.W.hideAll_size _ _
def uw(e:h.get? b=a5 o)(n:H b=b6):(l6 h H).get? b=a5 o :=
 PySem.W.hideAll_get _ e λa=>by
  have q:(H b).isSome=b7:=(Nl.mp a).2;rw[n]at q;simp at q
def xH(e:(l6 h H).get? b=a5 o):h.get? b=a5 o/\H b=b6:=by
 have a:h.get? b=a5 o:=PySem.W.of_hideAll (GY h H) e;show⟨a,?_⟩;cases q:H b with
 |none=>rfl
 |some x =>
  have c:b∈GY h H:=Nl.mpr ⟨ux.mpr (lg a),by simp[q]⟩;have z:(l6 h H).get? b=b6:=PySem.W.hideAll_none (GY h H) c;rw[z]at e;cases e
structure Mod(K:PySem.W.Frag)(mg:Str->Option d6)(base:IE):Prop where
 IA:K.In base
 glob:base.Ns mA mg
 blt:∃mb,base.Ns So mb/\∀x:Str,x≠"__name__"->mb x=Iw x
 nolimit:base.NoLimit
structure Cx where
 prog:vu
 w:DD
 K:PySem.W.Frag
 mg:Str->Option d6
 base:IE
 A:Ke
 N:List Str
 s₀:fx
 H₀:Hp
 env:Env
 outer:List Env
 stack:List Env
 ex:List gs
 fn:Str->Bool
 calm:Bool
 pn:List (gs×Obj)
 xe:d6->fx->Prop
abbrev Ff(l:List Env):List gs:=l.filterMap (·.frame)
noncomputable abbrev Cx.fs(X:Cx):List gs:=Ff X.outer
abbrev Ih(a:Lc)(x:Str):Prop:=a.names.lookup x=a5 .local\/a.names.lookup x=a5 .cell\/a.names.lookup x=a5 .free
abbrev Loc(a:Lc)(x:Str):Prop:=a.names.lookup x=a5 .local\/a.names.lookup x=a5 .cell
abbrev Look(env:Env)(h:IE)(m:Str->Option d6)(x:Str)(u:d6):Prop :=
 (env.kindOf x=a5 .local/\m x=a5 u)\/((env.kindOf x=a5 .cell\/env.kindOf x=a5 .free)/\∃c,env.cells.lookup x=a5 c/\h.IsCell c (a5 u))
structure Cx.Ok(X:Cx):Prop where
 mod:Mod X.K X.mg X.base
 kind:X.env.scope.kind=.function
 glob:X.env.globals=mA
 blt:X.env.builtins=So
 above:X.s₀.heap.objs.size<=X.env.locals
 inj:∀x y c,X.env.cells.lookup x=a5 c->X.env.cells.lookup y=a5 c->x=y
 has:∀x,(X.env.kindOf x=a5 .cell\/X.env.kindOf x=a5 .free)->∃c,X.env.cells.lookup x=a5 c
 JD:∀x c,X.fn x=b7->X.env.cells.lookup x=a5 c->X.s₀.heap.objs.size<=c
 hd:X.calm=b7->X.A.handled=b6
 frames:X.A.frames=a5 X.stack
 Kg:X.stack=X.outer\/(X.stack=X.env::X.outer/\X.env.frame=a5 X.env.locals)
 Mj:∀b∈X.ex,b≠X.env.locals/\∀x c,X.env.cells.lookup x=a5 c->c≠b
 bs:∀b o,X.base.get? b=a5 o->X.s₀.heap.get? b=a5 o/\X.H₀ b=b6
 HF:X.base.objs.size<=X.s₀.heap.objs.size
 GZ:∀b o,X.base.get? b=a5 o->b∉X.ex
 Hn:∀b∈X.ex,b∉X.fs
 gz:X.s₀.heap.FunFrames X.base X.outer
 IB:∀b∈X.fs,X.H₀ b=b6
structure Inv(X:Cx)(pins:List (gs×Obj))(σ:List (Option V))(H:Hp)(s:fx):Prop where
 ok:X.Ok
 os:s.os=X.s₀.os
 bare:Q4 s.gens
 base:Un X.fs X.ex X.H₀ H X.s₀.heap s.heap
 loc:∃m,s.heap.Ns X.env.locals m/\∀(i:Nat) (x:Str) (v:V),X.N[i]?=a5 x->σ[i]?=a5 (a5 v)->Ih X.env.scope x->∃u,RelV v u/\Look X.env s.heap m x u
 cell:∀x c,X.env.cells.lookup x=a5 c->∃v,s.heap.IsCell c v
 free:H X.env.locals=b6
 E1:∀x c,X.env.cells.lookup x=a5 c->H c=b6
 pin:∀p∈X.pn++pins,s.heap.get? p.1=a5 p.2/\H p.1=b6/\p.1≠X.env.locals/\p.1∉X.fs/\∀v,p.2.data≠.cell v
 EN:FA X.prog X.w H s.heap
 len:σ.length=X.N.length
section
variable{X:Cx}{pins:List (gs×Obj)}{σ:List (Option V)}{H H':Hp}{s:fx}{h':IE}
def Cx.Ok.D4(ok:X.Ok)(e:X.base.get? b=a5 o):b∉X.fs:=λa=>by
 have:=(ok.gz.mem a).1;rw[e]at this;cases this
def Inv.bs(I:Inv X pins σ H s):∀b o,X.base.get? b=a5 o->s.heap.get? b=a5 o/\H b=b6:=λb o e =>
 ⟨I.base.keep b o (I.ok.bs b o e).1 (I.ok.bs b o e).2 (I.ok.D4 e) (I.ok.GZ b o e),I.base.free b o (I.ok.bs b o e).1 (I.ok.bs b o e).2 (I.ok.GZ b o e)⟩
def Inv.bk(I:Inv X pins σ H s):∀b o,X.base.get? b=a5 o->s.heap.get? b=a5 o:=λb o e=>(I.bs b o e).1
def Inv.mod(I:Inv X pins σ H s):Mod X.K X.mg X.base:=I.ok.mod
def Inv.G0(I:Inv X pins σ H s):X.K.In s.heap:=I.ok.mod.IA.keeps I.bk
def Inv.lt(I:Inv X pins σ H s):X.env.locals<s.heap.objs.size:=let ⟨_,a,_⟩:=I.loc;a.lt
def Inv.sz(I:Inv X pins σ H s):X.s₀.heap.objs.size<=s.heap.objs.size:=Hm I.ok.above (JY I.lt)
def Inv.Cm(I:Inv X pins σ H s)(h:s.heap.objs.size<=a):a∉X.fs:=λb=>by
 obtain⟨_,o,ho,_⟩:=I.ok.gz.mem b;show absurd (my (lg ho) (Hm I.sz h)) (H4 _)
def Inv.HG(I:Inv X pins σ H s):∀x c,X.env.cells.lookup x=a5 c->c≠X.env.locals:=λx c e z=>by
 have⟨v,o,ho,a⟩:=I.cell x c e;obtain⟨m,⟨f,es,ep,b,d,_⟩,_⟩:=I.loc;rw[z,b]at ho;cases ho;rw[d]at a;cases a
def Inv.gz(I:Inv X pins σ H s):s.heap.FunFrames X.base X.outer:=by
 have all:∀(l:List Env),(∀b∈Ff l,b∈X.fs)->X.s₀.heap.FunFrames X.base l->s.heap.FunFrames X.base l:=by
  intro l;induction l with
  |nil=>intro _ _;trivial
  |cons env r f =>
   intro hs hl;obtain⟨hk,⟨L,o,a,g,ho,h⟩,i⟩:=hl;have c:L∈X.fs:=hs L (by unfold Ff;rw[HJ,a];show gw);have⟨j,e⟩:=I.base.slot L o ho (I.ok.IB L c) c λz=>I.ok.Hn L z c;show⟨hk,⟨L,_,a,g,e,h⟩,f (λb d=>hs b (by unfold Ff;rw[HJ,a];show ek _ d)) i⟩
 show all X.outer (λ_ d=>d) I.ok.gz
def Inv.stack(I:Inv X pins σ H s):s.heap.FunFrames X.base X.stack:=by
 rcases I.ok.Kg with e|⟨e,a⟩
 .rw[e];show I.gz
 .rw[e];obtain⟨m,b,_⟩:=I.loc;show .cons (by rw[I.ok.kind];decide) a b ?_ I.gz;show Heap.get?_none_of_le (Hm I.ok.HF I.ok.above)
def Inv.jz(I:Inv X pins σ H s):∀b∈Ff X.stack,b∈X.env.locals::X.fs:=λb a=>by
 rcases I.ok.Kg with e|⟨e,c⟩
 .rw[e]at a;show ek _ a
 .rw[e]at a;unfold Ff at a;rw[HJ,c]at a;show a
def Inv.gA(I:Inv X pins σ H s):∀b∈Ff X.stack,H b=b6:=λb hb=>by
 rcases fz.mp (I.jz b hb) with e|hb
 .rw[e];show I.free
 .obtain⟨_,o,ho,_⟩:=I.ok.gz.mem hb;show I.base.free b o ho (I.ok.IB b hb) λz=>I.ok.Hn b z hb
def Inv.step{ch:List gs}(I:Inv X pins σ H s)
  (j:∀b∈ch,(b∈X.ex\/X.s₀.heap.objs.size<=b)/\b≠X.env.locals/\(∀x c,X.env.cells.lookup x=a5 c->c≠b)/\∀p∈X.pn++pins,p.1≠b)
  (keep:∀b o,b≠X.env.locals->b∉X.fs->b∉ch->s.heap.get? b=a5 o->H b=b6->h'.get? b=a5 o)
  (slot:∀b o,b≠X.env.locals->b∈X.fs->b∉ch->s.heap.get? b=a5 o->H b=b6->∃G,h'.get? b=a5 {o with slots:=G}) (free:∀b o,b∉ch->s.heap.get? b=a5 o->H b=b6->H' b=b6)
  (there:∀b o,b∉ch->s.heap.get? b=a5 o->∃t,h'.get? b=a5 t)
  (FD:∀b xs,H b=a5 (.tup xs)->H' b=a5 (.tup xs)) (Fy:∀b o u,H b=a5 (.F9 o u)->H' b=a5 (.F9 o u)) (FE:∀b C,H b=a5 (.Jc C)->∃y,H' b=a5 (.Jc (C++y)))
  (ns:∀m,s.heap.Ns X.env.locals m->h'.Ns X.env.locals m) (Q:FA X.prog X.w H' h') (T:Q4 g') :
  Inv X pins σ H' {s with heap:=h',gens:=g',drawn:=d',toks:=t' }:=by
 have L:∀b o,X.s₀.heap.get? b=a5 o->b≠X.env.locals:=λb o e=>nC (my (lg e) I.ok.above);have D:∀b o,X.s₀.heap.get? b=a5 o->b∉X.ex->b∉ch:=λb o e a h=>by
  rcases(j b h).1 with z|z
  .show a z
  .show absurd (my (lg e) z) (H4 _)
 have f:∀x c,X.env.cells.lookup x=a5 c->∀v,s.heap.IsCell c v->h'.IsCell c v:=λx c e v Y=>by
  have⟨o,ho,J⟩:=Y;have A:c∉ch:=λz=>(j c z).2.2.1 x c e rfl;by_cases N:c∈X.fs
  .have⟨G,q⟩:=slot c o (I.HG x c e) N A ho (I.E1 x c e);show⟨_,q,J⟩
  .show⟨o,keep c o (I.HG x c e) N A ho (I.E1 x c e),J⟩
 show⟨I.ok,I.os,T,⟨λb o e n h a=>?_,λb o e n h a=>?_,λb o e n a=>?_,λb o e a=>?_,λb xs e=>FD b xs (I.base.FD b xs e),λb o xs e=>Fy b o xs (I.base.Fy b o xs e),λb C e=>?_⟩,?_,λx c e=>?_,?_,λx c e=>?_,λp O=>?_,Q,I.len⟩
 .show keep b o (L b o e) h (D b o e a) (I.base.keep b o e n h a) (I.base.free b o e n a)
 .have⟨G,g⟩:=I.base.slot b o e n h a;have⟨Kh,B⟩:=slot b _ (L b o e) h (D b o e a) g (I.base.free b o e n a);show⟨Kh,B⟩
 .have⟨t,g⟩:=I.base.there b o e a;show free b t (D b o e a) g (I.base.free b o e n a)
 .have⟨t,g⟩:=I.base.there b o e a;show there b t (D b o e a) g
 .have⟨m1,g⟩:=I.base.FE b C e;have⟨m2,B⟩:=FE b _ g;show⟨m1++m2,by rw[B,V']⟩
 .have⟨m,hn,hl⟩:=I.loc;show⟨m,ns m hn,λi x v g B e3=>?_⟩;have⟨u,r,l⟩:=hl i x v g B e3;show⟨u,r,?_⟩;rcases l with l|⟨k,c,e,z⟩
  .show .inl l
  .show .inr ⟨k,c,e,f x c e _ z⟩
 .have⟨v,z⟩:=I.cell x c e;show⟨v,f x c e v z⟩
 .obtain⟨m,⟨o,_,_,ho,_⟩,_⟩:=I.loc;show free _ o (λz=>(j _ z).2.1 rfl) ho I.free
 .have⟨v,o,ho,J⟩:=I.cell x c e;show free c o (λz=>(j c z).2.2.1 x c e rfl) ho (I.E1 x c e)
 .have⟨e,n,ne,nf,d⟩:=I.pin p O;have A:p.1∉ch:=λz=>(j p.1 z).2.2.2 p O rfl;show⟨keep p.1 p.2 ne nf A e n,free p.1 p.2 A e n,ne,nf,d⟩
def Inv.un(I:Inv X pins σ H s)(u:Un X.fs [] H H' s.heap h')(d:FA X.prog X.w H' h'):Inv X pins σ H' {s with heap:=h',toks:=t' }:=by
 obtain⟨m,⟨o,es,ep,ho,r⟩,_⟩:=id I.loc;have⟨k,f⟩:=u.any ho I.free (by simp);show I.step (g':=s.gens) (d':=s.drawn) (ch:=[]) (λ_ z=>nomatch z) (λb o _ a _ e n=>u.keep b o e n a (by simp)) (λb o _ a _ e n=>u.slot b o e n a (by simp)) (λb o _ e n=>u.free b o e n (by simp)) (λb o _ e=>u.there b o e (by simp)) u.FD u.Fy u.FE (λl g=>by
  have⟨p,h,i,c,j⟩:=g;rw[ho]at c;cases c;show⟨_,h,i,f,j⟩) d I.bare
def Inv.call(I:Inv X pins σ H s)(u:Un (Ff X.stack) ch H H' s.heap h')(h:FA X.prog X.w H' h')(i:Q4 g')
  (f:∀b∈ch,(b∈X.ex\/X.s₀.heap.objs.size<=b)/\b≠X.env.locals/\(∀x c,X.env.cells.lookup x=a5 c->c≠b)/\∀p∈X.pn++pins,p.1≠b) :
  Inv X pins σ H' {s with heap:=h',gens:=g',drawn:=d',toks:=t' }:=by
 obtain⟨m,⟨o,es,ep,ho,r⟩,_⟩:=id I.loc;have⟨v,d⟩:=u.any ho I.free λz=>(f _ z).2.1 rfl;show I.step (ch:=ch) f (λb o d j a e n=>u.keep b o e n (λz=>(fz.mp (I.jz b z)).elim d j) a) (λb o _ _ a e n=>u.any e n a) (λb o a e n=>u.free b o e n a) (λb o a e=>u.there b o e a) u.FD u.Fy u.FE (λy k=>by
  have⟨A,l,q,g,t⟩:=k;rw[ho]at g;cases g;show⟨_,l,q,d,t⟩) h i
def Inv.turned(I:Inv X pins σ H s)(k:∀b o,b≠it->s.heap.get? b=a5 o->h'.get? b=a5 o)(g:H it=b6)(d:it≠X.env.locals)
  (h:it∈X.ex\/X.s₀.heap.objs.size<=it) (i:∀x c,X.env.cells.lookup x=a5 c->c≠it) (j:∀p∈X.pn++pins,p.1≠it):Inv X pins σ H {s with heap:=h',toks:=t' }:=by
 have f:∀b u,H b=a5 u->b≠it:=λb u e z=>by rw[z,g]at e;cases e
 show I.step (g':=s.gens) (d':=s.drawn) (ch:=[it]) (λb l=>?_) (λb o _ _ a e _=>k b o (λz=>a (by simp[z])) e) (λb o _ _ a e _=>⟨o.slots,k b o (λz=>a (by simp[z])) e⟩) (λ_ _ _ _ n=>n)
  (λb o a e=>⟨o,k b o (λz=>a (by simp[z])) e⟩) (λ_ _ e=>e) (λ_ _ _ e=>e) (λb w e=>⟨#[],by rw[e];simp⟩) (λm t=>?_) (λb u e=>?_) I.bare
 .have e:b=it:=by simpa using l
  subst e;show⟨h,d,i,j⟩
 .have⟨o,es,ep,ho,r⟩:=t;show⟨o,es,ep,k _ o (HX d) ho,r⟩
 .show(I.EN b u e).l5 (λc v a q=>k c v ?_ q) (λ_ q=>q) λ_ _ q=>q;rcases a with z|z
  .rw[z];show f b u e
  .show f c _ z
def Inv.tok(I:Inv X pins σ H s)(t:Nat):Inv X pins σ H {s with toks:=t}:=I.un (h':=s.heap) (t':=t) Un.refl I.EN
def Inv.kept(I:Inv X pins σ H s)(k:∀b u,s.heap.get? b=a5 u->h'.get? b=a5 u):Inv X pins σ H {s with heap:=h',toks:=t' }:=I.un (Un.kept k) (I.EN.kept k)
def Inv.laid(I:Inv X pins σ H s)(k:∀b u,s.heap.get? b=a5 u->h'.get? b=a5 u)(c:s.heap.objs.size<=a)(new:bF X.prog X.w (upd H a o) h' a o):
  Inv X pins σ (upd H a o) {s with heap:=h',toks:=t' }:=I.un (Un.laid k c (I.EN.fresh c)) (I.EN.laid k c new)
def Inv.write(I:Inv X pins σ H s)(a:KU (H x))(c:e=x\/H e=a5 (.own x))(k:∀b u,b≠e->s.heap.get? b=a5 u->h'.get? b=a5 u)(d:∃u,h'.get? e=a5 u)
  (new:bF X.prog X.w (upd H x o) h' x o):Inv X pins σ (upd H x o) {s with heap:=h',toks:=t' }:=I.un (Un.write a c k d) (I.EN.write a c k d new)
def Inv.weak(I:Inv X pins σ H s)(hl:a.length=σ.length)(w:∀(i:Nat) v,a[i]?=a5 (a5 v)->σ[i]?=a5 (a5 v)):Inv X pins a H s :=
 ⟨I.ok,I.os,I.bare,I.base,let ⟨m,b,c⟩:=I.loc;⟨m,b,λi x v d e f=>c i x v d (w i v e) f⟩,I.cell,I.free,I.E1,I.pin,I.EN,hl.trans I.len⟩
def Inv.fv(I:Inv X pins σ H s)(h:∀p∈a,s.heap.get? p.1=a5 p.2/\H p.1=b6/\p.1≠X.env.locals/\p.1∉X.fs/\∀v,p.2.data≠.cell v):Inv X a σ H s :=
 ⟨I.ok,I.os,I.bare,I.base,I.loc,I.cell,I.free,I.E1,λp b=>(l'.mp b).elim (λz=>I.pin p (JZ _ z)) (h p),I.EN,I.len⟩
def gB{N:List Str}(c:N.Nodup){i j:Nat}(a:N[i]?=a5 x)(b:N[j]?=a5 x):i=j:=by
 have⟨f,d⟩:=hQ.mp a;have⟨g,e⟩:=hQ.mp b;show(List.getElem_inj c).mp (d.trans e.symm)
def lh(I:Inv X pins σ H s)(hN:X.N.Nodup)(D:X.N[i]?=a5 x)(l:Loc X.env.scope x)(r:RelV v u)
  (h:∀s',Inv X pins (σ.set i (a5 v)) H s'->(∃a,H8 a s.heap s'.heap/\(a=X.env.locals\/X.env.cells.lookup x=a5 a))->Q () s') (hf:X.fn x=b7\/X.env.scope.names.lookup x=a5 .local:=by first|show .inl rfl|show .inr rfl|assumption):eH M A (XM X.env x u) Q E s:=by
 have⟨m,L,hl⟩:=id I.loc;have JE:(X.env.scope.kind==.class||(X.env.scope.kind==.module&&X.env.locals != X.env.globals))=cb:=by rw[I.ok.kind];rfl
 have Po:i < σ.length:=by rw[I.len];show(hQ.mp D).1
 have O:=I.HG;have f:∀{a:gs} {h':IE},(∃o,s.heap.get? a=a5 o/\H a=b6)->H8 a s.heap h'->FA X.prog X.w H h':=λ{a h'} ha hs b ob e=>by
  obtain⟨_,_,E4⟩:=ha;show(I.EN b ob e).l5 (λc G hc q=>(hs.2 c ?_).trans q) (λ_ q=>q) λ_ _ q=>q;rintro rfl;rcases hc with rfl|hc
  .rw[E4]at e;cases e
  .rw[E4]at hc;cases hc
 rcases l with hk|hk
 .show wpAny_storeName_local hk L (λh' M4 hs=>?_) JE;obtain⟨oL,_,_,K0,_⟩:=id L;show h _ ⟨I.ok,I.os,I.bare,⟨λb o e n B l=>?_,λb o e n B l=>?_,I.base.free,λb o e l=>?_,I.base.FD,I.base.Fy,I.base.FE⟩,⟨_,M4,λj y T g t Y=>?_⟩,λy c e=>?_,I.free,I.E1,λp hp=>?_,f ⟨oL,K0,I.free⟩ hs,by simpa using I.len⟩ ⟨_,hs,.inl rfl⟩
  .show(hs.2 b (nC (my (lg e) I.ok.above))).trans (I.base.keep b o e n B l)
  .have⟨sl,g⟩:=I.base.slot b o e n B l;show⟨sl,(hs.2 b (nC (my (lg e) I.ok.above))).trans g⟩
  .have⟨o',g⟩:=I.base.there b o e l;show⟨o',(hs.2 b (nC (my (lg e) I.ok.above))).trans g⟩
  .by_cases C:j=i
   .subst C;rw[D]at g;cases g;rw[nc Po]at t;cases t;show⟨u,r,.inl ⟨hk,by simp⟩⟩
   .rw[mu (HX C)]at t;have⟨u',r',q⟩:=hl j y T g t Y;show⟨u',r',?_⟩;rcases q with⟨k,e⟩|⟨k,c,e,z⟩
    .show .inl ⟨k,?_⟩;have:y≠x:=λe=>C (gB hN g (e▸D));simp[this,e]
    .show .inr ⟨k,c,e,z.sameBut hs (O y c e)⟩
  .have⟨G,z⟩:=I.cell y c e;show⟨G,z.sameBut hs (O y c e)⟩
  .have⟨e,n,ne,nf,d⟩:=I.pin p hp;show⟨(hs.2 p.1 ne).trans e,n,ne,nf,d⟩
 .have GC:X.fn x=b7:=by
   rcases hf with z|z
   .show z
   .rw[z]at hk;cases hk
  have⟨c,hc⟩:=I.ok.has x (.inl hk);have⟨G,z⟩:=I.cell x c hc;show wpAny_storeName_cell I.ok.kind hk hc z (λh' Ki hs=>?_);have⟨oc,Pp,M5⟩:=id z;show h {s with heap:=h' } ⟨I.ok,I.os,I.bare,⟨λb o e n B l=>?_,λb o e n B l=>?_,I.base.free,λb o e l=>?_,I.base.FD,I.base.Fy,I.base.FE⟩,⟨m,L.sameBut hs (HX (O x c hc)),λj y T g t Y=>?_⟩,λy J e=>?_,I.free,I.E1,λp hp=>?_,f ⟨oc,Pp,I.E1 x c hc⟩ hs,by simpa using I.len⟩ ⟨c,hs,.inr hc⟩
  .show(hs.2 b (nC (my (lg e) (I.ok.JD x c GC hc)))).trans (I.base.keep b o e n B l)
  .have⟨sl,g⟩:=I.base.slot b o e n B l;show⟨sl,(hs.2 b (nC (my (lg e) (I.ok.JD x c GC hc)))).trans g⟩
  .have⟨o',g⟩:=I.base.there b o e l;show⟨o',(hs.2 b (nC (my (lg e) (I.ok.JD x c GC hc)))).trans g⟩
  .by_cases C:j=i
   .subst C;rw[D]at g;cases g;rw[nc Po]at t;cases t;show⟨u,r,.inr ⟨.inl hk,c,hc,Ki⟩⟩
   .rw[mu (HX C)]at t;have⟨u',r',q⟩:=hl j y T g t Y;show⟨u',r',?_⟩;rcases q with q|⟨k,J,e,z'⟩
    .show .inl q
    .show .inr ⟨k,J,e,z'.sameBut hs ?_⟩;rintro rfl;show C (gB hN g (I.ok.inj _ _ _ e hc▸D))
  .by_cases Pq:J=c
   .subst Pq;show⟨_,Ki⟩
   .have⟨w2,z2⟩:=I.cell y J e;show⟨w2,z2.sameBut hs Pq⟩
  .have⟨e,n,ne,nf,d⟩:=I.pin p hp;show⟨(hs.2 p.1 ?_).trans e,n,ne,nf,d⟩;intro q;rw[q,Pp]at e;have q':oc=p.2:=wk e;show d G (by rw[<-q'];show M5)
def eM(I:Inv X pins σ H s)(a:X.N.Nodup)(b:X.N[i]?=a5 x)(c:Loc X.env.scope x)(r:RelV v u)
  (h:∀s',Inv X pins (σ.set i (a5 v)) H s'->Q () s') (d:X.fn x=b7\/X.env.scope.names.lookup x=a5 .local:=by first|show .inl rfl|show .inr rfl|assumption):eH M A (XM X.env x u) Q E s :=
 lh I a b c r (λs' e _=>h s' e) d
def Inv.uz(I:Inv X pins σ H s)(ho:s'.os=s.os)(u:Un (Ff X.stack) ch H H' s.heap s'.heap)(a:FA X.prog X.w H' s'.heap)(d:Q4 s'.gens)
  (f:∀b∈ch,(b∈X.ex\/X.s₀.heap.objs.size<=b)/\b≠X.env.locals/\(∀x c,X.env.cells.lookup x=a5 c->c≠b)/\∀p∈X.pn++pins,p.1≠b):Inv X pins σ H' s':=by
 have⟨h',g',d',t',g⟩:=s';have e:g=s.os:=ho;subst e;show I.call (g':=g') (t':=t') (d':=d') u a d f
end
@[reducible]noncomputable def XK:=d6->Option gs->Hp->Prop
@[reducible]noncomputable def St:=List (Option V)
@[reducible]noncomputable def VK:=V->Hp->Prop
@[reducible]noncomputable def TE:=St->Hp->VK->Prop
@[reducible]noncomputable def TT:=St->Hp->(Bool->Hp->Prop)->Prop
@[reducible]noncomputable def TA:=St->Hp->(List V->Hp->Prop)->Prop
structure Ends where
 nx:St->Hp->Prop
 rt:VK
 bk:St->Hp->Prop:=λ_ _=>False
 ct:St->Hp->Prop:=λ_ _=>False
@[reducible]noncomputable def TS:=Ends->St->Hp->Prop
abbrev EP(X:Cx)(pins:List (gs×Obj))(σ:St)(Q:VK)(u:d6)(s':fx):Prop:=∃v H',Inv X pins σ H' s'/\RelV v u/\Q v H'
abbrev TP(X:Cx)(pins:List (gs×Obj))(σ:St)(Q:Bool->Hp->Prop)(b:Bool)(s':fx):Prop:=∃H',Inv X pins σ H' s'/\Q b H'
abbrev AP(X:Cx)(pins:List (gs×Obj))(σ:St)(Q:List V->Hp->Prop)(us:List d6)(s':fx):Prop:=∃vs H',Inv X pins σ H' s'/\Vals vs us/\Q vs H'
abbrev SP(X:Cx)(pins:List (gs×Obj))(D:Ends)(f:Flow)(s':fx):Prop :=
 match f with
 |.next=>∃a H',Inv X pins a H' s'/\D.nx a H'
 |.brk=>∃a H',Inv X pins a H' s'/\D.bk a H'
 |.cont=>∃a H',Inv X pins a H' s'/\D.ct a H'
 |.ret u=>∃v a H',Inv X pins a H' s'/\RelV v u/\D.rt v H'
abbrev PE(X:Cx)(e:tr)(t:TE):Prop :=
 ∀(pins:List (gs×Obj)) (s:fx) (σ:St) (H:Hp) (Q:VK),Inv X pins σ H s->t σ H Q->eH (ko X.prog X.w) X.A (Ka e X.env) (EP X pins σ Q) X.xe s
abbrev PT(X:Cx)(e:tr)(t:TT):Prop :=
 ∀(pins:List (gs×Obj)) (s:fx) (σ:St) (H:Hp) (Q:Bool->Hp->Prop),Inv X pins σ H s->t σ H Q->eH (ko X.prog X.w) X.A (isTrue e X.env (Ka e X.env)) (TP X pins σ Q) X.xe s
abbrev PW(X:Cx)(e:tr)(t:TT):Prop :=
 ∀(a:Sem d6) (pins:List (gs×Obj)) (s:fx) (σ:St) (H:Hp) (Q:Bool->Hp->Prop),Inv X pins σ H s->t σ H Q->eH (ko X.prog X.w) X.A (isTrue e X.env a) (TP X pins σ Q) X.xe s
def PW.pt(h:PW X e t):PT X e t:=h _
abbrev PA(X:Cx)(es:List tr)(t:TA):Prop :=
 ∀(pos:Pos) (pins:List (gs×Obj)) (s:fx) (σ:St) (H:Hp) (Q:List V->Hp->Prop),Inv X pins σ H s->t σ H Q->eH (ko X.prog X.w) X.A (Xy (Kc pos (mx es X.env))) (AP X pins σ Q) X.xe s
abbrev PS(X:Cx)(st:Ls)(t:TS):Prop :=
 ∀(pins:List (gs×Obj)) (s:fx) (σ:St) (H:Hp) (D:Ends),Inv X pins σ H s->t D σ H->eH (ko X.prog X.w) X.A (exec st X.env) (SP X pins D) X.xe s
abbrev FF(X:Cx)(st:List Ls)(t:TS):Prop :=
 ∀(pins:List (gs×Obj)) (s:fx) (σ:St) (H:Hp) (D:Ends),Inv X pins σ H s->t D σ H->eH (ko X.prog X.w) X.A (execs st X.env) (SP X pins D) X.xe s
def ER(h:eH M A t Q E s)(b:∀a s,Q a s->Q' a s):eH M A t Q' E s:=vz h b λ_ _ x=>x
section
abbrev D5(i:Nat):TE:=λσ H Q=>∃v,σ[i]?=a5 (a5 v)/\Q v H
abbrev tC(v:V):TE:=λ_ H Q=>Q v H
def fQ(g:X.N[i]?=a5 x)(j:Ih X.env.scope x)(b:(x==("__debug__":Str))=cb:=by decide)(k:(x==("__classdict__":Str))=cb:=by decide):PE X (.Name x pos) (D5 i):=by
 intro pins s σ H Q I h;have⟨v,e,h⟩:=h;have⟨m,n,hl⟩:=I.loc;have⟨u,r,l⟩:=hl i x v g e j;have a:EP X pins σ Q u s:=⟨v,H,I,r,h⟩
 rcases l with⟨hk,o⟩|⟨hk,c,d,f⟩
 .show Xj (wpAny_loadName_local I.ok.kind hk n o a) b
 .rcases hk with hk|hk
  .show Xj (wpAny_loadName_cell I.ok.kind hk d f a) b
  .show Xj (wpAny_loadName_free I.ok.kind hk d f a k) b
def uA:PE X (.Constant (.int i) j pos) (tC (.int i)):=λ_ _ _ H _ I h=>wpAny_Constant_int ⟨.int i,H,I.tok _,⟨_,rfl⟩,h⟩
def Cn:PE X (.Constant (.bool b) j pos) (tC (.bl b)):=λ_ _ _ H _ I h=>Constant_bool ⟨.bl b,H,I,rfl,h⟩
def Aj:PE X (.Constant .none j pos) (tC .EU):=λ_ _ _ H _ I h=>Constant_none ⟨.EU,H,I,rfl,h⟩
def Ak:PE X (.Constant (.str x) j pos) (tC (.str x)):=λ_ _ _ H _ I h=>Calls.Constant_str ⟨.str x,H,I.tok _,⟨_,rfl⟩,h⟩
abbrev Gl(X:Cx)(x:Str):Prop:=X.env.kindOf x=a5 .globalImplicit
def cv(I:Inv X pins σ H s)(a:Gl X x)(b:X.mg x=a5 u)(h:Q u s)
  (c:(x==("__debug__":Str))=cb:=by decide):eH (ko X.prog X.w) X.A (Ka (.Name x pos) X.env) Q E s :=
 UX I.ok.kind a (Calls.loadGlobal_global (by rw[I.ok.glob];show I.mod.glob.keeps I.bk) b h) c
def dk(I:Inv X pins σ H s)(a:Gl X x)(b:X.mg x=b6)(c:Iw x=a5 u)(h:Q u s)
  (d:x≠"__name__":=by decide) (e:(x==("__debug__":Str))=cb:=by decide):eH (ko X.prog X.w) X.A (Ka (.Name x pos) X.env) Q E s:=by
 have⟨i,f,g⟩:=I.mod.blt;show UX I.ok.kind a (Calls.loadGlobal_builtin (by rw[I.ok.glob];show I.mod.glob.keeps I.bk) b (by rw[I.ok.blt];show f.keeps I.bk) ((g x d).trans c) h) e
def xI(a:Gl X x)(b:X.mg x=a5 u)(r:RelV v u)(c:(x==("__debug__":Str))=cb:=by decide):PE X (.Name x pos) (tC v) :=
 λ_ _ _ H _ I h=>cv I a b ⟨v,H,I,r,h⟩ c
def qR(a:Gl X x)(b:X.mg x=b6)(c:Iw x=a5 u)(r:RelV v u)(d:x≠"__name__":=by decide)(e:(x==("__debug__":Str))=cb:=by decide):PE X (.Name x pos) (tC v) :=
 λ_ _ _ H _ I h=>dk I a b c ⟨v,H,I,r,h⟩ d e
abbrev D6(t u:TT):TT:=λσ H Q=>t σ H λc a=>if c=b7 then u σ a Q else Q cb a
abbrev QM(t u:TT):TT:=λσ H Q=>t σ H λc a=>if c=b7 then Q b7 a else u σ a Q
abbrev D7(t:TT):TT:=λσ H Q=>t σ H λc a=>Q (!c) a
def xJ(b:PT X a d):PW X (.BoolOp .And [a] pos) d:=by
 intro f pins s σ H Q I h;show isTrue_and (ER (b pins s σ H Q I h) λc s1 e=>?_);cases c with
 |true=>show Yp e
 |false=>show e
def Al(b:PT X a d):PW X (.BoolOp .Or [a] pos) d:=by
 intro f pins s σ H Q I h;show isTrue_or (ER (b pins s σ H Q I h) λc s1 e=>?_);cases c with
 |false=>show isTrue_or_nil e
 |true=>show e
def Am(i:PT X a j)(k:PW X (.BoolOp .And (b::d) pos) l):PW X (.BoolOp .And (a::b::d) pos) (D6 j l):=by
 intro m pins s σ H Q I h;show isTrue_and (ER (i pins s σ H _ I h) λc s1 n=>?_);have⟨e,f,g⟩:=n;cases c with
 |true=>show k m pins s1 σ e Q f g
 |false=>show⟨e,f,g⟩
def Co(i:PT X a j)(k:PW X (.BoolOp .Or (b::d) pos) l):PW X (.BoolOp .Or (a::b::d) pos) (QM j l):=by
 intro m pins s σ H Q I h;show isTrue_or (ER (i pins s σ H _ I h) λc s1 n=>?_);have⟨e,f,g⟩:=n;cases c with
 |true=>show⟨e,f,g⟩
 |false=>show k m pins s1 σ e Q f g
def An(b:PT X a d):PT X (.UnaryOp .Not a pos) (D7 d):=by
 intro pins s σ H Q I h;show isTrue_not (b pins s σ H (λc e=>Q (!c) e) I h)
abbrev Cp(b d:TE):TE:=λσ H Q=>b σ H λx a=>∃c,x=.bl c/\if c=b7 then d σ a Q else Q (.bl cb) a
abbrev D8(b d:TE):TE:=λσ H Q=>b σ H λx a=>∃c,x=.bl c/\if c=b7 then Q (.bl b7) a else d σ a Q
abbrev Cq(a:TE):TE:=λσ H Q=>a σ H λx b=>∃c,x=.bl c/\Q (.bl (!c)) b
def uB(h:PE X a t):PE X (.BoolOp op [a] pos) t:=λpins s σ H Q I b=>BoolOp_one (h pins s σ H Q I b)
def Ao(i:PE X a j)(k:PE X (.BoolOp .And (b::d) pos) l):PE X (.BoolOp .And (a::b::d) pos) (Cp j l):=by
 intro pins s σ H Q I h;show BoolOp_and (ER (i pins s σ H _ I h) λv s1 m=>?_);have⟨x,f,g,n,e⟩:=m;have⟨c,rfl,e⟩:=e;cases n;show GX ?_;cases c with
 |true=>show k pins s1 σ f Q g e
 |false=>show⟨.bl cb,f,g,rfl,e⟩
def Cr(i:PE X a j)(k:PE X (.BoolOp .Or (b::d) pos) l):PE X (.BoolOp .Or (a::b::d) pos) (D8 j l):=by
 intro pins s σ H Q I h;show BoolOp_or (ER (i pins s σ H _ I h) λv s1 m=>?_);have⟨x,f,g,n,e⟩:=m;have⟨c,rfl,e⟩:=e;cases n;show GX ?_;cases c with
 |false=>show k pins s1 σ f Q g e
 |true=>show⟨.bl b7,f,g,rfl,e⟩
def Ap(d:PE X a e):PE X (.UnaryOp .Not a pos) (Cq e):=by
 intro pins s σ H Q I h;show UnaryOp_ (ER (d pins s σ H _ I h) λv s1 f=>?_);have⟨x,g,i,j,b⟩:=f;have⟨c,rfl,b⟩:=b;cases j;show not_of (GX ⟨.bl (!c),g,i,rfl,b⟩)
end
abbrev Fm(K:PySem.W.Frag)(H:Hp)(a:gs)(xs:List V):Prop :=
 Rd H a (.lst xs) \/
  ∃(o:Obj) (b:Array d6) (n:Nat),K.lookup a=a5 o/\o.cls=.type "list"/\o.dict=b6/\o.data=.seq b n/\b.size<=df/\Vals xs b.toList
abbrev Fe(K:PySem.W.Frag)(H:Hp)(a:gs)(xs:List V):Prop :=
 Rd H a (.tup xs) \/
  ∃(o:Obj) (b:Array d6) (n:Nat),K.lookup a=a5 o/\o.cls=.type "tuple"/\o.data=.seq b n/\b.size<=df/\Vals xs b.toList
abbrev D9:d6->Option V
 |.none=>a5 .EU
 |.bool b=>a5 (.bl b)
 |.int i _=>a5 (.int i)
 |.str x _=>a5 (.str x)
 |.bytes b _=>a5 (.Mg b)
 |.float b _=>a5 (.Mh b)
 |.ref a=>a5 (.ref a)
 |.type n=>a5 (.ty n)
 |_=>b6
def RelV.abs(r:RelV x u):D9 u=a5 x:=by
 cases x with
 |EU=>cases r;rfl
 |bl _=>cases r;rfl
 |ref _=>cases r;rfl
 |ty _=>cases r;rfl
 |_=>have⟨t,rfl⟩:=r;rfl
def RelV.inj(r:RelV x u)(q:RelV y u):x=y:=wk (r.abs.symm.trans q.abs)
theorem Vals.inj:∀{xs a:List V}{us:List d6},Vals xs us->Vals a us->xs=a
 |_,_,_,.nil,.nil=>rfl
 |_,_,_,.cons r t,.cons b t'=>by rw[r.inj b,Vals.inj t t']
section
def Fm.of{K:PySem.W.Frag}(h:H a=a5 (.lst xs)):Fm K H a xs:=.inl (.inl h)
def Fe.of{K:PySem.W.Frag}(h:H a=a5 (.tup xs)):Fe K H a xs:=.inl (.inl h)
def Inv.list(I:Inv X pins σ H s)(h:Fm X.K H a xs):∃b:List d6,Vals xs b/\PlainL s.heap a b.toArray/\xs.length<=df:=by
 rcases h with h|⟨o,b,n,hk,c,d,hs,hz,r⟩
 .have⟨z,b,n,r,e⟩:=h.ok I.EN;show⟨b,r,⟨_,n,e,rfl,rfl,rfl⟩,z⟩
 .show⟨b.toList,r,⟨o,n,I.G0 a o hk,c,d,by simpa using hs⟩,?_⟩;have e:=r.length;simp only[k9]at e;lia
def Inv.tuple(I:Inv X pins σ H s)(h:Fe X.K H a xs):∃b:List d6,Vals xs b/\Wd s.heap a b.toArray/\xs.length<=df:=by
 rcases h with h|⟨o,b,n,hk,c,hs,hz,r⟩
 .have⟨z,b,r,p⟩:=h.ok I.EN;show⟨b,r,p,z⟩
 .show⟨b.toList,r,⟨o,I.G0 a o hk,c,n,by simpa using hs⟩,?_⟩;have e:=r.length;simp only[k9]at e;lia
def Inv.uC(I:Inv X pins σ H s)(h:Fm X.K H a xs)(h':Fm X.K H a c):xs=c:=by
 obtain⟨f,r,⟨o,n,e,_,_,d⟩,_⟩:=I.list h;obtain⟨its',g,⟨j,k,b,_,_,d'⟩,_⟩:=I.list h';rw[e]at b;cases b;rw[d]at d';injection d' with i _
 have:f=its':=by simpa using Yy Vr i
 subst this;show r.inj g
def Inv.sU(I:Inv X pins σ H s)(h:Fe X.K H a xs)(h':Fe X.K H a c):xs=c:=by
 obtain⟨f,r,⟨o,e,_,n,d⟩,_⟩:=I.tuple h;obtain⟨its',g,⟨j,b,_,k,d'⟩,_⟩:=I.tuple h';rw[e]at b;cases b;rw[d]at d';injection d' with i _
 have:f=its':=by simpa using Yy Vr i
 subst this;show r.inj g
end
@[reducible]noncomputable def Cx.ji(X:Cx)(E:d6->fx->Prop):Cx:={X with xe:=E}
@[reducible]noncomputable def Cx.GD(X:Cx):Cx:=X.ji λ_ _=>False
def Cx.Ok.ji{X:Cx}(ok:X.Ok)(E:d6->fx->Prop):(X.ji E).Ok :=
 ⟨ok.mod,ok.kind,ok.glob,ok.blt,ok.above,ok.inj,ok.has,ok.JD,ok.hd,ok.frames,ok.Kg,ok.Mj,ok.bs,ok.HF,ok.GZ,ok.Hn,ok.gz,ok.IB⟩
def Cx.Ok.eN{X:Cx}(ok:(X.ji E).Ok):X.Ok :=
 ⟨ok.mod,ok.kind,ok.glob,ok.blt,ok.above,ok.inj,ok.has,ok.JD,ok.hd,ok.frames,ok.Kg,ok.Mj,ok.bs,ok.HF,ok.GZ,ok.Hn,ok.gz,ok.IB⟩
section
def Inv.ji(I:Inv X pins σ H s)(E:d6->fx->Prop):Inv (X.ji E) pins σ H s:=⟨I.ok.ji E,I.os,I.bare,I.base,I.loc,I.cell,I.free,I.E1,I.pin,I.EN,I.len⟩
def Inv.eN(I:Inv (X.ji E) pins σ H s):Inv X pins σ H s:=⟨I.ok.eN,I.os,I.bare,I.base,I.loc,I.cell,I.free,I.E1,I.pin,I.EN,I.len⟩
def SP.eN(h:SP (X.ji E) pins D f s'):SP X pins D f s':=by
 cases f with
 |ret u=>have⟨v,a,H',I,r,q⟩:=h;show⟨v,a,H',I.eN,r,q⟩
 |_=>have⟨a,H',I,q⟩:=h;show⟨a,H',I.eN,q⟩
def FF.GD{st:List Ls}(h:FF X.GD st t):FF X st t:=λpins s σ H D I a =>
 vz (h pins s σ H D (I.ji _) a) (λ_ _ q=>q.eN) λ_ _ z=>Kf z
end
section
variable{X:Cx}{st:Ls}{rest:List Ls}{t u:TS}{e:tr}{te:TE}{pos:Pos}
abbrev zu:TS:=λD σ H=>D.nx σ H
abbrev D_(t u:TS):TS:=λD σ H=>t {D with nx:=u D} σ H
def jo:FF X [] zu:=λ_ _ σ H _ I h=>Mq ⟨σ,H,I,h⟩
def gC(a:PS X st t)(b:FF X rest u):FF X (st::rest) (D_ t u):=by
 intro pins s σ H D I h;show U5 (ER (a pins s σ H {D with nx:=u D} I h) λf s1 q=>?_);cases f with
 |next =>
  have⟨c,H',d,q⟩:=q;show b pins s1 c H' D d q
 |_=>show q
abbrev Aq:TS:=λD σ H=>D.bk σ H
abbrev Cs:TS:=λD σ H=>D.ct σ H
def xK:PS X (.Pass pos) zu:=λ_ _ σ H _ I h=>wpAny_Pass ⟨σ,H,I,h⟩
def uD:PS X (.Break pos) Aq:=λ_ _ σ H _ I h=>wpAny_Break ⟨σ,H,I,h⟩
def nS:PS X (.Continue pos) Cs:=λ_ _ σ H _ I h=>wpAny_Continue ⟨σ,H,I,h⟩
def Inv.quiet(I:Inv X pins σ H s):interactive X.env=cb:=by simp[interactive,I.ok.kind]
abbrev Cu(te:TE):TS:=λD σ H=>te σ H λ_ a=>D.nx σ a
def l7(a:PE X e te)(hs:Qg e b6 pos.line X.env=pure cb:=by rfl):PS X (.Expr e pos) (Cu te):=by
 intro pins s σ H D I h;show X6 (ER (a pins s σ H _ I h) λv s1 ⟨x,b,c,f,d⟩=>⟨σ,b,c,d⟩) I.quiet hs
abbrev Ea(te:TE):TS:=λD σ H=>te σ H D.rt
def uE(a:PE X e te):PS X (.Return (a5 e) pos) (Ea te):=by
 intro pins s σ H D I h;show wpAny_Return_some (ER (a pins s σ H _ I h) λv s1 ⟨x,b,c,d,f⟩=>⟨x,σ,b,c,d,f⟩)
abbrev Cv:TS:=λD _ H=>D.rt .EU H
def xM:PS X (.Return b6 pos) Cv:=λ_ _ σ H _ I h=>wpAny_Return_none ⟨.EU,σ,H,I,rfl,h⟩
abbrev Eb(c:TT)(t u:TS):TS:=λD σ H=>c σ H λb a=>if b=b7 then t D σ a else u D σ a
def Cw(j:PT X c k)(l:FF X a t)(m:FF X b u):PS X (.If c a b pos) (Eb k t u):=by
 intro pins s σ H D I h;show wpAny_If (ER (j pins s σ H _ I h) λd s1 n=>?_);have⟨f,g,i⟩:=n;cases d with
 |true=>show l pins s1 σ f D g i
 |false=>show m pins s1 σ f D g i
end
@[reducible]noncomputable def TG:=V->St->Hp->(St->Hp->Prop)->Prop
@[reducible]noncomputable def Kj:=List V->St->Hp->(St->Hp->Prop)->Prop
abbrev PG(X:Cx)(a:tr)(t:TG):Prop :=
 ∀(pins:List (gs×Obj)) (s:fx) (σ:St) (H:Hp) (v:V) (u:d6) (Q:St->Hp->Prop),Inv X pins σ H s->RelV v u->t v σ H Q ->
  eH (ko X.prog X.w) X.A (Rz a X.env u) (λ_ s'=>∃b H',Inv X pins b H' s'/\Q b H') X.xe s
abbrev K1(X:Cx)(ts:List tr)(t:Kj):Prop :=
 ∀(pins:List (gs×Obj)) (s:fx) (σ:St) (H:Hp) (vs:List V) (us:List d6) (Q:St->Hp->Prop),Inv X pins σ H s->Vals vs us->t vs σ H Q ->
  eH (ko X.prog X.w) X.A (assignInOrder ((N9 ts X.env).map (·.2)) us) (λ_ s'=>∃a H',Inv X pins a H' s'/\Q a H') X.xe s
@[reducible]noncomputable def Cy:=V->V->V->Hp->(Hp->Prop)->Prop
abbrev kP(X:Cx)(t:Cy):Prop :=
 ∀(pins:List (gs×Obj)) (s:fx) (σ:St) (H:Hp) (o i v:V) (a b u:d6) (Q:Hp->Prop),Inv X pins σ H s->RelV o a->RelV i b->RelV v u->t o i v H Q ->
  eH (ko X.prog X.w) X.A (Wm a b u) (λ_ s'=>∃H',Inv X pins σ H' s'/\Q H') X.xe s
section
abbrev qS(i:Nat):TG:=λv σ H Q=>Q (σ.set i (a5 v)) H
def qT(a:X.N.Nodup)(b:X.N[i]?=a5 x)(c:Loc X.env.scope x)(d:X.fn x=b7\/X.env.scope.names.lookup x=a5 .local:=by first|show .inl rfl|show .inr rfl|assumption):PG X (.Name x pos) (qS i):=by
 intro pins s σ H v u Q I r h;show Xw (eM I a b c r (λs' e=>⟨_,H,e,h⟩) d)
abbrev Cz:Kj:=λvs σ H Q=>vs=[]/\Q σ H
abbrev zw(t:TG)(u:Kj):Kj:=λvs σ H Q=>∃v r,vs=v::r/\t v σ H λa H'=>u r a H' Q
def xN:K1 X [] Cz:=by
 intro pins s σ H vs us Q I r h;have⟨e,h⟩:=h;subst e;cases r;show assignInOrder_nil ⟨σ,H,I,h⟩
def uF(a:PG X e t)(b:K1 X es u)
  (hs:(N9 (e::es) X.env).map (·.2)=Rz e X.env::(N9 es X.env).map (·.2):=by rfl):K1 X (e::es) (zw t u):=by
 intro pins s σ H vs us Q I r h;have⟨v,l,c,h⟩:=h;subst c;cases r with
 |cons r d =>
  rw[hs];show assignInOrder_cons (ER (a pins s σ H _ _ _ I r h) λ_ s1 f=>?_);have⟨g,i,j,k⟩:=f;show b pins s1 g i _ _ Q j d k
abbrev Ec(K:PySem.W.Frag)(n:Nat)(t:Kj):TG:=λv σ H Q=>∃a xs,v=.ref a/\Fe K H a xs/\xs.length=n/\t xs σ H Q
def Ar(f:X.calm=b7)(h:K1 X es t)
  (g:(N9 es X.env).length=n:=by rfl) (i:(N9 es X.env).findIdx? (·.1)=b6:=by rfl):PG X (.Tuple es k pos) (Ec X.K n t):=by
 intro pins s σ H v u Q I r c;have⟨a,xs,j,l,hl,c⟩:=c;subst j;cases r;have⟨w,d,m,hz⟩:=I.tuple l;show assign_Tuple_tuple (I.ok.hd f) m (by simp[g,<-hl,d.length]) i λh' p=>?_;have q:Inv X pins σ H {s with heap:=h' }:=I.kept (t':=s.toks) λb o e=>p b o (nC (lg e)) e;show h pins _ σ H xs _ Q q (by simpa using d) c
abbrev Ed(a b:TE)(t:Cy):TG:=λv σ H Q=>a σ H λo c=>b σ c λi d=>t o i v d λe=>Q σ e
def As(ho:PE X o c)(d:PE X i e)(hs:kP X t)
  (f:∀v,Rz (.Subscript o i pos) X.env v=(do
   let a <-Ou [v] (Ka o X.env)
   let b <-Ou [v,a] (Ka i X.env)
   Wk pos
   Ou [v,a,b] (Wm a b v)
   release [v,a,b] []):=by intro _;rfl):PG X (.Subscript o i pos) (Ed c e t):=by
 intro pins s σ H v u Q I r h;rw[f];show bw (D1 (ER (ho pins s σ H _ I h) λa s1 g=>?_));have⟨x,j,k,l,m⟩:=g;show bw (D1 (ER (d pins s1 σ j _ k m) λb s2 n=>?_));have⟨y,p,q,w,z⟩:=n;show bw (VW (bw (D1 (ER (hs pins s2 σ p x y v a b u _ q l w r z) λ_ s3 A=>?_))));have⟨B,C,D⟩:=A;show wpAny_release ⟨σ,B,C,D⟩
abbrev Au(te:TE)(g:TG):TS:=λD σ H=>te σ H λx a=>g x σ a D.nx
def uG(b:PE X e te)(c:PG X a g)(hs:Rr [a] e pos.line X.env=pure cb:=by rfl)(d:VY [a] e X.env=pure b6:=by rfl)
  (f:(N9 [a] X.env).map (·.2)=[Rz a X.env]:=by rfl):PS X (.Assign [a] e pos) (Au te g):=by
 intro pins s σ H D I h;show wpAny_Assign_stores (ER (b pins s σ H _ I h) λv s1 ⟨x,i,j,k,l⟩=>?_) hs d;rw[f];show ER (c pins s1 σ i x v _ j k l) λ_ s2 q=>q
def pv(a:X.N.Nodup)(b:X.N[i]?=a5 x)(c:Loc X.env.scope x)(d:PE X e te)(hs:Qg e (a5 (.Name x pos')) pos.line X.env=pure cb:=by rfl)(f:X.fn x=b7\/X.env.scope.names.lookup x=a5 .local:=by first|show .inl rfl|show .inr rfl|assumption):
  PS X (.Assign [.Name x pos'] e pos) (Au te (qS i)):=by
 intro pins s σ H D I h;show Xx (ER (d pins s σ H _ I h) λv s1 ⟨y,g,j,k,l⟩=>?_) hs;show eM j a b c k (λs2 m=>⟨_,g,m,l⟩) f
end
section
abbrev Av(c:TT)(f:TS):TS:=λD σ H=>∃W:Nat->St->Hp->Prop,(∃m,W m σ H)/\∀m σ H,W m σ H ->
 c σ H λb a=>if b=b7 then ∃N:St->Hp->Prop,(∀d H',N d H'->∃e,e<m/\W e d H')/\f {D with nx:=N,ct:=N,bk:=D.nx} σ a else D.nx σ a
def uH(q:Vc (ko X.prog X.w) X.A X.env X.xe)(y:PT X c z)(B:FF X body C):PS X (.While c body [] pos) (Av z C):=by
 intro pins s σ H D I h;obtain⟨W,⟨m0,G⟩,a⟩:=h;show wpAny_While (codeAny_whileLoop (λn s'=>∃r H',Inv X pins r H' s'/\W n r H') ?_ m0 ⟨σ,H,I,G⟩);rintro n s1 ⟨g,t,J,L⟩;show Mp q (ER (y pins s1 g t _ J (a n g t L)) λb s2 O=>?_);have⟨u,v,i⟩:=O;cases b with
 |true =>
  have⟨N,x,i⟩:=i;rw[Yr rfl];show Mp q (ER (B pins s2 g u _ v i) λf s3 j=>?_);cases f with
  |next =>
   have⟨d,e,k,l⟩:=j;have⟨m,o,p⟩:=x d e l;show⟨m,o,d,e,k,p⟩
  |cont =>
   have⟨d,e,k,l⟩:=j;have⟨m,o,p⟩:=x d e l;show⟨m,o,d,e,k,p⟩
  |_=>show j
 |false =>
  rw[Yt oa];show Mq ⟨g,u,v,i⟩
end
structure It where
 go:Nat->Hp->Prop
 Ml:Nat->Hp->V->Hp->Prop
 stop:Nat->Hp->Prop
abbrev jj(X:Cx)(pins:List (gs×Obj))(H:Hp)(b:gs):Prop :=
 H b=b6/\b≠X.env.locals/\b∉X.fs/\(b∈X.ex\/X.s₀.heap.objs.size<=b)/\(∀x c,X.env.cells.lookup x=a5 c->c≠b)/\∀p∈X.pn++pins,p.1≠b
def Inv.xO(I:Inv X pins σ H s)(a:s.heap.objs.size<=b)(d:H' b=b6):jj X pins H' b:=by
 show⟨d,KW (my I.lt a),I.Cm a,.inr (Hm I.sz a),λx c e z=>?_,λp f z=>?_⟩
 .have⟨v,q⟩:=I.cell x c e;show absurd (my q.lt (by rw[z];show a)) (H4 _)
 .show absurd (my (lg (I.pin p f).1) (by rw[z];show a)) (H4 _)
structure Turn(P:vu)(w:DD)(K:PySem.W.Frag)(tg:tr)(J:It)(fp:List gs)(it:gs)(tn:Nat->IE->Prop):Prop where
 mem:it∈fp
 obj:∀i h,tn i h->∀b∈fp,∃o,h.get? b=a5 o/\∀v,o.data≠.cell v
 keep:∀i h h',tn i h->(∀b∈fp,∀o,h.get? b=a5 o->h'.get? b=a5 o)->tn i h'
 item:∀(X:Cx),X.prog=P->X.w=w->X.K=K->X.calm=b7->∀(i:Nat) (pins:List (gs×Obj)) (s:fx) (σ:St) (H:Hp) (E:d6->fx->Prop),Inv X pins σ H s->(∀b∈fp,jj X pins H b)->tn i s.heap->J.go i H ->
  eH (ko P w) X.A (PQ (.ref it)) (λr s1=>∃u,r=a5 u /\
   eH (ko P w) X.A (Te tg (.ref it) u) (λ_ s2=>∃x H',Inv X pins σ H' s2/\RelV x u/\J.Ml i H x H'/\tn (i+1) s2.heap/\∀b∈fp,H' b=b6) E s1) E s
 done:∀(X:Cx),X.prog=P->X.w=w->X.K=K->X.calm=b7->∀(i:Nat) (pins:List (gs×Obj)) (s:fx) (σ:St) (H:Hp) (E:d6->fx->Prop),Inv X pins σ H s->(∀b∈fp,jj X pins H b)->tn i s.heap->J.stop i H ->
  eH (ko P w) X.A (PQ (.ref it)) (λr s1=>r=b6/\Inv X pins σ H s1) E s
 self:∀(A:Ke) (i:Nat) (s:fx) (Q:d6->fx->Prop) (E:d6->fx->Prop),tn i s.heap->Q (.ref it) s->eH (ko P w) A (Ua (.ref it)) Q E s
@[reducible]noncomputable def TI:=St->Hp->(It->Hp->Prop)->Prop
abbrev Pt(X:Cx)(pins:List (gs×Obj))(σ:St)(d:tr)(R:It->Hp->Prop)(e:d6)(s2:fx):Prop :=
 ∃(it:gs) (a:List gs) (c:Nat->IE->Prop) (J:It) (H':Hp),e=.ref it/\Inv X pins σ H' s2/\Turn X.prog X.w X.K d J a it c/\c 0 s2.heap/\(∀b∈a,jj X pins H' b)/\R J H'
abbrev PI(X:Cx)(b a:tr)(c:TI):Prop :=
 ∀(pins:List (gs×Obj)) (s:fx) (σ:St) (H:Hp) (R:It->Hp->Prop),Inv X pins σ H s->c σ H R ->
  eH (ko X.prog X.w) X.A (Ka a X.env) (λv s1=>eH (ko X.prog X.w) X.A (Ua v) (Pt X pins σ b R) X.xe s1) X.xe s
def qU(ho:s.heap.get? it=a5 o)(b:o.cls=.type n)(c:o.data=.fields vs)
    (d:["enumerate","zip","dict_itemiterator","dict_reverseitemiterator","odict_iterator","itertools.zip_longest","itertools.pairwise"].contains n=cb) (a:Q () s):eH M A (Te e (.ref it) u) Q E s:=by
  unfold Te;cases e<;>first
    | show cc a
    | (cases u<;>first
        | show cc a
        | (show bw (Xi ho ?_)
           rw[b,c];change eH M A (if (["enumerate","zip","dict_itemiterator","dict_reverseitemiterator","odict_iterator","itertools.zip_longest","itertools.pairwise"].contains n&&vs[0]?==a5 (HV _))=b7 then _ else _) Q E s;rw[Yt (by intro h;rw[d,Xf]at h;cases h)];show cc a))
abbrev M9(K:PySem.W.Frag)(a:gs):It :=
 ⟨λi H=>∃xs x,Fm K H a xs/\xs[i]?=a5 x,λi H x H'=>H'=H/\∀xs,Fm K H a xs->xs[i]?=a5 x,λi H=>∃xs,Fm K H a xs/\xs.length<=i⟩
abbrev M_(K:PySem.W.Frag)(a:gs):It :=
 ⟨λi H=>∃xs x,Fe K H a xs/\xs[i]?=a5 x,λi H x H'=>H'=H/\∀xs,Fe K H a xs->xs[i]?=a5 x,λi H=>∃xs,Fe K H a xs/\xs.length<=i⟩
abbrev K2(lo:Int)(n:Nat):It:=⟨λi _=>i<n,λi H x H'=>H'=H/\x=.int (lo+i),λi _=>n<=i⟩
def sV{K:PySem.W.Frag}(a it:gs):Turn P w K tg (M9 K a) [it] it (λi h=>h.IsListIter it a i) where
 mem:=by simp
 obj:=λi h st b f=>by
  have e:b=it:=by simpa using f
  subst e;have⟨o,e,c,d⟩:=st;show⟨o,e,λv z=>by rw[d]at z;cases z⟩
 keep:=λi h h' st k=>st.at λo e=>k it (by simp) o e
 item:=by
  intro X l m n G i pins s σ H E I g st q;subst l m n;have⟨xs,x,j,r⟩:=q;have⟨J,t,p,hz⟩:=I.list j;have⟨u,L,N⟩:=t.get r;have⟨y,A,O,B,C,D⟩:=g it (by simp);show wpAny_pyNext_list_item st p.isList (x:=u) (by simpa using L) λh' st' Q=>?_;have T:Inv X pins σ H {s with heap:=h' }:=I.turned (t':=s.toks) (λb o f e=>(Q.2 b f).trans e) y A B C D;have⟨o,e,c,d⟩:=id st';show⟨u,rfl,qU (s:={s with heap:=h' }) e c d (by decide) ⟨x,H,T,N,⟨rfl,λys Y=>by rw[I.uC Y j];show r⟩,st',λb f=>(g b f).1⟩⟩
 done:=by
  intro X l m n G i pins s σ H E I g st q;subst l m n;have⟨xs,j,r⟩:=q;have⟨J,t,p,hz⟩:=I.list j;have⟨y,A,O,B,C,D⟩:=g it (by simp);have hl:=t.length;show wpAny_pyNext_list_end (I.ok.hd G) st p.isList (by simp;lia) λh' eb=>⟨rfl,I.turned (t':=s.toks) (λb o f e=>eb b o f e) y A B C D⟩
 self:=λ_ _ _ _ _ st h=>wpAny_pyIter_listiter st h
def pw{K:PySem.W.Frag}(a it:gs):Turn P w K tg (M_ K a) [it] it (λi h=>h.IsTupleIter it a i) where
 mem:=by simp
 obj:=λi h st b f=>by
  have e:b=it:=by simpa using f
  subst e;have⟨o,e,c,d⟩:=st;show⟨o,e,λv z=>by rw[d]at z;cases z⟩
 keep:=λi h h' st k=>st.at λo e=>k it (by simp) o e
 item:=by
  intro X l m n J i pins s σ H E I g st q;subst l m n;have⟨xs,x,j,r⟩:=q;have⟨t,y,p,hz⟩:=I.tuple j;have⟨u,L,N⟩:=y.get r;have⟨A,B,O,C,D,G⟩:=g it (by simp);show wpAny_pyNext_tuple_item st (show s.heap.IsTuple a t.toArray from p) (x:=u) (by simpa using L) λh' st' Q=>?_;have T:Inv X pins σ H {s with heap:=h' }:=I.turned (t':=s.toks) (λb o f e=>(Q.2 b f).trans e) A B C D G;have⟨o,e,c,d⟩:=id st';show⟨u,rfl,qU (s:={s with heap:=h' }) e c d (by decide) ⟨x,H,T,N,⟨rfl,λys Y=>by rw[I.sU Y j];show r⟩,st',λb f=>(g b f).1⟩⟩
 done:=by
  intro X l m n J i pins s σ H E I g st q;subst l m n;have⟨xs,j,r⟩:=q;have⟨t,y,p,hz⟩:=I.tuple j;have⟨A,B,O,C,D,G⟩:=g it (by simp);have hl:=y.length;show wpAny_pyNext_tuple_end (I.ok.hd J) st (show s.heap.IsTuple a t.toArray from p) (by simp;lia) λh' eb=>⟨rfl,I.turned (t':=s.toks) (λb o f e=>eb b o f e) A B C D G⟩
 self:=λ_ _ _ _ _ st h=>wpAny_pyIter_tupleiter st h
def pz{K:PySem.W.Frag}(it:gs)(lo:Int)(n:Nat):Turn P w K J (K2 lo n) [it] it (λi h=>IsRangeIter h it (lo+(i:Nat) * 1) ((n:Int) - (i:Nat)) 1) where
 mem:=by simp
 obj:=λi h st b a=>by
  have e:b=it:=by simpa using a
  subst e;show⟨_,st,λv z=>by
   have y:Data.fields _=Yn v:=z;cases y⟩
 keep:=λi h h' st k=>k it (by simp) _ st
 item:=by
  intro X d f g j i pins s σ H E I c st l;subst d f g;have⟨m,p,A,q,r,u⟩:=c it (by simp);have W:=Walks.range (prog:=X.prog) (w:=X.w) (I.ok.hd j) it lo 1 n;show W.item i s _ _ l st λv h' x B st' C=>?_;have⟨t,rfl⟩:=B;have D:Inv X pins σ H {s with heap:=h',toks:=x}:=I.turned (λb o a e=>C b o (by simpa using a) e) m p q r u;show⟨_,rfl,qU (s:={s with heap:=h',toks:=x}) (n:="range_iterator") st' rfl rfl (by decide) ⟨.int (lo+i),H,D,⟨t,?_⟩,⟨rfl,rfl⟩,st',λb a=>(c b a).1⟩⟩;rw[Int.mul_one]
 done:=by
  intro X d f g j i pins s σ H E I c st l;subst d f g;have⟨m,p,A,q,r,u⟩:=c it (by simp);show wpAny_pyNext_range_end (I.ok.hd j) st (by have:n<=i:=l;lia) λh' G=>⟨rfl,I.turned (t':=s.toks) (λb o a e=>G b o a e) m p q r u⟩
 self:=λ_ _ _ _ _ st h=>wpAny_pyIter_rangeiter st h
section
abbrev CA(K:PySem.W.Frag)(c:TE):TI:=λσ H R=>c σ H λx b=>∃a,x=.ref a/\(∃xs,Fm K b a xs)/\R (M9 K a) b
abbrev Ee(K:PySem.W.Frag)(c:TE):TI:=λσ H R=>c σ H λx b=>∃a,x=.ref a/\(∃xs,Fe K b a xs)/\R (M_ K a) b
def xP(hl:PE X l d):PI X n l (CA X.K d):=by
 intro pins s σ H R I h;show ER (hl pins s σ H _ I h) λv s1 f=>?_;have⟨x,g,c,i,j⟩:=f;obtain⟨a,e,⟨xs,k⟩,q⟩:=j;subst e;cases i;have⟨r,t,p,hz⟩:=c.list k;show QV p.isList ?_;show⟨s1.heap.objs.size,[s1.heap.objs.size],_,_,g,rfl,c.kept (t':=s1.toks) λb o e=>dV _ e,sV a _,⟨_,hY _ rfl,rfl,rfl⟩,λb m=>?_,q⟩;have e:b=s1.heap.objs.size:=by simpa using m
 subst e;show c.xO (ke _) (c.EN.fresh (ke _))
def Aw(hl:PE X l d):PI X r l (Ee X.K d):=by
 intro pins s σ H R I h;show ER (hl pins s σ H _ I h) λv s1 f=>?_;have⟨x,g,c,i,j⟩:=f;obtain⟨a,e,⟨xs,k⟩,q⟩:=j;subst e;cases i;have⟨m,t,p,hz⟩:=c.tuple k;show Xh (show s1.heap.IsTuple a m.toArray from p) ?_;show⟨s1.heap.objs.size,[s1.heap.objs.size],_,_,g,rfl,c.kept (t':=s1.toks) λb o e=>dV _ e,pw a _,⟨_,hY _ rfl,rfl,rfl⟩,λb n=>?_,q⟩;have e:b=s1.heap.objs.size:=by simpa using n
 subst e;show c.xO (ke _) (c.EN.fresh (ke _))
def nU{lo a:Int}(I:Inv X pins σ H s)(f:-(2 ^ 62)<=lo)(g:lo<2 ^ 62)(h:-(2 ^ 62)<=a)(i:a<2 ^ 62)
  (q:R (K2 lo (a - lo).toNat) H):eH (ko X.prog X.w) X.A (Ua (.ref s.heap.objs.size)) (Pt X pins σ m R) E {s with heap:=s.heap.push {cls:=.type "range",data:=.fields #[.int lo t,.int a u,.int 1 v]},toks:=d}:=by
 show wpAny_pyIter_range (IsRange.new ..) (small_one f g h i) ?_;have c:Inv X pins σ H {s with heap:=s.heap.push {cls:=.type "range",data:=.fields #[.int lo t,.int a u,.int 1 v]},toks:=d}:=I.kept λb o e=>dV _ e;show⟨(s.heap.push {cls:=.type "range",data:=.fields #[.int lo t,.int a u,.int 1 v]}).objs.size,[(s.heap.push {cls:=.type "range",data:=.fields #[.int lo t,.int a u,.int 1 v]}).objs.size],_,_,H,rfl,
  c.kept (t':=d) λb o e=>dV _ e,pz _ lo (a - lo).toNat,?_,λb j=>?_,q⟩
 .have k:lo+((0:Nat):Int) * 1=lo:=by simp
  have l:(((a - lo).toNat:Nat):Int) - ((0:Nat):Int)=XS lo a 1:=by rw[rangeSize_one];split<;>lia
  change IsRangeIter _ _ (lo+((0:Nat):Int) * 1) ((((a - lo).toNat:Nat):Int) - ((0:Nat):Int)) 1;rw[k,l];show hY _ rfl
 .have e:b=(s.heap.push {cls:=.type "range",data:=.fields #[.int lo t,.int a u,.int 1 v]}).objs.size:=by simpa using j
  subst e;show c.xO (ke _) (c.EN.fresh (ke _))
abbrev CB(a:TA):TI:=λσ H R=>a σ H λvs b=>∃j:Int,vs=[.int j]/\-(2 ^ 62)<=j/\j<2 ^ 62/\R (K2 0 j.toNat) b
abbrev CC(a:TA):TI:=λσ H R=>a σ H λvs b=>∃i j:Int,vs=[.int i,.int j]/\(-(2 ^ 62)<=i/\i<2 ^ 62/\-(2 ^ 62)<=j/\j<2 ^ 62)/\R (K2 i (j - i).toNat) b
def sW(c:Gl X "range")(d:X.mg "range"=b6)(f:PA X [a] g)(hs:mx [a] X.env=[(cb,Ka a X.env)]:=by rfl):PI X n (.Call (.Name "range" p) [a] [] pos) (CB g):=by
 intro pins s σ H R I h;show Call_ (dk I c d boot_range (LF (ER (f pos pins s σ H _ I h) λus s1 ⟨vs,o,i,k,b⟩=>?_) hs rfl));have⟨j,e,b,l,q⟩:=b;subst e;cases k with
 |cons r m =>
  cases m;have⟨t,rfl⟩:=r;show call_range_1 (nU i ⋯ ⋯ b l (by simpa using q))
def sX(g:Gl X "range")(k:X.mg "range"=b6)(l:PA X [a,b] m)(hs:mx [a,b] X.env=[(cb,Ka a X.env),(cb,Ka b X.env)]:=by rfl)(f:mx [b] X.env=[(cb,Ka b X.env)]:=by rfl):
  PI X y (.Call (.Name "range" p) [a,b] [] pos) (CC m):=by
 intro pins s σ H R I h;show Call_ (dk I g k boot_range (LF (ER (l pos pins s σ H _ I h) λus s1 ⟨vs,z,n,o,c⟩=>?_) (by rw[hs,f]) (by rw[f];rfl)));obtain⟨i,j,e,⟨c,u,v,w⟩,q⟩:=c;subst e;cases o with
 |cons r d =>
  cases d with
  |cons x d =>
   cases d;have⟨t,rfl⟩:=r;have⟨t',rfl⟩:=x;show call_range_2 (nU n c u v w q)
abbrev Ef(c:TI)(g:TG)(d:TS):TS:=λD σ H=>c σ H λJ e=>∃W:Nat->Nat->St->Hp->Prop,(∃m,W 0 m σ e)/\∀i m σ H,W i m σ H ->
 (J.stop i H/\D.nx σ H)\/(J.go i H/\∃N:St->Hp->Prop,(∀a H',N a H'->∃b,b<m/\W (i+1) b a H')/\∀x H',J.Ml i H x H'->g x σ H' λf h=>d {D with nx:=N,ct:=N,bk:=D.nx} f h)
abbrev jA(a:List gs)(h:IE):List (gs×Obj):=a.filterMap λb=>(h.get? b).map λo=>(b,o)
def dR(a:b∈c)(e:h.get? b=a5 o):(b,o)∈jA c h:=JC.mpr ⟨b,a,by rw[e];rfl⟩
def sY(a:p∈jA c h):p.1∈c/\h.get? p.1=a5 p.2:=by
 have⟨b,d,e⟩:=JC.mp a;cases q:h.get? b with
 |none=>rw[q]at e;cases e
 |some o =>
  rw[q]at e;have f:(b,o)=p:=wk e;subst f;show⟨d,q⟩
def Inv.pinned(I:Inv X pins σ H s)(g:∀b∈a,jj X pins H b)(ho:∀b∈a,∃o,s.heap.get? b=a5 o/\∀v,o.data≠.cell v):Inv X (pins++jA a s.heap) σ H s :=
 I.fv λp h=>(l'.mp h).elim (λz=>I.pin p (ti _ z)) λz=>by
  have⟨c,e⟩:=sY z;obtain⟨i,j,k,_⟩:=g p.1 c;have⟨o,f,d⟩:=ho p.1 c;rw[e]at f;cases f;show⟨e,i,j,k,d⟩
def Inv.jB(I:Inv X (pins++b) σ H s):Inv X pins σ H s:=I.fv λp a=>I.pin p (ti _ (JZ _ a))
def Ax(q:Vc (ko X.prog X.w) X.A X.env X.xe)(hc:X.calm=b7)(hi:PI X tg l wi)(hg:PG X tg g)(a:FF X body tb)
  (hs:∀x,Lr l X.env x=pure x:=by intro _;rfl):PS X (.For tg l body [] pos) (Ef wi g tb):=by
 intro pins s σ H D I h;show wpAny_For (ER (hi pins s σ H _ I h) λv s1 h1=>ER h1 λMm s2 h2=>?_) hs;obtain⟨it,t,tn,J,H2,e,I2,T,st2,f2,W,⟨m0,w0⟩,y⟩:=h2;subst e;have L:∀{H':Hp},(∀b∈t,H' b=b6)->∀b∈t,jj X pins H' b:=λhn b a=>⟨hn b a,(f2 b a).2⟩
 show codeAny_forLoop_any (λn s'=>∃i z H',Inv X pins z H' s'/\tn i s'.heap/\(∀b∈t,H' b=b6)/\W i n z H') ?_ m0 ⟨0,σ,H2,I2,st2,λb a=>(f2 b a).1,w0⟩;rintro n s3 ⟨i,B,G,I3,st3,K3,w3⟩;rcases y i n B G w3 with⟨C,qn⟩|⟨go,N,hN,VZ⟩
 .show Mp q (ER (T.done X rfl rfl rfl hc i pins s3 B G X.xe I3 (L K3) st3 C) λr s4 Nb=>?_);have⟨O,I4⟩:=Nb;subst O;show Mq ⟨B,G,I4,qn⟩
 .show Mp q (ER (T.item X rfl rfl rfl hc i pins s3 B G X.xe I3 (L K3) st3 go) λr s4 Nc=>?_);have⟨u,O,h4⟩:=Nc;subst O;show Mp q (ER h4 λ_ s5 Nd=>?_);have⟨x,H5,I5,r5,y5,Q,Nf⟩:=Nd;have Ng:=I5.pinned (L Nf) (T.obj _ _ Q);show Mp q (ER (hg _ s5 B H5 x u _ Ng r5 (VZ x H5 y5)) λ_ s6 Nh=>?_);have⟨σ6,H6,I6,q6⟩:=Nh;show Mp q (ER (a _ s6 σ6 H6 _ I6 q6) λf Y p=>?_);have Yg:∀{c:St} {j:Hp},Inv X (pins++jA t s5.heap) c j Y->N c j->∃m,m<n/\∃i z H',Inv X pins z H' Y/\tn i Y.heap/\(∀b∈t,H' b=b6)/\W i m z H':=λ{c j} k n7=>by
   have⟨m',hm,w7⟩:=hN c j n7;show⟨m',hm,i+1,c,j,k.jB,T.keep _ _ _ Q λb a o e=>(k.pin (b,o) (ti _ (ti _ (dR a e)))).1,λb a=>?_,w7⟩;have⟨o,e,d⟩:=T.obj _ _ Q b a;show(k.pin (b,o) (ti _ (ti _ (dR a e)))).2.1
  cases f with
  |brk=>have⟨c,j,k,p⟩:=p;show⟨c,j,k.jB,p⟩
  |ret v=>have⟨x7,c,j,k,r7,p⟩:=p;show⟨x7,c,j,k.jB,r7,p⟩
  |_=>have⟨c,j,k,n7⟩:=p;show Yg k n7
end
@[reducible]noncomputable def R2:=V->V->Hp->VK->Prop
abbrev FW(X:Cx)(f:d6->d6->Sem d6)(r:R2):Prop :=
 ∀(pins:List (gs×Obj)) (s:fx) (σ:St) (H:Hp) (x y:V) (v u:d6) (Q:VK),Inv X pins σ H s->RelV x v->RelV y u->r x y H Q ->
  eH (ko X.prog X.w) X.A (f v u) (EP X pins σ Q) X.xe s
abbrev Ni(X:Cx)(f:d6->Sem d6)(r:V->Hp->VK->Prop):Prop :=
 ∀(pins:List (gs×Obj)) (s:fx) (σ:St) (H:Hp) (x:V) (v:d6) (Q:VK),Inv X pins σ H s->RelV x v->r x H Q ->
  eH (ko X.prog X.w) X.A (f v) (EP X pins σ Q) X.xe s
abbrev fK(X:Cx)(f:d6)(r:List V->Hp->VK->Prop):Prop :=
 ∀(pins:List (gs×Obj)) (s:fx) (σ:St) (H:Hp) (xs:List V) (us:List d6) (Q:VK),Inv X pins σ H s->Vals xs us->r xs H Q ->
  eH (ko X.prog X.w) X.A (Nk f us) (EP X pins σ Q) X.xe s
abbrev Eg(X:Cx)(r:V->Hp->(Bool->Hp->Prop)->Prop):Prop :=
 ∀(pins:List (gs×Obj)) (s:fx) (σ:St) (H:Hp) (x:V) (v:d6) (Q:Bool->Hp->Prop),Inv X pins σ H s->RelV x v->r x H Q ->
  eH (ko X.prog X.w) X.A (X7 v) (TP X pins σ Q) X.xe s
abbrev QW(r:V->Hp->VK->Prop)(a:TE):TE:=λσ H Q=>a σ H λx b=>r x b Q
abbrev rI(C:Int->Int->Prop)(g:Int->Int->V):R2:=λx y H Q=>∃i j,x=.int i/\y=.int j/\C i j/\Q (g i j) H
abbrev Jg(g:Int->Int->V):R2:=λx y H Q=>∃i j,x=.int i/\y=.int j/\Q (g i j) H
abbrev rU(g:Int->V):V->Hp->VK->Prop:=λx H Q=>∃i,x=.int i/\Q (g i) H
section
def CD(ho:Ni X (unaryOp op) r)(b:PE X a c):PE X (.UnaryOp op a pos) (QW r c):=by
 intro pins s σ H Q I h;show UnaryOp_ (ER (b pins s σ H _ I h) λv s1 ⟨x,d,e,f,g⟩=>ho pins s1 σ d x v Q e f g)
def Mn{g:Int->Int->Int}
  (Xl:∀(i j:Int) (t u:Tok) (s:fx) (Q:d6->fx->Prop) (E:d6->fx->Prop),C i j->Q (.int (g i j) s.toks) {s with toks:=s.toks+1}->eH (ko X.prog X.w) X.A (f (.int i t) (.int j u)) Q E s) :
  FW X f (rI C λi j=>.int (g i j)):=by
 intro pins s σ H x y v u Q I a b h;have⟨i,j,rfl,rfl,c,q⟩:=h;have⟨t,rfl⟩:=a;have⟨t',rfl⟩:=b;show Xl i j t t' s _ _ c ⟨.int (g i j),H,I.tok _,⟨_,rfl⟩,q⟩
def CF{g:Int->Int->Int}
  (Xl:∀(i j:Int) (t u:Tok) (s:fx) (Q:d6->fx->Prop) (E:d6->fx->Prop),Q (.int (g i j) s.toks) {s with toks:=s.toks+1}->eH (ko X.prog X.w) X.A (f (.int i t) (.int j u)) Q E s) :
  FW X f (Jg λi j=>.int (g i j)):=by
 intro pins s σ H x y v u Q I a b h;have⟨i,j,rfl,rfl,q⟩:=h;have⟨t,rfl⟩:=a;have⟨t',rfl⟩:=b;show Xl i j t t' s _ _ ⟨.int (g i j),H,I.tok _,⟨_,rfl⟩,q⟩
def xQ{g:Int->Int->Bool}
  (Xl:∀(i j:Int) (t u:Tok) (s:fx) (Q:d6->fx->Prop) (E:d6->fx->Prop),Q (.bool (g i j)) s->eH (ko X.prog X.w) X.A (f (.int i t) (.int j u)) Q E s) :
  FW X f (Jg λi j=>.bl (g i j)):=by
 intro pins s σ H x y v u Q I a b h;have⟨i,j,rfl,rfl,q⟩:=h;have⟨t,rfl⟩:=a;have⟨t',rfl⟩:=b;show Xl i j t t' s _ _ ⟨.bl (g i j),H,I,rfl,q⟩
abbrev Eh(i j:Int):Prop:=0<j/\j<1073741824
abbrev Ei(i j:Int):Prop:=0<=j/\j<=1000000/\i.natAbs<2 ^ 64
abbrev Ay(i j:Int):Prop:=(-(2 ^ 64)<i/\i<2 ^ 64)\/(-(2 ^ 64)<j/\j<2 ^ 64)
def Ay.ok(h:Ay i j):IntMulOk i j:=by
 rcases h with⟨a,b⟩|⟨a,b⟩
 .show .of_left (intBits_le_64 a b)
 .show .of_right (intBits_le_64 a b)
def cF:FW X (Nv .Add) (Jg λi j=>.int (i+j)):=CF λ_ _ _ _ _ _ _ q=>add_int q
def jC:FW X (Nv .Sub) (Jg λi j=>.int (i - j)):=CF λ_ _ _ _ _ _ _ q=>sub_int q
def l8:FW X (Nv .Mult) (rI Ay λi j=>.int (i * j)):=Mn λ_ _ _ _ _ _ _ a q=>mul_int q a.ok
def xR:FW X (Nv .FloorDiv) (rI Eh λi j=>.int (i / j)):=Mn λi j _ _ _ _ _ a q=>by
 have b:(0:Int)<j:=a.1;have c:j<1073741824:=a.2;show floordiv_int ⋯ (by rw[Int.fdiv_eq_ediv_of_nonneg i ⋯];show q) (.inl (PyProof.noPylong_small ⋯))
def bq:FW X (Nv .Mod) (rI (λ_ j=>0<j) λi j=>.int (i % j)):=Mn λi j _ _ _ _ _ a q=>by
 have b:(0:Int)<j:=a;show mod_int' ⋯ (by rw[Int.fmod_eq_emod_of_nonneg i ⋯];show q)
def l9:FW X (Nv .Pow) (rI Ei λi j=>.int (i ^ j.toNat)):=Mn λ_ _ _ _ _ _ _ a q=>pow_int_small a.1 a.2.1 a.2.2 q
def K4{g:Int->Int}
  (Xl:∀(i:Int) (t:Tok) (s:fx) (Q:d6->fx->Prop) (E:d6->fx->Prop),Q (.int (g i) s.toks) {s with toks:=s.toks+1}->eH (ko X.prog X.w) X.A (f (.int i t)) Q E s) :
  Ni X f (rU λi=>.int (g i)):=by
 intro pins s σ H x v Q I a h;have⟨i,rfl,q⟩:=h;have⟨t,rfl⟩:=a;show Xl i t s _ _ ⟨.int (g i),H,I.tok _,⟨_,rfl⟩,q⟩
def Az:Ni X (unaryOp .USub) (rU λi=>.int (-i)):=K4 λ_ _ _ _ _ q=>neg_int q
end
section
def uI(I:Inv X pins σ H s)(q:Q (.bl k) H)(e:k=k'):EP X pins σ Q (.bool k') s:=by
 subst e;show⟨.bl k,H,I,rfl,q⟩
def CG:FW X (Ks .Lt) (Jg λi j=>.bl (c4 (i<j))):=xQ λ_ _ _ _ _ _ _ q=>lt_int q
def CH:FW X (Ks .LtE) (Jg λi j=>.bl (c4 (i<=j))):=xQ λ_ _ _ _ _ _ _ q=>le_int q
def CI:FW X (Ks .Gt) (Jg λi j=>.bl (c4 (j<i))):=xQ λ_ _ _ _ _ _ _ q=>gt_int q
def CJ:FW X (Ks .GtE) (Jg λi j=>.bl (c4 (j<=i))):=xQ λ_ _ _ _ _ _ _ q=>ge_int q
def sZ:FW X (Ks .Lt) (λx y H Q=>∃i j,x=.str i/\y=.str j/\Q (.bl (c4 (i.cps.toList<j.cps.toList))) H):=by
 intro pins s σ H x y v u Q I a b h;have⟨i,j,rfl,rfl,q⟩:=h;have⟨t,rfl⟩:=a;have⟨t',rfl⟩:=b;show lt_str (uI I q rfl)
def s9:FW X (Ks .In) (λx y H Q=>∃i j,x=.str i/\y=.str j/\Q (.bl (!(y0 j i 0 j.length 1).isEmpty)) H):=by
 intro pins s σ H x y v u Q I a b h;have⟨i,j,rfl,rfl,q⟩:=h;have⟨t,rfl⟩:=a;have⟨t',rfl⟩:=b;show in_str (uI I q rfl)
abbrev CK(K:PySem.W.Frag)(x:V)(H:Hp)(k:Bool):Prop :=
 match x with
 |.EU=>k=cb
 |.bl b=>k=b
 |.int i=>k=(i != 0)
 |.str y=>y.length<=df/\k=((y.length:Int) != 0)
 |.Mg y=>y.size<=df/\k=((y.size:Int) != 0)
 |.ref p=>(∃xs,Fm K H p xs/\k=!xs.isEmpty)\/(∃xs,Fe K H p xs/\k=!xs.isEmpty)\/∃a,H p=a5 (.dK a)/\k=!a.isEmpty
 |_=>False
def pA(r:KV a vs):(!vs.isEmpty)=!a.isEmpty:=by
 cases r<;>rfl
def jD(r:Vals xs a):(!a.toArray.isEmpty)=!xs.isEmpty:=by
 cases r<;>simp
def fR:(df:Nat)<2 ^ 63:=by rw[sizeLine_eq];decide
def AA:Eg X (λx H Q=>∃k,CK X.K x H k/\Q k H):=by
 intro pins s σ H x v Q I d h;have⟨k,e,q⟩:=h;have hl:=fR;have hs:df=16777216:=sizeLine_eq;cases x with
 |EU =>
  cases d;have a:k=cb:=e;subst a;show truthy_none ⟨H,I,q⟩
 |bl b =>
  cases d;have a:k=b:=e;subst a;show GX ⟨H,I,q⟩
 |int i =>
  have⟨t,rfl⟩:=d;have a:k=(i != 0):=e;subst a;show PySem.P.truthy_int ⟨H,I,q⟩
 |str y =>
  have⟨t,rfl⟩:=d;obtain⟨l,a⟩:y.length<=df/\k=((y.length:Int) != 0):=e;subst a;show PySem.P.truthy_str ⋯ ⟨H,I.tok _,q⟩
 |Mg y =>
  have⟨t,rfl⟩:=d;obtain⟨l,a⟩:y.size<=df/\k=((y.size:Int) != 0):=e;subst a;show PySem.W.truthy_bytes ⋯ ⟨H,I.tok _,q⟩
 |ref p =>
  cases d;have a:(∃xs,Fm X.K H p xs/\k=!xs.isEmpty)\/(∃xs,Fe X.K H p xs/\k=!xs.isEmpty)\/∃f,H p=a5 (.dK f)/\k=!f.isEmpty:=e;rcases a with⟨xs,g,a⟩|⟨xs,g,a⟩|⟨f,g,a⟩
  .subst a;have⟨n,r,j,hz⟩:=I.list g;have c:=r.length;show wpAny_truthy_list j.isList (by simp only[js];lia) ⟨H,I.tok _,by rw[jD r];show q⟩
  .subst a;have⟨n,r,j,hz⟩:=I.tuple g;have c:=r.length;show truthy_tuple j (by simp only[js];lia) ⟨H,I.tok _,by rw[jD r];show q⟩
  .subst a;obtain⟨hz,o,vs,r,m⟩:f.length<=df/\(p==Jo)=cb/\∃vs,KV f vs/\s.heap.DictOf (bE X.prog X.w) p vs:=I.EN p _ g;have c:f.length=vs.length:=Paired.length r;show wpAny_truthy_dict o m ⋯ ⟨H,I.tok _,by rw[pA r];show q⟩
 |_=>show(show False from e).elim
def uJ(c:PE X a d)(e:∀b,isTrue a X.env b=(do let v <-b;Wk a.pos;Ou [v] (X7 v))):
  PT X a (λσ H Q=>d σ H λx H'=>∃k,CK X.K x H' k/\Q k H'):=by
 intro pins s σ H Q I h;show isTrue_plain (ER (c pins s σ H _ I h) λv s1 ⟨x,f,g,i,j⟩=>AA pins s1 σ f x v Q g i j) (e _)
def pB:FW X (Nv .Add) (λx y H Q=>∃i j,x=.str i/\y=.str j/\i.length+j.length<=df/\Q (.str (i++j)) H):=by
 intro pins s σ H x y v u Q I a b h;have⟨i,j,rfl,rfl,hz,q⟩:=h;have⟨t,rfl⟩:=a;have⟨t',rfl⟩:=b;show add_str (λt' c=>⟨.str (i++j),H,I.tok _,⟨_,rfl⟩,q⟩) hz
def vals1(r:Vals [x] us):∃u,us=[u]/\RelV x u:=by
 cases r with
 |cons a b=>cases b;show⟨_,rfl,a⟩
def vals2(r:Vals [x,y] us):∃u a,us=[u,a]/\RelV x u/\RelV y a:=by
 cases r with
 |cons b c =>
  cases c with
  |cons d e=>cases e;show⟨_,_,rfl,b,d⟩
def s_(b:X.calm=b7):fK X (.builtin "max") (λxs H Q=>∃i j,xs=[.int i,.int j]/\Q (.int (if j>i then j else i)) H):=by
 intro pins s σ H xs us Q I r h;have⟨i,j,rfl,q⟩:=h;obtain⟨u,c,rfl,⟨t,rfl⟩,⟨t',rfl⟩⟩:=vals2 r;show max_two_ints (I.ok.hd b) λh' d k=>⟨_,H,I.kept k,?_,q⟩
 by_cases a:j>i
 .rw[Yr a,Yr a];show⟨_,rfl⟩
 .rw[Yt a,Yt a];show⟨_,rfl⟩
def td(b:X.calm=b7):fK X (.builtin "min") (λxs H Q=>∃i j,xs=[.int i,.int j]/\Q (.int (if j<i then j else i)) H):=by
 intro pins s σ H xs us Q I r h;have⟨i,j,rfl,q⟩:=h;obtain⟨u,c,rfl,⟨t,rfl⟩,⟨t',rfl⟩⟩:=vals2 r;show min_two_ints (I.ok.hd b) λh' d k=>⟨_,H,I.kept k,?_,q⟩
 by_cases a:j<i
 .rw[Yr a,Yr a];show⟨_,rfl⟩
 .rw[Yt a,Yt a];show⟨_,rfl⟩
def l_:fK X (.type "str") (λxs H Q=>∃i,xs=[.int i]/\i.natAbs.log2<1920/\Q (.str (X5 i)) H):=by
 intro pins s σ H xs us Q I r h;have⟨i,rfl,hz,q⟩:=h;have⟨u,rfl,t,rfl⟩:=vals1 r;show PySem.P.str_of_int hz ⟨.str _,H,I.tok _,⟨_,rfl⟩,q⟩
end
section
end
section
end
structure QX(K:PySem.W.Frag)(C:gs):Prop where
 pg:PySem.W.plainGet K C JG=b7
 hd:PySem.W.hasDictIn K C=b7
 po:PySem.W.plainOver K C=b7
 sa:PySem.W.findIn K (.ref C) "__setattr__"=a5 (a5 (.builtin "object.__setattr__"))
section
end
section
end
section
inductive jE(K:PySem.W.Frag)(H:Hp):V->d6->Prop where
 |EU:jE K H .EU (.type "NoneType")
 |bl (x:Bool):jE K H (.bl x) (.type "bool")
 |int (i:Int):jE K H (.int i) (.type "int")
 |str (x:Str):jE K H (.str x) (.type "str")
 |Mh (x:UInt64):jE K H (.Mh x) (.type "float")
 |lst {a:gs} {xs:List V} (e:H a=a5 (.lst xs)):jE K H (.ref a) (.type "list")
 |F9 {a:gs} {o:Obj} {xs:List V} (e:H a=a5 (.F9 o (.lst xs))):jE K H (.ref a) (.type "list")
 |tup {a:gs} {xs:List V} (e:H a=a5 (.tup xs)):jE K H (.ref a) (.type "tuple")
 |dK {a:gs} {EK:List (Key×V)} (e:H a=a5 (.dK EK)):jE K H (.ref a) (.type "dict")
 |dT {a:gs} {EK:List (List Key×V)} (e:H a=a5 (.dT EK)):jE K H (.ref a) (.type "dict")
 |ins {a C dx:gs} {fs:List (Str×V)} (e:H a=a5 (.ins C dx fs)) (cl:QX K C) (ha:PySem.W.findIn K (.ref C) "__class__"=a5 (a5 (.builtin "object.__class__")))
   (hn:PySem.W.specialIn K (.builtin "object.__class__") "__get__"=a5 (a5 (.builtin "getset_descriptor.__get__"))) (QY:PySem.W.takesIn K (.builtin "object.__class__")=a5 b7)
   (hm:PySem.W.mroIn K C (.type "object")=a5 b7):jE K H (.ref a) (.ref C)
end
structure dn(k:Nat)(A:Ke):Prop where
 hd:A.handled=b6
 dp:A.depth+3 * k+5<VA
 un:A.units+16 * k+200<Ga
 gd:A.guards=a5 []
def dn.deeper(r:dn (k+1) A)(env:Env):dn k (A.deeper env) :=
 ⟨r.hd,by have:=r.dp;change A.depth+1+3 * k+5 < _;lia,by have:=r.un;change A.units+3+16 * k+200 < _;lia,r.gd⟩
def dn.depth(r:dn k A):A.depth<VA:=by have:=r.dp;lia
abbrev CL:TA:=λ_ H Q=>Q [] H
abbrev zx(a:TE)(b:TA):TA:=λσ H Q=>a σ H λx c=>b σ c λxs d=>Q (x::xs) d
section
def eO:PA X [] CL:=λ_ _ _ _ H Q I h=>P8 ⟨[],H,I,.nil,h⟩
def bY(a:PE X e te)(b:PA X es t)(hs:mx (e::es) X.env=(cb,Ka e X.env)::mx es X.env:=by rfl):PA X (e::es) (zx te t):=by
 intro pos pins s σ H Q I h;rw[hs];change eH _ _ (Xy ((cb,Ka e X.env)::Kc pos (mx es X.env))) _ _ s;show Pm (ER (a pins s σ H _ I h) λu s1 c=>?_);have⟨x,d,f,g,i⟩:=c;show ER (b pos pins s1 σ d _ f i) λus s2 ⟨xs,j,k,l,m⟩=>⟨x::xs,j,k,.cons g l,m⟩
abbrev Ej(t:TA):TE:=λσ H Q=>t σ H λxs a=>xs.length<=df/\∀p,a p=b6->Q (.ref p) (upd a p (.lst xs))
def AB(h:PA X es t):PE X (.List es pos) (Ej t):=by
 intro pins s σ H Q I d;show Xk (ER (h pos pins s σ H _ I d) λus s1 ⟨xs,a,c,r,z,q⟩=>⟨by rw[<-r.length];show z,?_⟩);have f:a s1.heap.objs.size=b6:=c.EN.fresh (ke _);show⟨.ref s1.heap.objs.size,upd a s1.heap.objs.size (.lst xs),c.laid (t':=s1.toks) (λb u e=>dV _ e) (ke _) ?_,rfl,q _ f⟩;show⟨z,us,0,r,hY _ rfl⟩
end
@[reducible]noncomputable def Sp:=List V->Hp->VK->XK->Prop
@[reducible]noncomputable def IC:=List Env->Hp->fx->XK->d6->fx->Prop
structure tf(P:vu)(w:DD)(K:PySem.W.Frag)(mg:Str->Option d6)(base:IE)(A:Ke)(outer:List Env)(s:fx)(H:Hp):Prop where
 frames:A.frames=a5 outer
 mod:Mod K mg base
 bs:∀b o,base.get? b=a5 o->s.heap.get? b=a5 o/\H b=b6
 HF:base.objs.size<=s.heap.objs.size
 gz:s.heap.FunFrames base outer
 IB:∀b∈Ff outer,H b=b6
 EN:FA P w H s.heap
 bare:Q4 s.gens
abbrev CE(outer:List Env)(P:vu)(w:DD)(H:Hp)(s:fx)(Q:VK)(u:d6)(s':fx):Prop :=
 ∃v H',s'.os=s.os/\Q4 s'.gens/\Un (Ff outer) [] H H' s.heap s'.heap/\FA P w H' s'.heap/\RelV v u/\Q v H'
abbrev CR(CX:IC)(outer:List Env)(P:vu)(w:DD)(H:Hp)(s:fx)(Q:VK)(E:XK)(r:Yl)(s':fx):Prop :=
 match r with
 |.ok (.ret u)=>CE outer P w H s Q u s'
 |.ok _=>False
 |.error e=>CX outer H s E e s'
structure gD(P:vu)(w:DD)(K:PySem.W.Frag)(mg:Str->Option d6)(base:IE)(CX:IC)(k:Nat)(f:gs)(fd:OF)(ps:List Str)(sp:Sp):Prop where
 len:∀vs H Q E,sp vs H Q E->vs.length=ps.length
 run:∀(A:Ke) (outer:List Env) (s:fx) (H:Hp) (args:Args) (us:List d6) (vs:List V) (Q:VK) (E:XK),dn k A->tf P w K mg base A outer s H->Vu s fd args (ps.zip us)->Vals vs us->sp vs H Q E ->
  Ov (ko P w) A (.call (.ref f) args) (CR CX outer P w H s Q E) s
section
def Inv.AD(I:Inv X pins σ H s):tf X.prog X.w X.K X.mg X.base X.A X.stack s H :=
 ⟨I.ok.frames,I.ok.mod,I.bs,Hm I.ok.HF I.sz,I.stack,I.gA,I.EN,I.bare⟩
def Inv.after(I:Inv X pins σ H s)(h:CE X.stack X.prog X.w H s Q u s'):EP X pins σ Q u s':=by
 have⟨v,H',os,a,c,e,r,q⟩:=h;have⟨hh,g,d,t,f⟩:=s';obtain rfl:f=s.os:=os;show⟨v,H',I.call (h':=hh) (g':=g) (d':=d) (t':=t) (ch:=[]) c e a (λb z=>absurd z (by simp)),r,q⟩
end
abbrev Binds(K:PySem.W.Frag)(c:OF)(a:List Str)(b:List d6):Prop :=
 ∀(s:fx) (us:List d6),K.In s.heap->(us++b).length=a.length->Vu s c ⟨us,[]⟩ (a.zip (us++b))
def Binds.all{K:PySem.W.Frag}(h:∀us:List d6,us.length=a.length->Ye b ⟨us,[]⟩=pure (a.zip us)):Binds K b a []:=λs us _ hl=>by
 rw[w6]at hl ⊢;show .of_eq (h us hl)
abbrev Passes(CX:IC)(X:Cx)(E:XK):Prop:=∀(pins:List (gs×Obj)) (σ:St) (H:Hp) (s:fx) (e:d6) (s':fx),Inv X pins σ H s->CX X.stack H s E e s'->X.xe e s'
section
def uK(F:gD X.prog X.w X.K X.mg X.base CX k f i d sp)(j:dn k X.A)(l:Binds X.K i d a)(m:Vals b a)(n:Passes CX X E)
  (I:Inv X pins σ H s) (r:Vals vs us) (h:sp (vs++b) H Q E):eH (ko X.prog X.w) X.A (Nk (.ref f) us) (EP X pins σ Q) X.xe s:=by
 have g:Vals (vs++b) (us++a):=r.append m;have hl:(us++a).length=d.length:=by rw[<-g.length];show F.len _ _ _ _ h
 show UD (Mc (F.run X.A X.stack s H ⟨us,[]⟩ (us++a) (vs++b) Q E j I.AD (l s us I.G0 hl) g h) λr s' c=>?_);cases r with
 |error e=>show n pins σ H s e s' I c
 |ok o =>
  cases o with
  |ret u=>show I.after c
  |_=>show Kf c
end
section
end
structure cJ(N P:List Str)(sc:Lc):Prop where
 kind:sc.kind=.function
 co:sc.isCoroutine=cb
 gen:sc.isGenerator=cb
 nd:N.Nodup
 pre:N.take P.length=P
 par:∀x∈P,sc.names.lookup x=a5 .local\/sc.names.lookup x=a5 .cell
 HH:∀y∈sc.names,y.2≠.free
theorem lj{kindOf:Str->Option K7}:∀{a:List (Str×d6)}{m:Str->Option d6},(∀v,(x,v)∉a)->VD kindOf a m x=m x
 |[],_,_=>rfl
 |(n,v)::r,m,h=>by
  unfold VD;rw[lj λw b=>h w (ek _ b)];split
  .have:x≠n:=by rintro rfl;show h v gw
   simp[this]
  .rfl
theorem ll{kindOf:Str->Option K7}:∀{a:List (Str×d6)}{m:Str->Option d6},(∀v,(x,v)∉a)->VE kindOf a m x=m x
 |[],_,_=>rfl
 |(n,v)::r,m,h=>by
  unfold VE;rw[ll λw b=>h w (ek _ b)];split
  .rfl
  .have:x≠n:=by rintro rfl;show h v gw
   simp[this]
theorem ij{kindOf:Str->Option K7}:∀{P:List Str}{vs:List d6}{i:Nat}{m:Str->Option d6},P.Nodup->P[i]?=a5 x->vs[i]?=a5 v->kindOf x=a5 .local ->
  VD kindOf (P.zip vs) m x=a5 v
 |[],_,_,_,_,h,_,_=>by simp at h
 |_::_,[],_,_,_,_,h,_=>by simp at h
 |p::P,w::vs,0,m,c,a,b,hk=>by
  simp at a b;subst a;subst b;change VD kindOf ((p,w)::P.zip vs) m p=_;unfold VD;rw[lj λv d=>(Hc.mp c).1 (RE d).1,Yr hk];simp
 |p::P,w::vs,i+1,m,c,a,b,hk=>by
  change VD kindOf ((p,w)::P.zip vs) m x=_;unfold VD;show ij (i:=i) (Hc.mp c).2 (by simpa using a) (by simpa using b) hk
theorem il{kindOf:Str->Option K7}:∀{P:List Str}{vs:List d6}{i:Nat}{m:Str->Option d6},P.Nodup->P[i]?=a5 x->vs[i]?=a5 v->kindOf x≠a5 .local ->
  VE kindOf (P.zip vs) m x=a5 v
 |[],_,_,_,_,h,_,_=>by simp at h
 |_::_,[],_,_,_,_,h,_=>by simp at h
 |p::P,w::vs,0,m,c,a,b,hk=>by
  simp at a b;subst a;subst b;change VE kindOf ((p,w)::P.zip vs) m p=_;unfold VE;rw[ll λv d=>(Hc.mp c).1 (RE d).1,Yt hk];simp
 |p::P,w::vs,i+1,m,c,a,b,hk=>by
  change VE kindOf ((p,w)::P.zip vs) m x=_;unfold VE;show il (i:=i) (Hc.mp c).2 (by simpa using a) (by simpa using b) hk
abbrev start(N:List Str)(vs:List V):St:=vs.map a5++pb (N.length - vs.length) b6
abbrev mf(CX:IC)(P:vu)(w:DD)(K:PySem.W.Frag)(mg:Str->Option d6)(base:IE)(N:List Str)(a:Str)(scope:Lc)(f:gs)(b:d6)(A:Ke)(outer:List Env)(s:fx)(H:Hp)(E:XK):Cx where
 prog:=P
 w:=w
 K:=K
 mg:=mg
 base:=base
 A:=A.deeper (P5 a scope s.heap.objs.size f b)
 N:=N
 s₀:=s
 H₀:=H
 env:=P5 a scope s.heap.objs.size f b
 outer:=outer
 stack:=P5 a scope s.heap.objs.size f b::outer
 ex:=[]
 calm:=b7
 fn:=λ_=>b7
 pn:=[]
 xe:=λe s'=>eH (ko P w) (A.deeper (P5 a scope s.heap.objs.size f b)) (leaving (P5 a scope s.heap.objs.size f b) e) (λ_ c=>CX outer H s E e c) (λd c=>CX outer H s E d c) s'
def gE{a:Lc}(h:a.names.lookup x=a5 .cell):∃c,(Ky n a.names []).lookup x=a5 c:=by
 have q:=PySem.W.cellsFrom_some a.names n [] (.inl h);show P9.mp q
def tm{K:PySem.W.Frag}
  (S:cJ N l scope) (I:A.handled=b6) (j:tf P w K mg base A outer s H) (hl:vs.length=l.length) (r:Vals vs us)
  (x:InCallC s s.heap.objs.size (VD (P5 g scope s.heap.objs.size f B).kindOf (l.zip us) λ_=>b6) (Ky (s.heap.objs.size+1) scope.names []) (VE (P5 g scope s.heap.objs.size f B).kindOf (l.zip us) λ_=>b6) s1) :
  Inv (mf CX P w K mg base N g scope f B A outer s H E) [] (start N vs) H s1:=by
 have O:l.length<=N.length:=by have:=Yy KX S.pre;rw[tj]at this;lia
 have⟨o,Q,rfl,hk⟩:=x.done;have C:∀b:gs,b∉(mf CX P w K mg base N g scope f B A outer s H E).ex:=λb z=>absurd (show b∈([]:List gs) from z) (by simp);show⟨⟨j.mod,S.kind,rfl,rfl,ke _,λy z c o d=>?_,λy hy=>?_,λy c _ h=>?_,λ_=>I,Vv j.frames,.inr ⟨rfl,rfl⟩,λb z=>absurd z (C b),j.bs,j.HF,λb _ _=>C b,λb z=>absurd z (C b),j.gz,j.IB⟩,
  rfl,j.bare,Un.kept hk,⟨_,x.toInCall.ns,λi y v o d T=>?_⟩,λy c h=>⟨_,x.cell y c h⟩,j.EN.fresh (ke _),λy c h=>?_,λp m=>absurd (show p∈([]:List (gs×Obj)) from m) (by simp),j.EN.kept hk,?_⟩
 .show name_of_addr x.apart (PySem.mem_of_lookup o) (PySem.mem_of_lookup d)
 .have hy:scope.names.lookup y=a5 .cell\/scope.names.lookup y=a5 .free:=hy;rcases hy with hy|hy
  .show gE hy
  .show absurd rfl (S.HH _ (PySem.mem_of_lookup hy))
 .show JY (x.above y c (PySem.mem_of_lookup h))
 .have t:i<vs.length:=by
   unfold start at d;by_cases t:i<vs.length
   .show t
   .rw[va (by simpa using t)]at d;rw[Ii]at d;split at d<;>cases d
  have J:vs[i]?=a5 v:=by
   unfold start at d;rw[ve (by simpa using t),nt]at d;cases e:vs[i]? with
   |none=>rw[e]at d;cases d
   |some a=>rw[e]at d;cases d;rfl
  have⟨u,D,L⟩:=r.get J;have m:l[i]?=a5 y:=by
   rw[<-S.pre,QF ⋯];show o
  have G:l.Nodup:=by rw[<-S.pre];show S.nd.sublist (Up _ _)
  show⟨u,L,?_⟩;rcases S.par y (Hb m) with k|k
  .show .inl ⟨k,ij G m D k⟩
  .have⟨c,e⟩:=gE (n:=s.heap.objs.size+1) k;show .inr ⟨.inl k,c,e,?_⟩;have q:=x.cell y c e;rw[il G m D (by change scope.names.lookup y≠_;rw[k];decide)]at q;show q
 .show j.EN.fresh (JY (x.above y c (PySem.mem_of_lookup h)))
 .unfold start;change _=N.length;rw[gc,eh,Ma];lia
def zA{K:PySem.W.Frag}{C kV g D d ct O:d6}
 (lk:K.lookup f=a5 ⟨O,od,.func (PySem.W.fnOf name a c body scope C kV g D T d ct),Jh⟩) (Y:PySem.W.codeIn K d a=b7) (S:cJ N m scope)
    (h:∀vs H Q E,sp vs H Q E->vs.length=m.length)
    (GG:∀(A:Ke) (outer:List Env) (s:fx) (H:Hp) (vs:List V) (Q:VK) (E:XK),dn k (A.deeper (P5 a scope s.heap.objs.size f d))->sp vs H Q E ->
      ∃t,FF (mf CX P w K mg base N a scope f d A outer s H E) body t/\t {nx:=λ_ H'=>Q .EU H',rt:=Q} (start N vs) H) :
    gD P w K mg base CX (k+1) f (PySem.W.fnOf name a c body scope C kV g D T d ct) m sp:=by
  show⟨h,λA outer s H args us vs Q E p i hb r G=>?_⟩;have hl:=h _ _ _ _ G;have L:K.In s.heap:=i.mod.IA.keeps λb o e=>(i.bs b o e).1;have z:s.heap.NoLimit:=i.mod.nolimit.keeps λb o e=>(i.bs b o e).1;have HI:∀y∈m.zip us,scope.names.lookup y.1=a5 .local\/(scope.names.lookup y.1=a5 .cell/\((Ky (s.heap.objs.size+1) scope.names []).lookup y.1).isSome=b7):=λ⟨n,v⟩ hy=>by
    rcases S.par n (RE hy).1 with q|q
    . show .inl q
    . show .inr ⟨q,PySem.W.cellsFrom_some _ _ _ (.inl q)⟩
  show WH p.depth (L _ _ lk) rfl S.co S.gen rfl (PySem.W.codeRec_of L Y) (hb _ _ _ _ ?_);show Vy S.kind HI λenv he s1 x=>?_;subst he;show⟨z.keeps x.toInCall.keep,codeAny_func ?_⟩;have⟨t,ht,hq⟩:=GG A outer s H vs Q E (p.deeper _) G;have I:Inv (mf CX P w K mg base N a scope f d A outer s H E) [] (start N vs) H s1:=tm S p.hd i hl r x;show vz (ht [] s1 (start N vs) H _ I hq) (λfl s' hs=>?_) λe s' hs=>hs;have j:∀{l:St} {H':Hp} {v:V} {u:d6},Inv (mf CX P w K mg base N a scope f d A outer s H E) [] l H' s'->RelV v u->Q v H'->CE outer P w H s Q u s' :=
    λ{l H' v u} J B q=>⟨v,H',J.os,J.bare,J.base,J.EN,B,q⟩
  cases fl with
  | ret u =>
    have⟨v,l,H',J,B,q⟩:=hs;show j J B q
  | next =>
    have⟨l,H',J,q⟩:=hs;show j (v:=V.EU) (u:=Fq) J rfl q
  | brk =>
    obtain⟨_,_,_,q⟩:=hs;show Kf q
  | cont =>
    obtain⟨_,_,_,q⟩:=hs;show Kf q
section
end
end L2
namespace HT
open PySem PyProof.Rows
section
open PySem.SeqAt
open PySem.AutoSeq1 (wpAny_loadPart')
open PySem.MeetsSeq PySem.MeetsSeq2 PySem.MeetsSeq3
end
section
def xS(o:Wd s.heap t vs.toArray)(p:Wd s.heap b ws.toArray)(f:vs≠[])
  (q:ws=[]->Q (.ref t) s) (r:ws≠[]->Q (.ref s.heap.objs.size) {s with heap:=s.heap.push {cls:=.type "tuple",data:=.seq (vs++ws).toArray}})
  (hsz:vs.length+ws.length<=df):eH (ko prog w) A (Nv .Add (.ref t) (.ref b)) Q E s:=by
 obtain⟨⟨cls,dd,data,g⟩,ho,h,n,i⟩:=id o;obtain⟨⟨u,j,data2,k⟩,c,l,m,a⟩:=id p;simp only at h i l a;subst h i l a;have e:vs.toArray++ws.toArray=(vs++ws).toArray:=by simp
 by_cases d:ws=[]
 .show UT ⟨_,ho,rfl⟩ ⟨_,c,rfl⟩ U_ V0 PySem.F.slot_tuple_add PySem.F.entry_tuple_add (PySem.F.args_tuple_add_2 _ _)
   (tuple_addW1 t b vs.toArray ws.toArray n m dd j g k (by simpa using f) (by simp[d])) ⟨ho,c,q d⟩
 .show UT ⟨_,ho,rfl⟩ ⟨_,c,rfl⟩ U_ V0 PySem.F.slot_tuple_add PySem.F.entry_tuple_add (PySem.F.args_tuple_add_2 _ _)
   (tuple_addW2 t b vs.toArray ws.toArray n m dd j g k (by simpa using f) (by simpa using d) (by rw[js,js];show hsz)) ⟨ho,c,?_⟩
  rw[e];show r d
abbrev EV(n d:Nat):Option Int->Nat
 |none=>d
 |some v=>if v<0 then(v+(n:Int)).toNat else min v.toNat n
def mi(n d k:Nat):EV n d (a5 (k:Int))=min k n:=by
 change(if (k:Int)<0 then((k:Int)+(n:Int)).toNat else min (k:Int).toNat n)=min k n;rw[Yt ⋯,N']
def AE(n d:Nat)(b:d<=n)(o:Option Int):EV n d o<=n:=by
 cases o with
 |none=>show b
 |some v =>
  change(if v<0 then(v+(n:Int)).toNat else min v.toNat n)<=n;by_cases a:v<0
  .rw[Yr a];lia
  .rw[Yt a];show Nat.min_le_right _ _
def qV(v:Int)(n d:Nat):(if v<0 then max (v+(n:Int)) 0 else min v (n:Int))=((EV n d (a5 v):Nat):Int):=by
 change(if v<0 then max (v+(n:Int)) 0 else min v (n:Int))=(((if v<0 then(v+(n:Int)).toNat else min v.toNat n):Nat):Int)
 by_cases a:v<0
 .simp only[Yr a];lia
 .simp only[Yt a];lia
def pC(lo a:Option Int)(n:Nat):OG lo a 1 (n:Int)=(((EV n 0 lo:Nat):Int),((EV n n a:Nat):Int)):=by
 have b:¬((1:Int)<0):=by lia
 unfold OG;simp only[b,Yx];show QN ?_ ?_
 .cases lo with
  |none=>rfl
  |some v=>show qV v n 0
 .cases a with
  |none=>rfl
  |some v=>show qV v n n
def pD(i j:Nat):GV (i:Int) (j:Int) 1=j - i:=by
 unfold GV;have a:(1:Int)>0:=by lia
 simp only[a,YA,XZ];split<;>lia
def jF(p:Ui v o)(h:Q o s):eH (ko prog w) A (XR v) Q E s:=by
 cases p with
 |none=>show Uj h
 |int i t=>show slicePart_int h
def dB{lo a:Option Int}{n:Nat}(hs:s.heap.IsSliceOf f d e .none)(g:Ui d lo)(i:Ui e a)
  (h:Q (((EV n 0 lo:Nat):Int),1,EV n n a - EV n 0 lo) s):eH (ko prog w) A (Od (.ref f) (pure (n:Int))) Q E s:=by
 have⟨os,b,j,c⟩:=id hs;unfold Od TV;show bw (bw (Q1 b c (x:=d) rfl (bw (Q1 b c (x:=e) rfl (bw (Q1 b c (x:=.none) rfl (cc ?_)))))));show bw (Uj ?_);change eH _ _ (if ((1:Int)==0)=b7 then _ else _) _ _ s;rw[Yt (by decide)];show bw (jF g (bw (jF i (bw (cc ?_)))));change eH _ _ (match OG lo a 1 (n:Int) with|(lo,a)=>pure (lo,(1:Int),GV lo a 1)) _ _ s;rw[pC lo a n];change eH _ _ (pure (((EV n 0 lo:Nat):Int),(1:Int),GV ((EV n 0 lo:Nat):Int) ((EV n n a:Nat):Int) 1)) _ _ s;rw[pD];show cc h
def uL(xs:Array d6)(i k:Nat):((ei k).filterMap λ(m:Nat)=>xs[((i:Int)+(m:Int) * 1).toNat]?).toArray=((xs.toList.drop i).take k).toArray:=by
 have e:(λ(m:Nat)=>xs[((i:Int)+(m:Int) * 1).toNat]?)=λm=>xs[i+m]?:=by
  funext m
  have:((i:Int)+(m:Int) * 1).toNat=i+m:=by lia
  rw[this]
 rw[e];have:=pick_run xs i k;rw[Wg]at this;have a:((λx=>xs[x]?) ∘ λx=>i+x)=λm=>xs[i+m]?:=rfl;rw[a]at this;rw[this]
def gF{lo b:Option Int}(c:Wd s.heap t a)(hs:s.heap.IsSliceOf e f g .none)(i:Ui f lo)(j:Ui g b)
  (k:¬(EV a.size 0 lo=0/\EV a.size a.size b=a.size))
  (h:Q (.ref s.heap.objs.size) {s with heap:=s.heap.push {cls:=.type "tuple",data:=.seq ((a.toList.drop (EV a.size 0 lo)).take (EV a.size a.size b - EV a.size 0 lo)).toArray}})
  (hsz:a.size<=df):eH (ko prog w) A (Sl (.ref t) (.ref e)) Q E s:=by
 have d:sizeOk (.seq ((a.toList.drop (EV a.size 0 lo)).take (EV a.size a.size b - EV a.size 0 lo)).toArray):=by
  change((a.toList.drop (EV a.size 0 lo)).take (EV a.size a.size b - EV a.size 0 lo)).toArray.size<=df;rw[js,tj,JF,k9];lia
 have r:EV a.size a.size b<=a.size:=AE _ _ (ke _) b;have⟨os,l,n,u⟩:=id hs;have o:s.TypeIs (.ref e) "slice":=⟨os,l,n⟩
 unfold Sl
 try with_reducible show D1 ?_
 first|show bw (cc ?_)|skip
 show bw (UN c.typeIs (by decide) ?_);show bw (Ob (name:=RA "__getitem__") c.typeIs tx
  (J7 tx c.typeIs Uv ?_ (UJ _ _)))
 change eH _ _ (LG (.ref t) >>= _) _ _ s;show bw (V8 c ?_);show bw (Mb o ?_);rw[Yr (by decide)];show bw (dB hs i j ?_);have p:¬((((EV a.size 0 lo:Nat):Int)==0&&(1:Int)==1&&(EV a.size a.size b - EV a.size 0 lo)==a.size)=b7):=by
  intro q;rw[b8,b8]at q;have v:((EV a.size 0 lo:Nat):Int)=0:=Uq q.1.1;have x:EV a.size a.size b - EV a.size 0 lo=a.size:=Uq q.2;show k ⟨⋯,⋯⟩
 change eH _ _ (if (((EV a.size 0 lo:Nat):Int)==0&&(1:Int)==1&&(EV a.size a.size b - EV a.size 0 lo)==a.size)=b7 then _ else _) _ _ s;rw[Yt p,uL]
 first
  |show bw (m:=EY _) (vr (cc ⟨_,rfl,cc h⟩) d)
  |show bw (m:=EY _) (vr (bw (cc (cc ⟨_,rfl,cc h⟩))) d)
  |show bw (bw (m:=EY _) (vr (cc (cc ⟨_,rfl,cc h⟩)) d))
  |show bw (bw (m:=EY _) (vr (cc ⟨_,rfl,cc h⟩) d))
end
end HT
namespace L2
open PySem PySem.Spec PyProof.Rows
@[reducible]noncomputable def TO:=St->Hp->(Option Int->Hp->Prop)->Prop
abbrev PO(X:Cx)(e:Option tr)(t:TO):Prop :=
 ∀(pins:List (gs×Obj)) (s:fx) (σ:St) (H:Hp) (Q:Option Int->Hp->Prop),Inv X pins σ H s->t σ H Q ->
  eH (ko X.prog X.w) X.A (evalPart e X.env) (λu s'=>∃o H',Inv X pins σ H' s'/\Ui u o/\Q o H') X.xe s
abbrev xT:TO:=λ_ H Q=>Q b6 H
abbrev CM(t:TE):TO:=λσ H Q=>t σ H λx a=>∃i,x=.int i/\Q (a5 i) a
section
variable{X:Cx}{e:tr}{te:TE}{lo hi:Option tr}{tl th:TO}{pos p2:Pos}
def xU:PO X b6 xT:=by
 intro pins s σ H Q I h;rw[V1];show cc ⟨b6,H,I,.none,h⟩
def xV(h:PE X e te):PO X (a5 e) (CM te):=by
 intro pins s σ H Q I a;rw[evalPart_some];show ER (h pins s σ H _ I a) λu s1 b=>?_;have⟨x,c,d,f,g⟩:=b;have⟨i,rfl,q⟩:=g;have⟨t,rfl⟩:=f;show⟨a5 i,c,d,.int i t,q⟩
abbrev Il(X:Cx)(r:V->Option Int->Option Int->Hp->VK->Prop):Prop :=
 ∀(pins:List (gs×Obj)) (s:fx) (σ:St) (H:Hp) (x:V) (v a b:d6) (lo hi:Option Int) (c:gs) (Q:VK),Inv X pins σ H s->RelV x v->s.heap.IsSliceOf c a b .none->Ui a lo->Ui b hi->r x lo hi H Q ->
  ∃T id,UE (.type T) "__getitem__"=pure (a5 (.builtin id))/\s.TypeIs v T/\eH (ko X.prog X.w) X.A (Sl v (.ref c)) (EP X pins σ Q) X.xe s
def Il.or(h:Il X r)(h':Il X i):Il X (λx lo hi H Q=>r x lo hi H Q\/i x lo hi H Q):=by
 intro pins s σ H x v a b lo hi c Q I d hs f g q;rcases q with q|q
 .show h pins s σ H x v a b lo hi c Q I d hs f g q
 .show h' pins s σ H x v a b lo hi c Q I d hs f g q
abbrev QZ(r:V->Option Int->Option Int->Hp->VK->Prop)(te:TE)(tl th:TO):TE:=λσ H Q=>te σ H λx a=>tl σ a λl b=>th σ b λu c=>r x l u c Q
def uM(f:Il X r)(g:PE X e te)(hl:PO X lo tl)(i:PO X hi th):PE X (.Subscript e (.Slice lo hi b6 p2) pos) (QZ r te tl th):=by
 intro pins s σ H Q I h;show Xp (ER (g pins s σ H _ I h) λv s1 j=>?_);have⟨x,k,m,n,o⟩:=j;show wpAny_Slice (ER (hl pins s1 σ k _ m o) λa s2 ⟨l,p,t,y,z⟩=>ER (i pins s2 σ p _ t z) λc s3 B=>?_);have⟨u,d,C,D,G⟩:=B;rw[V1];show cc ?_;have J:Inv X pins σ d {s3 with heap:=s3.heap.push {cls:=.type "slice",data:=.fields #[a,c,.none]}}:=C.kept (t':=s3.toks) λb Y q=>dV _ q;have⟨T,id,L,N,O⟩:=f pins {s3 with heap:=s3.heap.push {cls:=.type "slice",data:=.fields #[a,c,.none]}} σ d x v a c l u s3.heap.objs.size Q J n (UK ..) y D G;change eH (ko X.prog X.w) X.A (V9 e (.Slice lo hi b6 p2) v (.ref s3.heap.objs.size)) (EP X pins σ Q) X.xe {s3 with heap:=s3.heap.push {cls:=.type "slice",data:=.fields #[a,c,.none]}};show Yo (ops:=[.ref s3.heap.objs.size,v]) N L O (by with_unfolding_all rfl)
abbrev nV(xs:List V)(lo hi:Option Int):List V:=(xs.drop (HT.EV xs.length 0 lo)).take (HT.EV xs.length xs.length hi - HT.EV xs.length 0 lo)
def iR(xs:List V)(lo hi:Option Int):(nV xs lo hi).length<=xs.length:=by
 unfold nV;rw[tj,JF];lia
abbrev CN(K:PySem.W.Frag):V->Option Int->Option Int->Hp->VK->Prop:=λx lo hi H Q=>∃a xs,x=.ref a/\Fe K H a xs /\
 ¬(HT.EV xs.length 0 lo=0/\HT.EV xs.length xs.length hi=xs.length)/\∀p,H p=b6->Q (.ref p) (upd H p (.tup (nV xs lo hi)))
def AF:Il X (CN X.K):=by
 intro pins s σ H x v m n lo hi p Q I f hs g i h;have⟨a,xs,rfl,j,k,q⟩:=h;cases f;have⟨l,r,d,hz⟩:=I.tuple j;have c:l.toArray.size=xs.length:=by rw[js];show r.length.symm
 show⟨"tuple",_,tx.lookup,d.typeIs,?_⟩;show HT.gF d hs g i (by rw[c];show k) ?_ (by rw[c];show hz);rw[c];show⟨.ref s.heap.objs.size,_,I.laid (t':=s.toks) (o:=.tup (nV xs lo hi)) (λb t q=>dV _ q) (ke _) ?_,rfl,q _ (I.EN.fresh (ke _))⟩;show⟨Hm (iR xs lo hi) hz,_,(r.drop (HT.EV xs.length 0 lo)).take (HT.EV xs.length xs.length hi - HT.EV xs.length 0 lo),Vf _ _⟩
abbrev CO(K:PySem.W.Frag):R2:=λx y H Q=>∃a b xs c,x=.ref a/\y=.ref b/\Fe K H a xs/\Fe K H b c/\xs≠[]/\xs.length+c.length<=df /\
 (c=[]->Q (.ref a) H)/\(c≠[]->∀p,H p=b6->Q (.ref p) (upd H p (.tup (xs++c))))
def Vals.mj(r:Vals xs us):us=[]↔xs=[]:=by
 cases r with
 |_=>simp
def xW:FW X (Nv .Add) (CO X.K):=by
 intro pins s σ H x y v u Q I f g h;have⟨a,b,xs,i,rfl,rfl,j,k,l,hz,m,n⟩:=h;cases f;cases g;obtain⟨p,d,p1,_⟩:=I.tuple j;obtain⟨r,c,p2,_⟩:=I.tuple k;show HT.xS p1 p2 (λz=>l (d.mj.mp z)) (λz=>⟨.ref a,H,I,rfl,m (c.mj.mp z)⟩) (λz=>?_) (by rw[<-d.length,<-c.length];show hz);show⟨.ref s.heap.objs.size,_,I.laid (t':=s.toks) (o:=.tup (xs++i)) (λb t q=>dV _ q) (ke _) ?_,rfl,n (λw=>z (c.mj.mpr w)) _ (I.EN.fresh (ke _))⟩;show⟨by rw[gc];show hz,_,d.append c,Vf _ _⟩
end
abbrev IF(n:Nat)(i:Int):Option Nat:=if 0<=i then(if i<n then a5 i.toNat else b6) else if -(n:Int)<=i then a5 (i+n).toNat else b6
abbrev E7{α:Type}(xs:List α)(i:Int):Option α:=(IF xs.length i).bind λj=>xs[j]?
def qW{n:Nat}(h:IF n i=a5 j):seqIndex? i n=a5 j/\j<n/\-(n:Int)<=i/\i<n:=by
 unfold IF at h;by_cases b:0<=i
 .rw[Yr b]at h;by_cases a:i<n
  .rw[Yr a]at h;have e:i.toNat=j:=wk h;show⟨by rw[WW b a,e],⋯,⋯,a⟩
  .rw[Yt a]at h;cases h
 .rw[Yt b]at h;by_cases a:-(n:Int)<=i
  .rw[Yr a]at h;have e:(i+n).toNat=j:=wk h;show⟨by rw[seqIndex_neg ⋯ a,e],⋯,a,⋯⟩
  .rw[Yt a]at h;cases h
def mq(h:E7 xs i=a5 v):∃j,seqIndex? i xs.length=a5 j/\xs[j]?=a5 v/\j<xs.length/\-(xs.length:Int)<=i/\i<xs.length:=by
 unfold E7 at h;cases e:IF xs.length i with
 |none=>rw[e]at h;cases h
 |some j =>
  rw[e]at h;have⟨a,b,c,d⟩:=qW e;show⟨j,a,h,b,c,d⟩
def bZ{j:Nat}(h:xs[j]?=a5 v):E7 xs (j:Int)=a5 v:=by
 have a:j<xs.length:=(hQ.mp h).1;have e:IF xs.length (j:Int)=a5 j:=by
  unfold IF;rw[Yr ⋯,Yr ⋯];simp
 unfold E7;rw[e];show h
abbrev mr(b:tr):Prop:=∀o i,subscripted b cb o i=operate [o,i] (Sl o i)
abbrev Np(X:Cx)(r:R2):Prop :=
 ∀(b a:tr) (pins:List (gs×Obj)) (s:fx) (σ:St) (H:Hp) (x y:V) (v u:d6) (Q:VK),Inv X pins σ H s->RelV x v->RelV y u->r x y H Q ->
  subscripted a cb v u=operate [v,u] (Sl v u)->eH (ko X.prog X.w) X.A (V9 b a v u) (EP X pins σ Q) X.xe s
abbrev K9(X:Cx)(id:String)(r:V->List V->Hp->VK->Prop):Prop :=
 ∀(pins:List (gs×Obj)) (s:fx) (σ:St) (H:Hp) (x:V) (xs:List V) (v:d6) (us:List d6) (Q:VK),Inv X pins σ H s->RelV x v->Vals xs us->r x xs H Q ->
  eH (ko X.prog X.w) X.A (Nk (.builtin id) (v::us)) (EP X pins σ Q) X.xe s
section
abbrev Ek(K:PySem.W.Frag):R2:=λx y H Q=>∃p xs i v,x=.ref p/\y=.int i/\Fm K H p xs/\E7 xs i=a5 v/\Q v H
abbrev El(K:PySem.W.Frag):R2:=λx y H Q=>∃p xs i v,x=.ref p/\y=.int i/\Fe K H p xs/\E7 xs i=a5 v/\Q v H
abbrev Em:R2:=λx y H Q=>∃z i c,x=.str z/\y=.int i/\z.length<=df/\E7 z.cps.toList i=a5 c/\Q (.str ⟨#[c]⟩) H
def xX:Np X (Ek X.K):=by
 intro c d pins s σ H x y v u Q I m n h hs;have⟨p,xs,i,z,rfl,rfl,A,B,q⟩:=h;cases m;have⟨t,rfl⟩:=n;have⟨C,r,f,hz⟩:=I.list A;have⟨j,b,D,N,G,J⟩:=mq B;have⟨w,k,L⟩:=r.get D;have hl:=r.length;have O:=fR;have a:EP X pins σ Q w s:=⟨z,H,I,L,q⟩
 by_cases l:0<=i
 .have g:i.toNat=j:=by
   rw[WW l J]at b;show wk b
  show item_listR f.isList l ⋯ (by rw[g];simpa using k) a hs
 .have g:(i+(C.toArray.size:Int)).toNat=j:=by
   rw[seqIndex_neg ⋯ G]at b;rw[js,<-hl];show wk b
  show Ww (x:=w) f.isList.typeIs Xz.lookup
   (wpAny_getItem_list_neg (Q:=λr s'=>r=w/\EP X pins σ Q r s') f.isList ⋯ (by rw[js]<;>lia) ⋯ (by rw[g];simpa using k) ⟨rfl,a⟩) hs
def jG:Np X (El X.K):=by
 intro a b pins s σ H x y v u Q I f g h hs;have⟨p,xs,i,z,rfl,rfl,k,l,q⟩:=h;cases f;have⟨t,rfl⟩:=g;have⟨C,r,d,hz⟩:=I.tuple k;have⟨j,m,n,D,G,J⟩:=mq l;have⟨w,A,B⟩:=r.get n;have hl:=r.length;have L:=fR;have c:EP X pins σ Q w s:=⟨z,H,I,B,q⟩
 show Ww (x:=w) d.typeIs tx.lookup
  (getItem_tuple (j:=j) (Q:=λr s'=>r=w/\EP X pins σ Q r s') d ⋯ ⋯ (by rw[js,<-hl];show m) (by simpa using A) ⟨rfl,c⟩) hs
def eQ:Np X Em:=by
 intro a b pins s σ H x y v u Q I f g h hs;have⟨z,i,c,rfl,rfl,hz,k,q⟩:=h;have⟨t,rfl⟩:=f;have⟨t',rfl⟩:=g;have⟨j,d,l,A,m,n⟩:=mq k;have hl:z.cps.toList.length=z.length:=by simp[Ow]
 rw[hl]at d m n;have B:=fR;show Yo (OZ s z t) XU.lookup (getItem_str (c:=c) (by
  have p:c4 (i < -(2 ^ 63:Int))=cb:=Ys ⋯;have w:c4 (i >= 2 ^ 63)=cb:=Ys ⋯;rw[p,w,Xu]) (by rw[d];simpa using l) ⟨.str ⟨#[c]⟩,H,I.tok _,⟨_,rfl⟩,q⟩) hs
def pE(a:List d6)(n j:Nat)(u:d6):Gj (·.setIfInBounds j u) {cls:=.type "list",data:=.seq a.toArray n}={cls:=.type "list",data:=.seq (a.set j u).toArray n}:=by
 simp[Gj]
def Inv.lst(I:Inv X pins σ H s)(h:H p=a5 (.lst xs)):
  ∃(a:List d6) (n:Nat),Vals xs a/\s.heap.get? p=a5 {cls:=.type "list",data:=.seq a.toArray n}/\xs.length<=df:=by
 have⟨z,a,n,r,e⟩:=I.EN p _ h;show⟨a,n,r,e,z⟩
def Inv.AG{a its':List d6}(I:Inv X pins σ H s)(h:H p=a5 (.lst xs))
  (ho:s.heap.get? p=a5 {cls:=.type "list",data:=.seq a.toArray n}) (c:f {cls:=.type "list",data:=.seq a.toArray n}={cls:=.type "list",data:=.seq its'.toArray d }) (r:Vals g its') (hz:g.length<=df) (t:Nat) :
  Inv X pins σ (upd H p (.lst g)) {s with heap:=s.heap.update p f,toks:=t}:=by
 have e:(s.heap.update p f).get? p=a5 {cls:=.type "list",data:=.seq its'.toArray d }:=by
  rw[F6 f ho (by rw[c]<;>rfl),c]
 show I.write (x:=p) (e:=p) (by rw[h];trivial) (.inl rfl) (λb u i q=>(NJ _ _ (HX i)).trans q) ⟨_,e⟩ ?_;show⟨hz,its',d,r,e⟩
abbrev CP:V->V->V->Hp->(Hp->Prop)->Prop:=λo i v H Q=>∃p xs k j,o=.ref p/\i=.int k/\H p=a5 (.lst xs)/\IF xs.length k=a5 j/\Q (upd H p (.lst (xs.set j v)))
def set_list:kP X CP:=by
 intro pins s σ H o i v z A u Q I m w x h;have⟨p,xs,k,j,rfl,rfl,b,y,q⟩:=h;cases m;have⟨t,rfl⟩:=w;have⟨c,n,r,ho,hz⟩:=I.lst b;have⟨a,B,d,f⟩:=qW y;have hl:=r.length;have C:=fR;have g:Inv X pins σ (upd H p (.lst (xs.set j v))) {s with heap:=s.heap.update p (Gj (·.setIfInBounds j u))} :=
  I.AG b ho (pE c n j u) (r.set x j) (by rw[W7];show hz) s.toks
 by_cases l:0<=k
 .have hk:k.toNat=j:=by
   rw[WW l f]at a;show wk a
  show PySem.W.ki_setAt ho l ⋯ (by rw[js,<-hl];show f) (by rw[hk];show⟨_,g,q⟩)
 .have hk:(k+(c.toArray.size:Int)).toNat=j:=by
   rw[seqIndex_neg ⋯ d]at a;rw[js,<-hl];show wk a
  show PySem.W.ki_setBack ho ⋯ (by rw[js,<-hl];show d) ⋯ (by rw[hk];show⟨_,g,q⟩)
def mw(lo a:Option Int)(n:Nat):(O9 lo a b6 n).1=((HT.EV n 0 lo:Nat):Int)/\(O9 lo a b6 n).2.1=((HT.EV n n a:Nat):Int)/\(O9 lo a b6 n).2.2=1:=by
 show⟨?_,?_,rfl⟩
 .cases lo with
  |none=>simp[O9,HT.EV]
  |some i =>
   simp only[O9,HT.EV,Wf,show(1:Int)>0 by decide,YA];by_cases h:i<0
   .simp only[h,YA]<;>lia
   .simp only[h,Yx]<;>lia
 .cases a with
  |none=>simp[O9,HT.EV]
  |some i =>
   simp only[O9,HT.EV,Wf,show(1:Int)>0 by decide,YA];by_cases h:i<0
   .simp only[h,YA]<;>lia
   .simp only[h,Yx]<;>lia
def kQ(a:List d6)(lo b:Option Int):slicePick a.toArray lo b b6=((a.drop (HT.EV a.length 0 lo)).take (HT.EV a.length a.length b - HT.EV a.length 0 lo)).toArray:=by
 have⟨c,d,f⟩:=mw lo b a.toArray.size;unfold slicePick;rw[c,d,f];simp only[sliceRange_one,pick_run,js]<;>rfl
abbrev CQ(K:PySem.W.Frag):V->Option Int->Option Int->Hp->VK->Prop:=λx lo b H Q=>∃a xs,x=.ref a/\Fm K H a xs/\∀p,H p=b6->Q (.ref p) (upd H p (.lst (nV xs lo b)))
def xY:Il X (CQ X.K):=by
 intro pins s σ H x v l m lo d n Q I g hs i j h;have⟨a,xs,rfl,k,q⟩:=h;cases g;have⟨p,r,f,hz⟩:=I.list k;have c:=r.length;show⟨"list",_,Xz.lookup,f.isList.typeIs,?_⟩;show wpAny_getItem_list_slice f.isList hs i j .none (by simp) ?_ (by rw[js]<;>lia);rw[kQ,<-c];show⟨.ref s.heap.objs.size,_,I.laid (t':=s.toks) (o:=.lst (nV xs lo d)) (λb u q=>dV _ q) (ke _) ?_,rfl,q _ (I.EN.fresh (ke _))⟩;show⟨Hm (iR xs lo d) hz,_,0,(r.drop (HT.EV xs.length 0 lo)).take (HT.EV xs.length xs.length d - HT.EV xs.length 0 lo),hY _ rfl⟩
def mz:FW X (Ks .NotIn) (λx y H Q=>∃i j,x=.str i/\y=.str j/\Q (.bl (!(!(y0 j i 0 j.length 1).isEmpty))) H):=by
 intro pins s σ H x y v u Q I a b h;have⟨i,j,rfl,rfl,q⟩:=h;have⟨t,rfl⟩:=a;have⟨t',rfl⟩:=b;show notIn_str ⟨.bl _,H,I,rfl,q⟩
def gG:fK X (.builtin "len") (λxs H Q=>∃p b,xs=[.ref p]/\(Fm X.K H p b\/Fe X.K H p b)/\Q (.int b.length) H):=by
 intro pins s σ H xs us Q I r h;have⟨p,b,rfl,hq,q⟩:=h;have⟨u,rfl,f⟩:=vals1 r;cases f;have i:=fR;rcases hq with hq|hq
 .have⟨g,c,d,hz⟩:=I.list hq;have a:=c.length;show Calls.call_len_list d.isList (by simp only[js]<;>lia) ⟨.int b.length,H,I.tok _,⟨s.toks+1,by rw[js,a]⟩,q⟩
 .have⟨g,c,d,hz⟩:=I.tuple hq;have a:=c.length;show len_tuple d (by simp only[js]<;>lia) ⟨.int b.length,H,I.tok _,⟨s.toks+1,by rw[js,a]⟩,q⟩
def mB:fK X (.builtin "len") (λxs H Q=>∃z,xs=[.str z]/\z.length<=df/\Q (.int z.length) H):=by
 intro pins s σ H xs us Q I r h;have⟨z,rfl,hz,q⟩:=h;have⟨u,rfl,t,rfl⟩:=vals1 r;have a:=fR;show len_str ⋯ ⟨.int z.length,H,I.tok _,⟨_,rfl⟩,q⟩
def gH:fK X (.type "list") (λxs H Q=>∃p c,xs=[.ref p]/\(Fm X.K H p c\/Fe X.K H p c)/\∀l,H l=b6->Q (.ref l) (upd H l (.lst c))):=by
 intro pins s σ H xs us Q I r h;have⟨p,c,rfl,hq,q⟩:=h;have⟨u,rfl,y⟩:=vals1 r;cases y;have g:∀(a:List d6),Vals c a->c.length<=df->∀(h':IE) (d:Nat),(∀b x,s.heap.get? b=a5 x->h'.get? b=a5 x) ->
   h'.get? s.heap.objs.size=a5 {cls:=.type "list",dict:=b6,data:=.seq a.toArray d,slots:=#[]}->EP X pins σ Q (.ref s.heap.objs.size) {s with heap:=h' }:=λa f hz h' d i e =>
  ⟨.ref s.heap.objs.size,_,I.laid (t':=s.toks) i (ke _) (show bF X.prog X.w _ h' _ (.lst c) from⟨hz,a,d,f,e⟩),rfl,q _ (I.EN.fresh (ke _))⟩
 rcases hq with hq|hq
 .have⟨a,f,k,hz⟩:=I.list hq;have j:=f.length;have⟨o,ho,m,n,v⟩:=k.isList;show call_list_seq p (.inl rfl) ho m v (λh' d i e=>g a f hz h' d i e) (by simp only[js]<;>lia)
 .have⟨a,f,k,hz⟩:=I.tuple hq;have j:=f.length;have⟨o,ho,m,n,v⟩:=k;show call_list_seq p (.inr rfl) ho m v (λh' d i e=>g a f hz h' d i e) (by simp only[js]<;>lia)
def fL:fK X (.type "tuple") (λxs H Q=>∃p a,xs=[.ref p]/\((Fm X.K H p a/\∀l,H l=b6->Q (.ref l) (upd H l (.tup a)))\/(Fe X.K H p a/\Q (.ref p) H))):=by
 intro pins s σ H xs us Q I r h;have⟨p,a,rfl,h⟩:=h;have⟨u,rfl,k⟩:=vals1 r;cases k;rcases h with⟨c,q⟩|⟨c,q⟩
 .have⟨d,f,g,hz⟩:=I.list c;have i:=f.length;show call_tuple_list g.isList (λh' m=>?_) (by simp only[js]<;>lia);have j:Inv X pins σ H {s with heap:=h' }:=I.kept (t':=s.toks) m;have n:Inv X pins σ (upd H h'.objs.size (.tup a)) {s with heap:=h'.push {cls:=.type "tuple",data:=.seq d.toArray}} :=
   j.laid (t':=s.toks) (λb o e=>dV _ e) (ke _) (show bF X.prog X.w _ _ _ (.tup a) from⟨hz,d,f,Vf _ _⟩)
  show⟨.ref h'.objs.size,_,n,rfl,q _ (j.EN.fresh (ke _))⟩
 .have⟨d,f,g,hz⟩:=I.tuple c;show call_tuple_same g ⟨.ref p,H,I,rfl,q⟩
abbrev Nr(K:PySem.W.Frag)(T:String)(x:V)(H:Hp):Prop:=match x with
 |.str _=>T="str"
 |.int _=>T="int"
 |.ref p=>(T="list"/\∃xs,Fm K H p xs)\/(T="tuple"/\∃o,K.lookup p=a5 o/\o.cls=.type "tuple"/\o.dict=b6) \/
   (T="dict"/\((∃a,H p=a5 (.dK a))\/∃a,H p=a5 (.dT a)))\/(T="set"/\∃S n,H p=a5 (.set S n))
 |_=>False
def uN(I:Inv X pins σ H s)(r:RelV x v)(ty:Nr X.K T x H):
  s.TypeIs v T/\∀a,v=.ref a->∃f,s.heap.get? a=a5 f/\f.dict=b6:=by
 cases x with
 |str z =>
  have⟨t,rfl⟩:=r;cases(show T="str" from ty);show⟨OZ s z t,λ_ e=>nomatch e⟩
 |int i =>
  have⟨t,rfl⟩:=r;cases(show T="int" from ty);show⟨typeIs_int s i t,λ_ e=>nomatch e⟩
 |ref p =>
  cases r;rcases ty with⟨rfl,xs,h⟩|⟨rfl,o,hk,j,b⟩|⟨rfl,hk⟩|⟨rfl,S,n,hk⟩
  .obtain⟨l,_,g,_⟩:=I.list h;show⟨g.isList.typeIs,λa e=>?_⟩;cases e;obtain⟨o,n,e,c,b,_⟩:=g;show⟨o,e,b⟩
  .show⟨⟨o,I.G0 p o hk,j⟩,λa e=>?_⟩;cases e;show⟨o,I.G0 _ o hk,b⟩
  .have z:∃o,s.heap.get? p=a5 o/\o.ExactDict:=by
    rcases hk with⟨k,hk⟩|⟨k,hk⟩
    .obtain⟨_,_,_,_,o,_,_,e,ex,_⟩:=I.EN p _ hk;show⟨o,e,ex⟩
    .obtain⟨_,_,_,_,o,_,_,e,ex,_⟩:=I.EN p _ hk;show⟨o,e,ex⟩
   have⟨o,e,ex⟩:=z;show⟨⟨o,e,ex.1⟩,λa d=>?_⟩;cases d;show⟨o,e,ex.2.1⟩
  .obtain⟨o,_,_,_,e,ex,_⟩:=I.EN p _ hk;show⟨⟨o,e,ex.1⟩,λa d=>?_⟩;cases d;show⟨o,e,ex.2.1⟩
 |_=>show Kf ty
abbrev Q0(K:PySem.W.Frag)(T:String)(r:V->List V->Hp->VK->Prop)(to:TE)(t:TA):TE:=λσ H Q=>to σ H λx a=>Nr K T x a/\t σ a λxs b=>r x xs b Q
variable{o e:tr}{es:List tr}{to:TE}{t:TA}{name:Str}{apos EM:Pos}{T id:String}{r:V->List V->Hp->VK->Prop}
def zB(d:PlainAttrs T)(slot:Slot T name id)(f:U7 (.builtin id)=pure (.type "method_descriptor"))(g:K9 X id r)(ho:PE X o to)(i:PA X (e::es) t)
  (j:Ry o name X.env (Ka o X.env)=Ka o X.env:=by rfl)
  (k:((Kc EM (mx (e::es) X.env)).all (λx=>!x.1)&&(Ub EM (Pd [] X.env)).all (λx=>x.1.isSome)
   && c4 ((e::es).length+([]:List NB).length+(if ([]:List NB).isEmpty then 0 else 1)<30))=b7:=by rfl)
  (l:(apos.endLine==EM.line)=b7:=by rfl) (hs:mx (e::es) X.env=(cb,Ka e X.env)::mx es X.env:=by rfl) (m:(Kc EM (mx es X.env)).any (·.1)=cb:=by rfl) :
  PE X (.Call (.Attribute o name apos) (e::es) [] EM) (Q0 X.K T r to t):=by
 intro pins s σ H Q I h;show Wj j k l rfl (ER (ho pins s σ H _ I h) λv s1 n=>?_);have⟨x,p,a,b,ty,q⟩:=n;have⟨u,w⟩:=uN a b ty;show⟨T,id,d,slot,f,u,w,?_⟩;have c:=i EM pins s1 σ p _ a q;rw[hs]at c ⊢;show QS (by change(cb||(Kc EM (mx es X.env)).any (·.1))=cb;rw[m]<;>rfl) (MY ?_);show ER c λus s2 ⟨vs,y,z,A,B⟩=>g pins s2 σ y x vs v us Q z b A B
end
abbrev Pu(X:Cx)(id:String)(r:V->List V->Hp->VK->Prop):Prop :=
 ∀(pins:List (gs×Obj)) (s:fx) (σ:St) (H:Hp) (x:V) (xs:List V) (v:d6) (us:List d6) (Q:VK),Inv X pins σ H s->RelV x v->Vals xs us->r x xs H Q ->
  eH (ko X.prog X.w) X.A (Nk (.builtin id) (v::us)) (EP X pins σ Q) X.xe s
theorem Vals.one:∀{x:V}{us:List d6},Vals [x] us->∃u,us=[u]/\RelV x u
 |_,_,.cons r .nil=>⟨_,rfl,r⟩
section
def Inv.eR{a its':List d6}(I:Inv X pins σ H s)(c:H l=a5 (.lst xs))
  (e:s.heap.get? l=a5 {cls:=.type "list",data:=.seq a.toArray n}) (d:f a.toArray=its'.toArray) (g:Vals b its') (hz:b.length<=df) :
  Inv X pins σ (upd H l (.lst b)) {s with heap:=s.heap.update l (Gj f),toks:=t' }:=by
 have q:=PySem.IsL.update e f;rw[d]at q;show I.write (x:=l) (e:=l) (by rw[c];show trivial) (.inl rfl) (λj u h i=>(NJ s.heap (Gj f) (HX h)).trans i) ⟨_,q⟩ ?_;show⟨hz,its',_,g,q⟩
def Inv.En(I:Inv X pins σ H s)(c:Vals a b)(hz:a.length<=df):
  Inv X pins σ (upd H s.heap.objs.size (.lst a)) {s with heap:=s.heap.push {cls:=.type "list",data:=.seq b.toArray},toks:=t' } :=
 I.laid (λ_ _ q=>dV _ q) (ke _) ⟨hz,b,0,c,hY _ rfl⟩
def Inv.fresh(I:Inv X pins σ H s):H s.heap.objs.size=b6:=I.EN.fresh (ke _)
def Inv.CS(I:Inv X pins σ H s)(b:H l=a5 (.lst xs)):xs.length<=df/\∃(a:List d6) (n:Nat),Vals xs a/\xs.length=a.length/\s.heap.get? l=a5 {cls:=.type "list",data:=.seq a.toArray n}:=by
 have⟨z,a,n,r,e⟩:=I.EN l _ b;show⟨z,a,n,r,r.length,e⟩
def uO(h:n<=df):K_ n=cb:=by
 unfold K_;show Ys ⋯
end
section
abbrev xZ:V->List V->Hp->VK->Prop:=λx vs H Q=>∃l xs y,x=.ref l/\vs=[y]/\H l=a5 (.lst xs)/\xs.length<df/\Q .EU (upd H l (.lst (xs++[y])))
def tq:Pu X "list.append" xZ:=by
 intro pins s σ H x vs v us Q I c d h;have⟨l,xs,y,rfl,rfl,a,hz,q⟩:=h;cases c;have⟨u,rfl,f⟩:=d.one;have⟨z,b,n,r,hl,e⟩:=I.CS a;show QG F.slot_list_append ⟨_,e,rfl⟩ F.entry_list_append (F.args_list_append_2 _ _) (PySem.list_append l b.toArray n u (by rw[js];lia)) ⟨e,?_⟩;show⟨.EU,_,I.eR (its':=b++[u]) a e (by simp) (r.append (.cons f .nil)) ?_,rfl,q⟩;rw[gc,mN];lia
end
section
set_option maxRecDepth 100000 in
end
section
end
end L2
namespace Pw
open PySem PySem.W PySem.Calls PyProof.Rows
def jk:∀(ns:List Int) (vs:List d6),WellAll P h vs (ns.map X0)->Wx vs ns:=by
 intro ns;induction ns with
 |nil =>
  intro vs w;rw[O8]at w;cases w;show .nil
 |cons n ns c =>
  intro vs w;rw[l3]at w;cases w with
  |cons a b =>
   cases a;show .cons _ _ (c _ b)
def tu{l:OpenLaw}(j:l.most=a5 n)
  (g:l.row.toRowW.claim.pre args=b7) (k:WellAll P h b args) :
  ∃a vs ns,b=[uk a]/\args=[WData.list (ns.map X0)]/\h.get? a=a5 {cls:=.type "list",data:=.seq vs.toArray}/\Wx vs ns/\ns.length<=n:=by
 have m:WShape.hasAll [] args [.list .int]=b7:=(pre_splitW g).1;have i:l.pre.holds [] {args:=args}=b7:=(pre_splitW g).2;have⟨d,r,rfl,o,p⟩:=hasAllW_cons m;obtain rfl:=hasAllW_nil p;have⟨xs,rfl,s⟩:=hasW_list o;have⟨ns,rfl⟩:=items_int s;have c:ns.length<=n:=by
  unfold OpenLaw.pre at i;have e:(WTm.not (.lt (.lit (.int (n:Int))) (.len (.arg 0)))).holds [] {args:=[.list (ns.map .int)]}=b7:=by
   have e:=(holds_andW i).1;rw[j]at e;show e
  have f:=condW_of e (w_not (w_lt w_lit (w_len_list (w_arg rfl))));rw[eh]at f;show Nat.le_of_not_lt λq=>?_;have t:(n:Int)<((ns.length:Nat):Int):=by lia
  first
   |(rw[Yu t]at f;show absurd f (by decide))
   |(simp at f;lia)
 cases k with
 |cons u v =>
  cases v;cases u with
  |list ho w=>show⟨_,_,ns,rfl,rfl,ho,jk ns _ w,c⟩
def tv(l:OpenLaw)(args:List WData):l.row.toRowW.claim.post args (.bool b7) args=b7 :=
 postW_of (r:=l.row.toRowW) (X:=(b7==b7))
  (show XC [] (.bool b7) .bool=b7 by first|rfl|decide|simp[XC,WShape.arms,WShape.armsAll])
  (show(WTm.eq .res (.lit (.bool b7))).value [] {args:=args,res:=a5 (.bool b7),after:=args}=a5 (.bool (b7==b7)) from w_eq_bool (w_res rfl) w_lit) rfl
def nW{l:OpenLaw}
  (s:l.most=a5 n) (t:d.params.defaults=[])
  (Nk:∀(w:DD) (s₀ b:fx) (mg j:Str->Option d6) (fa:gs) (o:Obj) (k i c:d6) (a:gs) (vs:List d6) (ns:List Int),
   Ground q e [] u w s₀ mg j b.heap->v w b.heap ->
   b.heap.get? fa=a5 o->o.data=.func (docDef d.name d.params d.body d.scope k i c)->b.heap.CodeRec i d.name->mg d.name=a5 (.ref fa) ->
   b.heap.get? a=a5 {cls:=.type "list",data:=.seq vs.toArray}->Wx vs ns->ns.length<=n->b.gens=#[] ->
   Ov (ko l.prog w) Sm (.call (.ref fa) ⟨[.ref a],[]⟩) (λr s'=>r=.ok (.ret (.bool b7))/\OldK b.heap s'.heap/\s'.os=b.os/\Q4 s'.gens) b) :
  WalkO q e u v l.row.toRowW d [] (λf vs=>PySem.call f vs):=by
 intro w s₀ b mg j G Y fa o k i c x kV ho y z m A B args p as C Q T D TH;obtain rfl:x=.none:=Dflts.none m t;obtain rfl:kV=.none:=Dflts.noKw m;have⟨a,vs,ns,rfl,rfl,H,g,h⟩:=tu s C D;show enter_call (Mc (Nk w s₀ b mg j fa o k i c a vs ns G Y ho (fd_plain y) z A H g h B) λr s' I=>?_);have⟨rfl,J,L,N⟩:=I;show⟨.inl ⟨.bool b7,.bool b7,[],rfl,λ_=>rfl,.bool b7,tv l _,λ_=>⟨XY,λ_ O=>(nomatch O)⟩⟩,J,L,N⟩
section
end
end Pw
namespace L2
open PySem PySem.Spec PyProof.Rows
theorem lp:∀{vs:List d6}{ns:List Int},Wx vs ns->Vals (ns.map V.int) vs
 |_,_,.nil=>.nil
 |_,_,.cons n t h=>.cons ⟨t,rfl⟩ (lp h)
abbrev AH(H:Hp):Prop:=∀b,H b=b6\/∃o xs,H b=a5 (.F9 o (.lst xs))
def uP{K:PySem.W.Frag}
  (y:K.In c.heap) (A:c.heap.Ns mA mg) (f:c.heap.Ns So B) (Q:∀x:Str,x≠"__name__"->B x=Iw x) (T:c.heap.NoLimit) (Y:c.gens=#[])
  (l:c.heap.get? a=a5 {cls:=.type "list",data:=.seq vs.toArray}) (C:Wx vs ns) (hl:ns.length<=df) (hr:dn k Sm)
  (F:∀base:IE,K.In base->base.Ns mA mg->gD P w K mg base CX k fa fd [x] sp) (K':∀(s:fx) (u:d6),Vu s fd ⟨[u],[]⟩ [(x,u)])
  (Fz:∀H:Hp,AH H->Fm K H a (ns.map V.int)->sp [.ref a] H (λv _=>v=.bl b7) λ_ _ _=>False)
  (Nw:∀H e s',CX [] H c (λ_ _ _=>False) e s'->False) :
  Ov (ko P w) Sm (.call (.ref fa) ⟨[.ref a],[]⟩) (λr s'=>r=.ok (.ret (.bool b7))/\OldK c.heap s'.heap/\s'.os=c.os/\Q4 s'.gens) c:=by
 have D:=lp C;have Ny:=C.length;have g:∀H:Hp,AH H->Fm K H a (ns.map V.int)->FA P w H c.heap->(∀b,H b≠b6->b=a)->(H a≠b6->K.lookup a=b6) ->
   Ov (ko P w) Sm (.call (.ref fa) ⟨[.ref a],[]⟩) (λr s'=>r=.ok (.ret (.bool b7))/\OldK c.heap s'.heap/\s'.os=c.os/\Q4 s'.gens) c:=by
  intro H G hS I J hK;have jx:∀{b:gs} {o:Obj},c.heap.get? b=a5 o->H b=b6->(l6 c.heap H).get? b=a5 o:=λe n=>uw e n;have ID:∀{b:gs} {o:Obj} {es:Array DictEntry} {ep:Nat},c.heap.get? b=a5 o->o.data=.dict es ep->H b=b6:=λ{b o es ep} e d=>by
   cases q:H b with
   |none=>rfl
   |some u =>
    have t:b=a:=J b (by rw[q];simp);subst t;rw[l]at e;cases e;have d':Data.seq vs.toArray _=Data.dict es ep:=d;cases d'
  have p:∀{b:gs} {m:Str->Option d6},c.heap.Ns b m->(l6 c.heap H).Ns b m:=λ{b m} ⟨o,es,ep,e,d,r⟩=>⟨o,es,ep,jx e (ID e d),d,r⟩
  have L:K.In (l6 c.heap H):=λb o e=>jx (y b o e) (by
   cases q:H b with
   |none=>rfl
   |some u =>
    have t:b=a:=J b (by rw[q];simp);subst t;rw[hK (by rw[q];simp)]at e;cases e)
  have hM:Mod K mg (l6 c.heap H):=⟨L,p A,⟨B,p f,Q⟩,let ⟨mc,h1,h2⟩:=T;⟨mc,p h1,h2⟩⟩
  have e0:tf P w K mg (l6 c.heap H) Sm [] c H:=⟨rfl,hM,λb o e=>xH e,Uw (sT _ _),trivial,λb f=>absurd (show b∈([]:List gs) from f) (by simp),I,.of_eq Y⟩
  show Mc ((F _ L (p A)).run Sm [] c H ⟨[.ref a],[]⟩ [.ref a] [.ref a] _ _ hr e0 (K' c (.ref a)) (.cons rfl .nil) (Fz H G hS)) λr s' h=>?_;cases r with
  |error e=>show(Nw H e s' h).elim
  |ok fl =>
   cases fl with
   |ret u =>
    have⟨v,H',os,i,N,Nz,r',q⟩:=h;have q':v=.bl b7:=q;subst q';obtain rfl:u=Pf b7:=r';show⟨rfl,OldK.of_keep λb o e=>?_,os,i⟩;cases q:H b with
    |none=>show N.keep b o e q (by intro z;show absurd (show b∈([]:List gs) from z) (by simp)) (by simp)
    |some u =>
     rcases G b with z|⟨ob,xs,z⟩
     .rw[q]at z;cases z
     .have z2:=N.Fy b ob _ z;obtain⟨O,_⟩:=I b _ z;obtain⟨e2,_⟩:=Nz b _ z2;rw[e]at O;cases O;show e2
   |_=>show Kf h
 cases hk:K.lookup a with
 |some o =>
  have e:=y a o hk;rw[l]at e;cases e;show g (λ_=>b6) (λ_=>.inl rfl) (.inr ⟨_,vs.toArray,_,hk,rfl,rfl,rfl,by rw[js,Ny];show hl,by simpa using D⟩) (λb u z=>by have j:(b6:Option HO)=a5 u:=z;cases j) (λb z=>absurd rfl z) λz=>absurd rfl z
 |none =>
  show g (λb=>if b=a then a5 (.F9 {cls:=.type "list",data:=.seq vs.toArray} (.lst (ns.map V.int))) else b6) (λb=>?_) (.inl (.inr ⟨{cls:=.type "list",data:=.seq vs.toArray},Yr rfl⟩)) (λb u z=>?_) (λb z=>?_) λ_=>hk
  .by_cases f:b=a
   .show .inr ⟨_,_,Yr f⟩
   .show .inl (Yt f)
  .by_cases f:b=a
   .have j:=(Yr f).symm.trans z;cases j;subst f;show⟨l,by rw[eh];show hl,vs,_,D,l⟩
   .have j:=(Yt f).symm.trans z;cases j
  .by_cases f:b=a
   .show f
   .show absurd (Yt f) z
def x4{l:PySem.W.OpenLaw}{K:Uh->PySem.W.Frag}{CX:DD->IC}{sp:DD->Sp}
  (r:l.most=a5 n) (t:n<=df) (y:d.params.defaults=[]) (z:dn k Sm)
  (A:∀(w:DD) (h:IE),B w h->(K w.params).In h)
  (F:∀(w:DD) (mg:Str->Option d6) (fa:gs) (h:IE),(K w.params).In h->h.Ns mA mg->mg d.name=a5 (.ref fa) ->
   ∃j:OF,(∀(s:fx) (u:d6),Vu s j ⟨[u],[]⟩ [(x,u)]) /\
    ∀base:IE,(K w.params).In base->base.Ns mA mg->gD l.prog w (K w.params) mg base (CX w) k fa j [x] (sp w))
  (C:∀(w:DD) (H:Hp) (a:gs) (ns:List Int),ns.length<=n->AH H->Fm (K w.params) H a (ns.map V.int)->sp w [.ref a] H (λv _=>v=.bl b7) λ_ _ _=>False)
  (D:∀(w:DD) (H:Hp) (s:fx) (e:d6) (s':fx),CX w [] H s (λ_ _ _=>False) e s'->False) :
  PySem.W.WalkO q m XP B l.row.toRowW d [] (λf vs=>PySem.call f vs):=by
 show Pw.nW r y λw s₀ I mg mb fa o pm cd J a vs ns G Y ho hd FR L N i c O=>?_;have p:=A w _ Y;have⟨j,Q,hF⟩:=F w mg fa _ p G.T.g L;show uP p G.T.g G.T.b G.T.builtins G.T.nolimit O N i (Hm c t) z hF Q (λH hO hS=>C w H a ns c hO hS) λH e s'=>D w H I e s'
abbrev fw(s:Ls):Arguments:=match s with
 |.FunctionDef _ a _ _ _ _ _ _ _ _=>a
 |_=>{posonlyargs:=[],args:=[],vararg:=b6,kwonlyargs:=[],kw_defaults:=[],kwarg:=b6,defaults:=[]}
abbrev b_(s:Ls):List Ls:=match s with
 |.FunctionDef _ _ b _ _ _ _ _ _ _=>b
 |_=>[]
abbrev aF(s:Ls):Lc:=match s with
 |.FunctionDef _ _ _ _ _ _ a _ _ _=>a
 |_=>{kind:=.function,names:=[],isGenerator:=cb,isCoroutine:=cb}
@[reducible]noncomputable def JK:IC:=λ_ _ _ _ _ _=>False
@[reducible]noncomputable def E0:XK:=λ_ _ _=>False
def CT:Passes JK X E0:=λ_ _ _ _ _ _ _ h=>h.elim
structure Ji(K:PySem.W.Frag)(x qual:Str)(st:Ls)(f:gs)(fd:OF):Prop where
 ex:∃(oc:d6) (od:Option gs) (kV doc pm:d6) (an:Option gs) (Fj ct:d6) (Jh:Array (Option d6)),
  fd=PySem.W.fnOf x qual (fw st) (b_ st) (aF st) .none kV doc pm an Fj ct/\K.lookup f=a5 ⟨oc,od,.func fd,Jh⟩/\PySem.W.codeIn K Fj qual=b7
 kp:PySem.W.keepIn K (.ref f)=b7
section
variable{P:vu}{w:DD}{K:PySem.W.Frag}{mg:Str->Option d6}{base:IE}
def Ji.ok{st:Ls}(F:Ji K x a st f e)(S:cJ N d (aF st))(c:∀vs H Q E,sp vs H Q E->vs.length=d.length)
  (g:∀(b:d6) (A:Ke) (outer:List Env) (s:fx) (H:Hp) (vs:List V) (Q:VK) (E:XK),dn k (A.deeper (P5 a (aF st) s.heap.objs.size f b))->sp vs H Q E ->
   ∃t,FF (mf JK P w K mg base N a (aF st) f b A outer s H E).GD (b_ st) t/\t {nx:=λ_ H'=>Q .EU H',rt:=Q} (start N vs) H):gD P w K mg base JK (k+1) f e d sp:=by
 have⟨n,o,kV,i,p,r,b,ct,u,rfl,lk,j⟩:=F.ex;show zA lk j S c λA outer s H vs Q E l m=>?_;have⟨t,h,q⟩:=g b A outer s H vs Q E l m;show⟨t,h.GD,q⟩
def AI{st:Ls}{kV b e d ct:d6}(l:K.lookup f=a5 ⟨h,i,.func (PySem.W.fnOf x a (fw st) (b_ st) (aF st) .none kV b e g d ct),j⟩)
  (c:PySem.W.codeIn K d a=b7) (k:PySem.W.keepIn K (.ref f)=b7):Ji K x a st f (PySem.W.fnOf x a (fw st) (b_ st) (aF st) .none kV b e g d ct):=⟨⟨h,i,kV,b,e,g,d,ct,j,rfl,l,c⟩,k⟩
end
def tB(h:n<=1000):n<df:=Nat.lt_of_le_of_lt h (by decide)
section
end
abbrev kR(H H':Hp):Prop:=∀b o,H b=a5 o->H' b=a5 o
section
variable{κ:Type}[DecidableEq κ]
abbrev gI(a:List (κ×V))(k:κ):Option V:=(a.find? λkv=>c4 (kv.1=k)).map (·.2)
abbrev putK(a:List (κ×V))(k:κ)(v:V):List (κ×V) :=
 if (a.any λkv=>c4 (kv.1=k))=b7 then a.map (λkv=>if kv.1=k then(kv.1,v) else kv) else a++[(k,v)]
def eS{p:κ×V}{k:κ}(e:p.1=k):gI (p::r) k=a5 p.2:=by simp[gI,L8,e]
def eT{p:κ×V}{k:κ}(e:¬p.1=k):gI (p::r) k=gI r k:=by simp[gI,L8,e]
theorem jH(k:κ):∀a:List (κ×V),(a.any λkv=>c4 (kv.1=k))=(gI a k).isSome
 |[]=>rfl
 |p::r=>by
  rw[Tt];by_cases e:p.1=k
  .simp only[eS e,Yu e,Bool.true_or,VS]
  .rw[eT e,Ys e,Bool.false_or];show jH k r
def iS(a:List (κ×V))(k:κ)(v:V):(putK a k v).length<=a.length+1:=by
 unfold putK;split
 .rw[eh];lia
 .rw[gc,lx,Nm];lia
def sR.dC(r:sR o u):o.isSome=u.isSome:=by
 cases o with
 |none=>cases u with
  |none=>rfl
  |some _=>show(show False from r).elim
 |some _=>cases u with
  |none=>show(show False from r).elim
  |some _=>rfl
def KV.val(r:KV f vs)(k:κ):sR (gI f k) (Vs vs k):=by
 unfold KV at r;induction r with
 |nil=>show TJ
 |@cons p q j a h t g =>
  have⟨d,i⟩:=h;by_cases e:p.1=k
  .have c:q.1=k:=d.symm.trans e;have b:Vs (q::a) k=a5 q.2:=by simp[Vs,L8,c]
   rw[eS e,b];show i
  .have c:¬q.1=k:=λz=>e (d.trans z);have b:Vs (q::a) k=Vs a k:=by simp[Vs,L8,c]
   rw[eT e,b];show g
def KV.any(r:KV a vs)(k:κ):(a.any λkv=>c4 (kv.1=k))=vs.any λkv=>c4 (kv.1=k):=by
 unfold KV at r;induction r with
 |nil=>rfl
 |cons h t b=>rw[Tt,Tt,b,h.1]
def KV.AJ(r:KV b vs)(k:κ)(c:RelV y u):
  KV (b.map λkv=>if kv.1=k then(kv.1,y) else kv) (vs.map λkv=>if kv.1=k then(kv.1,u) else kv):=by
 unfold KV at r ⊢;induction r with
 |nil=>show .nil
 |@cons p q g i h t d =>
  rw[l3,l3];show .cons ?_ d;have⟨a,f⟩:=h;by_cases e:p.1=k
  .rw[Yr e,Yr (a.symm.trans e)];show⟨a,c⟩
  .rw[Yt e,Yt (λz=>e (a.trans z))];show⟨a,f⟩
def KV.put(r:KV b vs)(k:κ)(a:RelV y u):KV (putK b k y) (stored vs k u):=by
 unfold putK stored;rw[r.any k];by_cases e:(vs.any λkv=>c4 (kv.1=k))=b7
 .rw[Yr e,Yr e];show r.AJ k a
 .rw[Yt e,Yt e];show Paired.snoc r ⟨rfl,a⟩
def KV.length(r:KV a vs):a.length=vs.length:=Paired.length r
end
def qX(r:RelV (kV k) u):(bE P w).is k u=b7:=by
 cases k with
 |inl i=>have⟨t,e⟩:=(show ∃t,u=Wq i t from r);subst e;show nQ P w i t
 |inr x=>have⟨t,e⟩:=(show ∃t,u=FI x t from r);subst e;show nR P w x t
theorem lq:∀{a:List Key}{us:List d6},Vals (a.map kV) us->ItemsAre (bE P w) a us
 |[],_,r=>by rw[O8]at r;cases r;show .nil
 |k::a,_,r=>by
  rw[l3]at r;cases r with
  |cons h t=>show .cons (qX h) (lq t)
@[reducible]noncomputable def KT(H:Hp):List (List Key×V)->List (List Key×gs×d6)->Prop:=Paired λp q=>p.1=q.1/\H q.2.1=a5 (.tup (p.1.map kV))/\RelV p.2 q.2.2
def KT.val(r:KT H f xs)(k:List Key):sR (gI f k) ((Uy xs k).map (·.2)):=by
 induction r with
 |nil=>show TJ
 |@cons p q j a h t g =>
  obtain⟨d,_,i⟩:=h;by_cases e:p.1=k
  .have c:q.1=k:=d.symm.trans e;have b:Uy (q::a) k=a5 q.2:=by simp[Uy,L8,c]
   rw[eS e,b];show i
  .have c:¬q.1=k:=λz=>e (d.trans z);have b:Uy (q::a) k=Uy a k:=by simp[Uy,L8,c]
   rw[eT e,b];show g
def KT.AJ(r:KT H c xs)(k:List Key)(d:RelV y u):
  KT H (c.map λkv=>if kv.1=k then(kv.1,y) else kv) (xs.map (putAt k u)):=by
 induction r with
 |nil=>show .nil
 |@cons p q i j h t f =>
  rw[l3,l3];show .cons ?_ f;have⟨a,b,g⟩:=h;unfold putAt;by_cases e:p.1=k
  .rw[Yr e,Yr (a.symm.trans e)];show⟨a,b,d⟩
  .rw[Yt e,Yt (λz=>e (a.trans z))];show⟨a,b,g⟩
def KT.put(r:KT H a xs)(k:List Key)(d:H b=a5 (.tup (k.map kV)))(c:RelV y u):
  KT H (putK a k y) (storedH xs k b u):=by
 have e:(a.any λkv=>c4 (kv.1=k))=(Uy xs k).isSome:=by
  rw[jH,(r.val k).dC,P6]
 unfold putK storedH;rw[e];by_cases q:(Uy xs k).isSome=b7
 .rw[Yr q,Yr q];show r.AJ k c
 .rw[Yt q,Yt q];show Paired.snoc r ⟨rfl,d,c⟩
def KT.keeps(r:KT H c xs)(d:∀b a,H b=a5 (.tup a)->H' b=a5 (.tup a)):KT H' c xs :=
 Paired.Ai r λ_ _ z=>⟨z.1,d _ _ z.2.1,z.2.2⟩
section
def zC(ok:FA P w H h)(e:Rd H a u):bF P w H h a u:=e.ok ok
def uQ(ok:FA P w H h)(e:Rd H a (.dK b)):b.length<=df/\(a==Jo)=cb/\∃vs,KV b vs/\h.DictOf (bE P w) a vs :=
 show bF P w H h a (.dK b) from zC ok e
def CU(ok:FA P w H h)(e:H a=a5 (.dK b)):b.length<=df/\(a==Jo)=cb/\∃vs,KV b vs/\h.DictOf (bE P w) a vs:=uQ ok (.inl e)
def mC(ok:FA P w H h)(e:H a=a5 (.tup (b.map kV))):(U8 (bE P w)).is h b a:=by
 obtain⟨_,c,r,o,d,f,n,g⟩:=(show bF P w H h a (.tup (b.map kV)) from ok a _ e)
 show⟨o,c.toArray,n,d,f,g,by simpa using lq r⟩
def uR(ok:FA P w H h)(e:Rd H a (.dT b)):b.length<=df/\(a==Jo)=cb /\
  ∃xs,KT H b xs/\h.DictOfH (U8 (bE P w)) a xs:=by
 have⟨z,y,xs,r,o,es,ep,d,f,g,i,j⟩:=(show bF P w H h a (.dT b) from zC ok e)
 show⟨z,y,xs,r,o,es,ep,d,f,g,i,λx hx=>?_,j⟩;have all:∀{l:List (List Key×V)} {m:List (List Key×gs×d6)},KT H l m->∀x∈m,(U8 (bE P w)).is h x.1 x.2.1:=by
  intro l m q;induction q with
  |nil=>intro x hx;show nomatch hx
  |@cons p q n s c t k =>
   intro x hx;rcases fz.mp hx with e|hx
   .subst e;show mC ok (by rw[<-c.1];show c.2.1)
   .show k x hx
 show all r x hx
def CV(ok:FA P w H h)(e:H a=a5 (.dT b)):b.length<=df/\(a==Jo)=cb /\
  ∃xs,KT H b xs/\h.DictOfH (U8 (bE P w)) a xs:=uR ok (.inl e)
end
abbrev tD(H:Hp)(a:gs)(y:V)(r:Option V):Prop :=
 (∃c k,Rd H a (.dK c)/\y=kV k/\r=gI c k)\/∃c k b,Rd H a (.dT c)/\y=.ref b/\H b=a5 (.tup (k.map kV))/\r=gI c k
abbrev uS(H:Hp)(a:gs)(y v:V)(H':Hp):Prop :=
 (∃c k,H a=a5 (.dK c)/\y=kV k/\c.length<df/\H'=upd H a (.dK (putK c k v))) \/
 ∃c k b,H a=a5 (.dT c)/\y=.ref b/\H b=a5 (.tup (k.map kV))/\c.length<df/\H'=upd H a (.dT (putK c k v))
def tD.k{H:Hp}{a:gs}{b:List (Key×V)}{k:Key}(e:H a=a5 (.dK b)):tD H a (kV k) (gI b k):=.inl ⟨b,k,.inl e,rfl,rfl⟩
def uS.k{H:Hp}{a:gs}{b:List (Key×V)}{k:Key}{v:V}(e:H a=a5 (.dK b))(hl:b.length<df):uS H a (kV k) v (upd H a (.dK (putK b k v))):=.inl ⟨b,k,e,rfl,hl,rfl⟩
section
def Inv.big(I:Inv X pins σ H s):Jo<s.heap.objs.size:=by
 have h:mA<s.heap.objs.size:=(I.mod.glob.keeps I.bk).lt;show RC (by decide) h
def Eo(j:A.units+1<Ga)(I:Inv X pins σ H s)(g:tD H a y o)(i:RelV y u)(h:∀s',Inv X pins σ H s'->Q (.bool o.isSome) s'):
  eH (ko X.prog X.w) A (Ks .In u (.ref a)) Q E s:=by
 rcases g with⟨m,k,e,d,l⟩|⟨m,k,b,e,d,n,l⟩
 .subst d;have⟨z,f,vs,c,dd⟩:=uQ I.EN e;show wpAny_in_of (qX i) f dd.mapOf ?_;rw[<-(c.val k).dC,<-l];show h _ (I.tok _)
 .subst d;cases(show u=uk b from i);have⟨z,f,xs,c,dd⟩:=uR I.EN e;show wpAny_in_heap (UG j) (mC I.EN n) f dd ?_;have q:=(c.val k).dC;rw[P6]at q;rw[<-q,<-l];show h _ (I.tok _)
def x5(j:A.units+1<Ga)(I:Inv X pins σ H s)(g:tD H a y o)(i:RelV y u)(h:∀s',Inv X pins σ H s'->Q (.bool (!o.isSome)) s'):
  eH (ko X.prog X.w) A (Ks .NotIn u (.ref a)) Q E s:=by
 rcases g with⟨m,k,e,d,l⟩|⟨m,k,b,e,d,n,l⟩
 .subst d;have⟨z,f,vs,c,dd⟩:=uQ I.EN e;show wpAny_notIn_of (qX i) f dd.mapOf ?_;rw[<-(c.val k).dC,<-l];show h _ (I.tok _)
 .subst d;cases(show u=uk b from i);have⟨z,f,xs,c,dd⟩:=uR I.EN e;show XT (UG j) (mC I.EN n) f dd ?_;have q:=(c.val k).dC;rw[P6]at q;rw[<-q,<-l];show h _ (I.tok _)
def qY(I:Inv X pins σ H s)(d:KU (H a))(hs:H8 a s.heap h')(f:∃q,h'.get? a=a5 q)(new:bF X.prog X.w (upd H a c) h' a c):
  Inv X pins σ (upd H a c) {s with heap:=h',toks:=t' } :=
 I.write (x:=a) (e:=a) d (.inl rfl) (λb q g z=>(hs.2 b g).trans z) f new
def AK(z:c.length<=df)(d:(a==Jo)=cb)(b:KV c vs)(dd:h'.DictOf (bE P w) a vs):
  bF P w H' h' a (.dK c):=⟨z,d,vs,b,dd⟩
def tE(C:A.units+1<Ga)(I:Inv X pins σ H s)(g:uS H a y v H')(p:RelV y u)(t:RelV v r)(h:∀s',Inv X pins σ H' s'->Q () s'):
  eH (ko X.prog X.w) A (Wm (.ref a) u r) Q E s:=by
 rcases g with⟨f,k,e,m,l,n⟩|⟨f,k,b,e,m,x,l,n⟩
 .subst m n;have⟨z,o,vs,d,dd⟩:=CU I.EN e;have hz:vs.length<=df:=by rw[<-d.length];show z
  have hl:(putK f k v).length<=df:=by have:=iS f k v;lia
  show wpAny_setItem_pairs (hsz:=hz) (qX p) dd λh' i hs=>h _ ?_;have D:∃q,h'.get? a=a5 q:=let ⟨q,_,_,j,_⟩:=i;⟨q,j⟩;show qY I (by rw[e];show TJ) hs D (AK hl o (d.put k t) i)
 .subst m n;cases(show u=uk b from p);have⟨z,o,xs,d,dd⟩:=CV I.EN e;have hz:xs.length<=df:=by rw[<-Paired.length d];show z
  have hl:(putK f k v).length<=df:=by have:=iS f k v;lia
  show Xg (hsz:=hz) (UG C) (mC I.EN x) dd λh' i hs=>h _ ?_;obtain⟨q,es,ep,j,G,J,L,_,N⟩:=i;show qY I (by rw[e];show TJ) hs ⟨q,j⟩ ⟨hl,o,_,(d.put k x t).keeps λc O B=>?_,q,es,ep,j,G,J,L,N⟩;rw[aw (uu B e (λz=>nomatch z))];show B
end
section
end
section
end
def uT(h:IE)(a:Jo<h.objs.size):bF P w H (h.push {cls:=.type "dict",data:=.dict #[]}) h.objs.size (.dK []) :=
 ⟨uv _,Yz.mpr (HX (nC a)),[],.nil,Ym h⟩
abbrev AL:TE:=λ_ H Q=>∀p,H p=b6->Q (.ref p) (upd H p (.dK []))
section
def uU:PE X (.Dict [] [] pos) AL:=λpins s σ H Q I h =>
 XJ ⟨.ref s.heap.objs.size,_,I.laid (a:=s.heap.objs.size) (o:=.dK []) (t':=s.toks) (λ_ _ q=>dV _ q) (ke _) (uT s.heap I.big),rfl,h _ (I.EN.fresh (ke _))⟩
end
structure M1(X:Cx)(o:tr)(m:Str)(apos:Pos)(e:tr)(EM:Pos):Prop where
 base:Ry o m X.env (Ka o X.env)=Ka o X.env
 Im:((Kc EM (mx [e] X.env)).all (λx=>!x.1)&&(Ub EM (Pd [] X.env)).all (λx=>x.1.isSome)
  && c4 (([e]:List tr).length+([]:List NB).length+(if ([]:List NB).isEmpty then 0 else 1)<30))=b7
 line:(apos.endLine==EM.line)=b7
 trees:Kc EM (mx [e] X.env)=[(cb,Ka e X.env)]
structure M2(X:Cx)(o:tr)(m:Str)(apos:Pos)(e f:tr)(EM:Pos):Prop where
 base:Ry o m X.env (Ka o X.env)=Ka o X.env
 Im:((Kc EM (mx [e,f] X.env)).all (λx=>!x.1)&&(Ub EM (Pd [] X.env)).all (λx=>x.1.isSome)
  && c4 (([e,f]:List tr).length+([]:List NB).length+(if ([]:List NB).isEmpty then 0 else 1)<30))=b7
 line:(apos.endLine==EM.line)=b7
 trees:Kc EM (mx [e,f] X.env)=[(cb,Ka e X.env),(cb,Ka f X.env)]
section
end
section
end
section
end
section
end
end L2
namespace E5
open PySem PySem.Builtin.Str PySem.StrLaws
abbrev low(c:Nat):Bool:=c4 (97<=c)&&c4 (c<=122)
abbrev bS(l:List Nat):Bool:=c4 (1<=l.length)&&c4 (l.length<=8)&&l.all low
def bN(l:List Nat):bS l=b7↔1<=l.length/\l.length<=8/\∀c∈l,97<=c/\c<=122:=by
 simp[bS,low,ri,and_assoc]
def gJ(h:bS l=b7):47∉l:=λm=>by
 have:=((bN l).mp h).2.2 47 m;lia
def cV{x y:Str}(h:x.cps.toList=y.cps.toList):x=y:=by
 cases x;cases y;congr
 show Ux.mp h
def pF(x:Str)(b:x.cps.toList=(ei 26).map (97+·))(c:Nat):(!(y0 x ⟨#[c]⟩ 0 x.length 1).isEmpty)=low c:=by
 rw[found_one,b];simp only[low,mh,ux];by_cases h:97<=c/\c<=122
 .have:∃a,a<26/\97+a=c:=⟨c - 97,⋯,⋯⟩
  simp[this,h.1,h.2]
 .have:¬∃a,a<26/\97+a=c:=λ⟨a,d,e⟩=>h ⟨⋯,⋯⟩;simp[this];lia
def ip(h:c∉x.cps.toList):oT x ⟨#[c]⟩=(x,JG,JG):=by
 have e:=found_one x c;rw[Ys h]at e;unfold oT;cases q:y0 x ⟨#[c]⟩ 0 x.length 1 with
 |nil=>rfl
 |cons i r=>rw[q]at e;simp at e
def mD(x:Str)(c i:Nat):At x ⟨#[c]⟩ x.length i↔x.cps.toList[i]?=a5 c:=subAt_one x c i
def uV(h:x.cps.toList=a++c::b)(j:c∉a)(d:Nat)(hl:1<=d):∃r,y0 x ⟨#[c]⟩ 0 x.length d=a.length::r:=by
 have f:x.cps.toList[a.length]?=a5 c:=by rw[h];simp
 rcases occ_head x ⟨#[c]⟩ d hl with⟨_,k⟩|⟨i,r,e,l,m⟩
 .show absurd ((mD x c a.length).mpr f) (k _)
 .have g:=(mD x c i).mp l;have:i=a.length:=by
   rcases WN i a.length with z|z|z
   .exfalso
    rw[h,ve z]at g;show j (Hb g)
   .show z
   .show absurd ((mD x c a.length).mpr f) (m _ z)
  subst this;show⟨r,e⟩
def mE(h:x.cps.toList=a++c::b)(d:c∉a):oT x ⟨#[c]⟩=(⟨a.toArray⟩,⟨#[c]⟩,⟨b.toArray⟩):=by
 have⟨r,e⟩:=uV h d 1 (ke _);unfold oT;rw[e];have f:(⟨#[c]⟩:Str).length=1:=rfl;have g:x.length=a.length+1+b.length:=by
  have:=Yy KX h;simp[Ow]at this ⊢;lia
 show QN ?_ (QN rfl ?_)
 .apply cV;rw[V4,h];simp
 .apply cV;change(strSub x (a.length+(⟨#[c]⟩:Str).length) x.length).cps.toList=_;rw[V4,h,f,g];simp
def jI(h:c∉x.cps.toList):LC x ⟨#[c]⟩=[x]:=by
 unfold LC;split
 .rfl
 .rw[Yr];rcases occ_head x ⟨#[c]⟩ (x.length+1) ⋯ with⟨e,_⟩|⟨i,r,e,a,_⟩
  .rw[e];rfl
  .show absurd (Hb ((mD x c i).mp a)) h
def nX(c:Nat)(h:c<256)(x:Str):¬(PySem.Builtin.Str.strKind x<PySem.Builtin.Str.strKind ⟨#[c]⟩):=by
 have e:PySem.Builtin.Str.strKind ⟨#[c]⟩=1:=by simp[PySem.Builtin.Str.strKind,h]
 rw[e];unfold PySem.Builtin.Str.strKind;split
 .lia
 .split<;>lia
def nY(h:x.cps.toList=a++c::b)(d:c∉a)(f:c<256):∃r,LC x ⟨#[c]⟩=⟨a.toArray⟩::r:=by
 have⟨r,e⟩:=uV h d (x.length+1) ⋯;have g:(⟨#[c]⟩:Str).length=1:=rfl;have k:x.length=a.length+1+b.length:=by
  have:=Yy KX h;simp[Ow]at this ⊢;lia
 unfold LC;rw[Yt (by
  have i:¬(x.length<(⟨#[c]⟩:Str).length):=by rw[g];lia
  have j:=nX c f x;simp[i,j]),Yt (by rw[e];simp),partsBetween_eq,e]
 show⟨_,Yy (·::_) ?_⟩;apply cV;rw[V4,h];simp
abbrev cW(i:Int):Str:=RA (X5 i)
abbrev zD:Str:=⟨#[47]⟩
def app_list(x y:Str):(x++y).cps.toList=x.cps.toList++y.cps.toList:=by
 change(x.cps++y.cps).toList=_;simp
def iT(h:c∈l):∃a b,l=a++c::b/\c∉a:=by
 induction l with
 |nil=>cases h
 |cons x l f =>
  by_cases d:x=c
  .subst d;show⟨[],l,rfl,by simp⟩
  .have g:c∈l:=by
    rcases fz.mp h with e|e
    .show absurd e.symm d
    .show e
   have⟨a,b,e,i⟩:=f g;show⟨x::a,b,by rw[e];rfl,λm=>?_⟩;rcases fz.mp m with z|z
   .show d z.symm
   .show i z
end E5
namespace L2
open PySem PySem.Spec PyProof.Rows
abbrev bb(env:Env):List (Str×K7)->List (Str×gs)->List (Str×gs)
 |[],b=>b
 |(n,k)::r,b=>bb env r (if k==.free then(match env.cells.lookup n with|some a=>(n,a)::b|none=>b) else b)
def dE(h:∀y∈scope.names,y.2=.free->∃a,env.cells.lookup y.1=a5 a):closureFor scope env=pure (bb env scope.names []):=by
 unfold closureFor;generalize scope.names=names at h
 suffices H:∀b,(XH names b (λ(x:Str×K7) (r:List (Str×gs))=>if (x.2==Km)=b7 then do let a <-cellOf env x.1;pure (M8 ((x.1,a)::r)) else pure (M8 r)):Sem (List (Str×gs)))=pure (bb env names b) by
  have:=H [];show Yy (λ(m:Sem (List (Str×gs)))=>m >>= pure) this
 induction names with
 |nil=>intro b;rfl
 |cons y r d =>
  intro b;have⟨n,k⟩:=y;rw[List.forIn_cons];have c:=d λy e=>h y (ek _ e);by_cases hk:(k==Km)=b7
  .have⟨a,f⟩:=h (n,k) gw (by simpa using hk);have g:env.cells.lookup n=a5 a:=f;simp only[hk,YA,cellOf,g,bb];show c _
  .simp only[hk,Yx,bb];show c _
theorem dS:∀(names:List (Str×K7)) (b:List (Str×gs)),(∀n c,b.lookup n=a5 c->env.cells.lookup n=a5 c)->∀n c,(bb env names b).lookup n=a5 c->env.cells.lookup n=a5 c
 |[],_,h=>h
 |(m,k)::r,b,h=>by
  unfold bb;show dS r _ λn c e=>?_;by_cases hk:(k==Km)=b7
  .rw[Yr hk]at e;cases q:env.cells.lookup m with
   |none=>rw[q]at e;show h n c e
   |some a =>
    rw[q]at e;simp only[tA]at e;cases d:n==m with
    |true =>
     rw[d]at e;have f:n=m:=by simpa using d
     subst f;simp only at e;rw[q];show e
    |false=>rw[d]at e;show h n c e
  .rw[Yt hk]at e;show h n c e
theorem iU(d:env.cells.lookup n=a5 a):∀(names:List (Str×K7)) (c:List (Str×gs)),c.lookup n=a5 a->(bb env names c).lookup n=a5 a
 |[],_,h=>h
 |(m,k)::r,c,h=>by
  unfold bb;show iU d r _ ?_;by_cases hk:(k==Km)=b7
  .rw[Yr hk];cases q:env.cells.lookup m with
   |none=>show h
   |some b =>
    simp only[tA];cases e:n==m with
    |true =>
     have f:n=m:=by simpa using e
     subst f;rw[d]at q;cases q;rfl
    |false=>show h
  .rw[Yt hk];show h
theorem fS(b:env.cells.lookup n=a5 a):∀(names:List (Str×K7)) (c:List (Str×gs)),(n,Km)∈names->(bb env names c).lookup n=a5 a
 |[],_,h=>by cases h
 |(m,k)::r,c,h=>by
  unfold bb;rcases fz.mp h with e|e
  .cases e;show iU b r _ ?_;rw[Yr (by decide),b];simp[tA]
  .show fS b r _ e
theorem bz{env:Env}:∀{names:List (Str×K7)}{x:Str}{k:K7},
  (names.map λ(n,k)=>if (k==Km&&env.scope.kind==.function&&env.kindOf n==a5 .cell) then(n,Kr) else(n,k)).lookup x=a5 k ->
  names.lookup x=a5 k\/(k=.cell/\names.lookup x=a5 .free)
 |[],_,_,h=>by simp at h
 |(n,k0)::r,x,k,h=>by
  have e:=@bz env r x k;rw[l3]at h;by_cases b:(k0==Km&&env.scope.kind==.function&&env.kindOf n==a5 .cell)=b7
  .simp only[Yr b,tA]at h;cases a:x==n with
   |true =>
    rw[a]at h;have f:k0=.free:=by
     have:=(Ij.mp (Ij.mp b).1).1;simpa using this
    show .inr ⟨by simpa using h.symm,by simp[tA,a,f]⟩
   |false =>
    rw[a]at h;rcases e h with z|⟨c,d⟩
    .show .inl (by simp[tA,a,z])
    .show .inr ⟨c,by simp[tA,a,d]⟩
  .simp only[Yt b,tA]at h;cases a:x==n with
   |true=>rw[a]at h;show .inl (by simpa[tA,a] using h)
   |false =>
    rw[a]at h;rcases e h with z|⟨c,d⟩
    .show .inl (by simp[tA,a,z])
    .show .inr ⟨c,by simp[tA,a,d]⟩
theorem iV:∀(names:List (Str×K7)) (b:List (Str×gs)),(bb env names b).lookup x=a5 c->(x,Km)∈names\/b.lookup x=a5 c
 |[],_,h=>.inr h
 |(m,k)::r,b,h=>by
  unfold bb at h;rcases iV r _ h with z|z
  .show .inl (ek _ z)
  .by_cases hk:(k==Km)=b7
   .rw[Yr hk]at z;cases q:env.cells.lookup m with
    |none=>rw[q]at z;show .inr z
    |some a =>
     rw[q]at z;simp only[tA]at z;cases d:x==m with
     |true =>
      have e:x=m:=by simpa using d
      have f:k=.free:=by simpa using hk
      subst e f;show .inl gw
     |false=>rw[d]at z;show .inr z
   .rw[Yt hk]at z;show .inr z
theorem gK:∀(names:List (Str×K7)) (n:Nat) (a:List (Str×gs)),(Ky n names a).lookup x=a5 c->((x,Kr)∈names/\@W_ Nat _ n c)\/a.lookup x=a5 c
 |[],_,_,h=>.inr h
 |(y,k)::r,n,a,h=>by
  unfold Ky at h;by_cases hk:(k==Kr)=b7
  .rw[Yr hk]at h;have f:k=.cell:=by simpa using hk
   subst f;rcases gK r (n+1) _ h with⟨b,d⟩|z
   .show .inl ⟨ek _ b,Nat.le_of_succ_le d⟩
   .simp only[tA]at z;cases e:x==y with
    |true =>
     rw[e]at z;have g:x=y:=by simpa using e
     subst g;cases z;show .inl ⟨gw,ke _⟩
    |false=>rw[e]at z;show .inr z
  .rw[Yt hk]at h;rcases gK r n a h with⟨b,d⟩|z
   .show .inl ⟨ek _ b,d⟩
   .show .inr z
theorem mF:∀(names:List (Str×K7)) (n:Nat) (a:List (Str×gs)),(x,Kr)∉names->(Ky n names a).lookup x=a.lookup x
 |[],_,_,_=>rfl
 |(y,k)::r,n,a,h=>by
  unfold Ky;have b:(x,Kr)∉r:=λz=>h (ek _ z);by_cases hk:(k==Kr)=b7
  .rw[Yr hk,mF r _ _ b];have c:k=.cell:=by simpa using hk
   subst c;simp only[tA];cases d:x==y with
   |true =>
    have e:x=y:=by simpa using d
    subst e;show absurd gw h
   |false=>rfl
  .rw[Yt hk,mF r _ _ b]
theorem pG:∀(names:List (Str×K7)) (n:Nat) (a:List (Str×gs)),(∀(z:Str) (d:gs),a.lookup z=a5 d->@M0 Nat _ d n)->(∀(u v:Str) (d:gs),a.lookup u=a5 d->a.lookup v=a5 d->u=v) ->
  (Ky n names a).lookup x=a5 c->(Ky n names a).lookup y=a5 c->x=y
 |[],_,_,_,g,b,f=>g x y c b f
 |(h,k)::r,n,a,hl,g,b,f=>by
  unfold Ky at b f;by_cases hk:(k==Kr)=b7
  .rw[Yr hk]at b f;have lk:∀(z:Str) (d:gs),List.lookup z ((h,(n:gs))::a)=a5 d->(z=h/\d=n)\/a.lookup z=a5 d:=λz d e=>by
    simp only[tA]at e;cases i:z==h with
    |true=>rw[i]at e;cases e;show .inl ⟨by simpa using i,rfl⟩
    |false=>rw[i]at e;show .inr e
   show pG r (n+1) _ (λz d e=>?_) (λu v d j l=>?_) b f
   .rcases lk z d e with⟨_,q⟩|q
    .rw[q];show OJ _
    .show QC (hl z d q)
   .rcases lk u d j with⟨m,o⟩|q<;>rcases lk v d l with⟨p1,p2⟩|p
    .rw[m,p1]
    .rw[o]at p;show absurd (hl v n p) (H4 _)
    .rw[p2]at q;show absurd (hl u n q) (H4 _)
    .show g u v d q p
  .rw[Yt hk]at b f;show pG r n a hl g b f
theorem mG:∀(names:List (Str×K7)) (h:IE) (a:List (Str×gs)),(Ky h.objs.size names a).lookup x=a5 c->(QB h names).IsCell c b6\/a.lookup x=a5 c
 |[],_,_,e=>.inr e
 |(y,k)::r,h,a,e=>by
  unfold Ky at e;unfold QB;by_cases hk:(k==Kr)=b7
  .rw[Yr hk]at e ⊢;have hs:h.objs.size+1=(h.push {cls:=.type "cell",data:=.cell b6}).objs.size:=by rw[R']
   rw[hs]at e;rcases mG r _ _ e with z|z
   .show .inl z
   .simp only[tA]at z;cases b:x==y with
    |true =>
     rw[b]at z;cases z;show .inl ⟨_,Vl r _ _ _ (hY _ rfl),rfl⟩
    |false=>rw[b]at z;show .inr z
  .rw[Yt hk]at e ⊢;show mG r h a e
abbrev Hx(X:Cx)(scope:Lc)(C:gs):List (Str×gs):=Ky (C+1) scope.names (bb X.env scope.names [])
abbrev FH(X:Cx)(N:List Str)(scope:Lc)(C:gs)(s:fx)(H:Hp)(ex:List gs):Cx where
 prog:=X.prog
 w:=X.w
 K:=X.K
 mg:=X.mg
 base:=X.base
 A:=X.A
 N:=N
 s₀:=s
 H₀:=H
 env:=UU scope (Hx X scope C) C X.env
 outer:=X.stack
 stack:=X.stack
 ex:=ex
 fn:=λx=>c4 (scope.names.lookup x=a5 .cell)
 calm:=X.calm
 pn:=[]
 xe:=λ_ _=>False
abbrev dq(D N:List Str):Prop:=D.length=N.length/\∀(i:Nat) (y:Str),D[i]?=a5 y->N[i]?=a5 y\/y="."\/y=".."
def dq.refl(N:List Str):dq N N:=⟨rfl,λ_ _ h=>.inl h⟩
def dq.set{D N:List Str}(h:dq D N)(j:Nat){m:Str}(b:m="."\/m=".."):dq (D.set j m) N:=by
 show⟨by rw[W7];show h.1,λi y e=>?_⟩;by_cases a:j=i
 .subst a;rw[List.getElem?_set,Yr rfl]at e;split at e
  .cases e;show .inr b
  .cases e
 .rw[mu a]at e;show h.2 i y e
structure cw(X:Cx)(N own:List Str)(scope:Lc):Prop where
 kind:scope.kind=.function
 uq:∀y∈scope.names,scope.names.lookup y.1=a5 y.2
 cl:∀y∈scope.names,y.2=.cell->y.1∈own
 nd:N.Nodup
 pre:N.take own.length=own
 loc:∀y∈scope.names,y.2=.local->y.1∈own\/y.1=".0"
 Q6:(".0":Str)∉N
 tail:dq (N.drop own.length) X.N
 free:∀y∈scope.names,y.2=.free->X.env.scope.names.lookup y.1=a5 .cell\/X.env.scope.names.lookup y.1=a5 .free
 dot:∀y∈scope.names,y.1≠"."/\y.1≠".."
def mem_lookup{names:List (Str×K7)}(h:names.lookup x=a5 k):(x,k)∈names:=PySem.mem_of_lookup h
def cw.names(S:cw X N a scope):∀y∈scope.names,y.2=.local->scope.names.lookup y.1=a5 .local:=λy b e=>e▸S.uq y b
def cw.no(S:cw X N a scope)(h:scope.names.lookup x=a5 .free):(x,Kr)∉scope.names:=λz=>by
 have:=S.uq _ z;rw[h]at this;cases this
def cw.cells(S:cw X N b scope)(ok:X.Ok):∀y∈scope.names,y.2=.free->∃a,X.env.cells.lookup y.1=a5 a:=λy c d=>by
 rcases S.free y c d with z|z
 .show ok.has y.1 (.inl z)
 .show ok.has y.1 (.inr z)
def uW(S:cw X N f scope)(I:Inv X pins σ H s)
  (B:s.heap.objs.size<=C) (Ho:∀x c,(Hx X scope C).lookup x=a5 c->s4.heap.IsCell c b6\/(bb X.env scope.names []).lookup x=a5 c) (GW:s4.os=s.os) (hg:s4.gens=s.gens) (keep:∀b o,s.heap.get? b=a5 o->s4.heap.get? b=a5 o) (ns:∃m,s4.heap.Ns C m)
  (g:∀b∈ex,jj X pins H b/\b<s.heap.objs.size):Inv (FH X N scope C s H ex) [] (pb f.length b6++σ) H s4:=by
 have⟨m0,JL⟩:=ns;have sub:=dS (env:=X.env) scope.names [] (λn c e=>by simp at e);have Q7:∀(x:Str) (c:gs),(bb X.env scope.names []).lookup x=a5 c->c<s.heap.objs.size:=λx c e=>by
  obtain⟨v,o,ho,_⟩:=I.cell x c (sub x c e);show lg ho
 have J:∀(x:Str) (c:gs),(Hx X scope C).lookup x=a5 c->C<c\/(bb X.env scope.names []).lookup x=a5 c:=λx c e=>(gK _ _ _ e).imp (λz=>z.2) id;have T:∀b∈ex,b<C:=λb t=>my (g b t).2 B;have tl:f.length<=N.length:=by have:=Yy KX S.pre;rw[tj]at this;lia
 show⟨⟨I.ok.mod,?_,I.ok.glob,I.ok.blt,B,λx y c w A=>pG _ _ _ (λz d e=>QC (my (Q7 z d e) B)) (λu v d D e2=>I.ok.inj u v d (sub u d D) (sub v d e2)) w A,λx hx=>?_,λx c h e=>?_,I.ok.hd,I.ok.frames,.inl rfl,λb t=>⟨nC (T b t),λx c e=>?_⟩,λb o e=>I.bs b o e,?_,λb o e t=>?_,λb t=>?_,I.stack,I.gA⟩,
  GW,(by rw[hg];show I.bare),Un.kept keep,⟨m0,JL,λi y v w A h3=>?_⟩,λx c e=>?_,I.EN.fresh B,λx c e=>?_,λp hp=>absurd (show p∈([]:List (gs×Obj)) from hp) (by simp),I.EN.kept keep,?_⟩
 .change(Sk scope X.env).kind=.function;show S.kind
 .
  have Q8:(Sk scope X.env).names.lookup x=a5 .cell\/(Sk scope X.env).names.lookup x=a5 .free:=hx;have E4:scope.names.lookup x=a5 .cell\/scope.names.lookup x=a5 .free:=by
   rcases Q8 with z|z
   .rcases bz z with q|⟨_,q⟩
    .show .inl q
    .show .inr q
   .rcases bz z with q|⟨q,_⟩
    .show .inr q
    .cases q
  rcases E4 with E4|E4
  .show P9.mp (PySem.W.cellsFrom_some scope.names (C+1) _ (.inl E4))
  .have⟨a,ha⟩:=S.cells I.ok (x,.free) (mem_lookup E4) rfl;show⟨a,(mF _ _ _ (S.no E4)).trans (fS ha scope.names [] (mem_lookup E4))⟩
 .have h':scope.names.lookup x=a5 .cell:=Yv h;rcases J x c e with z|z
  .show Hm B (JY z)
  .rcases iV _ _ z with z|z
   .have:=S.uq _ z;rw[h']at this;cases this
   .simp at z
 .rcases J x c e with z|z
  .show λq=>absurd (RC (T b t) z) (by rw[q];show H4 _)
  .show(g b t).1.2.2.2.2.1 x c (sub x c z)
 .show Hm I.ok.HF I.sz
 .have⟨f0,Y,f2,f3,f4,f5⟩:=(g b t).1;rcases f3 with z|z
  .show I.ok.GZ b o e z
  .show absurd (my (lg e) (Hm I.ok.HF z)) (H4 _)
 .intro GH;have⟨f0,Y,f2,f3,f4,f5⟩:=(g b t).1;rcases fz.mp (I.jz b GH) with z|z
  .show Y z
  .show f2 z
 .
  have L:f.length<=i:=by
   by_cases L:i<f.length
   .rw[ve (by simpa using L),Ii]at A;split at A<;>cases A
   .lia
  rw[va (by simpa using L),Ma]at A;have Q9:(N.drop f.length)[i - f.length]?=a5 y:=by
   rw[La];have e:f.length+(i - f.length)=i:=by lia
   rw[e];show w
  have Kn:(Sk scope X.env).names.lookup y=a5 .local\/(Sk scope X.env).names.lookup y=a5 .cell\/(Sk scope X.env).names.lookup y=a5 .free:=h3;have Jj:∀y:Str,y∈f->N[i]?=a5 y->False:=λy O w=>by
   have⟨j,hj,ej⟩:=O5 O;have Jk:N[j]?=a5 y:=by
    have D:(N.take f.length)[j]?=a5 y:=by rw[S.pre,z8 hj,ej]
    rw[QF hj]at D;show D
   have:=gB S.nd Jk w;lia
  have E4:scope.names.lookup y=a5 .free:=by
   rcases Kn with z|z|z
   .rcases bz z with q|⟨q,_⟩
    .exfalso
     have O:y∈f:=by
      rcases S.loc (y,.local) (mem_lookup q) rfl with z|z
      .show z
      .have z':y=".0":=z;show absurd (Hb w) (by rw[z'];show S.Q6)
     show Jj y O w
    .cases q
   .rcases bz z with q|⟨_,q⟩
    .show(Jj y (S.cl _ (mem_lookup q) rfl) w).elim
    .show q
   .rcases bz z with q|⟨q,_⟩
    .show q
    .cases q
  have hX:X.N[i - f.length]?=a5 y:=by
   rcases S.tail.2 _ _ Q9 with e|e|e
   .show e
   .show absurd e (S.dot _ (mem_lookup E4)).1
   .show absurd e (S.dot _ (mem_lookup E4)).2
  have⟨m,hn,hl⟩:=I.loc;have hv:X.env.scope.names.lookup y=a5 .cell\/X.env.scope.names.lookup y=a5 .free:=S.free (y,.free) (mem_lookup E4) rfl;have⟨u,r,l⟩:=hl _ y v hX A (.inr hv);show⟨u,r,?_⟩;rcases l with⟨k,_⟩|⟨k,c,e,z⟩
  .have k':X.env.scope.names.lookup y=a5 .local:=k;rcases hv with q|q<;>(rw[k']at q;cases q)
  .have hk:(Sk scope X.env).names.lookup y=a5 .cell\/(Sk scope X.env).names.lookup y=a5 .free:=by
    rcases Kn with q|q|q
    .rcases bz q with G|⟨G,_⟩
     .rw[E4]at G;cases G
     .cases G
    .show .inl q
    .show .inr q
   have⟨o,ho,Q⟩:=z;show .inr ⟨hk,c,(mF _ _ _ (S.no E4)).trans (fS e scope.names [] (mem_lookup E4)),o,keep c o ho,Q⟩
 .rcases Ho x c e with z|z
  .show⟨_,z⟩
  .have⟨v,o,ho,Q⟩:=I.cell x c (sub x c z);show⟨v,o,keep c o ho,Q⟩
 .rcases J x c e with z|z
  .show I.EN.fresh (Hm B (JY z))
  .show I.E1 x c (sub x c z)
 .rw[gc,Ma,I.len];have e:N.length=f.length+(N.drop f.length).length:=by rw[JF];lia
  change _=N.length;rw[e,S.tail.1]
def nZ(I:Inv X pins σ H s)
  (d:Inv (FH X N scope C s H ex) Jd σ' l s4) (x:s.heap.objs.size<=D) (y:s.heap.objs.size<=C) (A:D≠C) (g:l D=b6) (B:Vals p r) (G:s4.heap.PlainList D r.toArray) (hl:p.length<=df)
  (h:H8 C s4.heap h') (m:∀b∈ex,jj X pins H b):Inv X pins σ (upd l D (.lst p)) {s4 with heap:=h' }:=by
 have t:l C=b6:=d.free;have k:∀{b:gs} {o:Obj},s.heap.get? b=a5 o->b≠C/\b≠D:=λe=>⟨nC (my (lg e) y),nC (my (lg e) x)⟩
 show I.uz (s':={s4 with heap:=h' }) (ch:=ex) d.os ⟨λb o e n i f=>?_,λb o e n i f=>?_,λb o e n f=>?_,λb o e f=>?_,λb xs e=>?_,λb o u e=>?_,λb J e=>?_⟩ (λa o e=>?_) d.bare λb i=>?_
 .show(h.2 b (k e).1).trans (d.base.keep b o e n i f)
 .have⟨L,q⟩:=d.base.slot b o e n i f;show⟨L,(h.2 b (k e).1).trans q⟩
 .rw[aw (k e).2];show d.base.free b o e n f
 .have⟨O,q⟩:=d.base.there b o e f;show⟨O,(h.2 b (k e).1).trans q⟩
 .have q:=d.base.FD b xs e;rw[aw (aS q g)];show q
 .have q:=d.base.Fy b o u e;rw[aw (aS q g)];show q
 .have⟨j,q⟩:=d.base.FE b J e;show⟨j,by rw[aw (aS q g)];show q⟩
 .by_cases w:a=D
  .subst w;rw[aH]at e;cases e;have⟨n,q⟩:=G;show⟨hl,r,n,B,(h.2 _ A).trans q⟩
  .rw[aw w]at e;show(d.EN a o e).l5 (λc v Q q=>(h.2 c ?_).trans q) (λc q=>?_) λc xs q=>?_
   .rintro rfl;rcases Q with z|z
    .rw[<-z,t]at e;cases e
    .rw[t]at z;cases z
   .rw[aw (aS q g)];show q
   .rw[aw (aS q g)];show q
 .have⟨f0,T,f2,Y,f4,f5⟩:=m b i;show⟨Y,T,f4,f5⟩
section
def mH(I:Nat->fx->Prop)
  (b:∀n s,I n s->eH (ko prog w) A (PQ it) (λr d=>match r with
   |none=>R (.ok .next) d
   |some v=>eH (ko prog w) A (Te a it v) (λ_ d=>eH (ko prog w) A (Rz a env v) (λ_ k =>
     eH (ko prog w) A (XH f b7 λc r=>if r=b7 then do let ok <-isTrue c env (Ka c env);pure (M8 ok) else pure (M8 r)) (λok j =>
      if ok=b7 then eH (ko prog w) A (Ka elt env) (λx l =>
       eH (ko prog w) A (Nk (.builtin "list.append") [g,x]) (λ_ o=>∃m,m<n/\I m o) (Q2 (ko prog w) A env λe s'=>R (.error e) s') l) (Q2 (ko prog w) A env λe s'=>R (.error e) s') j
      else ∃m,m<n/\I m j) (Q2 (ko prog w) A env λe s'=>R (.error e) s') k) (Q2 (ko prog w) A env λe s'=>R (.error e) s') d) (Q2 (ko prog w) A env λe s'=>R (.error e) s') d) (Q2 (ko prog w) A env λe s'=>R (.error e) s') s)
  (n:Nat) (h:I n s) :
  Ov (ko prog w) A (.compLoop (.ListComp elt [⟨a,i,f,0⟩] scope pos) 0 it g env) R s:=by
 show codeAny_loop rfl I (λn s t=>?_) n h;change eH _ A ((compTurn (.ListComp elt [⟨a,i,f,0⟩] scope pos) 0 it g env).onRaise (λx=>do noteFrame x env;theTreesLotGoes x)) _ _ s;show wpAny_noted ?_;rw[compTurn_list];show bw (VW (bw (vz (b n s t) (λr d p=>?_) λ_ _ h'=>h')));cases r with
 |none=>show cc p
 |some v =>
  show bw (vz p (λ_ C u=>?_) λ_ _ h'=>h');show bw (vz u (λ_ k y=>bw (vz y (λok j q=>?_) λ_ _ h'=>h')) λ_ _ h'=>h');cases ok with
  |false=>show cc ⟨rfl,q⟩
  |true =>
   show bw (bw (vz q (λx l z=>bw (vz z (λ_ o B=>cc (cc ⟨rfl,B⟩)) λ_ _ h'=>h')) λ_ _ h'=>h'))
end
abbrev IG(X:Cx)(a:List tr)(t:TT):Prop :=
 ∀(pins:List (gs×Obj)) (s:fx) (σ:St) (H:Hp) (Q:Bool->Hp->Prop),Inv X pins σ H s->t σ H Q ->
  eH (ko X.prog X.w) X.A (XH a b7 λc r=>if r=b7 then do let ok <-isTrue c X.env (Ka c X.env);pure (M8 ok) else pure (M8 r)) (TP X pins σ Q) X.xe s
abbrev Ep:TT:=λ_ H Q=>Q b7 H
def qZ:IG X [] Ep:=λ_ _ _ H _ I h=>wpAny_tests_nil ⟨H,I,h⟩
def q9(h:PT X c t):IG X [c] t:=λpins s σ H Q I q=>wpAny_tests_one (h pins s σ H Q I q)
abbrev q_(k:Nat)(J:It)(g:TG)(l:TT)(te:TE)(Q:VK)(σ:St)(n:Hp):Prop :=
  ∃W:Nat->Nat->List V->Hp->Prop,(∃m,W 0 m [] n)/\∀i m a H,W i m a H->a.length<=df /\
    ((J.stop i H/\∀p,H p=b6->Q (.ref p) (upd H p (.lst a))) \/
     (J.go i H/\∃d:List V->Hp->Prop,(∀f H',d f H'->∃h,h<m/\W (i+1) h f H')/\∀x H',J.Ml i H x H'->g x (pb k b6++σ) H' λe o=>∃c:St,c.length=k/\e=c++σ /\
        l e o λb j=>if b=b7 then te e j λy q=>d (a++[y]) q else d a j))
abbrev uX(k:Nat)(a:TI)(g:TG)(b:TT)(te:TE):TE:=λσ H Q=>a σ H λJ c=>q_ k J g b te Q σ c
section
def uY
  (S:cw X N B scope) (hc:X.calm=b7) (hg:∀C s H ex,PG (FH X N scope C s H ex) tg g) (hf:∀C s H ex,IG (FH X N scope C s H ex) al tt) (he:∀C s H ex,PE (FH X N scope C s H ex) elt te)
  (I:Inv X pins σ H s) (T:Turn X.prog X.w X.K tg J G it tn) (st:tn 0 s.heap) (f2:∀b∈G,jj X pins H b) (W:q_ B.length J g tt te Q σ H)
  (hD:@Eq Nat D s.heap.objs.size) (hC:@Eq Nat C (s.heap.objs.size+1)) (Ho:∀x c,(Hx X scope C).lookup x=a5 c->s4.heap.IsCell c b6\/(bb X.env scope.names []).lookup x=a5 c) (GW:s4.os=s.os) (Rb:s4.gens=s.gens) (keep:∀b o,s.heap.get? b=a5 o->s4.heap.get? b=a5 o) (ns:∃m,s4.heap.Ns C m) (pl:s4.heap.PlainList D #[])
  (am:∀s5 Y O k,Inv (FH X N scope C s H G) [] (pb B.length b6++σ) Y s5->Y D=b6->Vals O k->s5.heap.PlainList D k.toArray->O.length<=df->(∀p,Y p=b6->Q (.ref p) (upd Y p (.lst O)))->R (.ok .next) s5) :
  Ov (ko X.prog X.w) X.A (.compStart (.ListComp elt [⟨tg,an,al,0⟩] scope pos) 0 (.ref it) (.ref D) (UU scope (Hx X scope C) C X.env)) R s4:=by
 have HK:∀b∈G,@M0 Nat _ b s.heap.objs.size:=λb h=>by
  obtain⟨o,e,_⟩:=T.obj 0 s.heap st b h;show lg e
 have I4:Inv (FH X N scope C s H G) [] (pb B.length b6++σ) H s4:=uW S I ⋯ Ho GW Rb keep ns λb h=>⟨f2 b h,HK b h⟩
 have Ko:tn 0 s4.heap:=T.keep 0 s.heap s4.heap st λb _ o e=>keep b o e;have nD:H D=b6:=I.EN.fresh ⋯;obtain⟨W,⟨m0,w0⟩,VZ⟩:=W;generalize l:FH X N scope C s H G=f at I4 am;have eP:f.prog=X.prog:=by rw[<-l];rfl
 have ew:f.w=X.w:=by rw[<-l];rfl
 have eK:f.K=X.K:=by rw[<-l];rfl
 have ec:f.calm=b7:=by rw[<-l];show hc
 have eA:f.A=X.A:=by rw[<-l];rfl
 have ee:f.env=UU scope (Hx X scope C) C X.env:=by rw[<-l];rfl
 have NC:f.xe=λ_ _=>False:=by rw[<-l];rfl
 have el:f.env.locals=C:=by rw[ee];rfl
 have Mr:PG f tg g:=by rw[<-l];show hg _ _ _ _
 have Rc:IG f al tt:=by rw[<-l];show hf _ _ _ _
 have Rf:PE f elt te:=by rw[<-l];show he _ _ _ _
 have s0:f.s₀=s:=by rw[<-l];rfl
 have Lb:f.pn=[]:=by rw[<-l];rfl
 have ND:∀{H':Hp} {o:Obj},(∀b∈G,H' b=b6)->∀b∈G,jj f [(D,o)] H' b:=λ{H' o} hn b h=>by
  have ex:f.ex=G:=by rw[<-l];rfl
  show⟨hn b h,?_,?_,.inl (by rw[ex];show h),λx c e=>?_,λp L=>?_⟩
  .rw[el];have:=HK b h;show nC (by change @M0 Nat _ b C;lia)
  .have e1:f.fs=Ff X.stack:=by rw[<-l];rfl
   rw[e1];intro z;have⟨f0,f1,Rg,f3,f4,f5⟩:=f2 b h;rcases fz.mp (I.jz b z) with q|q
   .show f1 q
   .show Rg q
  .have e1:f.env.cells=Hx X scope C:=by rw[ee];rfl
   rw[e1]at e;rcases gK _ _ _ e with z|z
   .have:=HK b h;have:=z.2;show KW (by change @M0 Nat _ b c;lia)
   .show(f2 b h).2.2.2.2.1 x c (dS scope.names [] (λn c e=>by simp at e) x c z)
  .rw[Lb,FG]at L;have:p=(D,o):=by simpa using L
   subst this;have:=HK b h;show KW (by change @M0 Nat _ b D;lia)
 have NF:∀{σ':St} {H':Hp} {s':fx} {o:Obj},Inv f [] σ' H' s'->H' D=b6->s'.heap.get? D=a5 o->(∀v,o.data≠.cell v)->Inv f [(D,o)] σ' H' s':=λ{σ' H' s' o} I' n e d =>
  I'.fv λp L=>by
   have:p=(D,o):=by simpa using L
   subst this;show⟨e,n,?_,?_,d⟩
   .rw[el];show nC (by change @M0 Nat _ D C;lia)
   .have e1:f.fs=Ff X.stack:=by rw[<-l];rfl
    rw[e1];intro z;have zz:(D:gs)∈Ff X.stack:=z;rcases fz.mp (I.jz D zz) with q|q
    .have:=I.lt;rw[<-q]at this;show absurd this (by change ¬@M0 Nat _ D s.heap.objs.size;lia)
    .show I.Cm (a:=D) ⋯ q
 have start:∀s':fx,s'=s4->Ov (ko X.prog X.w) X.A (.compLoop (.ListComp elt [⟨tg,an,al,0⟩] scope pos) 0 (.ref it) (.ref D) (UU scope (Hx X scope C) C X.env)) R s':=by
  rintro s' rfl;show mH (λn s'=>∃i O k H',Inv f [] (pb B.length b6++σ) H' s'/\tn i s'.heap/\(∀b∈G,H' b=b6)/\H' D=b6/\Vals O k/\s'.heap.PlainList D k.toArray/\W i n O H') ?_ m0
   ⟨0,[],[],H,I4,Ko,λb h=>(f2 b h).1,nD,.nil,pl,w0⟩
  rintro n s3 ⟨i,O,k,H3,I3,st3,K3,Pz,Ms,⟨nn,Rh⟩,w3⟩;have⟨ab,He⟩:=VZ i n O H3 w3;have IP:=NF I3 Pz Rh (λv z=>by have z':Data.seq _ _=Yn v:=z;cases z');rcases He with⟨ap,qn⟩|⟨go,NN,PB,as⟩
  .have d:=T.done f eP ew eK ec i _ s3 _ H3 (Q2 (ko X.prog X.w) X.A (UU scope (Hx X scope C) C X.env) λe s'=>R (.error e) s') IP (ND K3) st3 ap;rw[eA]at d;show ER d λr s4 NG=>?_;have⟨hr,I5⟩:=NG;subst hr;have e5:=(I5.pin (D,({cls:=.type "list",data:=.seq k.toArray nn}:Obj)) (by rw[Lb];simp)).1;show am s4 H3 O k (I5.fv λp L=>by cases L) Pz Ms ⟨nn,e5⟩ ab qn
  .have d:=T.item f eP ew eK ec i _ s3 _ H3 (Q2 (ko X.prog X.w) X.A (UU scope (Hx X scope C) C X.env) λe s'=>R (.error e) s') IP (ND K3) st3 go;rw[eA]at d;show ER d λr s4 NH=>?_;have⟨u,hr,h4⟩:=NH;subst hr;show ER h4 λ_ s5 NI=>?_;have⟨x,Y,I5,r5,y5,Jf,Nf⟩:=NI;have TK:Y D=b6:=(I5.pin (D,({cls:=.type "list",data:=.seq k.toArray nn}:Obj)) (by rw[Lb];simp)).2.1;have Ng:=I5.pinned (ND Nf) (T.obj _ _ Jf);have a6:=Mr _ s5 _ Y x u _ Ng r5 (as x Y y5);rw[eP,ew,eA,ee,NC]at a6;show vz a6 (λ_ s6 ⟨σ6,H6,I6,q6⟩=>?_) λ_ _ z=>Kf z;have⟨ow,ax,rfl,q6⟩:=q6;have a7:=Rc _ s6 _ H6 _ I6 q6;rw[eP,ew,eA,ee,NC]at a7;show vz a7 (λb s7 ⟨H7,I7,q7⟩=>?_) λ_ _ z=>Kf z;have ac:∀{s8:fx} {t:Hp} {Io:List V} {its':List d6} {nn':Nat},Inv f [] (ow++σ) t s8->tn (i+1) s8.heap->(∀b∈G,t b=b6)->t D=b6->Vals Io its'->s8.heap.PlainList D its'.toArray->(∃m',m'<n/\W (i+1) m' Io t) ->
     ∃m,m<n/\∃i O k H',Inv f [] (pb B.length b6++σ) H' s8/\tn i s8.heap/\(∀b∈G,H' b=b6)/\H' D=b6/\Vals O k/\s8.heap.PlainList D k.toArray/\W i m O H':=λ{s8 t Io its' nn'} I8 Ri Rj n8 Rk Rm w8=>by
    have⟨m',hm,w8⟩:=w8;show⟨m',hm,i+1,Io,its',t,I8.weak (by simp[ax]) (λj v e=>?_),Ri,Rj,n8,Rk,Rm,w8⟩;by_cases hj:j<B.length
    .rw[ve (by simpa using hj),Ii]at e;split at e<;>cases e
    .rw[va (by simpa using(Nat.not_lt.mp hj)),Ma]at e;rw[va ⋯,ax];show e
   have ag:∀{σ':St} {t:Hp} {s8:fx},Inv f ([(D,({cls:=.type "list",data:=.seq k.toArray nn}:Obj))]++jA G s5.heap) σ' t s8->s8.heap.get? D=a5 {cls:=.type "list",data:=.seq k.toArray nn}/\t D=b6/\tn (i+1) s8.heap/\∀b∈G,t b=b6:=λ{σ' t s8} I8=>by
    have p1:=I8.pin (D,({cls:=.type "list",data:=.seq k.toArray nn}:Obj)) (by rw[Lb];simp);show⟨p1.1,p1.2.1,T.keep _ _ _ Jf λb h o e=>(I8.pin (b,o) (ti _ (ti _ (dR h e)))).1,λb h=>?_⟩;have⟨o,e,d⟩:=T.obj _ _ Jf b h;show(I8.pin (b,o) (ti _ (ti _ (dR h e)))).2.1
   cases b with
   |false =>
    rw[Yt oa]at q7 ⊢;have⟨p1,p2,p3,p4⟩:=ag I7;show ac (nn':=0) (I7.fv λp L=>by cases L) p3 p4 p2 Ms ⟨nn,p1⟩ (PB _ _ q7)
   |true =>
    rw[Yr rfl]at q7 ⊢;have a8:=Rf _ s7 _ H7 _ I7 q7;rw[eP,ew,eA,ee,NC]at a8;show vz a8 (λy s8 ⟨yv,t,I8,r8,q8⟩=>?_) λ_ _ z=>Kf z;have⟨p1,p2,p3,p4⟩:=ag I8;have hsz:k.toArray.size<=df:=by rw[js,<-Ms.length];show ab
    show wpAny_list_append_plain (hsz:=hsz) ⟨nn,p1⟩ λh9 Rn PC=>?_;have Ro:Inv f [] (ow++σ) t s8:=I8.fv λp L=>by cases L
    have Mt:∀x c,f.env.cells.lookup x=a5 c->c≠D:=λx c e=>by
     have e1:f.env.cells=Hx X scope C:=by rw[ee];rfl
     rw[e1]at e;rcases gK _ _ _ e with z|z
     .have:=z.2;show KW (by change @M0 Nat _ D c;lia)
     .have⟨v,z⟩:=I.cell x c (dS scope.names [] (λn c e=>by simp at e) x c z);have:@M0 Nat _ c s.heap.objs.size:=z.lt;show nC (by change @M0 Nat _ c D;lia)
    have I9:Inv f [] (ow++σ) t {s8 with heap:=h9,toks:=s8.toks}:=Ro.turned (it:=D) (λb o h e=>(PC.2 b h).trans e) p2 (by rw[el];show nC (by change @M0 Nat _ D C;lia)) (.inr (by rw[s0];change @W_ Nat _ s.heap.objs.size D;lia)) Mt (λp L=>by rw[Lb]at L;cases L);have Rq:(k++[y]).toArray=k.toArray.push y:=by simp
    show ac (nn':=0) (s8:={s8 with heap:=h9,toks:=s8.toks}) I9 (T.keep _ _ _ p3 λb h o e=>(PC.2 b ?_).trans e) p4 p2 (Ms.append (.cons r8 .nil)) (by rw[Rq];show Rn) (PB _ _ q8);have:=HK b h;show nC (by change @M0 Nat _ b D;lia)
 show codeAny_compStart_list (start _ rfl) (T.self _ _ _ _ _ Ko (start _ rfl))
def pH
  (f:Q (newEnv scope s.heap.objs.size b (Ky (s.heap.objs.size+1) scope.names cl) d b6 .none (a5 c) a) {s with heap:=QB (s.heap.push {cls:=.type "dict",data:=.dict #[]}) scope.names}) :
  eH M A (VB scope b cl [] d b6 .none (a5 c) a) Q E s:=by
 simp only[VB,VS,YA];show bw (wpAny_alloc ?_);show bw (wpAny_layCells _ (λname kind e=>by cases g:kind==Kr<;>simp[g]) _ _ _ _ ?_);rw[show({s with heap:=s.heap.push {cls:=.type "dict",data:=.dict #[]}}:fx).heap.objs.size=s.heap.objs.size+1 from R' ..];show bw ?_;rw[List.forIn_nil];show cc (cc f)
def jJ{RR:d6->gs->Yl->fx->Prop}
    (S:cw X N f scope) (B:X.calm=b7) (G:∀C s H ex,PG (FH X N scope C s H ex) r g) (L:∀C s H ex,IG (FH X N scope C s H ex) l O) (Y:∀C s H ex,PE (FH X N scope C s H ex) elt te)
 (I:Inv X pins σ H s) (T:Turn X.prog X.w X.K r J t it tn) (st:tn 0 s.heap) (f2:∀b∈t,jj X pins H b) (W:q_ f.length J g O te Q σ H)
    (m:∀D C h d i k,@Eq Nat D s.heap.objs.size->@Eq Nat C (s.heap.objs.size+1)->Inv (FH X N scope C s H t) [] (pb f.length b6++σ) d h->d D=b6->Vals i k->h.heap.PlainList D k.toArray->i.length<=df->(∀p,d p=b6->Q (.ref p) (upd d p (.lst i)))->RR (.ref D) C (.ok .next) h) :
    eH (ko X.prog X.w) X.A (XA []) (λj s₃=>eH (ko X.prog X.w) X.A (VB scope X.env.globals (bb X.env scope.names []) [] X.env.qual b6 .none (a5 X.env)) (λu s₄ =>
      Ov (ko X.prog X.w) X.A (.compStart (.ListComp elt [⟨r,v,l,0⟩] scope pos) 0 (.ref it) j {u with scope:=Sk scope X.env}) (RR j u.locals) s₄) E s₃) E s:=by
  show vr (pH ?_)
  dsimp only
  generalize n:s.heap.push {cls:=.type "list",dict:=b6,data:=.seq ([]:List d6).toArray}=a;have y:a.objs.size=s.heap.objs.size+1:=by rw[<-n,R']
  have z:∀b o,a.get? b=a5 o->(QB (a.push {cls:=.type "dict",data:=.dict #[]}) scope.names).get? b=a5 o:=λb o e=>Vl _ _ b o (dV _ e);have q:∀b o,s.heap.get? b=a5 o->(QB (a.push {cls:=.type "dict",data:=.dict #[]}) scope.names).get? b=a5 o:=λb o e=>z b o (n▸dV _ e);have IH:(QB (a.push {cls:=.type "dict",data:=.dict #[]}) scope.names).PlainList s.heap.objs.size #[]:=⟨_,z _ _ (n▸hY _ rfl)⟩
  have Ho:∀x c,(Hx X scope a.objs.size).lookup x=a5 c->(QB (a.push {cls:=.type "dict",data:=.dict #[]}) scope.names).IsCell c b6\/(bb X.env scope.names []).lookup x=a5 c:=λx c e=>by
    show mG scope.names (a.push {cls:=.type "dict",data:=.dict #[]}) _ ?_;rw[R'];show e
  show uY (s:=s) (s4:={s with heap:=QB (a.push {cls:=.type "dict",data:=.dict #[]}) scope.names}) (C:=a.objs.size) (D:=s.heap.objs.size) S B G L Y I T st f2 W rfl y Ho rfl rfl q ⟨_,(Heap.Ns.new a (.type "dict")).keeps (Vl _ _)⟩ IH
    λh d i k I5 n5 Le Lf Lg q5=>m _ _ h d i k rfl y I5 n5 Le Lf Lg q5
def x6(S:cw X N b scope)(m:X.calm=b7)(n:PI X f a o)(p:∀C s H ex,PG (FH X N scope C s H ex) f g)(q:∀C s H ex,IG (FH X N scope C s H ex) c r)(t:∀C s H ex,PE (FH X N scope C s H ex) elt te)
  (hs:∀x,Lr a X.env x=pure x:=by intro _;rfl):PE X (.ListComp elt [⟨f,a,c,0⟩] scope pos) (uX b.length o g r te):=by
 intro pins s σ H Q I h;rw[eval_ListComp];show VX (use:=b6) (cl:=bb X.env scope.names []) rfl hs (dE (S.cells I.ok)) S.kind S.names ?_;show ER (n pins s σ H _ I h) λv s1 u=>ER u λMm s2 y=>?_;have⟨it,fp,tn,J,H2,e,i,T,st2,j,W⟩:=y;subst e;show jJ (RR:=λd C=>compPost (ko X.prog X.w) X.A X.xe b6 (EP X pins σ Q) d C) S m p q t i T st2 j W ?_;intro D C s5 H5 ys A' z hC k l B G L O;obtain⟨Y,NK,_⟩:=k.loc;show⟨Y,NK,λh' sb=>⟨.ref D,_,nZ i k (Uw z.symm) (by change @W_ Nat _ s2.heap.objs.size C;lia) (nC (by change @M0 Nat _ D C;lia)) l B G L sb j,rfl,O D l⟩⟩
def x8(S:cw X N q scope)(hc:X.calm=b7)(hN:X.N.Nodup)(Mu:X.N[i]?=a5 y)(G:X.env.scope.names.lookup y=a5 .local)
  (hi:PI X m d wi) (hg:∀C s H ex,PG (FH X N scope C s H ex) m g) (hf:∀C s H ex,IG (FH X N scope C s H ex) j tt) (he:∀C s H ex,PE (FH X N scope C s H ex) elt te)
  (Jl:Qg (.ListComp elt [⟨m,d,j,0⟩] scope pos) (a5 (.Name y l)) Hq.line X.env=pure b7:=by rfl)
  (hs:∀x,Lr d X.env x=pure x:=by intro _;rfl):PS X (.Assign [.Name y l] (.ListComp elt [⟨m,d,j,0⟩] scope pos) Hq) (Au (uX q.length wi g tt te) (qS i)):=by
 intro pins s σ H D I h;rw[exec_Assign_Name_used _ _ _ _ Jl];show bw (VW (bw ?_));change eH _ X.A (do let _ <-comprehension (.ListComp elt [⟨m,d,j,0⟩] scope pos) scope X.env _ (XA []) cb (Ka d X.env) (a5 (Rz (.Name y l) X.env))) _ _ s;show bw (vz (VX (use:=a5 (Rz (.Name y l) X.env)) (cl:=bb X.env scope.names []) (Q:=λ_ s'=>SP X pins D .next s') rfl hs (dE (S.cells I.ok)) S.kind S.names ?_) (λ_ s' hq=>cc (cc hq)) λ_ _ e=>e);show ER (hi pins s σ H _ I h) λv s1 h1=>ER h1 λMm s2 h2=>?_;have⟨it,fp,tn,J,H2,e,k,T,st2,L,W⟩:=h2;subst e;show jJ (RR:=λr C=>compPost (ko X.prog X.w) X.A X.xe (a5 (Rz (.Name y l) X.env)) (λ_ s'=>SP X pins D .next s') r C) S hc hg hf he k T st2 L W ?_;intro f C n t O A' hD hC u Y Le Lf Lg q5;obtain⟨m5,NK,_⟩:=u.loc;have Rt:t C=b6:=u.free;have B:Inv X pins σ (upd t f (.lst O)) {n with heap:=n.heap}:=nZ k u (Uw hD.symm) (by change @W_ Nat _ s2.heap.objs.size C;lia) (nC (by change @M0 Nat _ f C;lia)) Y Le Lf Lg (RQ ..) L;change eH _ X.A (Rz (.Name y l) X.env (.ref f)) _ _ n;show Xw (lh (s:=n) B hN Mu (.inl G) (show RelV (.ref f) (.ref f) from rfl) (λs6 I6 ⟨a,sb,ha⟩=>?_) (.inr G));have Mt:@M0 Nat _ X.env.locals C:=by have:@M0 Nat _ X.env.locals s2.heap.objs.size:=k.lt;lia
 have HL:∀x c,X.env.cells.lookup x=a5 c->c≠C:=λx c e=>by
  have⟨v,z⟩:=k.cell x c e;have:@M0 Nat _ c s2.heap.objs.size:=z.lt;show nC (by change @M0 Nat _ c C;lia)
 have Ru:C≠a:=by
  rcases ha with z|z
  .rw[z];show KW Mt
  .show(HL _ _ z).symm
 show⟨m5,NK.sameBut sb Ru,λh' Rv=>?_⟩;show⟨σ.set i (a5 (.ref f)),upd t f (.lst O),I6.turned (it:=C) (t':=s6.toks) (λb o hb e=>(Rv.2 b hb).trans e) ?_ (KW Mt) (.inr (by have:@W_ Nat _ X.s₀.heap.objs.size s2.heap.objs.size:=k.sz;change @W_ Nat _ X.s₀.heap.objs.size C;lia)) HL (λp hp=>?_),q5 f Y⟩
 .rw[aw (KW (by change @M0 Nat _ f C;lia))];show Rt
 .have:@M0 Nat _ p.1 s2.heap.objs.size:=lg (k.pin p hp).1;show nC (by change @M0 Nat _ p.1 C;lia)
end
section
def tF:FW X (Ks .LtE) (λx y H Q=>∃i j,x=.str i/\y=.str j/\Q (.bl (!(c4 (j.cps.toList<i.cps.toList)))) H):=by
 intro pins s σ H x y v u Q I a b h;have⟨i,j,rfl,rfl,q⟩:=h;have⟨t,rfl⟩:=a;have⟨t',rfl⟩:=b;show PySem.P.le_str ⟨.bl _,H,I,rfl,q⟩
abbrev NM(x:Str):It:=⟨λi _=>i<x.cps.toList.length,λi H v H'=>H'=H/\∃c,x.cps.toList[i]?=a5 c/\v=.str ⟨#[c]⟩,λi _=>x.cps.toList.length<=i⟩
def n9{K:PySem.W.Frag}(it:gs)(D:["enumerate","zip","dict_itemiterator","dict_reverseitemiterator","odict_iterator","itertools.zip_longest","itertools.pairwise"].contains ty=cb)
  (G:∀(A:Ke) (s:fx) (i c:Nat) (Q:Option d6->fx->Prop) (E:d6->fx->Prop),s.heap.IsStrIter it ty x t i->x.cps[i]?=a5 c->(∀h',h'.IsStrIter it ty x t (i+1)->H8 it s.heap h'->Q (a5 (.str ⟨#[c]⟩ s.toks)) {s with heap:=h',toks:=s.toks+1})->eH (ko P w) A (PQ (.ref it)) Q E s)
  (J:∀(A:Ke) (s:fx) (i:Nat) (Q:Option d6->fx->Prop) (E:d6->fx->Prop),A.handled=b6->s.heap.IsStrIter it ty x t i->x.cps[i]?=b6->(∀h',Heap.ExtBut it s.heap h'->Q b6 {s with heap:=h' })->eH (ko P w) A (PQ (.ref it)) Q E s)
  (L:∀(A:Ke) (i:Nat) (s:fx) (Q:d6->fx->Prop) (E:d6->fx->Prop),s.heap.IsStrIter it ty x t i->Q (.ref it) s->eH (ko P w) A (Ua (.ref it)) Q E s) :
  Turn P w K tg (NM x) [it] it (λi h=>h.IsStrIter it ty x t i) where
 mem:=by simp
 obj:=λi h st b a=>by
  have e:b=it:=by simpa using a
  subst e;have⟨o,e,c,d⟩:=st;show⟨o,e,λv z=>by rw[d]at z;cases z⟩
 keep:=λi h h' st k=>let ⟨o,ho,r⟩:=st;⟨o,k it (by simp) o ho,r⟩
 item:=by
  intro X g j l B i pins s σ H E I f st m;subst g j l;have⟨n,p,N,q,u,y⟩:=f it (by simp);have C:i<x.cps.toList.length:=m;show G X.A s i x.cps.toList[i] _ _ st (by simp) λh' st' O=>?_;have T:Inv X pins σ H {s with heap:=h',toks:=s.toks+1}:=I.turned (λb o a e=>(O.2 b a).trans e) n p q u y;have⟨o,e,Y,d⟩:=id st';show⟨_,rfl,qU (s:={s with heap:=h',toks:=s.toks+1}) e Y d D ⟨.str ⟨#[x.cps.toList[i]]⟩,H,T,⟨_,rfl⟩,⟨rfl,_,by simp,rfl⟩,st',λb a=>(f b a).1⟩⟩
 done:=by
  intro X g j l B i pins s σ H E I f st m;subst g j l;have⟨n,p,N,q,u,y⟩:=f it (by simp);have C:x.cps.toList.length<=i:=m;show J X.A s i _ _ (I.ok.hd B) st (by simpa using C) λh' eb=>⟨rfl,I.turned (t':=s.toks) (λb o a e=>eb b o a e) n p q u y⟩
 self:=λA i s Q E st h=>L A i s Q E st h
abbrev Er(a:TE):TI:=λσ H R=>a σ H λv b=>∃x,v=.str x/\R (NM x) b
def AM(hl:PE X l m):PI X w l (Er m):=by
 intro pins s σ H R I h;show ER (hl pins s σ H _ I h) λv s1 n=>?_;have⟨x,g,f,p,r⟩:=n;have⟨z,rfl,q⟩:=r;have⟨t,rfl⟩:=p;have j:∀b∈[s1.heap.objs.size],jj X pins g b:=λb u=>by
  have e:b=s1.heap.objs.size:=by simpa using u
  subst e;show f.xO (ke _) (f.EN.fresh (ke _))
 cases k:z.cps.all (·<128) with
 |true =>
  show wpAny_pyIter_ascii k ?_;show⟨s1.heap.objs.size,[s1.heap.objs.size],_,_,g,rfl,f.kept (t':=s1.toks) λb o e=>dV _ e,
   n9 (x:=z) (t:=t) _ (by decide) (λA s i c Q E st d a=>wpAny_pyNext_ascii_item st d a) (λA s i Q E hh st d a=>wpAny_pyNext_ascii_end hh st d a) (λA i s Q E st a=>wpAny_pyIter_striter_ascii st a),
   ⟨_,hY _ rfl,rfl,rfl⟩,j,q⟩
 |false =>
  show wpAny_pyIter_wide k ?_;show⟨s1.heap.objs.size,[s1.heap.objs.size],_,_,g,rfl,f.kept (t':=s1.toks) λb o e=>dV _ e,
   n9 (x:=z) (t:=t) _ (by decide) (λA s i c Q E st d a=>wpAny_pyNext_wide_item st d a) (λA s i Q E hh st d a=>wpAny_pyNext_wide_end hh st d a) (λA i s Q E st a=>wpAny_pyIter_striter_wide st a),
   ⟨_,hY _ rfl,rfl,rfl⟩,j,q⟩
end
section
abbrev CW:V->Option Int->Option Int->Hp->VK->Prop:=λx lo a H Q=>∃z,x=.str z/\z.length<=df/\Q (.str (PySem.StrLaws.sliceText z lo a)) H
def kS(x:Str)(lo a:Option Int)(hz:x.length<=df):(PySem.StrLaws.sliceText x lo a).length<=df:=Hm (Txt.slice_le x lo a) hz
def AN:Il X CW:=by
 intro pins s σ H x v m n lo b o Q I f hs g d h;have⟨z,rfl,hz,q⟩:=h;have⟨t,rfl⟩:=f;show⟨"str",_,XU.lookup,OZ _ _ _,?_⟩;have a:(PySem.StrLaws.sliceText z lo b).length<=df/\∀t' k,EP X pins σ Q (.str (PySem.StrLaws.sliceText z lo b) t') {s with toks:=k}:=⟨kS z lo b hz,λt' k=>⟨.str _,H,I.tok k,⟨_,rfl⟩,q⟩⟩
 cases g with
 |none =>
  cases d with
  |none=>show Oa (l:=b6) (u:=b6) (st:=b6) hs rfl (Td a)
  |int j c=>show Oa (l:=b6) (u:=a5 (j,c)) (st:=b6) hs rfl (Td a)
 |int i e =>
  cases d with
  |none=>show Oa (l:=a5 (i,e)) (u:=b6) (st:=b6) hs rfl (Td a)
  |int j c=>show Oa (l:=a5 (i,e)) (u:=a5 (j,c)) (st:=b6) hs rfl (Td a)
def n_:K9 X "str.endswith" (λx xs H Q=>∃a b,x=.str a/\xs=[.str b]/\Q (.bl (XQ a b)) H):=by
 intro pins s σ H x xs v us Q I c rs h;have⟨a,b,rfl,rfl,q⟩:=h;have⟨t,rfl⟩:=c;have⟨u,rfl,t',rfl⟩:=vals1 rs;show SC.endswith ⟨.bl _,H,I,rfl,q⟩
def mI:K9 X "str.partition" (λx xs H Q=>∃a b,x=.str a/\xs=[.str b]/\(b.length==0)=cb/\a.length<=df /\
  ∀p,H p=b6->Q (.ref p) (upd H p (.tup [.str (oT a b).1,.str (oT a b).2.1,.str (oT a b).2.2]))):=by
 intro pins s σ H x xs v us Q I i rs h;have⟨a,b,rfl,rfl,j,hz,q⟩:=h;have⟨t,rfl⟩:=i;have⟨u,rfl,t',rfl⟩:=vals1 rs;show QG F.slot_str_partition (OZ _ _ _) F.entry_str_partition (F.args_str_partition_2 _ _) (meets_str_partition a b t t' j hz) ?_;have l:H s.heap.objs.size=b6:=I.EN.fresh (ke _);have m:=q _ l;have c:∀(d f g:Tok) (k:Nat),EP X pins σ Q (.ref s.heap.objs.size) {s with toks:=k,heap:=s.heap.push {cls:=.type "tuple",data:=.seq [.str (oT a b).1 d,.str (oT a b).2.1 f,.str (oT a b).2.2 g].toArray}}:=λd f g k =>
  ⟨.ref s.heap.objs.size,_,I.laid (t':=k) (o:=.tup [.str (oT a b).1,.str (oT a b).2.1,.str (oT a b).2.2]) (λb u e=>dV _ e) (ke _)
   ⟨by change 3<=df;decide,_,.cons ⟨d,rfl⟩ (.cons ⟨f,rfl⟩ (.cons ⟨g,rfl⟩ .nil)),⟨_,hY _ rfl,rfl,_,rfl⟩⟩,rfl,m⟩
 revert c;unfold oT;cases y0 a b 0 a.length 1 with
 |_=>intro c;show c _ _ _ _
theorem lr:∀(l:List (Str×Tok)),Vals (l.map λp=>V.str p.1) (Wa l)
 |[]=>.nil
 |(x,t)::r=>.cons ⟨t,rfl⟩ (lr r)
theorem gL:∀{a:List Str}{b:List d6},Vals (a.map V.str) b->∃l:List (Str×Tok),b=Wa l/\l.map (·.1)=a
 |[],_,.nil=>⟨[],rfl,rfl⟩
 |y::a,_,.cons r t=>by
  have⟨c,rfl⟩:=r;have⟨l,rfl,e⟩:=gL t;show⟨(y,c)::l,rfl,by rw[l3,e]⟩
def uZ:K9 X "str.split" (λx xs H Q=>∃a b,x=.str a/\xs=[.str b]/\(b.length==0)=cb/\a.length+2<=df /\
  ∀p,H p=b6->Q (.ref p) (upd H p (.lst ((LC a b).map V.str)))):=by
 intro pins s σ H x xs v us Q I i rs h;have⟨x,y,rfl,rfl,g,hz,q⟩:=h;have⟨t,rfl⟩:=i;have⟨n,rfl,u,rfl⟩:=vals1 rs;have d:H s.heap.objs.size=b6:=I.EN.fresh (ke _);have j:=q _ d;have c:∀(l:List (Str×Tok)) (k:Nat),l.length<=df->l.map (·.1)=LC x y->EP X pins σ Q (.ref s.heap.objs.size) {s with toks:=k,heap:=s.heap.push {cls:=.type "list",data:=.seq (Wa l).toArray}}:=λl k hl e =>
  ⟨.ref s.heap.objs.size,_,I.laid (t':=k) (o:=.lst ((LC x y).map V.str)) (λb u e=>dV _ e) (ke _)
   ⟨by rw[<-e,eh,eh];show hl,Wa l,_,by rw[<-e,sx];show lr l,hY _ rfl⟩,rfl,j⟩
 have one:1<=df:=by decide
 cases f:(c4 (x.length<y.length)||decide (U1 x<U1 y))
 .cases d:(y0 x y 0 x.length (x.length+1)).isEmpty
  .have m:(MZ x (y0 x y 0 x.length (x.length+1)) y.length).length<=df:=by
    have:=PySem.StrLaws.occ_length_le x y 0 x.length (x.length+1);simp only[MZ,eh,List.length_zip,lx,gc];lia
   show QG UW (OZ _ _ _) UI (Uu _ _) (meets_str_split_sep x y t u f g d ⋯ m) ?_;change wants _ _ _ {s with toks:=_,heap:=s.heap.push {cls:=.type "list",data:=.seq (strsFrom s.toks (MZ x (y0 x y 0 x.length (x.length+1)) y.length)).toArray}};rw[strsFrom_eq];show c (numbered s.toks _) _ ?_ ((X_ _ _).trans ((Yt (ne_true_of_eq_false f)).trans (Yt (ne_true_of_eq_false d))).symm);have e:=Yy KX (X_ s.toks (MZ x (y0 x y 0 x.length (x.length+1)) y.length));rw[eh]at e;lia
  .show QG UW (OZ _ _ _) UI (Uu _ _) (meets_str_split_not_found x y t u f g d)
    (c [(x,t)] _ one ((Yt (ne_true_of_eq_false f)).trans (Yr d)).symm)
 .show QG UW (OZ _ _ _) UI (Uu _ _) (meets_str_split_cannot_occur x y t u f)
   (c [(x,t)] _ one (Yr f).symm)
def x9:K9 X "str.join" (λx xs H Q=>∃a p b,x=.str a/\xs=[.ref p]/\Fm X.K H p (b.map V.str)/\Xo a b=b7/\Q (.str (Us a b)) H):=by
 intro pins s σ H x xs v us Q I c rs h;have⟨a,p,b,rfl,rfl,d,f,q⟩:=h;have⟨t,rfl⟩:=c;have⟨u,rfl,r⟩:=vals1 rs;cases r;have⟨j,g,i,hz⟩:=I.list d;have⟨l,rfl,e⟩:=gL g;show SC.join i.isList e f λt' k=>⟨.str _,H,I.tok k,⟨_,rfl⟩,q⟩
theorem iW:∀{bs:List Bool}{a:List d6},Vals (bs.map V.bl) a->a=bs.map Pf
 |[],_,.nil=>rfl
 |b::bs,_,.cons r t=>by
  cases r;rw[iW t];rfl
def u3:X.calm=b7->fK X (.builtin "all") (λxs H Q=>∃(p:gs) (bs:List Bool),xs=[.ref p]/\Fm X.K H p (bs.map V.bl)/\Q (.bl (bs.all id)) H):=by
 intro f pins s σ H xs us Q I rs h;have⟨p,bs,rfl,g,q⟩:=h;have⟨u,rfl,r⟩:=vals1 rs;cases r;have⟨n,j,c,hz⟩:=I.list g;have e:=iW j;subst e;have k:p<s.heap.objs.size:=by obtain⟨_,_,e,_⟩:=c;show lg e
 show call_all_walk (QV c.isList ?_);show⟨s.heap.objs.size,[s.heap.objs.size,p],[s.heap.objs.size],(bs.map Pf).toArray.size,_,_,λi=>(bs[i]?).getD b7,rfl,V3 (A:=X.A.in1) (I.ok.hd f) _ p (nC k) (bs.map Pf).toArray,
  ⟨⟨_,hY _ rfl,rfl,rfl⟩,c.isList.push _⟩,λi v s' Q' o l d=>?_,λh' m hk=>?_⟩
 .have a:(bs.map Pf)[i]?=a5 v:=by simpa using l
  rw[nt]at a;cases e:bs[i]? with
  |none=>rw[e]at a;cases a
  |some b =>
   rw[e]at a;cases a;simp only[e,We]at d;show GX d
 .have e:((ei (bs.map Pf).toArray.size).all λi=>(bs[i]?).getD b7)=bs.all id:=by
   rw[js,eh];show Xc bs
  rw[e];show⟨.bl _,H,I.kept (t':=m) (Xd hk),rfl,q⟩
end
section
end
abbrev AO(N a:List Str)(scope:Lc)(out:List (Str×K7)):Bool :=
 c4 (scope.kind=.function)&&scope.names.all (λy=>c4 (scope.names.lookup y.1=a5 y.2))&&scope.names.all (λy=>c4 (y.2≠.cell)||decide (y.1∈a))&&decide N.Nodup&&c4 (N.take a.length=a) &&
 scope.names.all (λy=>c4 (y.2≠.local)||decide (y.1∈a)||decide (y.1=".0"))&&c4 ((".0":Str)∉N)&&scope.names.all (λy=>c4 (y.2≠.free)||decide (out.lookup y.1=a5 .cell)||decide (out.lookup y.1=a5 .free))&&scope.names.all (λy=>c4 (y.1≠".")&&c4 (y.1≠".."))
def u4(c:X.env.scope.names=out)(d:dq (N.drop a.length) X.N)(h:AO N a scope out=b7):cw X N a scope:=by
 unfold AO at h;simp only[b8,ri,Jb,Yq]at h;obtain⟨⟨⟨⟨⟨⟨⟨⟨f,g⟩,i⟩,j⟩,k⟩,l⟩,m⟩,n⟩,o⟩:=h;show⟨f,g,λy b e=>?_,j,k,λy b e=>?_,m,d,λy b e=>?_,o⟩
 .rcases i y b with z|z
  .show absurd e z
  .show z
 .rcases l y b with(z|z)|z
  .show absurd e z
  .show .inl z
  .show .inr z
 .rw[c];rcases n y b with(z|z)|z
  .show absurd e z
  .show .inl z
  .show .inr z
section
abbrev aq(prog:vu)(w:DD)(h:IE)(k:Str×List Str)(a:gs):Prop :=
 ∃o n t b,h.get? a=a5 o/\o.cls=.type "tuple"/\o.data=.seq #[.str k.1 t,.ref b] n/\UH (PySem.strKind prog w) h k.2 b
def aq.typeIs{s:fx}(x:aq prog w s.heap k a):s.TypeIs (.ref a) "tuple":=let ⟨o,_,_,_,ho,b,_⟩:=x;⟨o,ho,b⟩
def aq.inj(e:aq prog w h x a)(f:aq prog w h y a):x=y:=by
 obtain⟨o,n,t,b,ho,_,g,i⟩:=e;obtain⟨j,q,t',r,k,_,c,l⟩:=f;obtain rfl:o=j:=wk (ho.symm.trans k);rw[g]at c;injection c with d _
 simp only[Array.mk.injEq,Uk,Value.str.injEq,Value.ref.injEq,and_true]at d;obtain⟨⟨m,_⟩,p⟩:=d;subst p;show QN m (i.inj l)
def aq.keeps(x:aq prog w h k a)(ho:h.get? d=a5 o)(e:o.data=.dict es ep)(hs:H8 d h h'):aq prog w h' k a:=by
 have⟨f,n,t,b,g,i,c,j⟩:=x;have l:a≠d:=by
  rintro rfl;obtain rfl:f=o:=wk (g.symm.trans ho);rw[e]at c;show nomatch c
 show⟨f,n,t,b,(hs.2 a l).trans g,i,c,j.keeps ho e hs⟩
abbrev gM(prog:vu)(w:DD)(k:Str×List Str):Int:=reduceHash (Iy [(PySem.strKind prog w).hash k.1,Ot (PySem.strKind prog w) k.2])
abbrev u5(prog:vu)(w:DD)(hh:IE)(v:d6)(n:Int)(d:Nat):Prop :=
 ∀{A:Ke} {E:d6->fx->Prop} {s:fx} {Q:Int->fx->Prop},s.heap=hh->A.units<Ga->Q n {s with toks:=s.toks+d}->eH (ko prog w) A (pyHash v) Q E s
def pI(x:Str)(t:Tok):u5 prog w hh (.str x t) ((PySem.strKind prog w).hash x) 1:=λ_ _ h=>(PySem.strKind prog w).pyHash (by simp[PySem.strKind,L7]) h
def mJ(hk:UH (PySem.strKind prog w) hh a b):u5 prog w hh (.ref b) (Ot (PySem.strKind prog w) a) (a.length+1):=λe c h=>by
 subst e;show wpAny_pyHash_tuple c hk h
def dF(j:A.units+1<Ga)(hk:aq prog w s.heap k a)(h:Q (gM prog w k) {s with toks:=s.toks+(k.2.length+3)}):
  eH (ko prog w) A (pyHash (.ref a)) Q E s:=by
 have f:=hk.typeIs;obtain⟨o,n,t,b,ho,_,m,p⟩:=hk;unfold pyHash
 first|unfold pyHashByItsType|skip
 first|show bw (wpAny_cRoomFor_or (.inr ⋯) ?_)|skip
 show bw (NA f PySem.F.slot_tuple_hash.lookup ?_);change eH _ _ (if (a5 (Og "tuple.__hash__")==a5 Fq)=b7 then _ else _) Q E s;rw[Yt (by rw[beq_builtin_none];show oa)];show bw (NA f PySem.F.slot_tuple_hash.lookup ?_);change eH _ _ (callSpecialIfBoundUnlessNone? (.ref a) "__hash__" _ >>= _) Q E s;show bw (wpAny_callSpecialIfBoundUnlessNone?_slot f PySem.F.slot_tuple_hash (J7 PySem.F.slot_tuple_hash f PySem.F.entry_tuple_hash ?_ (PySem.F.args_tuple_hash_1 _)));change eH _ _ (LG (.ref a) >>= _) _ _ s;show bw (UC ho m ?_);show bw ?_;rw[<-LR];show Lh _
  (λc (d:Array Int) s'=>(c=[FI k.1 t,uk b]/\d=#[]/\s'=s)\/(c=[uk b]/\d.toList=[(PySem.strKind prog w).hash k.1]/\s'={s with toks:=s.toks+1}) \/
   (c=[]/\d.toList=[(PySem.strKind prog w).hash k.1,Ot (PySem.strKind prog w) k.2]/\s'={s with toks:=s.toks+1+(k.2.length+1)}))
  _ ?_ ?_ _ _ (.inl ⟨rfl,rfl,rfl⟩)
 .rintro x c d s' (⟨e,rfl,rfl⟩|⟨e,g,rfl⟩|⟨e,_,_⟩)
  .cases e;show bw (pI k.1 t (hh:=s'.heap) rfl (by change A.units+1<Ga;show j) ?_)
   first
    |show cc (.inr (.inl ⟨rfl,rfl,rfl⟩))
    |show bw (cc (cc (.inr (.inl ⟨rfl,rfl,rfl⟩))))
  .cases e;show bw (mJ p rfl (by change A.units+1<Ga;show j) ?_)
   first
    |show cc (.inr (.inr ⟨rfl,by simp[g],rfl⟩))
    |show bw (cc (cc (.inr (.inr ⟨rfl,by simp[g],rfl⟩))))
  .cases e
 .rintro d s' (⟨e,_,_⟩|⟨e,_,_⟩|⟨_,g,rfl⟩)
  .cases e
  .cases e
  .change eH _ _ (retInt (Iy d.toList)) _ _ _;rw[g];show wpAny_ret_mkInt ?_;have l:s.toks+1+(k.2.length+1)+1=s.toks+(k.2.length+3):=by lia
   change eH _ _ (if (c4 (-(2:Int) ^ 63<=Iy [(PySem.strKind prog w).hash k.1,Ot (PySem.strKind prog w) k.2])&&c4 (Iy [(PySem.strKind prog w).hash k.1,Ot (PySem.strKind prog w) k.2]<2 ^ 63))=b7 then _ else _) Q E _;unfold gM reduceHash at h;by_cases i:(c4 (-(2:Int) ^ 63<=Iy [(PySem.strKind prog w).hash k.1,Ot (PySem.strKind prog w) k.2])&&c4 (Iy [(PySem.strKind prog w).hash k.1,Ot (PySem.strKind prog w) k.2]<2 ^ 63))=b7
   .rw[Yr i];rw[Yr i]at h;show cc (by rw[l];show h)
   .rw[Yt i];rw[Yt i]at h;show bw (N2 (cc (by rw[l];show h)))
def og(j:A.units<Ga)(k:aq prog w s.heap x a)(f:aq prog w s.heap y b)(h:P (.done (.ret (.bool (c4 (x=y))))) s):
  eH (ko prog w) A (NO.«tuple.__eq__» ⟨[.ref a,.ref b],[]⟩) P E s:=by
 have l:=f.typeIs;obtain⟨G,H,m,g,n,_,o,p⟩:=k;obtain⟨I,J,q,i,t,_,B,C⟩:=f;change eH _ _ (VC (.ref b) (.type "tuple") >>= _) _ _ s;show bw (OY l To ?_);simp only[Hd,mn,Yx];show bw (UC n o ?_);show bw (UC t B ?_);show bw ?_;show Lh _
  (λc r s'=>r.1=b6/\s'=s/\((c=[(FI x.1 m,FI y.1 q),(uk g,uk i)])\/(c=[(uk g,uk i)]/\x.1=y.1)\/(c=[]/\x=y)))
  _ ?_ ?_ _ _ ⟨rfl,rfl,.inl rfl⟩
 .rintro⟨u,v⟩ c r s' ⟨d,rfl,(e|⟨e,D⟩|⟨e,_⟩)⟩
  .cases e;show bw ((PySem.strKind prog w).eqBool (a:=x.1) (b:=y.1) (by simp[PySem.strKind,L7]) (by simp[PySem.strKind,L7]) ?_);by_cases hk:x.1=y.1
   .rw[Yu hk];simp only[Hd,mn,Yx];show cc ⟨rfl,rfl,.inr (.inl ⟨by first|rfl|trivial,hk⟩)⟩
   .rw[Ys hk];simp only[PN,YA];rw[Ys (λz=>hk (by rw[z]))]at h;show bw (cc (cc (cc h)))
  .cases e;show bw (wpAny_eqBool_tuple j p C ?_);by_cases hk:x.2=y.2
   .rw[Yu hk];simp only[Hd,mn,Yx];show cc ⟨rfl,rfl,.inr (.inr ⟨by first|rfl|trivial,QN D hk⟩)⟩
   .rw[Ys hk];simp only[PN,YA];rw[Ys (λz=>hk (by rw[z]))]at h;show bw (cc (cc (cc h)))
  .cases e
 .rintro⟨L,N⟩ s' ⟨d,rfl,(e|⟨e,_⟩|⟨_,rfl⟩)⟩
  .cases e
  .cases e
  .simp only at d;subst d;show cc ?_;rw[Yu rfl]at h;show h
def dG(g:A.units+2<Ga)(c:aq prog w s.heap x a)(d:aq prog w s.heap y b)(h:Q (c4 (x=y)) s):
  eH (ko prog w) A (eqBool (.ref a) (.ref b)) Q E s:=by
 unfold eqBool
 try with_reducible show D1 ?_
 change eH _ _ (if (uk a==uk b)=b7 then _ else _) Q E s;by_cases f:(uk a==uk b)=b7
 .rw[Yr f];have e:a=b:=by have:=Uq f;injection this
  subst e;obtain rfl:=c.inj d;show bw (N2 (cc (by simpa using h)))
 .rw[Yt f];show bw (wpAny_richCompare_same_room (op:=.Eq) c.typeIs d.typeIs PySem.F.slot_tuple_eq
   (J7 PySem.F.slot_tuple_eq c.typeIs PySem.F.entry_tuple_eq (og (by first|(change A.units+1<Ga;lia)|(change A.units<Ga;lia)|(change A.units+1+1<Ga;lia)) c d ⟨_,rfl,(λe=>nomatch e),GX h⟩) (PySem.F.args_tuple_eq_2 _ _)) ⋯)
def gN(hk:UH (PySem.strKind prog w) s.heap k a)(h:Q b7 s):eH (ko prog w) A (Wb (n+1) (.ref a)) Q E s:=by
 have e:=hk.typeIs;obtain⟨o,c,l,ho,_,g,i⟩:=hk;unfold Wb;show bw (NA e PySem.F.slot_tuple_eq.lookup ?_);change eH _ _ (VC (.ref a) (.type "tuple") >>= _) _ _ s;show bw (OY e To ?_);simp only[Hd,mn,Yx];show bw (Oo ho g ?_);show bw ?_;change eH _ _ (XH c _ _) _ _ s;rw[<-LR];show Lh _ (λb r s'=>r.1=b6/\s'=s/\∀v∈b,Yd v=b7) _ ?_ ?_ _ _ ⟨rfl,rfl,i.byValue⟩
 .rintro v b r s' ⟨d,rfl,f⟩;rw[XB _ (f v gw)];show bw (cc ?_);simp only[Hd,mn,Yx];show cc ⟨rfl,rfl,λu j=>f u (ek _ j)⟩
 .rintro⟨m,p⟩ s' ⟨d,rfl,_⟩;simp only at d;subst d;show cc h
def cR(hk:aq prog w s.heap k a)(h:Q b7 s):eH (ko prog w) A (Wb 8 (.ref a)) Q E s:=by
 have f:=hk.typeIs;obtain⟨o,n,t,b,ho,_,g,i⟩:=hk;unfold Wb;show bw (NA f PySem.F.slot_tuple_eq.lookup ?_);change eH _ _ (VC (.ref a) (.type "tuple") >>= _) _ _ s;show bw (OY f To ?_);simp only[Hd,mn,Yx];show bw (Oo ho g ?_);show bw ?_;rw[<-LR];show Lh _ (λc r s'=>r.1=b6/\s'=s/\(c=[FI k.1 t,uk b]\/c=[uk b]\/c=[])) _ ?_ ?_ _ _ ⟨rfl,rfl,.inl rfl⟩
 .rintro v c r s' ⟨d,rfl,(e|e|e)⟩
  .cases e;rw[XB _ rfl];show bw (cc ?_);simp only[Hd,mn,Yx];show cc ⟨rfl,rfl,.inr (.inl (by first|rfl|trivial))⟩
  .cases e;show bw (gN i ?_);simp only[Hd,mn,Yx];show cc ⟨rfl,rfl,.inr (.inr (by first|rfl|trivial))⟩
  .cases e
 .rintro⟨j,l⟩ s' ⟨d,rfl,_⟩;simp only at d;subst d;show cc h
end
abbrev gO(prog:vu)(w:DD):HeapKind prog w (Str×List Str) where
 is:=aq prog w
 hash:=gM prog w
 draws:=λk=>k.2.length+3
 room:=λA=>A.units+2<Ga
 inj:=λa b=>a.inj b
 keeps:=λx ho d hs=>x.keeps ho d hs
 pyHash:=λc hk h=>dF ⋯ hk h
 eqBool:=λc a b h=>dG c a b h
 quiet:=λhk h=>cR hk h
@[reducible]noncomputable def cu:=Str×List Str
abbrev dH(K:PySem.W.Frag)(H:Hp)(v:V)(k:cu):Prop:=∃a b,v=.ref a/\Fe K H a [.str k.1,.ref b]/\Fe K H b (k.2.map V.str)
abbrev iX(P:vu)(w:DD)(d:gs)(xs:List (cu×gs×d6)):HO:=.ext λh=>(d==Jo)=cb/\∃o es ep,h.get? d=a5 o/\o.ExactDict/\o.data=.dict es ep/\es.toList=xs.map (entryOfKey (gO P w))/\(xs.map (·.1)).Nodup
abbrev eB(P:vu)(w:DD)(K:PySem.W.Frag)(H:Hp)(d:gs)(a:List cu):Prop:=∃xs,H d=a5 (iX P w d xs)/\xs.map (·.1)=a/\∀x∈xs,dH K H (.ref x.2.1) x.1
theorem jK:∀{a:List Str}{b:List d6},Vals (a.map V.str) b->ItemsAre (PySem.strKind P w) a b
 |[],_,.nil=>.nil
 |k::a,_,.cons r t=>by
  have⟨c,rfl⟩:=r;show .cons (by simp[PySem.strKind,L7]) (jK t)
def x_(I:Inv X pins σ H s)(e:Fe X.K H b (a.map V.str)):UH (PySem.strKind X.prog X.w) s.heap a b:=by
 obtain⟨c,r,⟨o,d,f,n,g⟩,_⟩:=I.tuple e;show⟨o,c.toArray,n,d,f,g,by simpa using jK r⟩
def gP(I:Inv X pins σ H s)(e:dH X.K H (.ref a) k):aq X.prog X.w s.heap k a:=by
 have⟨m,b,q,d,f⟩:=e;cases q;obtain⟨p,r,⟨o,g,h,n,i⟩,_⟩:=I.tuple d;cases r with
 |cons j c =>
  cases c with
  |cons c l =>
   cases l;have⟨t,rfl⟩:=j;cases c;show⟨o,n,t,b,g,h,i,x_ I f⟩
section
def Inv.Et(I:Inv X pins σ H s):Jo<s.heap.objs.size:=by
 obtain⟨o,es,ep,ho,_⟩:=I.mod.glob;have a:@M0 Nat _ mA s.heap.objs.size:=lg (I.bk _ _ ho);obtain⟨d,⟨e,f,g,b,_⟩,_⟩:=I.mod.blt;have c:@M0 Nat _ So s.heap.objs.size:=lg (I.bk _ _ b);revert a c;change @M0 Nat _ mA s.heap.objs.size->@M0 Nat _ So s.heap.objs.size->@M0 Nat _ Jo s.heap.objs.size;unfold mA So Jo;lia
def jL(I:Inv X pins σ H s)(h:H d=a5 (iX X.prog X.w d xs))(hk:∀x∈xs,dH X.K H (.ref x.2.1) x.1):(d==Jo)=cb/\s.heap.DictOfH (gO X.prog X.w) d xs:=by
 obtain⟨⟨a,o,es,ep,b,c,e,f,g⟩,_⟩:=I.EN d _ h;show⟨a,o,es,ep,b,c,e,f,λx i=>gP I (hk x i),g⟩
def zE(b:(d==Jo)=cb)(x:h.DictOfH (gO P w) d xs):bF P w H' h d (iX P w d xs):=by
 obtain⟨o,es,ep,a,c,e,f,_,g⟩:=x;show⟨⟨b,o,es,ep,a,c,e,f,g⟩,⟨o,a⟩,λq a ⟨i,o,es,ep,j,l,m,n,p⟩ k=>⟨i,o,es,ep,k _ j,l,m,n,p⟩⟩
def ya:PE X (.Dict [] [] pos) (λ_ H Q=>∀p,H p=b6->Q (.ref p) (upd H p (iX X.prog X.w p []))):=λpins s σ H Q I h =>
 XJ ⟨.ref s.heap.objs.size,_,I.laid (a:=s.heap.objs.size) (o:=iX X.prog X.w s.heap.objs.size []) (t':=s.toks) (λ_ _ q=>dV _ q) (ke _)
  (zE (Yz.mpr (HX (nC I.Et))) (X1 s.heap)),rfl,h _ (I.EN.fresh (ke _))⟩
def fT(k:cu):(Uy xs k).isSome=c4 (k∈xs.map (·.1)):=by
 unfold Uy;rw[P6,pj,List.find?_isSome,Yq,mh];constructor
 .rintro⟨x,a,e⟩;show⟨x,a,Yv e⟩
 .rintro⟨x,a,e⟩;show⟨x,a,Yu e⟩
def tH(o:X.A.units+3<Ga):FW X (Ks .NotIn) (λx y H Q=>∃k d c,dH X.K H x k/\y=.ref d/\eB X.prog X.w X.K H d c/\Q (.bl (!c4 (k∈c))) H):=by
 intro pins s σ H x y v u Q I f g h;obtain⟨k,d,c,e,rfl,⟨xs,i,j,l⟩,q⟩:=h;cases g;have⟨a,b,rfl,p,r⟩:=id e;cases f;have⟨m,n⟩:=jL I i l;show XT (knd:=gO X.prog X.w) (k:=k) (by change X.A.units+1+2<Ga;lia) (gP I e) m n ?_;rw[fT,j];show⟨.bl _,H,I.tok _,rfl,q⟩
def yb(hu:X.A.units+3<Ga):kP X (λo i v H Q=>∃d k c,o=.ref d/\dH X.K H i k/\eB X.prog X.w X.K H d c/\k∉c/\c.length<=1000/\∀H',eB X.prog X.w X.K H' d (c++[k])->(∀b,b≠d->H' b=H b)->Q H'):=by
 intro pins s σ H o i v ov iv u Q I B C rv h;obtain⟨d,k,c,rfl,j,⟨xs,g,l,t⟩,D,hl,q⟩:=h;cases B;have⟨a,b,rfl,e1,e2⟩:=id j;cases C;have⟨G,J⟩:=jL I g t;have L:xs.length<=df:=by
  have:=Yy KX l;rw[eh]at this;rw[this];show JY (tB hl)
 show Xg (hsz:=L) (knd:=gO X.prog X.w) (k:=k) (by change X.A.units+1+2<Ga;lia) (gP I j) J λh' n N=>?_;have O:Uy xs k=b6:=by
  have:=fT (xs:=xs) k;rw[l,Ys D]at this;cases e:Uy xs k with
  |none=>rfl
  |some _=>rw[e]at this;cases this
 rw[storedH_new O]at n;obtain⟨T,EL,KZ,Y,_⟩:=id n;show⟨upd H d (iX X.prog X.w d (xs++[(k,a,u)])),I.write (x:=d) (e:=d) (by rw[g];show TJ) (.inl rfl) (λb q p z=>(N.2 b p).trans z) ⟨T,Y⟩ (zE G n),q _ ⟨_,aH,by rw[w4,l];rfl,λx hx=>?_⟩ λb p=>aw p⟩;have kT:∀{f:gs} {r:List V},Fe X.K H f r->Fe X.K (upd H d (iX X.prog X.w d (xs++[(k,a,u)]))) f r:=λ{f r} z=>by
  rcases z with(z|⟨o,z⟩)|z
  .show .inl (.inl (by rw[aw (uu z g (λz=>nomatch z))];show z))
  .show .inl (.inr ⟨o,by rw[aw (uu z g (λz=>nomatch z))];show z⟩)
  .show .inr z
 have keep:∀{y:V} {k':cu},dH X.K H y k'->dH X.K (upd H d (iX X.prog X.w d (xs++[(k,a,u)]))) y k':=λ{y k'} ⟨f,b',z1,z2,z3⟩=>⟨f,b',z1,kT z2,kT z3⟩
 rcases l'.mp hx with m|m
 .show keep (t x m)
 .have:x=(k,a,u):=by simpa using m
  subst this;show keep j
end
abbrev GI(a b:Str):Bool:=!c4 (b.cps.toList<a.cps.toList)
def jq(a b:Str):GI a b=b7↔a.cps.toList<=b.cps.toList:=by
 simp only[GI,vl,Yw];show List.not_lt
def lu(a b c:Str)(d:GI a b=b7)(e:GI b c=b7):GI a c=b7:=by
 rw[jq]at d e ⊢;show List.le_trans d e
def tI(a b:Str):(GI a b||GI b a)=b7:=by
 rw[Jb,jq,jq];show List.le_total _ _
def u6{x y:Str}(h:x.cps.toList=y.cps.toList):x=y:=by
 cases x;cases y;congr
 show Ux.mp h
def mK(c:GI a b=b7)(d:GI b a=b7):a=b:=by
 rw[jq]at c d;show u6 (List.le_antisymm c d)
abbrev bV(l:List Str):List Str:=l.mergeSort GI
def dU(l:List Str):(bV l).Perm l:=List.mergeSort_perm l GI
def jM(l:List Str):(bV l).Pairwise (λa b=>GI a b=b7):=List.pairwise_mergeSort lu tI l
theorem gQ:∀(l:List Str) (p:Str),risingS p l=b7->(p::l).Pairwise (λa b=>GI a b=b7)
 |[],p,_=>by simp
 |x::r,p,h=>by
  have h':(!ltCps x.cps.toList p.cps.toList&&risingS x r)=b7:=h;have⟨c,g⟩:=Ij.mp h';have d:=gQ r x g;have f:GI p x=b7:=by rw[ltCps_eq]at c;show c
  show Nt.mpr ⟨λy i=>?_,d⟩;rcases fz.mp i with e|e
  .rw[e];show f
  .show lu _ _ _ f ((Nt.mp d).1 y e)
def mL(h:sortedS l=b7):l.Pairwise (λa b=>GI a b=b7):=by
 cases l with
 |nil=>show .nil
 |cons x r=>show gQ r x h
theorem iq:∀{l m:List Str},l.Perm m->l.Pairwise (λa b=>GI a b=b7)->m.Pairwise (λa b=>GI a b=b7)->l=m
 |[],m,c,_,_=>(List.Perm.nil_eq c)
 |x::l,m,c,d,f=>by
  cases m with
  |nil=>show absurd c.length_eq (by simp)
  |cons y m =>
   have⟨g,h⟩:=Nt.mp d;have⟨i,j⟩:=Nt.mp f;have k:x=y:=by
    have m1:x∈y::m:=c.mem_iff.mp gw;have m2:y∈x::l:=c.mem_iff.mpr gw;rcases fz.mp m1 with e|e
    .show e
    .rcases fz.mp m2 with e'|e'
     .show e'.symm
     .show mK (g y e') (i x e)
   subst k;rw[iq (List.Perm.cons_inv c) h j]
def u7(a:l.Perm m)(hs:sortedS l=b7):l=bV m:=iq (a.trans (dU m).symm) (mL hs) (jM m)
def oh(a:l.Perm m):bV l=bV m:=iq ((dU l).trans (a.trans (dU m).symm)) (jM l) (jM m)
def gR(l:List Str):(bV l).length=l.length:=(dU l).length_eq
section
theorem c7:∀{a:List Str}{b:List d6},Vals (a.map V.str) b->O7 b a
 |[],_,.nil=>.nil
 |y::a,_,.cons r t=>by
  have⟨c,rfl⟩:=r;show .cons y c (c7 t)
theorem dW:∀{a:List d6}{b:List Str},O7 a b->Vals (b.map V.str) a
 |_,_,.nil=>.nil
 |_,_,.cons x t h=>.cons ⟨t,rfl⟩ (dW h)
theorem fU(hc:eH (ko prog w) A.in1 (Wn x) (λvs s1=>∃ss,O7 vs ss/\vs.length<64 /\
      ∀(h':IE) (Gb:List d6) (e:Nat),(∀b o,s1.heap.get? b=a5 o->h'.get? b=a5 o)->h'.get? s1.heap.objs.size=a5 (N_ "list" Gb.toArray e)->O7 Gb (bV ss)->Q (.ref s1.heap.objs.size) {s1 with heap:=h' }) E s) :
    eH (ko prog w) A (Nk (.builtin "sorted") [x]) Q E s:=by
  refine Calls.call_function_entry kind_sorted plain_sorted entry_sorted (args_sorted1 _) ?_;unfold NO.«sorted»;refine bw (m:=checkCount "sorted" 1 1 _) (cc ?_);refine bw (vz hc (λvs s1 h1=>?_) λ_ _ e=>e);obtain⟨ss,hS,Kp,h⟩:=h1
  refine wpAny_bind (wpAny_newList ?_ (by have : (64 : Nat) ≤ sizeLine := by decide
                                          lia))
  have K0:(s1.heap.push (N_ "list" vs.toArray 0)).get? s1.heap.objs.size=a5 (N_ "list" vs.toArray 0):=hY _ rfl;show eH _ _ _ _ _ {s1 with heap:=s1.heap.push (N_ "list" vs.toArray 0)};refine bw (D1 (J7 slot_list_sort ⟨_,K0,rfl⟩ entry_list_sort (list_sort_treeK strKind_oneLt K0 hS.keysOf (λv₁ v₂ rest e=>keyKind_strs (by rw[<-e];exact hS)) Kp λst' a1 a2=>⟨_,rfl,?_⟩) (args_list_sort _)));obtain⟨G3,b1,b2,b3⟩:=sorted_out_str hS a1 a2;obtain⟨e,he⟩:=sortedHeap_at (out:=(arrOf st').map (·.2)) K0;rw[u7 b2 b3]at b1;refine cc ⟨_,rfl,h _ ((arrOf st').map (·.2)).toList e (λb o q=>?_) (by rw[Array.toArray_toList];exact he) b1⟩;have Fg:b<s1.heap.objs.size:=lg q;show(sortedHeap (s1.heap.push (N_ "list" vs.toArray 0)) s1.heap.objs.size vs ((arrOf st').map (·.2))).get? b=a5 o;rw[sortedHeap_old (nC Fg) (by rw[Na];exact QC Fg)];exact dV _ q
def kW(hl:Wd s.heap l vs.toArray)
  (h:Q vs {s with heap:=(s.heap.push (N_ "list" #[] 0)).update s.heap.objs.size (Gj (·++vs.toArray))}) (hsz:vs.length<=df) :
  eH (ko prog w) A (Wn (.ref l)) Q E s:=by
 have⟨o,ho,b,n,c⟩:=id hl;unfold Wn;show bw (T5 (HB entry_proto_collect' ?_));change eH _ _ (do Yg (.builtin "list.__iadd__" ⟨[<-XA [],.ref l],[]⟩)) _ _ s;show bw (wpAny_newList (cc ⟨Py _ (by decide +kernel),HB entry_list_iadd' ?_⟩));change eH _ _ (LD (.ref s.heap.objs.size) (.ref l) (.ref s.heap.objs.size)) _ _ {s with heap:=s.heap.push (N_ "list" #[] 0)};unfold LD;have a:(s.heap.push (N_ "list" #[] 0)).get? l=a5 o:=dV _ ho;show bw (Mb (T:="tuple") ⟨o,a,b⟩ ?_);have d:(G2 "tuple"==G2 "tuple")=b7:=by rfl
 rw[Yr (by rw[d];simp)];show bw (listItems_at a c ?_);show bw (listItems_at (xs:=#[]) (n:=0) (hY _ rfl) rfl ?_);rw[Yt (by simp)];show bw (listUpdate_at (xs:=#[]) (n:=0) (hY _ rfl) rfl ?_ (uv _) (by change(#[]++vs.toArray).size<=df+1;simp only[Ul,js,Nm];lia));show cc ?_;change eH (ko prog w) A (do
   let o <-load s.heap.objs.size
   match o.data with
   |.seq xs _=>pure xs.toList
   |_=>WV "internal:collect") Q E {s with heap:=(s.heap.push (N_ "list" #[] 0)).update s.heap.objs.size (Gj (·++vs.toArray))}
 show bw (Xi (get?_update_seq (hY _ rfl) _) ?_);change eH _ _ (pure ((#[]:Array d6)++vs.toArray).toList) Q E _;rw[show((#[]:Array d6)++vs.toArray).toList=vs by simp];show cc h
end
section
def kX{h:IE}{vs:List d6}(e:h.get? b=a5 o):((h.push (N_ "list" #[] 0)).update h.objs.size (Gj (·++vs.toArray))).get? b=a5 o:=by
 rw[O1 _ _ _ _ (nC (lg e))];show dV _ e
def oi(I:Inv X pins σ H s)(k1:∀b o,s.heap.get? b=a5 o->s1.heap.get? b=a5 o)(g:∃c a,s1={s with heap:=c,toks:=a})
  (hk:∀b o,s1.heap.get? b=a5 o->h'.get? b=a5 o) (h:h'.get? s1.heap.objs.size=a5 (N_ "list" d.toArray e)) (i:O7 d (bV ss)) (hsz:s.heap.objs.size<=s1.heap.objs.size) (hl:ss.length<=df)
  (q:∀p,H p=b6->Q (.ref p) (upd H p (.lst ((bV ss).map V.str)))):EP X pins σ Q (.ref s1.heap.objs.size) {s1 with heap:=h' }:=by
 have⟨c,a,rfl⟩:=g;have f:Inv X pins σ H {s with heap:=c,toks:=a}:=I.kept (t':=a) k1;show⟨.ref c.objs.size,_,f.laid (t':=a) (o:=.lst ((bV ss).map V.str)) hk (ke _) ⟨by rw[eh,gR];show hl,d,e,dW i,h⟩,rfl,q _ (f.EN.fresh (ke _))⟩
def iY:fK X (.builtin "sorted") (λxs H Q=>∃(p:gs) (c:List Str),xs=[.ref p]/\(Fm X.K H p (c.map V.str)\/Fe X.K H p (c.map V.str))/\c.length<64/\∀q,H q=b6->Q (.ref q) (upd H q (.lst ((bV c).map V.str)))):=by
 intro pins s σ H xs us Q I rs h;have⟨p,c,rfl,hq,l,q⟩:=h;have⟨u,rfl,r⟩:=vals1 rs;cases r;have hl:c.length<=df:=JY (my l (by decide));have g:∀(a:List d6),Vals (c.map V.str) a->∀(h':IE) (f:List d6) (e:Nat),(∀b o,((s.heap.push (N_ "list" #[] 0)).update s.heap.objs.size (Gj (·++a.toArray))).get? b=a5 o->h'.get? b=a5 o) ->
   h'.get? ((s.heap.push (N_ "list" #[] 0)).update s.heap.objs.size (Gj (·++a.toArray))).objs.size=a5 (N_ "list" f.toArray e)->O7 f (bV c) ->
   EP X pins σ Q (.ref ((s.heap.push (N_ "list" #[] 0)).update s.heap.objs.size (Gj (·++a.toArray))).objs.size) {s with heap:=h' }:=λa d h' f e hk i j =>
  oi (s1:={s with heap:=(s.heap.push (N_ "list" #[] 0)).update s.heap.objs.size (Gj (·++a.toArray))}) I (λb o z=>kX z) ⟨_,s.toks,rfl⟩ hk i j (by change s.heap.objs.size<=((s.heap.push (N_ "list" #[] 0)).update s.heap.objs.size (Gj (·++a.toArray))).objs.size;rw[Heap.size_update,Na];show QD _) hl q
 rcases hq with hq|hq
 .have⟨a,d,k,hz⟩:=I.list hq;have m:a.length=c.length:=by rw[<-d.length,eh]
  show fU (collect_list k.isList ⟨c,c7 d,⋯,λh' f e hk i j=>g a d h' f e hk i j⟩ ⋯)
 .have⟨a,d,k,hz⟩:=I.tuple hq;have m:a.length=c.length:=by rw[<-d.length,eh]
  show fU (kW k ⟨c,c7 d,⋯,λh' f e hk i j=>g a d h' f e hk i j⟩ ⋯)
end
@[reducible]noncomputable def sK(P:vu)(w:DD):=PySem.strKind P w
abbrev dX(P:vu)(w:DD)(h:IE)(a:gs)(led:Bool)(D:List Str):Prop :=
 ∃(L:List (Str×Tok)) (es:Array (Int×d6)) (ep:Nat) (t:K6),h.get? a=a5 {cls:=.type "set",dict:=b6,data:=.set es ep t}/\es.toList=L.map (λp=>((sK P w).hash p.1,FI p.1 p.2)) /\
  (L.map (·.1)).Perm D/\D.Nodup/\t.fits es.size=b7/\es.size<Ln/\t.led=led/\(es.size=0\/t.plain=cb)
section
def u9{L:List (Str×Tok)}:ElemsOf (sK prog w) (L.map λp=>((sK prog w).hash p.1,FI p.1 p.2)):=by
 intro e a;obtain⟨p,_,rfl⟩:=mh.mp a;show⟨⟨p.1,by simp[PySem.strKind,L7],rfl⟩,rfl⟩
def ra(x y:Str)(t:Tok):(sK prog w).is x (.str y t)=c4 (x=y):=by
 rw[pj];simp[PySem.strKind,L7];show⟨λh=>h.symm,λh=>h.symm⟩
def pJ(t:K6)(es:Array (Int×d6))(h:Int)(x:d6):(layNew t es h x).2.1.led=t.led:=by
 unfold layNew;split
 .change(Vt (t.put _).1 _).led=t.led;unfold Vt;split<;>rfl
 .rfl
def mM(t:K6)(es:Array (Int×d6))(n:Nat):(Vz t es n).2.1.led=t.led:=by
 unfold Vz;split
 .rename_i t' b a;have:t'.led=t.led:=by
   unfold Um VG at a;cases c:R3 (R4 n - 1) (es.map (·.1)) with
   |none=>rw[c]at a;cases a
   |some o=>rw[c]at a;cases a;rfl
  dsimp only
  split
  .show this
  .rfl
 .rfl
def jN(t:K6)(es:Array (Int×d6))(n:Nat)(h:t.plain=cb):(Vz t es n).2.1.plain=cb:=by
 unfold Vz;split
 .rename_i t' b a;have:t'.plain=t.plain:=by
   unfold Um VG at a;cases c:R3 (R4 n - 1) (es.map (·.1)) with
   |none=>rw[c]at a;cases a
   |some o=>rw[c]at a;cases a;rfl
  dsimp only
  split
  .rw[this];show h
  .rfl
 .rfl
def fV(h:l.Perm (L.map λp=>((sK prog w).hash p.1,FI p.1 p.2))):∃a:List (Str×Tok),l=a.map (λp=>((sK prog w).hash p.1,FI p.1 p.2))/\a.Perm L:=by
 have all:∀e∈l,∃p:Str×Tok,e=((sK prog w).hash p.1,FI p.1 p.2):=λe b=>by
  obtain⟨p,_,rfl⟩:=mh.mp (h.mem_iff.mp b);show⟨p,rfl⟩
 have ex:∀l:List (Int×d6),(∀e∈l,∃p:Str×Tok,e=((sK prog w).hash p.1,FI p.1 p.2))->∃a:List (Str×Tok),l=a.map (λp=>((sK prog w).hash p.1,FI p.1 p.2)):=by
  intro l;induction l with
  |nil=>intro _;show⟨[],rfl⟩
  |cons e l d =>
   intro c;have⟨p,rfl⟩:=c e gw;have⟨a,rfl⟩:=d λe b=>c e (ek _ b);show⟨p::a,rfl⟩
 have⟨a,rfl⟩:=ex l all;show⟨a,rfl,?_⟩;have g:(a.map λp=>((sK prog w).hash p.1,FI p.1 p.2)).map (λe=>match e.2 with|.str x t=>(x,t)|_=>(JG,0))=a:=by
  rw[sx];show XW _
 have f:(L.map λp=>((sK prog w).hash p.1,FI p.1 p.2)).map (λe=>match e.2 with|.str x t=>(x,t)|_=>(JG,0))=L:=by
  rw[sx];show XW _
 have:=h.map (λe=>match e.2 with|.str x t=>(x,t)|_=>(JG,0));rw[g,f]at this;show this
theorem pK(hS:dX prog w s.heap a led D)(GJ:D.length+1<Ln)
    (h:∀h',H8 a s.heap h'->dX prog w h' a led (if x∈D then D else D++[x])->Q (c4 (x∉D)) {s with heap:=h' }) :
    eH (ko prog w) A (UQ a (.str x tk) ((sK prog w).hash x)) Q E s:=by
  obtain⟨L,es,ep,t,ho,F7,EZ,E2,hf,hb,Ge,FJ⟩:=hS;have NP:(sK prog w).is x (.str x tk)=b7:=by rw[ra];simp
  have PF:ElemsOf (sK prog w) es.toList:=by rw[F7];exact u9
  have hlen:es.size=D.length:=by rw[<-k9,F7,eh,<-eh (f:=U3) (as:=L),EZ.length_eq]
  unfold UQ X8;refine D1 (bw (wh ho rfl hf ?_))
  dsimp only
  rw[byScan_of (knd:=sK prog w) rfl hb PF];simp only[↓reduceIte];unfold setAddByScan;refine bw ?_;refine bw (N2 ?_);refine bw (wpAny_setScan_of (knd:=sK prog w) NP ho rfl hf PF ?_);have mem_iff:(∃e∈es.toList,(sK prog w).is x e.2=b7)↔x∈D:=by
    rw[F7,<-EZ.mem_iff,mh];constructor
    · rintro⟨e,he,hi⟩
      obtain⟨p,hp,rfl⟩:=mh.mp he;rw[ra,Yq]at hi;exact⟨p,hp,hi.symm⟩
    · rintro⟨p,hp,e⟩
      exact⟨_,mh.mpr ⟨p,hp,rfl⟩,by rw[ra];simp[e]⟩
  cases hr:Xt (λe=>(sK prog w).is x e.2) es.toList with
  | some j =>
    dsimp only
    obtain⟨hj,RG,_⟩:=List.findIdx?_eq_some_iff_getElem.mp hr;have hx:x∈D:=mem_iff.mp ⟨es.toList[j],KY hj,RG⟩;refine cc (cc ?_);have e:s={s with heap:=s.heap}:=by cases s;rfl
    have:=h s.heap (RQ a s.heap) (by rw[Yr hx];exact⟨L,es,ep,t,ho,F7,EZ,E2,hf,hb,Ge,FJ⟩);rw[Ys (λz=>z hx)]at this;rw[e];exact this
  | none =>
    dsimp only
    have hx:x∉D:=λhx=>by
      obtain⟨e,he,hp⟩:=mem_iff.mpr hx;have:=List.findIdx?_eq_none_iff.mp hr e he;rw[hp]at this;exact Bool.noConfusion this
    have RH:∀(b:Bool) {s₁:fx} {Q':Unit->fx->Prop},Q' () s₁->eH (ko prog w) A (match b with|true=>Xl "set.scan.the-table-gave-way"|false=>pure ()) Q' E s₁ :=
      λb s₁ Q' hq=>by cases b<;>first|exact cc hq|exact N2 hq
    have Lm:=layNew_perm t es ((sK prog w).hash x) (.str x tk);have Hf:=layNew_fits t es ((sK prog w).hash x) (.str x tk);have G4:=pJ t es ((sK prog w).hash x) (.str x tk);generalize hL:layNew t es ((sK prog w).hash x) (.str x tk)=NL at Lm Hf G4 ⊢;obtain⟨Fo,t1,HN,CZ⟩:=NL
    dsimp only at Lm Hf G4 ⊢
    rw[Wi,F7,show [((sK prog w).hash x,FI x tk)]=[(x,tk)].map (λp=>((sK prog w).hash p.1,FI p.1 p.2)) from rfl,<-w4]at Lm;obtain⟨L1,e1,RI⟩:=fV Lm;have RJ:Fo.size=D.length+1:=by rw[<-k9,Lm.length_eq,eh,gc,<-hlen,<-k9,F7,eh];rfl
    have PH:Fo.size<Ln:=by lia
    have Jn:(L1.map (·.1)).Perm (D++[x]):=(RI.map _).trans (by rw[w4];exact EZ.append_right _);have PJ:(D++[x]).Nodup:=by
      rw[GR]
      exact ⟨E2, by simp, fun y hy z hz => by have : z = x := by simpa using hz
                                              subst this;rintro rfl;exact hx hy⟩
    refine bw (RH _ ?_);have HP:∀h',H8 a s.heap h'->dX prog w h' a led (D++[x])->Q b7 {s with heap:=h' }:=λh' sb hs=>by
      have:=h h' sb (by rw[Yt hx];exact hs);rw[Yu hx]at this;exact this
    have tail:∀(g:Bool->Sem Unit),(∀(b:Bool) (s₁:fx) (Q':Unit->fx->Prop),Q' () s₁->eH (ko prog w) A (g b) Q' E s₁)->∀(R:Option Bool->fx->Prop),(∀h',H8 a s.heap h'->dX prog w h' a led (D++[x])->R (a5 b7) {s with heap:=h' })->∀t2:K6,t2.fits Fo.size=b7->t2.led=led->t2.plain=cb->eH (ko prog w) A (do
        storeSet a Fo t2
        if (!HN&&t2.tooFull)=true then do
            g (relayAll t2 Fo (SetTable.grown Fo.size)).2.2
            storeSet a (relayAll t2 Fo (SetTable.grown Fo.size)).1 (relayAll t2 Fo (SetTable.grown Fo.size)).2.1
            pure (some true)
          else pure (a5 b7)) R E s:=by
      intro g hg R hR t2 RK HQ II;refine bw (QU ho rfl ?_ (Q3 PH));have Ip:(s.heap.update a (Kl Fo t2)).get? a=a5 {cls:=.type "set",dict:=b6,data:=.set Fo (ep+1) t2}:=by
        have:=F6 (Kl Fo t2) ho rfl;exact this
      have HR:=JJ s.heap a (Kl Fo t2);split
      · have hp:=relayAll_perm t2 Fo (Nn Fo.size)
        have Hg:=relayAll_fits t2 Fo (Nn Fo.size);have NQ:=mM t2 Fo (Nn Fo.size);have NR:=jN t2 Fo (Nn Fo.size) II;generalize TL:Vz t2 Fo (Nn Fo.size)=Rl at hp Hg NQ NR ⊢;obtain⟨IJ,t3,PK⟩:=Rl
        dsimp only at hp Hg NQ NR ⊢
        rw[e1]at hp;obtain⟨L2,e2,RL⟩:=fV hp;have hsz:IJ.size=Fo.size:=by rw[<-k9,hp.length_eq,<-e1,k9]
        refine bw (hg _ _ _ ?_);refine bw (QU Ip rfl ?_ (Q3 ⋯));have IK:((s.heap.update a (Kl Fo t2)).update a (Kl IJ t3)).get? a=a5 {cls:=.type "set",dict:=b6,data:=.set IJ (ep+1+1) t3}:=F6 (Kl IJ t3) Ip rfl;refine cc (hR _ (HR.trans (JJ _ a _)) ⟨L2,IJ,_,t3,IK,e2,(RL.map _).trans Jn,PJ,Hg,⋯,NQ.trans HQ,.inr NR⟩)
      · exact cc (hR _ HR ⟨L1,Fo,_,t2,Ip,e1,Jn,PJ,RK,PH,HQ,.inr II⟩)
    split
    · rename_i hp
      refine bw ?_;rw[hashByValue_scannable 8 rfl];refine cc ?_;have ep:(if plainKind (FI x tk)=b7 then t1 else {t1 with plain:=cb})={t1 with plain:=cb}:=rfl;rw[ep];refine tail _ ?_ _ ?_ {t1 with plain:=cb} (SetTable.fits_plain_off Hf) (G4.trans Ge) rfl
      · intro b s₁ Q' hq;cases b<;>first|exact cc hq|exact N2 hq
      · intro h' Iq Gy;dsimp only;exact cc (HP h' Iq Gy)
    · rename_i hp
      refine bw (cc ?_);simp only[↓reduceIte];refine tail _ ?_ _ ?_ t1 Hf (G4.trans Ge) (WD.mpr hp)
      · intro b s₁ Q' hq;cases b<;>first|exact cc hq|exact N2 hq
      · intro h' Iq Gy;dsimp only;exact cc (HP h' Iq Gy)
end
abbrev dr(D:List Str)(x:Str):List Str:=if x∈D then D else D++[x]
abbrev aP(l:List Str):List Str:=l.foldl dr []
theorem pM(h:D.Nodup):(dr D x).Nodup:=by
  unfold dr;split
  · exact h
  · rename_i hx
    rw[GR]
    exact ⟨h, by simp, fun y hy z hz => by have : z = x := by simpa using hz
                                           subst this;rintro rfl;exact hx hy⟩
theorem fW:∀(l D:List Str),D.Nodup->(l.foldl dr D).Nodup/\(∀x,x∈l.foldl dr D↔x∈D\/x∈l)/\(l.foldl dr D).length<=D.length+l.length
 |[],D,h=>⟨h,by simp,by simp⟩
 |y::l,D,h=>by
  have⟨a,b,f⟩:=fW l (dr D y) (pM h);have c:∀x,x∈dr D y↔x∈D\/x=y:=λx=>by
   unfold dr;split
   .rename_i d;show⟨.inl,λz=>z.elim id (λe=>e▸d)⟩
   .simp
  have hl:(dr D y).length<=D.length+1:=by
   unfold dr;split
   .lia
   .simp
  show⟨a,λx=>?_,by rw[IL,lx];lia⟩;rw[IL,b,c,fz,or_assoc]
def pN(l:List Str)(x:Str):x∈aP l↔x∈l:=by rw[aP,(fW l [] Sd).2.1];simp
def fX(l:List Str):(aP l).length<=l.length:=by have:=(fW l [] Sd).2.2;simpa[aP] using this
def oj(l:List Str)(x:Str):aP (l++[x])=dr (aP l) x:=by unfold aP;rw[WA];rfl
section
variable{prog:vu}{w:DD}{A:Ke}{R:Yl->fx->Prop}{I:gs}{fp wr:List gs}{G:Array VH->Array VH->Prop}{n:Nat}{P:Nat->d6->Prop}{St:Nat->fx->Prop}
def ir(W:Yh prog w A.in1 I fp wr G n P St)(S:gs)(m:S∉fp)(led:Bool)
  (c:List Str) (hn:c.length=n) (y:∀i v,P i v->∃x t,c[i]?=a5 x/\v=.str x t) (d:n+1<Ln) :
  ∀(k i:Nat) (s:fx),n - i=k->i<=n->St i s->dX prog w s.heap S led (aP (c.take i)) ->
   (∀s',Moved (S::wr) G s s'->dX prog w s'.heap S led (aP c)->R (.ok (.ret .none)) s') ->
   Ov (ko prog w) A (.builtin "set.update.loop" ⟨[.ref S,.ref I],[]⟩) R s:=by
 have p:S∉wr:=λh=>m (W.sub _ h);have q:∀b∈wr,b∈S::wr:=λb d=>ek _ d;intro k;induction k with
 |zero =>
  intro i s hk z j g l;have B:i=n:=by lia
  subst B;show HB JB ?_;rw[JP zy _];change eH _ A.in1 (PQ (.ref I) >>= _) _ _ s;show bw (W.done s _ _ j λs' f=>?_);change eH _ A.in1 (ret Fq) _ _ s';rw[KS ⋯]at g;show cc (l s' (f.mono q) (by
   have⟨L,es,ep,t,ho,a⟩:=g;show⟨L,es,ep,t,f.heap S _ p ho,a⟩))
 |succ k C =>
  intro i s hk z j g l;have r:i<n:=by lia
  show HB JB ?_;rw[JP zy _];change eH _ A.in1 (PQ (.ref I) >>= _) _ _ s;show bw (W.item i s _ _ r j λv s' D H f=>?_);have⟨x,t,J,rfl⟩:=y i v D;have N:dX prog w s'.heap S led (aP (c.take i)):=by
   have⟨L,es,ep,O,ho,a⟩:=g;show⟨L,es,ep,O,f.heap S _ p ho,a⟩
  change eH _ A.in1 (Ou [FI x t] (X9 S (.str x t)) >>= _) _ _ s';show bw (D1 ?_);unfold X9;show D1 ?_;show bw ((sK prog w).pyHash (k:=x) (by rw[ra];simp) ?_);have Q:(aP (c.take i)).length+1<Ln:=by have:=fX (c.take i);rw[tj]at this;lia
  show pK (s:={s' with toks:=s'.toks+1}) N Q λh' u T=>?_;have Y:dX prog w h' S led (aP (c.take (i+1))):=by
   rw[Wz,J];change dX prog w h' S led (aP (c.take i++[x]));rw[oj];show T
  show cc ⟨Rx zy _,C (i+1) _ ⋯ r (W.frame _ s' _ _ H (QD _) λb d o e=>?_) Y λGF JN JO=>?_⟩
  .rw[u.2 b (λh:b=S=>m (by rw[<-h];show d))];show e
  .show l GF (XF W.gtrans ((f.mono q).then_heap (QD _) λb o d e=>?_) JN) JO;rw[u.2 b (λh:b=S=>d (by rw[h];show gw))];show e
end
section
def fM(a:d6)
  (h:Q₁ (.ref s.heap.objs.size) {s with heap:=s.heap.push {cls:=.type "set",dict:=b6,data:=.set #[] 0 (.fresh 0 0 (!w.params.followText "set-order"))}}) :
  Ov (ko prog w) A (.call (.builtin "set.__new__") ⟨[.type "set",a],[]⟩) (wants Q₁ E) s:=by
 show Vm ?_;change eH _ A.in1 (do U' "set.__new__" ⟨[.type "set",a],[]⟩;Yg (.builtin "set.__new__" ⟨[.type "set",a],[]⟩)) _ _ s;show bw (WU (PySem.F.newCall_set_1 a) (cc ⟨Rx PySem.F.plain_set_new _,HB PySem.F.entry_set_new ?_⟩));rw[JP PySem.F.plain_set_new _];unfold NO.«set.__new__» W3;have b:=sub_set_self;have⟨c,g,d,e,os⟩:=s
 dsimp only
 wp_walk
 show U6 (cc ?_)
 dsimp only
 simp only[newObj];show bw (wpAny_alloc (cc ?_));show cc h
def pO(b:h.get? a=a5 {cls:=.type "set",dict:=b6,data:=.set #[] 0 (.fresh 0 0 led)}):dX prog w h a led [] :=
 ⟨[],#[],0,_,b,rfl,.nil,Sd,rfl,by unfold Ln;decide,rfl,.inl rfl⟩
end
def sub_tuple_set:LS (.type "tuple") (.type "set")=pure cb:=by rw[Kk];kernel_rfl
def sub_tuple_frozenset:LS (.type "tuple") (.type "frozenset")=pure cb:=by rw[Kk];kernel_rfl
section
@[reducible]noncomputable def ba(w:DD):Bool:=!w.params.followText "set-order"
@[reducible]noncomputable def gS(led:Bool):Obj:={cls:=.type "set",dict:=b6,data:=.set #[] 0 (.fresh 0 0 led)}
def gT
  (L:s.TypeIs (.ref l) T) (NU:LS (.type T) (.type "set")=pure cb) (NV:LS (.type T) (.type "frozenset")=pure cb) (FX:(G2 T==G2 "dict")=cb)
  (N:a.length+1<Ln)
  (k:∀(s1:fx) (B:Ke) (Q':d6->fx->Prop),B.handled=A.handled->(∀b o,s.heap.get? b=a5 o->s1.heap.get? b=a5 o)->s.heap.objs.size<s1.heap.objs.size ->
   (∀I m n G P St d,Yh prog w B.in1 I m n G a.length P St->(∀g g',G g g'->g'=g)->s.heap.objs.size∉m->(∀b∈n,s.heap.objs.size<b)->(∀i v,P i v->∃x t,a[i]?=a5 x/\v=.str x t)->St 0 {s1 with heap:=d}->(∀b o,s1.heap.get? b=a5 o->d.get? b=a5 o)->Q' (.ref I) {s1 with heap:=d})->eH (ko prog w) B (Ua (.ref l)) Q' E s1)
  (h:∀(h':IE) (f:Nat),dX prog w h' s.heap.objs.size (ba w) (aP a)->(∀b o,b<s.heap.objs.size->s.heap.get? b=a5 o->h'.get? b=a5 o)->Q (.ref s.heap.objs.size) {s with heap:=h',toks:=f}) :
  eH (ko prog w) A (Nk (.type "set") [.ref l]) Q E s:=by
 have⟨c,tl,NW⟩:=PySem.F.called_set.mro;have GK:=PySem.F.called_set.made;have Gn:=PySem.F.called_set.sub;show UD (Vm ?_);change eH _ _ (callAny (.type "set") _) _ _ _;show cc ⟨Py _ (by decide +kernel),HB PySem.F.entry_type_call ?_⟩;rw[VR (WE "set" [.ref l] []) rfl];have d:=PySem.F.called_set.notType;have h2:=PySem.F.called_set.canCreate;have RM:=PySem.F.typeCall_set_1 (.ref l)
 repeat (any_goals (first|assumption|wp_step))
 show Mc (fM (.ref l) (E:=E) (Q₁:=λobj C=>obj=.ref s.heap.objs.size/\C={s with heap:=s.heap.push (gS (ba w))}) ⟨rfl,rfl⟩) λr C p=>?_;cases r with
 |error e=>show p
 |ok O =>
  cases O with
  |ret obj =>
   have⟨rfl,rfl⟩:=p;have D:(s.heap.push (gS (ba w))).get? s.heap.objs.size=a5 (gS (ba w)):=hY _ rfl;have Y:M' {s with heap:=s.heap.push (gS (ba w))} (.ref s.heap.objs.size) "set":=⟨_,D,rfl⟩
   have RN:=PySem.F.called_set.init.lookup;have RO:=PySem.F.called_set.init.bind (.ref s.heap.objs.size)
   repeat (any_goals (first|assumption|wp_step))
   show Mc (Pe (R:=wants (λr H=>r=.none/\∃h' f,H={s with heap:=h',toks:=f} /\
     dX prog w h' s.heap.objs.size (ba w) (aP a) /\
     (∀b o,b<s.heap.objs.size->s.heap.get? b=a5 o->h'.get? b=a5 o)) E) PySem.F.called_set.init.plain PySem.F.entry_set_init (XO Y ?_)) λr₂ H q=>?_
   .have⟨ol,NX,J⟩:=L;have⟨NY,HS,HU,G6⟩:=ol;simp only at J;subst J;have JQ:(s.heap.push (gS (ba w))).get? l=a5 {cls:=.type T,dict:=HS,data:=HU,slots:=G6}:=dV _ NX;have RP:M' {s with heap:=s.heap.push (gS (ba w))} (.ref l) T:=⟨_,JQ,rfl⟩
    unfold NO.«set.__init__» noKeywords RB;generalize NZ:Ua=PI
    wp_walk
    subst NZ;show k {s with heap:=s.heap.push (gS (ba w))} _ _ rfl (λb o e=>dV _ e) (by rw[Na];show OJ _) λI m n G P St d W hG hf Mw G5 EO hk=>?_;show bw (T5 ?_);show ir W s.heap.objs.size hf (ba w) a rfl G5 N (a.length - 0) 0 _ ⋯ (uv _) EO (pO (hk _ _ D)) ?_;intro s' j u;have⟨h',g',d',N0,K5⟩:=s';have eg:g'=s.gens:=hG _ _ j.gens;have ed:d'=s.drawn:=j.drawn;have eo:K5=s.os:=j.os;subst eg;subst ed;subst eo;change eH _ _ _ _ _ _;show cc ?_;change eH _ _ (ret Fq) _ _ _;show cc ⟨rfl,h',N0,rfl,u,λb o y e=>?_⟩;show j.heap b o (λz=>by
     rcases fz.mp z with z|z
     .rw[z]at y;show H4 _ y
     .show absurd (Mw b z) (W5 y)) (hk _ _ (dV _ e))
   .cases r₂ with
    |error e=>show q
    |ok N1 =>
     cases N1 with
     |ret r =>
      have⟨rfl,h',f,rfl,u,Fv⟩:=q
      repeat (any_goals (first|assumption|wp_step))
      show h _ _ u Fv
     |_=>show q.elim
  |_=>show p.elim
end
section
theorem mO:∀{vs:List d6}{ss:List Str},O7 vs ss->∀(i:Nat) (v:d6),vs[i]?=a5 v->∃x t,ss[i]?=a5 x/\v=.str x t
 |_,_,.nil,i,v,h=>by simp at h
 |_,_,.cons x t h,0,v,e=>by simp at e;show⟨x,t,rfl,e.symm⟩
 |_,_,.cons x t h,i+1,v,e=>by rw[QP]at e;rw[QP];show mO h i v e
theorem gU:∀{vs:List d6}{ss:List Str},O7 vs ss->vs.length=ss.length
 |_,_,.nil=>rfl
 |_,_,.cons x t h=>by simp[gU h]
def mP(a:n≠S)(b:n≠l):n∉[S,l]:=by simp[a,b]
def jO(hh:A.handled=b6)(hl:s.heap.IsList l vs.toArray)(f:O7 vs a)(c:a.length+1<Ln)
  (h:∀(h':IE) (j:Nat),dX prog w h' s.heap.objs.size (ba w) (aP a)->(∀b o,b<s.heap.objs.size->s.heap.get? b=a5 o->h'.get? b=a5 o)->Q (.ref s.heap.objs.size) {s with heap:=h',toks:=j}) :
  eH (ko prog w) A (Nk (.type "set") [.ref l]) Q E s:=by
 have g:l<s.heap.objs.size:=let ⟨o,ho,_⟩:=hl;lg ho;show gT hl.typeIs PySem.F.sub_list_set PySem.F.sub_list_frozenset (by decide) c (λs1 B Q' k hk d m=>?_) h;have G4:s1.heap.IsList l vs.toArray:=let ⟨o,ho,r⟩:=hl;⟨o,hk _ _ ho,r⟩;show QV G4 ?_;have n:l≠s1.heap.objs.size:=nC (RC g d);have W:=(V3 (prog:=prog) (w:=w) (A:=B.in1) (by simp[k,hh]) s1.heap.objs.size l n vs.toArray).toS;have p:vs.toArray.size=a.length:=by simp[gU f]
 rw[p]at W;show m _ _ _ _ _ _ _ W (λ_ _ e=>e) (mP (nC d) (KW g)) (λb c=>by rw[rr.mp c];show d) (λi v q=>mO f i v (by simpa using q)) ⟨⟨_,hY _ rfl,rfl,rfl⟩,G4.push _⟩ λb o e=>dV _ e
def kY(hh:A.handled=b6)(hl:s.heap.IsTuple l vs.toArray)(f:O7 vs a)(c:a.length+1<Ln)
  (h:∀(h':IE) (j:Nat),dX prog w h' s.heap.objs.size (ba w) (aP a)->(∀b o,b<s.heap.objs.size->s.heap.get? b=a5 o->h'.get? b=a5 o)->Q (.ref s.heap.objs.size) {s with heap:=h',toks:=j}) :
  eH (ko prog w) A (Nk (.type "set") [.ref l]) Q E s:=by
 have g:l<s.heap.objs.size:=let ⟨o,ho,_⟩:=hl;lg ho;show gT hl.typeIs sub_tuple_set sub_tuple_frozenset (by decide) c (λs1 B Q' k hk d m=>?_) h;have G4:s1.heap.IsTuple l vs.toArray:=let ⟨o,ho,r⟩:=hl;⟨o,hk _ _ ho,r⟩;show Xh G4 ?_;have n:l≠s1.heap.objs.size:=nC (RC g d);have W:=(Walks.tuple (prog:=prog) (w:=w) (A:=B.in1) (by simp[k,hh]) s1.heap.objs.size l n vs.toArray).toS;have p:vs.toArray.size=a.length:=by simp[gU f]
 rw[p]at W;show m _ _ _ _ _ _ _ W (λ_ _ e=>e) (mP (nC d) (KW g)) (λb c=>by rw[rr.mp c];show d) (λi v q=>mO f i v (by simpa using q)) ⟨⟨_,hY _ rfl,rfl,rfl⟩,let ⟨o,ho,r⟩:=G4;⟨o,dV _ ho,r⟩⟩ λb o e=>dV _ e
def mQ(a:n≠0)(h:∀i<n,Q i {s with drawn:=s.drawn.bump src}):eH M A (choose src n) Q E s:=λΓ p b=>by
 change Sem.wp M Γ (.choose src n .pure) _ _ p s;rw[Sem.wp_choose];show⟨a,h _ (P7 _ (Nat.pos_of_ne_zero a))⟩
theorem fY:∀{xs:List α}{i:Nat}{x:α},xs[i]?=a5 x->(x::xs.eraseIdx i).Perm xs
 |[],i,x,h=>by simp at h
 |y::a,0,x,h=>by simp at h;subst h;show .refl _
 |y::a,i+1,x,h=>by
  rw[QP]at h;rw[List.eraseIdx_cons_succ];show(V_ y x _).trans ((fY h).cons y)
theorem fN:∀(n:Nat) (xs:List α) (s:fx) (Q:List α->fx->Prop),xs.length=n->(∀a d,a.Perm xs->Q a {s with drawn:=d})->eH M A (drawOrder n xs) Q E s
 |0,xs,s,Q,b,h=>by
  have:xs=[]:=Vq.mp b;subst this;show cc (h [] s.drawn (.refl _))
 |n+1,[],s,Q,b,h=>by simp at b
 |n+1,y::a,s,Q,b,h=>by
  change eH M A (choose .order (y::a).length >>= _) Q E s;show bw (mQ (by simp) λi c=>?_);have e:(y::a)[i]?=a5 ((y::a)[i]'c):=z8 c;have f:=fY e;generalize (y::a)[i]'c=x at e f;simp only[e];show bw (fN n _ _ _ (by have:=f.length_eq;simp at this b ⊢;lia) λg d hz=>?_);show cc (h (x::g) d ((hz.cons x).trans f))
theorem iZ(next:Nat->Nat):∀(fuel k:Nat) (left:List α) (out:Array α),left.length=fuel->(US next fuel k left out).toList.Perm (out.toList++left)
 |0,k,left,out,hl=>by
  have:left=[]:=Vq.mp hl;subst this;simp[US]
 |fuel+1,k,left,out,hl=>by
  unfold US;have a:next k % left.length<left.length:=P7 _ ⋯;have e:left[next k % left.length]?=a5 (left[next k % left.length]'a):=z8 a;have b:=fY e;generalize left[next k % left.length]'a=x at e b;simp only[e];show(iZ next fuel _ _ _ (by have:=b.length_eq;simp at this;lia)).trans ?_;rw[Wi,WC];show(b.append_left _)
def eU(next:Nat->Nat)(xs:Array α):(U9 next xs).toList.Perm xs.toList:=by
 have:=iZ next xs.size 0 xs.toList #[] (by simp);simpa[U9] using this
end
namespace SI
def om:Manifest.owners.lookup (String.ofList ['r','o','t','a','r','e','t','i','_','t','e','s'].reverse)=a5 Manifest.sig_set_iterator:=by kernel_rfl
def slot_next:Slot "set_iterator" "__next__" "set_iterator.__next__" :=
 .of (owner:="set_iterator") (n:="__next__") (by rw[Vk,Tq];kernel_rfl) (by decide +kernel) (by decide +kernel) (by decide +kernel)
  (by first|show .inl (by decide +kernel)|show .inr (by decide +kernel)) (by rw[Kk];kernel_rfl)
def entry_next:Yc table "set_iterator.__next__"=a5 NO.«set_iterator.__next__»:=entryFor_of_tree (by kernel_rfl)
def args_next(a:d6):Yf "set_iterator.__next__" ⟨[a],[]⟩:=by
 unfold Yf;rw[signature?_of (id:="set_iterator.__next__") (n:=['_','_','t','x','e','n','_','_']) (o:=['r','o','t','a','r','e','t','i','_','t','e','s']) (by kernel_rfl) om];kernel_rfl
def ly:Slot "set_iterator" "__iter__" "set_iterator.__iter__" :=
 .of (owner:="set_iterator") (n:="__iter__") (by rw[Vk,Tq];kernel_rfl) (by decide +kernel) (by decide +kernel) (by decide +kernel)
  (by first|show .inl (by decide +kernel)|show .inr (by decide +kernel)) (by rw[Kk];kernel_rfl)
def tJ(a:d6):Yf "set_iterator.__iter__" ⟨[a],[]⟩:=by
 unfold Yf;rw[signature?_of (id:="set_iterator.__iter__") (n:=['_','_','r','e','t','i','_','_']) (o:=['r','o','t','a','r','e','t','i','_','t','e','s']) (by kernel_rfl) om];kernel_rfl
def pP:Yc table "set_iterator.__iter__"=a5 NO.«dict_keyiterator.__iter__» :=
 Yb (id':="dict_keyiterator.__iter__") (by kernel_rfl) (by first|rfl|decide +kernel|(unfold String.splitOn;simp +decide [String.splitOnAux])) (by decide +kernel) (by kernel_rfl)
def jP:Yc table "set.__iter__"=a5 NO.«frozenset.__iter__» :=
 Yb (id':="frozenset.__iter__") (by kernel_rfl) rfl (by decide +kernel) (by kernel_rfl)
end SI
section
variable{prog:vu}{w:DD}{A:Ke}{E:d6->fx->Prop}{s:fx}
abbrev fZ(h:IE)(I:gs)(first:d6)(i:Nat)(S:gs)(n ep:Nat):Prop:=∃o,h.get? I=a5 o/\o.cls=.type "set_iterator"/\o.data=.fields #[first,HV i,.ref S,HV n,HV ep]
def fZ.typeIs(x:fZ s.heap I f i S n ep):s.TypeIs (.ref I) "set_iterator":=let ⟨o,ho,a,_⟩:=x;⟨o,ho,a⟩
def yc(a:fZ s.heap I f i S n ep)(h:Q (.ref I) s):eH (ko prog w) A (Ua (.ref I)) Q E s:=by
 show Xv a.typeIs SI.ly (J7 SI.ly a.typeIs SI.pP ?_ (SI.tJ _));change eH _ _ (ret (.ref I)) _ _ s;show cc ⟨_,rfl,"set_iterator",_,a.typeIs,SI.slot_next.lookup,h⟩
def dY(h:Q (M.w.params.followText "set-order") s):eH M A setsByText Q E s:=by
 unfold setsByText;show bw (U6 (cc h))
end
end L2
namespace L2
open PySem PySem.Spec PyProof.Rows
section
variable{prog:vu}{w:DD}{A:Ke}{E:d6->fx->Prop}{s:fx}
@[reducible]noncomputable def mR(es:Array (Int×d6))(ep:Nat)(t:K6):Obj:={cls:=.type "set",dict:=b6,data:=.set es ep t}
def oo{I:gs}{B:Ke}{Q:Option d6->fx->Prop}{c:IE}{k:d6->Sem (Option d6)}(hh:B.handled=b6)
  (d:∀h',(∀b o,c.get? b=a5 o->h'.get? b=a5 o)->∀e,M' {s with heap:=h' } e "StopIteration"->E e {s with heap:=h' }) {Q':Fin->fx->Prop} :
  eH (ko prog w) B (X' (.type "StopIteration") [] >>= λe=>(WX e:Sem Fin)) Q' E {s with heap:=c}:=by
 show bw ?_;simp only[X',newTuple];show bw (vr ?_ (by size_fits));show bw (m:=Ya _ _) (WU (a:=Fq) (by first|rfl|(simp only[Ya];rfl)) ?_);show vr ?_ (by size_fits);simp only[WX];show bw (wpAny_handled ?_);rw[hh];show bw (cc (wpAny_throw ?_));show d _ (λb o e=>dV _ (dV _ e)) _ ⟨_,hY _ rfl,rfl⟩
def rb{I S:gs}{first:d6}{i ep:Nat}{es:Array (Int×d6)}{t:K6}(d:fZ s.heap I first i S es.size ep)(ho:s.heap.get? S=a5 (mR es ep t))(h:t.fits es.size=b7)
  (j:∀(Q':Fin->fx->Prop) (g:d6->fx->Prop) ,(∀v s',Q (a5 v) s'->Q' (.done (.ret v)) s')->(∀e s',s'.TypeIs e "StopIteration"->Q b6 s'->g e s') ->
   eH (ko prog w) A.in1 (if let .int slot _:=first then(do
     match <-UO S slot.toNat i ep with
     |some (x,next) =>
      UP (.ref I) 0 (HV next)
      UP (.ref I) 1 (HV ((i:Int)+1))
      ret x
     |none=>UP (.ref I) 2 .none;WX (<-X' (.type "StopIteration") []))
    else(do
     let a5 c <-seqItems? first|unsupported "internal:set_iterator"
     match c[i]? with
     |some (.int place _) =>
      let x <-Wl S place.toNat ep
      UP (.ref I) 1 (HV ((i:Int)+1))
      ret x
     |some _=>WV "internal:set_iterator"
     |none=>UP (.ref I) 0 (HV 0);UP (.ref I) 2 .none;WX (<-X' (.type "StopIteration") []))) Q' g s):eH (ko prog w) A (PQ (.ref I)) Q E s:=by
 have⟨o,k,m,l⟩:=id d;unfold PQ;show bw (wpAny_attempt (Ob (name:=RA "__next__") d.typeIs SI.slot_next
  (J7 SI.slot_next d.typeIs SI.entry_next ?_ (SI.args_next _))))
 unfold NO.«set_iterator.__next__»;show bw (WU (a:=(uk I,[])) rfl ?_)
 try dsimp only
 show bw (wpAny_fieldsOf k l ?_)
 try dsimp only
 show bw (W' ho rfl h ?_);rw[Yt (by simp)];show vz (j (λf s'=>∃r,f=.done (.ret r)/\Q (a5 r) s') (λe s'=>s'.TypeIs e "StopIteration"/\Q b6 s') (λv s' q=>⟨v,rfl,q⟩) λe s' z q=>⟨z,q⟩) ?_ ?_
 .rintro f s' ⟨r,rfl,q⟩;show⟨r,rfl,cc q⟩
 .rintro e s' ⟨z,q⟩;show bw (OY (T:="StopIteration") (b:=b7) z isSubtype_stop ?_);show cc q
end
section
def rf{I S:gs}{f f':d6}{i n ep:Nat}{h:IE}{o:Obj}(b:h.get? I=a5 o)(c:o.cls=.type "set_iterator")(a:o.data=.fields #[f,HV i,.ref S,HV n,HV ep]):
  fZ (h.update I (XE (·.setIfInBounds 1 (HV ((i:Int)+1))))) I f (i+1) S n ep :=
 ⟨_,F6 _ b (VP (P4 a _)),(WK ..).trans c,by rw[P4 a];simp⟩
def oq{h:IE}(c:h.get? I=a5 o)(d:o.cls=.type "set_iterator")(b:o.data=.fields #[f,HV i,.ref S,HV n,HV ep]):
  ∃a,(h.update I (XE (·.setIfInBounds 0 f'))).get? I=a5 a/\a.cls=.type "set_iterator"/\a.data=.fields #[f',HV i,.ref S,HV n,HV ep] :=
 ⟨_,F6 _ c (VP (P4 b _)),(WK ..).trans d,by rw[P4 b];simp⟩
def u_{I S:gs}{slot i ep:Nat}{es:Array (Int×d6)}{t:K6}{Q:Option d6->fx->Prop}(a:fZ s.heap I (HV slot) i S es.size ep)(ho:s.heap.get? S=a5 (mR es ep t))(j:t.fits es.size=b7)(hh:A.handled=b6)
  {r:Option (d6×Nat)} (l:∀(B:Ke) (f:d6->fx->Prop) (Q':Option (d6×Nat)->fx->Prop),Q' r s->eH (ko prog w) B (UO S slot i ep) Q' f s)
  (m:∀x nx,r=a5 (x,nx)->∀h',fZ h' I (HV nx) (i+1) S es.size ep->H8 I s.heap h'->Q (a5 x) {s with heap:=h' })
  (n:r=b6->∀h',(∀b o,b≠I->s.heap.get? b=a5 o->h'.get? b=a5 o)->Q b6 {s with heap:=h' }):eH (ko prog w) A (PQ (.ref I)) Q E s:=by
 show rb a ho j λQ' f q u=>?_;have⟨o,c,v,d⟩:=id a;change eH _ _ (UO S slot i ep >>= _) _ _ s;show bw (l _ _ _ ?_);cases r with
 |some p =>
  have⟨x,nx⟩:=p
  dsimp only
  show bw (Oh c d (by simp) ?_);have⟨H,g,y,h⟩:=oq (f':=HV nx) c v d;show bw (Oh (s:={s with heap:=_}) g h (by simp) ?_);show cc (q _ _ (m x nx rfl _ (rf (f':=HV nx) g y h) ((JJ ..).trans (JJ ..))))
 |none =>
  dsimp only
  show bw (Oh c d (by simp) ?_);show oo (I:=I) (k:=λ_=>pure b6) (Q:=λ_ _=>True) (s:=s) (by simpa using hh) λh' hk e z=>u e _ z (n rfl h' λb C D G=>hk b C ?_);rw[O1 _ _ _ _ D];show G
def AQ{I S T:gs}{i ep:Nat}{es:Array (Int×d6)}{t:K6}{a:List Nat}{Q:Option d6->fx->Prop}(c:fZ s.heap I (.ref T) i S es.size ep)(ho:s.heap.get? S=a5 (mR es ep t))(m:t.fits es.size=b7)(hh:A.handled=b6)
  (r:s.heap.IsTuple T ((a.map λ(j:Nat)=>HV j).toArray))
  (u:∀(j:Nat) (e:Int×d6),a[i]?=a5 j->es[j]?=a5 e->∀h',fZ h' I (.ref T) (i+1) S es.size ep->H8 I s.heap h'->Q (a5 e.2) {s with heap:=h' })
  (v:∀j∈a,j<es.size)
  (x:a[i]?=b6->∀h',(∀b o,b≠I->s.heap.get? b=a5 o->h'.get? b=a5 o)->Q b6 {s with heap:=h' }):eH (ko prog w) A (PQ (.ref I)) Q E s:=by
 show rb c ho m λQ' N y z=>?_;have⟨o,d,n,f⟩:=id c;have⟨O,B,Y,nT,C⟩:=r;change eH _ _ (seqItems? (.ref T) >>= _) _ _ s;show bw (Oo B C ?_);cases e:a[i]? with
 |some j =>
  have g:(a.map λ(j:Nat)=>HV j).toArray[i]?=a5 (HV j):=by simp[e]
  simp only[g];have h:j<es.size:=v j (Hb e);have l:es[j]?=a5 (es[j]'h):=by simp[h]
  change eH _ _ (Wl S (j:Int).toNat ep >>= _) _ _ s;unfold Wl;rw[N'];show bw (bw (wh ho rfl m ?_))
  dsimp only
  rw[Yt (by simp)];generalize es[j]'h=p at l;simp only[l];show cc ?_;show bw (Oh d f (by simp) ?_);show cc (y _ _ (u j p e l _ (rf (f':=.ref T) d n f) (JJ ..)))
 |none =>
  have g:(a.map λ(j:Nat)=>HV j).toArray[i]?=b6:=by simp at e ⊢;show e
  simp only[g];show bw (Oh d f (by simp) ?_);have⟨o',D,e2,G⟩:=oq (f':=HV 0) d n f;show bw (Oh (s:={s with heap:=_}) D G (by simp) ?_);show oo (I:=I) (k:=λ_=>pure b6) (Q:=λ_ _=>True) (s:=s) (by simpa using hh) λh' hk ex H=>z ex _ H (x e h' λb J q L=>hk b J ?_);rw[O1 _ _ _ _ q,O1 _ _ _ _ q];show L
end
section
def fZ.at(x:fZ h I f i S n ep)(e:∀o,h.get? I=a5 o->h'.get? I=a5 o):fZ h' I f i S n ep:=let ⟨o,ho,r⟩:=x;⟨o,e _ ho,r⟩
def jQ(hh:A.handled=b6)(n:S≠I)(r:t.fits es.size=b7)(T:gs)(p:T≠I)(c:List d6)(k:c.length=es.size)
  (first:Nat->d6) (a:IE->Prop) (l:∀h h',a h->(∀o,h.get? T=a5 o->h'.get? T=a5 o)->a h')
  (m:∀(s:fx) (i:Nat) (E:d6->fx->Prop) (Q:Option d6->fx->Prop),i<=es.size->a s.heap->fZ s.heap I (first i) i S es.size ep->s.heap.get? S=a5 (mR es ep t) ->
   (∀x,c[i]?=a5 x->∀h',fZ h' I (first (i+1)) (i+1) S es.size ep->H8 I s.heap h'->Q (a5 x) {s with heap:=h' }) ->
   (c[i]?=b6->∀h',(∀b o,b≠I->s.heap.get? b=a5 o->h'.get? b=a5 o)->Q b6 {s with heap:=h' })->eH (ko prog w) A (PQ (.ref I)) Q E s) :
  Walks prog w A I [I,S,T] [I] es.size (λi v=>c[i]?=a5 v) (λi h=>i<=es.size/\fZ h I (first i) i S es.size ep/\h.get? S=a5 (mR es ep t)/\a h) where
 sub:=λb d=>by rw[rr.mp d];simp
 frame:=λi h h' x hk=>⟨x.1,x.2.1.at λo e=>hk I (by simp) o e,hk S (by simp) _ x.2.2.1,l h h' x.2.2.2 λo e=>hk T (by simp) o e⟩
 item:=λi s Q E q x f=>by
  show m s i E Q x.1 x.2.2.2 x.2.1 x.2.2.1 (λv g h' j hs=>?_) λz=>absurd z (by simp;lia);show f v h' s.toks g ⟨q,j,?_,l _ h' x.2.2.2 λo e=>?_⟩ λb o d e=>?_
  .rw[hs.2 S n];show x.2.2.1
  .rw[hs.2 T p];show e
  .rw[hs.2 b λz=>d (by simp[z])];show e
 done:=λs Q E x f=>by
  show m s es.size E Q x.1 x.2.2.2 x.2.1 x.2.2.1 (λv g=>absurd g (by rw[R0 ⋯];simp)) λ_ h' hk=>f h' s.toks λb o d e=>hk b o (λz=>d (by simp[z])) e
 self:=λi s Q E x f=>yc x.2.1 f
def mS(ho:s.heap.get? S=a5 (mR es ep t))(a:t.fits es.size=b7)(h:Q (!w.params.followText "set-order"&&(!t.plain&&c4 (es.size>1))) s):eH (ko prog w) A (setDrawn S) Q E s:=by
 unfold setDrawn;show bw (wh ho rfl a ?_)
 dsimp only
 show bw (dY (cc h))
def mT(a:w.params.followText "set-order"=b7)(ho:s.heap.get? S=a5 (mR es ep t))(b:t.fits es.size=b7)
  (h:Q ((U9 (w.params.setOrder S ep) es)[i]?.map λe=>(e.2,0)) s):eH (ko prog w) A (UO S 0 i ep) Q E s:=by
 unfold UO;show bw (wh ho rfl b ?_)
 dsimp only
 show bw (dY ?_);change eH _ _ (if (w.params.followText "set-order")=b7 then _ else _) _ _ s;rw[Yr a];rw[Yt (by simp)];unfold setWalk;show bw (bw (wh ho rfl b ?_))
 dsimp only
 show bw (dY ?_);change eH _ _ (if (w.params.followText "set-order")=b7 then _ else _) _ _ s;rw[Yr a];show bw (U6 (cc ?_));show cc h
theorem ot(hw:w.params.followText "set-order"=cb)(ho:s.heap.get? S=a5 (mR es ep t))(hf:t.fits es.size=b7)(hl:t.led=b7)(h1:es.size<=1)
    (h:Q (match es[ro t.place slot]?,t.place[ro t.place slot]? with|some (_,x),a5 j=>a5 (x,j+1)|_,_=>b6) s):eH (ko prog w) A (UO S slot i ep) Q E s:=by
  unfold UO;refine bw (wh ho rfl hf ?_)
  dsimp only
  refine bw (dY ?_);show eH _ _ (if (w.params.followText "set-order")=b7 then _ else _) _ _ s;rw[Yt (by rw[hw];simp)];show eH _ _ (if (!t.plain&&c4 (es.size>1))=b7 then _ else _) _ _ s
  rw [if_neg (by have : decide (es.size > 1) = false := decide_eq_false (by lia)
                 rw[this];simp)]
  show eH _ _ ((if (!t.led&&!es.isEmpty)=b7 then _ else _) >>= _) _ _ s;rw[Yt (by rw[hl];simp)];exact bw (cc (cc h))
def ou(es:Array (Int×d6))(a:Array Nat)(i:Nat)(c:es.size<=1)(d:a.size=es.size)(b:i<=es.size):
  (match es[ro a (if i=0 then 0 else(a[0]?).getD 0+1)]?,a[ro a (if i=0 then 0 else(a[0]?).getD 0+1)]? with|some (_,x),a5 j=>a5 (x,j+1)|_,_=>b6)=es[i]?.map λe=>(e.2,(a[0]?).getD 0+1):=by
 have⟨es⟩:=es;have⟨a⟩:=a
 match es,a,c,d,b with
 |[],[],_,_,b=>simp
 |[e],[p],_,_,b =>
  match i,b with
  |0,_ =>
   have:ro #[p] 0=0:=by simp[ro,Pk]
   simp[this]
  |1,_ =>
   have:ro #[p] (p+1)=1:=by simp[ro,Pk]
   simp[this]
  |n+2,h=>simp at h
 |[],_::_,_,h,_=>simp at h
 |[_],[],_,h,_=>simp at h
 |[_],_::_::_,_,h,_=>simp at h
 |_::_::_,_,h,_,_=>simp at h
def vb(hh:B.handled=b6)(hS:dX prog w s.heap S (ba w) D)
  (h:∀(I:gs) (fp:List gs) (n:Nat) (P:Nat->d6->Prop) (St:Nat->IE->Prop) (c:List Str) (h':IE) (d':Drawn),Walks prog w B I fp [I] n P St->c.Perm D->n=c.length->(∀i v,P i v->∃x T,c[i]?=a5 x/\v=.str x T)->s.heap.objs.size<=I->(∀b∈fp,b=S\/s.heap.objs.size<=b)->St 0 h' ->
   (∀b o,s.heap.get? b=a5 o->h'.get? b=a5 o)->Q (.ref I) {s with heap:=h',drawn:=d' }):eH (ko prog w) A (Ua (.ref S)) Q E s:=by
 have⟨L,es,ep,t,ho,F7,Y,E2,a,d,Ge,FJ⟩:=hS;have PL:s.TypeIs (.ref S) "set":=⟨_,ho,rfl⟩
 have HW:S<s.heap.objs.size:=lg ho;show Xv PL PySem.F.slot_set_iter (J7 PySem.F.slot_set_iter PL SI.jP ?_ (PySem.F.args_set_iter_1 _));unfold NO.«frozenset.__iter__» W0 slotArgs;simp only[List.isEmpty_nil,Hd,mn,↓reduceIte,bind_assoc,Nm,bne_self_eq_false];unfold W4 W2;show bw (cc ?_)
 try dsimp only
 show bw (cc ?_);show bw (bw (W' ho rfl a (cc ?_)));have RT:D.length=es.size:=by rw[<-Y.length_eq,eh,<-k9,F7,eh]
 have f:∀(l:List (Int×d6)),l.Perm es.toList->∃c:List Str,c.Perm D/\c.length=es.size/\∀(i:Nat) (v:d6),(l.map (·.2))[i]?=a5 v->∃(x:Str) (T:Tok),c[i]?=a5 x/\v=FI x T:=by
  intro l hl;rw[F7]at hl;have⟨L',e',p'⟩:=fV hl;show⟨L'.map (·.1),(p'.map _).trans Y,by rw[((p'.map _).trans Y).length_eq,RT],λi v G=>?_⟩;subst e';rw[sx,nt]at G;rw[nt];cases q:L'[i]? with
  |none=>rw[q]at G;simp at G
  |some p=>rw[q]at G;simp at G;show⟨p.1,p.2,rfl,G.symm⟩
 show bw (mS ho a ?_);cases hw:w.params.followText "set-order" with
 |true =>
  simp only[Hd,Xf,mn,↓reduceIte];show bw (cc ?_);show bw (bw (wh ho rfl a (cc ?_)));show bw (vr ?_);have u:S≠s.heap.objs.size:=nC HW;have⟨c,H,J,N⟩:=f (U9 (w.params.setOrder S ep) es).toList (eU _ _);have W:=jQ (prog:=prog) (w:=w) (A:=B) (I:=s.heap.objs.size) (S:=S) (es:=es) (ep:=ep) (t:=t) hh u a S u ((U9 (w.params.setOrder S ep) es).toList.map (·.2)) (by rw[eh,(eU _ _).length_eq,k9]) (λ_=>HV 0) (λ_=>True) (λ_ _ _ _=>trivial)
   (λs i E Q _ _ g y k1 k2=>u_ (slot:=0) g y a hh (λB E' Q' q=>mT hw y a q) (λx nx e h' O hs=>by
    rw[et]at e;have⟨p,C,e2⟩:=e;cases e2;show k1 _ (by rw[nt,Jp,C];rfl) h' O hs) (λe=>k2 (by rw[nt,Jp,QO];rwa [QO]at e)))
  show cc ⟨_,rfl,"set_iterator",_,⟨_,hY _ rfl,rfl⟩,SI.slot_next.lookup,?_⟩;show h _ _ _ _ _ c _ s.drawn W H J.symm N (ke _) (λb d=>by
   simp only[fz,UB,or_false]at d;rcases d with rfl|rfl|rfl
   .show .inr (ke _)
   .show .inl rfl
   .show .inl rfl) ⟨uv _,⟨_,hY _ rfl,rfl,rfl⟩,dV _ ho,trivial⟩ λb o e=>dV _ e
 |false =>
  by_cases hsz:es.size>1
  .have F5:t.plain=cb:=by
    rcases FJ with z|z
    .lia
    .show z
   have C:(!cb&&(!t.plain&&c4 (es.size>1)))=b7:=by rw[F5,Yu hsz];rfl
   rw[C];simp only[↓reduceIte];show bw (fN _ _ _ _ Lk λm d' hp=>?_);simp only[newTuple];have II:∀j∈m,j<es.size:=λj hj=>by have:=hp.mem_iff.mp hj;simpa using this
   have Lp:m.length=es.size:=by rw[hp.length_eq];simp
   show bw (vr ?_ (by
    change(m.map λ(j:Nat)=>HV j).toArray.size<=_;have:es.size<4096:=d;simp only[js,eh,Lp];have:(4096:Nat)<=df:=by decide
    lia))
   have Ir:(s.heap.push {cls:=.type "tuple",data:=.seq (m.map λ(j:Nat)=>HV j).toArray}).get? S=a5 (mR es ep t):=dV _ ho;show bw (bw (wh (s:={s with heap:=_,drawn:=d' }) Ir rfl a (cc ?_)));show bw (vr ?_);have RU:s.heap.objs.size≠(s.heap.push {cls:=.type "tuple",data:=.seq (m.map λ(j:Nat)=>HV j).toArray}).objs.size:=by rw[Na];show nC (OJ _)
   have u:S≠(s.heap.push {cls:=.type "tuple",data:=.seq (m.map λ(j:Nat)=>HV j).toArray}).objs.size:=by rw[Na];show nC (QC HW)
   have JR:(m.map λj=>(es[j]?).getD (0,Fq)).Perm es.toList:=by
    show(hp.map _).trans ?_;have:(ei es.size).map (λj=>(es[j]?).getD (0,Fq))=es.toList:=by
     apply WR
     .simp
     .intro i h1 h2;simp at h1 ⊢;simp[h1]
    rw[this]
   have⟨c,H,J,N⟩:=f _ JR;have W:=jQ (prog:=prog) (w:=w) (A:=B) (I:=(s.heap.push {cls:=.type "tuple",data:=.seq (m.map λ(j:Nat)=>HV j).toArray}).objs.size) (S:=S) (es:=es) (ep:=ep) (t:=t) hh u a s.heap.objs.size RU ((m.map λj=>(es[j]?).getD (0,Fq)).map (·.2)) (by simp[Lp]) (λ_=>.ref s.heap.objs.size) (λh=>h.IsTuple s.heap.objs.size (m.map λ(j:Nat)=>HV j).toArray) (λh h' ⟨o,ho,r⟩ k=>⟨o,k _ ho,r⟩)
    (λs' i E Q _ Hh g y k1 k2=>AQ g y a hh Hh (λj e ej ee h' O hs=>k1 _ (by rw[nt,nt,ej];simp[ee]) h' O hs) II (λe=>k2 (by rw[nt,nt,e];rfl)))
   show cc ⟨_,rfl,"set_iterator",_,⟨_,hY _ rfl,rfl⟩,SI.slot_next.lookup,?_⟩;show h _ _ _ _ _ c _ d' W H J.symm N (by rw[Na];show QD _) (λb d=>?_) ⟨uv _,⟨_,hY _ rfl,rfl,rfl⟩,dV _ Ir,⟨_,dV _ (hY _ rfl),rfl,_,rfl⟩⟩ λb o e=>dV _ (dV _ e);rw[Na]at d;simp only[fz,UB,or_false]at d;rcases d with rfl|rfl|rfl
   .show .inr (QD _)
   .show .inl rfl
   .show .inr (ke _)
  .have C:(!cb&&(!t.plain&&c4 (es.size>1)))=cb:=by rw[Ys hsz];simp
   rw[C];simp only[mn,↓reduceIte];show bw (cc ?_);show bw (bw (wh ho rfl a (cc ?_)));show bw (vr ?_);have u:S≠s.heap.objs.size:=nC HW;have RV:t.led=b7:=by rw[Ge];change(!w.params.followText "set-order")=b7;rw[hw];rfl
   have⟨c,H,J,N⟩:=f es.toList (.refl _);have Gz:t.place.size=es.size:=by
    unfold Wr at a;simp only[b8,beq_iff_eq]at a;show a.1
   have W:=jQ (prog:=prog) (w:=w) (A:=B) (I:=s.heap.objs.size) (S:=S) (es:=es) (ep:=ep) (t:=t) hh u a S u (es.toList.map (·.2)) (by simp) (λi=>HV ((if i=0 then 0 else(t.place[0]?).getD 0+1:Nat):Nat)) (λ_=>True) (λ_ _ _ _=>trivial)
    (λs' i E Q hi _ g y k1 k2=>u_ (slot:=if i=0 then 0 else(t.place[0]?).getD 0+1) g y a hh (λB E' Q' q=>ot hw y a RV ⋯ q) (λx nx e h' O hs=>by
     rw[ou es t.place i ⋯ Gz hi,et]at e;have⟨p,C,e2⟩:=e;cases e2;show k1 _ (by rw[nt,Jp,C];rfl) h' ?_ hs;rw[Yt (Nat.succ_ne_zero i)];show O) (λe=>by
     rw[ou es t.place i ⋯ Gz hi,QO]at e;show k2 (by rw[nt,Jp,e];rfl)))
   show cc ⟨_,rfl,"set_iterator",_,⟨_,hY _ rfl,rfl⟩,SI.slot_next.lookup,?_⟩;show h _ _ _ _ _ c _ s.drawn W H J.symm N (ke _) (λb d=>by
    simp only[fz,UB,or_false]at d;rcases d with rfl|rfl|rfl
    .show .inr (ke _)
    .show .inl rfl
    .show .inl rfl) ⟨uv _,⟨_,hY _ rfl,rfl,rfl⟩,dV _ ho,trivial⟩ λb o e=>dV _ e
end
def ox:UE (.type "set") "__len__"=pure (a5 (.builtin "set.__len__")):=by rw[Vk,Tq];kernel_rfl
section
theorem jR:∀{vs:List d6}{a:List Str},vs.length=a.length->(∀(i:Nat) (v:d6),vs[i]?=a5 v->∃x t,a[i]?=a5 x/\v=.str x t)->O7 vs a
 |[],[],_,_=>.nil
 |[],_::_,h,_=>by simp at h
 |_::_,[],h,_=>by simp at h
 |v::vs,y::a,h,k=>by
  have⟨x,t,b,c⟩:=k 0 v rfl;cases b;subst c;show .cons y t (jR (by simpa using h) λi w d=>k (i+1) w d)
def oy(hh:A.handled=b6)(N:dX prog w s.heap S (ba w) D)(O:D.length<=df)
  (T:∀(vs:List d6) (d:List Str) (h':IE) (d':Drawn) (j:Nat),d.Perm D->O7 vs d->s.heap.objs.size<=h'.objs.size->s.toks<=j->(∀b o,s.heap.get? b=a5 o->h'.get? b=a5 o)->Q vs {s with heap:=h',drawn:=d',toks:=j}) :
  eH (ko prog w) A (Wn (.ref S)) Q E s:=by
 have⟨L,es,ep,t,ho,c⟩:=id N;have Y:S<s.heap.objs.size:=lg ho;unfold Wn;show bw (T5 (HB PySem.F.entry_proto_collect ?_));rw[JP PySem.F.plain_proto_collect _];change eH _ A.in1 (XA [] >>= λl=>Yg (.builtin "list.__iadd__" ⟨[l,.ref S],[]⟩)) _ _ s;show bw (vr ?_);show cc ⟨Rx PySem.F.plain_list_iadd _,HB PySem.F.entry_list_iadd ?_⟩;rw[JP PySem.F.plain_list_iadd _];have g:(s.heap.push {cls:=.type "list",data:=.seq ([]:List d6).toArray}).get? S=a5 {cls:=.type "set",dict:=b6,data:=.set es ep t}:=dV _ ho;have hT:M' {s with heap:=s.heap.push {cls:=.type "list",data:=.seq ([]:List d6).toArray}} (.ref S) "set":=⟨_,g,rfl⟩
 change eH _ A.in1 (LD (.ref s.heap.objs.size) (.ref S) (.ref s.heap.objs.size)) _ _ _;unfold LD;show bw (Mb hT ?_);have k:s.heap.objs.size≠S:=KW Y;have h1:Uo (.ref s.heap.objs.size) (.ref S)=cb:=by simp[Uo,k]
 have h2:(G2 "set"==G2 "list")=cb:=by decide
 have h3:(G2 "set"==G2 "tuple")=cb:=by decide
 simp only[h1,h2,h3,Xu,mn,Yx];show bw (vb (B:=A.in1) (by simpa using hh) ⟨L,es,ep,t,g,c⟩ ?_);intro I fp n P St d h' d' W m p hP q RW EO hk;have h:M' {s with heap:=h',drawn:=d' } (.ref S) "set":=⟨_,hk _ _ g,rfl⟩
 show bw (D1 ?_);unfold X2;show bw (NA h ox ?_);have Fz:splitId "set.__len__"=a5 ("set","__len__"):=by decide +kernel
 dsimp only
 rw[Fz]
 dsimp only
 show bw (OY h sub_set_self ?_);rw[Yt (by decide)];rw[Yr (by decide +kernel)];show bw (Mb h ?_);show cc ?_;rw[Yr (by decide +kernel)];have r:s.heap.objs.size∉fp:=λa=>by
  rcases RW _ a with z|z
  .show k z
  .rw[Na]at z;show absurd z (Nat.not_succ_le_self _)
 have u:h'.get? s.heap.objs.size=a5 {cls:=.type "list",data:=.seq ([]:List d6).toArray}:=hk _ _ (hY _ rfl);show bw (N2 ?_);show bw ?_;change eH _ A.in1 (updateSeq s.heap.objs.size (·.push .none) >>= λ_=>updateSeq s.heap.objs.size (·.pop)) _ _ _;show bw (SS u rfl ?_);have x:=F6 (Gj (·.push Fq)) u rfl;show SS x rfl ?_;have RX:=F6 (Gj (·.pop)) x rfl;have y:∀b o,b≠s.heap.objs.size->h'.get? b=a5 o->((h'.update s.heap.objs.size (Gj (·.push Fq))).update s.heap.objs.size (Gj (·.pop))).get? b=a5 o :=
  λb o f e=>(NJ _ _ (HX f)).trans ((NJ _ _ (HX f)).trans e)
 show cc ⟨Rx PySem.F.plain_extend_loop _,codeAny_extend_loopS W.toS (by rw[p,m.length_eq];show O) _ r _ n 0 _ _ _ rfl (uv _) (W.frame 0 h' _ EO λb f o e=>y b o (λz=>r (z▸f)) e) RX (ItemsOf.nil P) λs' Lq c' a C G=>?_⟩;change eH _ A (load s.heap.objs.size >>= _) _ _ s';show bw (Xi C ?_);have⟨Ll,g2,H,RY,RZ⟩:=s';have eg:g2=s.gens:=a.gens;have ed:H=d':=a.drawn;have eo:RZ=s.os:=a.os;subst eg;subst ed;subst eo;show cc (T _ d Ll H RY m (jR (by rw[k9,G.1,p]) λi v hv=>hP i v (G.2 i v (by rwa [Jp]at hv))) (JY (lg C)) a.toks λb o e=>?_);have J:b≠s.heap.objs.size:=λz=>by rw[z]at e;show absurd (lg e) (H4 _)
 show a.heap b o (λz=>?_) (y b o J (hk _ _ (dV _ e)));rcases fz.mp z with z|z
 .show J z
 .rw[rr.mp z]at e;have:=lg e;rw[Na]at q;show absurd (my this (Hm (QD _) q)) (H4 _)
end
section
def Inv.drawn(I:Inv X pins σ H s)(d:Drawn):Inv X pins σ H {s with drawn:=d}:=⟨I.ok,I.os,I.bare,I.base,I.loc,I.cell,I.free,I.E1,I.pin,I.EN,I.len⟩
def gV(j:X.calm=b7)(I:Inv X pins σ H s)(hq:Fm X.K H p (c.map V.str)\/Fe X.K H p (c.map V.str))(i:c.length+1<Ln)
  (h:∀(S:gs) (h':IE) (a:Nat),dX X.prog X.w h' S (ba X.w) (aP c)->Inv X pins σ H {s with heap:=h',toks:=a}->Q (.ref S) {s with heap:=h',toks:=a}) :
  eH (ko X.prog X.w) X.A (Nk (.type "set") [.ref p]) Q X.xe s:=by
 have hh:X.A.handled=b6:=I.ok.hd j;rcases hq with hq|hq
 .have⟨l,d,f,hz⟩:=I.list hq;show jO hh f.isList (c7 d) i λh' a g k=>h _ h' a g (I.kept λb o e=>k b o (lg e) e)
 .have⟨l,d,f,hz⟩:=I.tuple hq;show kY hh f (c7 d) i λh' a g k=>h _ h' a g (I.kept λb o e=>k b o (lg e) e)
def kZ(h:X.calm=b7)(I:Inv X pins σ H s)(i:dX X.prog X.w s.heap S (ba X.w) D)(c:D.length<64)
  (q:∀p,H p=b6->Q (.ref p) (upd H p (.lst ((bV D).map V.str)))):eH (ko X.prog X.w) X.A (Nk (.builtin "sorted") [.ref S]) (EP X pins σ Q) X.xe s:=by
 have hh:X.A.handled=b6:=I.ok.hd h;have hl:D.length<=df:=JY (my c (by decide));show fU (oy (A:=X.A.in1) (by simpa using hh) i hl λvs j h' d' a d f hsz m hk=>⟨j,f,by rw[gU f,d.length_eq];show c,λn k e k2 b s2=>?_⟩);rw[oh d]at s2;have l:Inv X pins σ H {s with heap:=h',toks:=a}:=I.kept (t':=a) hk;have g:Inv X pins σ H {s with heap:=h',drawn:=d',toks:=a}:=l.drawn d';show⟨.ref h'.objs.size,_,g.laid (t':=a) (o:=.lst ((bV D).map V.str)) k2 (ke _) ⟨by rw[eh,gR];show hl,k,e,dW s2,b⟩,rfl,q _ (g.EN.fresh (ke _))⟩
def pQ(I:Inv X pins σ H s)(b:dX X.prog X.w s.heap S (ba X.w) D)
  (q:Q (.int D.length) H):eH (ko X.prog X.w) X.A (Nk (.builtin "len") [.ref S]) (EP X pins σ Q) X.xe s:=by
 have⟨L,es,ep,t,ho,c,d,i,g,h,j,k⟩:=b;have a:es.size=D.length:=by rw[<-k9,c,eh,<-eh (f:=U3) (as:=L),d.length_eq]
 have l:es.size<4096:=h;show call_len_set ho ⟨rfl,rfl,rfl⟩ rfl g ⋯ ?_;show⟨.int es.size,_,I.kept (t':=s.toks+1+1) (λ_ _ e=>e),⟨_,rfl⟩,by rw[a];show q⟩
end
def tK(l:gs)(a:Array d6)(n:Nat)(b:gs)(c:Array d6)(e:Nat)(dd:Option gs)(f:Array (Option d6))(o:¬(!a.isEmpty&&K_ (a.size+c.size))=b7)(i:a.size<=df)(j:a.size+c.size<=df+1):
  Meets (NO.«list.extend» ⟨[.ref l,.ref b],[]⟩) (λ_ R s=>s.heap.get? l=a5 {cls:=.type "list",dict:=b6,data:=.seq a n,slots:=#[]}/\s.heap.get? b=a5 {cls:=.type "list",dict:=dd,data:=.seq c e,slots:=f}/\R (.ok (.ret Fq)) {s with heap:=s.heap.update l (Gj λx=>x++c),toks:=s.toks}) :=
 .of_wp λprog w A R s h=>by
  have⟨p,g,d,q,os⟩:=s;have⟨hl,k,h⟩:=h;have r:=VQ;have t:=UL;have u:=U2;have v:=UY;have y:=UZ;
  have m:(a++c).size<=df+1:=by rw[Ul];show j
  wp_walk using(SS hl rfl (hz:=i) (_hz':=m)),M7 hl,M7 k;show⟨_,rfl,h⟩
def tL(l:gs)(a:Array d6)(n:Nat)(b:gs)(c:Array d6)(e:Nat)(dd:Option gs)(f:Array (Option d6))(o:¬(!a.isEmpty&&K_ (a.size+c.size))=b7)(i:a.size<=df)(j:a.size+c.size<=df+1):
  Meets (NO.«list.extend» ⟨[.ref l,.ref b],[]⟩) (λ_ R s=>s.heap.get? l=a5 {cls:=.type "list",dict:=b6,data:=.seq a n,slots:=#[]}/\s.heap.get? b=a5 {cls:=.type "tuple",dict:=dd,data:=.seq c e,slots:=f}/\R (.ok (.ret Fq)) {s with heap:=s.heap.update l (Gj λx=>x++c),toks:=s.toks}) :=
 .of_wp λprog w A R s h=>by
  have⟨p,g,d,q,os⟩:=s;have⟨hl,k,h⟩:=h;have r:=VQ;have t:=UL;have u:=U2;have v:=UY;have y:=UZ;
  have m:(a++c).size<=df+1:=by rw[Ul];show j
  wp_walk using(SS hl rfl (hz:=i) (_hz':=m)),M7 hl,M7 k;show⟨_,rfl,h⟩
section
def pR:Pu X "list.extend" (λx vs H Q=>∃l b xs c,x=.ref l/\vs=[.ref b]/\H l=a5 (.lst xs)/\(Fm X.K H b c\/Fe X.K H b c)/\xs.length+c.length<=df/\Q .EU (upd H l (.lst (xs++c)))):=by
 intro pins s σ H x vs v us Q I y A h;have⟨l,b,xs,c,rfl,rfl,t,hB,hz,q⟩:=h;cases y;have⟨u,rfl,B⟩:=A.one;cases B;have⟨z,f,n,r,hl,e⟩:=I.CS t;have g:∀a:List d6,Vals c a->EP X pins σ Q Fq {s with heap:=s.heap.update l (Gj λx=>x++a.toArray),toks:=s.toks}:=λa d=>by
  show⟨.EU,_,I.eR (its':=f++a) t e (by simp) (r.append d) ?_,rfl,q⟩;rw[gc];lia
 have k:∀a:List d6,c.length=a.length->f.toArray.size+a.toArray.size<=df:=λa h=>by rw[js,js];lia
 have w:∀a:List d6,c.length=a.length->¬(!f.toArray.isEmpty&&K_ (f.toArray.size+a.toArray.size))=b7:=λa h=>by
  rw[uO (k a h),LB];show oa
 rcases hB with hB|hB
 .obtain⟨a,d,m,_⟩:=I.list hB;obtain⟨⟨cls,dd,data,o⟩,ho,i,p,j⟩:=m.isList;simp only at i j;subst i j;have HQ:=d.length;have C:=k a HQ;show QG WZ ⟨_,e,rfl⟩ WL (Wv _ _) (tK l f.toArray n b a.toArray p dd o (w a HQ) ⋯ ⋯) ⟨e,ho,g a d⟩
 .obtain⟨a,d,m,_⟩:=I.tuple hB;obtain⟨⟨cls,dd,data,o⟩,ho,i,p,j⟩:=m;simp only at i j;subst i j;have HQ:=d.length;have C:=k a HQ;show QG WZ ⟨_,e,rfl⟩ WL (Wv _ _) (tL l f.toArray n b a.toArray p dd o (w a HQ) ⋯ ⋯) ⟨e,ho,g a d⟩
end
end L2
namespace Tb
open PySem PySem.SetTable
abbrev run(mask i:Nat):List Nat:=(ei (Va mask i+1 - i)).map (i+·)
abbrev cC(mask:Nat):Nat->Nat->Nat->List Nat
 |0,_,_=>[]
 |f+1,i,p=>run mask i++cC mask f (V5 mask i p).1 (V5 mask i p).2
abbrev path(mask:Nat)(h:Int):List Nat:=cC mask (Ph mask) (Vb h % (mask+1)) (Vb h)
theorem free_eq(mask:Nat)(owner:Array (Option Nat)):∀(f i p:Nat),Px mask owner f i p=(cC mask f i p).find? λj=>(owner.getD j (a5 0)).isNone
 |0,_,_=>rfl
 |f+1,i,p=>by
  rw[Px,cC,List.find?_append,run,List.find?_map,<-free_eq mask owner f (V5 mask i p).1 (V5 mask i p).2];change(match (ei (Va mask i+1 - i)).find? (λk=>(owner.getD (i+k) (a5 0)).isNone) with|some k=>_|none=>_)=_;rw[show((λj=>(owner.getD j (a5 0)).isNone) ∘ λx=>i+x)=λk=>(owner.getD (i+k) (a5 0)).isNone from rfl];cases(ei (Va mask i+1 - i)).find? (λk=>(owner.getD (i+k) (a5 0)).isNone)<;>rfl
def yd(mask i:Nat):(run mask i).length<=10:=by
 unfold run Va;rw[eh,Lk];split<;>lia
def AR{mask i j:Nat}(a:i<=mask)(h:j∈run mask i):j<=mask:=by
 unfold run Va at h;have⟨k,hk,rfl⟩:=mh.mp h;have:=ux.mp hk;split at this<;>lia
def vc(mask i:Nat):i∈run mask i:=by
 unfold run Va;show mh.mpr ⟨0,ux.mpr ?_,rfl⟩;split<;>lia
def rg(mask i p:Nat):(V5 mask i p).1<=mask:=Mk (P7 _ (VJ _))
theorem lz(mask:Nat):∀f i p,(cC mask f i p).length<=10 * f
 |0,_,_=>ke _
 |f+1,i,p=>by
  have:=lz mask f (V5 mask i p).1 (V5 mask i p).2;have:=yd mask i;rw[cC,gc];lia
theorem oz{mask j:Nat}:∀{f i p:Nat},i<=mask->j∈cC mask f i p->j<=mask
 |0,_,_,_,h=>by cases h
 |f+1,i,p,a,h=>by
  rcases l'.mp h with h|h
  .show AR a h
  .show oz (rg mask i p) h
def vd(mask:Nat)(h:Int):(path mask h).length<=10 * Ph mask:=lz ..
def mU{mask j:Nat}(a:j∈path mask h):j<=mask:=oz (Mk (P7 _ (VJ _))) a
abbrev st(mask i:Nat):Nat:=(i * 5+1) % (mask+1)
abbrev it(mask:Nat):Nat->Nat->Nat
 |0,i=>i
 |k+1,i=>it mask k (st mask i)
theorem mV(mask:Nat):∀a b i,it mask (a+b) i=it mask b (it mask a i)
 |0,b,i=>by rw[Pn];rfl
 |a+1,b,i=>by rw[Wy];show mV mask a b _
def CY(mask i:Nat):V5 mask i 0=(st mask i,0):=rfl
theorem vf{mask:Nat}:∀{k f i:Nat},k<f->it mask k i∈cC mask f i 0
 |0,f+1,i,_=>JZ _ (vc mask i)
 |k+1,f+1,i,h=>by
  show ti _ ?_;rw[CY];show vf (k:=k) (f:=f) ⋯
structure Good(mask:Nat):Prop where
 all:∀j,j<=mask->∃k,k<=mask/\it mask k 0=j
 round:it mask (mask+1) 0=0
def Good.cover{mask:Nat}(g:Good mask)(c:i<=mask)(d:j<=mask):∃k,k<=mask/\it mask k i=j:=by
 have⟨a,e,rfl⟩:=g.all i c;have⟨b,f,rfl⟩:=g.all j d;by_cases h:a<=b
 .show⟨b - a,⋯,?_⟩;rw[<-mV,show a+(b - a)=b by lia]
 .show⟨mask+1+b - a,⋯,?_⟩;rw[<-mV,show a+(mask+1+b - a)=mask+1+b by lia,mV,g.round]
abbrev N3(mask:Nat):Nat->Nat->List Nat
 |0,_=>[]
 |k+1,i=>i::N3 mask k (st mask i)
theorem rh{mask j:Nat}:∀{k i:Nat},j∈N3 mask k i->∃m,m<k/\it mask m i=j
 |0,_,h=>by cases h
 |k+1,i,h=>by
  rcases fz.mp h with rfl|h
  .show⟨0,⋯,rfl⟩
  .have⟨m,a,e⟩:=rh h;show⟨m+1,⋯,e⟩
abbrev zF(mask:Nat):Bool:=(ei (mask+1)).all (λj=>(N3 mask (mask+1) 0).contains j)&&it mask (mask+1) 0==0
def mW{mask:Nat}(h:zF mask=b7):Good mask:=by
 unfold zF at h;rw[b8,ri]at h;show⟨λj a=>?_,by simpa using h.2⟩;have:=h.1 j (ux.mpr ⋯);rw[List.contains_iff_mem]at this;have⟨m,b,e⟩:=rh this;show⟨m,⋯,e⟩
def zG:Good 7:=mW (by decide +kernel)
def AS:Good 31:=mW (by decide +kernel)
def ye:Good 127:=mW (by decide +kernel)
abbrev Kt:Nat->Nat->Nat
 |0,p=>p
 |n+1,p=>Kt n (p / 32)
theorem oA{mask j:Nat}:∀{n f i p:Nat},i<=mask->(∀a,a<=mask->j∈cC mask f a (Kt n p))->j∈cC mask (n+f) i p
 |0,f,i,p,b,h=>by rw[Pn];show h i b
 |n+1,f,i,p,b,h=>by
  rw[Wy];show ti _ ?_;show oA (rg mask i p) h
theorem vg:∀n p,Kt n p=p / 32 ^ n
 |0,p=>by simp[Kt]
 |n+1,p=>by rw[Kt,vg n,Nat.div_div_eq_div_mul,Nat.pow_succ,Nat.mul_comm]
def yf(h:Int):Vb h<2 ^ 64:=by
 unfold Vb;have a:=JH h (show(0:Int)<2 ^ 64 by decide);have b:=Je h (show(2 ^ 64:Int)≠0 by decide);lia
def Good.path{mask:Nat}(g:Good mask)(h:Int)(a:j<=mask):j∈path mask h:=by
 unfold Tb.path Ph;rw[show mask+15=13+(mask+2) by lia];show oA (Mk (P7 _ (VJ _))) λc b=>?_;have:Kt 13 (Vb h)=0:=by
  rw[vg];have:=yf h;show Nat.div_eq_of_lt (my this (by decide))
 rw[this];have⟨k,hk,rfl⟩:=g.cover b a;show vf ⋯
theorem jS(hs:xs.toList.Pairwise (· < ·)):∀(f lo c:Nat),lo<=c->c<=xs.size->c - lo<=f->(∀i v,i<lo->xs[i]?=a5 v->v<j)->(∀i v,c<=i->xs[i]?=a5 v->j<=v) ->
  Pk xs j f lo c<=xs.size/\(∀i v,i<Pk xs j f lo c->xs[i]?=a5 v->v<j)/\∀i v,Pk xs j f lo c<=i->xs[i]?=a5 v->j<=v
 |0,lo,c,p,l,q,m,n=>by
  have:lo=c:=by lia
  subst this;show⟨l,m,n⟩
 |f+1,lo,c,p,l,q,m,n=>by
  rw[Pk];by_cases h:lo<c
  .rw[Yr h]
   dsimp only
   have r:(lo+c) / 2<xs.size:=by lia
   have k:xs[(lo+c) / 2]?=a5 xs[(lo+c) / 2]:=E_ r;have e:xs.getD ((lo+c) / 2) j=xs[(lo+c) / 2]:=by rw[Gw,k];rfl
   have d:∀a b u v,a<b->xs[a]?=a5 u->xs[b]?=a5 v->u<v:=λa b u v s t w=>by
    have⟨x,y⟩:=pa.mp t;have⟨z,A⟩:=pa.mp w;have:=Vd.mp hs a b (by simpa using x) (by simpa using z) s;simpa[y,A] using this
   by_cases o:xs.getD ((lo+c) / 2) j<j
   .rw[Yr o];show jS hs f _ c ⋯ l ⋯ (λi v B g=>?_) n;by_cases hh:i=(lo+c) / 2
    .subst hh;rw[k]at g;cases g;lia
    .have:=d i _ v _ ⋯ g k;lia
   .rw[Yt o];show jS hs f lo _ ⋯ ⋯ ⋯ m λi v B g=>?_;by_cases hh:i=(lo+c) / 2
    .subst hh;rw[k]at g;cases g;lia
    .have:=d _ i _ v ⋯ k g;lia
  .rw[Yt h];have:lo=c:=by lia
   subst this;show⟨l,m,n⟩
def f9(hs:xs.toList.Pairwise (· < ·)):ro xs j<=xs.size/\(∀i v,i<ro xs j->xs[i]?=a5 v->v<j)/\∀i v,ro xs j<=i->xs[i]?=a5 v->j<=v:=by
 unfold ro;show jS hs _ 0 xs.size ⋯ (ke _) ⋯ (λi v h=>by lia) λi v h a=>?_;have:=(pa.mp a).1;lia
def below_at(hs:xs.toList.Pairwise (· < ·))(h:xs[i]?=a5 j):ro xs j=i:=by
 have⟨f,b,c⟩:=f9 (j:=j) hs;rcases WN (ro xs j) i with hl|hl|hl
 .have⟨d,e⟩:=pa.mp h;have a:ro xs j<xs.size:=by lia
  have g:=c _ _ (ke _) (E_ a);have:=Vd.mp hs (ro xs j) i (by simpa using a) (by simpa using d) hl;simp[e]at this;lia
 .show hl
 .have:=b i j hl h;lia
section
variable{t:K6}
def fy(hs:t.place.toList.Pairwise (· < ·))(h:t.place[i]?=a5 j):t.slot j=.live i:=by
 unfold slot
 dsimp only
 rw[below_at hs h,h];simp
def jT(c:t.dummies=#[])(h:j∉t.place.toList):t.slot j=.empty:=by
 unfold slot
 dsimp only
 rw[Yt,c]
 .rfl
 .intro z;have z:=Uq z;show h (by have⟨a,b⟩:=pa.mp z;rw[<-b];simp)
def jr(h:t.slot j=.live i):t.place[i]?=a5 j:=by
 unfold slot at h
 dsimp only at h
 split at h
 .rename_i z;cases h;show Uq z
 .split at h<;>cases h
def rj(hs:t.place.toList.Pairwise (· < ·))(a:t.dummies=#[])(j:Nat):(j∈t.place.toList/\∃i,t.slot j=.live i)\/(j∉t.place.toList/\t.slot j=.empty):=by
 by_cases h:j∈t.place.toList
 .have⟨i,b,e⟩:=Lj.mp h;show .inl ⟨h,i,fy hs (pa.mpr ⟨by simpa using b,by simpa using e⟩)⟩
 .show .inr ⟨h,jT a h⟩
end
section
variable{t:K6}{hashAt:Nat->Int}{h:Int}
abbrev Pl(t:K6)(f:Nat)(p:Uz):List Nat:=(ei (p.more+1)).map (p.j+·)++cC t.mask f (V5 t.mask p.i p.perturb).1 (V5 t.mask p.i p.perturb).2
def vh(f:Nat):Pl t f (t.probeStart h)=cC t.mask (f+1) (Vb h % (t.mask+1)) (Vb h):=by
 unfold Pl probeStart
 dsimp only
 rw[cC,run];congr 3
 unfold Va;split<;>lia
def yg:Pl t (t.mask+14) (t.probeStart h)=path t.mask h:=vh _
def rl(e:Pl t f p=p.j::l)(hl:l≠[]):∃f',l=Pl t f' (t.advance p):=by
 unfold Pl at e;unfold advance;by_cases a:p.more>0
 .rw[Yr a];show⟨f,?_⟩;unfold Pl
  dsimp only
  rw[NT,l3,WT]at e;injection e with _ e
  rw[<-e,show p.more - 1+1=p.more by lia,sx];congr 1
  show O2 λk _=>?_;change p.j+(k+1)=p.j+1+k;lia
 .rw[Yt a];have b:p.more=0:=by lia
  rw[b]at e;cases f with
  |zero=>injection e with _ e;show absurd e.symm hl
  |succ f =>
   show⟨f,?_⟩;injection e with _ e
   have e:cC t.mask (f+1) (V5 t.mask p.i p.perturb).1 (V5 t.mask p.i p.perturb).2=l:=e;rw[<-e,cC];unfold Pl run
   dsimp only
   congr 3
   unfold Va;split<;>lia
def yh(f:Nat)(p:Uz):∃l,Pl t f p=p.j::l:=by
 unfold Pl;rw[NT,l3,WT];show⟨_,rfl⟩
def iu(p:Uz):(t.advance p).dummy=p.dummy:=by
 unfold advance;split<;>rfl
theorem rm:∀(l:List Nat) (fuel f:Nat) (p:Uz),Pl t f p=l->l.length<=fuel->p.dummy=b6->(∃j∈l,t.slot j=.empty)->(∀j∈l,t.slot j≠.dummy) ->
  ∃c j a,l=c++j::a/\(∀m∈c,∃i,t.slot m=.live i/\hashAt i≠h) /\
   ((t.slot j=.empty/\QH t hashAt h fuel p=a5 (.empty j b6))\/∃i f' next,t.slot j=.live i/\hashAt i=h/\QH t hashAt h fuel p=a5 (.candidate j i next)/\next.dummy=b6/\(a≠[]->Pl t f' next=a))
 |[],_,_,_,_,_,_,⟨_,u,_⟩,_=>by cases u
 |j::l,0,_,_,_,g,_,_,_=>by simp at g
 |j::l,fuel+1,f,p,e,g,d,⟨q,v,k⟩,r=>by
  have⟨D,s⟩:=yh (t:=t) f p;rw[e]at s;injection s with w x
  subst w;subst x;cases b:t.slot p.j with
  |empty=>show⟨[],p.j,l,rfl,(λm hm=>by cases hm),.inl ⟨b,by rw[QH,b];simp[d]⟩⟩
  |dummy=>show absurd b (r p.j gw)
  |live i =>
   by_cases hh:hashAt i=h
   .show⟨[],p.j,l,rfl,(λm hm=>by cases hm),.inr ?_⟩;by_cases hl:l=[]
    .show⟨i,0,t.advance p,b,hh,by rw[QH,b];simp[hh],by rw[iu];show d,λz=>absurd hl z⟩
    .have⟨f',n⟩:=rl e hl;show⟨i,f',t.advance p,b,hh,by rw[QH,b];simp[hh],by rw[iu];show d,λ_=>n.symm⟩
   .have o:q∈l:=by
     rcases fz.mp v with z|z
     .rw[z,b]at k;cases k
     .show z
    have⟨f',n⟩:=rl e (by intro z;rw[z]at o;cases o);have⟨c,j,a,y,A,B⟩:=rm l fuel f' (t.advance p) n.symm (by simpa using g) (by rw[iu];show d) ⟨q,o,k⟩ λm hm=>r m (ek _ hm);have C:QH t hashAt h (fuel+1) p=QH t hashAt h fuel (t.advance p):=by
     rw[QH,b];simp[hh]
    rw[C];show⟨p.j::c,j,a,by rw[y];rfl,λm hm=>by
     rcases fz.mp hm with rfl|hm
     .show⟨i,b,hh⟩
     .show A m hm,B⟩
end
abbrev On(mask:Nat)(a:Nat->Prop)(h:Int)(j:Nat):Prop:=∃b c,path mask h=b++j::c/\∀m∈b,a m
def On.mono{mask:Nat}(x:On mask P h j)(i:∀m,P m->Q m):On mask Q h j:=let ⟨a,b,c,d⟩:=x;⟨a,b,c,λm z=>i m (d m z)⟩
structure Tab(t:K6)(es:Array (Int×d6)):Prop where
 sz:t.place.size=es.size
 dm:t.dummies=#[]
 Hr:t.place.toList.Pairwise (· < ·)
 le:∀j∈t.place.toList,j<=t.mask
 Im:es.size<=t.mask
 good:Good t.mask
 odd:t.mask % 2=1
 Ku:∀q∈t.place.toList.zip es.toList,On t.mask (·∈t.place.toList) q.2.1 q.1
section
variable{t:K6}{es:Array (Int×d6)}
def Tab.fill(T:Tab t es):t.fill=es.size:=by
 unfold SetTable.fill;rw[T.dm,T.sz];rfl
def Tab.fits(T:Tab t es):t.fits es.size=b7:=by
 unfold Wr;rw[T.fill,T.sz];simp[T.Im]
def Tab.CZ(T:Tab t es):t.gaveWay=cb:=by
 unfold SetTable.gaveWay;rw[T.odd];rfl
def Tab.yi(T:Tab t es)(j:Nat):t.slot j≠.dummy:=by
 rcases rj T.Hr T.dm j with⟨_,i,e⟩|⟨_,e⟩<;>(rw[e];intro z;cases z)
theorem vi:∀{K L:List Nat},K.Nodup->(∀x∈K,x∈L)->K.length<=L.length
 |[],_,_,_=>uv _
 |a::K,L,h,s=>by
  rw[Hc]at h;have b:=s a gw;have:=vi (K:=K) (L:=L.erase a) h.2 λx c=>(VV (show x≠a from λe=>h.1 (e▸c))).mpr (s x (ek _ c));rw[Vh b]at this;have:=Vx b;rw[lx];lia
def vj(l:List α)(m:List β)(p:Nat):(l.take p).zip (m.take p)=(l.zip m).take p:=List.take_zipWith.symm
def vk(l:List α)(m:List β)(p:Nat):(l.drop p).zip (m.drop p)=(l.zip m).drop p:=List.drop_zipWith.symm
def Tab.free(T:Tab t es)(h:Int):∃j∈path t.mask h,t.slot j=.empty:=by
 have:∃j,j<=t.mask/\j∉t.place.toList:=by
  show K8 λz=>?_;have hs:∀j∈ei (t.mask+1),j∈t.place.toList:=λj a=>K8 λq=>z ⟨j,Mk (ux.mp a),q⟩;have:=vi WO hs;rw[Lk,k9,T.sz]at this;have:=T.Im;lia
 have⟨j,b,c⟩:=this;show⟨j,T.good.path h b,jT T.dm c⟩
def dt(xs:Array α)(p:Nat)(x:α)(h:p<=xs.size):(Jv xs p x).toList=xs.toList.take p++x::xs.toList.drop p:=by
 unfold Jv;simp[Array.toList_extract,List.extract_eq_take_drop];show KS (by rw[JF,k9];lia)
def AU(a:t.dummies=#[])(j:Nat):t.put j=({t with place:=Jv t.place (ro t.place j) j},ro t.place j):=by
 unfold SetTable.put
 dsimp only
 rw[a];have:has #[] j=cb:=rfl;rw[this];simp
def Tab.put(T:Tab t es)(o:On t.mask (·∈t.place.toList) h j)(s:j∉t.place.toList)(u:j<=t.mask)(w:es.size+1<=t.mask):
  Tab {t with place:=Jv t.place (ro t.place j) j} (Jv es (ro t.place j) (h,v)):=by
 have⟨l,x,y⟩:=f9 (j:=j) T.Hr;have hb:ro t.place j<=es.size:=by rw[<-T.sz];show l
 have d:=dt t.place (ro t.place j) j l;have n:=dt es (ro t.place j) (h,v) hb;have p:∀m,m∈t.place.toList->m∈(Jv t.place (ro t.place j) j).toList:=λm z=>by
  rw[d];rw[<-RS (ro t.place j) t.place.toList]at z;rcases l'.mp z with z|z
  .show JZ _ z
  .show ti _ (ek _ z)
 have A:∀m,m∈(Jv t.place (ro t.place j) j).toList->m=j\/m∈t.place.toList:=λm z=>by
  rw[d]at z;rcases l'.mp z with z|z
  .show .inr (M3 z)
  .rcases fz.mp z with z|z
   .show .inl z
   .show .inr (OV z)
 have B:(Jv t.place (ro t.place j) j).toList.length=t.place.size+1:=by
  rw[d,gc,lx,tj,JF,k9];lia
 have r:(Jv es (ro t.place j) (h,v)).toList.length=es.size+1:=by
  rw[n,gc,lx,tj,JF,k9];lia
 show⟨?_,T.dm,?_,?_,?_,T.good,T.odd,?_⟩
 .rw[<-k9,<-k9,B,r,T.sz]
 .change(Jv t.place (ro t.place j) j).toList.Pairwise (· < ·);rw[d];have hs:=T.Hr;rw[<-RS (ro t.place j) t.place.toList,VU]at hs;rw[VU];have low:∀a∈t.place.toList.take (ro t.place j),a<j:=λa c=>by
   have⟨i,f,e⟩:=Lj.mp c;rw[tj]at f;rw[List.getElem_take]at e;show x i a ⋯ (pa.mpr ⟨by simp at f;lia,by simpa using e⟩)
  have C:∀a∈t.place.toList.drop (ro t.place j),j<a:=λa c=>by
   have⟨i,f,e⟩:=Lj.mp c;rw[JF]at f;rw[List.getElem_drop]at e;have:=y (ro t.place j+i) a ⋯ (pa.mpr ⟨by simp at f;lia,by simpa using e⟩);have:a≠j:=λz=>s (z▸OV c);lia
  show⟨hs.1,Nt.mpr ⟨C,hs.2.1⟩,λa c b hb=>?_⟩;rcases fz.mp hb with rfl|hb
  .show low a c
  .show hs.2.2 a c b hb
 .intro m z;rcases A m z with rfl|z
  .show u
  .show T.le m z
 .rw[<-k9,r];show w
 .intro q k;have k:q∈(Jv t.place (ro t.place j) j).toList.zip (Jv es (ro t.place j) (h,v)).toList:=k;rw[d,n,List.zip_append (by rw[tj,tj,k9,k9,T.sz]),Nq]at k;have g:q∈t.place.toList.zip es.toList->On t.mask (·∈(Jv t.place (ro t.place j) j).toList) q.2.1 q.1:=λz=>(T.Ku q z).mono p;rcases l'.mp k with z|z
  .show g ?_;rw[vj]at z;show M3 z
  .rcases fz.mp z with rfl|z
   .show o.mono p
   .show g ?_;rw[vk]at z;show OV z
end
def Tab.plain(T:Tab t es)(b:Bool):Tab {t with plain:=b} es:=⟨T.sz,T.dm,T.Hr,T.le,T.Im,T.good,T.odd,T.Ku⟩
structure Own(mask:Nat)(hs:List Int)(o:Array (Option Nat)):Prop where
 size:o.size=mask+1
 all:((ei (mask+1)).filterMap λj=>(o.getD j b6).map (j,·)).map (·.2) |>.Perm (ei hs.length)
 Ku:∀j k,o.getD j b6=a5 k->∃h,hs[k]?=a5 h/\On mask (λm=>(o.getD m b6).isSome=b7) h j
theorem dI:∀{l:List α},(∀a∈l,f a=g a)->l.filterMap f=l.filterMap g
 |[],_=>rfl
 |a::l,h=>by
  have c:=dI λb d=>h b (ek _ d);have e:=h a gw;cases q:g a with
  |none=>rw[q]at e;rw[JS e,JS q,c]
  |some z=>rw[q]at e;rw[C0 e,C0 q,c]
theorem rn [DecidableEq α](i:f a0=b6)(j:f' a0=a5 y):∀(r:List α),r.Nodup->a0∈r->(∀a∈r,a≠a0->f' a=f a)->(r.filterMap f').Perm (y::r.filterMap f)
 |[],_,h,_=>by cases h
 |a::r,d,l,g=>by
  rw[Hc]at d;by_cases e:a=a0
  .subst e;rw[C0 j,JS i,dI (λb c=>g b (ek _ c) λz=>d.1 (z▸c))]
  .have k:=rn i j r d.2 (by rcases fz.mp l with z|z;show absurd z.symm e;show z) λb c=>g b (ek _ c);have ea:=g a gw e;cases q:f a with
   |none =>
    rw[q]at ea;rw[JS ea,JS q];show k
   |some z =>
    rw[q]at ea;rw[C0 ea,C0 q];show(k.cons z).trans (V_ y z _)
abbrev AV(mask:Nat)(a:Option (Array (Option Nat)×Nat))(h:Int):Option (Array (Option Nat)×Nat):=do
 let (owner,k) <-a
 let j <-Px mask owner (Ph mask) (Vb h % (mask+1)) (Vb h)
 pure (owner.setIfInBounds j (a5 k),k+1)
def oB(mask:Nat)(a:Array Int):R3 mask a=(a.toList.foldl (AV mask) (a5 (Ra (mask+1) b6,0))).map (·.1):=by
 unfold R3;rw[<-Array.foldl_toList];rfl
def vm{o:Array (Option Nat)}(a:j<o.size):(o.setIfInBounds j (a5 k)).getD m b6=if m=j then a5 k else o.getD m b6:=by
 rw[Gw,Gw,Array.getElem?_setIfInBounds];by_cases e:m=j
 .subst e;simp[a]
 .rw[Yt (λz=>e z.symm),Yt e]
def Own.free{mask:Nat}(O:Own mask hs o)(hl:hs.length<=mask):∃j,j<=mask/\o.getD j b6=b6:=by
 show K8 λz=>?_;have h:∀j∈ei (mask+1),∃k,o.getD j b6=a5 k:=λj d=>by
  cases q:o.getD j b6 with
  |none=>show absurd ⟨j,Mk (ux.mp d),q⟩ z
  |some k=>show⟨k,rfl⟩
 have c:∀r:List Nat,(∀j∈r,∃k,o.getD j b6=a5 k)->(r.filterMap λj=>(o.getD j b6).map (j,·)).length=r.length:=by
  intro r;induction r with
  |nil=>intro _;rfl
  |cons a r g =>
   intro f;have⟨k,e⟩:=f a gw;rw[C0 (b:=(a,k)) (by rw[e];rfl),lx,g λj d=>f j (ek _ d),lx]
 have:=O.all.length_eq;rw[eh,c _ h,Lk,Lk]at this;lia
def Own.step{mask:Nat}(g:Good mask)(O:Own mask hs o)(hl:hs.length<=mask)(h:Int):∃p,AV mask (a5 (o,hs.length)) h=a5 (p,hs.length+1)/\Own mask (hs++[h]) p:=by
 have⟨r,s,x⟩:=O.free hl;have A:=g.path h s;have c:∀m,m<=mask->o.getD m (a5 0)=o.getD m b6:=λm t=>by
  have:m<o.size:=by rw[O.size];lia
  rw[Gw,Gw,E_ this];rfl
 have B:∃j,Px mask o (Ph mask) (Vb h % (mask+1)) (Vb h)=a5 j:=by
  rw[free_eq];cases q:(cC mask (Ph mask) (Vb h % (mask+1)) (Vb h)).find? λj=>(o.getD j (a5 0)).isNone with
  |some j=>show⟨j,rfl⟩
  |none =>
   have:=List.find?_eq_none.mp q r A;rw[c r s,x]at this;show absurd rfl this
 have⟨j,d⟩:=B;rw[free_eq]at d;have⟨C,i,a,e,D⟩:=List.find?_eq_some_iff_append.mp d;have G:j<=mask:=mU (h:=h) (by change j∈cC _ _ _ _;rw[e];simp);have H:o.getD j b6=b6:=by rw[<-c j G];simpa using C
 have I:j<o.size:=by rw[O.size];lia
 have b:∀m,(o.setIfInBounds j (a5 hs.length)).getD m b6=if m=j then a5 hs.length else o.getD m b6:=λm=>vm I
 have u:∀m,(o.getD m b6).isSome=b7->((o.setIfInBounds j (a5 hs.length)).getD m b6).isSome=b7:=λm t=>by
  rw[b];split
  .rfl
  .show t
 show⟨o.setIfInBounds j (a5 hs.length),?_,⟨?_,?_,?_⟩⟩
 .change(Px mask o (Ph mask) (Vb h % (mask+1)) (Vb h)).bind _=_;rw[free_eq,d];rfl
 .rw[Array.size_setIfInBounds];show O.size
 .have:=rn (f:=λm=>(o.getD m b6).map (m,·)) (f':=λm=>((o.setIfInBounds j (a5 hs.length)).getD m b6).map (m,·)) (a0:=j) (y:=(j,hs.length)) (by simp[H]) (by simp[b]) (ei (mask+1)) WO (ux.mpr ⋯) (λm _ ne=>by simp only[b,Yt ne]);show(this.map (·.2)).trans ?_;rw[l3,gc,mN,List.range_succ (n:=hs.length)];show(O.all.cons hs.length).trans (U4 _ _).symm
 .intro m k hk;rw[b]at hk;by_cases em:m=j
  .rw[Yr em]at hk;cases hk;subst em;show⟨h,by simp,i,a,e,λq v=>u q ?_⟩;have l:=D q v;have J:q<=mask:=mU (h:=h) (by change q∈cC _ _ _ _;rw[e];show JZ _ v);rw[c q J]at l;cases z:o.getD q b6 with
   |none=>rw[z]at l;simp at l
   |some _=>rfl
  .rw[Yt em]at hk;have⟨h',w,L⟩:=O.Ku m k hk;show⟨h',by rw[ve (hQ.mp w).1];show w,L.mono u⟩
def yj(mask:Nat):Own mask [] (Ra (mask+1) b6):=by
 have e:∀j,(Ra (mask+1) (b6:Option Nat)).getD j b6=b6:=λj=>by
  rw[Gw,Array.getElem?_replicate];split<;>rfl
 show⟨Array.size_replicate,?_,λj k h=>by rw[e]at h;cases h⟩;have:∀r:List Nat,(r.filterMap λj=>((Ra (mask+1) (b6:Option Nat)).getD j b6).map (j,·))=[]:=λr=>by
  rw[List.filterMap_eq_nil_iff];intro j _;rw[e];rfl
 rw[this];show .nil
theorem rp{mask:Nat}(g:Good mask):∀(hs done:List Int) (o:Array (Option Nat)),Own mask done o->done.length+hs.length<=mask+1->∃a,hs.foldl (AV mask) (a5 (o,done.length))=a5 (a,done.length+hs.length)/\Own mask (done++hs) a
 |[],done,o,O,_=>⟨o,rfl,by rw[w6];show O⟩
 |h::hs,done,o,O,hl=>by
  rw[lx]at hl;have⟨o1,d,e⟩:=O.step g ⋯ h;have⟨o2,b,c⟩:=rp g hs (done++[h]) o1 e (by rw[gc,mN];lia);rw[gc,mN]at b;show⟨o2,?_,by rw[WC]at c;show c⟩;rw[IL,d,b,lx];congr 2
  lia
theorem pS(g:Nat->Option Nat):∀r:List Nat,(r.filterMap λj=>(g j).map (j,·)).map (·.1)=r.filter λj=>(g j).isSome
 |[]=>rfl
 |a::r=>by
  cases q:g a with
  |none=>rw[JS (by rw[q];rfl),List.filter_cons_of_neg (by rw[q];simp)];show pS g r
  |some k=>rw[C0 (b:=(a,k)) (by rw[q];rfl),List.filter_cons_of_pos (by rw[q];rfl),l3,pS g r]
theorem oC(es:Array β):∀r:List (Nat×Nat),(∀q∈r,q.2<es.size)->∃c:List β,(r.map (·.2)).filterMap (es[·]?)=c/\c.length=r.length/\∀x∈(r.map (·.1)).zip c,∃q∈r,x.1=q.1/\es[q.2]?=a5 x.2
 |[],_=>⟨[],rfl,rfl,λx hx=>by cases hx⟩
 |q::r,h=>by
  have⟨c,e,l,z⟩:=oC es r λx hx=>h x (ek _ hx);have d:=h q gw;show⟨es[q.2]::c,?_,by rw[lx,l,lx],λx hx=>?_⟩
  .rw[l3,C0 (E_ d),e]
  .rw[l3,Nq]at hx;rcases fz.mp hx with rfl|hx
   .show⟨q,gw,rfl,E_ d⟩
   .have⟨p,a,b⟩:=z x hx;show⟨p,ek _ a,b⟩
def vn(es:Array β):(ei es.size).filterMap (es[·]?)=es.toList:=by
 have:∀l:List β,(ei l.length).filterMap (l[·]?)=l:=λl=>by
  induction l with
  |nil=>rfl
  |cons a l c =>
   rw[lx,NT,C0 (f:=λx=>(a::l)[x]?) (b:=a) rfl,Wg];congr 1
 have h:=this es.toList;rw[k9]at h;show h.symm▸(dI λi _=>by simp)
def vo{mask finger moves:Nat}{led plain:Bool}{es:Array (Int×d6)}(g:Good mask)(ho:mask % 2=1)(hl:es.size<=mask):∃t' e,VG mask finger moves led plain (es.map (·.1))=a5 (t',e)/\(e.filterMap (es[·]?)).toList.Perm es.toList/\Tab t' (e.filterMap (es[·]?))/\t'.mask=mask/\t'.led=led/\t'.plain=plain/\t'.moves=moves:=by
 have hs:(es.map (·.1)).toList.length=es.size:=by rw[k9,Array.size_map]
 have⟨o,w,O⟩:=rp g (es.map (·.1)).toList [] _ (yj mask) (by rw[hs];simp;lia);rw[FG]at O;have x:R3 mask (es.map (·.1))=a5 o:=by
  rw[oB,show((0:Nat)=([]:List Int).length) from rfl,w];rfl
 let d:=(ei (mask+1)).filterMap λj=>(o.getD j b6).map (j,·);have y:∀q∈d,q.2<es.size:=λq i=>by
  have:=O.all.mem_iff.mp (mh.mpr ⟨q,i,rfl⟩);rw[hs]at this;show ux.mp this
 have⟨A,r,B,C⟩:=oC es d y;have f:((d.map (·.2)).toArray.filterMap (es[·]?)).toList=A:=by
  rw[Array.toList_filterMap];show r
 have s:d.length=es.size:=by
  have:=O.all.length_eq;rw[eh,Lk,hs]at this;show this
 have l:d.map (·.1)=(ei (mask+1)).filter λj=>(o.getD j b6).isSome:=pS _ _;have t:((d.map (·.2)).toArray.filterMap (es[·]?)).size=es.size:=by rw[<-k9,f,B,s]
 show⟨{mask,place:=(d.map (·.1)).toArray,dummies:=#[],finger,led,moves,plain},(d.map (·.2)).toArray,?_,?_,⟨?_,rfl,?_,?_,?_,g,ho,?_⟩,rfl,rfl,rfl,rfl⟩
 .unfold VG;rw[x];rfl
 .rw[f,<-r];show(O.all.filterMap _).trans ?_;rw[hs,vn]
 .rw[t];change(d.map (·.1)).toArray.size=_;rw[js,eh,s]
 .change(d.map (·.1)).Pairwise (· < ·);rw[l];show XX List.filter_sublist List.pairwise_lt_range
 .change ∀j∈d.map (·.1),j<=mask;rw[l];intro j u;show Mk (ux.mp (Nl.mp u).1)
 .rw[t];show hl
 .intro q i;have i:q∈(d.map (·.1)).zip ((d.map (·.2)).toArray.filterMap (es[·]?)).toList:=i;rw[f]at i;have⟨p,a,b,c⟩:=C q i;have⟨j,u,ep⟩:=JC.mp a;have⟨k,D,G⟩:=et.mp ep;subst G;have⟨h,v,H⟩:=O.Ku j k D;have I:q.2.1=h:=by
   have:(es.map (·.1)).toList[k]?=a5 q.2.1:=by
    rw[Jp,Array.getElem?_map,c];rfl
   rw[this]at v;show wk v
  rw[I,b];show H.mono λm n=>?_;change m∈d.map (·.1);rw[l];show Nl.mpr ⟨ux.mpr ?_,n⟩;show Nat.lt_of_not_le λz=>?_;have:o.getD m b6=b6:=by
   rw[Gw,Array.getElem?_eq_none (by rw[O.size];show z)];rfl
  rw[this]at n;cases n
end Tb
namespace L2
open PySem PySem.Spec PyProof.Rows
section
def jl(hk:UH (PySem.strKind prog w) s.heap m a)(h:Q cb s):eH (ko prog w) A (Lo (n+1) (.ref a)) Q E s:=by
 have g:=hk.typeIs;obtain⟨o,c,p,ho,_,i,j⟩:=hk;unfold Lo;show bw (Mb g ?_)
 dsimp only
 show bw (cc ?_);simp only[Hd,mn,Yx];show bw (Oo ho i ?_);show bw ?_;change eH _ _ (XH c _ _) _ _ s;rw[<-LR];show Lh _ (λb r s'=>r.1=b6/\s'=s/\∀v∈b,Yd v=b7) _ ?_ ?_ _ _ ⟨rfl,rfl,j.byValue⟩
 .rintro v b r s' ⟨d,rfl,f⟩;have k:=f v gw;have e:Lo n v=pure cb:=by cases v<;>first|(unfold Lo;rfl)|show nomatch k
  rw[e];show bw (cc ?_);simp only[mn,Yx];show cc ⟨rfl,rfl,λu l=>f u (ek _ l)⟩
 .rintro⟨q,t⟩ s' ⟨d,rfl,_⟩;simp only at d;subst d;show cc h
def fO(hk:aq prog w s.heap k a)(h:Q cb s):eH (ko prog w) A (Lo 8 (.ref a)) Q E s:=by
 have f:=hk.typeIs;obtain⟨o,n,t,b,ho,_,g,i⟩:=hk;unfold Lo;show bw (Mb f ?_)
 dsimp only
 show bw (cc ?_);simp only[Hd,mn,Yx];show bw (Oo ho g ?_);show bw ?_;rw[<-LR];show Lh _ (λc r s'=>r.1=b6/\s'=s/\(c=[FI k.1 t,uk b]\/c=[uk b]\/c=[])) _ ?_ ?_ _ _ ⟨rfl,rfl,.inl rfl⟩
 .rintro v c r s' ⟨d,rfl,(e|e|e)⟩
  .cases e;rw[show Lo 7 (.str k.1 t)=pure cb from rfl];show bw (cc ?_);simp only[mn,Yx];show cc ⟨rfl,rfl,.inr (.inl (by first|rfl|trivial))⟩
  .cases e;show bw (jl i ?_);simp only[mn,Yx];show cc ⟨rfl,rfl,.inr (.inr (by first|rfl|trivial))⟩
  .cases e
 .rintro⟨j,l⟩ s' ⟨d,rfl,_⟩;simp only at d;subst d;show cc h
def k6(hk:aq prog w s.heap k a)(h:Q cb s):eH (ko prog w) A (WY 8 (.ref a)) Q E s:=by
 have d:=hk.typeIs;obtain⟨o,n,t,b,ho,_,f,i⟩:=hk;unfold WY;show bw (NA d PySem.F.slot_tuple_hash.lookup ?_)
 dsimp only
 show bw (Oo ho f ?_);show bw ?_;rw[<-LR];show Lh _ (λc r s'=>r.1=b6/\s'=s/\c=[FI k.1 t,uk b]) _ ?_ ?_ _ _ ⟨rfl,rfl,rfl⟩
 .rintro v c r s' ⟨g,rfl,e⟩;cases e;rw[show WY 7 (.str k.1 t)=pure cb from rfl];show bw (cc ?_);simp only[PN,YA];show cc (cc h)
 .rintro⟨j,l⟩ s' ⟨g,rfl,e⟩;cases e
def jU(hk:aq prog w s.heap k a)(i:∀y∈j,∃k' b,y=.ref b/\aq prog w s.heap k' b)(h:Q cb s):eH (ko prog w) A (UR (.ref a) j) Q E s:=by
 unfold UR;show bw ?_;show Lh _ (λc r s'=>r.1=b6/\s'=s/\∀y∈c,∃k' b,y=.ref b/\aq prog w s.heap k' b) _ ?_ ?_ _ _ ⟨rfl,rfl,i⟩
 .rintro v c r s' ⟨d,rfl,e⟩;have⟨k',b,rfl,f⟩:=e v gw;have g:∀u∈c,∃k' b,u=.ref b/\aq prog w s'.heap k' b:=λu l=>e u (ek _ l)
  dsimp only
  split
  .show cc ⟨rfl,rfl,g⟩
  .show bw (cR hk ?_);simp only[Hd,mn,Yx];show bw (cR f ?_);simp only[Hd,mn,Yx];show bw (fO hk ?_);simp only[mn,Yx];show bw (fO f ?_);simp only[mn,Yx];show cc ⟨rfl,rfl,g⟩
 .rintro⟨m,n⟩ s' ⟨d,rfl,_⟩;simp only at d;subst d;show cc h
end
@[irreducible] noncomputable def rH(prog:vu)(w:DD)(k:Str×List Str):Int:=gM prog w k
def C2(prog:vu)(w:DD)(k:Str×List Str):gM prog w k=rH prog w k:=by
 unfold rH;rfl
end L2
namespace L2
open PySem PySem.Spec PyProof.Rows Tb
section
abbrev pT(prog:vu)(w:DD)(p:(Str×List Str)×gs):Int×d6:=(rH prog w p.1,.ref p.2)
theorem i_{t:K6}(hs:t.place.toList.Pairwise (· < ·))(g:t.dummies=#[]):∀{l:List Nat},(∃j∈l,t.slot j=.empty)->∃c j b,l=c++j::b/\(∀m∈c,m∈t.place.toList)/\t.slot j=.empty
 |[],⟨_,h,_⟩=>by cases h
 |a::l,⟨j,n,d⟩=>by
  rcases rj hs g a with⟨k,i,f⟩|⟨k,f⟩
  .have o:j∈l:=by
    rcases fz.mp n with z|z
    .rw[z,f]at d;cases d
    .show z
   have⟨c,p,b,e,p1,p2⟩:=i_ hs g ⟨j,o,d⟩;show⟨a::c,p,b,by rw[e];rfl,λm hm=>by
    rcases fz.mp hm with rfl|hm
    .show k
    .show p1 m hm,p2⟩
  .show⟨[],a,l,rfl,(λm hm=>by cases hm),f⟩
abbrev N4(t:K6)(es:Array (Int×d6))(prog:vu)(w:DD)(h:IE)(k:Str×List Str)(l:List Nat):Prop:=∃m∈l,∃(i:Nat) (b:gs),t.place[i]?=a5 m/\es[i]?=a5 (rH prog w k,uk b)/\aq prog w h k b
def pU{L:List ((Str×List Str)×gs)}(hu:A.units+2<Ga)(ho:s.heap.get? a=a5 o)(hd:o.data=.set es ep t)(T:Tab t es)(F7:es.toList=L.map (pT prog w))(hL:∀p∈L,aq prog w s.heap p.1 p.2)(hk:aq prog w s.heap k x):
  ∀(n fuel f:Nat) (l:List Nat) (p:Uz) (Hi:Option Uz),l.length<=n->n<fuel->Hi.getD (t.probeStart (rH prog w k))=p->Pl t f p=l->l.length<=10 * Ph t.mask->p.dummy=b6->(∃j∈l,t.slot j=.empty) ->
   (∀d j c,l=d++j::c->(∀m∈d,m∈t.place.toList)->t.slot j=.empty->(N4 t es prog w s.heap k d->Q (.there b6) s)/\(¬N4 t es prog w s.heap k d->Q (.free j cb) s)) ->
   eH (ko prog w) A (setSearchFrom a (.ref x) (rH prog w k) b7 fuel Hi) Q E s:=by
 have N5:∀{i:Nat} {e:Int×d6},es[i]?=a5 e->∃k' b,e=(rH prog w k',.ref b)/\aq prog w s.heap k' b:=λ{i e} h=>by
  have:e∈es.toList:=by have⟨q,rfl⟩:=pa.mp h;simp
  rw[F7]at this;have⟨p,C,rfl⟩:=mh.mp this;show⟨p.1,p.2,rfl,hL p C⟩
 have live:∀{i j:Nat},t.slot j=.live i->∃e,es[i]?=a5 e:=λ{i j} h=>by
  obtain⟨q,_⟩:=pa.mp (jr h);rw[T.sz]at q;show⟨_,E_ q⟩
 intro n;induction n with
 |zero =>
  intro fuel f l p Hi hl hf EO C B PU ⟨j,hj,_⟩ _;have:l=[]:=OX ⋯;subst this;cases hj
 |succ n ih =>
  intro fuel f l p Hi hl hf EO C B PU PV H;cases fuel with
  |zero=>lia
  |succ fuel =>
   unfold setSearchFrom;show bw (wh ho hd T.fits ?_)
   dsimp only
   rw[T.CZ];simp only[mn,Yx]
   k_delta "storedHashAt"
   rw[EO];have⟨d,j,c,D,h1,h2⟩:=rm (hashAt:=λi=>((es[i]?).map (·.1)).getD 0) (h:=rH prog w k) l (10 * Ph t.mask) f p C B PU PV λm _=>T.yi m;have FU:∀m∈d,m∈t.place.toList:=λm g=>by
    obtain⟨i,hi,_⟩:=h1 m g;have⟨q,e⟩:=pa.mp (jr hi);rw[<-e];simp
   have PX:¬N4 t es prog w s.heap k d:=λFu=>by
    obtain⟨m,g,i,b,e1,G,_⟩:=Fu;have⟨i',hi,FX⟩:=h1 m g;rw[fy T.Hr e1]at hi;cases hi;rw[G,ON,We]at FX;show FX rfl
   rcases h2 with⟨v,h4⟩|⟨i,f',next,v,h4,h5,h6,h7⟩
   .have e:t.probe (λi=>((es[i]?).map (·.1)).getD 0) (rH prog w k) p=a5 (.empty j b6):=h4;rw[e]
    dsimp only
    show cc ((H d j c D FU v).2 PX)
   .have e:t.probe (λi=>((es[i]?).map (·.1)).getD 0) (rH prog w k) p=a5 (.candidate j i next):=h5;rw[e]
    dsimp only
    have⟨e0,I⟩:=live v;have⟨k',b,rfl,hb⟩:=N5 I;have Kv:j∈t.place.toList:=by
     have⟨q,e⟩:=pa.mp (jr v);rw[<-e];simp
    have JU:∃j∈c,t.slot j=.empty:=by
     have⟨j0,J,N⟩:=PV;rw[D]at J;rcases l'.mp J with z|z
     .obtain⟨i0,R5,_⟩:=h1 j0 z;rw[R5]at N;cases N
     .rcases fz.mp z with z|z
      .rw[z,v]at N;cases N
      .show⟨j0,z,N⟩
    have Lv:c≠[]:=by
     obtain⟨j0,J,_⟩:=JU;intro z;rw[z]at J;cases J
    have key:∀m:Sem SetFound,eH (ko prog w) A m Q E s->eH (ko prog w) A (if (!t.led)=b7 then(do
      let b <-UR (uk x) (Xe (λx=>x.snd) (Array.filter (λx=>x.fst==rH prog w k) es).toList)
      if b=b7 then do
       WV "set:the-search-would-show-the-table"
       m
      else m) else m) Q E s:=λm g=>by
     split
     .show bw (jU hk (λy hy=>?_) ?_)
      .have⟨e,O,rfl⟩:=mh.mp hy;have O:e∈es.toList:=by
        rw[Array.mem_toList_iff]at O ⊢;show(Array.mem_filter.mp O).1
       rw[F7]at O;have⟨p,C,rfl⟩:=mh.mp O;show⟨p.1,p.2,rfl,hL p C⟩
      .simp only[mn,Yx];show g
     .show g
    show key _ ?_;rw[I]
    dsimp only
    show bw (D1 (dG hu hb hk ?_));show bw (wh ho hd T.fits ?_)
    dsimp only
    by_cases Y:k'=k
    .rw[Yu Y];simp only[Vi,YA];have⟨JV,j2,HY,G,q1,q2⟩:=i_ T.Hr T.dm JU;show cc ((H (d++j::JV) j2 HY (by rw[D,G];simp) (λm g=>?_) q2).1 ⟨j,by simp,i,b,jr v,by rw[<-Y];show I,Y▸hb⟩);rcases l'.mp g with z|z
     .show FU m z
     .rcases fz.mp z with rfl|z
      .show Kv
      .show q1 m z
    .rw[Ys Y];have R6:t.sameMemory t.moves t.mask=a5 b7:=by simp[SetTable.sameMemory]
     simp only[LB,mn,Yx,R6,YA,v,I];show bw (wpAny_isSame_ref_self ?_);show bw (cc ?_);simp only[YA];have R7:c.length<=n:=by
      have:=Yy KX D;rw[gc,lx]at this;lia
     show ih fuel f' c next (a5 next) R7 ⋯ rfl (h7 Lv) (by
      have:=Yy KX D;rw[gc,lx]at this;lia) h6 JU λJV j2 HY G q1 q2=>?_
     have hH:=H (d++j::JV) j2 HY (by rw[D,G];simp) (λm g=>by
      rcases l'.mp g with z|z
      .show FU m z
      .rcases fz.mp z with rfl|z
       .show Kv
       .show q1 m z) q2
     show⟨λz=>hH.1 ?_,λz=>hH.2 λ⟨m,g,i2,b2,a1,u,a3⟩=>?_⟩
     .have⟨m,g,r⟩:=z;show⟨m,ti _ (ek _ g),r⟩
     .rcases l'.mp g with q|q
      .show PX ⟨m,q,i2,b2,a1,u,a3⟩
      .rcases fz.mp q with rfl|q
       .rw[fy T.Hr a1]at v;cases v;rw[I]at u;injection u with u
        injection u with _ u
        injection u with u
        subst u;show Y (hb.inj a3)
       .show z ⟨m,q,i2,b2,a1,u,a3⟩
end
def aq.up(x:aq prog w h k a)(d:∀b o,h.get? b=a5 o->h'.get? b=a5 o):aq prog w h' k a:=by
 have⟨e,n,t,b,f,g,i,o2,j,l,m,p,c,q⟩:=x;show⟨e,n,t,b,d _ _ f,g,i,o2,j,l,d _ _ m,p,c,q⟩
theorem oD(f:α->β):∀(L:List α) {l:List β},l.Perm (L.map f)->∃b:List α,l=b.map f/\b.Perm L
 |[],l,h=>⟨[],h.eq_nil,.nil⟩
 |a::L,l,h=>by
  have g:f a∈l:=h.mem_iff.mpr gw;have⟨c,d,rfl⟩:=List.append_of_mem g;have i:(c++d).Perm (L.map f):=((UA.symm.trans h):(f a::(c++d)).Perm (f a::L.map f)).cons_inv;have⟨b,e,p⟩:=oD f L i;have⟨M1,M2,rfl,j,k⟩:=List.map_eq_append_iff.mp e.symm;show⟨M1++a::M2,by rw[w4,l3,j,k],UA.trans (p.cons a)⟩
theorem oE{P:Nat->Prop}:∀{i c k f:List Nat},i++m::k=c++j::f->(∀x∈i,P x)->P m->¬P j->m∈c
 |[],[],_,_,e,_,g,d=>by injection e with e;show absurd (e▸g) d
 |[],b::c,_,_,e,_,g,d=>by injection e with e;rw[e];show gw
 |a::i,[],_,_,e,h,g,d=>by injection e with e;show absurd (e▸h a gw) d
 |a::i,b::c,_,_,e,h,g,d=>by
  injection e with _ e
  show ek _ (oE e (λx l=>h x (ek _ l)) g d)
abbrev My(m:Nat):Prop:=m=7\/m=31\/m=127
def My.good(h:My m):Good m/\m % 2=1:=by
 rcases h with rfl|rfl|rfl
 .show⟨zG,rfl⟩
 .show⟨AS,rfl⟩
 .show⟨ye,rfl⟩
abbrev f_(P:vu)(w:DD)(b h:IE)(a:gs)(led:Bool)(D:List (Str×List Str)):Prop :=
 ∃(L:List ((Str×List Str)×gs)) (es:Array (Int×d6)) (ep:Nat) (t:K6),h.get? a=a5 {cls:=.type "set",dict:=b6,data:=.set es ep t}/\es.toList=L.map (pT P w) /\
  (L.map (·.1)).Perm D/\D.Nodup/\(∀p∈L,aq P w b p.1 p.2)/\Tab t es/\t.tooFull=cb/\My t.mask/\t.led=led
section
theorem pV(hS:f_ prog w h0 s.heap a led D)(up:∀b o,h0.get? b=a5 o->s.heap.get? b=a5 o)(GJ:D.length<64)(hu:A.units+2<Ga)(Mz:aq prog w h0 k x)
    (h:∀h',H8 a s.heap h'->f_ prog w h0 h' a led (if k∈D then D else D++[k])->Q (c4 (k∉D)) {s with heap:=h' }) :
    eH (ko prog w) A (UQ a (.ref x) (rH prog w k)) Q E s:=by
  obtain⟨L,es,ep,t,ho,F7,EZ,E2,N6,T,Lx,JW,Ge⟩:=hS;have hL:∀p∈L,aq prog w s.heap p.1 p.2:=λp hp=>(N6 p hp).up up;have hk:=Mz.up up;have hlen:es.size=D.length:=by rw[<-k9,F7,eh,<-eh (f:=U3) (as:=L),EZ.length_eq]
  unfold UQ X8;refine D1 (bw (wh ho rfl T.fits ?_))
  dsimp only
  rw[show byScan (.ref x) es=cb from rfl];simp only[mn,Yx];unfold setSearch;have FJ:=vd t.mask (rH prog w k);have TQ:t.mask<=127:=by rcases JW with e|e|e<;>lia
  refine bw (pU hu ho rfl T F7 hL hk (path t.mask (rH prog w k)).length 100000 (t.mask+14) (path t.mask (rH prog w k)) (t.probeStart (rH prog w k)) b6 (ke _) ?_ rfl yg FJ rfl (T.free _) λpre j post e1 FU hj=>⟨λGg=>?_,λGg=>?_⟩)
  · unfold Ph at FJ
    lia
  · dsimp only
    have Kw:k∈D:=by
      obtain⟨m,_,i,b,_,e2,e3⟩:=Gg;have:(rH prog w k,uk b)∈es.toList:=by obtain⟨q,z⟩:=pa.mp e2;rw[<-z];simp
      rw[F7]at this;obtain⟨p,hp,z⟩:=mh.mp this;injection z with _ z
      injection z with z
      have:=hL p hp;rw[z]at this;rw[e3.inj this];exact EZ.mem_iff.mp (mh.mpr ⟨p,hp,rfl⟩)
    have:=h s.heap (RQ a s.heap) (by rw[Yr Kw];exact⟨L,es,ep,t,ho,F7,EZ,E2,N6,T,Lx,JW,Ge⟩);rw[Ys (λz=>z Kw)]at this;exact cc this
  · have Mx:j∉t.place.toList:=λz=>by
      obtain⟨i,hi,e⟩:=Lj.mp z;rw[fy T.Hr (i:=i) (pa.mpr ⟨by simpa using hi,by simpa using e⟩)]at hj;cases hj
    have Kw:k∉D:=λz=>by
      obtain⟨p,hp,e⟩:=mh.mp (EZ.mem_iff.mpr z);subst e;have R8:pT prog w p∈es.toList:=by rw[F7];exact mh.mpr ⟨p,hp,rfl⟩
      obtain⟨i,hi,e⟩:=Lj.mp R8;have Gf:i<es.size:=by simpa using hi
      have R9:i<t.place.size:=by rw[T.sz];exact Gf
      have hz:(t.place[i],pT prog w p)∈t.place.toList.zip es.toList:=by
        refine Lj.mpr ⟨i,by simp;lia,?_⟩;rw[List.getElem_zip];exact QN (by simp) e
      obtain⟨Hs,HZ,f1,f2⟩:=T.Ku _ hz;have f1:path t.mask (rH prog w p.1)=Hs++t.place[i]::HZ:=f1;have hm:=oE (P:=(·∈t.place.toList)) (f1.symm.trans e1) f2 (by simp) Mx;exact Gg ⟨_,hm,i,p.2,E_ R9,pa.mpr ⟨Gf,(by simpa using e:es[i]=pT prog w p)⟩,hL p hp⟩
    have Kv:j<=t.mask:=mU (h:=rH prog w k) (by rw[e1];simp)
    dsimp only
    refine bw (wh ho rfl T.fits ?_)
    dsimp only
    rw[AU T.dm]
    dsimp only
    have R_:es.size * 5<t.mask * 3:=by
      unfold TN at Lx;rw[T.fill]at Lx;simpa using Lx
    have Gk:es.size+1<=t.mask:=by rcases JW with e|e|e<;>lia
    have hb:ro t.place j<=es.size:=by rw[<-T.sz];exact(f9 (j:=j) T.Hr).1
    have T1:=T.put (v:=.ref x) (h:=rH prog w k) ⟨pre,post,e1,FU⟩ Mx Kv Gk;have Fo:=dt es (ro t.place j) (rH prog w k,uk x) hb;have eL:(Jv es (ro t.place j) (rH prog w k,uk x)).toList=(L.take (ro t.place j)++(k,x)::L.drop (ro t.place j)).map (pT prog w):=by
      rw[Fo,F7,w4,l3,Xr,Xs];rfl
    have pL:(L.take (ro t.place j)++(k,x)::L.drop (ro t.place j)).Perm (L++[(k,x)]):=UA.trans (by rw[RS];exact(U4 _ _).symm);generalize hE:Jv es (ro t.place j) (rH prog w k,uk x)=EL at T1 eL;generalize hM:L.take (ro t.place j)++(k,x)::L.drop (ro t.place j)=L' at pL eL;have Sa:EL.size=D.length+1:=by rw[<-k9,eL,eh,pL.length_eq,gc,<-eh (f:=U3) (as:=L),EZ.length_eq];rfl
    have Jq:(L'.map (·.1)).Perm (D++[k]):=(pL.map _).trans (by rw[w4];exact EZ.append_right _);have PY:(D++[k]).Nodup:=by
      rw[GR]
      exact ⟨E2, by simp, fun y hy z hz => by have : z = k := by simpa using hz
                                              subst this;rintro rfl;exact Kw hy⟩
    have PZ:∀p∈L',aq prog w h0 p.1 p.2:=λp hp=>by
      rcases l'.mp (pL.mem_iff.mp hp) with z|z
      · exact N6 p z
      · rw[rr.mp z];exact Mz
    have HP:∀h',H8 a s.heap h'->f_ prog w h0 h' a led (D++[k])->Q b7 {s with heap:=h' }:=λh' sb hs=>by
      have:=h h' sb (by rw[Yt Kw];exact hs);rw[Yu Kw]at this;exact this
    have tail:∀(b:Bool) (t2:K6),t2={t with place:=Jv t.place (ro t.place j) j,plain:=b}->eH (ko prog w) A (do
        storeSet a EL t2
        if (!false&&t2.tooFull)=true then do
            setRelay a (SetTable.grown (es.size+1))
            pure true
          else pure b7) Q E s:=by
      intro b t2 N7;have T2:Tab t2 EL:=by rw[N7];exact T1.plain b
      have P0:t2.mask=t.mask:=by rw[N7]
      have P1:t2.led=led:=by rw[N7];exact Ge
      refine bw (QU ho rfl ?_ (Q3 (by show EL.size<4096;lia)));have Ip:(s.heap.update a (Kl EL t2)).get? a=a5 {cls:=.type "set",dict:=b6,data:=.set EL (ep+1) t2}:=by
        have:=F6 (Kl EL t2) ho rfl;exact this
      have HR:=JJ s.heap a (Kl EL t2);have Ly:t2.tooFull=c4 (EL.size * 5 >= t.mask * 3):=by
        unfold TN;rw[T2.fill,P0]
      split
      · rename_i hc
        rw[PN,OK,Ly,Yq]at hc;have Lz:∃m',R4 (Nn (es.size+1))=m'+1/\My m'/\EL.size * 5<m' * 3:=by
          rw[hlen];rcases JW with e|e|e
          · have:D.length=4:=by lia
            rw[this];exact⟨31,by decide +kernel,.inr (.inl rfl),by lia⟩
          · have:D.length=18:=by lia
            rw[this];exact⟨127,by decide +kernel,.inr (.inr rfl),by lia⟩
          · lia
        obtain⟨m',em,LA,Fg⟩:=Lz;unfold setRelay;refine bw (bw (wh Ip rfl T2.fits ?_))
        dsimp only
        rw [em, if_neg (by have : sizeLine = 16777216 := by decide
                           rcases LA with z|z|z<;>lia)]
        unfold Um;rw[em,Nat.add_sub_cancel];obtain⟨t3,order,r1,r2,r3,r4,r5,r6,r7⟩:=vo (mask:=m') (finger:=t2.finger) (moves:=t2.movedTo m') (led:=t2.led) (plain:=t2.plain) (es:=EL) LA.good.1 LA.good.2 (by rcases LA with z|z|z<;>lia);rw[r1]
        k_delta "reordered"
        dsimp only
        generalize hO:order.filterMap (EL[·]?)=JX at r2 r3;have P2:JX.size=EL.size:=by rw[<-k9,r2.length_eq,k9]
        rw[Yt (by simp[P2])];refine bw (cc ?_)
        dsimp only
        refine QU Ip rfl ?_ (Q3 (by show JX.size<4096;lia));have IK:((s.heap.update a (Kl EL t2)).update a (Kl JX t3)).get? a=a5 {cls:=.type "set",dict:=b6,data:=.set JX (ep+1+1) t3}:=F6 (Kl JX t3) Ip rfl;have N8:=JJ (s.heap.update a (Kl EL t2)) a (Kl JX t3);rw[eL]at r2;obtain⟨L3,e3,p3⟩:=oD (pT prog w) L' r2;refine cc (HP _ (HR.trans N8) ⟨L3,JX,_,t3,IK,e3,(p3.map _).trans Jq,PY,λp hp=>PZ p (p3.mem_iff.mp hp),r3,?_,by rw[r4];exact LA,by rw[r5];exact P1⟩);unfold TN;rw[r3.fill,r4,P2];exact Ys ⋯
      · rename_i hc
        rw[PN,OK]at hc;exact cc (HP _ HR ⟨L',EL,_,t2,Ip,eL,Jq,PY,PZ,T2,WD.mpr hc,by rw[P0];exact JW,P1⟩)
    by_cases hp:t.plain=b7
    · rw[Yr hp]
      refine bw (k6 hk ?_);simp only[mn,Yx];exact tail cb _ rfl
    · rw[Yt hp]
      refine bw (cc ?_);simp only[YA];exact tail t.plain _ rfl
end
abbrev eV(D:List cu)(x:cu):List cu:=if x∈D then D else D++[x]
abbrev bj(l:List cu):List cu:=l.foldl eV []
def oF(l:List cu)(x:cu):bj (l++[x])=eV (bj l) x:=by unfold bj;rw[WA];rfl
theorem jV:∀(l D:List cu),(l.foldl eV D).length<=D.length+l.length
 |[],D=>ke _
 |x::l,D=>by
  have:=jV l (eV D x);have:(eV D x).length<=D.length+1:=by
   unfold eV;split
   .lia
   .simp
  rw[IL,lx];lia
section
variable{prog:vu}{w:DD}{A:Ke}{R:Yl->fx->Prop}{I:gs}{fp wr:List gs}{G:Array VH->Array VH->Prop}{n:Nat}{P:Nat->d6->Prop}{St:Nat->fx->Prop}
def iw(W:Yh prog w A.in1 I fp wr G n P St)(S:gs)(y:S∉fp)(led:Bool)(a:IE)(B:∀b∈S::wr,a.get? b=b6)(O:A.in1.units+2<Ga)
  (ws:List (cu×gs)) (hn:ws.length=n) (Q:∀i v,P i v->∃q,ws[i]?=a5 q/\v=.ref q.2) (T:∀q∈ws,aq prog w a q.1 q.2) (d:n<=64) :
  ∀(k i:Nat) (s:fx),n - i=k->i<=n->St i s->f_ prog w a s.heap S led (bj ((ws.take i).map (·.1)))->(∀b o,a.get? b=a5 o->s.heap.get? b=a5 o) ->
   (∀s',Moved (S::wr) G s s'->f_ prog w a s'.heap S led (bj (ws.map (·.1)))->R (.ok (.ret .none)) s') ->
   Ov (ko prog w) A (.builtin "set.update.loop" ⟨[.ref S,.ref I],[]⟩) R s:=by
 have C:S∉wr:=λh=>y (W.sub _ h);have l:∀b∈wr,b∈S::wr:=λb d=>ek _ d;intro k;induction k with
 |zero =>
  intro i s hk Y m j D p;have Gg:i=n:=by lia
  subst Gg;show HB JB ?_;rw[JP zy _];change eH _ A.in1 (PQ (.ref I) >>= _) _ _ s;show bw (W.done s _ _ m λs' f=>?_);change eH _ A.in1 (ret Fq) _ _ s';rw[KS ⋯]at j;show cc (p s' (f.mono l) (by
   have⟨L,es,ep,t,ho,c⟩:=j;show⟨L,es,ep,t,f.heap S _ C ho,c⟩))
 |succ k ih =>
  intro i s hk Y m j D p;have H:i<n:=by lia
  show HB JB ?_;rw[JP zy _];change eH _ A.in1 (PQ (.ref I) >>= _) _ _ s;show bw (W.item i s _ _ H m λv s' hP JM f=>?_);obtain⟨⟨x,g⟩,J,rfl⟩:=Q i v hP;have Gy:f_ prog w a s'.heap S led (bj ((ws.take i).map (·.1))):=by
   have⟨L,es,ep,tb,ho,c⟩:=j;show⟨L,es,ep,tb,f.heap S _ C ho,c⟩
  have r:∀b o,a.get? b=a5 o->s'.heap.get? b=a5 o:=λb o e=>f.heap b o (λz=>by rw[B b (l b z)]at e;cases e) (D b o e);have N:aq prog w a x g:=T (x,g) (Hb J);change eH _ A.in1 (Ou [uk g] (X9 S (.ref g)) >>= _) _ _ s';show bw (D1 ?_);unfold X9;show D1 ?_;show bw (dF ⋯ (N.up r) ?_);have GJ:(bj ((ws.take i).map (·.1))).length<64:=by have:=jV ((ws.take i).map (·.1)) [];rw[eh,tj,Nm,Pn]at this;unfold bj;lia
  rw[C2];show pV (s:={s' with toks:=s'.toks+(x.2.length+3)}) Gy r GJ O N λh' u Kq=>?_;have NS:f_ prog w a h' S led (bj ((ws.take (i+1)).map (·.1))):=by
   rw[Wz,J];change f_ prog w a h' S led (bj ((ws.take i++[(x,g)]).map (·.1)));rw[w4];change f_ prog w a h' S led (bj ((ws.take i).map (·.1)++[x]));rw[oF];show Kq
  show cc ⟨Rx zy _,ih (i+1) _ ⋯ H (W.frame _ s' _ _ JM (W6 _ _) λb d o e=>?_) NS (λb o e=>?_) λGF JN JO=>?_⟩
  .rw[u.2 b (λh:b=S=>y (by rw[<-h];show d))];show e
  .change h'.get? b=a5 o;rw[u.2 b (λh:b=S=>by rw[h,B S gw]at e;cases e)];show r b o e
  .show p GF (XF W.gtrans ((f.mono l).then_heap (W6 _ _) λb o d e=>?_) JN) JO;rw[u.2 b (λh:b=S=>d (by rw[h];show gw))];show e
end
section
def pW(b:h.get? a=a5 {cls:=.type "set",dict:=b6,data:=.set #[] 0 (.fresh 0 0 led)}):f_ prog w f h a led [] :=
 ⟨[],#[],0,_,b,rfl,.nil,Sd,(λp c=>by cases c),⟨rfl,rfl,.nil,(λj d=>by cases d),uv _,zG,(show(7:Nat) % 2=1 from rfl),λq e=>by cases e⟩,rfl,.inl rfl,rfl⟩
def k7{ws:List (cu×gs)}
  (L:s.TypeIs (.ref l) T) (NU:LS (.type T) (.type "set")=pure cb) (NV:LS (.type T) (.type "frozenset")=pure cb) (FX:(G2 T==G2 "dict")=cb)
  (j:ws.length<=64) (hu:A.units+20<Ga) (N:∀q∈ws,aq prog w s.heap q.1 q.2)
  (k:∀(s1:fx) (B:Ke) (Q':d6->fx->Prop),B.handled=A.handled->(∀b o,s.heap.get? b=a5 o->s1.heap.get? b=a5 o)->s.heap.objs.size<s1.heap.objs.size ->
   (∀I m n G P St a,Yh prog w B.in1 I m n G ws.length P St->(∀g g',G g g'->g'=g)->s.heap.objs.size∉m->(∀b∈n,s.heap.objs.size<b)->(∀i v,P i v->∃q,ws[i]?=a5 q/\v=.ref q.2)->St 0 {s1 with heap:=a}->(∀b o,s1.heap.get? b=a5 o->a.get? b=a5 o)->Q' (.ref I) {s1 with heap:=a})->eH (ko prog w) B (Ua (.ref l)) Q' E s1)
  (h:∀(h':IE) (d:Nat),f_ prog w s.heap h' s.heap.objs.size (ba w) (bj (ws.map (·.1)))->(∀b o,b<s.heap.objs.size->s.heap.get? b=a5 o->h'.get? b=a5 o)->Q (.ref s.heap.objs.size) {s with heap:=h',toks:=d}) :
  eH (ko prog w) A (Nk (.type "set") [.ref l]) Q E s:=by
 have⟨c,tl,NW⟩:=PySem.F.called_set.mro;have GK:=PySem.F.called_set.made;have Gn:=PySem.F.called_set.sub;show UD (Vm ?_);change eH _ _ (callAny (.type "set") _) _ _ _;show cc ⟨Py _ (by decide +kernel),HB PySem.F.entry_type_call ?_⟩;rw[VR (WE "set" [.ref l] []) rfl];have a:=PySem.F.called_set.notType;have h2:=PySem.F.called_set.canCreate;have RM:=PySem.F.typeCall_set_1 (.ref l)
 repeat (any_goals (first|assumption|wp_step))
 show Mc (fM (.ref l) (E:=E) (Q₁:=λobj y=>obj=.ref s.heap.objs.size/\y={s with heap:=s.heap.push (gS (ba w))}) ⟨rfl,rfl⟩) λr y p=>?_;cases r with
 |error e=>show p
 |ok O =>
  cases O with
  |ret obj =>
   have⟨rfl,rfl⟩:=p;have C:(s.heap.push (gS (ba w))).get? s.heap.objs.size=a5 (gS (ba w)):=hY _ rfl;have Y:M' {s with heap:=s.heap.push (gS (ba w))} (.ref s.heap.objs.size) "set":=⟨_,C,rfl⟩
   have RN:=PySem.F.called_set.init.lookup;have RO:=PySem.F.called_set.init.bind (.ref s.heap.objs.size)
   repeat (any_goals (first|assumption|wp_step))
   show Mc (Pe (R:=wants (λr D=>r=.none/\∃h' d,D={s with heap:=h',toks:=d} /\
     f_ prog w s.heap h' s.heap.objs.size (ba w) (bj (ws.map (·.1))) /\
     (∀b o,b<s.heap.objs.size->s.heap.get? b=a5 o->h'.get? b=a5 o)) E) PySem.F.called_set.init.plain PySem.F.entry_set_init (XO Y ?_)) λr₂ D t=>?_
   .have⟨ol,NX,H⟩:=L;have⟨NY,HS,HU,G6⟩:=ol;simp only at H;subst H;have JQ:(s.heap.push (gS (ba w))).get? l=a5 {cls:=.type T,dict:=HS,data:=HU,slots:=G6}:=dV _ NX;have RP:M' {s with heap:=s.heap.push (gS (ba w))} (.ref l) T:=⟨_,JQ,rfl⟩
    unfold NO.«set.__init__» noKeywords RB;generalize NZ:Ua=PI
    wp_walk
    subst NZ;show k {s with heap:=s.heap.push (gS (ba w))} _ _ rfl (λb o e=>dV _ e) (by rw[Na];show OJ _) λI m n G P St a W hG hf J G5 EO hk=>?_;show bw (T5 ?_);show iw W s.heap.objs.size hf (ba w) s.heap (λb j=>?_) ?_ ws rfl G5 N j (ws.length - 0) 0 _ ⋯ (uv _) EO (pW (hk _ _ C)) (λb o e=>hk _ _ (dV _ e)) ?_
    .have Sb:s.heap.objs.size<=b:=by
      rcases fz.mp j with z|z
      .show Uw z.symm
      .show JY (J b z)
     cases q:s.heap.get? b with
     |none=>rfl
     |some o=>show absurd (lg q) (Nat.not_lt_of_le Sb)
    .first|(change A.units+1+1+1+2<Ga;lia)|(change A.units+3+2<Ga;lia)
    intro s' f u;have⟨h',g',d',N0,K5⟩:=s';have eg:g'=s.gens:=hG _ _ f.gens;have ed:d'=s.drawn:=f.drawn;have eo:K5=s.os:=f.os;subst eg;subst ed;subst eo;change eH _ _ _ _ _ _;show cc ?_;change eH _ _ (ret Fq) _ _ _;show cc ⟨rfl,h',N0,rfl,u,λb o x e=>?_⟩;show f.heap b o (λz=>by
     rcases fz.mp z with z|z
     .rw[z]at x;show H4 _ x
     .show absurd (J b z) (W5 x)) (hk _ _ (dV _ e))
   .cases r₂ with
    |error e=>show t
    |ok N1 =>
     cases N1 with
     |ret r =>
      have⟨rfl,h',d,rfl,u,Fv⟩:=t
      repeat (any_goals (first|assumption|wp_step))
      show h _ _ u Fv
     |_=>show t.elim
  |_=>show p.elim
def jW{ws:List (cu×gs)}(hh:A.handled=b6)(hl:s.heap.IsList l (ws.map λq=>uk q.2).toArray)(d:ws.length<=64)(j:A.units+20<Ga)(k:∀q∈ws,aq prog w s.heap q.1 q.2)
  (h:∀(h':IE) (m:Nat),f_ prog w s.heap h' s.heap.objs.size (ba w) (bj (ws.map (·.1)))->(∀b o,b<s.heap.objs.size->s.heap.get? b=a5 o->h'.get? b=a5 o)->Q (.ref s.heap.objs.size) {s with heap:=h',toks:=m}) :
  eH (ko prog w) A (Nk (.type "set") [.ref l]) Q E s:=by
 have g:l<s.heap.objs.size:=let ⟨o,ho,_⟩:=hl;lg ho;show k7 hl.typeIs PySem.F.sub_list_set PySem.F.sub_list_frozenset (by decide) d j k (λs1 B Q' n hk f p=>?_) h;have G4:s1.heap.IsList l (ws.map λq=>uk q.2).toArray:=let ⟨o,ho,r⟩:=hl;⟨o,hk _ _ ho,r⟩;show QV G4 ?_;have t:l≠s1.heap.objs.size:=nC (RC g f);have W:=(V3 (prog:=prog) (w:=w) (A:=B.in1) (by simp[n,hh]) s1.heap.objs.size l t (ws.map λq=>uk q.2).toArray).toS;have u:(ws.map λq=>uk q.2).toArray.size=ws.length:=by simp
 rw[u]at W;show p _ _ _ _ _ _ _ W (λ_ _ e=>e) (mP (nC f) (KW g)) (λb d=>by rw[rr.mp d];show f) (λi v c=>by
  have c:(ws.map λq=>uk q.2).toArray[i]?=a5 v:=c;rw[List.getElem?_toArray,nt,et]at c;have⟨q,a,b⟩:=c;show⟨q,a,b.symm⟩) ⟨⟨_,hY _ rfl,rfl,rfl⟩,G4.push _⟩ λb o e=>dV _ e
end
section
theorem lA:∀{ws:List (cu×gs)}{a:List d6},Vals (ws.map λq=>V.ref q.2) a->a=ws.map λq=>uk q.2
 |[],_,.nil=>rfl
 |q::ws,_,.cons r t=>by
  cases r;rw[lA t];rfl
def oG{ws:List (cu×gs)}(d:X.calm=b7)(m:X.A.units+60<Ga)(I:Inv X pins σ H s)(c:Fm X.K H p (ws.map λq=>V.ref q.2))(f:∀q∈ws,dH X.K H (.ref q.2) q.1)(g:ws.length<=64)
  (h:∀(S:gs) (h':IE) (a:Nat),f_ X.prog X.w s.heap h' S (ba X.w) (bj (ws.map (·.1)))->Inv X pins σ H {s with heap:=h',toks:=a}->Q (.ref S) {s with heap:=h',toks:=a}) :
  eH (ko X.prog X.w) X.A (Nk (.type "set") [.ref p]) Q X.xe s:=by
 have hh:X.A.handled=b6:=I.ok.hd d;have⟨n,i,j,hz⟩:=I.list c;obtain rfl:=lA i;show jW hh j.isList g ⋯ (λq c=>gP I (f q c)) λh' a l k=>h _ h' a l (I.kept λb o e=>k b o (lg e) e)
def oH(I:Inv X pins σ H s)(b:f_ X.prog X.w h s.heap S (ba X.w) D)
  (q:Q (.int D.length) H):eH (ko X.prog X.w) X.A (Nk (.builtin "len") [.ref S]) (EP X pins σ Q) X.xe s:=by
 have⟨L,es,ep,t,ho,c,d,i,j,T,k,g,l⟩:=b;have a:es.size=D.length:=by rw[<-k9,c,eh,<-eh (f:=U3) (as:=L),d.length_eq]
 have m:es.size<4096:=by have:=T.Im;rcases g with e|e|e<;>lia
 show call_len_set ho ⟨rfl,rfl,rfl⟩ rfl T.fits ⋯ ?_;show⟨.int es.size,_,I.kept (t':=s.toks+1+1) (λ_ _ e=>e),⟨_,rfl⟩,by rw[a];show q⟩
end
end L2
namespace L2
open PySem PySem.Spec PyProof.Rows
section
end
end L2
namespace L2
open PySem PySem.Spec PyProof.Rows PySem.SeqAt
open PySem.AutoSeq1 (wpAny_loadPart')
open PySem.MeetsSeq PySem.MeetsSeq2 PySem.MeetsSeq3
section
def vp(xs:Array d6):((ei xs.size).filterMap λ(m:Nat)=>xs[((xs.size:Int) - 1+(m:Int) * -1).toNat]?).toArray=xs.toList.reverse.toArray:=by
 congr 1
 apply WB;intro i;have e:(ei xs.size).filterMap (λ(m:Nat)=>xs[((xs.size:Int) - 1+(m:Int) * -1).toNat]?)=(ei xs.size).map λm=>xs.toList.reverse.getD m .none:=by
  have:∀l:List Nat,(∀m∈l,m<xs.size)->l.filterMap (λ(m:Nat)=>xs[((xs.size:Int) - 1+(m:Int) * -1).toNat]?)=l.map λm=>xs.toList.reverse.getD m .none:=λl hl=>by
   induction l with
   |nil=>rfl
   |cons a l d =>
    have f:=hl a (by simp);have g:((xs.size:Int) - 1+(a:Int) * -1).toNat=xs.size - 1 - a:=by lia
    have h:xs[xs.size - 1 - a]?=a5 (xs.toList.reverse.getD a .none):=by
     rw[PM,List.getElem?_reverse (by simpa using f),k9,Jp,E_ (show xs.size - 1 - a<xs.size by lia)];rfl
    rw[HJ,g,h,l3,d λm b=>hl m (by simp[b])]
  show this _ λm b=>ux.mp b
 rw[e,nt];by_cases c:i<xs.size
 .rw[Tn c,ON,PM,z8 (by simpa using c)];rfl
 .rw[R0 (by simp;lia),R0 (by simp;lia)];rfl
def gW(b:Wd s.heap t a)(hs:s.heap.IsSliceOf f .none .none (.int (-1) g))
  (h:Q (.ref s.heap.objs.size) {s with heap:=s.heap.push {cls:=.type "tuple",data:=.seq a.toList.reverse.toArray}}) (hsz:a.size<=df):eH (ko prog w) A (Sl (.ref t) (.ref f)) Q E s:=by
 have c:sizeOk (.seq a.toList.reverse.toArray):=by
  change a.toList.reverse.toArray.size<=df;rw[js,Tg,k9];show hsz
 have⟨os,d,i,e⟩:=id hs;have j:s.TypeIs (.ref f) "slice":=⟨os,d,i⟩
 unfold Sl
 try with_reducible show D1 ?_
 first|show bw (cc ?_)|skip
 show bw (UN b.typeIs (by decide) ?_);show bw (Ob (name:=RA "__getitem__") b.typeIs tx
  (J7 tx b.typeIs Uv ?_ (UJ _ _)))
 change eH _ _ (LG (.ref t) >>= _) _ _ s;show bw (V8 b ?_);show bw (Mb j ?_);rw[Yr (by decide)];show bw ?_;unfold Od TV;show bw (bw (Q1 d e (x:=.none) rfl (bw (Q1 d e (x:=.none) rfl (bw (Q1 d e (x:=.int (-1) g) rfl (cc ?_)))))));show bw (slicePart_int ?_);change eH _ _ (if ((-1:Int)==0)=b7 then _ else _) _ _ s;rw[Yt (by decide)];show bw (Uj (bw (Uj (bw (cc ?_)))));have k:GV ((a.size:Int) - 1) (-1) (-1)=a.size:=by
  unfold GV;simp only[show ¬((-1:Int)>0) by lia,Yx,show(- (-1:Int))=1 from rfl,XZ];split<;>lia
 change eH _ _ (pure ((a.size:Int) - 1,(-1:Int),GV ((a.size:Int) - 1) (-1) (-1))) _ _ s;rw[k];show cc ?_;change eH _ _ (if ((a.size:Int) - 1==0&&(-1:Int)==1&&a.size==a.size)=b7 then _ else _) _ _ s;rw[Yt (by simp),vp]
 first
  |show bw (m:=EY _) (vr (cc ⟨_,rfl,cc h⟩) c)
  |show bw (m:=EY _) (vr (bw (cc (cc ⟨_,rfl,cc h⟩))) c)
  |show bw (bw (m:=EY _) (vr (cc (cc ⟨_,rfl,cc h⟩)) c))
  |show bw (bw (m:=EY _) (vr (cc ⟨_,rfl,cc h⟩) c))
end
section
abbrev Eu(K:PySem.W.Frag)(te:TE):TE:=λσ H Q=>te σ H λx b=>∃a xs,x=.ref a/\Fe K b a xs/\∀p,b p=b6->Q (.ref p) (upd b p (.tup xs.reverse))
def vq:∀{xs:List V}{us:List d6},Vals xs us->Vals xs.reverse us.reverse:=λ{xs us} h=>by
 induction h with
 |nil=>show .nil
 |cons r _ a =>
  rw[Qf,Qf];show a.append (.cons r .nil)
def AW(t:PE X e te):PE X (.Subscript e (.Slice b6 b6 (a5 (.UnaryOp .USub (.Constant (.int 1) J p1) p3)) p2) pos) (Eu X.K te):=by
 intro pins s σ H Q I h;show Xp (ER (t pins s σ H _ I h) λv s1 w=>?_);have⟨x,i,y,z,A⟩:=w;have⟨a,xs,rfl,j,q⟩:=A;cases z;show wpAny_Slice ?_;rw[V1,evalPart_some];show cc (cc ?_);show ER (CD Az uA pins s1 σ i (λv f=>v=.int (-1)/\f=i) y ⟨1,rfl,rfl,rfl⟩) λu s2 B=>?_;have⟨L,f,k,C,D,G⟩:=B;subst D G;have⟨l,rfl⟩:=C;have⟨N,r,O,hz⟩:=k.tuple j;have k1:∀b d,s2.heap.get? b=a5 d->(s2.heap.push {cls:=.type "slice",data:=.fields #[Fq,Fq,.int (-1) l]}).get? b=a5 d:=λb d q=>dV _ q;have g:Inv X pins σ f {s2 with heap:=s2.heap.push {cls:=.type "slice",data:=.fields #[Fq,Fq,.int (-1) l]}}:=k.kept (t':=s2.toks) k1;have⟨its',m,n,p⟩:=g.tuple j;have c:its'.toArray.size=xs.length:=by rw[js];show m.length.symm
 show Yo (ops:=[.ref a,.ref s2.heap.objs.size]) n.typeIs tx.lookup (gW n (UK ..) ?_ (by rw[c];show p)) (by with_unfolding_all rfl);show⟨.ref _,_,g.laid (t':=s2.toks) (o:=.tup xs.reverse) (λb d q=>dV _ q) (ke _) ⟨by rw[Tg];show p,its'.reverse,vq m,⟨_,hY _ rfl,rfl,_,rfl⟩⟩,rfl,q _ (g.EN.fresh (ke _))⟩
end
end L2
namespace L2
open PySem PyProof.Rows PySem.W
abbrev Ew(h:IE)(e C:gs)(a0:d6)(T:Option gs)(b:d6):Prop:=∃oe vs,h.get? e=a5 oe/\oe.cls=.ref C/\oe.data=.fields vs/\vs[0]?=a5 a0/\match T with
 |none=>vs[1]?=a5 .none
 |some T=>T≠e/\vs[1]?=a5 (.ref T)/\∃a ts,h.get? T=a5 a/\a.data=.fields ts/\ts[3]?=a5 b
structure br(P:vu)(w:DD)(stack:List Env)(H:Hp)(s:fx)(e C:gs)(T:Option gs)(fl:d6)(H':Hp)(s':fx):Prop where
 os:s'.os=s.os
 bare:Q4 s'.gens
 un:Un (Ff stack) [] H H' s.heap s'.heap
 EN:FA P w H' s'.heap
 new:s.heap.get? e=b6
 he:H' e=b6
 exc:∃a0,Ew s'.heap e C a0 T fl
 hT:∀a,T=a5 a->s.heap.get? a=b6/\H' a=b6
abbrev HA(P:vu)(w:DD):IC:=λouter H s E v s'=>∃e C T H',v=.ref e/\br P w outer H s e C (a5 T) .none H' s'/\E (.ref C) b6 H'
def bF.there(x:bF P w H h a o):∃u,h.get? a=a5 u:=by
 cases o with
 |lst xs=>obtain⟨_,_,_,_,e⟩:=x;show⟨_,e⟩
 |tup xs=>obtain⟨_,_,_,_,e,_⟩:=x;show⟨_,e⟩
 |set S n=>obtain⟨o,_,_,_,e,_⟩:=x;show⟨_,e⟩
 |ins C c b=>obtain⟨_,_,_,e,_⟩:=x;show⟨_,e⟩
 |own y=>show x
 |xd b=>obtain⟨_,⟨_,_,_,e,_⟩,_⟩:=x;show⟨_,e⟩
 |Mi lo d=>obtain⟨_,_,_,e⟩:=x;show⟨_,e⟩
 |F9 g u=>show⟨_,x.1⟩
 |Jc i=>show⟨_,x⟩
 |met f y=>show⟨_,x⟩
 |ext φ=>show x.2.1
 |_=>obtain⟨_,_,_,_,o,_,_,e,_⟩:=x;show⟨_,e⟩
section
variable{P:vu}{w:DD}{stack outer:List Env}{H H':Hp}{s s':fx}{e C L:gs}{T:Option gs}{fl:d6}{base:IE}{env:Env}{M:Model}{A:Ke}{E:d6->fx->Prop}{Q:Unit->fx->Prop}
theorem rq(u:Un (Ff stack) [] H H' s.heap s'.heap)(a:∀b∈Ff stack,H b=b6):∀l:List Env,(∀b∈Ff l,b∈Ff stack)->s.heap.FunFrames base l->s'.heap.FunFrames base l
 |[],_,_=>trivial
 |env::l,hs,⟨hk,⟨L,o,c,d,ho,f⟩,g⟩=>by
  have h:Ff (env::l)=L::Ff l:=by unfold Ff;rw[HJ,c]
  rw[h]at hs;have⟨j,q⟩:=u.any ho (a L (hs L gw)) λz=>nomatch z
  show⟨hk,⟨L,_,c,d,q,f⟩,rq u a l (λb i=>hs b (ek _ i)) g⟩
def br.next(F:br P w stack H s e C T fl H' s')(l:s.heap.FunFrames base stack)(m:∀b∈Ff stack,H b=b6)(I:B=hideAll s'.heap (e::(T.toList++Ff stack))):
  B.StaysIn s'.heap/\s'.heap.FunFrames B stack/\B.get? e=b6/\(∀a,T=a5 a->B.get? a=b6) /\
   ∀h' i,B.StaysIn h'->h'.FunFrames B stack->h'.TracedAtW B e (.ref C) a0 i->s'.heap.UpToSlots h'->∃c,br P w stack H s e C (a5 c) i H' {s' with heap:=h' }:=by
 have p:=rq F.un m _ (λ_ z=>z) l;subst I;show⟨λb o q=>of_hideAll _ q,funFrames_hide p λJ N a O=>ek _ (ti _ (JC.mpr ⟨J,N,O⟩)),hideAll_none _ gw,λa z=>hideAll_none _ (ek _ (JZ _ (by simp[z]))),λh' i k1 k2 ⟨Y,Gb,c,Se,Sf,b1,⟨b2,b0⟩,b3,b4,b5,r,t,v,b9⟩ k4=>?_⟩;have Sg:∀a,a∈e::(T.toList++Ff stack)->H' a=b6:=λa ha=>by
  rcases fz.mp ha with rfl|ha
  .show F.he
  rcases l'.mp ha with ha|ha
  .show(F.hT a (by simpa using ha)).2
  .obtain⟨_,o,ho,_⟩:=l.mem ha;show F.un.free a o ho (m a ha) λz=>nomatch z
 have keep:∀b o,b∉e::(T.toList++Ff stack)->s'.heap.get? b=a5 o->h'.get? b=a5 o:=λb o hb q=>k1 b o (hideAll_get _ q hb);have slot:∀b o,b∈Ff stack->s'.heap.get? b=a5 o->∃x,h'.get? b=a5 {o with slots:=x}:=λb o hb q=>by
  obtain⟨_,j,d,k⟩:=p.mem hb;rw[q]at d;cases d;show k4 b o q k
 have y:∀b o,s.heap.get? b=a5 o->b∉Ff stack->b∉e::(T.toList++Ff stack):=λb o q hb z=>by
  rcases fz.mp z with z|z
  .rw[z,F.new]at q;cases q
  rcases l'.mp z with z|z
  .rw[(F.hT b (by simpa using z)).1]at q;cases q
  .show hb z
 have tn:s.heap.get? c=b6/\H' c=b6:=by
  by_cases z:c∈e::(T.toList++Ff stack)
  .rcases fz.mp z with z|z
   .show absurd z r
   rcases l'.mp z with z|z
   .show F.hT c (by simpa using z)
   .obtain⟨_,j,d,k⟩:=k2.mem z;rw[t]at d;cases d;show absurd v (k _)
  .have q:s'.heap.get? c=b6:=by
    cases q:s'.heap.get? c with
    |none=>rfl
    |some o=>have:=hideAll_get _ q z;rw[b5]at this;cases this
   show⟨?_,?_⟩
   .cases f:s.heap.get? c with
    |none=>rfl
    |some o=>have⟨j,D⟩:=F.un.there _ o f λz=>nomatch z;rw[q]at D;cases D
   .cases f:H' c with
    |none=>rfl
    |some u =>
     have⟨o,z⟩:=(F.EN c u f).there;rw[q]at z;cases z
 show⟨c,F.os,F.bare,⟨λb o q n hb g=>keep b o (y b o q hb) (F.un.keep b o q n hb g),λb o q n hb g=>?_,F.un.free,λb o q g=>?_,F.un.FD,F.un.Fy,F.un.FE⟩,λa u q=>(F.EN a u q).l5 (λb o hb d=>?_) (λ_ z=>z) λ_ _ z=>z,F.new,F.he,⟨_,Y,Gb,b1,b2,b3,b0,r,b4,Se,Sf,t,v,b9⟩,λa z=>by cases z;show tn⟩
 .have⟨x,h⟩:=F.un.slot b o q n hb g;have⟨G,f⟩:=slot b _ hb h;show⟨G,f⟩
 .have⟨j,h⟩:=F.un.there b o q g;by_cases hb:b∈Ff stack
  .have⟨G,f⟩:=slot b _ hb h;show⟨_,f⟩
  .show⟨_,keep b _ (y b o q hb) h⟩
 .show keep b o (λz=>?_) d;have:=Sg b z;rcases hb with rfl|hb
  .rw[q]at this;cases this
  .rw[hb]at this;cases this
def br.leave(F:br P w (env::outer) H s e C T .none H' s')(c:A.frames=a5 (env::outer))(d:env.frame=a5 L)(q:s.heap.FunFrames base (env::outer))(r:∀b∈Ff (env::outer),H b=b6)
  (h:∀f g,br P w (env::outer) H s e C (a5 f) .none H' g->Q () g):eH M A (leaving env (.ref e)) Q E s':=by
 have⟨a0,oe,vs,i,j,k,l,m⟩:=F.exc;obtain⟨B,t⟩:∃B,B=hideAll s'.heap (e::(T.toList++Ff (env::outer))):=⟨_,rfl⟩
 have⟨n,o,p,u,v⟩:=F.next (a0:=a0) q r t;have a:∀h',Heap.LeftW B (env::outer) e (.ref C) a0 s'.heap h'->Q () {s' with heap:=h' }:=λh' x=>by
  have⟨k1,k2,k3,y⟩:=x;have⟨f,z⟩:=v h' .none k1 k2 k3 y;show h _ _ z
 cases T with
 |none=>show wpAny_leaving_firstW c o d i n p k m l λh' z=>a h' (j▸z)
 |some T =>
  have⟨D,G,I,ts,J,N,O⟩:=m;show wpAny_leaving_nextW c o d ⟨oe,vs,T,I,ts,i,⟨j,l⟩,k,G,u T rfl,D,J,N,O⟩ n p a
def br.note{T:gs}(F:br P w (env::outer) H s e C (a5 T) .none H' s')(d:A.frames=a5 (env::outer))(f:env.frame=a5 L)(g:s.heap.FunFrames base (env::outer))(i:∀b∈Ff (env::outer),H b=b6)
  (h:∀a c,br P w (env::outer) H s e C (a5 a) (HV L) H' c->Q () c):eH M A (noteFrame (.ref e) env) Q E s':=by
 have⟨a0,oe,vs,j,k,l,m,n,o,p,ts,q,r,t⟩:=F.exc;have⟨u,v,x,y,B⟩:=F.next (a0:=a0) g i rfl;show wpAny_noteFrame_onW d v f ⟨oe,vs,T,p,ts,j,⟨k,m⟩,l,o,y T rfl,n,q,r,t⟩ u x λh' D=>?_;have⟨k1,k2,k3,G⟩:=D;have⟨a,z⟩:=B h' _ k1 k2 k3 G;show h _ _ z
def br.land{T:gs}(F:br P w stack H s e C (a5 T) fl H' s')(d:s.heap.FunFrames base stack)(f:∀b∈Ff stack,H b=b6)
  (h:∀a c,br P w stack H s e C (a5 a) .none H' c->Q () c):eH M A (setFlight (.ref e) b6) Q E s':=by
 have⟨a0,oe,vs,g,i,j,k,l,m,p,ts,r,t,u⟩:=F.exc;have⟨v,x,G,y,B⟩:=F.next (a0:=a0) d f rfl;show wpAny_setFlight_noneW v x ⟨oe,vs,T,p,ts,g,⟨i,k⟩,j,m,y T rfl,l,r,t,u⟩ λh' k1 k2 k3 D=>?_;have⟨a,z⟩:=B h' _ k1 k2 k3 λb o q n=>⟨o.slots,D b o q n⟩
 show h _ _ z
end
section
def br.down(I:Inv X pins σ H s)(k:X.ex=[])(hs:X.stack=X.env::X.outer)(l:X.env.frame=a5 X.env.locals)(F:br X.prog X.w X.stack H s e C T m H' s'):br X.prog X.w X.outer X.H₀ X.s₀ e C T m H' s':=by
 have nx:∀b:gs,b∉X.ex:=λb z=>by rw[k]at z;cases z
 have j:Ff X.stack=X.env.locals::Ff X.outer:=by rw[hs];unfold Ff;rw[HJ,l]
 have c:∀b,s.heap.get? b=b6->X.s₀.heap.get? b=b6:=λb q=>by
  cases z:X.s₀.heap.get? b with
  |none=>rfl
  |some o=>have⟨g,z⟩:=I.base.there b o z (nx b);rw[q]at z;cases z
 have hl:∀b o,X.s₀.heap.get? b=a5 o->b≠X.env.locals:=λb o q=>nC (my (lg q) I.ok.above);have h:∀b:gs,b∉([]:List gs):=λb z=>nomatch z
 show⟨F.os.trans I.os,F.bare,⟨λb o q n f _=>?_,λb o q n f _=>?_,λb o q n _=>?_,λb o q _=>?_,λb xs q=>F.un.FD b xs (I.base.FD b xs q),λb o u q=>F.un.Fy b o u (I.base.Fy b o u q),λb p q=>?_⟩,F.EN,c _ F.new,F.he,F.exc,λa z=>⟨c _ (F.hT a z).1,(F.hT a z).2⟩⟩
 .show F.un.keep b o (I.base.keep b o q n f (nx b)) (I.base.free b o q n (nx b)) (λz=>by rw[j]at z;show(fz.mp z).elim (hl b o q) f) (h b)
 .have⟨t,d⟩:=I.base.slot b o q n f (nx b);have⟨r,i⟩:=F.un.slot b _ d (I.base.free b o q n (nx b)) (by rw[j];show ek _ f) (h b);show⟨r,i⟩
 .have⟨g,d⟩:=I.base.there b o q (nx b);show F.un.free b g d (I.base.free b o q n (nx b)) (h b)
 .have⟨g,d⟩:=I.base.there b o q (nx b);show F.un.there b g d (h b)
 .have⟨m1,d⟩:=I.base.FE b p q;have⟨m2,i⟩:=F.un.FE b _ d;show⟨m1++m2,by rw[i,V']⟩
def br.made(I:Inv X pins σ H s)(b:Heap.MadeExcOf s.heap h' e (.ref C) vs):br X.prog X.w X.stack H s e C b6 .none H {s with heap:=h' }:=by
 obtain⟨t,c,_⟩:=b.there;show⟨rfl,I.bare,Un.kept b.keeps,I.EN.kept b.keeps,b.new,?_,⟨_,_,_,c,rfl,rfl,rfl,rfl⟩,λa z=>nomatch z⟩;cases z:H e with
 |none=>rfl
 |some u=>have⟨o,q⟩:=(I.EN e u z).there;rw[b.new]at q;cases q
abbrev Kx:List d6:=[.type "ValueError",.type "Exception",.type "BaseException",.type "object"]
abbrev Sh(p:gs->List d6->Option d6->Option d6->Option d6->Option d6->String->Option d6->Bool)(M:List d6)(S:List (Option d6)):Prop:=∃C a k0 k1 k2 k3 n k5,M=.ref C::a/\S=[k0,k1,k2,k3,a5 (.builtin n),k5]/\p C a k0 k1 k2 k3 n k5=b7
def nf{P:Prop}(h:cb=b7):P:=nomatch h
def AX(q:excIn.match_1 (λ_ _=>Bool) M S p (λ_ _=>cb)=b7):Sh p M S:=by
 cases M with
 |nil=>show nf q
 |cons v a =>
  cases v with
  |ref C =>
   cases S with
   |nil=>show nf q
   |cons k0 S =>
   cases S with
   |nil=>show nf q
   |cons k1 S =>
   cases S with
   |nil=>show nf q
   |cons k2 S =>
   cases S with
   |nil=>show nf q
   |cons k3 S =>
   cases S with
   |nil=>show nf q
   |cons b S =>
   cases b with
   |none=>show nf q
   |some v =>
   cases v with
   |builtin n =>
    cases S with
    |nil=>show nf q
    |cons k5 S =>
    cases S with
    |nil=>show⟨C,a,k0,k1,k2,k3,n,k5,rfl,rfl,q⟩
    |cons _ _=>show nf q
   |_=>show nf q
  |_=>show nf q
abbrev Si(p:Option gs->ClassData->Array (Option d6)->Bool)(o:Option Obj):Prop:=∃d a b,o=a5 ⟨.type "type",d,.cls a,b⟩/\p d a b=b7
def AY(q:excIn.match_6 (λ_=>Bool) o p (λ_=>cb)=b7):Si p o:=by
 split at q
 .show⟨_,_,_,rfl,q⟩
 .show nf q
def AZ{K:Xm}{P:Prop}(b:K.In h)(q:excIn K C Kx a=b7)(k:∀c N nm d bs hdct sn sub ab col dd k0 k1 k2 k3 k5 f,h.get? C=a5 (excClassObj nm d C N bs c hdct sn sub ab col dd k0 k1 k2 k3 k5 a)->h.Ns N f->f "__init__"=b6->OwnTail h Kx c->P):P:=by
 have⟨dd,p,r,ho,g⟩:=AY q;have⟨v,c,k0,k1,k2,k3,n,k5,i,hs,j⟩:=AX g;clear q g;have⟨nm,bs,mro,ns,d,s,sn,sub,ab,col,t⟩:=p;have⟨l⟩:=r;simp only[b8,beq_iff_eq,vl]at j;obtain⟨⟨⟨⟨⟨rfl,rfl⟩,m⟩,u⟩,e⟩,o⟩:=j
 dsimp only at i m e o
 subst i m;obtain rfl:l=_:=hs;show k c ns nm d bs s sn sub ab col dd k0 k1 k2 k3 k5 _ (b _ _ ho) (.of_isNs (isNs_of_in b e)) (nsMap_none_of_in b e o) (tail_of_in b u)
def vt(g:X.calm=b7)(i:Gl X x)(d:X.mg x=a5 (.ref C))(j:(x==("__debug__":Str))=cb)(k:excIn X.K C Kx "ValueError.__new__"=b7)(l:PE X a m)
  (f:mx [a] X.env=[(cb,Ka a X.env)]) :
  PS X (.Raise (a5 (.Call (.Name x p) [a] [] z)) b6 pos) (λD σ H=>m σ H λv c=>∀pins s e s',Inv X pins σ c s->br X.prog X.w X.stack c s e C b6 .none c s'->X.xe (.ref e) s'):=by
 intro pins s σ H D I h;show AZ I.mod.IA k λA N nm n bs hdct sn sub ab col dd k0 k1 k2 k3 k5 B o r t T=>?_;show wpAny_Raise_call_subT (nm:=nm) (q:=n) (N:=N) (bs:=bs) (hdct:=hdct) (sn:=sn) (sub:=sub) (ab:=ab) (col:=col) (dd:=dd) (k0:=k0) (k1:=k1) (k2:=k2) (k3:=k3) (k5:=k5) Wu (T.hasType Wu.hasBase) (I.ok.hd g) (by rw[f];rfl) t (cv I i d ⟨rfl,?_⟩ j);rw[f];show MY (Pm (ER (l pins s σ H _ I h) λu s1 ⟨v,c,b,G,y⟩=>P8 ⟨rfl,?_,b.bk _ _ o,r.keeps b.bk,T.keeps b.bk,λh' e d=>y pins s1 e _ b (.made b d)⟩));show(by decide:1<=df)
def C3:Passes (HA X.prog X.w) X E0:=λ_ _ _ _ _ _ _ ⟨_,_,_,_,_,_,h⟩=>h.elim
def jt(F:gD X.prog X.w X.K X.mg X.base CX k f d b sp)(g:dn k X.A)(i:Binds X.K d b [])(I:Inv X pins σ H s)(r:Vals vs us)(h:sp vs H Q E)
  (j:∀e s',CX X.stack H s E e s'->EE e s'):eH (ko X.prog X.w) X.A (Nk (.ref f) us) (EP X pins σ Q) EE s:=by
 have hl:us.length=b.length:=by rw[<-r.length];show F.len _ _ _ _ h
 have c:=i s us I.G0 (by rw[w6];show hl);rw[w6]at c;show UD (Mc (F.run X.A X.stack s H ⟨us,[]⟩ us vs Q E g I.AD c r h) λr s' a=>?_);cases r with
 |error e=>show j e s' a
 |ok l =>
  cases l with
  |ret u=>show I.after a
  |_=>show Kf a
end
def A0(a:s.heap.get? e=a5 oe)(b:oe.cls=.ref C)(h:Q (.bool b7) s):
  eH (ko prog w) A (Nk (.builtin "isinstance") [.ref e,.ref C]) Q E s:=by
 show PR (S:=λ_ R s=>s.heap.get? e=a5 oe/\R (.ok (.ret (.bool b7))) s) (λprog w A R s hs=>isinstance_outer ?_ λz=>nomatch z) ⟨a,h⟩;have⟨c,g,d,i,os⟩:=s;have⟨a,f⟩:=hs;have LT:Wc (ko prog w) c (U7 (.ref e)) (.ref C):=by
  show(VF a).andThen ?_;rw[b];show .now
 unfold NO.«isinstance.nested»;show bw (LT.at ?_);rw[Yr (by simp)]
 repeat (any_goals (first|show f|assumption|wp_step))
@[reducible]noncomputable def Cx.GB(X:Cx)(e:gs)(oe:Obj)(E:d6->fx->Prop):Cx:={X with A:=X.A.mark (a5 (.ref e)),calm:=cb,pn:=(e,oe)::X.pn,xe:=E}
section
def Inv.GB(I:Inv X pins σ H s)(a:s.heap.get? e=a5 oe)(b:H e=b6)(c:e≠X.env.locals)(d:e∉X.fs)(f:∀v,oe.data≠.cell v):Inv (X.GB e oe E) pins σ H s :=
 ⟨⟨I.ok.mod,I.ok.kind,I.ok.glob,I.ok.blt,I.ok.above,I.ok.inj,I.ok.has,I.ok.JD,λz=>(nomatch z),I.ok.frames,I.ok.Kg,I.ok.Mj,I.ok.bs,I.ok.HF,I.ok.GZ,I.ok.Hn,I.ok.gz,I.ok.IB⟩,I.os,I.bare,I.base,I.loc,I.cell,I.free,I.E1,
  λp g=>(fz.mp (show p∈(e,oe)::(X.pn++pins) from g)).elim (λz=>by subst z;show⟨a,b,c,d,f⟩) λz=>I.pin p z,I.EN,I.len⟩
def Inv.C4(ok:X.Ok)(I:Inv (X.GB e oe E) pins σ H s):Inv X pins σ H s :=
 ⟨ok,I.os,I.bare,I.base,I.loc,I.cell,I.free,I.E1,λp a=>I.pin p (ek _ a),I.EN,I.len⟩
def Inv.gone(I:Inv X pins σ H s)(C:X.N.Nodup)(t:X.N[j]?=a5 n)(hl:X.env.scope.names.lookup n=a5 .local)
  (h:∀s',Inv X pins (σ.set j b6) H s'->Q () s'):eH M A (do bindName X.env n .none;unbindBehindTheSuite X.env n pos) Q E s:=by
 have⟨m,D,G⟩:=id I.loc;have J:(X.env.scope.kind==.class||(X.env.scope.kind==.module&&X.env.locals != X.env.globals))=cb:=by rw[I.ok.kind];rfl
 show wpAny_nameGoes_keeps hl D J λh' v L hs=>h _ ?_;have w:=I.HG;have O:j < σ.length:=by rw[I.len];show(hQ.mp t).1
 have ne:∀b o,X.s₀.heap.get? b=a5 o->b≠X.env.locals:=λb o q=>nC (my (lg q) I.ok.above);show⟨I.ok,I.os,I.bare,⟨λb o e n k f=>(hs.2 b (ne b o e)).trans (I.base.keep b o e n k f),λb o e n k f=>?_,I.base.free,λb o e f=>?_,I.base.FD,I.base.Fy,I.base.FE⟩,⟨_,L,λi y u x g T=>?_⟩,λy c e=>?_,I.free,I.E1,λp Y=>?_,λb ob e=>(I.EN b ob e).l5 (λc w' hc q=>(hs.2 c ?_).trans q) (λ_ q=>q) λ_ _ q=>q,by simpa using I.len⟩
 .have⟨sl,q⟩:=I.base.slot b o e n k f;show⟨sl,(hs.2 b (ne b o e)).trans q⟩
 .have⟨o',q⟩:=I.base.there b o e f;show⟨o',(hs.2 b (ne b o e)).trans q⟩
 .have B:i≠j:=λz=>by subst z;rw[nc O]at g;cases g
  rw[mu (HX B)]at g;have⟨u',r,l⟩:=G i y u x g T;show⟨u',r,l.imp (λ⟨a,b⟩=>⟨a,?_⟩) λ⟨a,c,b,d⟩=>⟨a,c,b,d.sameBut hs (w y c b)⟩⟩;change(if y=n then v else m y)=a5 u';rw[Yt λ(z:y=n)=>B (gB C x (by rw[z];show t))];show b
 .have⟨u,z⟩:=I.cell y c e;show⟨u,z.sameBut hs (w y c e)⟩
 .have⟨a,b,c,d⟩:=I.pin p Y;show⟨(hs.2 p.1 c).trans a,b,c,d⟩
 .rintro rfl;rcases hc with hc|hc
  .rw[<-hc,I.free]at e;cases e
  .rw[I.free]at hc;cases hc
end
section
variable{prog:vu}{w:DD}{A:Ke}{E:d6->fx->Prop}{h:IE}{g:Array VH}{d:Drawn}{t:Nat}{os:OsState}{a C:gs}{o:Obj}{K:Xm}
def oI(e:K.In h)(hs:Yi K (.ref C) (.type "object")=a5 b7)(b:h.get? a=a5 o)(c:o.cls=.ref C)(j:R (.ok (.ret (.ref C))) ⟨h,g,d,t,os⟩):
  Ov (ko prog w) A (.call (.builtin "getset_descriptor.__get__") ⟨[.builtin "object.__class__",.ref a,.ref C],[]⟩) R ⟨h,g,d,t,os⟩:=by
 have f:(⟨h,g,d,t,os⟩:fx).TypeIs (.builtin "object.__class__") "getset_descriptor":=Sq;have i:Wc (ko prog w) h (LS (.ref C) (.type (".".intercalate ("object.__class__".cutAt '.').dropLast))) b7:=by rw[F.owner_object_class];show looks_subIn e hs
 show Pe VI.plain F.entry_gs_get (VI.check _ _ _ _ _ _ _ _ f (F.args_gs_get _ _ _) ?_)
 repeat (any_goals (first|assumption|(with_reducible show Oq b ?_;rw[c])|with_reducible show i.at ?_|wp_step))
 show⟨Py _ (by decide +kernel),HB F.entry_object_class ?_⟩
 repeat (any_goals (first|assumption|(with_reducible show Oq b ?_;rw[c])|wp_step))
def k8(b:K.In h)(hs:Yi K (.ref C) (.type "object")=a5 b7)(f:Yk K (.ref C) "__class__"=a5 (a5 (.builtin "object.__class__")))(c:h.get? a=a5 o)(e:o.cls=.ref C)(j:Q (.done (.ret (.ref C))) ⟨h,g,d,t,os⟩):
  eH (ko prog w) A (NO.«object.__getattribute__» ⟨[.ref a,.str "__class__" k],[]⟩) Q E ⟨h,g,d,t,os⟩:=by
 have l:(⟨h,g,d,t,os⟩:fx).TypeIs (.builtin "object.__class__") "getset_descriptor":=Sq;have i:Wc (ko prog w) h (UE (.ref C) "__class__") (a5 (.builtin "object.__class__")):=Wo b f;have m:=Sq;have n:=VI.lookup;have p:=F.slot_gs_set.lookup
 repeat (any_goals (first|assumption|(with_reducible show Oq c ?_;rw[e])|with_reducible show i.at ?_|wp_step))
 show oI b hs c e ?_
 repeat (any_goals (first|assumption|wp_step))
def pX(b:K.In h)(hs:Yi K (.ref C) (.type "BaseException")=a5 b7)(c:h.get? a=a5 o)(e:o.cls=.ref C)(f:Q () ⟨h,g,d,t,os⟩):eH M A (U' "BaseException.__getattribute__" ⟨[.ref a,i],[]⟩) Q E ⟨h,g,d,t,os⟩:=by
 have hk:builtinKind "BaseException.__getattribute__"=a5 .slot:=by decide +kernel
 have j:splitId "BaseException.__getattribute__"=a5 ("BaseException","__getattribute__"):=by decide +kernel
 have k:Wc M h (LS (.ref C) (.type "BaseException")) b7:=looks_subIn b hs;have l:=F.args_bexc_ga (.ref a) i;simp only[U',hk,j];show bw ?_
 .unfold VC
  repeat (first|(with_reducible show Oq c ?_;rw[e])|with_reducible show k.at ?_|wp_step)
  show f
abbrev eC(K:Xm)(C:gs):Bool:=Yi K (.ref C) (.type "object")==a5 b7&&Yi K (.ref C) (.type "BaseException")==a5 b7&&Yk K (.ref C) "__class__"==a5 (a5 (.builtin "object.__class__"))&&Yk K (.ref C) "__getattribute__"==a5 (a5 (.builtin "BaseException.__getattribute__"))&&Yk K (.ref C) "__getattr__"==a5 b6&&(clsIn K C).isSome
def pY(b:K.In h)(ok:eC K C=b7)(c:h.get? a=a5 o)(e:o.cls=.ref C)(j:Q (.ref C) ⟨h,g,d,t,os⟩):eH (ko prog w) A (getAttrBy (.ref a) (.str "__class__" k) cb) Q E ⟨h,g,d,t,os⟩:=by
 simp only[eC,b8,beq_iff_eq]at ok;obtain⟨⟨⟨⟨⟨o1,o2⟩,o3⟩,o4⟩,o5⟩,_⟩:=ok;have l:=Xb.ga.bind (.ref a);have m:(cb&&onTheHeap (Og "BaseException.__getattribute__"))=cb:=rfl;have f:(Og "BaseException.__getattribute__"==Og "object.__getattribute__")=cb:=by decide +kernel
 have n:(onTheHeap (uk C)&&Og "BaseException.__getattribute__"==Og "object.__getattribute__")=cb:=by rw[f];rfl
 have i:Wc (ko prog w) h (UE (.ref C) "__getattribute__") (a5 (.builtin "BaseException.__getattribute__")):=Wo b o4;have L2:Wc (ko prog w) h (UE (.ref C) "__getattr__") b6:=Wo b o5
 repeat (any_goals (first|assumption|(with_reducible show Oq c ?_;rw[e])|with_reducible show i.at ?_|with_reducible show L2.at ?_|wp_step))
 show Pe Xb.ga.plain F.entry_bexc_ga (pX b o2 c e (k8 b o1 o3 c e ?_))
 repeat (any_goals (first|assumption|wp_step))
def mX(b:K.In h)(ok:eC K C=b7)(c:h.get? a=a5 o)(e:o.cls=.ref C)(f:Q (a5 (.ref C)) ⟨h,g,d,t+1,os⟩):eH (ko prog w) A (getAttr? (.ref a) "__class__") Q E ⟨h,g,d,t,os⟩:=by
 unfold getAttr? getAttrBy?
 repeat (any_goals (first|assumption|with_reducible apply pY b ok c e|wp_step))
end
def vv{K:Xm}(ok:eC K C=b7):KitX K (.ref a) (.ref C) (λh=>∃o,h.get? a=a5 o/\o.cls=.ref C) where
 ty:=λM h _ i=>by
  have⟨o,c,f⟩:=i;show(VF c).andThen ?_;rw[f];show .now
 it:=λM h b _ A Q E s k q=>by
  simp only[eC,b8]at ok;have z:=ok.2;unfold clsIn at z;split at z
  .rename_i ho;unfold isType loadHead;show bw (wpAny_loadPart (k _ _ (b _ _ ho)) (cc q))
  .cases z
 ne:=λh j dd l n m b e=>by
  simp only[eC,b8]at ok;have z:=ok.2;unfold clsIn at z;split at z
  .rename_i ho;rw[Yz];intro q;cases q;have:=b _ _ ho;rw[e]at this;cases this
  .cases z
 ca:=λ{_ _ _ _ _ s} b ⟨o,c,f⟩ q=>by
  have⟨h,g,d,t,os⟩:=s;show mX b ok c f q
def Inv.C5(I:Inv X pins σ H s)(d:s.heap.get? e=a5 oe)(g:H e=b6)(h:X.s₀.heap.get? e=b6)(i:e≠X.env.locals)(j:∀x c,X.env.cells.lookup x=a5 c->c≠e)(k:∀p∈X.pn++pins,p.1≠e):
  Inv X pins σ (upd H e (.F9 oe (.ext λ_=>True))) s:=by
 have ne:∀b o,H b=a5 o->b≠e:=λb o q=>aS q g;show⟨I.ok,I.os,I.bare,⟨I.base.keep,I.base.slot,λb o q n l=>?_,I.base.there,λb xs q=>?_,λb o u q=>?_,λb r q=>?_⟩,I.loc,I.cell,?_,λx c q=>?_,λp f=>?_,λb u q=>?_,I.len⟩
 .rw[aw (λz=>by rw[z,h]at q;cases q)];show I.base.free b o q n l
 .have:=I.base.FD b xs q;rw[aw (ne b _ this)];show this
 .have:=I.base.Fy b o u q;rw[aw (ne b _ this)];show this
 .have⟨m,q⟩:=I.base.FE b r q;show⟨m,by rw[aw (ne b _ q)];show q⟩
 .rw[aw (HX i)];show I.free
 .rw[aw (j x c q)];show I.E1 x c q
 .have⟨a,b,c⟩:=I.pin p f;show⟨a,by rw[aw (k p f)];show b,c⟩
 .by_cases z:b=e
  .subst z;rw[aH]at q;cases q;show⟨d,trivial,⟨oe,d⟩,λ_ _ _ _=>trivial⟩
  .rw[aw z]at q;show(I.EN b u q).l5 (λ_ _ _ q=>q) (λc q=>by rw[aw (ne c _ q)];show q) λc xs q=>by rw[aw (ne c _ q)];show q
end L2
namespace L2
open PySem PySem.Spec PyProof.Rows
structure ja(k:Nat)(A:Ke):Prop where
 dp:A.depth+2 * k+2<VA
 un:A.units+16 * k+100<Ga
 gd:A.guards=a5 []
def dn.toN(r:dn k A)(x:d6):ja 1 (A.mark (a5 x)):=⟨by have:=r.dp;change A.depth+2 * 1+2 < _;lia,by have:=r.un;change A.units+16 * 1+100 < _;lia,r.gd⟩
def ja.deeper(r:ja (k+1) A)(env:Env):ja k (A.deeper env) :=
 ⟨by have:=r.dp;change A.depth+1+2 * k+2 < _;lia,by have:=r.un;change A.units+3+16 * k+100 < _;lia,r.gd⟩
structure oJ(P:vu)(w:DD)(K:PySem.W.Frag)(mg:Str->Option d6)(base:IE)(CX:IC)(k:Nat)(f:gs)(fd:OF)(ps:List Str)(sp:Sp):Prop where
 len:∀vs H Q E,sp vs H Q E->vs.length=ps.length
 run:∀(A:Ke) (outer:List Env) (s:fx) (H:Hp) (args:Args) (us:List d6) (vs:List V) (Q:VK) (E:XK),ja k A->tf P w K mg base A outer s H->Vu s fd args (ps.zip us)->Vals vs us->sp vs H Q E ->
  Ov (ko P w) A (.call (.ref f) args) (CR CX outer P w H s Q E) s
@[reducible]noncomputable def Kz(CX:IC)(P:vu)(w:DD)(K:PySem.W.Frag)(mg:Str->Option d6)(base:IE)(N:List Str)(a:Str)(scope:Lc)(f:gs)(b:d6)(A:Ke)(outer:List Env)(s:fx)(H:Hp)(E:XK):Cx :=
 {mf CX P w K mg base N a scope f b A outer s H E with calm:=cb}
def pZ{K:PySem.W.Frag}
  (S:cJ N l scope) (j:tf P w K mg base A outer s H) (hl:vs.length=l.length) (r:Vals vs us)
  (x:InCallC s s.heap.objs.size (VD (P5 g scope s.heap.objs.size f B).kindOf (l.zip us) λ_=>b6) (Ky (s.heap.objs.size+1) scope.names []) (VE (P5 g scope s.heap.objs.size f B).kindOf (l.zip us) λ_=>b6) s1) :
  Inv (Kz CX P w K mg base N g scope f B A outer s H E) [] (start N vs) H s1:=by
 have L:l.length<=N.length:=by have:=Yy KX S.pre;rw[tj]at this;lia
 have⟨o,O,rfl,hk⟩:=x.done;have C:∀b:gs,b∉(Kz CX P w K mg base N g scope f B A outer s H E).ex:=λb z=>absurd (show b∈([]:List gs) from z) (by simp);show⟨⟨j.mod,S.kind,rfl,rfl,ke _,λy z c o d=>?_,λy hy=>?_,λy c _ h=>?_,λz=>(nomatch z),Vv j.frames,.inr ⟨rfl,rfl⟩,λb z=>absurd z (C b),j.bs,j.HF,λb _ _=>C b,λb z=>absurd z (C b),j.gz,j.IB⟩,
  rfl,j.bare,Un.kept hk,⟨_,x.toInCall.ns,λi y v o d Q=>?_⟩,λy c h=>⟨_,x.cell y c h⟩,j.EN.fresh (ke _),λy c h=>?_,λp m=>absurd (show p∈([]:List (gs×Obj)) from m) (by simp),j.EN.kept hk,?_⟩
 .show name_of_addr x.apart (PySem.mem_of_lookup o) (PySem.mem_of_lookup d)
 .have hy:scope.names.lookup y=a5 .cell\/scope.names.lookup y=a5 .free:=hy;rcases hy with hy|hy
  .show gE hy
  .show absurd rfl (S.HH _ (PySem.mem_of_lookup hy))
 .show JY (x.above y c (PySem.mem_of_lookup h))
 .have t:i<vs.length:=by
   unfold start at d;by_cases t:i<vs.length
   .show t
   .rw[va (by simpa using t)]at d;rw[Ii]at d;split at d<;>cases d
  have I:vs[i]?=a5 v:=by
   unfold start at d;rw[ve (by simpa using t),nt]at d;cases e:vs[i]? with
   |none=>rw[e]at d;cases d
   |some a=>rw[e]at d;cases d;rfl
  have⟨u,D,J⟩:=r.get I;have m:l[i]?=a5 y:=by
   rw[<-S.pre,QF ⋯];show o
  have G:l.Nodup:=by rw[<-S.pre];show S.nd.sublist (Up _ _)
  show⟨u,J,?_⟩;rcases S.par y (Hb m) with k|k
  .show .inl ⟨k,ij G m D k⟩
  .have⟨c,e⟩:=gE (n:=s.heap.objs.size+1) k;show .inr ⟨.inl k,c,e,?_⟩;have q:=x.cell y c e;rw[il G m D (by change scope.names.lookup y≠_;rw[k];decide)]at q;show q
 .show j.EN.fresh (JY (x.above y c (PySem.mem_of_lookup h)))
 .unfold start;change _=N.length;rw[gc,eh,Ma];lia
def A4{K:PySem.W.Frag}{B kV g C d ct O:d6}
 (lk:K.lookup f=a5 ⟨O,od,.func (PySem.W.fnOf name a c body scope B kV g C T d ct),Jh⟩) (Y:PySem.W.codeIn K d a=b7) (S:cJ N m scope)
    (h:∀vs H Q E,sp vs H Q E->vs.length=m.length)
    (GG:∀(A:Ke) (outer:List Env) (s:fx) (H:Hp) (vs:List V) (Q:VK) (E:XK),ja k (A.deeper (P5 a scope s.heap.objs.size f d))->sp vs H Q E ->
      ∃t,FF (Kz CX P w K mg base N a scope f d A outer s H E) body t/\t {nx:=λ_ H'=>Q .EU H',rt:=Q} (start N vs) H) :
    oJ P w K mg base CX (k+1) f (PySem.W.fnOf name a c body scope B kV g C T d ct) m sp:=by
  show⟨h,λA outer s H args us vs Q E D i hb r G=>?_⟩;have hl:=h _ _ _ _ G;have L:K.In s.heap:=i.mod.IA.keeps λb o e=>(i.bs b o e).1;have p:s.heap.NoLimit:=i.mod.nolimit.keeps λb o e=>(i.bs b o e).1;have HI:∀y∈m.zip us,scope.names.lookup y.1=a5 .local\/(scope.names.lookup y.1=a5 .cell/\((Ky (s.heap.objs.size+1) scope.names []).lookup y.1).isSome=b7):=λ⟨n,v⟩ hy=>by
    rcases S.par n (RE hy).1 with q|q
    . show .inl q
    . show .inr ⟨q,PySem.W.cellsFrom_some _ _ _ (.inl q)⟩
  show WH (by have:=D.dp;lia) (L _ _ lk) rfl S.co S.gen rfl (PySem.W.codeRec_of L Y) (hb _ _ _ _ ?_);show Vy S.kind HI λenv he s1 x=>?_;subst he;show⟨p.keeps x.toInCall.keep,codeAny_func ?_⟩;have⟨t,ht,hq⟩:=GG A outer s H vs Q E (D.deeper _) G;have I:Inv (Kz CX P w K mg base N a scope f d A outer s H E) [] (start N vs) H s1:=pZ S i hl r x;show vz (ht [] s1 (start N vs) H _ I hq) (λfl s' hs=>?_) λe s' hs=>hs;have j:∀{l:St} {H':Hp} {v:V} {u:d6},Inv (Kz CX P w K mg base N a scope f d A outer s H E) [] l H' s'->RelV v u->Q v H'->CE outer P w H s Q u s' :=
    λ{l H' v u} J z q=>⟨v,H',J.os,J.bare,J.base,J.EN,z,q⟩
  cases fl with
  | ret u =>
    have⟨v,l,H',J,z,q⟩:=hs;show j J z q
  | next =>
    have⟨l,H',J,q⟩:=hs;show j (v:=V.EU) (u:=Fq) J rfl q
  | brk =>
    obtain⟨_,_,_,q⟩:=hs;show Kf q
  | cont =>
    obtain⟨_,_,_,q⟩:=hs;show Kf q
section
@[reducible]noncomputable def Cx.E2(X:Cx)(e:gs):Cx:={X with A:=X.A.mark (a5 (.ref e)),calm:=cb,xe:=λ_ _=>False}
def Inv.E2(I:Inv X pins σ H s):Inv (X.E2 e) pins σ H s :=
 ⟨⟨I.ok.mod,I.ok.kind,I.ok.glob,I.ok.blt,I.ok.above,I.ok.inj,I.ok.has,I.ok.JD,λz=>(nomatch z),I.ok.frames,I.ok.Kg,I.ok.Mj,I.ok.bs,I.ok.HF,I.ok.GZ,I.ok.Hn,I.ok.gz,I.ok.IB⟩,I.os,I.bare,I.base,I.loc,I.cell,I.free,I.E1,I.pin,I.EN,I.len⟩
def Inv.Ey(ok:X.Ok)(I:Inv (X.E2 e) pins σ H s):Inv X pins σ H s :=
 ⟨ok,I.os,I.bare,I.base,I.loc,I.cell,I.free,I.E1,I.pin,I.EN,I.len⟩
def yk(F:oJ X.prog X.w X.K X.mg X.base CX k f d b sp)(g:ja k X.A)(i:Binds X.K d b [])(I:Inv X pins σ H s)(r:Vals vs us)(h:sp vs H Q E)
  (j:∀e s',CX X.stack H s E e s'->EE e s'):eH (ko X.prog X.w) X.A (Nk (.ref f) us) (EP X pins σ Q) EE s:=by
 have hl:us.length=b.length:=by rw[<-r.length];show F.len _ _ _ _ h
 have c:=i s us I.G0 (by rw[w6];show hl);rw[w6]at c;show UD (Mc (F.run X.A X.stack s H ⟨us,[]⟩ us vs Q E g I.AD c r h) λr s' a=>?_);cases r with
 |error e=>show j e s' a
 |ok l =>
  cases l with
  |ret u=>show I.after a
  |_=>show Kf a
end
end L2
namespace TM
open PySem L2
inductive U where
 |EU|bl (b:Bool)|int (i:Int)|str (x:Str)
 |tup (xs:List U)|lst (xs:List U)
 |FT (ks:List Str) (vs:List U)|Fw (ks:List cu)
mutual
noncomputable def Fc:U->Bool
 |.tup xs=>eW xs
 |.lst _=>cb
 |.FT _ _=>cb
 |.Fw _=>cb
 |.EU=>b7|.bl _=>b7|.int _=>b7|.str _=>b7
noncomputable def eW:List U->Bool
 |[]=>b7
 |u::us=>Fc u&&eW us
end
inductive Kd where|own|io|loc|any|bor (j:Nat)|ES
deriving DecidableEq
abbrev Kd.root:Kd->Bool
 |.own=>b7
 |.io=>b7
 |_=>cb
@[reducible]noncomputable def ar:=List (Option (Kd×U))
structure Ct where
 P:vu
 w:DD
 K:PySem.W.Frag
 H₀:Hp
 Hj:gs->Prop
 IO:gs->Prop
 xw:U->Hp->Prop
abbrev KL(K:PySem.W.Frag)(a:gs)(xs:List V):Prop :=
 ∃(o:Obj) (b:Array d6) (n:Nat),K.lookup a=a5 o/\o.cls=.type "list"/\o.dict=b6/\o.data=.seq b n/\b.size<=df/\Vals xs b.toList
abbrev LH(K:PySem.W.Frag)(S:gs->Prop)(H:Hp)(a:gs)(vs:List V):Prop:=(S a/\Rd H a (.lst vs))\/KL K a vs
def LH.sq(h:LH K S H a vs):Fm K H a vs:=h.elim (λz=>.inl z.2) .inr
abbrev Jr(H:Hp)(R:List V->Prop)(a:gs)(c:List Str):Prop:=∃b:List (Key×V),H a=a5 (.dK b)/\b.map (·.1)=c.map JT/\R (b.map (·.2))
section
variable(C:Ct)(S:gs->Prop)(H:Hp)
mutual
def Rep:U->V->Prop
 |.EU,v=>v=.EU
 |.bl b,v=>v=.bl b
 |.int i,v=>v=.int i
 |.str x,v=>v=.str x
 |.tup us,v=>∃a vs,v=.ref a/\Fe C.K H a vs/\ao us vs
 |.lst us,v=>∃a vs,v=.ref a/\LH C.K S H a vs/\ao us vs
 |.FT c us,v=>∃a,v=.ref a/\S a/\Jr H (ao us) a c
 |.Fw c,v=>∃a,v=.ref a/\S a/\eB C.P C.w C.K H a c
def ao:List U->List V->Prop
 |[],vs=>vs=[]
 |u::us,vs=>∃v r,vs=v::r/\Rep u v/\ao us r
end
end
def Tp:HO->Prop
 |.tup _=>True
 |.F9 _ (.tup _)=>True
 |_=>False
structure Mv(S:gs->Prop)(H:Hp)(S':gs->Prop)(H':Hp):Prop where
 sub:∀a,S a->S' a
 MA:∀a o,H a=a5 o->Tp o->H' a=a5 o
 MB:∀a o,S a->H a=a5 o->H' a=a5 o
def Mv.Oc(m:Mv S H S' H')(h:Fe K H a vs):Fe K H' a vs:=by
 rcases h with(h|⟨o,h⟩)|h
 .show .inl (.inl (m.MA a _ h trivial))
 .show .inl (.inr ⟨o,m.MA a _ h trivial⟩)
 .show .inr h
def Mv.Sj(m:Mv S H S' H')(h:LH K S H a vs):LH K S' H' a vs:=by
 rcases h with⟨s,h|⟨o,h⟩⟩|h
 .show .inl ⟨m.sub a s,.inl (m.MB a _ s h)⟩
 .show .inl ⟨m.sub a s,.inr ⟨o,m.MB a _ s h⟩⟩
 .show .inr h
def Mv.row(m:Mv S H S' H')(h:dH K H v r):dH K H' v r :=
 let ⟨a,b,e,c,d⟩:=h;⟨a,b,e,m.Oc c,m.Oc d⟩
def Jr.mv(b:∀o,H a=a5 o->H' a=a5 o)(c:∀vs,R vs->d vs)(h:Jr H R a e):Jr H' d a e :=
 let ⟨f,g,i,j⟩:=h;⟨f,b _ g,i,c _ j⟩
def Mv.rA(m:Mv S H S' H')(b:∀o,H a=a5 o->H' a=a5 o)(h:eB P w K H a c):eB P w K H' a c :=
 let ⟨xs,d,e,f⟩:=h;⟨xs,b _ d,e,λx g=>m.row (f x g)⟩
section
mutual
theorem Rep.Js(m:Mv S H S' H'):∀(u:U) (v:V),Rep C S H u v->Rep C S' H' u v
 |.EU,_,h=>h
 |.bl _,_,h=>h
 |.int _,_,h=>h
 |.str _,_,h=>h
 |.tup us,v,h=>by
  have⟨a,vs,e,b,c⟩:=h;show⟨a,vs,e,m.Oc b,ao.Js m us vs c⟩
 |.lst us,v,h=>by
  have⟨a,vs,e,b,c⟩:=h;show⟨a,vs,e,m.Sj b,ao.Js m us vs c⟩
 |.FT d us,v,h=>by
  have⟨a,e,b,c⟩:=h;show⟨a,e,m.sub a b,c.mv (λo q=>m.MB a o b q) λvs q=>ao.Js m us vs q⟩
 |.Fw d,v,h=>by
  have⟨a,e,b,c⟩:=h;show⟨a,e,m.sub a b,m.rA (λo q=>m.MB a o b q) c⟩
theorem ao.Js(m:Mv S H S' H'):∀(us:List U) (vs:List V),ao C S H us vs->ao C S' H' us vs
 |[],_,h=>h
 |u::us,vs,h=>by
  have⟨v,r,e,a,b⟩:=h;show⟨v,r,e,Rep.Js m u v a,ao.Js m us r b⟩
end
mutual
theorem Rep.tM:∀(u:U) (v:V),Fc u=b7->Rep C S H u v->Rep C S' H u v
 |.EU,_,_,h=>h
 |.bl _,_,_,h=>h
 |.int _,_,_,h=>h
 |.str _,_,_,h=>h
 |.tup us,v,i,h=>by
  have⟨a,vs,e,b,c⟩:=h;show⟨a,vs,e,b,ao.tM us vs (by simpa[TM.Fc] using i) c⟩
 |.lst us,v,i,h=>by simp[TM.Fc]at i
 |.FT d us,v,i,h=>by simp[TM.Fc]at i
 |.Fw d,v,i,h=>by simp[TM.Fc]at i
theorem ao.tM:∀(us:List U) (vs:List V),eW us=b7->ao C S H us vs->ao C S' H us vs
 |[],_,_,h=>h
 |u::us,vs,i,h=>by
  have⟨v,r,e,b,c⟩:=h;have a:TM.Fc u=b7/\eW us=b7:=by simpa[eW] using i
  show⟨v,r,e,Rep.tM u v a.1 b,ao.tM us r a.2 c⟩
end
def Rep.mv(m:Mv S H S' H')(h:Rep C S H u v):Rep C S' H' u v:=Rep.Js m u v h
def ao.mv(m:Mv S H S' H')(h:ao C S H us vs):ao C S' H' us vs:=ao.Js m us vs h
def Rep.Fc(i:TM.Fc u=b7)(h:Rep C S H u v):Rep C S' H u v:=Rep.tM u v i h
def ao.Fc(i:eW us=b7)(h:ao C S H us vs):ao C S' H us vs:=ao.tM us vs i h
def Mv.up(sub:∀a,S a->S' a):Mv S H S' H:=⟨sub,λ_ _ h _=>h,λ_ _ _ h=>h⟩
theorem ao.len:∀{us:List U}{vs:List V},ao C S H us vs->us.length=vs.length
 |[],_,h=>by cases h;rfl
 |u::us,vs,h=>by
  obtain⟨v,r,rfl,_,a⟩:=h;rw[lx,lx,ao.len a]
theorem ao.get:∀{us:List U}{vs:List V}{i:Nat}{u:U},ao C S H us vs->us[i]?=a5 u->∃v,vs[i]?=a5 v/\Rep C S H u v
 |[],_,_,_,_,e=>by simp at e
 |u::us,vs,0,w,h,e=>by
  obtain⟨v,r,rfl,a,_⟩:=h;simp at e;subst e;show⟨v,rfl,a⟩
 |u::us,vs,i+1,w,h,e=>by
  obtain⟨v,r,rfl,_,b⟩:=h;have⟨c,d,h'⟩:=ao.get (i:=i) (u:=w) b (by simpa using e);show⟨c,by simpa using d,h'⟩
theorem ao.append:∀{us ws:List U}{vs a:List V},ao C S H us vs->ao C S H ws a->ao C S H (us++ws) (vs++a)
 |[],_,_,_,h,h'=>by cases h;show h'
 |u::us,ws,vs,a,h,h'=>by
  have⟨v,r,rfl,b,c⟩:=h;show⟨v,r++a,rfl,b,c.append h'⟩
theorem ao.take:∀{us:List U}{vs:List V} (n:Nat),ao C S H us vs->ao C S H (us.take n) (vs.take n)
 |_,_,0,_=>by simp[ao]
 |[],_,n+1,h=>by cases h;simp[ao]
 |u::us,vs,n+1,h=>by
  have⟨v,r,rfl,a,b⟩:=h;show⟨v,r.take n,rfl,a,b.take n⟩
theorem ao.drop:∀{us:List U}{vs:List V} (n:Nat),ao C S H us vs->ao C S H (us.drop n) (vs.drop n)
 |_,_,0,h=>h
 |[],_,n+1,h=>by cases h;simp[ao]
 |u::us,vs,n+1,h=>by
  have⟨v,r,rfl,b,a⟩:=h;show a.drop n
theorem ao.set:∀{us:List U}{vs:List V} (n:Nat) {u:U}{v:V},ao C S H us vs->Rep C S H u v->ao C S H (us.set n u) (vs.set n v)
 |[],_,n,_,_,h,_=>by cases h;simp[ao]
 |u::us,vs,0,_,_,h,h'=>by
  have⟨v,r,rfl,b,a⟩:=h;show⟨_,r,rfl,h',a⟩
 |u::us,vs,n+1,_,_,h,h'=>by
  have⟨v,r,rfl,b,a⟩:=h;show⟨v,_,rfl,b,a.set n h'⟩
def ao.snoc(h:ao C S H us vs)(h':Rep C S H u v):ao C S H (us++[u]) (vs++[v]):=h.append ⟨v,[],rfl,h',rfl⟩
theorem ao.strs:∀{xs:List Str}{vs:List V},ao C S H (xs.map .str) vs↔vs=xs.map V.str
 |[],vs=>by simp[ao]
 |x::xs,vs=>by
  constructor
  .rintro⟨v,r,rfl,a,b⟩;rw[ao.strs.mp b];have:v=.str x:=a;rw[this];rfl
  .rintro rfl;show⟨_,_,rfl,rfl,ao.strs.mpr rfl⟩
end
structure Ct.Eqv(C C':Ct):Prop where
 P:C.P=C'.P
 w:C.w=C'.w
 K:C.K=C'.K
section
mutual
theorem Rep.Jt(q:C.Eqv d):∀(u:U) (v:V),Rep C S H u v->Rep d S H u v
 |.EU,_,h=>h
 |.bl _,_,h=>h
 |.int _,_,h=>h
 |.str _,_,h=>h
 |.tup us,v,h=>by
  have⟨a,vs,e,b,c⟩:=h;show⟨a,vs,e,q.K▸b,ao.Jt q us vs c⟩
 |.lst us,v,h=>by
  have⟨a,vs,e,b,c⟩:=h;show⟨a,vs,e,q.K▸b,ao.Jt q us vs c⟩
 |.FT f us,v,h=>by
  have⟨a,e,b,c⟩:=h;show⟨a,e,b,c.mv (λ_ q=>q) λvs z=>ao.Jt q us vs z⟩
 |.Fw f,v,h=>by
  have⟨a,e,b,c⟩:=h;show⟨a,e,b,by rw[<-q.P,<-q.w,<-q.K];show c⟩
theorem ao.Jt(q:C.Eqv a):∀(us:List U) (vs:List V),ao C S H us vs->ao a S H us vs
 |[],_,h=>h
 |u::us,vs,h=>by
  have⟨v,r,e,b,c⟩:=h;show⟨v,r,e,Rep.Jt q u v b,ao.Jt q us r c⟩
end
def Rep.cg(q:C.Eqv a)(h:Rep C S H u v):Rep a S H u v:=Rep.Jt q u v h
def ao.cg(q:C.Eqv a)(h:ao C S H us vs):ao a S H us vs:=ao.Jt q us vs h
end
def cB(C:Ct)(S:gs->Prop)(H:Hp)(r:gs):U->Prop
 |.lst us=>∃vs,H r=a5 (.lst vs)/\ao C S H us vs
 |.FT a us=>Jr H (ao C S H us) r a
 |.Fw a=>eB C.P C.w C.K H r a
 |_=>False
def cB.mv(m:Mv S H S' H')(a:∀o,H r=a5 o->H' r=a5 o)(h:cB C S H r u):cB C S' H' r u:=by
 cases u with
 |lst us=>have⟨vs,b,c⟩:=h;show⟨vs,a _ b,c.mv m⟩
 |FT d us=>show Jr.mv a (λvs q=>q.mv m) h
 |Fw d=>show m.rA a h
 |_=>show h
def cB.rep(hs:∀a,S a->S' a)(b:S' r)(h:cB C S H r u):Rep C S' H u (.ref r):=by
 cases u with
 |lst us=>have⟨vs,c,d⟩:=h;show⟨r,vs,rfl,.inl ⟨b,.inl c⟩,d.mv (.up hs)⟩
 |FT e us=>show⟨r,rfl,b,Jr.mv (λ_ q=>q) (λvs q=>q.mv (.up hs)) h⟩
 |Fw e=>show⟨r,rfl,b,h⟩
 |_=>show h.elim
def cB.cg(q:C.Eqv a)(h:cB C S H r u):cB a S H r u:=by
 cases u with
 |lst us=>have⟨vs,b,c⟩:=h;show⟨vs,b,c.cg q⟩
 |FT d us=>show Jr.mv (λ_ q=>q) (λvs z=>z.cg q) h
 |Fw d=>change eB _ _ _ _ _ _;rw[<-q.P,<-q.w,<-q.K];show h
 |_=>show h
def cB.some(h:cB C S H r u):∃o,H r=a5 o/\¬Tp o:=by
 cases u with
 |lst us=>obtain⟨vs,a,_⟩:=h;show⟨_,a,λz=>z⟩
 |FT b us=>obtain⟨c,a,_⟩:=h;show⟨_,a,λz=>z⟩
 |Fw b=>obtain⟨xs,a,_⟩:=h;show⟨_,a,λz=>z⟩
 |_=>show h.elim
structure Cf where
 S:gs->Prop
 H:Hp
 σ:St
 st:ar
 kid:Nat->List gs
abbrev Cf.R1(c:Cf)(a:gs):Prop:=∃(j:Nat) (k:Kd) (u:U),k.root=b7/\c.st[j]?=a5 (a5 (k,u))/\c.σ[j]?=a5 (a5 (.ref a))
abbrev Cf.RD(c:Cf)(j:Nat)(a:gs):Prop:=∃(u:U) (r:gs),c.st[j]?=a5 (a5 (.ES,u))/\c.σ[j]?=a5 (a5 (.ref r))/\(a=r\/a∈c.kid j)
abbrev Cf.R(c:Cf)(a:gs):Prop:=c.R1 a\/∃j,c.RD j a
abbrev PS(C:Ct)(S:gs->Prop):gs->Prop:=λa=>C.Hj a\/S a
def eX(C:Ct)(S:gs->Prop)(H:Hp):Kd->U->V->Prop
 |.own,u,v=>∃r,v=.ref r/\¬S r/\¬C.Hj r/\C.H₀ r=b6/\cB C S H r u
 |.io,u,v=>∃r,v=.ref r/\¬S r/\¬C.Hj r/\C.IO r/\cB C S H r u
 |.loc,u,v=>Rep C S H u v
 |.any,u,v=>Rep C (PS C S) H u v
 |.bor _,_,_=>False
 |.ES,_,v=>∃r,v=.ref r
def mY(C:Ct)(S:gs->Prop)(H:Hp):List U->List gs->Prop
 |[],as=>as=[]
 |u::us,as=>∃a b c vs,as=a::b/\u=.lst c/\H a=a5 (.lst vs)/\ao C S H c vs/\mY C S H us b
def eY(C:Ct)(S:gs->Prop)(H:Hp)(r:gs)(as:List gs):U->Prop
 |.FT c us=>∃b:List (Key×V),H r=a5 (.dK b)/\b.map (·.1)=c.map JT/\b.map (·.2)=as.map V.ref/\(r::as).Nodup/\(∀a∈r::as,¬S a/\¬C.Hj a/\C.H₀ a=b6)/\mY C S H us as
 |_=>False
structure Ht(C:Ct)(c:Cf):Prop where
 kd:∀(j:Nat) (u:U) (r:gs),c.st[j]?=a5 (a5 (.ES,u))->c.σ[j]?=a5 (a5 (.ref r))->eY C c.S c.H r (c.kid j) u
 dj:∀(i j:Nat) (a:gs),c.RD i a->c.RD j a->i=j
 d1:∀(j:Nat) (a:gs),c.RD j a->¬c.R1 a
structure Ok(C:Ct)(c:Cf):Prop where
 same:∀a o,C.H₀ a=a5 o->¬C.IO a->c.H a=a5 o
 G8:∀a,c.S a->C.H₀ a=b6/\∃o,c.H a=a5 o
 par:∀a,C.Hj a->(∃o,C.H₀ a=a5 o)/\¬C.IO a
 io:∀a,C.IO a->(∃o,C.H₀ a=a5 o)/\∃o,c.H a=a5 o
 len:c.st.length=c.σ.length
 sl:∀(i:Nat) (k:Kd) (u:U),c.st[i]?=a5 (a5 (k,u))->∃v,c.σ[i]?=a5 (a5 v)/\eX C c.S c.H k u v
 inj:∀(i j:Nat) (k k':Kd) (u u':U) (r:gs),k.root=b7->k'.root=b7->c.st[i]?=a5 (a5 (k,u))->c.st[j]?=a5 (a5 (k',u'))->c.σ[i]?=a5 (a5 (.ref r))->c.σ[j]?=a5 (a5 (.ref r))->i=j
 dd:Ht C c
structure Ns(c c':Cf):Prop where
 keep:∀a o,c.H a=a5 o->¬c.R a->c'.H a=a5 o
 there:∀a o,c.H a=a5 o->∃o',c'.H a=a5 o'
 roots:∀a,c'.R a->c.R a\/c.H a=b6
 sub:∀a,c.S a->c'.S a
 new:∀a,c'.S a->c.S a\/c.R a\/c.H a=b6
section
def Ns.refl(c:Cf):Ns c c:=⟨λ_ _ h _=>h,λ_ o h=>⟨o,h⟩,λ_ h=>.inl h,λ_ h=>h,λ_ h=>.inl h⟩
def Ns.none(n:Ns c b)(h:b.H a=.none):c.H a=.none:=by
 cases e:c.H a with
 |none=>rfl
 |some o=>have⟨d,q⟩:=n.there a o e;rw[h]at q;cases q
def Ns.trans(m:Ns c d)(n:Ns d e):Ns c e where
 keep:=λa o h b=>by
  show n.keep a o (m.keep a o h b) λz=>?_;rcases m.roots a z with z|z
  .show b z
  .rw[h]at z;cases z
 there:=λa o h=>let ⟨f,h'⟩:=m.there a o h;n.there a f h'
 roots:=λa h=>by
  rcases n.roots a h with z|z
  .show m.roots a z
  .show .inr (m.none z)
 sub:=λa h=>n.sub a (m.sub a h)
 new:=λa h=>by
  rcases n.new a h with z|z|z
  .show m.new a z
  .rcases m.roots a z with z|z
   .show .inr (.inl z)
   .show .inr (.inr z)
  .show .inr (.inr (m.none z))
def eX.rt(hk:k.root=b7)(h:eX C S H k u v):∃r,v=.ref r/\¬S r/\¬C.Hj r/\(C.H₀ r=b6\/C.IO r)/\cB C S H r u:=by
 cases k with
 |own=>have⟨r,a,b,c,d,e⟩:=h;show⟨r,a,b,c,.inl d,e⟩
 |io=>have⟨r,a,b,c,d,e⟩:=h;show⟨r,a,b,c,.inr d,e⟩
 |_=>cases hk
theorem mY.mem:∀{us:List U}{as:List gs}{a:gs},mY C S H us as->a∈as->∃vs,H a=a5 (.lst vs)
 |[],as,a,h,ha=>by cases h;cases ha
 |u::us,as,a,h,ha=>by
  obtain⟨d,e,f,vs,rfl,_,b,_,c⟩:=h;rcases fz.mp ha with rfl|ha
  .show⟨vs,b⟩
  .show mY.mem c ha
theorem mY.mv(m:Mv S H S' H'):∀{us:List U}{as:List gs},(∀a∈as,∀o,H a=a5 o->H' a=a5 o)->mY C S H us as->mY C S' H' us as
 |[],as,_,h=>h
 |u::us,as,b,h=>by
  have⟨a,c,d,vs,rfl,e,f,g,i⟩:=h;show⟨a,c,d,vs,rfl,e,b a (by simp) _ f,g.mv m,mY.mv m (λa j=>b a (by simp[j])) i⟩
def eY.fr(h:eY C S H r as u):∀a∈r::as,¬S a/\¬C.Hj a/\C.H₀ a=b6:=by
 cases u<;>first|show h.elim|(obtain⟨c,_,_,_,_,b,_⟩:=h;show b)
def eY.there(h:eY C S H r as u):∀a∈r::as,∃o,H a=a5 o/\¬Tp o:=by
 cases u<;>first|show h.elim|skip
 obtain⟨d,b,_,_,_,_,c⟩:=h;intro a ha;rcases fz.mp ha with rfl|ha
 .show⟨_,b,λz=>z⟩
 .have⟨vs,e⟩:=c.mem ha;show⟨_,e,λz=>z⟩
def eY.mv(m:Mv S H S' H')(c:∀a∈r::as,¬S' a/\∀o,H a=a5 o->H' a=a5 o)(h:eY C S H r as u):eY C S' H' r as u:=by
 cases u<;>first|show h.elim|skip
 have⟨d,e,f,g,i,j,k⟩:=h;show⟨d,(c r (by simp)).2 _ e,f,g,i,λa b=>⟨(c a b).1,(j a b).2⟩,k.mv m λa b=>(c a (by simp[b])).2⟩
def Ht.of(d:Ht C c)(hk:e.kid=c.kid)(p:∀(j:Nat) (u:U),e.st[j]?=a5 (a5 (.ES,u))->c.st[j]?=a5 (a5 (.ES,u))/\e.σ[j]?=c.σ[j]?)(s:∀a,e.R1 a->c.R1 a\/∀j,¬c.RD j a)
  (m:Mv c.S c.H e.S e.H) (t:∀j a,c.RD j a->¬e.S a/\∀o,c.H a=a5 o->e.H a=a5 o):Ht C e:=by
 have b:∀j a,e.RD j a->c.RD j a:=λj a v=>by
  have⟨u,r,k,f,q⟩:=v;have⟨g,l⟩:=p j u k;rw[l]at f;rw[hk]at q;show⟨u,r,g,f,q⟩
 show⟨λj u r k f=>?_,λi j a h n=>d.dj i j a (b i a h) (b j a n),λj a h n=>?_⟩
 .have⟨g,l⟩:=p j u k;rw[l]at f;rw[hk];show eY.mv m (λa w=>t j a ⟨u,r,g,f,fz.mp w⟩) (d.kd j u r g f)
 .rcases s a n with z|z
  .show d.d1 j a (b j a h) z
  .show z j (b j a h)
def Ht.hs(d:Ht C c)(m:Mv c.S c.H S' H')(b:∀j a,c.RD j a->¬S' a/\∀o,c.H a=a5 o->H' a=a5 o):Ht C {c with H:=H',S:=S' } :=
 d.of rfl (λ_ _ e=>⟨e,rfl⟩) (λ_ z=>.inl z) m b
def Ok.root(ok:Ok C c)(h:c.R r):¬c.S r/\¬C.Hj r/\(C.H₀ r=b6\/C.IO r)/\∃o,c.H r=a5 o/\¬Tp o:=by
 rcases h with⟨j,k,u,hk,b,d⟩|⟨j,u,f,b,d,a⟩
 .have⟨v,e,hs⟩:=ok.sl j _ _ b;have⟨f,ev,a,i,l,m⟩:=hs.rt hk;rw[d]at e;cases e;cases ev;show⟨a,i,l,m.some⟩
 .have g:=ok.dd.kd j u f b d;have⟨n,p,q⟩:=eY.fr g r (fz.mpr a);show⟨n,p,.inl q,eY.there g r (fz.mpr a)⟩
def Ok.mv(ok:Ok C c)(n:Ns c b):Mv c.S c.H b.S b.H:=⟨n.sub,λa o h t=>n.keep a o h λz=>by
  obtain⟨_,_,_,e,h',d⟩:=ok.root z;rw[h]at h';cases h';show d t,λa o s h=>n.keep a o h λz=>(ok.root z).1 s⟩
def Ok.KC(ok:Ok C c)(n:Ns c b):Mv (PS C c.S) c.H (PS C b.S) b.H:=⟨λa h=>h.imp id (n.sub a),(ok.mv n).MA,λa o s h=>n.keep a o h λz=>by
  rcases s with s|s
  .show(ok.root z).2.1 s
  .show(ok.root z).1 s⟩
def Ok.mZ(ok:Ok C c)(h:c.H p=b6):C.H₀ p=b6/\¬c.S p/\¬C.Hj p/\¬C.IO p/\¬c.R p:=by
 have a:¬C.IO p:=λz=>by obtain⟨_,o,q⟩:=ok.io p z;rw[h]at q;cases q
 have b:C.H₀ p=b6:=by
  cases e:C.H₀ p with
  |none=>rfl
  |some o=>have:=ok.same p o e a;rw[h]at this;cases this
 show⟨b,λz=>?_,λz=>?_,a,λz=>?_⟩
 .obtain⟨_,o,q⟩:=ok.G8 p z;rw[h]at q;cases q
 .obtain⟨⟨o,q⟩,_⟩:=ok.par p z;rw[b]at q;cases q
 .obtain⟨_,_,_,o,q,_⟩:=ok.root z;rw[h]at q;cases q
def eX.mv(m:Mv S H S' H')(i:Mv (PS C S) H (PS C S') H')(g:k.root=b7->∀r,v=.ref r->¬S' r/\∀o,H r=a5 o->H' r=a5 o)(h:eX C S H k u v):eX C S' H' k u v:=by
 cases k with
 |own =>
  have⟨r,e,l,a,b,c⟩:=h;have⟨d,f⟩:=g rfl r e;show⟨r,e,d,a,b,c.mv m f⟩
 |io =>
  have⟨r,e,l,a,b,c⟩:=h;have⟨d,f⟩:=g rfl r e;show⟨r,e,d,a,b,c.mv m f⟩
 |loc=>show Rep.mv m h
 |any=>show Rep.mv i h
 |bor j=>show h.elim
 |ES=>show h
structure Nx(c c':Cf):Prop extends Ns c c' where
instance {c a:Cf}:Coe (Nx c a) (Ns c a):=⟨Nx.toNs⟩
def Nx.refl(c:Cf):Nx c c:=⟨.refl c⟩
def Nx.trans(m:Nx c a)(n:Nx a b):Nx c b:=⟨m.toNs.trans n.toNs⟩
def Nx.none(n:Nx c b)(h:b.H a=.none):c.H a=.none:=n.toNs.none h
def Ok.lay(ok:Ok C c)(h:c.H p=b6):Ok C {c with H:=upd c.H p o}/\Nx c {c with H:=upd c.H p o}:=by
 have ne:∀{a:gs} {b:HO},c.H a=a5 b->a≠p:=λe z=>by subst z;rw[h]at e;cases e
 have d:∀a b,c.H a=a5 b->(upd c.H p o) a=a5 b:=λa b e=>by rw[aw (ne e)];show e
 have nx:Nx c {c with H:=upd c.H p o}:=⟨⟨λa b e _=>d a b e,λa b e=>⟨b,d a b e⟩,λa z=>.inl z,λ_ z=>z,λ_ z=>.inl z⟩⟩
 show⟨⟨λa b e z=>d a b (ok.same a b e z),λa z=>⟨(ok.G8 a z).1,let ⟨b,q⟩:=(ok.G8 a z).2;⟨b,d a b q⟩⟩,ok.par,λa z=>⟨(ok.io a z).1,let ⟨b,q⟩:=(ok.io a z).2;⟨b,d a b q⟩⟩,ok.len,λi k u e=>?_,ok.inj,ok.dd.hs (ok.mv nx.toNs) λj a z=>⟨(ok.root (.inr ⟨j,z⟩)).1,λb e=>d a b e⟩⟩,nx⟩;have⟨v,l,f⟩:=ok.sl i k u e;show⟨v,l,f.mv (ok.mv nx.toNs) (ok.KC nx.toNs) λhk r m=>?_⟩;obtain⟨s,g,n,_⟩:=f.rt hk;rw[m]at g;cases g;show⟨n,λb e=>d r b e⟩
def Ok.grow(ok:Ok C c)(hs:kR c.H H')(g:∀a,S' a->c.S a\/(c.H a=b6/\∃o,H' a=a5 o))(p:∀a,c.S a->S' a):Ok C {c with H:=H',S:=S' }/\Nx c {c with H:=H',S:=S' }:=by
 have nx:Nx c {c with H:=H',S:=S' }:=⟨⟨λa b e _=>hs a b e,λa b e=>⟨b,hs a b e⟩,λa z=>.inl z,p,λa z=>(g a z).imp id λq=>.inr q.1⟩⟩
 show⟨⟨λa b e z=>hs a b (ok.same a b e z),λa z=>?_,ok.par,λa z=>⟨(ok.io a z).1,let ⟨b,q⟩:=(ok.io a z).2;⟨b,hs a b q⟩⟩,ok.len,λi k u e=>?_,ok.inj,ok.dd.hs (ok.mv nx.toNs) λj a z=>⟨λd=>?_,λb e=>hs a b e⟩⟩,nx⟩
 rotate_left 2
 .obtain⟨f,_,_,o,h,_⟩:=ok.root (.inr ⟨j,z⟩);rcases g a d with d|⟨d,_⟩
  .show f d
  .rw[h]at d;cases d
 .rcases g a z with q|⟨f,l⟩
  .show⟨(ok.G8 a q).1,let ⟨b,q⟩:=(ok.G8 a q).2;⟨b,hs a b q⟩⟩
  .show⟨(ok.mZ f).1,l⟩
 .have⟨v,s,m⟩:=ok.sl i k u e;show⟨v,s,m.mv (ok.mv nx.toNs) (ok.KC nx.toNs) λhk r t=>?_⟩;have⟨w,n,f,l,x,h⟩:=m.rt hk;rw[t]at n;cases n;obtain⟨o,ho,_⟩:=h.some;show⟨λz=>?_,λb e=>hs r b e⟩;rcases g r z with z|⟨z,_⟩
  .show f z
  .rw[z]at ho;cases ho
def aJ(C:Ct)(a c:Cf):Kd->U->V->Prop
 |.own,u,v=>∃r,v=.ref r/\a.H r=b6/\¬c.S r/\¬c.R r/\cB C c.S c.H r u
 |.loc,u,v=>Rep C c.S c.H u v
 |.any,u,v=>Rep C (PS C c.S) c.H u v
 |.bor j,u,v=>(∃k:Kd,k.root=b7/\c.st[j]?=a5 (a5 (k,u)))/\c.σ[j]?=a5 (a5 v)
 |.io,_,_=>False
 |.ES,_,_=>False
def eZ(C:Ct)(a c:Cf):Kd->U->V->Prop
 |.own,u,v=>∃r,v=.ref r/\a.H r=b6/\¬c.S r/\¬c.R r/\cB C c.S c.H r u
 |.loc,u,v=>Rep C c.S c.H u v
 |.any,u,v=>Rep C (PS C c.S) c.H u v
 |.bor j,u,v=>c.σ[j]?=a5 (a5 v)
 |.io,_,_=>False
 |.ES,_,_=>False
def aJ.w(h:aJ C a c k u v):eZ C a c k u v:=by
 cases k with
 |bor j=>show h.2
 |_=>show h
def eZ.P_(ok:Ok C c)(n:Ns c a)(f:∀j,k=.bor j->a.σ[j]?=c.σ[j]?)(h:eZ C g c k u v):eZ C g a k u v:=by
 cases k with
 |own =>
  have⟨r,e,i,l,b,d⟩:=h;obtain⟨o,ho,_⟩:=d.some;show⟨r,e,i,λz=>?_,λz=>?_,d.mv (ok.mv n) λo q=>n.keep r o q b⟩
  .rcases n.new r z with z|z|z
   .show l z
   .show b z
   .rw[z]at ho;cases ho
  .rcases n.roots r z with z|z
   .show b z
   .rw[z]at ho;cases ho
 |loc=>show Rep.mv (ok.mv n) h
 |any=>show Rep.mv (ok.KC n) h
 |bor j=>change a.σ[j]?=_;rw[f j rfl];show h
 |_=>show h
def eZ.on(ok:Ok C c)(n:Ns c a)(b:a.σ=c.σ)(h:eZ C d c k u v):eZ C d a k u v:=h.P_ ok n λj _=>by rw[b]
def eZ.from(n:Ns a b)(h:eZ C b c k u v):eZ C a c k u v:=by
 cases k with
 |own=>have⟨r,e,d,f⟩:=h;show⟨r,e,n.none d,f⟩
 |_=>show h
def aJ.from(n:Ns a b)(h:aJ C b c k u v):aJ C a c k u v:=by
 cases k with
 |own=>have⟨r,e,d,f⟩:=h;show⟨r,e,n.none d,f⟩
 |_=>show h
def SK(C:Ct)(c:Cf):Kd->gs->Prop
 |.any=>PS C c.S
 |_=>c.S
abbrev kE:Kd->Kd
 |.any=>.any
 |_=>.loc
def Ok.rootOf(ok:Ok C c){j:Nat}(h:∃k:Kd,k.root=b7/\c.st[j]?=a5 (a5 (k,u)))(e:c.σ[j]?=a5 (a5 v)):∃r,v=.ref r/\¬c.S r/\¬C.Hj r/\(C.H₀ r=b6\/C.IO r)/\cB C c.S c.H r u:=by
 have⟨k,hk,h⟩:=h;have⟨d,a,b⟩:=ok.sl j _ _ h;rw[e]at a;cases a;show b.rt hk
def aJ.list(ok:Ok C c)(h:aJ C f c k (.lst us) v):∃a vs,v=.ref a/\Fm C.K c.H a vs/\ao C (SK C c k) c.H us vs:=by
 cases k with
 |own=>obtain⟨r,e,_,_,_,vs,b,d⟩:=h;show⟨r,vs,e,Fm.of b,d⟩
 |bor j=>obtain⟨r,e,_,_,_,vs,b,d⟩:=ok.rootOf h.1 h.2;show⟨r,vs,e,Fm.of b,d⟩
 |io=>show h.elim
 |ES=>show h.elim
 |_=>have⟨a,vs,e,b,d⟩:=h;show⟨a,vs,e,b.sq,d⟩
def aJ.tuple(ok:Ok C c)(h:aJ C f c k (.tup us) v):∃a vs,v=.ref a/\Fe C.K c.H a vs/\ao C (SK C c k) c.H us vs:=by
 cases k with
 |own=>obtain⟨r,e,_,_,_,h⟩:=h;show h.elim
 |bor j=>obtain⟨r,e,_,_,_,h⟩:=ok.rootOf h.1 h.2;show h.elim
 |io=>show h.elim
 |ES=>show h.elim
 |_=>have⟨a,vs,e,b,d⟩:=h;show⟨a,vs,e,b,d⟩
def aJ.flat(ok:Ok C c)(a:Fc u=b7)(h:aJ C b c k u v):Rep C c.S c.H u v:=by
 cases k with
 |own=>obtain⟨r,e,_,_,_,h⟩:=h;cases u<;>simp[Fc]at a<;>show h.elim
 |loc=>show h
 |any=>show Rep.Fc a h
 |bor j=>obtain⟨r,e,_,_,_,h⟩:=ok.rootOf h.1 h.2;cases u<;>simp[Fc]at a<;>show h.elim
 |_=>show h.elim
def aJ.int(ok:Ok C c)(h:aJ C a c k (.int i) v):v=.int i:=h.flat ok rfl
def aJ.str(ok:Ok C c)(h:aJ C a c k (.str x) v):v=.str x:=h.flat ok rfl
def aJ.bl(ok:Ok C c)(h:aJ C a c k (.bl b) v):v=.bl b:=h.flat ok rfl
def aJ.item(h:Rep C (SK C c k) c.H u v):aJ C a c (kE k) u v:=by
 cases k<;>show h
abbrev FY(H:Hp):gs->Prop:=λa=>∃o,H a=a5 o
def Ok.vA(ok:Ok C c):∀a,c.S a->FY c.H a:=λa h=>(ok.G8 a h).2
def Ok.C6(ok:Ok C c):∀a,PS C c.S a->FY c.H a:=λa h=>by
 rcases h with h|h
 .obtain⟨⟨o,e⟩,n⟩:=ok.par a h;show⟨o,ok.same a o e n⟩
 .show ok.vA a h
def aJ.read(ok:Ok C c)(h:aJ C b c k u v):Rep C (FY c.H) c.H u v:=by
 cases k with
 |own =>
  obtain⟨r,e,_,_,_,a⟩:=h;rw[e];obtain⟨o,ho,_⟩:=a.some;show a.rep ok.vA ⟨o,ho⟩
 |loc=>show Rep.mv (.up ok.vA) h
 |any=>show Rep.mv (.up ok.C6) h
 |bor j =>
  obtain⟨r,e,_,_,_,a⟩:=ok.rootOf h.1 h.2;rw[e];obtain⟨o,ho,_⟩:=a.some;show a.rep ok.vA ⟨o,ho⟩
 |_=>show h.elim
def Ok.newList(ok:Ok C c)(n:Nx a c)(h:c.H p=b6)(d:ao C c.S c.H us vs):
  Ok C {c with H:=upd c.H p (.lst vs)}/\Nx a {c with H:=upd c.H p (.lst vs)}/\aJ C a {c with H:=upd c.H p (.lst vs)} .own (.lst us) (.ref p):=by
 have⟨e,b⟩:=ok.lay (o:=.lst vs) h;have⟨i,f,j,k,g⟩:=ok.mZ h;show⟨e,n.trans b,p,rfl,n.none h,f,g,vs,aH,d.mv (ok.mv b.toNs)⟩
def Ok.A5(ok:Ok C c)(n:Nx a c)(h:c.H p=b6)(d:ao C c.S c.H us vs):
  Ok C {c with H:=upd c.H p (.tup vs)}/\Nx a {c with H:=upd c.H p (.tup vs)}/\aJ C a {c with H:=upd c.H p (.tup vs)} .loc (.tup us) (.ref p):=by
 have⟨e,b⟩:=ok.lay (o:=.tup vs) h;show⟨e,n.trans b,p,vs,rfl,Fe.of aH,d.mv (ok.mv b.toNs)⟩
end
inductive Ex(α:Type) where|ok (a:α)|exc (c:Str)
abbrev M(α:Type):=ar->Option (Ex α×ar)
namespace M
abbrev pure(a:α):M α:=λst=>a5 (.ok a,st)
abbrev fail:M α:=λ_=>b6
abbrev bind(m:M α)(f:α->M β):M β:=λst=>match m st with
 |none=>b6
 |some (.ok a,st')=>f a st'
 |some (.exc c,st')=>a5 (.exc c,st')
abbrev E3(o:Option α):M α:=λst=>match o with
 |none=>b6
 |some a=>a5 (.ok a,st)
end M
noncomputable instance:Monad M:={pure:=M.pure,bind:=M.bind}
abbrev W{α:Type}(m:M α)(st:ar)(Q:α->ar->Prop):Prop:=∃a st',m st=a5 (.ok a,st')/\Q a st'
section
def aj:W (pure a) st Q↔Q a st:=by
 constructor
 .rintro⟨b,st',e,h⟩;cases e;show h
 .intro h;show⟨a,st,rfl,h⟩
def ah:W (m >>= f) st Q↔W m st λa st'=>W (f a) st' Q:=by
 constructor
 .rintro⟨b,st',e,h⟩;have d:M.bind m f st=a5 (.ok b,st'):=e;unfold M.bind at d;cases q:m st with
  |none=>rw[q]at d;cases d
  |some r =>
   have⟨r,s1⟩:=r;rw[q]at d;cases r with
   |ok a=>show⟨a,s1,q,b,st',d,h⟩
   |exc c=>cases d
 .rintro⟨a,s1,q,b,st',e,h⟩;show⟨b,st',?_,h⟩;change M.bind m f st=_;unfold M.bind;rw[q];show e
def bJ:W (M.E3 o) st Q↔∃a,o=a5 a/\Q a st:=by
 cases o with
 |none=>show⟨λ⟨_,_,e,_⟩=>(by cases e),λ⟨_,e,_⟩=>(by cases e)⟩
 |some a=>show⟨λ⟨_,_,e,h⟩=>(by cases e;show⟨a,rfl,h⟩),λ⟨_,e,h⟩=>(by cases e;show⟨a,st,rfl,h⟩)⟩
def aU:W (M.fail:M α) st Q↔False:=⟨λ⟨_,_,e,_⟩=>(by cases e),Kf⟩
def W.mono(h:W m st Q)(i:∀a s,Q a s->Q' a s):W m st Q':=let ⟨a,s,e,q⟩:=h;⟨a,s,e,i a s q⟩
end
inductive MC where|add|sub|mul|Gh|mod|pow
deriving DecidableEq
inductive LI where|eq|ne|lt|le|gt|ge|isin|EW|is|Oe
deriving DecidableEq
inductive Bf where|len|sorted|list|tuple|str|int|repr|max|min|all|any
deriving DecidableEq
inductive B2 where|H9|H_|sset|eR
deriving DecidableEq
inductive Mf where|split|join|partition|endswith
deriving DecidableEq
inductive GL where|str|list|tuple|int|bool
deriving DecidableEq
inductive Ik where|seq|E8|Hu|TR|zip|rev
deriving DecidableEq
inductive E where
 |var (i:Nat)
 |cst (u:U)
 |G9 (x:Str) (u:U)
 |bin (op:MC) (a b:E)
 |cmp (op:LI) (a b:E)
 |GO (o1 o2:LI) (a b c:E)
 |and (es:List E)|or (es:List E)|not (a:E)
 |ite (c a b:E)
 |tup (es:List E)|lst (es:List E)|Hv (r:Bool)
 |idx (a b:E)
 |FC (a:E) (lo hi:List E)
 |bi (f:Bf) (es:List E)
 |HC (f:B2) (es:List E)
 |G_ (m:Mf) (a:E) (es:List E)
 |call (f:Str) (es:List E)
 |comp (k:Nat) (t:Bool) (ik:Ik) (src:List E) (cond:List E) (e:E)
 |neg (a:E)|bad|IM (a:E) (T:GL)|fst (es:List E)|inD (neg:Bool) (a:E) (i:Nat)|MD (i:Nat)|IQ (i:Nat) (k d:E)|ME (i:Nat)|MF (ln:Bool) (a b:E)
 |Ia (f:Str) (es:List E) (is:List Nat)
 |Ju (a:E)
inductive S where
 |set (i:Nat) (e:E)
 |G' (is:List Nat) (e:E)
 |put (i:Nat) (k v:E)
 |app (i:Nat) (e:E)|ext (i:Nat) (e:E)|bad|newD (i:Nat)|putD (i:Nat) (k v:E)|IS (i:Nat) (k v:E)|aug (sub:Bool) (i:Nat) (k v:E)|MG (i:Nat)
 |exp (e:E)
 |ret (e:E)|IT
 |ite (c:E) (a b:List S)
 |FL (t:Bool) (is:List Nat) (ik:Ik) (src:List E) (body:List S)
 |MH (c:E) (body:List S)
 |brk|cnt|MI
 |LJ (is:List Nat)
 |IU (c:Str) (e:E)
 |GY (i:Nat) (f:Str) (es:List E) (x c:Str) (j k:Nat) (g:Str) (Ds:List Str) (bs:List Bool)|knd (Ds:List Str)
 |J0 (i:Nat) (f:Str) (es:List E) (x c:Str) (j:Nat)
abbrev isAny:Kd->Bool
 |.any=>b7
 |_=>cb
abbrev k_(k:Kd)(xs:List U):Bool:=!isAny k||eW xs
abbrev kT(k k':Kd):Kd:=if isAny k||isAny k' then .any else .loc
abbrev cut{α:Type}(xs:List α)(lo a:Option Int):List α:=(xs.drop (HT.EV xs.length 0 lo)).take (HT.EV xs.length xs.length a - HT.EV xs.length 0 lo)
abbrev vB:Kd×U->Kd×U->Option (Kd×U)
 |(_,.int i),(_,.int j)=>a5 (.loc,.int (i+j))
 |(_,.str x),(_,.str y)=>if x.length+y.length<=df then a5 (.loc,.str (x++y)) else b6
 |(k,.lst xs),(k',.lst a)=>if xs.length+a.length<=df/\k_ k xs=b7/\k_ k' a=b7 then a5 (.own,.lst (xs++a)) else b6
 |(k,.tup xs),(k',.tup a)=>if xs.length+a.length<=df then a5 (kT k k',.tup (xs++a)) else b6
 |_,_=>b6
abbrev p7(f:Int->Int->Option Int):U->U->Option (Kd×U)
 |.int i,.int j=>(f i j).map λn=>(.loc,.int n)
 |_,_=>b6
abbrev yl(i j:Int):Option Int:=if ((-(2 ^ 64)<i/\i<2 ^ 64)\/(-(2 ^ 64)<j/\j<2 ^ 64)) then a5 (i * j) else b6
abbrev ym(i j:Int):Option Int:=if 0<j/\j<1073741824 then a5 (i / j) else b6
abbrev yn(i j:Int):Option Int:=if 0<j then a5 (i % j) else b6
abbrev yo(i j:Int):Option Int:=if 0<=j/\j<=1000000/\i.natAbs<2 ^ 64 then a5 (i ^ j.toNat) else b6
abbrev Gp(op:MC)(x y:Kd×U):Option (Kd×U):=match op with
 |.add=>vB x y
 |.sub=>p7 (λi j=>a5 (i - j)) x.2 y.2
 |.mul=>p7 yl x.2 y.2
 |.Gh=>p7 ym x.2 y.2
 |.mod=>p7 yn x.2 y.2
 |.pow=>p7 yo x.2 y.2
mutual
noncomputable def FN:Nat->U->Bool
 |_,.FT _ _=>cb
 |_,.Fw _=>cb
 |0,.tup _=>cb
 |0,.lst _=>cb
 |n+1,.tup xs=>e_ n xs
 |n+1,.lst xs=>e_ n xs
 |_,.EU=>b7|_,.bl _=>b7|_,.int _=>b7|_,.str _=>b7
noncomputable def e_:Nat->List U->Bool
 |_,[]=>b7
 |n,u::us=>FN n u&&e_ n us
end
mutual
noncomputable def bA:U->U->Bool
 |.EU,.EU=>b7
 |.bl a,.bl b=>a==b
 |.bl a,.int b=>(if a then 1 else 0)==b
 |.int a,.bl b=>a==(if b then 1 else 0)
 |.int a,.int b=>a==b
 |.str a,.str b=>a==b
 |.tup xs,.tup c=>cj xs c
 |.lst xs,.lst c=>cj xs c
 |_,_=>cb
noncomputable def cj:List U->List U->Bool
 |[],[]=>b7
 |u::us,w::ws=>bA u w&&cj us ws
 |_,_=>cb
end
abbrev IV(x:U)(a:List U):Option Bool:=if FN 50 x=b7/\e_ 50 a=b7 then a5 (a.any λy=>bA y x) else b6
abbrev J1(x y:Str):Bool:=c4 (x.cps.toList<y.cps.toList)
abbrev KD(x y:Str):Bool:=!(y0 y x 0 y.length 1).isEmpty
abbrev strsOf:List U->Option (List Str)
 |[]=>a5 []
 |.str x::us=>(strsOf us).map (x::·)
 |_::_=>b6
abbrev rowOf:U->Option cu
 |.tup [.str x,.tup a]=>(strsOf a).map λss=>(x,ss)
 |_=>b6
abbrev vC:U->U->Option Bool
 |x,.lst a=>IV x a
 |x,.tup a=>IV x a
 |.str x,.str y=>a5 (KD x y)
 |.str x,.FT b _=>a5 (c4 (x∈b))
 |x,.Fw b=>(rowOf x).map λr=>c4 (r∈b)
 |_,_=>b6
abbrev vE:List Str->List U->Str->Option U
 |y::a,u::us,x=>if y=x then a5 u else vE a us x
 |_,_,_=>b6
abbrev dput(a:List Str)(us:List U)(x:Str)(u:U):List Str×List U :=
 if x∈a then(a,(a.zip us).map λp=>if p.1=x then u else p.2) else(a++[x],us++[u])
abbrev aW:LI->U->U->Option Bool
 |.eq,a,b=>if FN 50 a=b7/\FN 50 b=b7 then a5 (bA a b) else b6
 |.ne,a,b=>if FN 50 a=b7/\FN 50 b=b7 then a5 (!bA a b) else b6
 |.lt,.int i,.int j=>a5 (c4 (i<j))
 |.le,.int i,.int j=>a5 (c4 (i<=j))
 |.gt,.int i,.int j=>a5 (c4 (j<i))
 |.ge,.int i,.int j=>a5 (c4 (j<=i))
 |.lt,.str x,.str y=>a5 (J1 x y)
 |.le,.str x,.str y=>a5 (!J1 y x)
 |.isin,x,y=>vC x y
 |.EW,x,y=>(vC x y).map (!·)
 |_,_,_=>b6
abbrev jX:List U->Option (List Bool)
 |[]=>a5 []
 |.bl x::us=>(jX us).map (x::·)
 |_::_=>b6
abbrev gZ:Kd×U->U->Option (Kd×U)
 |(k,.lst xs),.int i=>(E7 xs i).map λu=>(kE k,u)
 |(k,.tup xs),.int i=>(E7 xs i).map λu=>(kE k,u)
 |(_,.str x),.int i=>if x.length<=df then(E7 x.cps.toList i).map λc=>(.loc,.str ⟨#[c]⟩) else b6
 |_,_=>b6
abbrev ix:Kd×U->Option Int->Option Int->Option (Kd×U)
 |(k,.lst xs),lo,a=>if k_ k xs=b7 then a5 (.own,.lst (cut xs lo a)) else b6
 |(k,.tup xs),lo,a=>a5 (kE k,.tup (cut xs lo a))
 |(_,.str x),lo,a=>if x.length<=df then a5 (.loc,.str (PySem.StrLaws.sliceText x lo a)) else b6
 |_,_,_=>b6
abbrev yp:U->Option Nat
 |.lst xs=>a5 xs.length
 |.tup xs=>a5 xs.length
 |.str x=>if x.length<=df then a5 x.length else b6
 |_=>b6
mutual
noncomputable def eJ:U->Option Wt
 |.EU=>a5 .none
 |.bl b=>a5 (.bool b)
 |.int i=>a5 (.int i)
 |.str x=>a5 (.str x)
 |.tup us=>(jm us).map .tuple
 |.lst us=>(jm us).map .list
 |.FT _ _=>b6
 |.Fw _=>b6
noncomputable def jm:List U->Option (List Wt)
 |[]=>a5 []
 |u::us=>(eJ u).bind λd=>(jm us).map (d::·)
end
abbrev zH:U->Bool
 |.tup _=>b7
 |.lst _=>b7
 |_=>cb
abbrev rB(u:U):Option (Kd×U):=(eJ u).bind λd=>if d.showable=b7/\d.depth<=50/\d.shown.length<=df/\zH u=b7 then a5 (.loc,.str d.shown) else b6
abbrev gb{β:Type}(f:Kd×U->Option β):List (Kd×U)->Option β
 |[x]=>f x
 |_=>b6
abbrev A6:Kd×U->Option (Kd×U)
 |(_,.lst xs)=>(strsOf xs).bind λss=>if ss.length<64 then a5 (.own,.lst ((bV ss).map .str)) else b6
 |(_,.tup xs)=>(strsOf xs).bind λss=>if ss.length<64 then a5 (.own,.lst ((bV ss).map .str)) else b6
 |_=>b6
abbrev A7:Kd×U->Option (Kd×U)
 |(k,.lst xs)=>if k_ k xs=b7 then a5 (.own,.lst xs) else b6
 |(k,.tup xs)=>if k_ k xs=b7 then a5 (.own,.lst xs) else b6
 |_=>b6
abbrev A8:Kd×U->Option (Kd×U)
 |(k,.lst xs)=>a5 (kE k,.tup xs)
 |(k,.tup xs)=>a5 (kE k,.tup xs)
 |_=>b6
abbrev vF:Kd×U->Option (Kd×U)
 |(_,.int i)=>if i.natAbs.log2<1920 then a5 (.loc,.str (X5 i)) else b6
 |_=>b6
abbrev A9:Kd×U->Option (Kd×U)
 |(_,.lst xs)=>rB (.lst xs)
 |(_,.tup xs)=>rB (.tup xs)
 |_=>b6
abbrev tN(a:Bool):List (Kd×U)->Option (Kd×U)
 |[(_,.int i),(_,.int j)]=>a5 (.loc,.int (if a=b7 then(if j<i then j else i) else(if j>i then j else i)))
 |_=>b6
abbrev A_:Kd×U->Option (Kd×U)
 |(_,.lst xs)=>(jX xs).map λbs=>(.loc,.bl (bs.all id))
 |_=>b6
abbrev FZ(f:Bf)(rs:List (Kd×U)):Option (Kd×U):=match f with
 |.len=>gb (λx=>(yp x.2).map λ(n:Nat)=>(Kd.loc,U.int (n:Int))) rs
 |.sorted=>gb A6 rs
 |.list=>gb A7 rs
 |.tuple=>gb A8 rs
 |.str=>gb vF rs
 |.repr=>gb A9 rs
 |.max=>tN cb rs
 |.min=>tN b7 rs
 |.all=>gb A_ rs
 |_=>b6
abbrev p_:U->Option (List Str)
 |.lst xs=>(strsOf xs).bind λss=>if ss.length+1<Ln then a5 (aP ss) else b6
 |.tup xs=>(strsOf xs).bind λss=>if ss.length+1<Ln then a5 (aP ss) else b6
 |_=>b6
abbrev jY:List U->Option (List cu)
 |[]=>a5 []
 |u::us=>(rowOf u).bind λr=>(jY us).map (r::·)
abbrev Ba:U->Option (Kd×U)
 |.lst xs=>(jY xs).bind λa=>if a.length<=64 then a5 (.loc,.int (bj a).length) else b6
 |_=>b6
abbrev jZ(x:Kd×U):Option (Kd×U):=match p_ x.2 with
 |some ss=>a5 (.loc,.int ss.length)
 |none=>Ba x.2
abbrev qa(f:B2)(rs:List (Kd×U)):Option (Kd×U):=match f with
 |.H9=>b6
 |.H_=>b6
 |.sset=>gb (λx=>(p_ x.2).bind λss=>if ss.length<64 then a5 (.own,.lst ((bV ss).map .str)) else b6) rs
 |.eR=>gb jZ rs
abbrev iy:Mf->U->List (Kd×U)->Option (Kd×U)
 |.split,.str a,[(_,.str b)]=>if (b.length==0)=cb/\a.length+2<=df then a5 (.own,.lst ((LC a b).map .str)) else b6
 |.join,.str a,[(_,.lst xs)]=>(strsOf xs).bind λss=>if Xo a ss=b7 then a5 (.loc,.str (Us a ss)) else b6
 |.endswith,.str a,[(_,.str b)]=>a5 (.loc,.bl (XQ a b))
 |.partition,.str a,[(_,.str b)]=>if (b.length==0)=cb/\a.length<=df then a5 (.loc,.tup [.str (oT a b).1,.str (oT a b).2.1,.str (oT a b).2.2]) else b6
 |_,_,_=>b6
abbrev Ez:Kd×U->Option (List (Kd×U))
 |(k,.lst xs)=>a5 (xs.map λu=>(kE k,u))
 |(k,.tup xs)=>a5 (xs.map λu=>(kE k,u))
 |(_,.str x)=>a5 (x.cps.toList.map λc=>(.loc,.str ⟨#[c]⟩))
 |_=>b6
abbrev tP:Kd×U->Option (List (Kd×U))
 |(_,.int n)=>if n<2 ^ 62/\-(2 ^ 62)<n then a5 ((ei n.toNat).map λi:Nat=>(Kd.loc,U.int (0+(i:Int)))) else b6
 |_=>b6
abbrev Bb:List (Kd×U)->Option (List (Kd×U))
 |[(_,.int lo),(_,.int a)]=>if a<2 ^ 62/\-(2 ^ 62)<lo/\lo<2 ^ 62/\-(2 ^ 62)<a then a5 ((ei (a - lo).toNat).map λi:Nat=>(Kd.loc,U.int (lo+(i:Int)))) else b6
 |_=>b6
abbrev GP(a:Ik)(rs:List (Kd×U)):Option (List (Kd×U)):=match a with
 |.seq=>gb Ez rs
 |.E8=>gb tP rs
 |.Hu=>Bb rs
 |_=>b6
abbrev tQ:U->Option Bool
 |.bl b=>a5 b
 |.lst xs=>a5 !xs.isEmpty
 |.tup xs=>a5 !xs.isEmpty
 |.str x=>if x.length<=df then a5 ((x.length:Int) != 0) else b6
 |_=>b6
abbrev lift:Kd×U->M U
 |(.own,u)=>pure u
 |(.loc,u)=>pure u
 |(.any,u)=>if Fc u=b7 then pure u else M.fail
 |(.bor j,_)=>λst=>match st[j]? with
  |some (a5 (.own,u))=>a5 (.ok u,st.set j (a5 (.loc,u)))
  |_=>b6
 |(.io,_)=>M.fail
 |(.ES,_)=>M.fail
abbrev cN:List (Kd×U)->M (List U)
 |[]=>pure []
 |r::rs=>do let u <-lift r;let us <-cN rs;pure (u::us)
abbrev cO(i:Nat):Kd×U->M Unit
 |(.bor j,_)=>λst=>match st[j]? with
  |some (a5 (.own,u))=>a5 (.ok (),(st.set j (a5 (.loc,u))).set i (a5 (.loc,u)))
  |_=>b6
 |(.io,_)=>M.fail
 |(.ES,_)=>M.fail
 |(k,u)=>λst=>a5 (.ok (),st.set i (a5 (k,u)))
def aY:List (Kd×U)->ar->Prop
 |[],_=>True
 |(.bor j,u)::rs,st=>(∃k:Kd,k.root=b7/\st[j]?=a5 (a5 (k,u)))/\aY rs st
 |_::rs,st=>aY rs st
open Classical in
abbrev au(rs:List (Kd×U)):M Unit:=λst=>if aY rs st then a5 (.ok (),st) else b6
@[reducible]noncomputable def Tab:=Str->List U->Option (Ex (Kd×U))
abbrev j3(Γ:Tab)(f:Str)(us:List U):M (Kd×U):=λst=>match Γ f us with
 |some (.ok (.any,_))=>b6
 |none=>b6
 |some r=>a5 (r,st)
abbrev j4(rs:List (Kd×U))(p:Nat):Option Nat:=match rs[p]? with
 |some (.bor j,.lst us)=>if eW us=b7 then a5 j else b6
 |_=>b6
abbrev zI(a:List (Option Nat)):Kd×U->Bool
 |(.bor j,_)=>c4 (a5 j∉a)
 |_=>b7
abbrev zJ(rs:List (Kd×U))(is:List Nat):Bool:=is.all (λp=>(j4 rs p).isSome)&&c4 ((is.map (j4 rs)).Nodup)&&(ei rs.length).all λq=>c4 (q∈is)||zI (is.map (j4 rs)) (rs.getD q (.loc,.EU))
abbrev rC(rs:List (Kd×U)):List Nat->List U->ar->Option ar
 |[],[],st=>a5 st
 |p::is,w::ws,st=>match j4 rs p with
  |some j=>match w,st[j]? with
   |.lst us,a5 (a5 (k,_))=>rC rs is ws (st.set j (a5 (k,.lst us)))
   |_,_=>b6
  |none=>b6
 |_,_,_=>b6
abbrev K4:Kd×U->Option (Kd×U×List U)
 |(.own,.tup (u::ws))=>a5 (.own,u,ws)
 |(.loc,.tup (u::ws))=>a5 (.loc,u,ws)
 |_=>b6
abbrev yq(st:ar):Kd×U->Kd×U
 |(.bor j,u)=>(.bor j,match st[j]? with|some (a5 (k,u'))=>if k.root=b7 then u' else u|_=>u)
 |r=>r
abbrev C7(rs:List (Kd×U)):M (List (Kd×U)):=λst=>a5 (.ok (rs.map (yq st)),st)
abbrev vG(Γ:Tab)(f:Str)(rs:List (Kd×U))(is:List Nat):M (Kd×U):=λst=>match Γ f (rs.map (·.2)) with
 |some (.ok r)=>match K4 r with
  |some (k,u,ws)=>if zJ rs is=b7 then(match rC rs is ws st with|some st'=>a5 (.ok (k,u),st')|none=>b6) else b6
  |none=>b6
 |_=>b6
abbrev gf(i:Nat):M (Kd×U):=λst=>match st[i]? with
 |some (a5 (.ES,_))=>b6
 |some (a5 (k,u))=>a5 (.ok (if k.root=b7 then .bor i else k,u),st)
 |_=>b6
abbrev sets:List Nat->List (Kd×U)->M Unit
 |[],[]=>pure ()
 |i::is,r::rs=>do cO i r;sets is rs
 |_,_=>M.fail
abbrev du(t:Bool)(is:List Nat)(r:Kd×U):M Unit:=match t,is,r with
 |false,[i],r=>cO i r
 |true,is,(k,.tup xs)=>sets is (xs.map λu=>(kE k,u))
 |_,_,_=>M.fail
abbrev inScope{α:Type}(k:Nat)(m:M α):M α:=λst=>match m (pb k b6++st) with
 |none=>b6
 |some (r,st')=>a5 (r,st'.drop k)
abbrev bB(k:Nat)(t:Bool)(cond:M Bool)(elt:M (Kd×U))(src:List (Kd×U)):List (Kd×U)->List U->M (List U)
 |[],a=>do au src;pure a
 |x::xs,a=>do
  au src
  let r <-inScope k (du t (ei k) x >>= λ_=>cond >>= λb=>if b=b7 then(elt >>= λr=>lift r >>= λu=>pure (a5 u)) else pure b6)
  match r with
  |some u=>if a.length<df then bB k t cond elt src xs (a++[u]) else M.fail
  |none=>bB k t cond elt src xs a
abbrev oK:U->GL->Option Bool
 |.str _,T=>a5 (c4 (T=.str))
 |.int _,T=>a5 (c4 (T=.int))
 |.bl _,.bool=>a5 b7
 |.bl _,.int=>a5 b7
 |.lst _,T=>a5 (c4 (T=.list))
 |.tup _,T=>a5 (c4 (T=.tuple))
 |_,_=>b6
abbrev yr:Kd×U->Option (Kd×U)
 |(k,.tup xs)=>a5 (kE k,.tup xs.reverse)
 |_=>b6
abbrev EA:Kd×U->Option (Kd×U)
 |(_,.int i)=>a5 (.loc,.int (-i))
 |_=>b6
abbrev Bc(x:Kd×U):M (Option Int):=match x.2 with
 |.int i=>pure (a5 i)
 |_=>M.fail
abbrev KG:U->M Unit
 |.lst _=>pure ()
 |_=>M.fail
section
variable(Γ:Tab)
mutual
noncomputable def ev:E->M (Kd×U)
 |.var i=>gf i
 |.cst u=>pure (.loc,u)
 |.G9 _ u=>pure (.loc,u)
 |.bin op a b=>do
  let x <-ev a
  let y <-ev b
  au [x,y]
  M.E3 (Gp op x y)
 |.cmp op a b=>do
  let x <-ev a
  let y <-ev b
  au [x,y]
  let c <-M.E3 (aW op x.2 y.2)
  pure (.loc,.bl c)
 |.GO o1 o2 a b c=>do
  let x <-ev a
  let y <-ev b
  au [x,y]
  let p <-M.E3 (aW o1 x.2 y.2)
  if p=b7 then do
   let z <-ev c
   au [y,z]
   let q <-M.E3 (aW o2 y.2 z.2)
   pure (.loc,.bl q)
  else pure (.loc,.bl cb)
 |.and es=>g_ es
 |.or es=>yt es
 |.not a=>do
  let x <-ev a
  match x.2 with
  |.bl c=>pure (.loc,.bl !c)
  |_=>M.fail
 |.ite c a b=>do
  let p <-E6 c
  if p=b7 then ev a else ev b
 |.tup es=>do
  let rs <-bp es
  au rs
  let us <-cN rs
  if us.length<=df then pure (.loc,.tup us) else M.fail
 |.lst es=>do
  let rs <-bp es
  au rs
  let us <-cN rs
  if us.length<=df then pure (.own,.lst us) else M.fail
 |.Hv r=>pure (.own,if r=b7 then .Fw [] else .FT [] [])
 |.idx a b=>do
  let x <-ev a
  let y <-ev b
  au [x,y]
  M.E3 (gZ x y.2)
 |.FC a lo d=>do
  let x <-ev a
  let l <-J2 lo
  let h <-J2 d
  au [x]
  M.E3 (ix x l h)
 |.bi f es=>do
  let rs <-bp es
  au rs
  M.E3 (FZ f rs)
 |.HC f es=>do
  let rs <-bp es
  au rs
  M.E3 (qa f rs)
 |.G_ m a es=>do
  let x <-ev a
  let rs <-bp es
  au (x::rs)
  M.E3 (iy m x.2 rs)
 |.call f es=>do
  let rs <-bp es
  au rs
  j3 Γ f (rs.map (·.2))
 |.comp k t g src cond e=>do
  let rs <-bp src
  au rs
  let xs <-M.E3 (GP g rs)
  let us <-bB k t (aQ cond) (ev e) rs xs []
  pure (.own,.lst us)
 |.neg a=>do
  let x <-ev a
  M.E3 (EA x)
 |.bad=>M.fail
 |.ME _=>M.fail
 |.inD _ _ _=>M.fail
 |.MD _=>M.fail
 |.IQ _ _ _=>M.fail
 |.Ju a=>do
  let x <-ev a
  M.E3 (yr x)
 |.Ia f es is=>do
  let rs <-(bp es >>= C7)
  au rs
  vG Γ f rs is
 |.MF _ _ _=>M.fail
 |.fst es=>M.fail
 |.IM a T=>do
  let x <-ev a
  let b <-M.E3 (oK x.2 T)
  pure (.loc,.bl b)
noncomputable def bp:List E->M (List (Kd×U))
 |[]=>pure []
 |e::es=>do let r <-ev e;let rs <-bp es;pure (r::rs)
noncomputable def J2:List E->M (Option Int)
 |[]=>pure b6
 |[e]=>do let x <-ev e;Bc x
 |_=>M.fail
noncomputable def g_:List E->M (Kd×U)
 |[]=>M.fail
 |[e]=>ev e
 |e::es=>do
  let x <-ev e
  match x.2 with
  |.bl b7=>g_ es
  |.bl cb=>pure (.loc,.bl cb)
  |_=>M.fail
noncomputable def yt:List E->M (Kd×U)
 |[]=>M.fail
 |[e]=>ev e
 |e::es=>do
  let x <-ev e
  match x.2 with
  |.bl b7=>pure (.loc,.bl b7)
  |.bl cb=>yt es
  |_=>M.fail
noncomputable def E6:E->M Bool
 |.and es=>aQ es
 |.or es=>fb es
 |.not a=>do let b <-E6 a;pure !b
 |.cmp op a b=>do
  let x <-ev a
  let y <-ev b
  au [x,y]
  M.E3 (aW op x.2 y.2)
 |.var i=>do let x <-gf i;M.E3 (tQ x.2)
 |.bi f es=>do
  let rs <-bp es
  au rs
  let r <-M.E3 (FZ f rs)
  M.E3 (tQ r.2)
 |.call f es=>do
  let rs <-bp es
  au rs
  let r <-j3 Γ f (rs.map (·.2))
  M.E3 (tQ r.2)
 |.GO o1 o2 a b c=>do
  let x <-ev a
  let y <-ev b
  au [x,y]
  let p <-M.E3 (aW o1 x.2 y.2)
  if p=b7 then do
   let z <-ev c
   au [y,z]
   M.E3 (aW o2 y.2 z.2)
  else pure cb
 |.IM a T=>do
  let x <-ev a
  M.E3 (oK x.2 T)
 |_=>M.fail
noncomputable def aQ:List E->M Bool
 |[]=>pure b7
 |[e]=>E6 e
 |e::es=>do let b <-E6 e;if b=b7 then aQ es else pure cb
noncomputable def fb:List E->M Bool
 |[]=>pure cb
 |[e]=>E6 e
 |e::es=>do let b <-E6 e;if b=b7 then pure b7 else fb es
end
inductive Fl where|nx|rt (k:Kd) (u:U)|bk|ct
abbrev retS:Kd×U->M Fl
 |(.own,u)=>pure (.rt .own u)
 |(.loc,u)=>pure (.rt .loc u)
 |(.any,u)=>if Fc u=b7 then pure (.rt .loc u) else pure (.rt .any u)
 |(.bor j,_)=>λst=>match st[j]? with
  |some (a5 (.own,u))=>a5 (.ok (.rt .own u),st.set j b6)
  |_=>b6
 |(.io,_)=>M.fail
 |(.ES,_)=>M.fail
abbrev forM(t:Bool)(is:List Nat)(body:M Fl)(src:List (Kd×U)):List (Kd×U)->M Fl
 |[]=>do au src;pure .nx
 |x::xs=>do
  au src
  du t is x
  let f <-body
  match f with
  |.nx=>forM t is body src xs
  |.ct=>forM t is body src xs
  |.bk=>pure .nx
  |.rt k u=>pure (.rt k u)
abbrev m3(c:M Bool)(body:M Fl):Nat->M Fl
 |0=>M.fail
 |n+1=>do
  let b <-c
  if b=b7 then do
   let f <-body
   match f with
   |.nx=>m3 c body n
   |.ct=>m3 c body n
   |.bk=>pure .nx
   |.rt k u=>pure (.rt k u)
  else pure .nx
abbrev eD(Γ:Tab)(f:Str)(us:List U)(c:Str):M (Option (Kd×U)):=λst=>match Γ f us with
 |some (.ok (.own,u))=>a5 (.ok (a5 (.own,u)),st)
 |some (.ok (.loc,u))=>a5 (.ok (a5 (.loc,u)),st)
 |some (.exc a)=>if a=c then a5 (.ok b6,st) else b6
 |_=>b6
abbrev m4(i j k:Nat)(bs:List Bool):Option (Kd×U)->M Fl
 |some r=>do cO i r;pure .nx
 |none=>λst=>match st[j]? with
  |some b6=>if k≠j then(cO k (.own,.lst (bs.map .bl)) >>= λ_=>pure .nx) st else b6
  |_=>b6
abbrev qb(i j:Nat):Option (Kd×U)->M Fl
 |some _=>pure .nx
 |none=>λst=>match st[j]? with
  |some b6=>if i≠j then(cO i (.loc,.bl b7) >>= λ_=>pure .nx) st else b6
  |_=>b6
abbrev modS(i:Nat)(f:U->Option U):M Unit:=λst=>match st[i]? with
 |some (a5 (k,u))=>if k.root=b7 then match f u with
   |some u'=>a5 (.ok (),st.set i (a5 (k,u')))
   |none=>b6
  else b6
 |_=>b6
abbrev vH(u:U):U->Option U
 |.lst xs=>if xs.length<df then a5 (.lst (xs++[u])) else b6
 |_=>b6
abbrev qc:Kd×U->U->Option U
 |(k,.lst a),.lst xs=>if xs.length+a.length<=df/\k_ k a=b7 then a5 (.lst (xs++a)) else b6
 |(k,.tup a),.lst xs=>if xs.length+a.length<=df/\k_ k a=b7 then a5 (.lst (xs++a)) else b6
 |_,_=>b6
abbrev j5(x u:U):U->Option U
 |.FT a vs=>match x with
  |.str y=>if a.length<df then a5 (.FT (dput a vs y u).1 (dput a vs y u).2) else b6
  |_=>b6
 |.Fw a=>match rowOf x,u with
  |some r,.bl b7=>if r∉a/\a.length<=1000 then a5 (.Fw (a++[r])) else b6
  |_,_=>b6
 |.lst xs=>match x with
  |.int i=>(IF xs.length i).map λj=>.lst (xs.set j u)
  |_=>b6
 |_=>b6
abbrev rD:List U->U->Option U
 |[u,x]=>j5 x u
 |_=>λ_=>b6
abbrev fuel:Nat:=1000000000000
mutual
noncomputable def KH:S->Nat->Bool
 |.set i _,j=>c4 (j≠i)
 |.G' is _,j=>c4 (j∉is)
 |.ite _ a b,j=>Gi a j&&Gi b j
 |.FL _ is _ _ body,j=>c4 (j∉is)&&Gi body j
 |.MH _ body,j=>Gi body j
 |.put _ _ _,_=>b7
 |.app _ _,_=>b7
 |.ext _ _,_=>b7
 |.bad,_=>b7
 |.newD i,j=>c4 (j≠i)
 |.putD _ _ _,_=>b7
 |.IS _ _ _,_=>b7
 |.aug _ _ _ _,_=>b7
 |.MG _,_=>b7
 |.exp _,_=>b7
 |.ret _,_=>b7
 |.IT,_=>b7
 |.brk,_=>b7
 |.cnt,_=>b7
 |.MI,_=>b7
 |.LJ _,_=>b7
 |.IU _ _,_=>b7
 |.knd _,_=>b7
 |.GY i _ _ _ _ j k _ _ _,n=>c4 (n≠i)&&c4 (n≠k)&&c4 (n≠j)
 |.J0 i _ _ _ _ j,n=>c4 (n≠i)&&c4 (n≠j)
noncomputable def Gi:List S->Nat->Bool
 |[],_=>b7
 |s::ss,j=>KH s j&&Gi ss j
end
abbrev rE(rs:List (Kd×U))(is:List Nat)(body:List S):Bool:=rs.all λr=>match r.1 with
 |.bor j=>c4 (j∉is)&&Gi body j
 |_=>b7
mutual
noncomputable def exec:S->M Fl
 |.set i e=>do let r <-ev Γ e;cO i r;pure .nx
 |.G' is e=>do let r <-ev Γ e;du b7 is r;pure .nx
 |.put i k v=>do
  let r <-ev Γ v
  let _ <-gf i
  let x <-ev Γ k
  let us <-cN [r,x]
  modS i (rD us)
  pure .nx
 |.app i e=>do
  let x <-gf i
  KG x.2
  let r <-ev Γ e
  let u <-lift r
  modS i (vH u)
  pure .nx
 |.ext i e=>do
  let x <-gf i
  KG x.2
  let r <-ev Γ e
  modS i (qc r)
  pure .nx
 |.bad=>M.fail
 |.newD _=>M.fail
 |.putD _ _ _=>M.fail
 |.IS _ _ _=>M.fail
 |.aug _ _ _ _=>M.fail
 |.MG _=>M.fail
 |.exp e=>do let _ <-ev Γ e;pure .nx
 |.ret e=>do let r <-ev Γ e;retS r
 |.IT=>pure (.rt .loc .EU)
 |.ite c a b=>do let p <-E6 Γ c;if p=b7 then execs a else execs b
 |.FL t is d src body=>do
  let rs <-bp Γ src
  au rs
  let xs <-M.E3 (GP d rs)
  if rE rs is body=b7 then forM t is (execs body) rs xs else M.fail
 |.MH c body=>m3 (E6 Γ c) (execs body) fuel
 |.brk=>pure .bk
 |.cnt=>pure .ct
 |.MI=>pure .nx
 |.LJ _=>M.fail
 |.IU c e=>do let _ <-ev Γ e;pure (.rt .io (.str c))
 |.knd _=>M.fail
 |.GY i f es _ c j k _ _ bs=>do
  let rs <-bp Γ es
  au rs
  let r <-eD Γ f (rs.map (·.2)) c
  m4 i j k bs r
 |.J0 i f es _ c j=>do
  let rs <-bp Γ es
  au rs
  let r <-eD Γ f (rs.map (·.2)) c
  qb i j r
noncomputable def execs:List S->M Fl
 |[]=>pure .nx
 |s::ss=>do
  let f <-exec s
  match f with
  |.nx=>execs ss
  |f=>pure f
end
end
structure Fn where
 name:Str
 np:Nat
 ns:Nat
 body:List S
abbrev start(us:List U)(n:Nat):ar:=us.map (λu=>a5 (if Fc u=b7 then Kd.loc else Kd.any,u))++pb (n - us.length) b6
abbrev bu(Γ:Tab)(fn:Fn)(us:List U):Option (Ex (Kd×U)):=if us.length=fn.np then match execs Γ fn.body (start us fn.ns) with
  |some (.ok (.rt .own u),_)=>a5 (.ok (.own,u))
  |some (.ok (.rt .loc u),_)=>a5 (.ok (.loc,u))
  |some (.ok (.rt .any u),_)=>a5 (.ok (.any,u))
  |some (.ok .nx,_)=>a5 (.ok (.loc,.EU))
  |some (.ok (.rt .io (.str c)),_)=>a5 (.exc c)
  |_=>b6
 else b6
abbrev dw(is:List Nat)(us:List U)(n:Nat):ar:=(us.zipIdx.map λp=>a5 (if p.2∈is then Kd.io else if Fc p.1=b7 then Kd.loc else Kd.any,p.1))++pb (n - us.length) b6
abbrev LK:List Nat->ar->Option (List U)
 |[],_=>a5 []
 |i::is,st=>match st[i]? with
  |some (a5 (.io,u))=>(LK is st).map (u::·)
  |_=>b6
abbrev P':Fl->Option (Kd×U)
 |.rt .own u=>a5 (.own,u)
 |.rt .loc u=>a5 (.loc,u)
 |.nx=>a5 (.loc,.EU)
 |_=>b6
abbrev vI(Γ:Tab)(fn:Fn)(is:List Nat)(body:List S)(us:List U):Option (Ex (Kd×U)):=if us.length=fn.np then match execs Γ body (dw is us fn.ns) with
  |some (.ok f,st)=>(P' f).bind λr=>(LK is st).map λws=>.ok (r.1,.tup (r.2::ws))
  |_=>b6
 else b6
abbrev Fn.io(fn:Fn):Option (List Nat×List S):=match fn.body with
 |.LJ is::body=>a5 (is,body)
 |_=>b6
abbrev la(Γ:Tab)(fn:Fn)(us:List U):Option (Ex (Kd×U)):=match fn.io with
 |some (is,body)=>vI Γ fn is body us
 |none=>bu Γ fn us
abbrev Fp(P:List Fn):Nat->Tab
 |0=>λ_ _=>b6
 |d+1=>λf us=>match P.find? λfn=>c4 (fn.name=f) with
  |some fn=>la (Fp P d) fn us
  |none=>b6
end TM
namespace TM
open PySem L2
section
variable{X:Cx}{pins:List (gs×Obj)}{σ:St}{H:Hp}{s:fx}{C:Ct}{S:gs->Prop}
def rF(I:Inv X pins σ H s)(h:Fm X.K H a vs):∃b:List d6,Vals vs b/\s.heap.IsList a b.toArray/\vs.length<=df:=by
 have⟨b,r,p,z⟩:=I.list h;show⟨b,r,p.isList,z⟩
inductive Fh(s:fx):Nat->U->d6->Prop where
 |EU {n:Nat}:Fh s n .EU .none
 |bl {n:Nat} {b:Bool}:Fh s n (.bl b) (.bool b)
 |int {n:Nat} {i:Int} {t:Tok}:Fh s n (.int i) (.int i t)
 |str {n:Nat} {y:Str} {t:Tok}:Fh s n (.str y) (.str y t)
 |tup {n:Nat} {us:List U} {A':List d6} {a:gs}:us.length=A'.length->(∀j (hj:j<A'.length),Fh s n (us.getD j .EU) A'[j])->cj us us=b7->s.heap.IsTuple a A'.toArray->Fh s (n+1) (.tup us) (.ref a)
 |lst {n:Nat} {us:List U} {A':List d6} {a:gs}:us.length=A'.length->(∀j (hj:j<A'.length),Fh s n (us.getD j .EU) A'[j])->cj us us=b7->s.heap.IsList a A'.toArray->Fh s (n+1) (.lst us) (.ref a)
def Fh.self(h:Fh s n u x):bA u u=b7:=by
 cases h<;>first|assumption|simp[bA]
theorem Fh.yu(f:∀u v x,FN n u=b7->Rep C S H u v->RelV v x->Fh s n u x):∀{us:List U}{vs:List V}{a:List d6},e_ n us=b7->ao C S H us vs->Vals vs a->us.length=a.length/\(∀j (b:j<a.length),Fh s n (us.getD j .EU) a[j])/\cj us us=b7
 |[],_,_,_,h,r=>by cases h;cases r;show⟨rfl,λj b=>(nomatch b),rfl⟩
 |u::us,_,_,e,h,r=>by
  have⟨v,vs,rfl,c,g⟩:=h;simp only[e_,b8]at e;cases r with
  |cons d i =>
   have⟨l,k,y⟩:=Fh.yu f e.2 g i;show⟨by simp[l],λj b=>?_,by rw[cj,(f _ _ _ e.1 c d).self,y];rfl⟩;cases j with
   |zero=>show f _ _ _ e.1 c d
   |succ j=>show k j (by simpa using b)
def Fh.of(I:Inv X pins σ H s)(f:C.K=X.K):∀(n:Nat) (u:U) (v:V) (x:d6),FN n u=b7->Rep C S H u v->RelV v x->Fh s n u x:=by
 intro n;induction n with
 |zero=>intro u v x e h r;cases u<;>first|(simp[FN]at e;done)|(simp only[Rep]at h;subst h;first|(cases r;constructor)|(have⟨t,rfl⟩:=r;constructor))
 |succ n g =>
  intro u v x e h r;cases u with
  |tup us =>
   have⟨a,vs,rfl,b,c⟩:=h;cases r;obtain⟨i,d,p,_⟩:=I.tuple (f▸b);have⟨l,k,y⟩:=Fh.yu g (by simpa[FN] using e) c d;show .tup l k y p
  |lst us =>
   have⟨a,vs,rfl,b,c⟩:=h;cases r;obtain⟨i,d,p,_⟩:=rF I (f▸b.sq);have⟨l,k,y⟩:=Fh.yu g (by simpa[FN] using e) c d;show .lst l k y p
  |_=>first|(simp[FN]at e;done)|(simp only[Rep]at h;subst h;first|(cases r;constructor)|(have⟨t,rfl⟩:=r;constructor))
def Fh.inj:∀{n:Nat}{u w:U}{x:d6},Fh s n u x->Fh s n w x->u=w:=by
 intro n;induction n with
 |zero=>intro u w x h h';cases h<;>cases h'<;>rfl
 |succ n t =>
  have go:∀{us ws:List U} {c its':List d6} {a:gs} {o i:Obj} {m q:Nat},us.length=c.length->(∀j (v:j<c.length),Fh s n (us.getD j .EU) c[j])->ws.length=its'.length->(∀j (v:j<its'.length),Fh s n (ws.getD j .EU) its'[j])->s.heap.get? a=a5 o->o.data=.seq c.toArray m->s.heap.get? a=a5 i->i.data=.seq its'.toArray q->us=ws:=by
   intro us ws c its' a o i m q l k f k' e d g d';rw[e]at g;cases g;rw[d]at d';injection d' with z _
   have:c=its':=by simpa using Yy Vr z
   subst this;show WR ⋯ λj A B=>?_;have:=t (k j ⋯) (k' j ⋯);simpa[A,B] using this
  intro u w x h h';cases h with
  |tup l k y p =>
   cases h' with
   |tup f k' r b=>obtain⟨o,e,_,m,d⟩:=p;obtain⟨i,g,_,q,d'⟩:=b;rw[go l k f k' e d g d']
   |lst f k' r b=>show absurd rfl (Vn b p)
  |lst l k y p =>
   cases h' with
   |lst f k' r b=>obtain⟨o,e,_,m,d⟩:=p;obtain⟨i,g,_,q,d'⟩:=b;rw[go l k f k' e d g d']
   |tup f k' r b=>show absurd rfl (Vn p b)
  |_=>cases h';rfl
theorem iz:∀{us ws:List U},us.length≠ws.length->cj us ws=cb
 |[],[],h=>absurd rfl h
 |[],_::_,_=>rfl
 |_::_,[],_=>rfl
 |u::us,w::ws,h=>by
  rw[cj,iz (us:=us) (ws:=ws) (λe=>h (by simp[e])),LB]
theorem fc:∀{us ws:List U},us.length=ws.length->cj us ws=(ei us.length).all λj=>bA (us.getD j .EU) (ws.getD j .EU)
 |[],[],_=>rfl
 |[],_::_,h=>by simp at h
 |_::_,[],h=>by simp at h
 |u::us,w::ws,h=>by
  have h':us.length=ws.length:=by simpa using h
  rw[cj,fc h',lx,NT,Tx,Q_];rfl
def C8{a its':List d6}(c:us.length=a.length)(d:ws.length=its'.length):cj us ws=((ei (min a.toArray.size its'.toArray.size)).all (λj=>bA (us.getD j .EU) (ws.getD j .EU))&&a.toArray.size==its'.toArray.size):=by
 simp only[js];by_cases b:us.length=ws.length
 .rw[fc b,show min a.length its'.length=us.length by lia,show(a.length==its'.length)=b7 by simp;lia,Nj]
 .rw[iz b,show(a.length==its'.length)=cb by simp;lia,LB]
def rG(b:Fh s n u y)(h:V6 A s y x k)(hs:y=x->k=b7):QQ A s y x k:=λprog w E Q a=>by
 unfold eqBool;show D1 ?_;show wpAny_ite_split (λc=>?_) (λ_=>?_)
 .rw[hs (Uq c)]at a;show bw (N2 (cc a))
 .cases b<;>show bw (h prog w E _ (GX a))
def Of(r:∀m,m+1=n->∀{u w:U}{x f:d6}{A:Ke},Fh s m u x->Fh s m w f->A.units+m<Ga->QQ A s x f (bA u w))(h:Fh s n u x)(h':Fh s n w f)(v:A.units+n<Ga):V6 A s x f (bA u w)/\Xn A s x f (!bA u w):=by
 have a:A.units<Ga:=by lia
 have go:∀{m:Nat} {us ws:List U} {g its':List d6},m+1=n->(∀j (t:j<g.length),Fh s m (us.getD j .EU) g[j])->(∀j (t:j<its'.length),Fh s m (ws.getD j .EU) its'[j])->∀j (i:j<g.toArray.size) (o:j<its'.toArray.size),QQ A.in1 s g.toArray[j] its'.toArray[j] (bA (us.getD j .EU) (ws.getD j .EU)):=λ{m us ws g its'} e k k' j i o=>r m e (k j i) (k' j o) (by change A.units+1+m < _;lia);cases h with
 |EU =>
  cases h' with
  |EU=>show⟨.none_none,.none_none⟩
  |bl=>show⟨.none_bool _,.none_bool _⟩
  |int=>show⟨.none_int _ _,.none_int _ _⟩
  |str=>show⟨.none_str _ _,.none_str _ _⟩
  |tup c k' d b=>show⟨.none_tuple b a,.none_tuple b a⟩
  |lst c k' d b=>show⟨.none_list b a,.none_list b a⟩
 |bl =>
  cases h' with
  |EU=>show⟨.bool_none _,.bool_none _⟩
  |bl=>show⟨.bool_bool _ _,.bool_bool _ _⟩
  |int=>show⟨.bool_int _ _ _,.bool_int _ _ _⟩
  |str=>show⟨.bool_str _ _ _,.bool_str _ _ _⟩
  |tup c k' d b=>show⟨.bool_tuple _ b a,.bool_tuple _ b a⟩
  |lst c k' d b=>show⟨.bool_list _ b a,.bool_list _ b a⟩
 |int =>
  cases h' with
  |EU=>show⟨.int_none _ _,.int_none _ _⟩
  |bl=>show⟨.int_bool _ _ _,.int_bool _ _ _⟩
  |int=>show⟨.int_int _ _ _ _,.int_int _ _ _ _⟩
  |str=>show⟨.int_str _ _ _ _,.int_str _ _ _ _⟩
  |tup c k' d b=>show⟨.int_tuple _ _ b a,.int_tuple _ _ b a⟩
  |lst c k' d b=>show⟨.int_list _ _ b a,.int_list _ _ b a⟩
 |str =>
  cases h' with
  |EU=>show⟨.str_none _ _,.str_none _ _⟩
  |bl=>show⟨.str_bool _ _ _,.str_bool _ _ _⟩
  |int=>show⟨.str_int _ _ _ _,.str_int _ _ _ _⟩
  |str=>show⟨.str_str _ _ _ _,.str_str _ _ _ _⟩
  |tup c k' d b=>show⟨.str_tuple _ _ b a,.str_tuple _ _ b a⟩
  |lst c k' d b=>show⟨.str_list _ _ b a,.str_list _ _ b a⟩
 |tup l k y p =>
  cases h' with
  |EU=>show⟨.tuple_none p a,.tuple_none p a⟩
  |bl=>show⟨.tuple_bool _ p a,.tuple_bool _ p a⟩
  |int=>show⟨.tuple_int _ _ p a,.tuple_int _ _ p a⟩
  |str=>show⟨.tuple_str _ _ p a,.tuple_str _ _ p a⟩
  |tup c k' d b=>rw[show bA (.tup _) (.tup _)=_ from C8 l c];show⟨.tuples p b a (go rfl k k'),.tuples p b a (go rfl k k')⟩
  |lst c k' d b=>show⟨.tuple_list p b a,.tuple_list p b a⟩
 |lst l k y p =>
  cases h' with
  |EU=>show⟨.list_none p a,.list_none p a⟩
  |bl=>show⟨.list_bool _ p a,.list_bool _ p a⟩
  |int=>show⟨.list_int _ _ p a,.list_int _ _ p a⟩
  |str=>show⟨.list_str _ _ p a,.list_str _ _ p a⟩
  |tup c k' d b=>show⟨.list_tuple p b a,.list_tuple p b a⟩
  |lst c k' d b =>
   rename_i us _ _ ws _ _;by_cases q:us.length=ws.length
   .rw[show bA (.lst us) (.lst ws)=_ from fc q,l,<-js];show⟨.lists p b (by simp;lia) a (go rfl k k'),.lists p b (by simp;lia) a (go rfl k k')⟩
   .rw[show bA (.lst us) (.lst ws)=cb from iz q];show⟨.lists_lengths p b (by simp;lia) a,.lists_lengths p b (by simp;lia) a⟩
def C9:∀{n:Nat}{u w:U}{x a:d6}{A:Ke},Fh s n u x->Fh s n w a->A.units+n<Ga->QQ A s x a (bA u w):=by
 intro n;induction n with
 |zero=>intro u w x a A h h' b;show rG h (Of (λm e=>by cases e) h h' b).1 λe=>by subst e;rw[h.inj h'];show h'.self
 |succ n c=>intro u w x a A h h' b;show rG h (Of (λm e=>by cases e;show c) h h' b).1 λe=>by subst e;rw[h.inj h'];show h'.self
def C_(h:Fh s n u x)(h':Fh s n w a)(b:A.units+n<Ga):V6 A s x a (bA u w)/\Xn A s x a (!bA u w):=Of (λm e=>by cases e;show C9) h h' b
end
end TM
namespace TM
open PySem L2 PyProof.Rows
abbrev ET(C:Ct)(m:M (Kd×U)):TE:=λσ H Q=>∃a:Cf,a.σ=σ/\a.H=H/\Ok C a/\W m a.st λr st'=>∀c v,c.σ=σ->c.st=st'->Ok C c->Nx a c->aJ C a c r.1 r.2 v->Q v c.H
abbrev FV(C:Ct)(m:M Bool):TT:=λσ H Q=>∃a:Cf,a.σ=σ/\a.H=H/\Ok C a/\W m a.st λb st'=>∀c,c.σ=σ->c.st=st'->Ok C c->Nx a c->Q b c.H
def cm(C:Ct)(a c:Cf):List (Kd×U)->List V->Prop
 |[],vs=>vs=[]
 |r::rs,vs=>∃v t,vs=v::t/\eZ C a c r.1 r.2 v/\cm C a c rs t/\(r.1=.own->∀(i:Nat) b d,rs[i]?=a5 b->t[i]?=a5 d->b.1=.own->d≠v)
abbrev FO(C:Ct)(m:M (List (Kd×U))):TA:=λσ H Q=>∃a:Cf,a.σ=σ/\a.H=H/\Ok C a/\W m a.st λrs st'=>∀c vs,c.σ=σ->c.st=st'->Ok C c->Nx a c->cm C a c rs vs->Q vs c.H
section
def PE.weak(h:PE X e t)(i:∀σ H Q,t' σ H Q->t σ H Q):PE X e t':=λpins s σ H Q I q=>h pins s σ H Q I (i σ H Q q)
def PT.weak(h:PT X e t)(i:∀σ H Q,t' σ H Q->t σ H Q):PT X e t':=λpins s σ H Q I q=>h pins s σ H Q I (i σ H Q q)
def bG{st:ar}:W (au rs) st Q↔aY rs st/\Q () st:=by
 constructor
 .rintro⟨a,st',e,h⟩;unfold au at e;split at e
  .cases e;show⟨by assumption,h⟩
  .cases e
 .rintro⟨b,c⟩;show⟨(),st,by unfold au;rw[Yr b],c⟩
def cG{st:ar}:aY (r::rs) st↔aY [r] st/\aY rs st:=by
 have⟨k,u⟩:=r;cases k<;>simp[aY]
def eZ.t(h:eZ C a c k u v)(s:aY [(k,u)] c.st):aJ C a c k u v:=by
 cases k with
 |bor j=>show⟨s.1,h⟩
 |_=>show h
structure J3(C:Ct)(c0 c:Cf)(x y:Kd×U)(vx vy:V):Prop where
 hσ:c.σ=c0.σ
 ok:Ok C c
 nx:Nx c0 c
 rx:aJ C c0 c x.1 x.2 vx
 ry:aJ C c0 c y.1 y.2 vy
 ne:x.1=.own->y.1=.own->vy≠vx
def iA(h:eZ C j b k u v)(h':eZ C b c k' u' d):k=.own->k'=.own->d≠v:=by
 rintro rfl rfl e;obtain⟨r,f,_,_,_,g⟩:=h;obtain⟨l,i,a,_⟩:=h';obtain⟨o,ho,_⟩:=g.some;subst f;rw[i]at e;cases e;rw[ho]at a;cases a
def two{k:Kd×U->Kd×U->M β}{Post:β->ar->Prop}{f:d6->d6->Sem α}{Q':d6->d6->α->fx->Prop}(N:PE X a (ET C O))(Q:PE X b (ET C z))(I:Inv X pins d.σ d.H s)(ok:Ok C d)
  (h:W (O >>= λx=>z >>= λy=>au [x,y] >>= λ_=>k x y) d.st Post)
  (T:∀x y c g j v u s2,J3 C d c x y g j->Inv X pins c.σ c.H s2->RelV g v->RelV j u->W (k x y) c.st Post->eH (ko X.prog X.w) X.A (f v u) (Q' v u) X.xe s2) :
  eH (ko X.prog X.w) X.A (Ka a X.env) (λv Y=>eH (ko X.prog X.w) X.A (Ka b X.env) (λu s₂=>eH (ko X.prog X.w) X.A (f v u) (Q' v u) X.xe s₂) X.xe Y) X.xe s:=by
 rw[ah]at h;show ER (N pins s d.σ d.H (λg B=>∃x e,e.H=B/\e.σ=d.σ/\Ok C e/\Nx d e/\aJ C d e x.1 x.2 g/\W (z >>= λy=>au [x,y] >>= λ_=>k x y) e.st Post) I ⟨d,rfl,rfl,ok,h.mono λx st1 n e g o e2 p q r=>⟨x,e,rfl,o,p,q,r,by rw[e2];show n⟩⟩) ?_;rintro v s1 ⟨g,B,I1,rv,x,e,rfl,o,p,q,r,n⟩;rw[ah]at n;show ER (Q pins s1 d.σ e.H (λj D=>∃y i,i.H=D/\J3 C d i x y g j/\W (k x y) i.st Post) I1 ⟨e,o,rfl,p,n.mono λy st2 l i j G e4 Fd J L=>?_⟩) ?_
 .rw[ah,bG]at l;subst e4;rw[cG]at l;show⟨y,i,rfl,⟨G,Fd,q.trans J,(r.w.on p J (G.trans o.symm)).t l.1.1,(L.from q),iA r.w L.w⟩,l.2⟩
 .rintro u s2 ⟨j,D,I2,ru,y,i,rfl,m,l⟩;have hs:i.σ=d.σ:=m.hσ;show T x y i g j v u s2 m (by rw[hs];show I2) rv ru l
structure KI(C:Ct)(c0 c:Cf)(x:Kd×U)(vx:V):Prop where
 hσ:c.σ=c0.σ
 ok:Ok C c
 nx:Nx c0 c
 rx:aJ C c0 c x.1 x.2 vx
abbrev bK(C:Ct)(a:Cf)(Q:VK)(r:Kd×U)(st':ar):Prop:=∀c v,c.σ=a.σ->c.st=st'->Ok C c->Nx a c->aJ C a c r.1 r.2 v->Q v c.H
section
def bK.flat(h:bK C a Q (.loc,u) c.st)(b:c.σ=a.σ)(ok:Ok C c)(n:Nx a c)(r:Rep C c.S c.H u v):Q v c.H:=h c v b rfl ok n r
def bK.list(h:bK C a Q (.own,.lst us) c.st)(b:c.σ=a.σ)(ok:Ok C c)(n:Nx a c)(r:ao C c.S c.H us vs)(p:gs)(d:c.H p=b6):Q (.ref p) (upd c.H p (.lst vs)):=by
 have⟨e,f,g⟩:=ok.newList n d r;show h {c with H:=upd c.H p (.lst vs)} _ b rfl e f g
def bK.tup(h:bK C a Q (.loc,.tup us) c.st)(b:c.σ=a.σ)(ok:Ok C c)(n:Nx a c)(r:ao C c.S c.H us vs)(p:gs)(d:c.H p=b6):Q (.ref p) (upd c.H p (.tup vs)):=by
 have⟨e,f,g⟩:=ok.A5 n d r;show h {c with H:=upd c.H p (.tup vs)} _ b rfl e f g
def bK.tupK(h:bK C b Q (kE k,.tup us) c.st)(d:c.σ=b.σ)(ok:Ok C c)(n:Nx b c)(r:ao C (SK C c k) c.H us vs)(p:gs)(e:c.H p=b6):Q (.ref p) (upd c.H p (.tup vs)):=by
 have⟨f,a⟩:=ok.lay (o:=.tup vs) e;show h {c with H:=upd c.H p (.tup vs)} _ d rfl f (n.trans a) (aJ.item ?_);cases k<;>show⟨p,vs,rfl,Fe.of aH,by first|show r.mv (ok.KC a)|show r.mv (ok.mv a)⟩
def c8(h:k_ k us=b7)(r:ao C (SK C c k) c.H us vs):ao C c.S c.H us vs:=by
 cases k with
 |any=>show r.Fc (by simpa[k_,isAny] using h)
 |_=>show r
end
def Bd(k k':Kd):∀a,SK C c k a->SK C c (kT k k') a:=by
 intro a h;cases k<;>cases k'<;>first|show h|show .inr h
def yw(k k':Kd):∀a,SK C c k' a->SK C c (kT k k') a:=by
 intro a h;cases k<;>cases k'<;>first|show h|show .inr h
def Dd(k k':Kd):kE (kT k k')=kT k k':=by cases k<;>cases k'<;>rfl
def yx:FW X (Nv .Add) (λx y H Q=>∃l b xs c,x=.ref l/\y=.ref b/\Fm X.K H l xs/\Fm X.K H b c/\xs.length+c.length<=df/\∀p,H p=b6->Q (.ref p) (upd H p (.lst (xs++c)))):=by
 intro pins s σ H x y v u Q I m o h;have⟨l,b,xs,c,rfl,rfl,t,w,hz,q⟩:=h;cases m;cases o;have⟨d,r,A,z⟩:=I.list t;have⟨e,f,B,L⟩:=I.list w;have hl:=r.length;have HQ:=f.length;obtain⟨⟨cls,dd,data,C⟩,ho,g,n,i⟩:=A.isList;obtain⟨⟨N,D,data2,G⟩,j,k,J,a⟩:=B.isList;simp only at g i k a;subst g i k a;show UT ⟨_,ho,rfl⟩ ⟨_,j,rfl⟩ noFill_list_add seq_list_add PySem.F.slot_list_add PySem.F.entry_list_add (PySem.F.args_list_add_2 _ _)
   (list_addW l b d.toArray e.toArray n J dd D C G (by rw[js,js];lia)) ⟨ho,j,?_⟩
 have ea:d.toArray++e.toArray=(d++e).toArray:=by simp
 rw[ea];show⟨.ref _,_,I.En (t':=s.toks) (r.append f) (by rw[gc];lia),rfl,q _ I.fresh⟩
end
section
variable{X:Cx}{C:Ct}{pins:List (gs×Obj)}{s:fx}{c0 c:Cf}{Q:VK}
def vJ:FW X (Nv .Add) (λx y H Q=>∃a b e,x=.ref a/\y=.ref b/\Fe X.K H a []/\Fe X.K H b e/\Q (.ref b) H):=by
 intro pins s σ H x y v u Q I k l h;have⟨a,b,e,rfl,rfl,m,o,q⟩:=h;cases k;cases l;obtain⟨B,p,p1,_⟩:=I.tuple m;obtain⟨r,D,p2,_⟩:=I.tuple o;cases p;obtain⟨⟨cls,dd,data,t⟩,ho,f,n,g⟩:=id p1;obtain⟨⟨G,w,data2,z⟩,i,j,A,d⟩:=id p2;simp only at f g j d;subst f g j d;show UT ⟨_,ho,rfl⟩ ⟨_,i,rfl⟩ U_ V0 PySem.F.slot_tuple_add PySem.F.entry_tuple_add (PySem.F.args_tuple_add_2 _ _)
   (tuple_addW0 a b _ r.toArray n A dd w t z (by rfl)) ⟨ho,i,.ref b,H,I,rfl,q⟩
abbrev MC.op:MC->Operator
 |.add=>.Add|.sub=>.Sub|.mul=>.Mult|.Gh=>.FloorDiv|.mod=>.Mod|.pow=>.Pow
def dJ(h:p7 f a b=a5 r):∃i j o,a=.int i/\b=.int j/\f i j=a5 o/\r=(.loc,.int o):=by
 unfold p7 at h;split at h
 .rw[et]at h;have⟨o,e,rfl⟩:=h;show⟨_,_,o,rfl,rfl,e,rfl⟩
 .cases h
def Be(N:C.K=X.K)(t:J3 C c0 c x y f g)(I:Inv X pins c.σ c.H s)(m:RelV f v)(z:RelV g u)(h:Gp op x y=a5 r)(q:bK C c0 Q r c.st):
  eH (ko X.prog X.w) X.A (Nv op.op v u) (EP X pins c.σ Q) X.xe s:=by
 obtain⟨l,ok,n,B,ty,_⟩:=t;cases op with
 |add =>
  have h:vB x y=a5 r:=h;unfold vB at h;split at h
  .have ex:=B.int ok;have d:=ty.int ok;cases h;show cF pins s c.σ c.H f g v u Q I m z ⟨_,_,ex,d,q.flat l ok n rfl⟩
  .have ex:=B.str ok;have d:=ty.str ok;split at h
   .cases h;show pB pins s c.σ c.H f g v u Q I m z ⟨_,_,ex,d,by assumption,q.flat l ok n rfl⟩
   .cases h
  .have⟨a,vs,ex,J,D⟩:=B.list ok;have⟨b,ws,d,L,G⟩:=ty.list ok;split at h
   .rename_i hh;cases h;show yx pins s c.σ c.H f g v u Q I m z ⟨a,b,vs,ws,ex,d,N▸J,N▸L,by rw[<-D.len,<-G.len];show hh.1,λp O=>q.list l ok n ((c8 hh.2.1 D).append (c8 hh.2.2 G)) p O⟩
   .cases h
  .rename_i k xs k' T _ _;have⟨a,vs,ex,J,D⟩:=B.tuple ok;have⟨b,ws,d,L,G⟩:=ty.tuple ok;have Y:=J;have Kn:=L;rw[N]at Y Kn;split at h
   .rename_i hh;cases h;have m1:ao C (SK C c (kT k k')) c.H xs vs:=D.mv (.up (Bd k k'));have m2:ao C (SK C c (kT k k')) c.H T ws:=G.mv (.up (yw k k'));have q':bK C c0 Q (kE (kT k k'),.tup (xs++T)) c.st:=by rw[Dd];show q
    by_cases e1:vs=[]
    .subst e1;show vJ pins s c.σ c.H f g v u Q I m z ⟨a,b,ws,ex,d,Y,Kn,?_⟩;show q' c (.ref b) l rfl ok n (aJ.item ⟨b,ws,rfl,L,?_⟩);have:xs=[]:=by have:=m1.len;simpa using this
     rw[this];show m2
    .show xW pins s c.σ c.H f g v u Q I m z ⟨a,b,vs,ws,ex,d,Y,Kn,e1,by rw[<-D.len,<-G.len];show hh,λe2=>?_,λ_ p O=>q'.tupK l ok n (m1.append m2) p O⟩;subst e2;show q' c (.ref a) l rfl ok n (aJ.item ⟨a,vs,rfl,J,?_⟩);have:T=[]:=by have:=m2.len;simpa using this
     rw[this,w6];show m1
   .cases h
  .cases h
 |sub =>
  have⟨i,j,o,ex,d,e,rfl⟩:=dJ h;have ex:=(ex▸B).int ok;have d:=(d▸ty).int ok;cases e;show jC pins s c.σ c.H f g v u Q I m z ⟨_,_,ex,d,q.flat l ok n rfl⟩
 |mul =>
  have⟨i,j,o,ex,d,e,rfl⟩:=dJ h;have ex:=(ex▸B).int ok;have d:=(d▸ty).int ok;unfold yl at e;split at e
  .cases e;show l8 pins s c.σ c.H f g v u Q I m z ⟨_,_,ex,d,by assumption,q.flat l ok n rfl⟩
  .cases e
 |Gh =>
  have⟨i,j,o,ex,d,e,rfl⟩:=dJ h;have ex:=(ex▸B).int ok;have d:=(d▸ty).int ok;unfold ym at e;split at e
  .cases e;show xR pins s c.σ c.H f g v u Q I m z ⟨_,_,ex,d,by assumption,q.flat l ok n rfl⟩
  .cases e
 |mod =>
  have⟨i,j,o,ex,d,e,rfl⟩:=dJ h;have ex:=(ex▸B).int ok;have d:=(d▸ty).int ok;unfold yn at e;split at e
  .cases e;show bq pins s c.σ c.H f g v u Q I m z ⟨_,_,ex,d,by assumption,q.flat l ok n rfl⟩
  .cases e
 |pow =>
  have⟨i,j,o,ex,d,e,rfl⟩:=dJ h;have ex:=(ex▸B).int ok;have d:=(d▸ty).int ok;unfold yo at e;split at e
  .cases e;show l9 pins s c.σ c.H f g v u Q I m z ⟨_,_,ex,d,by assumption,q.flat l ok n rfl⟩
  .cases e
def yy(d:C.K=X.K)(f:PE X a (ET C g))(i:PE X b (ET C j)):PE X (.BinOp a op.op b pos) (ET C (g >>= λx=>j >>= λy=>au [x,y] >>= λ_=>M.E3 (Gp op x y))):=by
 rintro pins s σ H Q I ⟨c0,rfl,rfl,ok,h⟩;show wpAny_BinOp (two f i I ok h λx y c n o v u s2 t k l m w=>?_);have⟨r,e,q⟩:=bJ.mp w;show ER (Be d t k l m e q) λ_ _ z=>by rw[t.hσ]at z;show z
abbrev LI.op:LI->CmpOp
 |.eq=>.Eq|.ne=>.NotEq|.lt=>.Lt|.le=>.LtE|.gt=>.Gt|.ge=>.GtE|.isin=>.In|.EW=>.NotIn|.is=>.Is|.Oe=>.IsNot
def De{f:Bool}(I:Inv X pins c.σ c.H s)(o:C.K=X.K)(T:X.A.units+60<Ga){S:gs->Prop}(t:Rep C S c.H x r)(u:RelV r v)(z:ao C S c.H m vs)
  (ha:Fm C.K c.H a vs\/Fe C.K c.H a vs) (B:FN 50 x=b7) (D:e_ 50 m=b7) {Q:d6->fx->Prop} (q:Q (.bool (if f then !(m.any λy=>bA y x) else m.any λy=>bA y x)) s) :
  eH (ko X.prog X.w) X.A (Ks (if f then .NotIn else .In) v (.ref a)) Q X.xe s:=by
 have G:=Fh.of I o 50 x r v B t u;have go:∀d:List d6,Vals vs d->∃e:d6->Bool,(∀y,y∈d.toArray->QQ X.A.in1 s y v (e y))/\d.toArray.any e=m.any λy=>bA y x:=by
  intro d n;obtain⟨l,k,_⟩:=Fh.yu (Fh.of I o 50) D z n
  classical
  have q:∀j (b:j<d.length),c4 (∃w,Fh s 50 w d[j]/\bA w x=b7)=bA (m.getD j .EU) x:=λj b=>by
   rw[pj,decide_eq_true_iff];show⟨λ⟨w,g,i⟩=>by rw[<-g.inj (k j b)];show i,λh=>⟨_,k j b,h⟩⟩
  show⟨λy=>c4 (∃w,Fh s 50 w y/\bA w x=b7),λy J=>?_,?_⟩
  .have⟨j,b,e⟩:=O5 (show y∈d by simpa using J);subst e;change QQ _ _ _ _ (decide _);rw[q j b];show C9 (k j b) G (by change X.A.units+1+50 < _;lia)
  .rw[pj];simp only[List.any_toArray,Lw];constructor
   .rintro⟨y,L,h⟩;have⟨j,b,rfl⟩:=O5 L;rw[q j b]at h;show⟨_,KY (l▸b),by simpa[l▸b] using h⟩
   .rintro⟨w,N,O⟩;have⟨j,b,rfl⟩:=O5 N;show⟨_,KY (l▸b),by rw[q j (l▸b)];simpa[b] using O⟩
 rcases ha with ha|ha
 .obtain⟨d,n,p,_⟩:=rF I (o▸ha);have⟨e,g,i⟩:=go d n;cases f with
  |false=>show SeqAt.in_listAt e p g (by rw[i];show q)
  |true=>show SeqAt.notIn_listAt e p g (by rw[i];show q)
 .rw[o]at ha;obtain⟨d,n,p,_⟩:=I.tuple ha;have⟨e,g,i⟩:=go d n;cases f with
  |false=>show SeqAt.in_tupleAt e p g (by rw[i];show q)
  |true=>show SeqAt.notIn_tupleAt e p g (by rw[i];show q)
end
section
theorem bL:∀{us:List U}{ss:List Str},strsOf us=a5 ss->us=ss.map .str
 |[],ss,h=>by cases h;rfl
 |.str x::us,ss,h=>by
  simp only[strsOf,et]at h;have⟨t,a,rfl⟩:=h;rw[bL a];rfl
 |.EU::_,_,h=>by cases h
 |.bl _::_,_,h=>by cases h
 |.int _::_,_,h=>by cases h
 |.tup _::_,_,h=>by cases h
 |.lst _::_,_,h=>by cases h
 |.FT _ _::_,_,h=>by cases h
 |.Fw _::_,_,h=>by cases h
theorem j6:∀{us:List U}{ss:List Bool},jX us=a5 ss->us=ss.map .bl
 |[],ss,h=>by cases h;rfl
 |.bl x::us,ss,h=>by
  simp only[jX,et]at h;have⟨t,a,rfl⟩:=h;rw[j6 a];rfl
 |.EU::_,_,h=>by cases h
 |.str _::_,_,h=>by cases h
 |.int _::_,_,h=>by cases h
 |.tup _::_,_,h=>by cases h
 |.lst _::_,_,h=>by cases h
 |.FT _ _::_,_,h=>by cases h
 |.Fw _::_,_,h=>by cases h
theorem ao.Qa{S:gs->Prop}:∀{xs:List Bool}{vs:List V},ao C S H (xs.map .bl) vs->vs=xs.map V.bl
 |[],vs,h=>h
 |x::xs,vs,h=>by
  have⟨v,r,rfl,a,b⟩:=h;rw[ao.Qa b];have:v=.bl x:=a;rw[this];rfl
abbrev Df(r:cu):U:=.tup [.str r.1,.tup (r.2.map .str)]
def gh(h:rowOf u=a5 r):u=Df r:=by
 unfold rowOf at h;split at h
 .rw[et]at h;have⟨ss,a,rfl⟩:=h;rw[bL a];rfl
 .cases h
abbrev Bg(X:Cx)(pins:List (gs×Obj))(c:Cf)(b:Bool)(v:d6)(s':fx):Prop:=v=.bool b/\Inv X pins c.σ c.H s'
def cK(o:FW X f r)(I:Inv X pins c.σ c.H s)(e:RelV a v)(g:RelV d u)(h:r a d c.H λx H'=>x=.bl b/\H'=c.H):
  eH (ko X.prog X.w) X.A (f v u) (Bg X pins c b) X.xe s :=
 ER (o pins s c.σ c.H a d v u _ I e g h) λw s' i=>by
  have⟨z,H',j,r,k,l⟩:=i;subst k l;show⟨r,j⟩
def aJ.dict(ok:Ok C c)(h:aJ C l c k (.FT i us) v):∃a b,v=.ref a/\c.H a=a5 (.dK b)/\b.map (·.1)=i.map JT/\ao C (SK C c k) c.H us (b.map (·.2)):=by
 cases k with
 |own=>obtain⟨r,e,_,_,_,b,d,f,g⟩:=h;show⟨r,b,e,d,f,g⟩
 |bor j=>obtain⟨r,e,_,_,_,b,d,f,g⟩:=ok.rootOf h.1 h.2;show⟨r,b,e,d,f,g⟩
 |io=>show h.elim
 |ES=>show h.elim
 |_=>obtain⟨a,e,_,b,d,f,g⟩:=h;show⟨a,b,e,d,f,g⟩
def aJ.rA(ok:Ok C c)(h:aJ C d c k (.Fw b) v):∃a,v=.ref a/\eB C.P C.w C.K c.H a b:=by
 cases k with
 |own=>obtain⟨r,e,_,_,_,h⟩:=h;show⟨r,e,h⟩
 |bor j=>obtain⟨r,e,_,_,_,h⟩:=ok.rootOf h.1 h.2;show⟨r,e,h⟩
 |io=>show h.elim
 |ES=>show h.elim
 |_=>obtain⟨a,e,_,h⟩:=h;show⟨a,e,h⟩
theorem iB{S:gs->Prop}:∀{c:List Str}{us:List U}{b:List (Key×V)},b.map (·.1)=c.map JT->ao C S H us (b.map (·.2)) ->
  (∀u,vE c us x=a5 u->∃v,gI b (JT x)=a5 v/\Rep C S H u v)/\(gI b (JT x)).isSome=c4 (x∈c)
 |[],us,b,a,d=>by
  have:b=[]:=by simpa using a
  subst this;show⟨λu h=>by cases us<;>simp[vE]at h,by simp[gI]⟩
 |k::c,us,[],a,d=>by simp at a
 |k::c,[],p::b,a,d=>by simp[ao]at d
 |k::c,m::us,p::b,a,d=>by
  have⟨v,r,e,g,i⟩:=d;rw[l3]at e;cases e;rw[l3,l3,Uk]at a;have⟨j,l⟩:=iB (x:=x) a.2 i;by_cases hk:k=x
  .subst hk;show⟨λu h=>?_,?_⟩
   .simp[vE]at h;subst h;show⟨p.2,eS a.1,g⟩
   .rw[eS a.1];simp
  .have f:¬p.1=JT x:=by rw[a.1];intro z;show hk (Vj z)
   show⟨λu h=>?_,?_⟩
   .simp[vE,hk]at h;have⟨v,e,q⟩:=j u h;show⟨v,by rw[eT f];show e,q⟩
   .rw[eT f,l];simp[HX hk]
def Bh(e:X.A.units+3<Ga):FW X (Ks .In) (λx y H Q=>∃k d c,dH X.K H x k/\y=.ref d/\eB X.prog X.w X.K H d c/\Q (.bl (c4 (k∈c))) H):=by
 intro pins s σ H x y v u Q I f g h;obtain⟨k,d,c,⟨a,b,rfl,i,j⟩,rfl,⟨xs,l,m,n⟩,q⟩:=h;cases f;cases g;have⟨o,dd⟩:=jL I l n;show wpAny_in_heap e (gP I ⟨a,b,rfl,i,j⟩) o dd ?_;show⟨.bl (c4 (k∈c)),H,I.tok _,by rw[fT,m];rfl,q⟩
def Rep.row{S:gs->Prop}(h:Rep C S H (Df r) v):dH C.K H v r:=by
 have⟨a,vs,e,d,f,p,g,i,q,s,j,k,l⟩:=h;cases l;have m:f=.str r.1:=i;have⟨b,ws,n,o,c⟩:=k;rw[ao.strs]at c;subst g j m n c;show⟨a,b,e,d,o⟩
def iC(Q:C.P=X.prog)(T:C.w=X.w)(l:C.K=X.K)(L:X.A.units+60<Ga)(t:J3 C c0 c x y B N)(I:Inv X pins c.σ c.H s)(f:RelV B v)(g:RelV N u)(h:aW op x.2 y.2=a5 b):
  eH (ko X.prog X.w) X.A (Ks op.op v u) (Bg X pins c b) X.xe s:=by
 obtain⟨hσ,ok,n,i,ty,_⟩:=t;have⟨kx,Y⟩:=x;have⟨ky,uy⟩:=y
 dsimp only at h i ty
 have has:∀d:Bool,∀o,vC Y uy=a5 o->eH (ko X.prog X.w) X.A (Ks (if d then .NotIn else .In) v u) (Bg X pins c (if d then !o else o)) X.xe s:=by
  intro d o h;have q:=i.read ok;have D:=ty.read ok;unfold vC at h;split at h
  .have⟨a,vs,rfl,j,m⟩:=D;cases g;unfold IV at h;split at h
   .rename_i hh;cases h;show De I l L q f m (.inl j.sq) hh.1 hh.2 ⟨by cases d<;>rfl,I⟩
   .cases h
  .have⟨a,vs,rfl,j,m⟩:=D;cases g;unfold IV at h;split at h
   .rename_i hh;cases h;show De I l L q f m (.inr j) hh.1 hh.2 ⟨by cases d<;>rfl,I⟩
   .cases h
  .cases h;have ex:B=_:=q;have O:N=_:=D;cases d with
   |false=>show cK s9 I f g ⟨_,_,ex,O,rfl,rfl⟩
   |true=>show cK mz I f g ⟨_,_,ex,O,rfl,rfl⟩
  .cases h;have ex:B=_:=q;have⟨a,EK,rfl,j,m,p⟩:=ty.dict ok;cases g;subst ex;have hs:=λz:Str=>(iB (x:=z) m p).2;cases d with
   |false=>show Eo ⋯ I (tD.k (k:=JT _) j) f λs' G=>⟨by rw[hs];rfl,G⟩
   |true=>show x5 ⋯ I (tD.k (k:=JT _) j) f λs' G=>⟨by rw[hs];rfl,G⟩
  .rw[et]at h;have⟨r,j,m⟩:=h;have e:=gh j;subst e;have J:=q.row;have⟨a,ea,p⟩:=ty.rA ok;rw[l]at J p;rw[Q,T]at p;subst m;cases d with
   |false=>show cK (Bh ⋯) I f g ⟨r,a,_,J,ea,p,rfl,rfl⟩
   |true=>show cK (tH ⋯) I f g ⟨r,a,_,J,ea,p,rfl,rfl⟩
  .cases h
 unfold aW at h;split at h
 .split at h
  .rename_i hh;cases h;show(C_ (n:=50) (.of I l _ _ _ _ hh.1 (i.read ok) f) (.of I l _ _ _ _ hh.2 (ty.read ok) g) ⋯).1 _ _ _ _ ⟨rfl,I⟩
  .cases h
 .split at h
  .rename_i hh;cases h;show(C_ (n:=50) (.of I l _ _ _ _ hh.1 (i.read ok) f) (.of I l _ _ _ _ hh.2 (ty.read ok) g) ⋯).2 _ _ _ _ ⟨rfl,I⟩
  .cases h
 .cases h;show cK CG I f g ⟨_,_,i.int ok,ty.int ok,rfl,rfl⟩
 .cases h;show cK CH I f g ⟨_,_,i.int ok,ty.int ok,rfl,rfl⟩
 .cases h;show cK CI I f g ⟨_,_,i.int ok,ty.int ok,rfl,rfl⟩
 .cases h;show cK CJ I f g ⟨_,_,i.int ok,ty.int ok,rfl,rfl⟩
 .cases h;show cK sZ I f g ⟨_,_,i.str ok,ty.str ok,rfl,rfl⟩
 .cases h;show cK tF I f g ⟨_,_,i.str ok,ty.str ok,rfl,rfl⟩
 .show has cb b h
 .rw[et]at h;have⟨o,j,rfl⟩:=h;show has b7 o j
 .cases h
def yz(d:C.P=X.prog)(f:C.w=X.w)(g:C.K=X.K)(i:X.A.units+60<Ga)(j:PE X a (ET C k))(l:PE X b (ET C m))(n:V2 op.op b=cb):
  PE X (.Compare a [op.op] [b] pos) (ET C (k >>= λx=>m >>= λy=>au [x,y] >>= λ_=>M.E3 (aW op x.2 y.2) >>= λc=>pure (.loc,.bl c))):=by
 rintro pins s σ H Q I ⟨J,rfl,rfl,ok,h⟩;show wpAny_Compare1 (two j l I ok h λx y c L N v u s2 t o p B w=>?_) n;rw[ah]at w;have⟨r,e,q⟩:=bJ.mp w;rw[aj]at q;show ER (iC d f g i t o p B e) λz s' D=>?_;have⟨e,G⟩:=D;subst e;show⟨.bl r,c.H,by rw[<-t.hσ];show G,rfl,q c (.bl r) t.hσ rfl t.ok t.nx rfl⟩
def yA(d:C.P=X.prog)(g:C.w=X.w)(i:C.K=X.K)(j:X.A.units+60<Ga)(k:PE X a (ET C l))(m:PE X b (ET C n))(o:V2 op.op b=cb):
  PT X (.Compare a [op.op] [b] pos) (FV C (l >>= λx=>n >>= λy=>au [x,y] >>= λ_=>M.E3 (aW op x.2 y.2))):=by
 rintro pins s σ H Q I ⟨p,rfl,rfl,ok,h⟩;show wpAny_isTrue_Compare1 (two (f:=λv u=>Ks op.op v u) (Q':=λ_ _ c s=>eH (ko X.prog X.w) X.A (X7 c) (TP X pins p.σ Q) X.xe s) k m I ok h λx y c N O v u s2 t B D G w=>?_) o;have⟨r,e,q⟩:=bJ.mp w;show ER (iC d g i j t B D G e) λz s' J=>?_;have⟨e,L⟩:=J;subst e;show GX ⟨c.H,by rw[<-t.hσ];show L,q c t.hσ rfl t.ok t.nx⟩
end
section
abbrev zK(C:Ct)(a:Cf)(Q:Bool->Hp->Prop)(b:Bool)(st':ar):Prop:=∀c,c.σ=a.σ->c.st=st'->Ok C c->Nx a c->Q b c.H
def vK(c:a.σ=b.σ)(ok:Ok C a)(n:Nx b a)(h:W m a.st (bK C b Q)):ET C m b.σ a.H Q :=
 ⟨a,c,rfl,ok,h.mono λr st d e v f g i j k=>d e v f g i (n.trans j) (k.from n)⟩
def vL(c:a.σ=b.σ)(ok:Ok C a)(n:Nx b a)(h:W m a.st (zK C b Q)):FV C m b.σ a.H Q :=
 ⟨a,c,rfl,ok,h.mono λr st d e f g i j=>d e f g i (n.trans j)⟩
def aR(ok:Ok C a)(h:W (b >>= k) a.st Post)
  (hz:∀x c v,KI C a c x v->W (k x) c.st Post->Z v c.H):ET C b a.σ a.H Z:=by
 rw[ah]at h;show⟨a,rfl,rfl,ok,h.mono λx st1 d e f g i j l m=>hz x e f ⟨g,j,l,m⟩ (by rw[i];show d)⟩
def fe(ok:Ok C a)(h:W (d >>= k) a.st Post)
  (hz:∀b c,c.σ=a.σ->Ok C c->Nx a c->W (k b) c.st Post->Z b c.H):FV C d a.σ a.H Z:=by
 rw[ah]at h;show⟨a,rfl,rfl,ok,h.mono λx st1 e f g i j l=>hz x f g j l (by rw[i];show e)⟩
abbrev Dg(m:M (Kd×U))(x:Kd×U):M (Kd×U):=match x.2 with
 |.bl b7=>m
 |.bl cb=>pure (.loc,.bl cb)
 |_=>M.fail
abbrev Qb(m:M (Kd×U))(x:Kd×U):M (Kd×U):=match x.2 with
 |.bl b7=>pure (.loc,.bl b7)
 |.bl cb=>m
 |_=>M.fail
abbrev Dh(x:Kd×U):M (Kd×U):=match x.2 with
 |.bl c=>pure (.loc,.bl !c)
 |_=>M.fail
def snd_and(i:PE X a (ET C j))(l:PE X (.BoolOp .And (b::d) pos) (ET C m)):PE X (.BoolOp .And (a::b::d) pos) (ET C (j >>= Dg m)):=by
 show PE.weak (Ao i l) ?_;rintro σ H Q ⟨o,rfl,rfl,ok,h⟩;show aR ok h λx c v t w=>?_;have⟨k,u⟩:=x;have⟨g,f,n,r⟩:=t;unfold Dg at w;split at w
 .rename_i e
  dsimp only at e r
  subst e;show⟨b7,r.bl f,by rw[Yr rfl];show vK g f n w⟩
 .rename_i e
  dsimp only at e r
  subst e;rw[aj]at w;show⟨cb,r.bl f,by rw[Yt oa];show w c (.bl cb) g rfl f n rfl⟩
 .show(aU.mp w).elim
def Bi(i:PE X a (ET C j))(l:PE X (.BoolOp .Or (b::d) pos) (ET C m)):PE X (.BoolOp .Or (a::b::d) pos) (ET C (j >>= Qb m)):=by
 show PE.weak (Cr i l) ?_;rintro σ H Q ⟨o,rfl,rfl,ok,h⟩;show aR ok h λx c v t w=>?_;have⟨k,u⟩:=x;have⟨g,f,n,r⟩:=t;unfold Qb at w;split at w
 .rename_i e
  dsimp only at e r
  subst e;rw[aj]at w;show⟨b7,r.bl f,by rw[Yr rfl];show w c (.bl b7) g rfl f n rfl⟩
 .rename_i e
  dsimp only at e r
  subst e;show⟨cb,r.bl f,by rw[Yt oa];show vK g f n w⟩
 .show(aU.mp w).elim
def yB(d:PE X a (ET C f)):PE X (.UnaryOp .Not a pos) (ET C (f >>= Dh)):=by
 show PE.weak (Ap d) ?_;rintro σ H Q ⟨i,rfl,rfl,ok,h⟩;show aR ok h λx c v t w=>?_;have⟨k,u⟩:=x;have⟨g,b,n,r⟩:=t;unfold Dh at w;split at w
 .rename_i e
  dsimp only at e r
  subst e;rw[aj]at w;show⟨_,r.bl b,w c (.bl _) g rfl b n rfl⟩
 .show(aU.mp w).elim
def yC(d:PT X a (FV C e)):PT X (.UnaryOp .Not a pos) (FV C (e >>= λb=>pure !b)):=by
 show PT.weak (An d) ?_;rintro σ H Q ⟨i,rfl,rfl,ok,h⟩;show fe ok h λp c f g n w=>?_;rw[aj]at w;show w c f rfl g n
def yD(i:PT X a (FV C j))(k:PW X (.BoolOp .And (b::d) pos) (FV C l)):PW X (.BoolOp .And (a::b::d) pos) (FV C (j >>= λp=>if p=b7 then l else pure cb)):=by
 have m:=Am i k;rintro o pins s σ H Q I ⟨e,rfl,rfl,ok,h⟩;show m o pins s e.σ e.H Q I (fe ok h λp c f g n w=>?_);cases p with
 |true=>rw[Yr rfl]at w ⊢;show vL f g n w
 |false=>rw[Yt oa]at w ⊢;rw[aj]at w;show w c f rfl g n
def Bj(i:PT X a (FV C j))(k:PW X (.BoolOp .Or (b::d) pos) (FV C l)):PW X (.BoolOp .Or (a::b::d) pos) (FV C (j >>= λp=>if p=b7 then pure b7 else l)):=by
 have m:=Co i k;rintro o pins s σ H Q I ⟨e,rfl,rfl,ok,h⟩;show m o pins s e.σ e.H Q I (fe ok h λp c f g n w=>?_);cases p with
 |true=>rw[Yr rfl]at w ⊢;rw[aj]at w;show w c f rfl g n
 |false=>rw[Yt oa]at w ⊢;show vL f g n w
def rJ{us:List α}{vs:List β}(h:us.length=vs.length):(!us.isEmpty)=!vs.isEmpty:=by
 cases us<;>cases vs<;>simp_all
def ju(j:PE X a (ET C l))(i:C.K=X.K)(m:∀b,isTrue a X.env b=(do let v <-b;Wk a.pos;Ou [v] (X7 v))):PT X a (FV C (l >>= λx=>M.E3 (tQ x.2))):=by
 show PT.weak (uJ j m) ?_;rintro σ H Q ⟨s,rfl,rfl,ok,h⟩;show aR ok h λx c v t w=>?_;have⟨k,u⟩:=x;have⟨o,d,n,r⟩:=t;have⟨p,e,q⟩:=bJ.mp w
 dsimp only at e r
 show⟨p,?_,q c o rfl d n⟩;unfold tQ at e;split at e
 .cases e;rw[r.bl d];rfl
 .cases e;have⟨a,vs,rfl,f,g⟩:=r.list d;show .inl ⟨vs,i▸f,rJ g.len⟩
 .cases e;have⟨a,vs,rfl,f,g⟩:=r.tuple d;rw[i]at f;show .inr (.inl ⟨vs,f,rJ g.len⟩)
 .split at e
  .cases e;rw[r.str d];show⟨by assumption,rfl⟩
  .cases e
 .cases e
def vM(l:C.P=X.prog)(m:C.w=X.w)(n:C.K=X.K)(o:X.A.units+60<Ga)(Y:PE X a (ET C ma))(hb:PE X b (ET C mb))(hd:PE X d (ET C md))(hm:XN [o1.op,o2.op] [b,d]=cb):
  PE X (.Compare a [o1.op,o2.op] [b,d] pos) (ET C (ma >>= λx=>mb >>= λy=>au [x,y] >>= λ_=>M.E3 (aW o1 x.2 y.2) >>= λp=>if p=b7 then(md >>= λz=>au [y,z] >>= λ_=>M.E3 (aW o2 y.2 z.2) >>= λq=>pure (.loc,.bl q)) else pure (.loc,.bl cb))):=by
 rintro pins s σ H Q I ⟨r,rfl,rfl,ok,h⟩;show Compare_chain (ER (two Y hb I ok h λx y c vx vy v u s2 t I2 rx B w=>?_) λv s1 h1=>chain_link (ER h1 λu s2 f=>f)) hm;rw[ah]at w;have⟨p,e,q⟩:=bJ.mp w;show ER (iC l m n o t I2 rx B e) λz s' Oi=>?_;have⟨e,D⟩:=Oi;subst e;show GX ?_;cases p with
 |false =>
  rw[Yt oa,aj]at q;show ite_ff ⟨.bl cb,c.H,by rw[<-t.hσ];show D,rfl,q c (.bl cb) t.hσ rfl t.ok t.nx rfl⟩
 |true =>
  rw[Yr rfl,ah]at q;show ite_tt (chain_last (ER (hd pins s' c.σ c.H (λj G=>∃z g,g.H=G/\J3 C r g y z vy j/\W (M.E3 (aW o2 y.2 z.2) >>= λq=>pure (.loc,.bl q)) g.st (bK C r Q)) D ⟨c,rfl,rfl,t.ok,q.mono λz st2 f g j J k Fd L N=>?_⟩) ?_))
  .rw[ah,bG]at f;subst k;rw[cG]at f;show⟨z,g,rfl,⟨J.trans t.hσ,Fd,t.nx.trans L,(t.ry.w.on t.ok L J).t f.1.1,N.from t.nx,iA t.ry.w N.w⟩,f.2⟩
  .rintro zv s3 ⟨j,G,I3,rz,z,g,rfl,i,f⟩;rw[ah]at f;have⟨O,e',T⟩:=bJ.mp f;rw[aj]at T;show ER (iC (pins:=pins) l m n o i (by rw[i.hσ,<-t.hσ];show I3) B rz e') λz' s4 Oj=>?_;have⟨k,I4⟩:=Oj;subst k;show⟨.bl O,g.H,by rw[<-i.hσ];show I4,rfl,T g (.bl O) i.hσ rfl i.ok i.nx rfl⟩
def vN(l:C.P=X.prog)(m:C.w=X.w)(n:C.K=X.K)(o:X.A.units+60<Ga)(O:PE X a (ET C T))(Y:PE X b (ET C mb))(hd:PE X d (ET C md))(hm:XN [o1.op,o2.op] [b,d]=cb):
  PT X (.Compare a [o1.op,o2.op] [b,d] pos) (FV C (T >>= λx=>mb >>= λy=>au [x,y] >>= λ_=>M.E3 (aW o1 x.2 y.2) >>= λp=>if p=b7 then(md >>= λz=>au [y,z] >>= λ_=>M.E3 (aW o2 y.2 z.2)) else pure cb)):=by
 rintro pins s σ H Q I ⟨r,rfl,rfl,ok,h⟩;show isTrue_chain (ER (two O Y I ok h λx y c vx vy v u s2 t I2 rx B w=>?_) λv s1 h1=>test_link (ER h1 λu s2 f=>f)) hm;rw[ah]at w;have⟨p,e,q⟩:=bJ.mp w;show ER (iC l m n o t I2 rx B e) λz s' Ol=>?_;have⟨e,D⟩:=Ol;subst e;show GX ?_;cases p with
 |false =>
  rw[Yt oa,aj]at q;show ite_ff ⟨c.H,by rw[<-t.hσ];show D,q c t.hσ rfl t.ok t.nx⟩
 |true =>
  rw[Yr rfl,ah]at q;show ite_tt (test_last (ER (hd pins s' c.σ c.H (λj G=>∃z g,g.H=G/\J3 C r g y z vy j/\W (M.E3 (aW o2 y.2 z.2)) g.st (zK C r Q)) D ⟨c,rfl,rfl,t.ok,q.mono λz st2 f g j J k Fd L N=>?_⟩) ?_))
  .rw[ah,bG]at f;subst k;rw[cG]at f;show⟨z,g,rfl,⟨J.trans t.hσ,Fd,t.nx.trans L,(t.ry.w.on t.ok L J).t f.1.1,N.from t.nx,iA t.ry.w N.w⟩,f.2⟩
  .rintro zv s3 ⟨j,G,I3,rz,z,g,rfl,i,f⟩;have⟨q',e',w'⟩:=bJ.mp f;show ER (iC (pins:=pins) l m n o i (by rw[i.hσ,<-t.hσ];show I3) B rz e') λz' s4 Om=>?_;have⟨k,I4⟩:=Om;subst k;show GX ⟨g.H,by rw[<-i.hσ];show I4,w' g i.hσ rfl i.ok i.nx⟩
end
section
def cm.from(n:Nx a b):cm C b c rs vs->cm C a c rs vs:=by
 intro h;induction rs generalizing vs with
 |nil=>show h
 |cons r rs d=>have⟨v,t,e,f,g,i⟩:=h;show⟨v,t,e,f.from n,d g,i⟩
def cm.get{i:Nat}(h:cm C b c rs vs)(e:rs[i]?=a5 r)(a:vs[i]?=a5 v):eZ C b c r.1 r.2 v:=by
 induction rs generalizing vs i with
 |nil=>simp at e
 |cons j rs d =>
  have⟨k,t,rfl,f,g,l⟩:=h;cases i with
  |zero=>simp at e a;subst e a;show f
  |succ i=>show d g (by simpa using e) (by simpa using a)
def yE:PA X [] (FO C (pure [])):=by
 rintro pos pins s σ H Q I ⟨a,rfl,rfl,ok,h⟩;rw[aj]at h;show eO pos pins s a.σ a.H Q I (h a [] rfl rfl ok (Nx.refl a) rfl)
def vO(g:PE X e (ET C m))(j:PA X es (FO C ms))(hs:mx (e::es) X.env=(cb,Ka e X.env)::mx es X.env):PA X (e::es) (FO C (m >>= λr=>ms >>= λrs=>pure (r::rs))):=by
 rintro pos pins s σ H Q I ⟨a,rfl,rfl,ok,h⟩;show bY g j hs pos pins s a.σ a.H Q I (aR ok h λr k v t w=>?_);rw[ah]at w;show⟨k,t.hσ,rfl,t.ok,w.mono λrs st2 b l vs c n o d f=>?_⟩;rw[aj]at b;show b l (v::vs) c n o (t.nx.trans d) ⟨v,vs,rfl,t.rx.w.on t.ok d (c.trans t.hσ.symm),f.from t.nx,λhk i x y p q u=>?_⟩;show iA t.rx.w (f.get p q) hk u
structure GQ(C:Ct)(c0 c:Cf)(rs:List (Kd×U))(vs:List V):Prop where
 hσ:c.σ=c0.σ
 ok:Ok C c
 nx:Nx c0 c
 rep:cm C c0 c rs vs
 J4:aY rs c.st
def args{k:List (Kd×U)->M β}{Post:β->ar->Prop}(f:PA X es (FO C ms))(I:Inv X pins a.σ a.H s)(ok:Ok C a)(h:W (ms >>= λrs=>au rs >>= λ_=>k rs) a.st Post)(pos:Pos):
  eH (ko X.prog X.w) X.A (Xy (Kc pos (mx es X.env))) (λus s1=>∃rs c vs,GQ C a c rs vs/\Inv X pins c.σ c.H s1/\Vals vs us/\W (k rs) c.st Post) X.xe s:=by
 rw[ah]at h;show ER (f pos pins s a.σ a.H (λvs e=>∃rs c,c.H=e/\GQ C a c rs vs/\W (k rs) c.st Post) I ⟨a,rfl,rfl,ok,h.mono λrs st1 b d vs g i j l m=>?_⟩) ?_
 .rw[ah,bG]at b;subst i;show⟨rs,d,rfl,⟨g,j,l,m,b.1⟩,b.2⟩
 .rintro us s1 ⟨vs,e,n,o,rs,d,rfl,t,w⟩;show⟨rs,d,vs,t,by rw[t.hσ];show n,o,w⟩
def GQ.one(t:GQ C a c [r] vs):∃v,vs=[v]/\aJ C a c r.1 r.2 v:=by
 obtain⟨v,t',rfl,b,d,_⟩:=t.rep;cases d;show⟨v,rfl,b.t t.J4⟩
def GQ.two(t:GQ C b c [r,d] vs):∃v a,vs=[v,a]/\aJ C b c r.1 r.2 v/\aJ C b c d.1 d.2 a:=by
 obtain⟨v,t',rfl,e,⟨a,h,rfl,f,g,_⟩,_⟩:=t.rep;cases g;have hs:=cG.mp t.J4;show⟨v,a,rfl,e.t hs.1,f.t hs.2⟩
def Ok.share(ok:Ok C c)(f:C.H₀ r=b6)(g:∃o,c.H r=a5 o)(hl:st'.length=c.st.length)
  (b:∀(i:Nat) k u,st'[i]?=a5 (a5 (k,u))->(∃v,c.σ[i]?=a5 (a5 v)/\eX C (λa=>c.S a\/a=r) c.H k u v)/\(k.root=b7->c.st[i]?=a5 (a5 (k,u)))) (h:Ht C {c with S:=λa=>c.S a\/a=r,st:=st' }) :
  Ok C {c with S:=λa=>c.S a\/a=r,st:=st' }:=by
 show⟨ok.same,λa z=>?_,ok.par,ok.io,by rw[show({c with S:=λa=>c.S a\/a=r,st:=st' }:Cf).st.length=st'.length from rfl,hl];show ok.len,λi k u e=>(b i k u e).1,λi j k k' u u' l hk d m n p q=>?_,h⟩
 .rcases z with z|rfl
  .show ok.G8 a z
  .show⟨f,g⟩
 .show ok.inj i j k k' u u' l hk d ((b i k u m).2 hk) ((b j k' u' n).2 d) p q
def Ok.Bk(p:Ok C b)(ok:Ok C c)(n:Nx b c)(d:b.H r=b6)(f:¬c.R r)(s:cB C c.S c.H r u):
  Ok C {c with S:=λa=>c.S a\/a=r}/\Nx b {c with S:=λa=>c.S a\/a=r}:=by
 obtain⟨o,ho,_⟩:=s.some;show⟨ok.share (st':=c.st) (p.mZ d).1 ⟨o,ho⟩ rfl (λi k u e=>⟨?_,λ_=>e⟩) (ok.dd.hs (.up λa=>.inl) λj a z=>⟨λq=>q.elim (ok.root (.inr ⟨j,z⟩)).1 λe=>f (.inr ⟨j,e▸z⟩),λo q=>q⟩),⟨⟨n.keep,n.there,n.roots,λa z=>.inl (n.sub a z),λa z=>?_⟩⟩⟩
 .have⟨v,g,h⟩:=ok.sl i k u e;have t:Mv c.S c.H (λa=>c.S a\/a=r) c.H:=.up λa=>.inl;show⟨v,g,h.mv t (.up λa z=>z.imp id .inl) λhk x l=>⟨?_,λo q=>q⟩⟩;obtain⟨y,m,w,_⟩:=h.rt hk;rw[l]at m;cases m;rintro(z|rfl)
  .show w z
  .show f (.inl ⟨i,k,u,hk,e,by rw[g,l]⟩)
 .rcases z with z|rfl
  .show n.new a z
  .show .inr (.inr d)
def Ok.vP(ok:Ok C c)(n:Nx D c)(f:c.st[j]?=a5 (a5 (.own,u)))(g:c.σ[j]?=a5 (a5 (.ref r))):
  Ok C {c with S:=λa=>c.S a\/a=r,st:=c.st.set j (a5 (.loc,u))}/\Nx D {c with S:=λa=>c.S a\/a=r,st:=c.st.set j (a5 (.loc,u))}/\Rep C (λa=>c.S a\/a=r) c.H u (.ref r):=by
 have⟨Q,d,h,l,T,Y,G,w⟩:=ok.sl j _ _ f;rw[g]at d;cases d;cases l;have x:Rep C (λa=>c.S a\/a=r) c.H u (.ref r):=w.rep (λa=>.inl) (.inr rfl);obtain⟨o,ho,_⟩:=w.some;have p:j<c.st.length:=(hQ.mp f).1;have s:∀(i:Nat) k u',(c.st.set j (a5 (.loc,u)))[i]?=a5 (a5 (k,u'))->i≠j->c.st[i]?=a5 (a5 (k,u')):=λi k u' e ne=>by rw[mu (HX ne)]at e;show e
 have I:c.R1 r:=⟨j,.own,u,rfl,f,g⟩
 have y:∀(i:Nat) (u':U),(c.st.set j (a5 (.loc,u)))[i]?=a5 (a5 (.ES,u'))->c.st[i]?=a5 (a5 (.ES,u')):=λi u' e=>by
  by_cases b:i=j
  .subst b;rw[nc p]at e;cases e
  .show s i .ES u' e b
 have A:∀a,({c with S:=λa=>c.S a\/a=r,st:=c.st.set j (a5 (.loc,u))}:Cf).R1 a->c.R1 a:=λa J=>by
  have⟨i,k,u',hk,e,L⟩:=J;by_cases b:i=j
  .subst b;rw[nc p]at e;cases e;cases hk
  .show⟨i,k,u',hk,s i k u' e b,L⟩
 have N:Ht C {c with S:=λa=>c.S a\/a=r,st:=c.st.set j (a5 (.loc,u))}:=ok.dd.of rfl (λi u' e=>⟨y i u' e,rfl⟩) (λa z=>.inl (A a z)) (.up λa=>.inl) λi a z=>⟨λq=>q.elim (ok.root (.inr ⟨i,z⟩)).1 λe=>ok.dd.d1 i a z (e▸I),λo q=>q⟩
 show⟨ok.share (st':=c.st.set j (a5 (.loc,u))) G ⟨o,ho⟩ (by simp) (λi k u' e=>?_) N,⟨⟨n.keep,n.there,λa z=>?_,λa z=>.inl (n.sub a z),λa z=>?_⟩⟩,x⟩
 .by_cases b:i=j
  .subst b;rw[nc p]at e;cases e;show⟨⟨.ref r,g,x⟩,λz=>nomatch z⟩
  .have t:=s i k u' e b;have⟨v,d,m⟩:=ok.sl i k u' t;show⟨⟨v,d,m.mv (.up λa=>.inl) (.up λa z=>z.imp id .inl) λhk h l=>⟨?_,λo q=>q⟩⟩,λ_=>t⟩;obtain⟨Qc,B,p1,_⟩:=m.rt hk;rw[l]at B;cases B;rintro(z|rfl)
   .show p1 z
   .show b (ok.inj i j k .own u' u h hk rfl t f (by rw[d,l]) g)
 .rcases z with z|⟨i,u',h,d,m,O⟩
  .show n.roots a (.inl (A a z))
  .show n.roots a (.inr ⟨i,u',h,y i u' d,m,O⟩)
 .rcases z with z|rfl
  .show n.new a z
  .rcases n.roots a (.inl ⟨j,.own,u,rfl,f,g⟩) with z|z
   .show .inr (.inl z)
   .show .inr (.inr z)
def m6(A:Ok C g)(ok:Ok C c)(n:Nx g c)(b:eZ C g c r.1 r.2 v)(h:W (lift r) c.st Post):
  ∃(S':gs->Prop) (st':ar) (u:U),(∀a,c.S a->S' a)/\Ok C {c with S:=S',st:=st' }/\Nx g {c with S:=S',st:=st' }/\Rep C S' c.H u v/\Post u st' /\
   (∀a,S' a->c.S a\/v=.ref a/\(r.1=.own\/c.R a))/\∀a,({c with S:=S',st:=st' }:Cf).R a->c.R a:=by
 have⟨k,u⟩:=r;cases k with
 |own =>
  rw[show lift (.own,u)=pure u from rfl,aj]at h;have⟨r,e,B,N,D,t⟩:=b;have⟨l,m⟩:=Ok.Bk A ok n B D t;show⟨_,c.st,u,λa=>.inl,l,m,by rw[e];show t.rep (λa=>.inl) (.inr rfl),h,λa z=>?_,λa z=>z⟩;rcases z with z|rfl
  .show .inl z
  .show .inr ⟨e,.inl rfl⟩
 |loc =>
  rw[show lift (.loc,u)=pure u from rfl,aj]at h;show⟨c.S,c.st,u,λa=>id,ok,n,b,h,λa z=>.inl z,λa z=>z⟩
 |any =>
  rw[show lift (.any,u)=if Fc u=b7 then pure u else M.fail from rfl]at h;split at h
  .rw[aj]at h;show⟨c.S,c.st,u,λa=>id,ok,n,Rep.Fc (by assumption) b,h,λa z=>.inl z,λa z=>z⟩
  .show(aU.mp h).elim
 |bor j =>
  have⟨x,st',e,G⟩:=h;rw[show lift (.bor j,u) c.st=match c.st[j]? with|some (a5 (.own,u))=>a5 (Ex.ok u,c.st.set j (a5 (.loc,u)))|_=>b6 from rfl]at e;split at e
  .rename_i w d;cases e;obtain⟨O,y,r,I,_⟩:=ok.sl j _ _ d;have o:c.σ[j]?=a5 (a5 v):=b;rw[o]at y;cases y;subst I;have⟨l,m,p⟩:=ok.vP n d o;show⟨_,_,_,λa=>.inl,l,m,p,G,λa z=>?_,λa z=>?_⟩
   .rcases z with z|rfl
    .show .inl z
    .show .inr ⟨rfl,.inr (.inl ⟨j,.own,_,rfl,d,o⟩)⟩
   .rcases z with⟨i,k,u',hk,e,q⟩|⟨i,u',J,e,q,L⟩
    rotate_left 1
    .by_cases f:i=j
     .subst f;have s:i<c.st.length:=(hQ.mp d).1;rw[nc s]at e;cases e
     .rw[mu (HX f)]at e;show .inr ⟨i,u',J,e,q,L⟩
    by_cases f:i=j
    .subst f;have s:i<c.st.length:=(hQ.mp d).1;rw[nc s]at e;cases e;cases hk
    .rw[mu (HX f)]at e;show .inl ⟨i,k,u',hk,e,q⟩
  .cases e
 |_=>show b.elim
theorem hJ:∀{rs:List (Kd×U)}{vs:List V}{c:Cf}{Post:List U->ar->Prop},Ok C b->Ok C c->Nx b c->cm C b c rs vs->W (cN rs) c.st Post ->
  ∃(S':gs->Prop) (st':ar) (us:List U),(∀a,c.S a->S' a)/\Ok C {c with S:=S',st:=st' }/\Nx b {c with S:=S',st:=st' }/\ao C S' c.H us vs/\Post us st'
 |[],vs,c,Post,m,ok,n,p,h=>by
  rw[show cN []=pure [] from rfl,aj]at h;show⟨c.S,c.st,[],λa=>id,ok,n,p,h⟩
 |r::rs,vs,c,Post,m,ok,n,p,h=>by
  have⟨v,t,rfl,G,I,J⟩:=p;rw[show cN (r::rs)=lift r >>= λu=>cN rs >>= λus=>pure (u::us) from rfl,ah]at h;have⟨S1,st1,u,s1,L,N,d,s,O,Q⟩:=m6 m ok n G h;rw[ah]at s;have T:cm C b {c with S:=S1,st:=st1} rs t:=by
   clear h s;have x:∀(l:List (Kd×U)) (w:List V),cm C b c l w->(r.1=.own->∀(i:Nat) g j,l[i]?=a5 g->w[i]?=a5 j->g.1=.own->j≠v)->cm C b {c with S:=S1,st:=st1} l w:=by
    intro l;induction l with
    |nil=>intro w q _;show q
    |cons Y l ih =>
     intro w q y;have⟨A,B,rfl,k,q2,q3⟩:=q;show⟨A,B,rfl,?_,ih B q2 (λhk i g j e1 e2 Fv=>y hk (i+1) g j (by simpa using e1) (by simpa using e2) Fv),q3⟩;have⟨k2,u2⟩:=Y;cases k2 with
     |own =>
      have⟨a,e,p1,p2,p3,p4⟩:=k;show⟨a,e,p1,λz=>?_,λz=>p3 (Q a z),p4.mv (.up s1) λo q=>q⟩;rcases O a z with z|⟨z,z'|z'⟩
      .show p2 z
      .show y z' 0 _ A rfl rfl rfl (e.trans z.symm)
      .show p3 z'
     |loc=>show Rep.mv (.up s1) k
     |any=>show Rep.mv (.up λa z=>z.imp id (s1 a)) k
     |_=>show k
   show x rs t I J
  have⟨S2,st2,us,s2,Fd,n2,f,D⟩:=hJ (c:={c with S:=S1,st:=st1}) m L N T s;rw[aj]at D;show⟨S2,st2,u::us,λa z=>s2 a (s1 a z),Fd,n2,⟨v,t,rfl,d.mv (.up s2),f⟩,D⟩
def yF(i:PA X es (FO C ms)):PE X (.Tuple es p pos) (ET C (ms >>= λrs=>au rs >>= λ_=>cN rs >>= λus=>if us.length<=df then pure (.loc,.tup us) else M.fail)):=by
 rintro pins s σ H Q I ⟨j,rfl,rfl,ok,h⟩;show wpAny_Tuple_spliced (ER (args i I ok h pos) λus s1 k=>?_);have⟨rs,c,vs,t,f,g,w⟩:=k;rw[ah]at w;have⟨S',st',ws,q,l,m,a,d⟩:=hJ ok t.ok t.nx t.rep w;split at d
 .rename_i hz;rw[aj]at d;have hl:vs.length<=df:=by rw[<-a.len];show hz
  show⟨by rw[<-g.length];show hl,?_⟩;have n:c.H s1.heap.objs.size=b6:=f.EN.fresh (ke _);have o:Inv X pins j.σ c.H s1:=by rw[<-t.hσ];show f
  show⟨.ref s1.heap.objs.size,upd c.H s1.heap.objs.size (.tup vs),o.laid (t':=s1.toks) (λb u e=>dV _ e) (ke _) ⟨hl,us,g,Vf _ _⟩,rfl,?_⟩;show bK.tup (c:={c with S:=S',st:=st' }) d t.hσ l m a _ n
 .show(aU.mp d).elim
def yG(i:PA X es (FO C ms)):PE X (.List es pos) (ET C (ms >>= λrs=>au rs >>= λ_=>cN rs >>= λus=>if us.length<=df then pure (.own,.lst us) else M.fail)):=by
 rintro pins s σ H Q I ⟨j,rfl,rfl,ok,h⟩;show Xk (ER (args i I ok h pos) λus s1 k=>?_);have⟨rs,c,vs,t,f,g,w⟩:=k;rw[ah]at w;have⟨S',st',ws,p,l,m,a,d⟩:=hJ ok t.ok t.nx t.rep w;split at d
 .rename_i hz;rw[aj]at d;have hl:vs.length<=df:=by rw[<-a.len];show hz
  show⟨by rw[<-g.length];show hl,?_⟩;have n:c.H s1.heap.objs.size=b6:=f.EN.fresh (ke _);have o:Inv X pins j.σ c.H s1:=by rw[<-t.hσ];show f
  show⟨.ref s1.heap.objs.size,upd c.H s1.heap.objs.size (.lst vs),o.laid (t':=s1.toks) (λb u e=>dV _ e) (ke _) ⟨hl,us,0,g,hY _ rfl⟩,rfl,?_⟩;show bK.list (c:={c with S:=S',st:=st' }) d t.hσ l m a _ n
 .show(aU.mp d).elim
end
section
def rK(d:X.N[i]?=a5 x)(f:Ih X.env.scope x)(g:(x==("__debug__":Str))=cb)(l:(x==("__classdict__":Str))=cb):PE X (.Name x pos) (ET C (gf i)):=by
 show PE.weak (fQ d f g l) ?_;rintro σ H Q ⟨b,rfl,rfl,ok,r,st',e,h⟩;unfold gf at e;split at e
 .cases e
 .rename_i k u m hs;cases e;have⟨v,c,a⟩:=ok.sl i k u hs;show⟨v,c,h b v rfl rfl ok (Nx.refl b) ?_⟩;by_cases hk:k.root=b7
  .rw[Yr hk];show⟨⟨k,hk,hs⟩,c⟩
  .rw[Yt hk];cases k with
   |loc=>show a
   |any=>show a
   |bor j=>show a.elim
   |ES=>show(m rfl).elim
   |_=>show absurd rfl hk
 .cases e
def hU(h:PE X e (tC v))(r:∀S H,Rep C S H u v):PE X e (ET C (pure (.loc,u))):=by
 show PE.weak h ?_;rintro σ H Q ⟨a,rfl,rfl,ok,h⟩;rw[aj]at h;show h a v rfl rfl ok (Nx.refl a) (r _ _)
def bK.root(h:bK C b Q (.own,u) c.st)(d:c.σ=b.σ)(ok:Ok C c)(n:Nx b c)(p:gs)(a:c.H p=b6)(r:cB C c.S (upd c.H p o) p u):Q (.ref p) (upd c.H p o):=by
 have⟨e,f⟩:=ok.lay (o:=o) a;have⟨j,g,k,l,i⟩:=ok.mZ a;show h {c with H:=upd c.H p o} _ d rfl e (n.trans f) ⟨p,rfl,n.none a,g,i,r⟩
def vQ(c:C.P=X.prog)(d:C.w=X.w)(r:Bool):PE X (.Dict [] [] pos) (ET C (pure (.own,if r=b7 then .Fw [] else .FT [] []))):=by
 cases r with
 |false =>
  show PE.weak uU ?_;rintro σ H Q ⟨a,rfl,rfl,ok,h⟩ p b;rw[aj,Yt oa]at h;show bK.root h rfl ok (Nx.refl a) p b ⟨[],aH,rfl,rfl⟩
 |true =>
  show PE.weak ya ?_;rintro σ H Q ⟨a,rfl,rfl,ok,h⟩ p b;rw[aj,Yr rfl]at h;show bK.root h rfl ok (Nx.refl a) p b ⟨[],?_,rfl,λx e=>by cases e⟩;rw[c,d];show aH
def ao.E7{S:gs->Prop}(h:ao C S H us vs)(e:E7 us i=a5 u):∃v,L2.E7 vs i=a5 v/\Rep C S H u v:=by
 unfold L2.E7 at e ⊢;rw[h.len]at e;cases q:IF vs.length i with
 |none=>rw[q]at e;cases e
 |some j =>
  rw[q]at e;show h.get e
def Bl(G:C.K=X.K)(L:X.A.units+60<Ga)(hs:mr b)(t:J3 C J c x y d f)(I:Inv X pins c.σ c.H s)(j:RelV d v)(l:RelV f u)(h:gZ x y.2=a5 r)(q:bK C J Q r c.st):
  eH (ko X.prog X.w) X.A (V9 a b v u) (EP X pins c.σ Q) X.xe s:=by
 obtain⟨m,ok,n,o,ty,-⟩:=t;have⟨N,O⟩:=y
 dsimp only at h ty
 unfold gZ at h;split at h
 .rename_i k xs i;rw[et]at h;have⟨w,e,rfl⟩:=h;have⟨p,vs,ex,g,z⟩:=o.list ok;have⟨vw,B,D⟩:=z.E7 e;show xX a b pins s c.σ c.H d f v u Q I j l ⟨p,vs,i,vw,ex,ty.int ok,G▸g,B,q c vw m rfl ok n (aJ.item D)⟩ (hs _ _)
 .rename_i k xs i;rw[et]at h;have⟨w,e,rfl⟩:=h;have⟨p,vs,ex,g,z⟩:=o.tuple ok;have⟨vw,B,D⟩:=z.E7 e;rw[G]at g;show jG a b pins s c.σ c.H d f v u Q I j l ⟨p,vs,i,vw,ex,ty.int ok,g,B,q c vw m rfl ok n (aJ.item D)⟩ (hs _ _)
 .split at h
  .rw[et]at h;have⟨w,e,rfl⟩:=h;show eQ a b pins s c.σ c.H d f v u Q I j l ⟨_,_,w,o.str ok,ty.int ok,by assumption,e,q c _ m rfl ok n rfl⟩ (hs _ _)
  .cases h
 .cases h
def yH(d:C.K=X.K)(f:X.A.units+60<Ga)(hs:mr b)(g:PE X a (ET C i))(j:PE X b (ET C k)):PE X (.Subscript a b pos) (ET C (i >>= λx=>k >>= λy=>au [x,y] >>= λ_=>M.E3 (gZ x y.2))):=by
 rintro pins s σ H Q I ⟨o,rfl,rfl,ok,h⟩;show Xp (two g j I ok h λx y c p B v u s2 t l m n w=>?_);have⟨r,e,q⟩:=bJ.mp w;show ER (Bl d f hs t l m n e q) λ_ _ z=>by rw[t.hσ]at z;show z
def ao.cut{S:gs->Prop}(h:ao C S H us vs)(lo a:Option Int):ao C S H (TM.cut us lo a) (nV vs lo a):=by
 unfold TM.cut nV;rw[h.len];show(h.drop _).take _
def tR{lo a:Option Int}(h:HT.EV xs.length 0 lo=0/\HT.EV xs.length xs.length a=xs.length):cut xs lo a=xs:=by
 unfold cut;rw[h.1,h.2];simp
end
section
variable{prog:vu}{w:DD}{A:Ke}{E:d6->fx->Prop}{s:fx}
def fJ{lo c:Option Int}(b:Wd s.heap t a)(hs:s.heap.IsSliceOf d f g .none)(i:Ui f lo)(j:Ui g c)
  (e:HT.EV a.size 0 lo=0/\HT.EV a.size a.size c=a.size) (h:Q (.ref t) s):eH (ko prog w) A (Sl (.ref t) (.ref d)) Q E s:=by
 have⟨os,k,l,o⟩:=id hs;have m:s.TypeIs (.ref d) "slice":=⟨os,k,l⟩
 unfold Sl
 try with_reducible show D1 ?_
 first|show bw (cc ?_)|skip
 show bw (UN b.typeIs (by decide) ?_);show bw (Ob (name:=RA "__getitem__") b.typeIs tx
  (J7 tx b.typeIs Uv ?_ (UJ _ _)))
 change eH _ _ (LG (.ref t) >>= _) _ _ s;show bw (V8 b ?_);show bw (Mb m ?_);rw[Yr (by decide)];show bw (HT.dB hs i j ?_);have n:(((HT.EV a.size 0 lo:Nat):Int)==0&&(1:Int)==1&&(HT.EV a.size a.size c - HT.EV a.size 0 lo)==a.size)=b7:=by
  rw[e.1,e.2];simp
 change eH _ _ (if (((HT.EV a.size 0 lo:Nat):Int)==0&&(1:Int)==1&&(HT.EV a.size a.size c - HT.EV a.size 0 lo)==a.size)=b7 then _ else _) _ _ s;rw[Yr n];change eH (ko prog w) A.in1 ((U7 (uk t) >>= λx=>pure (x==.type "tuple")) >>= _) _ _ s;show bw (bw (Mb b.typeIs (cc ?_)));rw[Yr (by decide)];show bw (N2 (cc ⟨_,rfl,cc h⟩))
end
section
variable{X:Cx}{C:Ct}{pins:List (gs×Obj)}{s:fx}{c0 c c1:Cf}
variable{a b d e:tr}{es:List tr}{m ma mb md:M (Kd×U)}{ms:M (List (Kd×U))}{ta tb:M Bool}{pos p p2:Pos}
def yI:Il X (λx lo g H Q=>∃a xs,x=.ref a/\Fe X.K H a xs/\(HT.EV xs.length 0 lo=0/\HT.EV xs.length xs.length g=xs.length)/\Q (.ref a) H):=by
 intro pins s σ H x v u w lo g y Q I j hs k l h;have⟨a,xs,rfl,n,o,q⟩:=h;cases j;have⟨t,r,i,hz⟩:=I.tuple n;have f:t.toArray.size=xs.length:=by rw[js];show r.length.symm
 show⟨"tuple",_,tx.lookup,i.typeIs,fJ i hs k l (by rw[f];show o) ⟨.ref a,H,I,rfl,q⟩⟩
abbrev tO(C:Ct)(m:M (Option Int)):TO:=λσ H Q=>∃c0:Cf,c0.σ=σ/\c0.H=H/\Ok C c0/\W m c0.st λi st'=>∀c,c.σ=σ->c.st=st'->Ok C c->Nx c0 c->Q i c.H
def ip:PO X b6 (tO C (pure b6)):=by
 rintro pins s σ H Q I ⟨c0,rfl,rfl,ok,h⟩;rw[aj]at h;show xU pins s c0.σ c0.H Q I (h c0 rfl rfl ok (Nx.refl c0))
def tS(f:PE X a (ET C ma)):PO X (a5 a) (tO C (ma >>= Bc)):=by
 rintro pins s σ H Q I ⟨c0,rfl,rfl,ok,h⟩;show xV f pins s c0.σ c0.H Q I (aR ok h λx c v t w=>?_);have⟨k,u⟩:=x;unfold Bc at w;split at w
 .rename_i i e
  dsimp only at e
  subst e;rw[aj]at w;show⟨i,t.rx.int t.ok,w c t.hσ rfl t.ok t.nx⟩
 .show(aU.mp w).elim
def Bm{lo f:Option Int}(w:C.K=X.K)(j:c.σ=c0.σ)(ok:Ok C c)(n:Nx c0 c)(o:aJ C c0 c x.1 x.2 k)(h:ix x lo f=a5 r)(q:bK C c0 Q r c.st):
  ((CQ X.K k lo f c.H Q\/CN X.K k lo f c.H Q)\/(∃a xs,k=.ref a/\Fe X.K c.H a xs/\(HT.EV xs.length 0 lo=0/\HT.EV xs.length xs.length f=xs.length)/\Q (.ref a) c.H))\/CW k lo f c.H Q:=by
 unfold ix at h;split at h
 .split at h
  .rename_i hh;cases h;have⟨g,vs,ex,l,i⟩:=o.list ok;show .inl (.inl (.inl ⟨g,vs,ex,w▸l,λp t=>q.list j ok n ((c8 hh i).cut lo f) p t⟩))
  .cases h
 .cases h;have⟨g,vs,ex,l,i⟩:=o.tuple ok;have u:=l;rw[w]at u;by_cases v:HT.EV vs.length 0 lo=0/\HT.EV vs.length vs.length f=vs.length
  .show .inl (.inr ⟨g,vs,ex,u,v,?_⟩);show q c (.ref g) j rfl ok n (aJ.item ⟨g,vs,rfl,l,?_⟩);rw[tR (by rw[i.len];show v)];show i
  .show .inl (.inl (.inr ⟨g,vs,ex,u,v,λp t=>q.tupK j ok n (i.cut lo f) p t⟩))
 .split at h
  .cases h;show .inr ⟨_,o.str ok,by assumption,q.flat j ok n rfl⟩
  .cases h
 .cases h
def yJ{lo g:Option tr}(n:C.K=X.K)(o:PE X a (ET C ma))(hl:PO X lo (tO C ml))(hh:PO X g (tO C u)):
  PE X (.Subscript a (.Slice lo g b6 p2) pos) (ET C (ma >>= λx=>ml >>= λl=>u >>= λh=>au [x] >>= λ_=>M.E3 (ix x l h))):=by
 show PE.weak (uM (((Il.or xY AF).or yI).or AN) o hl hh) ?_;rintro σ H Q ⟨c0,rfl,rfl,ok,h⟩;show aR ok h λx c v t w=>?_;rw[ah]at w;show⟨c,t.hσ,rfl,t.ok,w.mono λl st2 i y z A B D=>?_⟩;subst A;rw[ah]at i;show⟨y,z,rfl,B,i.mono λN st3 f G j I J L=>?_⟩;subst I;rw[ah,bG]at f;have⟨r,e,q⟩:=bJ.mp f.2;have k:Nx c G:=D.trans L;show Bm n j J (t.nx.trans k) ((t.rx.w.on t.ok k (j.trans t.hσ.symm)).t f.1) e q
def ao.rz{S:gs->Prop}(h:ao C S H us vs):ao C S H us.reverse vs.reverse:=by
 induction us generalizing vs with
 |nil=>cases h;show rfl
 |cons u us f =>
  have⟨v,r,rfl,g,i⟩:=h;rw[Qf,Qf];show(f i).snoc g
def yK(g:C.K=X.K)(i:PE X a (ET C ma)):PE X (.Subscript a (.Slice b6 b6 (a5 (.UnaryOp .USub (.Constant (.int 1) I p1) p3)) p2) pos) (ET C (ma >>= λx=>M.E3 (yr x))):=by
 show PE.weak (AW i) ?_;rintro σ H Q ⟨c0,rfl,rfl,ok,h⟩;show aR ok h λx c v t w=>?_;have⟨r,e,w⟩:=bJ.mp w;have⟨k,u⟩:=x;unfold yr at e;split at e
 .rename_i k' xs q;cases q;cases e;have⟨j,vs,ex,f,l⟩:=t.rx.tuple t.ok;rw[g]at f;show⟨j,vs,ex,f,λp n=>bK.tupK (λo y z A B D G=>w o y z A B D G) t.hσ t.ok t.nx l.rz p n⟩
 .cases e
end
section
variable{X:Cx}{C:Ct}{pins:List (gs×Obj)}{s:fx}{c0 c c1:Cf}
variable{a b d e:tr}{es:List tr}{m ma mb md:M (Kd×U)}{ms:M (List (Kd×U))}{ta tb:M Bool}{pos p p2:Pos}
abbrev Bf.val:Bf->d6
 |.len=>.builtin "len"|.sorted=>.builtin "sorted"|.repr=>.builtin "repr"|.max=>.builtin "max"|.min=>.builtin "min"|.all=>.builtin "all"|.any=>.builtin "any"
 |.list=>.type "list"|.tuple=>.type "tuple"|.str=>.type "str"|.int=>.type "int"
abbrev Bf.name:Bf->Str
 |.len=>"len"|.sorted=>"sorted"|.repr=>"repr"|.max=>"max"|.min=>"min"|.all=>"all"|.any=>"any"
 |.list=>"list"|.tuple=>"tuple"|.str=>"str"|.int=>"int"
def call_of(g:fK X f r)(I:Inv X pins c.σ c.H s)(i:Vals vs us)(h:r vs c.H Q):eH (ko X.prog X.w) X.A (Nk f us) (EP X pins c.σ Q) X.xe s:=g pins s c.σ c.H vs us Q I i h
mutual
theorem rL{S:gs->Prop}(f:C.K=X.K)(I:Inv X pins c.σ c.H s):∀(u:U) (v:V) (val:d6) (d:Wt),Rep C S c.H u v->RelV v val->eJ u=a5 d->∃as,Reads s.heap val d as
 |.EU,v,val,d,h,r,e=>by cases h;cases r;cases e;show⟨_,.none⟩
 |.bl b,v,val,d,h,r,e=>by cases h;cases r;cases e;show⟨_,.bool b⟩
 |.int i,v,val,d,h,r,e=>by cases h;have⟨t,rfl⟩:=r;cases e;show⟨_,.int i t⟩
 |.str x,v,val,d,h,r,e=>by cases h;have⟨t,rfl⟩:=r;cases e;show⟨_,.str x t⟩
 |.tup us,v,val,d,h,r,e=>by
  have⟨a,vs,rfl,g,j⟩:=h;cases r;simp only[eJ,et]at e;have⟨k,l,rfl⟩:=e;rw[f]at g;obtain⟨q,w,⟨o,ho,y,n,z⟩,_⟩:=I.tuple g;have⟨as,A⟩:=m7 f I us vs q k j w l;show⟨as,.tuple ho y z (by simpa using A)⟩
 |.lst us,v,val,d,h,r,e=>by
  have⟨a,vs,rfl,g,j⟩:=h;cases r;simp only[eJ,et]at e;have⟨k,l,rfl⟩:=e;have B:=g.sq;rw[f]at B;obtain⟨q,w,D,_⟩:=I.list B;have⟨o,ho,y,n,z⟩:=D.isList;have⟨as,A⟩:=m7 f I us vs q k j w l;show⟨a::as,.list ho y z (by simpa using A)⟩
 |.FT _ _,v,val,d,h,r,e=>by simp[eJ]at e
 |.Fw _,v,val,d,h,r,e=>by simp[eJ]at e
theorem m7{S:gs->Prop}(i:C.K=X.K)(I:Inv X pins c.σ c.H s):∀(us:List U) (vs:List V) (f:List d6) (g:List Wt),ao C S c.H us vs->Vals vs f->jm us=a5 g->∃as,ReadsAll s.heap f g as
 |[],vs,f,g,h,r,e=>by
  cases h;cases r;cases e;show⟨_,.nil⟩
 |u::us,vs,f,g,h,r,e=>by
  have⟨v,j,rfl,k,l⟩:=h;cases r with
  |cons n o =>
   simp only[jm,sh,et]at e;have⟨d,q,t,w,rfl⟩:=e;have⟨as,x⟩:=rL i I u v _ d k n q;have⟨bs,y⟩:=m7 i I us j _ t l o w;show⟨as++bs,.cons x y⟩
end
mutual
theorem j7:∀(u:U) (d:Wt),eJ u=a5 d->d.hasDict=cb
 |.EU,d,e=>by cases e;rfl
 |.bl b,d,e=>by cases e;rfl
 |.int i,d,e=>by cases e;rfl
 |.str x,d,e=>by cases e;rfl
 |.tup us,d,e=>by
  simp only[eJ,et]at e;have⟨f,g,rfl⟩:=e;simpa only[WI] using ff us f g
 |.lst us,d,e=>by
  simp only[eJ,et]at e;have⟨f,g,rfl⟩:=e;simpa only[WI] using ff us f g
 |.FT _ _,d,e=>by simp[eJ]at e
 |.Fw _,d,e=>by simp[eJ]at e
theorem ff:∀(us:List U) (f:List Wt),jm us=a5 f->V7 f=cb
 |[],f,e=>by cases e;rfl
 |u::us,f,e=>by
  simp only[jm,sh,et]at e;have⟨d,g,h,i,rfl⟩:=e;simp only[V7,j7 u d g,ff us h i,Bool.or_self]
end
def rM{S:gs->Prop}(i:C.K=X.K)(j:X.A.guards=a5 [])(x:X.A.units+60<Ga)(I:Inv X pins c.σ c.H s)(k:Vals [v] us)(f:Rep C S c.H u v)(h:rB u=a5 r)(q:bK C c0 Q r c.st)(l:c.σ=c0.σ)(ok:Ok C c)(n:Nx c0 c):
  eH (ko X.prog X.w) X.A (Nk (.builtin "repr") us) (EP X pins c.σ Q) X.xe s:=by
 have⟨val,rfl,g⟩:=vals1 k;unfold rB at h;rw[sh]at h;have⟨d,e,h⟩:=h;split at h
 .rename_i hz;cases h;have⟨as,o⟩:=rL i I u v val d f g e;have t:∃a,val=.ref a:=by
   cases u with
   |tup us=>obtain⟨a,vs,rfl,_⟩:=f;cases g;show⟨a,rfl⟩
   |lst us=>obtain⟨a,vs,rfl,_⟩:=f;cases g;show⟨a,rfl⟩
   |_=>simp[zH]at hz
  have⟨a,rfl⟩:=t;show repr_of_reads' o hz.1 (PyData.noDict_hsm (j7 u d e)) j (by have:=hz.2.1;lia) (λ_ _ z=>z) (λh' u' y hk=>?_) hz.2.2.1;show⟨.str d.shown,c.H,I.kept hk,⟨_,rfl⟩,q.flat l ok n rfl⟩
 .cases h
def bC(h:gb f rs=a5 r):∃x,rs=[x]/\f x=a5 r:=by
 unfold gb at h;split at h
 .show⟨_,rfl,h⟩
 .cases h
def zL(G:X.calm=b7)(y:C.K=X.K)(L:X.A.guards=a5 [])(N:X.A.units+60<Ga)(t:GQ C c0 c rs vs)(I:Inv X pins c.σ c.H s)(o:Vals vs us)(h:FZ f rs=a5 r)(q:bK C c0 Q r c.st):
  eH (ko X.prog X.w) X.A (Nk f.val us) (EP X pins c.σ Q) X.xe s:=by
 have u:=t.hσ;have ok:=t.ok;have n:=t.nx;cases f with
 |len =>
  have⟨x,rfl,hz⟩:=bC (f:=λx=>(yp x.2).map λ(n:Nat)=>(Kd.loc,U.int (n:Int))) h;clear h;have h:=hz;clear hz;rw[et]at h;have⟨k,e,rfl⟩:=h;have⟨v,rfl,g⟩:=t.one;have⟨Y,J⟩:=x;unfold yp at e;split at e
  .rename_i xs z;have z:J=.lst xs:=z;subst z;cases e;have⟨j,ws,ex,i,l⟩:=g.list ok;rw[l.len]at q;show call_of gG I o ⟨j,ws,by rw[ex],.inl (y▸i),q.flat u ok n rfl⟩
  .rename_i xs z;have z:J=.tup xs:=z;subst z;cases e;have⟨j,ws,ex,i,l⟩:=g.tuple ok;rw[y]at i;rw[l.len]at q;show call_of gG I o ⟨j,ws,by rw[ex],.inr i,q.flat u ok n rfl⟩
  .rename_i xs z;have z:J=.str xs:=z;subst z;split at e
   .cases e;show call_of mB I o ⟨_,by rw[g.str ok],by assumption,q.flat u ok n rfl⟩
   .cases e
  .cases e
 |sorted =>
  have⟨x,rfl,hz⟩:=bC (f:=A6) h;clear h;have h:=hz;clear hz;have⟨v,rfl,g⟩:=t.one;unfold A6 at h;split at h
  .rw[sh]at h;have⟨ss,e,h⟩:=h;have D:=bL e;subst D;have⟨j,ws,ex,i,l⟩:=g.list ok;rw[ao.strs]at l;subst l;split at h
   .cases h;show call_of iY I o ⟨j,ss,by rw[ex],.inl (y▸i),by assumption,λp B=>q.list u ok n (ao.strs.mpr rfl) p B⟩
   .cases h
  .rw[sh]at h;have⟨ss,e,h⟩:=h;have D:=bL e;subst D;have⟨j,ws,ex,i,l⟩:=g.tuple ok;rw[y]at i;rw[ao.strs]at l;subst l;split at h
   .cases h;show call_of iY I o ⟨j,ss,by rw[ex],.inr i,by assumption,λp B=>q.list u ok n (ao.strs.mpr rfl) p B⟩
   .cases h
  .cases h
 |list =>
  have⟨x,rfl,hz⟩:=bC (f:=A7) h;clear h;have h:=hz;clear hz;have⟨v,rfl,g⟩:=t.one;unfold A7 at h;split at h
  .have⟨j,ws,ex,i,l⟩:=g.list ok;split at h
   .cases h;show call_of gH I o ⟨j,ws,by rw[ex],.inl (y▸i),λp B=>q.list u ok n (c8 (by assumption) l) p B⟩
   .cases h
  .have⟨j,ws,ex,i,l⟩:=g.tuple ok;rw[y]at i;split at h
   .cases h;show call_of gH I o ⟨j,ws,by rw[ex],.inr i,λp B=>q.list u ok n (c8 (by assumption) l) p B⟩
   .cases h
  .cases h
 |tuple =>
  have⟨x,rfl,hz⟩:=bC (f:=A8) h;clear h;have h:=hz;clear hz;have⟨v,rfl,g⟩:=t.one;unfold A8 at h;split at h
  .have⟨j,ws,ex,i,l⟩:=g.list ok;cases h;show call_of fL I o ⟨j,ws,by rw[ex],.inl ⟨y▸i,λp B=>q.tupK u ok n l p B⟩⟩
  .have⟨j,ws,ex,i,l⟩:=g.tuple ok;have O:=i;rw[y]at O;cases h;show call_of fL I o ⟨j,ws,by rw[ex],.inr ⟨O,q c (.ref j) u rfl ok n (aJ.item ⟨j,ws,rfl,i,l⟩)⟩⟩
  .cases h
 |str =>
  have⟨x,rfl,hz⟩:=bC (f:=vF) h;clear h;have h:=hz;clear hz;have⟨v,rfl,g⟩:=t.one;unfold vF at h;split at h
  .split at h
   .cases h;show call_of l_ I o ⟨_,by rw[g.int ok],by assumption,q.flat u ok n rfl⟩
   .cases h
  .cases h
 |repr =>
  have⟨x,rfl,hz⟩:=bC (f:=A9) h;clear h;have h:=hz;clear hz;have⟨v,rfl,g⟩:=t.one;unfold A9 at h;split at h
  .show rM y L N I o (g.read ok) h q u ok n
  .show rM y L N I o (g.read ok) h q u ok n
  .cases h
 |max =>
  have h:tN cb rs=a5 r:=h;unfold tN at h;split at h
  .have⟨v,T,rfl,g,ty⟩:=t.two;cases h;show call_of (s_ G) I o ⟨_,_,by rw[g.int ok,ty.int ok],q.flat u ok n rfl⟩
  .cases h
 |min =>
  have h:tN b7 rs=a5 r:=h;unfold tN at h;split at h
  .have⟨v,T,rfl,g,ty⟩:=t.two;cases h;show call_of (td G) I o ⟨_,_,by rw[g.int ok,ty.int ok],q.flat u ok n rfl⟩
  .cases h
 |all =>
  have⟨x,rfl,hz⟩:=bC (f:=A_) h;clear h;have h:=hz;clear hz;have⟨v,rfl,g⟩:=t.one;unfold A_ at h;split at h
  .rw[et]at h;have⟨bs,e,rfl⟩:=h;have D:=j6 e;subst D;have⟨j,ws,ex,i,l⟩:=g.list ok;have:=l.Qa;subst this;show call_of (u3 G) I o ⟨j,bs,by rw[ex],y▸i,q.flat u ok n rfl⟩
  .cases h
 |_=>cases h
def yL{id:String}(g:X.calm=b7)(i:C.K=X.K)(j:X.A.guards=a5 [])(k:X.A.units+60<Ga)(l:f.val=.builtin id)(n:Gl X x)(o:X.mg x=b6)(u:Iw x=a5 (.builtin id))(v:x≠"__name__")(y:(x==("__debug__":Str))=cb)
  (B:PA X (e::es) (FO C ms)) (D:mx (e::es) X.env=(cb,Ka e X.env)::mx es X.env) (G:(Kc pos (mx es X.env)).any (·.1)=cb) :
  PE X (.Call (.Name x p) (e::es) [] pos) (ET C (ms >>= λrs=>au rs >>= λ_=>M.E3 (FZ f rs))):=by
 rintro pins s σ H Q I ⟨c0,rfl,rfl,ok,h⟩;show Es (dk I n o u ?_ v y);show Li (ER (args B I ok h pos) λus s1 ⟨rs,c,vs,t,J,L,w⟩=>?_) D G;have⟨r,e,q⟩:=bJ.mp w;have z:=zL g i j k t J L e q;rw[l,t.hσ]at z;show z
def yM(g:X.calm=b7)(i:C.K=X.K)(j:X.A.guards=a5 [])(k:X.A.units+60<Ga)(l:f.val=.type T)(n:Gl X x)(o:X.mg x=b6)(u:Iw x=a5 (.type T))(v:x≠"__name__")(y:(x==("__debug__":Str))=cb)
  (B:PA X (e::es) (FO C ms)) (D:mx (e::es) X.env=(cb,Ka e X.env)::mx es X.env) (G:(Kc pos (mx es X.env)).any (·.1)=cb) :
  PE X (.Call (.Name x p) (e::es) [] pos) (ET C (ms >>= λrs=>au rs >>= λ_=>M.E3 (FZ f rs))):=by
 rintro pins s σ H Q I ⟨c0,rfl,rfl,ok,h⟩;show Es (dk I n o u ?_ v y);show LF (ER (args B I ok h pos) λus s1 ⟨rs,c,vs,t,J,L,w⟩=>?_) D G;have⟨r,e,q⟩:=bJ.mp w;have z:=zL g i j k t J L e q;rw[l,t.hσ]at z;show z
abbrev GL.name:GL->Str
 |.str=>"str"|.list=>"list"|.tuple=>"tuple"|.int=>"int"|.bool=>"bool"
abbrev GL.nm:GL->String
 |.str=>"str"|.list=>"list"|.tuple=>"tuple"|.int=>"int"|.bool=>"bool"
def yN(T:GL):Iw T.name=a5 (.type T.nm)/\T.name≠"__name__"/\(T.name==("__debug__":Str))=cb:=by
 cases T<;>show⟨by decide +kernel,by decide +kernel,by decide +kernel⟩
def hV(T:GL):U7 (.type T.nm)=pure (.type "type"):=by cases T<;>kernel_rfl
def rN(T:GL):LS (.type "str") (.type T.nm)=pure (c4 (T=.str)):=by cases T<;>(rw[Kk];kernel_rfl)
def sub_int(T:GL):LS (.type "int") (.type T.nm)=pure (c4 (T=.int)):=by cases T<;>(rw[Kk];kernel_rfl)
def ne_str{T:GL}(h:¬T=.str):(G2 "str"==G2 T.nm)=cb:=by cases T<;>first|show absurd rfl h|decide
def ne_int{T:GL}(h:¬T=.int):(G2 "int"==G2 T.nm)=cb:=by cases T<;>first|show absurd rfl h|decide
def oM(T:GL):LS (.type "list") (.type T.nm)=pure (c4 (T=.list)):=by cases T<;>(rw[Kk];kernel_rfl)
def rO(T:GL):LS (.type "tuple") (.type T.nm)=pure (c4 (T=.tuple)):=by cases T<;>(rw[Kk];kernel_rfl)
def yO{T:GL}(h:¬T=.list):(G2 "list"==G2 T.nm)=cb:=by cases T<;>first|show absurd rfl h|decide
def Bn{T:GL}(h:¬T=.tuple):(G2 "tuple"==G2 T.nm)=cb:=by cases T<;>first|show absurd rfl h|decide
def Bo{b:Bool}(z:C.K=X.K)(t:KI C c0 c x v)(I:Inv X pins c.σ c.H s)(i:RelV v val)(h:oK x.2 T=a5 b)(q:∀j,Q (.bool b) {s with toks:=j}):
  eH (ko X.prog X.w) X.A (Nk (.builtin "isinstance") [val,.type T.nm]) Q X.xe s:=by
 have⟨k,u⟩:=x;have⟨Y,ok,n,r⟩:=t;have D:Q (.bool b) s:=q s.toks
 dsimp only at h r
 have g:∀{B:String},b=b7->s.TypeIs val B->LS (.type B) (.type T.nm)=pure b7->eH (ko X.prog X.w) X.A (Nk (.builtin "isinstance") [val,.type T.nm]) Q X.xe s:=λe G hs=>by
  subst e;show X3 G (hV T) hs D
 unfold oK at h;split at h
 .cases h;have e:v=_:=r.str ok;subst e;have⟨j,rfl⟩:=i;by_cases f:T=.str
  .subst f;show g (by simp) (OZ s _ j) (rN .str)
  .rw[Ys f]at q;show PR (isinstance_false_str (ne_str f) (hV T) (by rw[rN,Ys f])) (q _)
 .cases h;have e:v=_:=r.int ok;subst e;have⟨j,rfl⟩:=i;by_cases f:T=.int
  .subst f;show g (by simp) (typeIs_int s _ j) (sub_int .int)
  .rw[Ys f]at q;show PR (isinstance_false_int (ne_int f) (hV T) (by rw[sub_int,Ys f])) (q _)
 .cases h;have e:v=_:=r.bl ok;subst e;cases i;show g rfl (PySem.typeIs_bool s _) (by rw[Kk];kernel_rfl)
 .cases h;have e:v=_:=r.bl ok;subst e;cases i;show g rfl (PySem.typeIs_bool s _) (by rw[Kk];kernel_rfl)
 .cases h;have⟨J,ws,rfl,l,L⟩:=r.list ok;cases i;rw[z]at l;obtain⟨N,_,O,_⟩:=I.list l;obtain⟨o,ho,y,_⟩:=O.isList;by_cases f:T=.list
  .subst f;show g (by simp) ⟨o,ho,y⟩ (oM .list)
  .rw[Ys f]at q;show PR (isinstance_false_list (yO f) (hV T) (by rw[oM,Ys f])) ⟨⟨o,ho,y⟩,q _⟩
 .cases h;have⟨J,ws,rfl,l,L⟩:=r.tuple ok;cases i;rw[z]at l;obtain⟨N,_,⟨o,ho,y,_⟩,_⟩:=I.tuple l;by_cases f:T=.tuple
  .subst f;show g (by simp) ⟨o,ho,y⟩ (rO .tuple)
  .rw[Ys f]at q;show PR (isinstance_false_tuple (Bn f) (hV T) (by rw[rO,Ys f])) ⟨⟨o,ho,y⟩,q _⟩
 .cases h
def rP(g:C.K=X.K)(i:Gl X "isinstance")(j:X.mg "isinstance"=b6)(k:Gl X T.name)(l:X.mg T.name=b6)(n:PE X a (ET C ma))(hs:mx [a,.Name T.name p2] X.env=(cb,Ka a X.env)::mx [.Name T.name p2] X.env):
  PE X (.Call (.Name "isinstance" p) [a,.Name T.name p2] [] pos) (ET C (ma >>= λx=>M.E3 (oK x.2 T) >>= λb=>pure (.loc,.bl b))):=by
 rintro pins s σ H Q I ⟨c0,rfl,rfl,ok,h⟩;have⟨o,q,r⟩:=yN T;show Es (dk I i j (show Iw "isinstance"=a5 (.builtin "isinstance") by decide +kernel) ?_ (by decide +kernel) (by decide +kernel));show Li (ER (bY n (bY (qR (v:=.ty T.nm) k l o rfl q r) eO) hs pos pins s c0.σ c0.H (λvs H'=>∃x c v b,KI C c0 c x v/\c.H=H'/\vs=[v,.ty T.nm]/\oK x.2 T=a5 b/\bK C c0 Q (.loc,.bl b) c.st) I ?_) λus s1 ⟨vs,L,f,u,x,c,v,b,t,e,y,A,w⟩=>?_) hs (by rfl)
 .show aR ok h λx c v t w=>?_;rw[ah]at w;have⟨b,e,w⟩:=bJ.mp w;rw[aj]at w;show⟨x,c,v,b,t,rfl,rfl,e,w⟩
 .subst e y;have⟨N,O,rfl,B,D⟩:=vals2 u;cases D;have G:Inv X pins c.σ c.H s1:=by rw[t.hσ];show f
  have z:=Bo (Q:=EP X pins c0.σ Q) g t G B A λJ=>⟨.bl b,c.H,f.tok J,rfl,w c (.bl b) t.hσ rfl t.ok t.nx rfl⟩
  show z
@[reducible]noncomputable def Ib(P:vu)(w:DD)(K:PySem.W.Frag)(H:Hp)(f:gs->Prop):Ct:=⟨P,w,K,H,f,λ_=>False,λ_ _=>False⟩
structure Back(C:Ct)(H H':Hp)(S':gs->Prop)(k:Kd)(u:U)(v:V):Prop where
 same:kR H H'
 new:∀a,S' a->H a=b6/\∃o,H' a=a5 o
 own:k=.own->∃r,v=.ref r/\H r=b6/\¬S' r/\cB C S' H' r u
 loc:k=.loc->Rep C S' H' u v
 any:k=.any->Rep C (PS C S') H' u v
abbrev spT(P:vu)(w:DD)(K:PySem.W.Frag)(F:List U->Option (Ex (Kd×U)))(g:Nat):Sp:=λvs H Q E=>vs.length=g/\∃us r f,F us=a5 r/\(∀a,f a->FY H a)/\ao (Ib P w K H f) f H us vs/\match r with
 |.ok (k,u)=>(k=.own\/k=.loc\/k=.any)/\∀v H' S',Back (Ib P w K H f) H H' S' k u v->Q v H'
 |.exc c=>∀C H',PySem.W.nsIn K mA c=a5 (a5 (.ref C))->kR H H'->E (.ref C) b6 H'
def GQ.read(t:GQ C c0 c rs vs):ao C (FY c.H) c.H (rs.map (·.2)) vs:=by
 have f:∀(l:List (Kd×U)) (w:List V),cm C c0 c l w->aY l c.st->ao C (FY c.H) c.H (l.map (·.2)) w:=by
  intro l;induction l with
  |nil=>intro w h _;show h
  |cons r l g =>
   intro w h hs;obtain⟨v,t',rfl,i,j,_⟩:=h;rw[cG]at hs;show⟨v,t',rfl,(i.t hs.1).read t.ok,g t' j hs.2⟩
 show f rs vs t.rep t.J4
def Back.here(hk:k=.own\/k=.loc)(g:c.σ=c0.σ)(ok:Ok C c)(n:Nx c0 c)(q:i.Eqv C)(h:Back i c.H H' S' k u v)(w:bK C c0 Q (k,u) c.st):Q v H':=by
 have⟨j,l⟩:=ok.grow (S':=λa=>c.S a\/S' a) h.same (λa z=>z.imp id λz=>h.new a z) λa=>.inl;have t:=n.trans l;show w {c with H:=H',S:=λa=>c.S a\/S' a} v g rfl j t ?_;rcases hk with rfl|rfl
 .have⟨r,e,f,x,y⟩:=h.own rfl;have⟨D,A,G,I,B⟩:=ok.mZ f;show⟨r,e,n.none f,λz=>z.elim A x,B,(y.cg q).mv (.up λa=>.inr) λo q=>q⟩
 .show((h.loc rfl).cg q).mv (.up λa=>.inr)
def vR(o:C.P=X.prog)(x:C.w=X.w)(y:C.K=X.K)(L:Γ f=F)(hk:∀us k u,F us=a5 (.ok (k,u))->(k=.own\/k=.loc\/k=.any)/\us.length=B)
  (G:gD X.prog X.w X.K X.mg X.base (HA X.prog X.w) k fa N O (spT X.prog X.w X.K F B)) (T:dn k X.A) (Y:Gl X f) (hm:X.mg f=a5 (.ref fa)) (IY:PySem.W.keepIn X.K (.ref fa)=b7) (j:Binds X.K N O [])
  (Gm:(f==("__debug__":Str))=cb) (ha:PA X (e::es) (FO C ms)) (he:mx (e::es) X.env=(cb,Ka e X.env)::mx es X.env) (FJ:(Kc pos (mx es X.env)).any (·.1)=cb) :
  PE X (.Call (.Name f p) (e::es) [] pos) (ET C (ms >>= λrs=>au rs >>= λ_=>j3 Γ f (rs.map (·.2)))):=by
 rintro pins s σ H Q I ⟨c0,rfl,rfl,ok,h⟩;show Es (cv I Y hm ?_ Gm);show PySem.W.callWith_K (h₀:=X.base) I.ok.mod.IA IY (ER (args ha I ok h pos) λus s1 ⟨rs,c,vs,t,D,rv,w⟩=>⟨D.G0,?_⟩) he FJ;have⟨r,st',g,q⟩:=w;unfold j3 at g;rw[L]at g;cases i:F (rs.map (·.2)) with
 |none=>rw[i]at g;cases g
 |some r' =>
  rw[i]at g;split at g
  .cases g
  .rename_i z;cases z
  rename_i Ox e3;cases e3;cases g;have⟨l,u⟩:=r;have⟨k0,k2⟩:=hk _ _ _ i;have k1:l=.own\/l=.loc:=by
   rcases k0 with z|z|z
   .show .inl z
   .show .inr z
   .subst z;show(Ox u rfl).elim
  have n:C.Eqv (Ib X.prog X.w X.K c.H (FY c.H)):=⟨o,x,y⟩
  have Gr:(Ib X.prog X.w X.K c.H (FY c.H)).Eqv C:=⟨o.symm,x.symm,y.symm⟩
  have J:=t.read;have Fz:spT X.prog X.w X.K F B vs c.H (λv H'=>Q v H') E0:=⟨by rw[<-J.len];show k2,rs.map (·.2),.ok (l,u),FY c.H,i,λ_ z=>z,J.cg n,k0,λv H' S' j=>j.here k1 t.hσ t.ok t.nx Gr q⟩
  have z:=uK (Q:=Q) G T j .nil C3 D rv (by rw[w6];show Fz);rw[t.hσ]at z;show z
end
section
abbrev Mf.id:Mf->String
 |.split=>"str.split"|.join=>"str.join"|.partition=>"str.partition"|.endswith=>"str.endswith"
abbrev Mf.name:Mf->Str
 |.split=>"split"|.join=>"join"|.partition=>"partition"|.endswith=>"endswith"
def vS(h:iy f u rs=a5 r):∃x,u=.str x:=by
 unfold iy at h;split at h
 .show⟨_,rfl⟩
 .show⟨_,rfl⟩
 .show⟨_,rfl⟩
 .show⟨_,rfl⟩
 .cases h
def Bp(u:C.K=X.K)(t:GQ C d c (x::rs) (a::vs))(I:Inv X pins c.σ c.H s)(g:RelV a v)(i:Vals vs us)(h:iy f x.2 rs=a5 r)(q:bK C d Q r c.st):
  eH (ko X.prog X.w) X.A (Nk (.builtin f.id) (v::us)) (EP X pins c.σ Q) X.xe s:=by
 have j:=t.hσ;have ok:=t.ok;have n:=t.nx;have⟨y,z⟩:=x;have hs:=cG.mp t.J4;obtain⟨L,N,B,l,b,-⟩:=t.rep;cases B;have k:aJ C d c y z a:=l.t hs.1;have one:∀{r:Kd×U},cm C d c [r] vs->aY [r] c.st->∃v,vs=[v]/\aJ C d c r.1 r.2 v:=λ{r} h s=>by
  obtain⟨v,t',rfl,l,b,_⟩:=h;cases b;show⟨v,rfl,l.t s⟩
 dsimp only at h
 unfold iy at h;split at h
 .have⟨w,rfl,ty⟩:=one b hs.2;split at h
  .rename_i hh;cases h;show uZ pins s c.σ c.H a [w] v us Q I g i ⟨_,_,k.str ok,by rw[ty.str ok],hh.1,hh.2,λp m=>q.list j ok n (ao.strs.mpr rfl) p m⟩
  .cases h
 .rw[sh]at h;have⟨ss,e,h⟩:=h;have D:=bL e;subst D;have⟨w,rfl,ty⟩:=one b hs.2;have⟨G,ws,ex,J,o⟩:=ty.list ok;rw[ao.strs]at o;subst o;split at h
  .cases h;show x9 pins s c.σ c.H a [w] v us Q I g i ⟨_,G,ss,k.str ok,by rw[ex],u▸J,by assumption,q.flat j ok n rfl⟩
  .cases h
 .have⟨w,rfl,ty⟩:=one b hs.2;cases h;show n_ pins s c.σ c.H a [w] v us Q I g i ⟨_,_,k.str ok,by rw[ty.str ok],q.flat j ok n rfl⟩
 .have⟨w,rfl,ty⟩:=one b hs.2;split at h
  .rename_i hh;cases h;show mI pins s c.σ c.H a [w] v us Q I g i ⟨_,_,k.str ok,by rw[ty.str ok],hh.1,hh.2,λp m=>?_⟩;show q.tup j ok n ⟨_,_,rfl,rfl,_,_,rfl,rfl,_,_,rfl,rfl,rfl⟩ p m
  .cases h
 .cases h
def yP(N:C.K=X.K)(slot:Slot "str" name f.id)(O:U7 (.builtin f.id)=pure (.type "method_descriptor"))(ho:PE X o (ET C m))(T:PA X (e::es) (FO C ms))
  (Y:Ry o name X.env (Ka o X.env)=Ka o X.env)
  (Gk:((Kc d (mx (e::es) X.env)).all (λx=>!x.1)&&(Ub d (Pd [] X.env)).all (λx=>x.1.isSome)
   && c4 ((e::es).length+([]:List NB).length+(if ([]:List NB).isEmpty then 0 else 1)<30))=b7)
  (F0:(j.endLine==d.line)=b7) (hs:mx (e::es) X.env=(cb,Ka e X.env)::mx es X.env) (F5:(Kc d (mx es X.env)).any (·.1)=cb) :
  PE X (.Call (.Attribute o name j) (e::es) [] d) (ET C (m >>= λx=>ms >>= λrs=>au (x::rs) >>= λ_=>M.E3 (iy f x.2 rs))):=by
 rintro pins s σ H Q I ⟨a,rfl,rfl,ok,h⟩;show Wj Y Gk F0 rfl (ER (ho pins s a.σ a.H (λk u=>∃x b,b.H=u/\KI C a b x k/\W (ms >>= λrs=>au (x::rs) >>= λ_=>M.E3 (iy f x.2 rs)) b.st (bK C a Q)) I (aR ok h λx c v t w=>⟨x,c,rfl,t,w⟩)) ?_);rintro v s1 ⟨k,u,y,A,x,b,rfl,t,w⟩;have J5:∃z,x.2=.str z:=by
  rw[ah]at w;obtain⟨rs,st2,_,w⟩:=w;rw[ah]at w;obtain⟨_,st3,_,w⟩:=w;obtain⟨r,e,_⟩:=bJ.mp w;show vS e
 have⟨z,hz⟩:=J5;have B:=t.rx;rw[hz]at B;have ev:=B.str t.ok;have ty:Nr X.K "str" k b.H:=by rw[ev];rfl
 have⟨h1,h2⟩:=uN y A ty;show⟨"str",f.id,PySem.F.plainAttrs_str,slot,O,h1,h2,?_⟩;rw[ah]at w;have D:=T d pins s1 a.σ b.H (λvs G=>∃rs g,g.H=G/\GQ C a g (x::rs) (k::vs)/\W (M.E3 (iy f x.2 rs)) g.st (bK C a Q)) y ⟨b,t.hσ,rfl,t.ok,w.mono λrs st2 n g vs J e4 Fd L l=>by
  rw[ah,bG]at n;subst e4;show⟨rs,g,rfl,⟨J,Fd,t.nx.trans L,⟨k,vs,rfl,t.rx.w.on t.ok L (J.trans t.hσ.symm),l.from t.nx,λhk i r' v' e5 e6 Fv=>iA t.rx.w (l.get e5 e6) hk Fv⟩,n.1⟩,n.2⟩⟩
 rw[hs]at D ⊢;show QS (by change(cb||(Kc d (mx es X.env)).any (·.1))=cb;rw[F5]<;>rfl) (MY ?_);show ER D ?_;rintro us s2 ⟨vs,G,I2,l,rs,g,rfl,p,w2⟩;have⟨r,e,q⟩:=bJ.mp w2;have z:=Bp N p (by rw[p.hσ];show I2) A l e q;rw[p.hσ]at z;show z
end
section
variable{X:Cx}{C:Ct}{pins:List (gs×Obj)}{s:fx}{c0 c c1:Cf}
variable{e:tr}{es:List tr}{ms:M (List (Kd×U))}{pos p p2 pos2:Pos}
abbrev B2.out:B2->d6
 |.H9=>.type "tuple"|.H_=>.type "list"|.sset=>.builtin "sorted"|.eR=>.builtin "len"
abbrev B2.MK:B2->d6
 |.H9=>.type "reversed"|.H_=>.type "reversed"|.sset=>.type "set"|.eR=>.type "set"
abbrev B2.m8:B2->Str
 |.H9=>"tuple"|.H_=>"list"|.sset=>"sorted"|.eR=>"len"
abbrev B2.hW:B2->Str
 |.H9=>"reversed"|.H_=>"reversed"|.sset=>"set"|.eR=>"set"
def lB(j:C.K=X.K)(ok:Ok C c)(l:aJ C c0 c k u v)(h:p_ u=a5 ss):∃a b,v=.ref a/\(Fm X.K c.H a (b.map V.str)\/Fe X.K c.H a (b.map V.str))/\b.length+1<Ln/\ss=aP b:=by
 unfold p_ at h;split at h
 .rw[sh]at h;have⟨b,e,h⟩:=h;have g:=bL e;subst g;have⟨i,ws,ex,f,d⟩:=l.list ok;rw[ao.strs]at d;subst d;split at h
  .cases h;show⟨i,b,ex,.inl (j▸f),by assumption,rfl⟩
  .cases h
 .rw[sh]at h;have⟨b,e,h⟩:=h;have g:=bL e;subst g;have⟨i,ws,ex,f,d⟩:=l.tuple ok;rw[ao.strs]at d;subst d;rw[j]at f;split at h
  .cases h;show⟨i,b,ex,.inr f,by assumption,rfl⟩
  .cases h
 .cases h
theorem oN{S:gs->Prop}:∀{xs:List U}{d:List cu}{vs:List V},jY xs=a5 d->ao C S H xs vs->∃ws:List (cu×gs),d=ws.map (·.1)/\vs=ws.map (λq=>V.ref q.2)/\∀q∈ws,dH C.K H (.ref q.2) q.1
 |[],d,vs,e,h=>by cases e;cases h;show⟨[],rfl,rfl,λq hq=>by cases hq⟩
 |u::us,d,vs,e,h=>by
  rw[jY,sh]at e;have⟨r,f,e⟩:=e;have⟨t,g,rfl⟩:=et.mp e;have i:=gh f;subst i;have⟨v,w,rfl,j,k⟩:=h;have⟨ws,rfl,rfl,l⟩:=oN g k;have m:=Rep.row j;have⟨a,b,rfl,n,o⟩:=m;show⟨(r,a)::ws,rfl,rfl,λq hq=>?_⟩;rcases fz.mp hq with rfl|hq
  .show⟨a,b,rfl,n,o⟩
  .show l q hq
def Bq(j:X.calm=b7)(D:X.A.units+60<Ga)(k:C.K=X.K)(t:GQ C c0 c rs vs)(I:Inv X pins c.σ c.H s)(o:Vals vs us)(h:qa f rs=a5 r)(q:bK C c0 Q r c.st):
  eH (ko X.prog X.w) X.A (Nk f.MK us) (λv s1=>eH (ko X.prog X.w) X.A (Nk f.out [v]) (EP X pins c.σ Q) X.xe s1) X.xe s:=by
 have y:=t.hσ;have ok:=t.ok;have n:=t.nx;cases f with
 |sset =>
  have⟨x,rfl,hz⟩:=bC (f:=λx=>(p_ x.2).bind λss=>if ss.length<64 then a5 (Kd.own,U.lst ((bV ss).map .str)) else b6) h;clear h;have h:=hz;clear hz;have⟨ss,e,h⟩:=sh.mp h;have⟨v,rfl,m⟩:=t.one;have⟨z,G,rfl,a,b,rfl⟩:=lB k ok m e;have⟨u,rfl,d⟩:=vals1 o;cases d;split at h
  .cases h;show gV j I a b λS h' B g i=>kZ j i g (by assumption) λl hl=>q.list y ok n (ao.strs.mpr rfl) l hl
  .cases h
 |eR =>
  have⟨x,rfl,hz⟩:=bC (f:=jZ) h;clear h;have⟨O,J⟩:=x;have⟨v,rfl,m⟩:=t.one;unfold jZ at hz;split at hz
  .rename_i ss e;cases hz;have⟨z,G,rfl,a,b,rfl⟩:=lB k ok m e;have⟨u,rfl,d⟩:=vals1 o;cases d;show gV j I a b λS h' B g i=>pQ i g (q.flat y ok n rfl)
  .have hz:Ba J=a5 r:=hz;unfold Ba at hz;split at hz
   .rw[sh]at hz;have⟨T,e,hz⟩:=hz;split at hz
    .cases hz;have⟨z,Y,rfl,a,b⟩:=m.list ok;have⟨ws,rfl,rfl,L⟩:=oN e b;have⟨u,rfl,d⟩:=vals1 o;cases d;show oG j D I (k▸a) (λq N=>k▸L q N) (by simpa using(by assumption:(ws.map (·.1)).length<=64)) λS h' B g i=>oH i g (q.flat y ok n rfl)
    .cases hz
   .cases hz
 |_=>cases h
def rQ:∀f:B2,Iw f.m8=a5 f.out/\Iw f.hW=a5 f.MK/\f.m8≠"__name__"/\f.hW≠"__name__"/\(f.m8==("__debug__":Str))=cb/\(f.hW==("__debug__":Str))=cb:=by
 intro f;cases f<;>show⟨by decide +kernel,by decide +kernel,by decide +kernel,by decide +kernel,by decide +kernel,by decide +kernel⟩
def Br(f:B2):∃T,f.MK=.type T:=by cases f<;>show⟨_,rfl⟩
def Bs(f:B2):(∃T,f.out=.type T)\/∃T,f.out=.builtin T:=by cases f<;>first|show .inl ⟨_,rfl⟩|show .inr ⟨_,rfl⟩
def yQ{M:Model}{E:d6->fx->Prop}(h:eH M A t (λv a=>eH M A (Nk (.type T) [v]) Q E a) E s):eH M A (callWith pos (.type T) [] [(cb,t)] []) Q E s :=
 PySem.callWith_type rfl (MY (Pm (vz h (λ_ _ b=>P8 b) λ_ _ e=>e)))
def Bt{M:Model}{E:d6->fx->Prop}(h:eH M A t (λv a=>eH M A (Nk (.builtin T) [v]) Q E a) E s):eH M A (callWith pos (.builtin T) [] [(cb,t)] []) Q E s :=
 QS rfl (MY (Pm (vz h (λ_ _ b=>P8 b) λ_ _ e=>e)))
def vT(b:X.calm=b7)(d:X.A.units+60<Ga)(g:C.K=X.K)(i:Gl X f.hW)(j:X.mg f.hW=b6)
  (k:PA X (e::es) (FO C ms)) (l:mx (e::es) X.env=(cb,Ka e X.env)::mx es X.env) (m:(Kc pos2 (mx es X.env)).any (·.1)=cb)
  (I:Inv X pins c0.σ c0.H s) (ok:Ok C c0) (h:W (ms >>= λrs=>au rs >>= λ_=>M.E3 (qa f rs)) c0.st (bK C c0 Q)) :
  eH (ko X.prog X.w) X.A (Ka (.Call (.Name f.hW p2) (e::es) [] pos2) X.env) (λv s1=>eH (ko X.prog X.w) X.A (Nk f.out [v]) (EP X pins c0.σ Q) X.xe s1) X.xe s:=by
 have⟨G,n,J,o,L,u⟩:=rQ f;show Es (dk I i j n ?_ o u);have a:eH (ko X.prog X.w) X.A (Xy (Kc pos2 (mx (e::es) X.env))) (λus s1=>eH (ko X.prog X.w) X.A (Nk f.MK us) (λv s1=>eH (ko X.prog X.w) X.A (Nk f.out [v]) (EP X pins c0.σ Q) X.xe s1) X.xe s1) X.xe s :=
  ER (args k I ok h pos2) λus s1 x=>by
   have⟨rs,c,vs,t,y,B,w⟩:=x;have⟨r,e,q⟩:=bJ.mp w;have z:=Bq b d g t y B e q;rw[t.hσ]at z;show z
 have⟨T,D⟩:=Br f;rw[D]at a ⊢;show LF a l m
def yR(d:X.calm=b7)(g:X.A.units+60<Ga)(i:C.K=X.K)(j:Gl X f.m8)(k:X.mg f.m8=b6)(l:Gl X f.hW)(m:X.mg f.hW=b6)
  (n:PA X (e::es) (FO C ms)) (o:mx (e::es) X.env=(cb,Ka e X.env)::mx es X.env) (q:(Kc pos2 (mx es X.env)).any (·.1)=cb) :
  PE X (.Call (.Name f.m8 p) [.Call (.Name f.hW p2) (e::es) [] pos2] [] pos) (ET C (ms >>= λrs=>au rs >>= λ_=>M.E3 (qa f rs))):=by
 rintro pins s σ H Q I ⟨c0,rfl,rfl,ok,h⟩;have⟨r,x,t,y,u,z⟩:=rQ f;show Es (dk I j k r ?_ t u);have a:=vT (p2:=p2) (pos2:=pos2) d g i l m n o q I ok h;have v:Kc pos (mx [.Call (.Name f.hW p2) (e::es) [] pos2] X.env)=[(cb,Ka (.Call (.Name f.hW p2) (e::es) [] pos2) X.env)]:=rfl;have w:Ub pos (Pd [] X.env)=[]:=rfl;rw[v,w];rcases Bs f with⟨T,b⟩|⟨T,b⟩
 .rw[b]at a ⊢;show yQ a
 .rw[b]at a ⊢;show Bt a
end
section
variable{X:Cx}{C:Ct}{pins:List (gs×Obj)}{s:fx}{c0 c c1:Cf}
variable{a b d e o tg:tr}{es:List tr}{m ma mb md:M (Kd×U)}{ms:M (List (Kd×U))}{ta tb:M Bool}{pos p p2 apos EM:Pos}
abbrev lC(rs:List (Kd×U))(c f:Cf):Prop:=∀j u,(Kd.bor j,u)∈rs->f.σ[j]?=c.σ[j]?
abbrev Walk(C:Ct)(c:Cf)(rs:List (Kd×U))(xs:List (Kd×U))(J:It):Prop:=∀f,Ok C f->Ns c f->lC rs c f->aY rs f.st ->
 (∀(i:Nat) r,xs[i]?=a5 r->(r.1=.loc\/r.1=.any)/\J.go i f.H/\∀x H',J.Ml i f.H x H'->∃g:Cf,g.H=H'/\g.σ=f.σ/\g.st=f.st/\Ok C g/\Nx f g/\aJ C f g r.1 r.2 x) /\
 ∀i:Nat,xs.length<=i->J.stop i f.H
abbrev Iu(C:Ct)(f:Ik)(ms:M (List (Kd×U))):TI:=λσ H R=>∃c0:Cf,c0.σ=σ/\c0.H=H/\Ok C c0/\W (ms >>= λrs=>au rs >>= λ_=>M.E3 (GP f rs) >>= λxs=>pure (rs,xs)) c0.st λq st' =>
 ∀c J,c.σ=σ->c.st=st'->Ok C c->Nx c0 c->aY q.1 c.st->Walk C c q.1 q.2 J->R J c.H
def aJ.walk(ok:Ok C c)(n:Ns c f)(g:lC [r] c f)(hs:aY [r] f.st)(h:aJ C c0 c r.1 r.2 v):aJ C c0 f r.1 r.2 v :=
 (h.w.P_ ok n λj e=>g j r.2 (by rw[<-e];simp)).t hs
def zM(k:Kd):kE k=.loc\/kE k=.any:=by cases k<;>simp[kE]
def tT(z:C.K=X.K)(ok:Ok C c)(h:aJ C c0 c k (.lst us) (.ref A)):Walk C c [(k,.lst us)] (us.map λu=>(kE k,u)) (M9 X.K A):=by
 intro l q n B hs;have h':=aJ.walk (r:=(k,.lst us)) ok n B hs h;have⟨H,vs,e,f,t⟩:=h'.list q;cases e;rw[z]at f;show⟨λi r w=>?_,λi D=>⟨vs,f,by rw[<-t.len];simpa using D⟩⟩;rw[nt,et]at w;have⟨u,G,rfl⟩:=w;have⟨v,y,g⟩:=t.get G;show⟨zM k,⟨vs,v,f,y⟩,λx H' j=>?_⟩;have⟨e,j⟩:=j;subst e;have:=j vs f;rw[y]at this;cases this;show⟨l,rfl,rfl,rfl,q,Nx.refl l,aJ.item g⟩
def qd(z:C.K=X.K)(ok:Ok C c)(h:aJ C c0 c k (.tup us) (.ref A)):Walk C c [(k,.tup us)] (us.map λu=>(kE k,u)) (M_ X.K A):=by
 intro l q n B hs;have h':=aJ.walk (r:=(k,.tup us)) ok n B hs h;have⟨H,vs,e,f,t⟩:=h'.tuple q;cases e;rw[z]at f;show⟨λi r w=>?_,λi D=>⟨vs,f,by rw[<-t.len];simpa using D⟩⟩;rw[nt,et]at w;have⟨u,G,rfl⟩:=w;have⟨v,y,g⟩:=t.get G;show⟨zM k,⟨vs,v,f,y⟩,λx H' j=>?_⟩;have⟨e,j⟩:=j;subst e;have:=j vs f;rw[y]at this;cases this;show⟨l,rfl,rfl,rfl,q,Nx.refl l,aJ.item g⟩
def vU:Walk C c [(k,.str x)] (x.cps.toList.map λch=>(.loc,.str ⟨#[ch]⟩)) (NM x):=by
 intro f l n u hs;show⟨λi r g=>?_,λi q=>by change x.cps.toList.length<=i;simpa using q⟩;rw[nt,et]at g;have⟨ch,h,rfl⟩:=g;show⟨.inl rfl,(hQ.mp h).1,λy H' t=>?_⟩;have⟨e,v,j,rfl⟩:=t;subst e;rw[h]at j;cases j;show⟨f,rfl,rfl,rfl,l,Nx.refl f,rfl⟩
def j8{lo:Int}:Walk C c rs ((ei n).map λi:Nat=>(Kd.loc,U.int (lo+(i:Int)))) (K2 lo n):=by
 intro h l nx t hs;show⟨λi r k=>?_,λi f=>by change n<=i;simpa using f⟩;rw[nt,et]at k;have⟨j,g,rfl⟩:=k;have f:i<n:=by simpa using(hQ.mp g).1
 rw[Tn f]at g;cases g;show⟨.inl rfl,f,λy H' q=>?_⟩;have⟨e,rfl⟩:=q;subst e;show⟨h,rfl,rfl,rfl,l,Nx.refl h,rfl⟩
def Bu(j:C.K=X.K)(q:PE X a (ET C ma)):PI X tg a (Iu C .seq (ma >>= λr=>pure [] >>= λrs=>pure (r::rs))):=by
 rintro pins s σ H R I ⟨c0,rfl,rfl,ok,h⟩;rw[ah,ah]at h;have⟨r,st1,t,h⟩:=h;rw[ah,aj,aj,ah,bG,ah]at h;have⟨w,h⟩:=h;have⟨xs,l,h⟩:=bJ.mp h;rw[aj]at h;have⟨k,u⟩:=r;cases u with
 |lst us =>
  cases l;show xP q pins s c0.σ c0.H R I ⟨c0,rfl,rfl,ok,_,st1,t,λc v i hs g n f=>?_⟩;have⟨y,vs,rfl,z,B⟩:=f.list g;subst hs;show⟨y,rfl,⟨vs,j▸z⟩,h c _ i rfl g n w (tT j g f)⟩
 |tup us =>
  cases l;show Aw q pins s c0.σ c0.H R I ⟨c0,rfl,rfl,ok,_,st1,t,λc v i hs g n f=>?_⟩;have⟨y,vs,rfl,z,B⟩:=f.tuple g;subst hs;have A:=z;rw[j]at A;show⟨y,rfl,⟨vs,A⟩,h c _ i rfl g n w (qd j g f)⟩
 |str x =>
  cases l;show AM q pins s c0.σ c0.H R I ⟨c0,rfl,rfl,ok,_,st1,t,λc v i hs g n f=>?_⟩;subst hs;show⟨_,f.str g,h c _ i rfl g n w vU⟩
 |_=>cases l
def vV{k:List (Kd×U)->M β}{Post:β->ar->Prop}(ok:Ok C c0)(h:W (ms >>= λrs=>au rs >>= λ_=>k rs) c0.st Post)
  (hz:∀rs c vs,GQ C c0 c rs vs->W (k rs) c.st Post->Z vs c.H):FO C ms c0.σ c0.H Z:=by
 rw[ah]at h;show⟨c0,rfl,rfl,ok,h.mono λrs st1 f c1 vs g i j l n=>?_⟩;rw[ah,bG]at f;subst i;show hz rs c1 vs ⟨g,j,l,n,f.1⟩ f.2
def yS(i:Gl X "range")(j:X.mg "range"=b6)(hs:mx [a] X.env=[(cb,Ka a X.env)])(k:PA X [a] (FO C ms)):PI X tg (.Call (.Name "range" p) [a] [] pos) (Iu C .E8 ms):=by
 rintro pins s σ H R I ⟨c0,rfl,rfl,ok,h⟩;show sW i j k hs pins s c0.σ c0.H R I (vV ok h λrs c vs t w=>?_);rw[ah]at w;have⟨xs,g,w⟩:=bJ.mp w;rw[aj]at w;have⟨x,rfl,hz⟩:=bC (f:=tP) g;clear g;have g:=hz;clear hz;have⟨v,rfl,l⟩:=t.one;unfold tP at g;split at g
 .split at g
  .rename_i hh;cases g;show⟨_,by rw[l.int t.ok],⋯,⋯,w c _ t.hσ rfl t.ok t.nx t.J4 j8⟩
  .cases g
 .cases g
def yT(g:Gl X "range")(i:X.mg "range"=b6)(hs:mx [a,b] X.env=[(cb,Ka a X.env),(cb,Ka b X.env)])(j:mx [b] X.env=[(cb,Ka b X.env)])(k:PA X [a,b] (FO C ms)):PI X tg (.Call (.Name "range" p) [a,b] [] pos) (Iu C .Hu ms):=by
 rintro pins s σ H R I ⟨c0,rfl,rfl,ok,h⟩;show sX g i k hs j pins s c0.σ c0.H R I (vV ok h λrs c vs t w=>?_);rw[ah]at w;have⟨xs,f,w⟩:=bJ.mp w;rw[aj]at w;have f:Bb rs=a5 xs:=f;unfold Bb at f;split at f
 .split at f
  .rename_i hh;cases f;have⟨v,n,rfl,l,ty⟩:=t.two;show⟨_,_,by rw[l.int t.ok,ty.int t.ok],⋯,w c _ t.hσ rfl t.ok t.nx t.J4 j8⟩
  .cases f
 .cases f
def Ok.put(ok:Ok C c)(n:Nx c0 c)(T:i<c.σ.length)(hk:k=.own\/k=.loc\/k=.any)(FP:Ok C c0)(h:aJ C c0 c k u v):
  Ok C {c with σ:=c.σ.set i (a5 v),st:=c.st.set i (a5 (k,u))}/\Nx c0 {c with σ:=c.σ.set i (a5 v),st:=c.st.set i (a5 (k,u))}:=by
 have Y:i<c.st.length:=by rw[ok.len];show T
 have F8:∀(j:Nat) k' u',(c.st.set i (a5 (k,u)))[j]?=a5 (a5 (k',u'))->j≠i->c.st[j]?=a5 (a5 (k',u')):=λj k' u' e ne=>by rw[mu (HX ne)]at e;show e
 have Oz:∀(j:Nat) D,(c.σ.set i (a5 v))[j]?=a5 (a5 D)->j≠i->c.σ[j]?=a5 (a5 D):=λj D e ne=>by rw[mu (HX ne)]at e;show e
 have sl:eX C c.S c.H k u v:=by
  rcases hk with rfl|rfl|rfl
  .have⟨r,e,G,L,x,N⟩:=h;have⟨z0,z1,O,z3,z4⟩:=FP.mZ G;show⟨r,e,L,O,z0,N⟩
  .show h
  .show h
 have J6:∀(j:Nat) k' u' r,k'.root=b7->(c.st.set i (a5 (k,u)))[j]?=a5 (a5 (k',u'))->(c.σ.set i (a5 v))[j]?=a5 (a5 (.ref r))->j=i/\k=.own/\v=.ref r\/j≠i/\c.st[j]?=a5 (a5 (k',u'))/\c.σ[j]?=a5 (a5 (.ref r)):=λj k' u' r I g l=>by
  by_cases f:j=i
  .subst f;rw[nc Y]at g;rw[nc T]at l;cases g;cases l;rcases hk with rfl|rfl|rfl
   .show .inl ⟨rfl,rfl,rfl⟩
   .cases I
   .cases I
  .show .inr ⟨f,F8 j k' u' g f,Oz j _ l f⟩
 have dD:∀(j:Nat) (u':U),(c.st.set i (a5 (k,u)))[j]?=a5 (a5 (.ES,u'))->c.st[j]?=a5 (a5 (.ES,u'))/\(c.σ.set i (a5 v))[j]?=c.σ[j]?:=λj u' e=>by
  by_cases f:j=i
  .subst f;rw[nc Y]at e;cases e;rcases hk with hk|hk|hk<;>cases hk
  .show⟨F8 j .ES u' e f,mu (HX f)⟩
 have y:∀a,({c with σ:=c.σ.set i (a5 v),st:=c.st.set i (a5 (k,u))}:Cf).R1 a->c.R1 a\/k=.own/\v=.ref a:=λa Fu=>by
  have⟨j,k',u',I,g,l⟩:=Fu;rcases J6 j k' u' a I g l with⟨Q,t,w⟩|⟨Q,t,w⟩
  .show .inr ⟨t,w⟩
  .show .inl ⟨j,k',u',I,t,w⟩
 have IW:Ht C {c with σ:=c.σ.set i (a5 v),st:=c.st.set i (a5 (k,u))}:=ok.dd.of rfl dD (λa z=>(y a z).imp id λ⟨q1,q2⟩ j z'=>by
  subst q1;obtain⟨J,e,_,_,x,_⟩:=h;rw[q2]at e;cases e;show x (.inr ⟨j,z'⟩)) (.up λ_ z=>z) λj a z=>⟨(ok.root (.inr ⟨j,z⟩)).1,λo q=>q⟩
 show⟨⟨ok.same,ok.G8,ok.par,ok.io,by simp[ok.len],λj k' u' e=>?_,λj1 j2 k1 k2 u1 u2 r OA LL g l e3 e4=>?_,IW⟩,⟨⟨n.keep,n.there,λa z=>?_,n.sub,n.new⟩⟩⟩
 .by_cases f:j=i
  .subst f;rw[nc Y]at e;cases e;show⟨v,by rw[nc T],sl⟩
  .have⟨D,g,l⟩:=ok.sl j k' u' (F8 j k' u' e f);show⟨D,by rw[mu (HX f)];show g,l⟩
 .have z1:=J6 j1 k1 u1 r OA g e3;have O:=J6 j2 k2 u2 r LL l e4;rcases z1 with⟨Q,t,w⟩|⟨Q,t,w⟩
  .rcases O with⟨y,A,B⟩|⟨y,A,B⟩
   .show Q.trans y.symm
   .subst t;have⟨J,e,G,L,x,N⟩:=h;rw[w]at e;cases e;show(x (.inl ⟨j2,k2,u2,LL,A,B⟩)).elim
  .rcases O with⟨y,A,B⟩|⟨y,A,B⟩
   .subst A;have⟨J,e,G,L,x,N⟩:=h;rw[B]at e;cases e;show(x (.inl ⟨j1,k1,u1,OA,t,w⟩)).elim
   .show ok.inj j1 j2 k1 k2 u1 u2 r OA LL t A w B
 .rcases z with z|⟨j,u',J,g,l,e3⟩
  .rcases y a z with z|⟨t,w⟩
   .show n.roots a (.inl z)
   .subst t;have⟨J,e,G,L,x,N⟩:=h;rw[w]at e;cases e;show .inr G
  .have⟨q1,q2⟩:=dD j u' g;show n.roots a (.inr ⟨j,u',J,q1,q2▸l,e3⟩)
def jv(y:Ok C c0)(ok:Ok C c)(n:Nx c0 c)(z:i<c.σ.length)(q:aJ C c0 c r.1 r.2 v)(h:W (cO i r) c.st Post):
  ∃t,t.σ=c.σ.set i (a5 v)/\t.H=c.H/\Ok C t/\Nx c0 t/\Post () t.st:=by
 have⟨k,u⟩:=r;cases k with
 |own =>
  have⟨x,st',e,f⟩:=h;cases e;have⟨g,l⟩:=ok.put n z (.inl rfl) y q;show⟨{c with σ:=c.σ.set i (a5 v),st:=c.st.set i (a5 (.own,u))},rfl,rfl,g,l,f⟩
 |loc =>
  have⟨x,st',e,f⟩:=h;cases e;have⟨g,l⟩:=ok.put n z (.inr (.inl rfl)) y q;show⟨{c with σ:=c.σ.set i (a5 v),st:=c.st.set i (a5 (.loc,u))},rfl,rfl,g,l,f⟩
 |any =>
  have⟨x,st',e,f⟩:=h;cases e;have⟨g,l⟩:=ok.put n z (.inr (.inr rfl)) y q;show⟨{c with σ:=c.σ.set i (a5 v),st:=c.st.set i (a5 (.any,u))},rfl,rfl,g,l,f⟩
 |bor j =>
  have⟨x,st',e,f⟩:=h;rw[show cO i (.bor j,u) c.st=match c.st[j]? with|some (a5 (.own,u))=>a5 (Ex.ok (),(c.st.set j (a5 (.loc,u))).set i (a5 (.loc,u)))|_=>b6 from rfl]at e;split at e
  .rename_i w B;cases e;obtain⟨N,D,r,I,_⟩:=ok.sl j _ _ B;have G:c.σ[j]?=a5 (a5 v):=q.2;rw[G]at D;cases D;subst I;have⟨J,L,A⟩:=ok.vP n B G;have⟨g,l⟩:=Ok.put (c:={c with S:=λa=>c.S a\/a=r,st:=c.st.set j (a5 (.loc,w))}) J L (k:=.loc) (u:=w) (v:=.ref r) z (.inr (.inl rfl)) y A;show⟨{S:=λa=>c.S a\/a=r,H:=c.H,σ:=c.σ.set i (a5 (.ref r)),st:=(c.st.set j (a5 (.loc,w))).set i (a5 (.loc,w)),kid:=c.kid},rfl,rfl,g,l,f⟩
  .cases e
 |_=>show q.elim
end
section
abbrev tG(C:Ct)(t:Bool)(is:List Nat):TG:=λv σ H Q=>∃b c r,c.σ=σ/\c.H=H/\Ok C b/\Ok C c/\Nx b c/\aJ C b c r.1 r.2 v/\W (du t is r) c.st λ_ st' =>
 ∀a,a.st=st'->Ok C a->Nx b a->(∀j,j∉is->a.σ[j]?=c.σ[j]?)->a.σ.length=c.σ.length->Q a.σ a.H
structure qe(X:Cx)(e:tr)(i:Nat):Prop where
 is:∃x pos,e=.Name x pos/\X.N[i]?=a5 x/\Loc X.env.scope x/\(X.fn x=b7\/X.env.scope.names.lookup x=a5 .local)
def Bv(f:X.N.Nodup)(h:qe X e i):PG X e (tG C cb [i]):=by
 have⟨x,pos,rfl,d,g,k⟩:=h.is;rintro pins s σ H v u Q I l ⟨D,c,r,rfl,rfl,m,ok,n,a,w⟩;have o:i<c.σ.length:=by rw[I.len];show(hQ.mp d).1
 have⟨p,b,t,y,A,q⟩:=jv (r:=r) m ok n o a w;show qT f d g k pins s c.σ c.H v u Q I l ?_;have z:=q p rfl y A (λj B=>by rw[b,mu (by intro z;show B (by simp[z]))]) (by rw[b];simp);rw[b,t]at z;show z
abbrev OB:List Nat->Kj
 |[]=>Cz
 |i::is=>zw (qS i) (OB is)
inductive dZ(X:Cx):List tr->List Nat->Prop where
 |nil:dZ X [] []
 |cons {e:tr} {es:List tr} {i:Nat} {is:List Nat} (h:qe X e i) (t:dZ X es is):dZ X (e::es) (i::is)
def tU(a:X.N.Nodup)(h:dZ X es is):K1 X es (OB is):=by
 induction h with
 |nil=>show xN
 |cons h t b =>
  have⟨x,pos,rfl,c,d,e⟩:=h.is;show uF (qT a c d e) b rfl
def qf(h:dZ X es is):(N9 es X.env).length=is.length/\(N9 es X.env).findIdx? (·.1)=b6:=by
 induction h with
 |nil=>show⟨rfl,rfl⟩
 |cons h t a =>
  have⟨x,pos,rfl,b,c,d⟩:=h.is;show⟨?_,?_⟩
  .change(_::_).length=_;simp[a.1]
  .change Xt _ (_::_)=b6;rw[List.findIdx?_cons,Yt (by simp),a.2];rfl
theorem rR(hk:kE k=k)(h:Ok C g):∀{is:List Nat}{us:List U}{vs:List V}{c:Cf}{Post:Unit->ar->Prop}{Q:L2.St->Hp->Prop},Ok C c->Nx g c->(∀i∈is,i<c.σ.length)->ao C (SK C c k) c.H us vs->W (sets is (us.map λu=>(k,u))) c.st Post ->
  (∀b,Post () b.st->Ok C b->Nx g b->(∀j,j∉is->b.σ[j]?=c.σ[j]?)->b.σ.length=c.σ.length->Q b.σ b.H)->OB is vs c.σ c.H Q
 |[],[],vs,c,Post,Q,ok,n,d,a,w,q=>by
  rw[show sets [] (Xe (λu=>(k,u)) [])=pure () from rfl,aj]at w;show⟨a,q c w ok n (λ_ _=>rfl) rfl⟩
 |[],u::us,vs,c,Post,Q,ok,n,d,a,w,q=>(aU.mp w).elim
 |i::is,[],vs,c,Post,Q,ok,n,d,a,w,q=>(aU.mp w).elim
 |i::is,u::us,vs,c,Post,Q,ok,n,d,a,w,q=>by
  rw[show sets (i::is) (Xe (λu=>(k,u)) (u::us))=cO i (k,u) >>= λ_=>sets is (us.map λu=>(k,u)) from rfl,ah]at w;have⟨v,r,rfl,l,m⟩:=a;have o:k=.own\/k=.loc\/k=.any:=by cases k<;>simp[kE]at hk<;>simp
  have D:k≠.own:=by cases k<;>simp[kE]at hk<;>simp
  have rt:aJ C g c k u v:=by rw[<-hk];show aJ.item l
  have⟨s,t⟩:=ok.put n (d i (by simp)) o h rt;have es:cO i (k,u)=λst=>a5 (.ok (),st.set i (a5 (k,u))):=by cases k<;>simp[kE]at hk<;>rfl
  obtain⟨_,st',e,x⟩:=w;rw[es]at e;cases e;show⟨v,r,rfl,rR (c:={c with σ:=c.σ.set i (a5 v),st:=c.st.set i (a5 (k,u))}) hk h s t (λj f=>by simpa using d j (by simp[f])) (by cases k<;>show m) x λb p y A B hl=>?_⟩;show q b p y A (λj f=>?_) (by rw[hl];simp);rw[B j (λz=>f (by simp[z])),mu (λz=>f (by simp[z]))]
def Di(g:X.calm=b7)(j:C.K=X.K)(m:X.N.Nodup)(h:dZ X es is)(hl:∀i∈is,i<X.N.length):PG X (.Tuple es Y pos) (tG C b7 is):=by
 rintro pins s σ H v u Q I o ⟨c0,c,r,rfl,rfl,q,ok,n,b,w⟩;have⟨t,y⟩:=qf h;show Ar g (tU m h) t y pins s c.σ c.H v u Q I o ?_;have⟨k,z⟩:=r;cases z with
 |tup us =>
  rw[show du b7 is (k,.tup us)=sets is (us.map λu=>(kE k,u)) from by cases is<;>rfl]at w;have⟨A,vs,rfl,e,f⟩:=b.tuple ok;rw[j]at e;have a:us.length=is.length:=by
   have d:∀(is:List Nat) (l:List (Kd×U)) (st:ar) (P:Unit->ar->Prop),W (sets is l) st P->l.length=is.length:=by
    intro is;induction is with
    |nil=>intro l st P w;cases l with
     |nil=>rfl
     |cons _ _=>show(aU.mp w).elim
    |cons i is B=>intro l st P w;cases l with
     |nil=>show(aU.mp w).elim
     |cons x l =>
      rw[show sets (i::is) (x::l)=cO i x >>= λ_=>sets is l from rfl,ah]at w;obtain⟨_,_,_,w⟩:=w;rw[lx,lx,B l _ _ w]
   simpa using d _ _ _ _ w
  show⟨A,vs,rfl,e,by rw[<-f.len,a],?_⟩;show rR (k:=kE k) (by cases k<;>rfl) q ok n (λi D=>by rw[I.len];show hl i D) (by cases k<;>show f) w λG p J L O T=>p G rfl J L O T
 |_=>cases is<;>show(aU.mp w).elim
end
section
variable{X:Cx}{C:Ct}{pins:List (gs×Obj)}{s:fx}{c0 c c1:Cf}
variable{a b d e o tg iter elt:tr}{es ifs:List tr}{m ma mb md me:M (Kd×U)}{ms:M (List (Kd×U))}{ta tb tc:M Bool}{pos p p2 apos EM:Pos}
def tV{m:M α}{st:ar}{Q:α->ar->Prop}:W (inScope k m) st Q↔W m (pb k b6++st) λa st'=>Q a (st'.drop k):=by
 constructor
 .rintro⟨a,st',e,h⟩;unfold inScope at e;cases q:m (pb k b6++st) with
  |none=>rw[q]at e;cases e
  |some r=>have⟨g,f⟩:=r;rw[q]at e;cases e;show⟨a,f,q,h⟩
 .rintro⟨a,st',e,h⟩;show⟨a,st'.drop k,by unfold inScope;rw[e],h⟩
abbrev Cf.ext(k:Nat)(c:Cf):Cf:={c with σ:=pb k b6++c.σ,st:=pb k b6++c.st,kid:=λj=>c.kid (j - k)}
abbrev Cf.cut(k:Nat)(c:Cf):Cf:={c with σ:=c.σ.drop k,st:=c.st.drop k,kid:=λj=>c.kid (k+j)}
def fA(h:(pb k b6++l)[j]?=a5 (a5 x)):∃i,j=k+i/\l[i]?=a5 (a5 x):=by
 by_cases f:j<k
 .rw[ve (by simpa using f)]at h;rw[Ii]at h;rw[Yr f]at h;cases h
 .show⟨j - k,⋯,?_⟩;rw[va (by simp;lia)]at h;simpa using h
def d0:(pb k b6++l)[k+i]?=l[i]?:=by
 rw[va (by simp)];simp
def vW:(c.ext k).R1 r↔c.R1 r:=by
 constructor
 .rintro⟨j,g,u,h,l,f⟩;have⟨i,rfl,e⟩:=fA l;rw[Cf.ext,d0]at f;show⟨i,g,u,h,e,f⟩
 .rintro⟨i,g,u,h,l,f⟩;show⟨k+i,g,u,h,by rw[Cf.ext,d0];show l,by rw[Cf.ext,d0];show f⟩
def m9{a:gs}(h:(c.ext k).RD j a):∃i,j=k+i/\c.RD i a:=by
 have⟨u,r,l,f,g⟩:=h;have⟨i,rfl,e⟩:=fA l;rw[Cf.ext,d0]at f;show⟨i,rfl,u,r,e,f,?_⟩;have:(c.ext k).kid (k+i)=c.kid i:=by change c.kid (k+i - k)=_;rw[Vw]
 rw[this]at g;show g
def Dj(h:(c.ext k).R r):c.R r:=by
 rcases h with h|⟨j,h⟩
 .show .inl (vW.mp h)
 .obtain⟨i,_,h⟩:=m9 h;show .inr ⟨i,h⟩
def Ok.ext(k:Nat)(ok:Ok C c):Ok C (c.ext k)/\Nx c (c.ext k):=by
 show⟨⟨ok.same,ok.G8,ok.par,ok.io,by simp[Cf.ext,ok.len],λj z u e=>?_,λi j k1 k2 u u' r A B g f x y=>?_,⟨λj u r g f=>?_,λi j a l n=>?_,λj a l n=>?_⟩⟩,⟨⟨λ_ _ h _=>h,λ_ o h=>⟨o,h⟩,λa h=>.inl (Dj h),λ_ h=>h,λ_ h=>.inl h⟩⟩⟩
 .have⟨i,rfl,D⟩:=fA e;have⟨v,g,f⟩:=ok.sl i z u D;show⟨v,by rw[Cf.ext,d0];show g,f⟩
 .have⟨q,rfl,G⟩:=fA g;have⟨t,rfl,H⟩:=fA f;rw[Cf.ext,d0]at x y;rw[ok.inj q t k1 k2 u u' r A B G H x y]
 .have⟨i,rfl,e⟩:=fA g;rw[Cf.ext,d0]at f;have:(c.ext k).kid (k+i)=c.kid i:=by change c.kid (k+i - k)=_;rw[Vw]
  rw[this];show ok.dd.kd i u r e f
 .have⟨q,rfl,w⟩:=m9 l;have⟨t,rfl,I⟩:=m9 n;rw[ok.dd.dj q t a w I]
 .have⟨i,rfl,w⟩:=m9 l;show ok.dd.d1 i a w (vW.mp n)
def vX{a:gs}(h:(c.cut k).R1 a):c.R1 a:=by
 have⟨j,i,u,l,f,g⟩:=h;rw[Cf.cut,La]at f g;show⟨k+j,i,u,l,f,g⟩
def m_{a:gs}(h:(c.cut k).RD j a):c.RD (k+j) a:=by
 have⟨u,r,f,g,i⟩:=h;rw[Cf.cut,La]at f g;show⟨u,r,f,g,i⟩
def Ok.cut(k:Nat)(ok:Ok C c):Ok C (c.cut k)/\Nx c (c.cut k):=by
 show⟨⟨ok.same,ok.G8,ok.par,ok.io,by simp[Cf.cut,ok.len],λj w u e=>?_,λi j k1 k2 u u' r x y f g q t=>?_,⟨λj u r f g=>?_,λi j a l n=>?_,λj a l n=>ok.dd.d1 _ a (m_ l) (vX n)⟩⟩,⟨⟨λ_ _ h _=>h,λ_ o h=>⟨o,h⟩,λa h=>.inl (h.elim (λz=>.inl (vX z)) λ⟨j,z⟩=>.inr ⟨k+j,m_ z⟩),λ_ h=>h,λ_ h=>.inl h⟩⟩⟩
 .rw[Cf.cut,La]at e;have⟨v,f,g⟩:=ok.sl _ w u e;show⟨v,by rw[Cf.cut,La];show f,g⟩
 .rw[Cf.cut,La]at f g q t;have:=ok.inj _ _ k1 k2 u u' r x y f g q t;lia
 .rw[Cf.cut,La]at f g;show ok.dd.kd _ u r f g
 .have:=ok.dd.dj _ _ a (m_ l) (m_ n);lia
def yU(h:∀j,j∉ei k->g[j]?=(pb k b6++σ)[j]?)(hl:g.length=(pb k (b6:Option V)++σ).length):∃f:L2.St,f.length=k/\g=f++σ:=by
 show⟨g.take k,by rw[tj,hl];simp,?_⟩;apply WB;intro j;by_cases i:j<k
 .rw[ve (by rw[tj,hl];simp;lia),List.getElem?_take,Yr i]
 .rw[h j (by simpa using i),va (by simp;lia),va (by rw[tj,hl];simp;lia)];congr 1
  rw[tj,hl];simp
def tW(e1:c1.σ=c0.σ)(EX:Ok C c1)(n1:Nx c0 c1)(hw:Walk C c1 rs xs J)(h3:W (bB k t tc me rs xs []) c1.st λus st'=>W (pure (Kd.own,U.lst us)) st' (bK C c0 Q)):
  q_ k J (tG C t (ei k)) (FV C tc) (ET C me) Q c0.σ c1.H:=by
 show⟨λi m ys H=>∃c f,c.H=H/\c.σ=c0.σ/\Ok C c/\Nx c1 c/\m=xs.length - i/\i<=xs.length/\ao C c.S c.H f ys/\f.length<=df/\W (bB k t tc me rs (xs.drop i) f) c.st λus st'=>W (pure (Kd.own,U.lst us)) st' (bK C c0 Q),⟨xs.length,c1,[],rfl,e1,EX,Nx.refl c1,by simp,uv _,rfl,uv _,by simpa using h3⟩,?_⟩;rintro i m ys H ⟨c,f,rfl,G,y,A,rfl,hi,h,l,w⟩;show⟨by rw[<-h.len];show l,?_⟩;have g:lC rs c1 c:=λj u _=>by rw[G,e1]
 by_cases I:i<xs.length
 .right
  rw[Qd I]at w;rw[show bB k t tc me rs (xs[i]::xs.drop (i+1)) f=au rs >>= λ_=>inScope k (du t (ei k) xs[i] >>= λ_=>tc >>= λb=>if b=b7 then(me >>= λr=>lift r >>= λu=>pure (a5 u)) else pure b6) >>= λr=>match r with|some u=>if f.length<df then bB k t tc me rs (xs.drop (i+1)) (f++[u]) else M.fail|none=>bB k t tc me rs (xs.drop (i+1)) f from rfl,ah,bG]at w;have⟨Ic,w⟩:=w;obtain⟨L,_⟩:=hw c y A g Ic;have⟨LO,OC,KN⟩:=L i xs[i] (by simp[I]);show⟨OC,λIo H'=>∃c f,c.H=H'/\c.σ=c0.σ/\Ok C c/\Nx c1 c/\ao C c.S c.H f Io/\f.length<=df/\W (bB k t tc me rs (xs.drop (i+1)) f) c.st λus st'=>W (pure (Kd.own,U.lst us)) st' (bK C c0 Q),λIo H' ⟨c',Lq,z1,z2,z3,z4,z5,z6,z7⟩=>⟨xs.length - (i+1),⋯,c',Lq,z1,z2,z3,z4,rfl,I,z5,z6,z7⟩,λx H' hy=>?_⟩;have⟨n,rfl,e4,e5,Fd,n2,rt⟩:=KN x H' hy;rw[ah,tV,ah]at w;have⟨ML,nx⟩:=Fd.ext k;have Ss:aJ C (n.ext k) (n.ext k) xs[i].1 xs[i].2 x:=by
   rcases LO with z|z
   .rw[z]at rt ⊢;show rt
   .rw[z]at rt ⊢;show rt
  have eσ:(n.ext k).σ=pb k b6++c0.σ:=by rw[Cf.ext];change pb k b6++n.σ=_;rw[e4,G]
  show⟨n.ext k,n.ext k,xs[i],eσ,rfl,ML,ML,Nx.refl _,Ss,?_⟩;have Su:(n.ext k).st=pb k b6++c.st:=by rw[Cf.ext];change pb k b6++n.st=_;rw[e5]
  rw[Su];show w.mono λ_ st3 w3 c3 e6 Hw n3 LP KO=>?_;subst e6;rw[eσ]at LP KO;have⟨N,O,T⟩:=yU LP KO;show⟨N,O,T,?_⟩;have Qe:Nx c c3:=(n2.trans nx).trans n3;rw[ah]at w3;show⟨c3,rfl,rfl,Hw,w3.mono λb Ko q D e7 e8 Y n4=>?_⟩;subst e8;cases b with
  |false =>
   rw[Yt oa]at q ⊢;rw[aj]at q;have⟨OD,nk⟩:=Y.cut k;have nn:Nx c (D.cut k):=(Qe.trans n4).trans nk;show⟨D.cut k,f,rfl,?_,OD,A.trans nn,h.mv (y.mv nn),l,q⟩;change D.σ.drop k=_;rw[e7,T,UM O]
  |true =>
   rw[Yr rfl]at q ⊢;rw[ah]at q;show⟨D,e7,rfl,Y,q.mono λr Jf w5 c5 v e9 Sv Sw n5 Sx=>?_⟩;subst Sv;rw[ah]at w5;obtain⟨S',st',u,sS,Sy,n6,OE,B,_,_⟩:=m6 Y Sw n5 Sx.w w5;rw[aj]at B
   dsimp only at B
   split at B
   .rename_i hz;have⟨OD,nk⟩:=Sy.cut k;have nn:Nx c (Cf.cut k {c5 with S:=S',st:=st' }):=((Qe.trans n4).trans n6).trans nk;show⟨Cf.cut k {c5 with S:=S',st:=st' },f++[u],rfl,?_,OD,A.trans nn,(h.mv (y.mv nn)).snoc OE,by rw[gc];show hz,B⟩;change c5.σ.drop k=_;rw[e9,T,UM O]
   .show(aU.mp B).elim
 .left
  have Gf:i=xs.length:=by lia
  subst Gf;rw[WS,show bB k t tc me rs [] f=au rs >>= λ_=>pure f from rfl,ah,bG,aj,aj]at w;obtain⟨_,L⟩:=hw c y A g w.1;show⟨L _ (ke _),λp hp=>bK.list w.2 G y (n1.trans A) h p hp⟩
def lD(ok:Ok C c0)
  (h:W (ms >>= λrs=>au rs >>= λ_=>M.E3 (GP l rs) >>= λxs=>bB k t tc me rs xs [] >>= λus=>pure (Kd.own,U.lst us)) c0.st (bK C c0 Q)) :
  uX k (Iu C l ms) (tG C t (ei k)) (FV C tc) (ET C me) c0.σ c0.H Q:=by
 rw[ah]at h;show⟨c0,rfl,rfl,ok,?_⟩;rw[ah];show h.mono λrs st1 f=>?_;rw[ah,bG]at f ⊢;show⟨f.1,?_⟩;have g:=f.2;rw[ah]at g ⊢;show g.mono λxs st2 i=>?_;rw[aj];intro c1 J n q r u v j;rw[ah]at i;subst q
 dsimp only at v j
 show tW n r u j i
def vY(S:cw X N own scope)(f:X.calm=b7)(g:PI X tg iter (Iu C i ms))
  (j:∀D s H ex,PG (FH X N scope D s H ex) tg (tG C t (ei own.length))) (k:∀D s H ex,IG (FH X N scope D s H ex) ifs (FV C tc)) (l:∀D s H ex,PE (FH X N scope D s H ex) elt (ET C me))
  (hs:∀x,Lr iter X.env x=pure x) :
  PE X (.ListComp elt [⟨tg,iter,ifs,0⟩] scope pos) (ET C (ms >>= λrs=>au rs >>= λ_=>M.E3 (GP i rs) >>= λxs=>bB own.length t tc me rs xs [] >>= λus=>pure (.own,.lst us))):=by
 show PE.weak (x6 S f g j k l hs) ?_;rintro σ H Q ⟨c0,rfl,rfl,ok,h⟩;show lD ok h
end
section
variable{a b d e o tg iter elt:tr}{es ifs:List tr}{m ma mb md me:M (Kd×U)}{ms:M (List (Kd×U))}{ta tb tc:M Bool}{pos p p2 apos EM:Pos}{st:Ls}{rest body:List Ls}{f g mm:M Fl}{ns MM:Nat->Bool}
def Bw(C:Ct)(c:Cf):Kd->U->V->Prop
 |.own,u,v=>∃r,v=.ref r/\C.H₀ r=b6/\¬c.S r/\¬c.R r/\cB C c.S c.H r u
 |.loc,u,v=>Rep C c.S c.H u v
 |.any,u,v=>Rep C (PS C c.S) c.H u v
 |_,_,_=>False
def EB(C:Ct)(Q:VK)(c:Cf):Kd->U->Prop
 |.io,u=>C.xw u c.H
 |k,u=>∀v,Bw C c k u v->Q v c.H
abbrev Fin(C:Ct)(D:Ends)(f:Fl)(c:Cf):Prop:=match f with
 |.nx=>D.nx c.σ c.H
 |.bk=>D.bk c.σ c.H
 |.ct=>D.ct c.σ c.H
 |.rt k u=>EB C D.rt c k u
abbrev Kept(ns:Nat->Bool)(c h:Cf):Prop:=(∀j,ns j=b7->h.σ[j]?=c.σ[j]?)/\h.σ.length=c.σ.length
def Kept.refl:Kept ns c c:=⟨λ_ _=>rfl,rfl⟩
def Kept.trans(h:Kept ns c i)(h':Kept ns i k):Kept ns c k:=⟨λj z=>(h'.1 j z).trans (h.1 j z),h'.2.trans h.2⟩
def Kept.le(i:∀j,MM j=b7->ns j=b7)(h:Kept ns c k):Kept MM c k:=⟨λj z=>h.1 j (i j z),h.2⟩
def Kept.of(h:i.σ=c.σ):Kept ns c i:=⟨λj z=>by rw[h],by rw[h]⟩
abbrev cD(C:Ct)(h:Cf)(ns:Nat->Bool)(D:Ends)(f:Fl)(st':ar):Prop:=∀c,c.st=st'->Ok C c->Ns h c->Kept ns h c->Fin C D f c
abbrev Fs(C:Ct)(ns:Nat->Bool)(m:M Fl):TS:=λD σ H=>∃c:Cf,c.σ=σ/\c.H=H/\Ok C c/\W m c.st (cD C c ns D)
def qg(ok:Ok C c)(n:Ns i c)(k:Kept ns i c)(h:W mm c.st (cD C i ns D)):Fs C ns mm D c.σ c.H :=
 ⟨c,rfl,rfl,ok,h.mono λf st j l e q r k2=>j l e q (n.trans r) (k.trans k2)⟩
def PS.weak(h:L2.PS X st t)(i:∀D σ H,t' D σ H->t D σ H):L2.PS X st t':=λpins s σ H D I q=>h pins s σ H D I (i D σ H q)
def FF.weak(h:FF X rest t)(i:∀D σ H,t' D σ H->t D σ H):FF X rest t':=λpins s σ H D I q=>h pins s σ H D I (i D σ H q)
def ng(i:∀j,MM j=b7->ns j=b7)(h:Fs C MM mm D σ H):Fs C ns mm D σ H :=
 let ⟨c,k,l,ok,w⟩:=h;⟨c,k,l,ok,w.mono λf st n q e r s k2=>n q e r s (k2.le i)⟩
def Dk:FF X [] (Fs C ns (pure .nx)):=by
 show FF.weak jo ?_;rintro D σ H ⟨c,rfl,rfl,ok,h⟩;rw[aj]at h;show h c rfl ok (Ns.refl c) Kept.refl
abbrev yV(m:M Fl)(f:Fl):M Fl:=match f with
 |.nx=>m
 |f=>pure f
def Bx(l:L2.PS X st (Fs C ns f))(n:FF X rest (Fs C ns g)):FF X (st::rest) (Fs C ns (f >>= yV g)):=by
 show FF.weak (gC l n) ?_;rintro D σ H ⟨q,rfl,rfl,ok,h⟩;rw[ah]at h;show⟨q,rfl,rfl,ok,h.mono λr st1 w j e c i k1=>?_⟩;subst e;cases r with
 |nx=>show qg c i k1 w
 |bk=>rw[show yV g .bk=pure .bk from rfl,aj]at w;show w j rfl c i k1
 |ct=>rw[show yV g .ct=pure .ct from rfl,aj]at w;show w j rfl c i k1
 |rt k u=>rw[show yV g (.rt k u)=pure (.rt k u) from rfl,aj]at w;show w j rfl c i k1
def Dl:L2.PS X (.Break pos) (Fs C ns (pure .bk)):=by
 show PS.weak uD ?_;rintro D σ H ⟨c,rfl,rfl,ok,h⟩;rw[aj]at h;show h c rfl ok (Ns.refl c) Kept.refl
def Dm:L2.PS X (.Continue pos) (Fs C ns (pure .ct)):=by
 show PS.weak nS ?_;rintro D σ H ⟨c,rfl,rfl,ok,h⟩;rw[aj]at h;show h c rfl ok (Ns.refl c) Kept.refl
def Dn:L2.PS X (.Pass pos) (Fs C ns (pure .nx)):=by
 show PS.weak xK ?_;rintro D σ H ⟨c,rfl,rfl,ok,h⟩;rw[aj]at h;show h c rfl ok (Ns.refl c) Kept.refl
def Dp(i:PE X a (ET C ma))(hs:Qg a b6 pos.line X.env=pure cb):L2.PS X (.Expr a pos) (Fs C ns (ma >>= λ_=>pure .nx)):=by
 show PS.weak (l7 i hs) ?_;rintro D σ H ⟨j,rfl,rfl,ok,h⟩;show aR ok h λx c v t w=>?_;rw[aj]at w;have:=w c rfl t.ok t.nx (Kept.of t.hσ);rw[<-t.hσ];show this
def By:L2.PS X (.Return b6 pos) (Fs C ns (pure (.rt .loc .EU))):=by
 show PS.weak xM ?_;rintro D σ H ⟨c,rfl,rfl,ok,h⟩;rw[aj]at h;show h c rfl ok (Ns.refl c) Kept.refl .EU rfl
def vZ(ok:Ok C L)(t:KI C L c x v)(w:W (retS x) c.st (cD C L ns D)):D.rt v c.H:=by
 have⟨k,u⟩:=x;have⟨G,l,n,r⟩:=t;cases k with
 |own =>
  rw[show retS (.own,u)=pure (.rt .own u) from rfl,aj]at w;have⟨B,e,h1,h2,h3,h4⟩:=r;show w c rfl l n (Kept.of G) v ⟨B,e,(ok.mZ h1).1,h2,h3,h4⟩
 |loc =>
  rw[show retS (.loc,u)=pure (.rt .loc u) from rfl,aj]at w;show w c rfl l n (Kept.of G) v r
 |any =>
  rw[show retS (.any,u)=if Fc u=b7 then pure (.rt .loc u) else pure (.rt .any u) from rfl]at w;split at w
  .rw[aj]at w;show w c rfl l n (Kept.of G) v (Rep.Fc (by assumption) r)
  .rw[aj]at w;show w c rfl l n (Kept.of G) v r
 |bor j =>
  have⟨fl,st',e,w⟩:=w;rw[show retS (.bor j,u) c.st=match c.st[j]? with|some (a5 (.own,u))=>a5 (Ex.ok (Fl.rt .own u),c.st.set j b6)|_=>b6 from rfl]at e;split at e
  .rename_i u' J;cases e;have Gq:j<c.st.length:=(hQ.mp J).1;have A:∀(i:Nat) k u',(c.st.set j b6)[i]?=a5 (a5 (k,u'))->i≠j/\c.st[i]?=a5 (a5 (k,u')):=λi k u' e=>by
    by_cases N:i=j
    .subst N;rw[nc Gq]at e;cases e
    .rw[mu (HX N)]at e;show⟨N,e⟩
   have⟨v',s,B,er,q1,q2,q3,q4⟩:=l.sl j _ _ J;have O:c.σ[j]?=a5 (a5 v):=r.2;rw[O]at s;cases s;subst er;have T:∀a,({c with st:=c.st.set j b6}:Cf).R1 a->c.R1 a:=λa ⟨i,k,h,hk,s,y⟩=>⟨i,k,h,hk,(A i k h s).2,y⟩
   have hR:∀a,({c with st:=c.st.set j b6}:Cf).R a->c.R a:=λa z=>z.elim (λz=>.inl (T a z)) λ⟨i,h,Q,s,y,I⟩=>.inr ⟨i,h,Q,(A i .ES h s).2,y,I⟩;have IW:Ht C {c with st:=c.st.set j b6}:=l.dd.of rfl (λi h e=>⟨(A i .ES h e).2,rfl⟩) (λa z=>.inl (T a z)) (.up λ_ z=>z) λi a z=>⟨(l.root (.inr ⟨i,z⟩)).1,λo q=>q⟩
   have Sz:Ok C {c with st:=c.st.set j b6}:=⟨l.same,l.G8,l.par,l.io,by simp[l.len],λi k h e=>l.sl i k h (A i k h e).2,λi Y k k' u1 h r hk Fv s y I e4=>l.inj i Y k k' u1 h r hk Fv (A i k u1 s).2 (A Y k' h y).2 I e4,IW⟩
   have nn:Ns L {c with st:=c.st.set j b6}:=⟨n.keep,n.there,λa z=>n.roots a (hR a z),n.sub,n.new⟩
   show w {c with st:=c.st.set j b6} rfl Sz nn (Kept.of G) (.ref B) ⟨B,rfl,q3,q1,λz=>?_,q4⟩
   .rcases z with⟨i,k,h,hk,s,y⟩|⟨i,h,Q,s,y,I⟩
    .have⟨ne,IZ⟩:=A i k h s;show ne (l.inj i j k .own h _ B hk rfl IZ J y O)
    .show l.dd.d1 i B ⟨h,Q,(A i .ES h s).2,y,I⟩ ⟨j,.own,_,rfl,J,O⟩
  .cases e
 |_=>show r.elim
def Dq(i:PE X a (ET C ma)):L2.PS X (.Return (a5 a) pos) (Fs C ns (ma >>= retS)):=by
 show PS.weak (uE i) ?_;rintro D σ H ⟨j,rfl,rfl,ok,h⟩;show aR ok h λx c v t w=>vZ ok t w
end
section
def j9(f:∀j,ns j=b7->j≠i)(g:Ok C a)(t:KI C a c r v)(h:i<c.σ.length)(w:W (cO i r >>= λ_=>(pure .nx:M Fl)) c.st (cD C a ns D)):D.nx (a.σ.set i (a5 v)) c.H:=by
 rw[ah]at w;have⟨b,d,k,l,m,q⟩:=jv (r:=r) g t.ok t.nx h t.rx w;rw[aj]at q;have z:=q b rfl l m ⟨λj n=>by rw[d,t.hσ,mu (HX (f j n))],by rw[d,t.hσ];simp⟩;have e:D.nx b.σ b.H:=z;rw[d,k,t.hσ]at e;show e
def zN(e:∀j,ns j=b7->j≠i)(f:X.N.Nodup)(d:X.N[i]?=a5 x)(g:Loc X.env.scope x)(k:X.fn x=b7\/X.env.scope.names.lookup x=a5 .local)(l:PE X a (ET C m))
  (hs:Qg a (a5 (.Name x pos')) pos.line X.env=pure cb):L2.PS X (.Assign [.Name x pos'] a pos) (Fs C ns (m >>= λr=>cO i r >>= λ_=>pure .nx)):=by
 rintro pins s σ H D I ⟨b,rfl,rfl,ok,h⟩;have n:i<b.σ.length:=by rw[I.len];show(hQ.mp d).1
 show pv f d g l hs k pins s b.σ b.H D I (aR ok h λr c v t w=>j9 e ok t (by rw[t.hσ];show n) w)
def Bz(k:∀j,ns j=b7->j≠i)(S:cw X N own scope)(l:X.calm=b7)(m:X.N.Nodup)(f:X.N[i]?=a5 y)(o:X.env.scope.names.lookup y=a5 .local)
  (p:PI X d a (Iu C q ms)) (u:∀D s H ex,PG (FH X N scope D s H ex) d (tG C t (ei own.length))) (z:∀D s H ex,IG (FH X N scope D s H ex) b (FV C A)) (B:∀D s H ex,PE (FH X N scope D s H ex) elt (ET C G))
  (J:Qg (.ListComp elt [⟨d,a,b,0⟩] scope pos) (a5 (.Name y L)) O.line X.env=pure b7) (hs:∀x,Lr a X.env x=pure x) :
  L2.PS X (.Assign [.Name y L] (.ListComp elt [⟨d,a,b,0⟩] scope pos) O)
   (Fs C ns ((ms >>= λrs=>au rs >>= λ_=>M.E3 (GP q rs) >>= λxs=>bB own.length t A G rs xs [] >>= λus=>pure (.own,.lst us)) >>= λr=>cO i r >>= λ_=>pure .nx)):=by
 rintro pins s σ H D I ⟨e,rfl,rfl,ok,h⟩;have Q:i<e.σ.length:=by rw[I.len];show(hQ.mp f).1
 show x8 S l m f o p u z B J hs pins s e.σ e.H D I ?_;rw[ah]at h;show lD ok (h.mono λr st1 w c v g T Y n rt=>?_);subst T;show j9 k ok ⟨g,Y,n,rt⟩ (by rw[g];show Q) w
def BA(f:∀j,ns j=b7->j∉is)(g:PE X a (ET C i))(k:PG X b (tG C b7 is))(hs:Rr [b] a pos.line X.env=pure cb)(l:VY [b] a X.env=pure b6)(m:(N9 [b] X.env).map (·.2)=[Rz b X.env]):
  L2.PS X (.Assign [b] a pos) (Fs C ns (i >>= λr=>du b7 is r >>= λ_=>pure .nx)):=by
 show PS.weak (uG g k hs l m) ?_;rintro D σ H ⟨n,rfl,rfl,ok,h⟩;show aR ok h λr c v t w=>?_;rw[ah]at w;show⟨n,c,r,t.hσ,rfl,ok,t.ok,t.nx,t.rx,w.mono λ_ st1 d o e p q s hl=>?_⟩;subst e;rw[aj]at d;show d o rfl p q ⟨λj u=>by rw[s j (f j u),t.hσ],by rw[hl,t.hσ]⟩
def Dr(i:PT X a (FV C j))(k:FF X ca (Fs C ns f))(l:FF X m (Fs C ns g)):L2.PS X (.If a ca m pos) (Fs C ns (j >>= λp=>if p=b7 then f else g)):=by
 show PS.weak (Cw i k l) ?_;rintro D σ H ⟨o,rfl,rfl,ok,h⟩;show fe ok h λp c b d n w=>?_;have e:o.σ=c.σ:=b.symm;rw[e];cases p with
 |true=>rw[Yr rfl]at w ⊢;show qg d n (Kept.of b) w
 |false=>rw[Yt oa]at w ⊢;show qg d n (Kept.of b) w
def Dt(L:Vc (ko X.prog X.w) X.A X.env X.xe)(N:PT X a (FV C g))(O:FF X body (Fs C ns f)):L2.PS X (.While a body [] pos) (Fs C ns (m3 g f n)):=by
 show PS.weak (uH L N O) ?_;rintro D σ H ⟨d,rfl,rfl,ok,h⟩;show⟨λm t H'=>∃c,c.H=H'/\c.σ=t/\Ok C c/\Ns d c/\Kept ns d c/\W (m3 g f m) c.st (cD C d ns D),⟨n,d,rfl,rfl,ok,Ns.refl d,Kept.refl,h⟩,?_⟩;rintro m t H' ⟨c,rfl,rfl,Q,v,x,w⟩;cases m with
 |zero=>show(aU.mp w).elim
 |succ m =>
  rw[show m3 g f (m+1)=g >>= λb=>if b=b7 then(f >>= λf'=>match f' with|.nx=>m3 g f m|.ct=>m3 g f m|.bk=>pure .nx|.rt k u=>pure (.rt k u)) else pure .nx from rfl]at w;show fe Q w λp l y B G i=>?_;have k2:Kept ns c l:=Kept.of y;rw[<-y];cases p with
  |false =>
   rw[Yt oa]at i ⊢;rw[aj]at i;show i l rfl B (v.trans G) (x.trans k2)
  |true =>
   rw[Yr rfl]at i ⊢;show⟨λI J=>∃c,c.H=J/\c.σ=I/\Ok C c/\Ns d c/\Kept ns d c/\W (m3 g f m) c.st (cD C d ns D),λI J z=>⟨m,OJ m,z⟩,?_⟩;rw[ah]at i;show⟨l,rfl,rfl,B,i.mono λT st3 j o e q Y k3=>?_⟩;subst e;have r:=(v.trans G).trans Y;have s:=(x.trans k2).trans k3;cases T with
   |nx=>show⟨o,rfl,rfl,q,r,s,j⟩
   |ct=>show⟨o,rfl,rfl,q,r,s,j⟩
   |_=>rw[aj]at j;show j o rfl q r s
def Du(hp:Vc (ko X.prog X.w) X.A X.env X.xe)(hc:X.calm=b7)(hi:PI X tg a (Iu C ik ms))(hg:PG X tg (tG C t is))(hb:FF X body (Fs C (Gi s) f))(hs:∀x,Lr a X.env x=pure x)
  (Fx:∀j,ns j=b7->j∉is/\Gi s j=b7) :
  L2.PS X (.For tg a body [] pos) (Fs C ns (ms >>= λrs=>au rs >>= λ_=>M.E3 (GP ik rs) >>= λxs=>if rE rs is s=b7 then forM t is f rs xs else M.fail)):=by
 show PS.weak (Ax hp hc hi hg hb hs) ?_;rintro D σ H ⟨d,rfl,rfl,ok,h⟩;rw[ah]at h;show⟨d,rfl,rfl,ok,?_⟩;rw[ah];show h.mono λrs st1 v=>?_;rw[ah,bG]at v ⊢;show⟨v.1,?_⟩;have h2:=v.2;rw[ah]at h2 ⊢;show h2.mono λxs st2 y=>?_;rw[aj];intro b J e1 e2 EX n1 EO B;subst e2
 dsimp only at EO B
 split at y
 .rename_i OH;have OI:∀j u,(Kd.bor j,u)∈rs->j∉is/\Gi s j=b7:=λj u o=>by
   have:=ri.mp OH _ o;simpa using this
  show⟨λi m l H'=>∃c,c.H=H'/\c.σ=l/\Ok C c/\Ns b c/\Kept ns d c/\lC rs b c/\m=xs.length - i/\i<=xs.length/\W (forM t is f rs (xs.drop i)) c.st (cD C d ns D),
   ⟨xs.length,b,rfl,e1,EX,Ns.refl b,Kept.of e1,λ_ _ _=>rfl,by simp,uv _,by simpa using y⟩,?_⟩
  rintro i m l H' ⟨c,rfl,rfl,G,p,kc,I,rfl,Gf,w⟩;by_cases L:i<xs.length
  .right
   rw[Qd L,show forM t is f rs (xs[i]::xs.drop (i+1))=au rs >>= λ_=>du t is xs[i] >>= λ_=>f >>= λf'=>match f' with|.nx=>forM t is f rs (xs.drop (i+1))|.ct=>forM t is f rs (xs.drop (i+1))|.bk=>pure .nx|.rt k u=>pure (.rt k u) from rfl,ah,bG]at w;have⟨Ic,w⟩:=w;obtain⟨N,_⟩:=B c G p I Ic;have⟨LO,OC,KN⟩:=N i xs[i] (by simp[L]);show⟨OC,λl H'=>∃c,c.H=H'/\c.σ=l/\Ok C c/\Ns b c/\Kept ns d c/\lC rs b c/\W (forM t is f rs (xs.drop (i+1))) c.st (cD C d ns D),λl H' ⟨c',z1,z2,z3,z4,z5,z6,z7⟩=>⟨xs.length - (i+1),⋯,c',z1,z2,z3,z4,z5,z6,rfl,L,z7⟩,λx H' hy=>?_⟩;have⟨n,rfl,q,e5,Fd,n2,rt⟩:=KN x H' hy;rw[ah]at w;have SA:aJ C n n xs[i].1 xs[i].2 x:=by
    rcases LO with z|z
    .rw[z]at rt ⊢;show rt
    .rw[z]at rt ⊢;show rt
   show⟨n,n,xs[i],q,rfl,Fd,Fd,Nx.refl n,SA,?_⟩;rw[e5];show w.mono λ_ st3 w3 c3 e6 Hw n3 Qh KO=>?_;subst e6;rw[ah]at w3;show⟨c3,rfl,rfl,Hw,w3.mono λfl Ko r g e O n4 Q=>?_⟩;subst e;have T:Ns b g:=((p.trans n2.toNs).trans n3.toNs).trans n4;have Y:Kept ns d g:=by
    show kc.trans ⟨λj hj=>?_,by rw[Q.2,KO,q]⟩;have⟨j1,j2⟩:=Fx j hj;rw[Q.1 j j2,Qh j j1,q]
   have Qi:lC rs b g:=λj u o=>by
    have⟨j1,j2⟩:=OI j u o;rw[Q.1 j j2,Qh j j1,q];show I j u o
   cases fl with
   |nx=>show⟨g,rfl,rfl,O,T,Y,Qi,r⟩
   |ct=>show⟨g,rfl,rfl,O,T,Y,Qi,r⟩
   |_=>rw[aj]at r;show r g rfl O (n1.toNs.trans T) Y
  .left
   have SD:i=xs.length:=by lia
   subst SD;rw[WS,show forM t is f rs []=au rs >>= λ_=>pure .nx from rfl,ah,bG,aj]at w;obtain⟨_,N⟩:=B c G p I w.1;show⟨N _ (ke _),w.2 c rfl G (n1.toNs.trans p) kc⟩
 .show(aU.mp y).elim
end
section
def Ok.mod(ok:Ok C c)(n:Ns c0 c)(hk:k.root=b7)(y:c.st[i]?=a5 (a5 (k,u)))(D:c.σ[i]?=a5 (a5 (.ref r)))(FX:∀a,a≠r->H' a=c.H a)(hr:∃o,H' r=a5 o)
  (new:Mv c.S c.H c.S H'->cB C c.S H' r u'):Ok C {c with H:=H',st:=c.st.set i (a5 (k,u'))}/\Ns c0 {c with H:=H',st:=c.st.set i (a5 (k,u'))}:=by
 have HD:c.R1 r:=⟨i,k,u,hk,y,D⟩
 have hR:c.R r:=.inl HD;have⟨I,q2,q3,o,ho,LQ⟩:=ok.root hR;have J:i<c.st.length:=(hQ.mp y).1;have m:∀{a:gs} {b:HO},a≠r->c.H a=a5 b->H' a=a5 b:=λne e=>by rw[FX _ ne];show e
 have G:Mv c.S c.H c.S H':=⟨λ_ z=>z,λa b e t=>m (λz=>by subst z;rw[ho]at e;cases e;show LQ t) e,λa b z e=>m (λd=>I (d▸z)) e⟩
 have KC:Mv (PS C c.S) c.H (PS C c.S) H':=⟨λ_ z=>z,G.MA,λa b z e=>m (λd=>by subst d;show z.elim q2 I) e⟩
 have L:∀(j:Nat) k' w,(c.st.set i (a5 (k,u')))[j]?=a5 (a5 (k',w))->j≠i->c.st[j]?=a5 (a5 (k',w)):=λj k' w e ne=>by rw[mu (HX ne)]at e;show e
 have f:∀(j:Nat) k' w,k'.root=b7->(c.st.set i (a5 (k,u')))[j]?=a5 (a5 (k',w))->∃N,c.st[j]?=a5 (a5 (k',N)):=λj k' w _ e=>by
  by_cases p:j=i
  .subst p;rw[nc J]at e;cases e;show⟨u,y⟩
  .show⟨w,L j k' w e p⟩
 have b1:∀a,({c with H:=H',st:=c.st.set i (a5 (k,u'))}:Cf).R1 a->c.R1 a:=λa Fu=>by
  have⟨j,k',w,g,h,l⟩:=Fu;have⟨N,O⟩:=f j k' w g h;show⟨j,k',N,g,O,l⟩
 have dD:∀(j:Nat) (w:U),(c.st.set i (a5 (k,u')))[j]?=a5 (a5 (.ES,w))->c.st[j]?=a5 (a5 (.ES,w)):=λj w e=>by
  by_cases p:j=i
  .subst p;rw[nc J]at e;cases e;cases hk
  .show L j .ES w e p
 have IW:Ht C {c with H:=H',st:=c.st.set i (a5 (k,u'))}:=ok.dd.of rfl (λj w e=>⟨dD j w e,rfl⟩) (λa z=>.inl (b1 a z)) G λj a z=>⟨(ok.root (.inr ⟨j,z⟩)).1,λb e=>m (λd=>ok.dd.d1 j a z (d▸HD)) e⟩
 show⟨⟨λa b e z=>?_,λa z=>?_,ok.par,λa z=>?_,by simp[ok.len],λj k' w e=>?_,λj1 j2 k1 k2 w1 w2 q g s h l Q e4=>?_,IW⟩,n.trans ⟨λa b e z=>m (λd=>z (d▸hR)) e,λa b e=>?_,λa z=>?_,λ_ z=>z,λ_ z=>.inl z⟩⟩
 .have g:=ok.same a b e z;show m (λd=>?_) g;subst d;rcases q3 with q3|q3
  .rw[e]at q3;cases q3
  .show z q3
 .have⟨g,b,s⟩:=ok.G8 a z;show⟨g,b,m (λd=>I (d▸z)) s⟩
 .have⟨g,b,s⟩:=ok.io a z;show⟨g,?_⟩;by_cases A:a=r
  .subst A;show hr
  .show⟨b,m A s⟩
 .by_cases p:j=i
  .subst p;rw[nc J]at e;cases e;have⟨v,h,l⟩:=ok.sl j _ _ y;rw[D]at h;cases h;show⟨.ref r,D,?_⟩;have nr:=new G;cases k with
   |own=>obtain⟨q,x,B,T,Y,_⟩:=l;cases x;show⟨r,rfl,B,T,Y,nr⟩
   |io=>obtain⟨q,x,B,T,Y,_⟩:=l;cases x;show⟨r,rfl,B,T,Y,nr⟩
   |_=>cases hk
  .have e0:=L j k' w e p;have⟨v,h,l⟩:=ok.sl j k' w e0;show⟨v,h,l.mv G KC λFv q x=>?_⟩;obtain⟨Qc,Hk,B,_⟩:=l.rt Fv;rw[x]at Hk;cases Hk;show⟨B,λb e=>m (λz=>?_) e⟩;subst z;show p (ok.inj j i k' k w u q Fv hk e0 y (by rw[h,x]) D)
 .have⟨MN,O⟩:=f j1 k1 w1 g h;have⟨Qj,a2⟩:=f j2 k2 w2 s l;show ok.inj j1 j2 k1 k2 MN Qj q g s O a2 Q e4
 .by_cases A:a=r
  .subst A;show hr
  .show⟨b,m A e⟩
 .rcases z with z|⟨j,w,q,h,l,Q⟩
  .show .inl (.inl (b1 a z))
  .show .inl (.inr ⟨j,w,q,dD j w h,l,Q⟩)
def iD{f:U->Option U}{st:ar}(h:W (modS i f) st Q):∃k u u',k.root=b7/\st[i]?=a5 (a5 (k,u))/\f u=a5 u'/\Q () (st.set i (a5 (k,u'))):=by
 obtain⟨_,st',e,q⟩:=h;unfold modS at e;split at e
 .rename_i k u hs;split at e
  .rename_i hk;cases a:f u with
   |none=>rw[a]at e;cases e
   |some u'=>rw[a]at e;cases e;show⟨k,u,u',hk,hs,a,q⟩
  .cases e
 .cases e
def iE{st:ar}(h:W (gf i) st Q):∃k u,k≠.ES/\st[i]?=a5 (a5 (k,u))/\Q (if k.root=b7 then .bor i else k,u) st:=by
 have⟨r,st',e,q⟩:=h;unfold gf at e;split at e
 .cases e
 .rename_i k u a hs;cases e;show⟨k,u,λz=>a z,hs,q⟩
 .cases e
def Dv(Q:C.K=X.K)(T:X.N[i]?=a5 x)(Y:Ih X.env.scope x)(hd:(x==("__debug__":Str))=cb)(FR:(x==("__classdict__":Str))=cb)(ha:PE X a (ET C ma))
  (Gk:((Kc f (mx [a] X.env)).all (λx=>!x.1)&&(Ub f (Pd [] X.env)).all (λx=>x.1.isSome)
   && c4 ([a].length+([]:List NB).length+(if ([]:List NB).isEmpty then 0 else 1)<30))=b7)
  (F0:(b.endLine==f.line)=b7) (m:mx [a] X.env=[(cb,Ka a X.env)]) :
  L2.PS X (.Expr (.Call (.Attribute (.Name x px) "append" b) [a] [] f) pos) (Fs C ns (gf i >>= λx=>KG x.2 >>= λ_=>ma >>= λr=>lift r >>= λu=>modS i (vH u) >>= λ_=>pure .nx)):=by
 show PS.weak (l7 (zB PySem.F.plainAttrs_list PySem.F.slot_list_append PySem.F.type_list_append tq (fQ T Y hd FR) (bY ha eO m) rfl Gk F0 m rfl)) ?_;rintro D σ H ⟨n,rfl,rfl,ok,h⟩;rw[ah]at h;have⟨k0,o,I0,p,h⟩:=iE h;have⟨s,g,l⟩:=ok.sl i k0 o p;show⟨s,g,?_⟩;cases o with
 |lst y =>
  rw[ah,show KG (U.lst y)=pure () from rfl,aj]at h;have OL:aJ C n n (if k0.root=b7 then .bor i else k0) (.lst y) s:=by
   by_cases hk:k0.root=b7
   .rw[Yr hk];show⟨⟨k0,hk,p⟩,g⟩
   .rw[Yt hk];cases k0 with
    |loc=>show l
    |any=>show l
    |bor j=>show l.elim
    |ES=>show(I0 rfl).elim
    |_=>show absurd rfl hk
  obtain⟨a0,MJ,ea,Mo,_⟩:=OL.list ok;show⟨by rw[ea];show .inl ⟨rfl,MJ,Q▸Mo⟩,?_⟩;show aR ok h λr c v t w=>?_;rw[ah]at w;obtain⟨S',st',u,sS,A,n1,d,B,_,_⟩:=m6 ok t.ok t.nx t.rx.w w;rw[ah]at B;have⟨k,u1,u2,hk,hs,e,q⟩:=iD B;have G:c.σ[i]?=a5 (a5 (.ref a0)):=by rw[t.hσ,g,ea]
  cases u1 with
  |lst I =>
   simp only[vH]at e;split at e
   .rename_i hz;cases e;have⟨v',e1,e2⟩:=A.sl i k (.lst I) hs;have J:c.σ[i]?=a5 (a5 v'):=e1;rw[G]at J;cases J;obtain⟨r',er,_,_,_,ws,hw,L⟩:=e2.rt hk;cases er;have J8:c.H a0=a5 (.lst ws):=hw;show⟨a0,ws,v,ea,rfl,J8,by rw[<-L.len];show hz,?_⟩;rw[aj]at q;have⟨Fd,n2⟩:=Ok.mod (c:={c with S:=S',st:=st' }) (H':=upd c.H a0 (.lst (ws++[v]))) (u':=.lst (I++[u])) A n1.toNs hk hs G (λa ne=>aw ne) ⟨_,aH⟩ λO=>⟨ws++[v],aH,(L.mv O).snoc (d.mv O)⟩
    have z:=q _ rfl Fd n2 (Kept.of t.hσ);rw[<-t.hσ];show z
   .cases e
  |_=>cases e
 |_=>rw[ah]at h;show(aU.mp h).elim
def Dw(u:C.K=X.K)(Y:X.N[i]?=a5 x)(hv:Ih X.env.scope x)(hd:(x==("__debug__":Str))=cb)(FR:(x==("__classdict__":Str))=cb)(ha:PE X a (ET C ma))
  (Gk:((Kc l (mx [a] X.env)).all (λx=>!x.1)&&(Ub l (Pd [] X.env)).all (λx=>x.1.isSome)
   && c4 ([a].length+([]:List NB).length+(if ([]:List NB).isEmpty then 0 else 1)<30))=b7)
  (F0:(g.endLine==l.line)=b7) (y:mx [a] X.env=[(cb,Ka a X.env)]) :
  L2.PS X (.Expr (.Call (.Attribute (.Name x px) "extend" g) [a] [] l) pos) (Fs C ns (gf i >>= λx=>KG x.2 >>= λ_=>ma >>= λr=>modS i (qc r) >>= λ_=>pure .nx)):=by
 show PS.weak (l7 (zB PySem.F.plainAttrs_list PySem.F.slot_list_extend PySem.F.type_list_extend pR (fQ Y hv hd FR) (bY ha eO y) rfl Gk F0 y rfl)) ?_;rintro D σ H ⟨A,rfl,rfl,ok,h⟩;rw[ah]at h;have⟨k0,B,I0,G,h⟩:=iE h;have⟨I,m,n⟩:=ok.sl i k0 B G;show⟨I,m,?_⟩;cases B with
 |lst J =>
  rw[ah,show KG (U.lst J)=pure () from rfl,aj]at h;have OL:aJ C A A (if k0.root=b7 then .bor i else k0) (.lst J) I:=by
   by_cases hk:k0.root=b7
   .rw[Yr hk];show⟨⟨k0,hk,G⟩,m⟩
   .rw[Yt hk];cases k0 with
    |loc=>show n
    |any=>show n
    |bor j=>show n.elim
    |ES=>show(I0 rfl).elim
    |_=>show absurd rfl hk
  obtain⟨a0,MJ,ea,Mo,_⟩:=OL.list ok;show⟨by rw[ea];show .inl ⟨rfl,MJ,u▸Mo⟩,?_⟩;show aR ok h λr c v t w=>?_;rw[ah]at w;have⟨k,o,u2,hk,hs,d,q⟩:=iD w;have L:c.σ[i]?=a5 (a5 (.ref a0)):=by rw[t.hσ,m,ea]
  have⟨rk,ru⟩:=r;have key:∃e f b vs,o=.lst e/\v=.ref b/\(Fm C.K c.H b vs\/Fe C.K c.H b vs)/\ao C c.S c.H f vs/\e.length+f.length<=df/\u2=.lst (e++f):=by
   cases ru with
   |lst f =>
    cases o with
    |lst e =>
     simp only[qc]at d;split at d
     .rename_i hz;cases d;have⟨b,vs,ev,p,s⟩:=t.rx.list t.ok;show⟨_,_,b,vs,rfl,ev,.inl p,c8 hz.2 s,hz.1,rfl⟩
     .cases d
    |_=>simp[qc]at d
   |tup f =>
    cases o with
    |lst e =>
     simp only[qc]at d;split at d
     .rename_i hz;cases d;have⟨b,vs,ev,p,s⟩:=t.rx.tuple t.ok;show⟨_,_,b,vs,rfl,ev,.inr p,c8 hz.2 s,hz.1,rfl⟩
     .cases d
    |_=>simp[qc]at d
   |_=>simp[qc]at d
  have⟨e,f,b,vs,rfl,rfl,hB,hz,hl,rfl⟩:=key;have⟨v',O,e2⟩:=t.ok.sl i k (.lst e) hs;rw[L]at O;cases O;obtain⟨r',er,_,_,_,ws,hw,Q⟩:=e2.rt hk;cases er;show⟨a0,b,ws,vs,ea,rfl,hw,u▸hB,by rw[<-Q.len,<-hz.len];show hl,?_⟩;rw[aj]at q;have⟨Fd,n2⟩:=Ok.mod (c:=c) (H':=upd c.H a0 (.lst (ws++vs))) (u':=.lst (e++f)) t.ok t.nx.toNs hk hs L (λa ne=>aw ne) ⟨_,aH⟩ λT=>⟨ws++vs,aH,(Q.mv T).append (hz.mv T)⟩
  have z:=q _ rfl Fd n2 (Kept.of t.hσ);rw[<-t.hσ];show z
 |_=>rw[ah]at h;show(aU.mp h).elim
def kP.or(h:kP X t)(h':kP X t'):kP X (λo i v H Q=>t o i v H Q\/t' o i v H Q):=λpins s σ H o i v a b u Q I c d e q =>
 q.elim (h pins s σ H o i v a b u Q I c d e) (h' pins s σ H o i v a b u Q I c d e)
def set_dict(b:X.A.units+1<Ga):kP X (λo i v H Q=>∃a H',o=.ref a/\uS H a i v H'/\Q H'):=by
 rintro pins s σ H o i v h j u Q I c d e ⟨a,H',rfl,g,q⟩;cases c;show tE b I g d e λs' f=>⟨H',f,q⟩
def v3{S:gs->Prop}{c:List (Key×V)}(a:c.map (·.1)=b.map JT)(e:ao C S H us (c.map (·.2)))(f:Rep C S H u v):
  (putK c (JT y) v).map (·.1)=(dput b us y u).1.map JT/\ao C S H (dput b us y u).2 ((putK c (JT y) v).map (·.2)):=by
 have g:(c.any λkv=>c4 (kv.1=(JT y:Key)))=c4 (y∈b):=by
  rw[jH];show(iB (x:=y) a e).2
 unfold putK dput;rw[g];by_cases d:y∈b
 .rw[Yr (by simpa using d),Yr d];constructor
  .rw[sx];rw[<-a];apply O2;intro p _;change(if p.1=JT y then(p.1,v) else p).1=p.1;split<;>rfl
  .clear g d;induction c generalizing b us with
   |nil =>
    have:b=[]:=by simpa using a.symm
    subst this;simp[ao]
   |cons p c i =>
    cases b with
    |nil=>simp at a
    |cons k b =>
     cases us with
     |nil=>simp[ao]at e
     |cons m us =>
      rw[l3,l3,Uk]at a;have⟨n,o,h,j,l⟩:=e;rw[l3]at h;cases h;rw[l3,Nq,l3,l3];show⟨_,_,rfl,?_,i a.2 l⟩;by_cases hk:k=y
      .rw[Yr (by show hk),Yr (by rw[a.1,hk])];show f
      .rw[Yt (by show hk),Yt (by rw[a.1];intro z;show hk (Vj z))];show j
 .rw[Yt (by simpa using d),Yt d];show⟨by rw[w4,a,w4];rfl,by rw[w4];show e.snoc f⟩
def Dx(hP:C.P=X.prog)(hw:C.w=X.w)(Q:C.K=X.K)(hu:X.A.units+60<Ga)(hN:X.N[i]?=a5 x)(hv:Ih X.env.scope x)(hd:(x==("__debug__":Str))=cb)(FR:(x==("__classdict__":Str))=cb)
  (ha:PE X a (ET C ma)) (hb:PE X b (ET C mb)) (hs:Rr [.Subscript (.Name x G) b p] a pos.line X.env=pure cb) (LU:VY [.Subscript (.Name x G) b p] a X.env=pure b6)
  (has:∀v,Rz (.Subscript (.Name x G) b p) X.env v=(do
   let I <-Ou [v] (Ka (.Name x G) X.env)
   let T <-Ou [v,I] (Ka b X.env)
   Wk p
   Ou [v,I,T] (Wm I T v)
   release [v,I,T] [])) :
  L2.PS X (.Assign [.Subscript (.Name x G) b p] a pos) (Fs C ns (ma >>= λr=>gf i >>= λ_=>mb >>= λx=>cN [r,x] >>= λus=>modS i (rD us) >>= λ_=>pure .nx)):=by
 show PS.weak (uG ha (As (fQ hN hv hd FR) hb (kP.or (kP.or set_list (set_dict (X:=X) ⋯)) (yb (X:=X) ⋯)) has) hs LU rfl) ?_;rintro D σ H ⟨c0,rfl,rfl,ok,h⟩;show aR ok h λr c v t w=>?_;rw[ah]at w;have⟨k0,u0,I0,Hy,w⟩:=iE w;have⟨v0,e0,Jw⟩:=t.ok.sl i k0 u0 Hy;show⟨v0,by rw[<-t.hσ];show e0,?_⟩;rw[ah]at w;show⟨c,t.hσ,rfl,t.ok,w.mono λy st2 w2 g n J e4 Fd n2 r2=>?_⟩;subst e4;rw[ah]at w2;have MO:=t.nx.trans n2;have Y:cm C c0 g [r,y] [v,n]:=⟨v,[n],rfl,t.rx.w.on t.ok n2 (J.trans t.hσ.symm),⟨n,[],rfl,(r2.w).from t.nx,rfl,λ_ i r' v' e _=>by simp at e⟩,λhk i r' v' e5 e6 Fv=>by
  cases i with
  |zero=>simp at e5 e6;subst e5 e6;show iA t.rx.w r2.w hk Fv
  |succ i=>simp at e5⟩
 have⟨S',st',us,sS,EX,n1,l,w1⟩:=hJ ok Fd MO Y w2;rw[ah]at w1;have⟨k,L,u2,hk,Jm,d,q⟩:=iD w1;rw[aj]at q;have hσ:g.σ[i]?=a5 (a5 v0):=by rw[J,<-t.hσ];show e0
 have⟨v',e1,e2⟩:=EX.sl i k L Jm;have IZ:g.σ[i]?=a5 (a5 v'):=e1;rw[hσ]at IZ;cases IZ;have⟨a0,er,z1,z2,z3,f⟩:=e2.rt hk;subst er;have SE:({g with S:=S',st:=st' }:Cf).σ[i]?=a5 (a5 (.ref a0)):=hσ;obtain⟨MN,ws,ew,Qk,Qj,TX,TY,OM,SF⟩:∃u ws,us=[u,ws]/\Rep C S' g.H u v/\∃(_:Unit) (_:Unit),True/\Rep C S' g.H ws n/\True:=by
  cases us with
  |nil=>simp[ao]at l
  |cons u us =>
   obtain⟨_,_,e,q1,q2⟩:=l;cases e;cases us with
   |nil=>simp[ao]at q2
   |cons u' us =>
    obtain⟨_,_,e,q3,q4⟩:=q2;cases e;cases us with
    |nil=>show⟨u,u',rfl,q1,(),(),trivial,q3,trivial⟩
    |cons _ _=>obtain⟨_,_,e,_⟩:=q4;cases e
 subst ew;rw[show rD [MN,ws] L=j5 ws MN L from rfl]at d;have m:∀{H':Hp} ,(∀a,a≠a0->H' a=g.H a)->(∃o,H' a0=a5 o)->(Mv S' g.H S' H'->cB C S' H' a0 u2)->D.nx c0.σ H':=λ{H'} FX hr new=>by
  have⟨Hw,n3⟩:=Ok.mod (c:={g with S:=S',st:=st' }) (H':=H') (u':=u2) EX n1.toNs hk Jm SE FX hr new;have z:=q _ rfl Hw n3 (Kept.of J);rw[<-J];show z
 cases L with
 |lst xs =>
  cases ws with
  |int j =>
   simp only[j5,et]at d;have⟨j',hj,rfl⟩:=d;have⟨vs,h1,s⟩:=f;have ey:n=.int j:=OM;show .inl (.inl ⟨a0,vs,j,j',rfl,ey,h1,by rw[<-s.len];show hj,?_⟩);show m (λa ne=>aw ne) ⟨_,aH⟩ λB=>⟨vs.set j' v,aH,(s.mv B).set j' (Qk.mv B)⟩
  |_=>simp[j5]at d
 |FT O vs =>
  cases ws with
  |str y' =>
   simp only[j5]at d;split at d
   .rename_i hz;cases d;have⟨EK,h1,s,h3⟩:=f;have ey:n=.str y':=OM;subst ey;have hl:EK.length=O.length:=by have:=Yy KX s;simpa using this
    show .inl (.inr ⟨a0,_,rfl,uS.k (k:=JT y') h1 (by rw[hl];show hz),?_⟩);show m (λa ne=>aw ne) ⟨_,aH⟩ λB=>?_;have⟨g1,g2⟩:=v3 (y:=y') s h3 Qk;show⟨_,aH,g1,g2.mv B⟩
   .cases d
  |_=>simp[j5]at d
 |Fw O =>
  simp only[j5]at d;split at d
  .rename_i r0 SG;split at d
   .rename_i hh;cases d;have er:=gh SG;subst er;have I_:=OM.row;have Jx:eB C.P C.w C.K g.H a0 O:=f;rw[Q]at I_;rw[hP,hw,Q]at Jx;show .inr ⟨a0,r0,O,rfl,I_,Jx,hh.1,hh.2,λH' hR FX=>?_⟩;obtain⟨xs,hx,_⟩:=id hR;show m FX ⟨_,hx⟩ λB=>?_;change eB C.P C.w C.K H' a0 _;rw[hP,hw,Q];show hR
   .cases d
  .cases d
 |_=>simp[j5]at d
end
end TM
namespace TM
open PySem L2 PyProof.Rows PySem.W
section
def Dy(b:X.calm=b7)(c:Gl X x)(d:X.mg x=a5 (.ref Cc))(f:(x==("__debug__":Str))=cb)(g:excIn X.K Cc Kx "ValueError.__new__"=b7)(i:PE X a (ET C j))(k:mx [a] X.env=[(cb,Ka a X.env)])
  (l:∀H',C.xw (.str x) H'->∀pins σ s e s',Inv X pins σ H' s->br X.prog X.w X.stack H' s e Cc b6 .none H' s'->X.xe (.ref e) s'):L2.PS X (.Raise (a5 (.Call (.Name x p) [a] [] n)) b6 pos) (Fs C ns (j >>= λ_=>pure (.rt .io (.str x)))):=by
 show PS.weak (vt b c d f g i k) ?_;rintro D σ H ⟨o,rfl,rfl,ok,h⟩;show aR ok h λx m v t w=>?_;rw[aj]at w;show λpins s e s' I F=>l _ (w m rfl t.ok t.nx (Kept.of t.hσ)) pins _ s e s' I F
def Ok.kill(ok:Ok C c)(m:c.st[j]?=a5 b6):Ok C {c with σ:=c.σ.set j b6}/\Nx c {c with σ:=c.σ.set j b6}:=by
 have ne:∀(i:Nat) (r:Kd×U),c.st[i]?=a5 (a5 r)->(c.σ.set j b6)[i]?=c.σ[i]?:=λi r e=>mu λz=>by subst z;rw[m]at e;cases e
 have g:∀a,({c with σ:=c.σ.set j b6}:Cf).R1 a->c.R1 a:=λa ⟨i,k,u,hk,b,d⟩=>⟨i,k,u,hk,b,(ne i _ b)▸d⟩
 have n:Ht C {c with σ:=c.σ.set j b6}:=ok.dd.of rfl (λi u e=>⟨e,ne i _ e⟩) (λa z=>.inl (g a z)) (.up λ_ z=>z) λi a z=>⟨(ok.root (.inr ⟨i,z⟩)).1,λo q=>q⟩
 show⟨⟨ok.same,ok.G8,ok.par,ok.io,by simp[ok.len],λi k u e=>?_,λi l k k' u u' r hk p b d f s=>?_,n⟩,⟨λ_ _ h _=>h,λ_ o h=>⟨o,h⟩,λa z=>.inl ?_,λ_ h=>h,λ_ h=>.inl h⟩⟩
 .have⟨v,q,z⟩:=ok.sl i k u e;show⟨v,(ne i _ e).trans q,z⟩
 .show ok.inj i l k k' u u' r hk p b d ((ne i _ b)▸f) ((ne l _ d)▸s)
 .show z.imp (g a) λ⟨i,u,r,b,d,f⟩=>⟨i,u,r,b,(ne i _ b)▸d,f⟩
def tX(h:∀m,ns m=b7->m≠i/\m≠j)(o:Ok C b)(ok:Ok C c)(n:Nx b c)(d:c.σ=b.σ)(p:i<c.σ.length)(hs:kR c.H H')(v:V)
  (w:W (qb i j b6) c.st (cD C b ns D)):D.nx (((b.σ.set j (a5 v)).set i (a5 (.bl b7))).set j b6) H':=by
 have⟨r,st',e,q⟩:=w;unfold qb at e
 dsimp only at e
 split at e
 .rename_i s;split at e
  case isFalse=>cases e
  rename_i t;have k:c.st[j]?=a5 b6/\i≠j:=⟨s,t⟩
  have⟨u,x⟩:=ok.kill k.1;have⟨y,A⟩:=u.grow (H':=H') (S':=c.S) hs (λa z=>.inl z) λa z=>z;have⟨f,g,B,G,I,J⟩:=jv (r:=(.loc,.bl b7)) (v:=.bl b7) (i:=i) o y ((n.trans x).trans A) (by simpa using p)
   (show Rep C c.S _ _ _ from rfl) (Post:=λ_ L=>cD C b ns D .nx L) (by
    have z:W (cO i (.loc,.bl b7) >>= λ_=>(pure .nx:M Fl)) c.st (cD C b ns D):=⟨r,st',e,q⟩
    rw[ah]at z;show z.mono λ_ st z=>aj.mp z)
  have es:(((b.σ.set j (a5 v)).set i (a5 (.bl b7))).set j b6)=(b.σ.set j b6).set i (a5 (.bl b7)):=by
   rw[Xq _ _ k.2,XG]
  have z:D.nx f.σ f.H:=J f rfl G I ⟨λm l=>by
   rw[g];change((c.σ.set j b6).set i _)[m]?=_;rw[mu (HX (h m l).1),mu (HX (h m l).2),d],by rw[g];simp[d]⟩
  rw[g,B]at z;rw[es];rw[<-d];show z
 .cases e
def Dz
  (Fx:∀m,ns m=b7->m≠i/\m≠j) (hN:X.N.Nodup) (hi:X.N[i]?=a5 y) (hy:Loc X.env.scope y) (OO:X.fn y=b7) (hj:X.N[j]?=a5 n) (hn:X.env.scope.names.lookup n=a5 .local)
  (hP:C.P=X.prog) (hw:C.w=X.w) (hK:C.K=X.K) (hF:Γ f=F) (hk:∀us k u,F us=a5 (.ok (k,u))->(k=.own\/k=.loc\/k=.any)/\us.length=np) (Fv:∀us c,F us=a5 (.exc c)->us.length=np)
  (G:gD X.prog X.w X.K X.mg X.base (HA X.prog X.w) kd fa fd ps (spT X.prog X.w X.K F np)) (hr:dn kd X.A) (hg:Gl X f) (hm:X.mg f=a5 (.ref fa)) (IY:PySem.W.keepIn X.K (.ref fa)=b7) (hb:Binds X.K fd ps []) (Gm:(f==("__debug__":Str))=cb)
  (ha:PA X.GD (e::es) (FO C ms)) (he:mx (e::es) X.env=(cb,Ka e X.env)::mx es X.env) (FJ:(Kc p3 (mx es X.env)).any (·.1)=cb)
  (O:X.stack=X.env::X.outer/\X.env.frame=a5 X.env.locals) (OP:Gl X x) (OQ:X.mg x=a5 (.ref Dc)) (OR:(x==("__debug__":Str))=cb) (SH:Gl X cl) (SJ:X.mg cl=a5 (.ref Cc)) (MP:Yj X.K mA cl=a5 (a5 (.ref Cc))) (SM:(cl==("__debug__":Str))=cb) (ab:exmOne X.K (.ref Cc) (.ref Dc)=a5 b7)
  (SN:Gl X "isinstance") (SO:X.mg "isinstance"=b6) (E2:(n==("__debug__":Str))=cb) (J_:(n==("__classdict__":Str))=cb) :
  L2.PS X (.Try [.Expr (.Call (.Name f p2) (e::es) [] p3) p4] [.ExceptHandler (a5 (.Name x p5)) (a5 n) [.Assign [.Name y p6] (.Call (.Name "isinstance" p8) [.Name n p9,.Name cl LV] [] Ja) LW] OS] [] [] pos)
   (Fs C ns (ms >>= λrs=>au rs >>= λ_=>eD Γ f (rs.map (·.2)) cl >>= qb i j)):=by
 rintro pins s σ H D I ⟨d,rfl,rfl,ok,h⟩;have Ha:i<d.σ.length:=by rw[I.len];show(hQ.mp hi).1
 let EE:d6->fx->Prop:=λv s'=>∃(c:Cf) (s1:fx) (ea T:gs) (H':Hp),v=.ref ea/\c.σ=d.σ/\Ok C c/\Nx d c/\Inv X pins d.σ c.H s1/\br X.prog X.w X.stack c.H s1 ea Cc (a5 T) .none H' s'/\kR c.H H'/\W (qb i j b6) c.st (cD C d ns D);show XI (vz (Q:=λf s1=>f=Vp/\SP X pins D .next s1) (E:=EE) ?_ (λf s1 z=>?_) λv s1 z=>?_)
 .show U5 (X6 (Es (cv I hg hm ?_ Gm)) I.quiet rfl);show PySem.W.callWith_K (h₀:=X.base) I.ok.mod.IA IY (vz (args (X:=X.GD) ha (I.ji _) ok h p3) (λus s1 z=>?_) λ_ _ z=>z.elim) he FJ;have⟨rs,c,vs,t,a,rv,w⟩:=z;have a:=a.eN;show⟨a.G0,?_⟩;have Y:C.Eqv (Ib X.prog X.w X.K c.H (FY c.H)):=⟨hP,hw,hK⟩
  have Gr:(Ib X.prog X.w X.K c.H (FY c.H)).Eqv C:=⟨hP.symm,hw.symm,hK.symm⟩
  have rd:=t.read;have B:∀(k1:Kd) (u:U),F (rs.map (·.2))=a5 (.ok (k1,u))->k1=.own\/k1=.loc->W (qb i j (a5 (k1,u))) c.st (cD C d ns D) ->
    eH (ko X.prog X.w) X.A (Nk (.ref fa) us) (λv s2=>eH (ko X.prog X.w) X.A (PySem.execs [] X.env) (λf s4=>f=Vp/\SP X pins D .next s4) EE s2) EE s1:=λk1 u l OT q=>by
   have⟨k0,k2⟩:=hk _ _ _ l;rw[show qb i j (a5 (k1,u))=pure .nx from rfl,aj]at q;have Fz:spT X.prog X.w X.K F np vs c.H (λv H'=>D.nx d.σ H') E0:=⟨by rw[<-rd.len];show k2,rs.map (·.2),.ok (k1,u),FY c.H,l,λ_ z=>z,rd.cg Y,k0,λv H' S' hb=>hb.here (Q:=λv H'=>D.nx d.σ H') OT t.hσ t.ok t.nx Gr λc2 v2 e3 e4 Fd n2 r2=>by
    have z:D.nx c2.σ c2.H:=q c2 e4 Fd n2 (Kept.of e3);rw[e3]at z;show z⟩
   show vz (jt (EE:=EE) G hr hb a rv Fz λ_ _ ⟨_,_,_,_,_,_,z⟩=>z.elim) (λv s2 ⟨v',H2,I2,r2,q2⟩=>?_) λ_ _ z=>z;rw[t.hσ]at I2;show Mq ⟨rfl,_,H2,I2,q2⟩
  rw[ah]at w;have⟨r,st',g,q⟩:=w;unfold eD at g;rw[hF]at g;split at g
  .rename_i u l;cases g;show B _ u l (.inl rfl) q
  .rename_i u l;cases g;show B _ u l (.inr rfl) q
  .rename_i c' l;split at g
   case isFalse=>cases g
   rename_i OU;subst OU;cases g;have Fz:spT X.prog X.w X.K F np vs c.H (λ_ _=>False) (λv _ H'=>v=.ref Cc/\kR c.H H'):=⟨by rw[<-rd.len];show Fv _ _ l,rs.map (·.2),.exc _,FY c.H,l,λ_ z=>z,rd.cg Y,λC1 H1 p J=>by rw[MP]at p;cases p;show⟨rfl,J⟩⟩
   show vz (jt (EE:=EE) G hr hb a rv Fz λv s' ⟨ea,C1,T,H',e3,F',e4,e5⟩=>?_) (λv s2 ⟨_,_,_,_,z⟩=>z.elim) λ_ _ z=>z;cases e4;show⟨c,s1,ea,T,H',e3,t.hσ,t.ok,t.nx,by rw[<-t.hσ];show a,F',e5,q⟩
  .cases g
 .have⟨rfl,z⟩:=z;show Mq z
 .have⟨c,s0,ea,T,H',rfl,hσ,E9,n0,a,F1,hs,w⟩:=z;have GA:s0.heap.FunFrames X.base (X.env::X.outer):=by rw[<-O.1];show a.stack
  have Hg:∀b∈Ff (X.env::X.outer),c.H b=b6:=by rw[<-O.1];show a.gA
  have hA:X.A.frames=a5 (X.env::X.outer):=by rw[<-O.1];show a.ok.frames
  rw[O.1]at F1;show F1.note hA O.2 GA Hg λT2 s2 F2=>F2.land GA Hg λT3 s3 F3=>?_;have ac:∀{T:Option gs} {L:d6} {s':fx},br X.prog X.w (X.env::X.outer) c.H s0 ea Cc T L H' s'->Inv X pins d.σ H' s':=λ{T L s'} F=>a.uz (ch:=[]) F.os (by rw[O.1];show F.un) F.EN F.bare λb z=>nomatch z
  have KP:ea≠X.env.locals/\ea∉X.fs:=by
   obtain⟨m,⟨o,_,_,ho,_⟩,_⟩:=a.loc;show⟨λz=>?_,λz=>?_⟩
   .rw[<-z,F1.new]at ho;cases ho
   .obtain⟨_,o,q,_⟩:=GA.mem (JC.mpr (by
     have⟨env,p,J⟩:=JC.mp z;show⟨env,ek _ p,J⟩))
    rw[F1.new]at q;cases q
  have GB:∀{T:Option gs} {L:d6} {s':fx} (E:d6->fx->Prop),br X.prog X.w (X.env::X.outer) c.H s0 ea Cc T L H' s'->∃oe,s'.heap.get? ea=a5 oe/\oe.cls=.ref Cc/\Inv (X.GB ea oe E) pins d.σ H' s':=λ{T L s'} E F=>by
   obtain⟨a0,oe,vs,p,J,h3,_⟩:=F.exc;show⟨oe,p,J,(ac F).GB p F.he KP.1 KP.2 λv z=>by rw[h3]at z;cases z⟩
  show Xa (WG ?_) λz=>nomatch z
  have⟨SQ,g1,g2,I3⟩:=GB (Q2 (ko X.prog X.w) (X.A.mark (a5 (.ref ea))) X.env λx s'=>cameBackBy (ko X.prog X.w) X.A X.env X.xe x s') F3;show cv I3 OP OQ ?_ OR;have LT:Wc (ko X.prog X.w) s3.heap (U7 (.ref ea)) (.ref Cc):=by
   show(VF g1).andThen ?_;rw[g2];show .now
  show(exm_one I3.G0 LT ab).here (VN ?_);show F3.land GA Hg λT4 s4 F4=>?_;have⟨HE,g3,g4,I4⟩:=GB (λ_ _=>False) F4;show eM (X:=X.GB ea HE λ_ _=>False) I4 hN hj (.inl hn) (v:=.ref ea) rfl (λs5 I5=>?_) (.inr hn);have pi:PE (X.GB ea HE λ_ _=>False) (.Call (.Name "isinstance" p8) [.Name n p9,.Name cl LV] [] Ja) (λσ H Q=>σ[j]?=a5 (a5 (.ref ea))/\Q (.bl b7) H):=by
   rintro pins s σ H Q I ⟨p,J⟩;show Es (dk I SN SO (show Iw "isinstance"=a5 (.builtin "isinstance") by decide +kernel) ?_ (by decide +kernel) (by decide +kernel));show Li (ER (bY (X:=X.GB ea HE λ_ _=>False) (fQ hj (.inl hn) E2 J_) (bY (te:=λσ H Q=>Q (.ref Cc) H) (λpins s σ H Q I h=>cv I SH SJ ⟨.ref Cc,H,I,rfl,h⟩ SM) eO) rfl Ja pins s σ H (λvs H'=>vs=[.ref ea,.ref Cc]/\Q (.bl b7) H') I ⟨_,p,rfl,J⟩) λus s1 ⟨vs,H1,a,r1,g,q1⟩=>?_) rfl rfl;subst g;have⟨u1,u2,rfl,LM,LN⟩:=vals2 r1;cases LM;cases LN;show A0 (a.pin (ea,HE) gw).1 g4 ⟨.bl b7,H1,a,rfl,q1⟩
  have pt:=pv (X:=X.GB ea HE λ_ _=>False) (pos:=LW) (pos':=p6) hN hi hy pi rfl (.inl OO);show vz ((gC pt jo) pins s5 _ H' {nx:=λσ H=>σ=(d.σ.set j (a5 (.ref ea))).set i (a5 (.bl b7))/\H=H',rt:=λ_ _=>False} I5 ?_) (λL s6 z=>?_) λ_ _ z=>z.elim
  .show⟨nc (by rw[I.len];show(hQ.mp hj).1),rfl,rfl⟩
  .cases L with
   |next =>
    obtain⟨_,_,I6,rfl,rfl⟩:=z;show Inv.gone (I6.C4 I.ok) hN hj hn λs7 I7=>⟨_,_,I7,tX Fx ok E9 n0 hσ (by rw[hσ];show Ha) hs _ w⟩
   |ret v=>obtain⟨_,_,_,_,_,z⟩:=z;show z.elim
   |_=>obtain⟨_,_,_,z⟩:=z;show z.elim
end
end TM
namespace L2
open PySem PyProof.Rows PySem.W
section
abbrev DA(K:Xm)(i:Nat)(cl:Str)(b:Bool):TE:=λσ H Q=>∃(ea:gs) (oe:Obj) (u:HO) (Cc:gs),σ[i]?=a5 (a5 (.ref ea))/\H ea=a5 (.F9 oe u)/\oe.cls=.ref Cc/\Yj K mA cl=a5 (a5 (.ref Cc))/\Q (.bl b) H
def v5(c:X.N[i]?=a5 n)(d:Ih X.env.scope n)(f:(n==("__debug__":Str))=cb)(g:(n==("__classdict__":Str))=cb)(h:Gl X "isinstance")(j:X.mg "isinstance"=b6)(k:PE X (.Name D p2) (tC vD))(l:∀u,RelV vD u->u=m)
  (o:∀Cc,Yj X.K mA cl=a5 (a5 (.ref Cc))->eC X.K Cc=b7/\kitOne X.K (.ref Cc) m=a5 b):PE X (.Call (.Name "isinstance" p) [.Name n p1,.Name D p2] [] p3) (DA X.K i cl b):=by
 rintro pins s σ H Q I ⟨ea,oe,u,Cc,r,t,v,w,q⟩;show Es (dk I h j (show Iw "isinstance"=a5 (.builtin "isinstance") by decide +kernel) ?_ (by decide +kernel) (by decide +kernel));show Li (ER (bY (fQ c d f g) (bY k eO) rfl p3 pins s σ H (λvs H'=>vs=[.ref ea,vD]/\H'=H) I ⟨.ref ea,r,rfl,rfl⟩) λus s1 x=>?_);have⟨vs,J,a,y,e,A⟩:=x;subst e A;have⟨L,O,rfl,B,C⟩:=vals2 y;obtain rfl:=l _ C;cases B;have⟨k1,k2⟩:=o Cc w;show kia_one (vv k1) a.G0 ⟨oe,(a.EN ea _ t).1,v⟩ k2 (λz=>nomatch z) λG=>?_;show⟨.bl b,_,a.tok G,rfl,q⟩
abbrev v7(K:Xm)(i:Nat)(cl:Str):List Bool->TA
 |[]=>CL
 |b::bs=>zx (DA K i cl b) (v7 K i cl bs)
theorem oO{K:Xm}(a:σ[i]?=a5 (a5 (.ref ea)))(b:H ea=a5 (.F9 oe u))(c:oe.cls=.ref Cc)(d:Yj K mA cl=a5 (a5 (.ref Cc))):∀(bs:List Bool) (Q:List V->Hp->Prop),Q (bs.map .bl) H->v7 K i cl bs σ H Q
 |[],_,q=>q
 |_::bs,_,q=>⟨ea,oe,u,Cc,a,b,c,d,oO a b c d bs _ q⟩
end
abbrev OW(K:Xm)(cl:Str)(bs:List Bool):Sp:=λvs H Q _=>∃(ea:gs) (oe:Obj) (u:HO) (Cc:gs),vs=[.ref ea]/\H ea=a5 (.F9 oe u)/\oe.cls=.ref Cc/\Yj K mA cl=a5 (a5 (.ref Cc))/\∀p,H p=b6->Q (.ref p) (upd H p (.lst (bs.map .bl)))
abbrev SR(K:Xm)(i:Nat)(cl:Str)(bs:List Bool):TE:=λσ H Q=>∃(ea:gs) (oe:Obj) (u:HO) (Cc:gs),σ[i]?=a5 (a5 (.ref ea))/\H ea=a5 (.F9 oe u)/\oe.cls=.ref Cc/\Yj K mA cl=a5 (a5 (.ref Cc))/\∀p,H p=b6->Q (.ref p) (upd H p (.lst (bs.map .bl)))
def v8(b:X.N[i]?=a5 n)(c:Ih X.env.scope n)(d:(n==("__debug__":Str))=cb)(f:(n==("__classdict__":Str))=cb)(G:oJ X.prog X.w X.K X.mg X.base (HA X.prog X.w) h fa j k (OW X.K cl bs))(l:ja h X.A)
  (m:Gl X g) (o:X.mg g=a5 (.ref fa)) (r:PySem.W.keepIn X.K (.ref fa)=b7) (t:Binds X.K j k []) (v:(g==("__debug__":Str))=cb):PE X (.Call (.Name g p) [.Name n p1] [] p3) (SR X.K i cl bs):=by
 rintro pins s σ H Q I ⟨ea,oe,u,Cc,x,y,B,C,q⟩;show Es (cv I m o ?_ v);show PySem.W.callWith_K (h₀:=X.base) I.ok.mod.IA r (ER (bY (fQ b c d f) eO rfl p3 pins s σ H (λvs H'=>vs=[.ref ea]/\H'=H) I ⟨.ref ea,x,rfl,rfl⟩) λus s1 ⟨vs,L,a,D,e,J⟩=>⟨a.G0,?_⟩) rfl rfl;subst e J;show yk (E:=λ_ _ _=>False) G l t a D ⟨ea,oe,u,Cc,rfl,y,B,C,q⟩ λ_ _ ⟨_,_,_,_,_,_,z⟩=>z.elim
end L2
namespace TM
open PySem L2 PyProof.Rows PySem.W
section
theorem rS{S:gs->Prop}:∀bs:List Bool,ao C S H (bs.map .bl) (bs.map V.bl)
 |[]=>rfl
 |_::bs=>⟨_,_,rfl,rfl,rS bs⟩
def tY(s:∀m,ns m=b7->m≠k/\m≠j)(A:Ok C b)(ok:Ok C c)(n:Nx b c)(d:c.σ=b.σ)(B:k<c.σ.length)(hs:kR c.H H')(t:H' ea=b6)(f:upd H' ea g p=b6)(v:V)
  (w:W (m4 i j k bs b6) c.st (cD C b ns D)):D.nx (((b.σ.set j (a5 v)).set k (a5 (.ref p))).set j b6) (upd (upd H' ea g) p (.lst (bs.map V.bl))):=by
 have⟨r,st',e,q⟩:=w;unfold m4 at e
 dsimp only at e
 split at e
 .rename_i G;split at e
  case isFalse=>cases e
  rename_i I;have J:c.H ea=b6:=by
   cases z:c.H ea with
   |none=>rfl
   |some o=>rw[hs ea o z]at t;cases t
  have⟨L,N⟩:=ok.kill G;have⟨u,O⟩:=L.grow (H':=upd H' ea g) (S':=c.S) (λa o z=>by rw[aw (aS z J)];show hs a o z) (λa z=>.inl z) λa z=>z;have⟨z0,Q,z2,z3,T⟩:=u.mZ f;have⟨Y,n3⟩:=u.grow (H':=upd (upd H' ea g) p (.lst (bs.map V.bl))) (S':=c.S) (λa o z=>by rw[aw (aS z f)];show z) (λa z=>.inl z) λa z=>z;have x:=(n.trans N).trans O;have⟨h,l,e2,Fb,n',w'⟩:=jv (r:=(.own,.lst (bs.map .bl))) (v:=.ref p) (i:=k) A Y (x.trans n3) (by simpa using B)
   ⟨p,rfl,x.none f,Q,T,⟨bs.map V.bl,aH,rS bs⟩⟩ (Post:=λ_ J9=>cD C b ns D .nx J9) (by
    have z:W (cO k (.own,.lst (bs.map .bl)) >>= λ_=>(pure .nx:M Fl)) c.st (cD C b ns D):=⟨r,st',e,q⟩
    rw[ah]at z;show z.mono λ_ st z=>aj.mp z)
  have es:(((b.σ.set j (a5 v)).set k (a5 (.ref p))).set j b6)=(b.σ.set j b6).set k (a5 (.ref p)):=by
   rw[Xq _ _ I,XG]
  have z:D.nx h.σ h.H:=w' h rfl Fb n' ⟨λm y=>by
   rw[l];change((c.σ.set j b6).set k _)[m]?=_;rw[mu (HX (s m y).1),mu (HX (s m y).2),d],by rw[l];simp[d]⟩
  rw[l,e2]at z;rw[es,<-d];show z
 .cases e
def DB
  (Fx:∀m,ns m=b7->m≠i/\m≠k/\m≠j) (hN:X.N.Nodup) (hi:X.N[i]?=a5 y) (hy:Loc X.env.scope y) (OO:X.fn y=b7) (hj:X.N[j]?=a5 n) (hn:X.env.scope.names.lookup n=a5 .local) (Ql:X.N[k]?=a5 z) (hz:Loc X.env.scope z) (SU:X.fn z=b7)
  (hP:C.P=X.prog) (hw:C.w=X.w) (hK:C.K=X.K) (hF:Γ f=F) (hk:∀us k u,F us=a5 (.ok (k,u))->(k=.own\/k=.loc\/k=.any)/\us.length=np) (Fv:∀us c,F us=a5 (.exc c)->us.length=np)
  (G:gD X.prog X.w X.K X.mg X.base (HA X.prog X.w) kd fa fd ps (spT X.prog X.w X.K F np)) (hr:dn kd X.A) (hg:Gl X f) (hm:X.mg f=a5 (.ref fa)) (IY:PySem.W.keepIn X.K (.ref fa)=b7) (hb:Binds X.K fd ps []) (Gm:(f==("__debug__":Str))=cb)
  (ha:PA X.GD (e::es) (FO C ms)) (he:mx (e::es) X.env=(cb,Ka e X.env)::mx es X.env) (FJ:(Kc p3 (mx es X.env)).any (·.1)=cb)
  (Y:X.stack=X.env::X.outer/\X.env.frame=a5 X.env.locals) (hx:X.ex=[]) (OP:Gl X x) (OQ:X.mg x=a5 (.ref Dc)) (OR:(x==("__debug__":Str))=cb) (MP:Yj X.K mA cl=a5 (a5 (.ref Cc))) (ac:exmOne X.K (.ref Cc) (.ref Dc)=a5 b7)
  (GN:oJ X.prog X.w X.K X.mg X.base (HA X.prog X.w) 1 ga gd qs (OW X.K cl bs)) (SV:Gl X g) (JI:X.mg g=a5 (.ref ga)) (SX:PySem.W.keepIn X.K (.ref ga)=b7) (SY:Binds X.K gd qs []) (S3:(g==("__debug__":Str))=cb)
  (E2:(n==("__debug__":Str))=cb) (J_:(n==("__classdict__":Str))=cb) :
  L2.PS X (.Try [.Assign [.Name y p1] (.Call (.Name f p2) (e::es) [] p3) p4] [.ExceptHandler (a5 (.Name x p5)) (a5 n) [.Assign [.Name z p6] (.Call (.Name g p8) [.Name n p9] [] Ja) LW] OS] [] [] pos)
   (Fs C ns (ms >>= λrs=>au rs >>= λ_=>eD Γ f (rs.map (·.2)) cl >>= m4 i j k bs)):=by
 rintro pins s σ H D' I ⟨d,rfl,rfl,ok,h⟩;have Ha:i<d.σ.length:=by rw[I.len];show(hQ.mp hi).1
 have S4:k<d.σ.length:=by rw[I.len];show(hQ.mp Ql).1
 let EE:d6->fx->Prop:=λv s'=>∃(c:Cf) (s1:fx) (ea T:gs) (H':Hp),v=.ref ea/\c.σ=d.σ/\Ok C c/\Nx d c/\Inv X pins d.σ c.H s1/\br X.prog X.w X.stack c.H s1 ea Cc (a5 T) .none H' s'/\kR c.H H'/\W (m4 i j k bs b6) c.st (cD C d ns D');show XI (vz (Q:=λf s1=>f=Vp/\SP X pins D' .next s1) (E:=EE) ?_ (λf s1 z=>?_) λv s1 z=>?_)
 .show U5 (Xx (Es (cv I hg hm ?_ Gm)) rfl);show PySem.W.callWith_K (h₀:=X.base) I.ok.mod.IA IY (vz (args (X:=X.GD) ha (I.ji _) ok h p3) (λus s1 z=>?_) λ_ _ z=>z.elim) he FJ;have⟨rs,c,vs,t,a,rv,w⟩:=z;have a:=a.eN;show⟨a.G0,?_⟩;have ab:C.Eqv (Ib X.prog X.w X.K c.H (FY c.H)):=⟨hP,hw,hK⟩
  have Gr:(Ib X.prog X.w X.K c.H (FY c.H)).Eqv C:=⟨hP.symm,hw.symm,hK.symm⟩
  have rd:=t.read;have D:∀(k1:Kd) (u:U),F (rs.map (·.2))=a5 (.ok (k1,u))->k1=.own\/k1=.loc->W (m4 i j k bs (a5 (k1,u))) c.st (cD C d ns D') ->
    eH (ko X.prog X.w) X.A (Nk (.ref fa) us) (λv s2=>eH (ko X.prog X.w) X.A (XM X.env y v) (λ_ s3=>eH (ko X.prog X.w) X.A (PySem.execs [] X.env) (λf s4=>f=Vp/\SP X pins D' .next s4) EE s3) EE s2) EE s1:=λk1 u l OT q=>by
   have⟨k0,k2⟩:=hk _ _ _ l;have Fz:spT X.prog X.w X.K F np vs c.H (λv H'=>D'.nx (d.σ.set i (a5 v)) H') E0:=⟨by rw[<-rd.len];show k2,rs.map (·.2),.ok (k1,u),FY c.H,l,λ_ z=>z,rd.cg ab,k0,λv H' S' hb=>hb.here (Q:=λv H'=>D'.nx (d.σ.set i (a5 v)) H') OT t.hσ t.ok t.nx Gr λc2 v2 e3 e4 Fd n2 r2=>j9 (λm z=>(Fx m z).1) ok ⟨e3,Fd,n2,r2⟩ (by rw[e3];show Ha) (e4▸q)⟩
   show vz (jt (EE:=EE) G hr hb a rv Fz λ_ _ ⟨_,_,_,_,_,_,z⟩=>z.elim) (λv s2 ⟨v',H2,I2,r2,q2⟩=>?_) λ_ _ z=>z;rw[t.hσ]at I2;show eM I2 hN hi hy r2 (λs3 I3=>Mq ⟨rfl,_,H2,I3,q2⟩) (.inl OO)
  rw[ah]at w;have⟨r,st',B,q⟩:=w;unfold eD at B;rw[hF]at B;split at B
  .rename_i u l;cases B;show D _ u l (.inl rfl) q
  .rename_i u l;cases B;show D _ u l (.inr rfl) q
  .rename_i c' l;split at B
   case isFalse=>cases B
   rename_i OU;subst OU;cases B;have Fz:spT X.prog X.w X.K F np vs c.H (λ_ _=>False) (λv _ H'=>v=.ref Cc/\kR c.H H'):=⟨by rw[<-rd.len];show Fv _ _ l,rs.map (·.2),.exc _,FY c.H,l,λ_ z=>z,rd.cg ab,λC1 H1 J h2=>by rw[MP]at J;cases J;show⟨rfl,h2⟩⟩
   show vz (jt (EE:=EE) G hr hb a rv Fz λv s' ⟨ea,C1,T,H',e3,F',e4,e5⟩=>?_) (λv s2 ⟨_,_,_,_,z⟩=>z.elim) λ_ _ z=>z;cases e4;show⟨c,s1,ea,T,H',e3,t.hσ,t.ok,t.nx,by rw[<-t.hσ];show a,F',e5,q⟩
  .cases B
 .have⟨rfl,z⟩:=z;show Mq z
 .have⟨c,s0,ea,T,H',rfl,hσ,E9,n0,a,F1,hs,w⟩:=z;have GA:s0.heap.FunFrames X.base (X.env::X.outer):=by rw[<-Y.1];show a.stack
  have Hg:∀b∈Ff (X.env::X.outer),c.H b=b6:=by rw[<-Y.1];show a.gA
  have hA:X.A.frames=a5 (X.env::X.outer):=by rw[<-Y.1];show a.ok.frames
  rw[Y.1]at F1;show F1.note hA Y.2 GA Hg λT2 s2 F2=>F2.land GA Hg λT3 s3 F3=>?_;have ag:∀{T:Option gs} {L:d6} {s':fx},br X.prog X.w (X.env::X.outer) c.H s0 ea Cc T L H' s'->Inv X pins d.σ H' s':=λ{T L s'} F=>a.uz (ch:=[]) F.os (by rw[Y.1];show F.un) F.EN F.bare λb z=>nomatch z
  have KP:ea≠X.env.locals/\ea∉X.fs:=by
   obtain⟨m,⟨o,_,_,ho,_⟩,_⟩:=a.loc;show⟨λz=>?_,λz=>?_⟩
   .rw[<-z,F1.new]at ho;cases ho
   .obtain⟨_,o,q,_⟩:=GA.mem (JC.mpr (by
     have⟨env,J,h2⟩:=JC.mp z;show⟨env,ek _ J,h2⟩))
    rw[F1.new]at q;cases q
  have GB:∀{T:Option gs} {L:d6} {s':fx} (E:d6->fx->Prop),br X.prog X.w (X.env::X.outer) c.H s0 ea Cc T L H' s'->∃oe,s'.heap.get? ea=a5 oe/\oe.cls=.ref Cc/\Inv (X.GB ea oe E) pins d.σ H' s':=λ{T L s'} E F=>by
   obtain⟨a0,oe,vs,J,h2,h3,_⟩:=F.exc;show⟨oe,J,h2,(ag F).GB J F.he KP.1 KP.2 λv z=>by rw[h3]at z;cases z⟩
  show Xa (WG ?_) λz=>nomatch z
  have⟨SQ,g1,g2,I3⟩:=GB (Q2 (ko X.prog X.w) (X.A.mark (a5 (.ref ea))) X.env λx s'=>cameBackBy (ko X.prog X.w) X.A X.env X.xe x s') F3;show cv I3 OP OQ ?_ OR;have LT:Wc (ko X.prog X.w) s3.heap (U7 (.ref ea)) (.ref Cc):=by
   show(VF g1).andThen ?_;rw[g2];show .now
  show(exm_one I3.G0 LT ac).here (VN ?_);show F3.land GA Hg λT4 s4 F4=>?_;have⟨HE,g3,g4,I4⟩:=GB (λ_ _=>False) F4;show eM (X:=X.GB ea HE λ_ _=>False) I4 hN hj (.inl hn) (v:=.ref ea) rfl (λs5 I5=>?_) (.inr hn);have g5:=(I5.pin (ea,HE) gw).1;have O:∀b o,s0.heap.get? b=a5 o->b≠ea:=λb o q z=>by rw[z,F1.new]at q;cases q
  have S6:Inv X pins (d.σ.set j (a5 (.ref ea))) (upd H' ea (.F9 HE (.ext λ_=>True))) s5:=(I5.C4 I.ok).C5 g5 F4.he (by
    cases q:X.s₀.heap.get? ea with
    |none=>rfl
    |some o =>
     have⟨o',q'⟩:=a.base.there ea o q (by rw[hx];show λz=>nomatch z);show absurd rfl (O ea o' q')) KP.1 (λx c q=>by
    obtain⟨v,o,q,_⟩:=a.cell x c q;show O c o q) (λp hp=>O p.1 p.2 (a.pin p hp).1)
  have pt:=pv (X:=X.E2 ea) (pos:=LW) (pos':=p6) hN Ql hz (v8 (X:=X.E2 ea) (p:=p8) (p1:=p9) (p3:=Ja) hj (.inl hn) E2 J_ GN (hr.toN _) SV JI SX SY S3) rfl (.inl SU);show vz ((gC pt jo) pins s5 _ _ {nx:=λσ H=>∃p,upd H' ea (.F9 HE (.ext λ_=>True)) p=b6/\σ=(d.σ.set j (a5 (.ref ea))).set k (a5 (.ref p))/\H=upd (upd H' ea (.F9 HE (.ext λ_=>True))) p (.lst (bs.map .bl)),rt:=λ_ _=>False} S6.E2 ?_) (λL s6 z=>?_) λ_ _ z=>z.elim
  .show⟨ea,HE,_,Cc,nc (by rw[I.len];show(hQ.mp hj).1),aH,g4,MP,λp hp=>⟨p,hp,rfl,rfl⟩⟩
  .cases L with
   |next =>
    obtain⟨_,_,I6,p,hp,rfl,rfl⟩:=z;show Inv.gone (X:=X.E2 ea) I6 hN hj hn λs7 I7=>⟨_,_,I7.Ey I.ok,tY (λm z=>(Fx m z).2) ok E9 n0 hσ (by rw[hσ];show S4) hs F4.he hp _ w⟩
   |ret v=>obtain⟨_,_,_,_,_,z⟩:=z;show z.elim
   |_=>obtain⟨_,_,_,z⟩:=z;show z.elim
end
end TM
namespace TM
open PySem L2 PyProof.Rows
@[reducible]noncomputable def Ie(P:vu)(w:DD)(K:PySem.W.Frag)(H:Hp)(a IO:gs->Prop):Ct:=⟨P,w,K,H,a,IO,λ_ _=>False⟩
structure zO(C:Ct)(H H':Hp)(S':gs->Prop)(is:List Nat)(vs:List V)(ws:List U)(k:Kd)(u:U)(v:V):Prop where
 same:∀a o,H a=a5 o->¬C.IO a->H' a=a5 o
 new:∀a,S' a->H a=b6/\∃o,H' a=a5 o
 own:k=.own->∃r,v=.ref r/\H r=b6/\¬S' r/\cB C S' H' r u
 loc:k=.loc->Rep C S' H' u v
 len:ws.length=is.length
 Gu:∀(n i:Nat) (r:gs) (w:U),is[n]?=a5 i->vs[i]?=a5 (.ref r)->ws[n]?=a5 w->cB C S' H' r w
structure BB(C:Ct)(H:Hp)(is:List Nat)(us:List U)(vs:List V):Prop where
 len:us.length=vs.length
 par:∀a,C.Hj a->FY H a/\¬C.IO a
 Qm:∀a,C.IO a->FY H a
 io:∀(i:Nat) (u:U),i∈is->us[i]?=a5 u->∃r,vs[i]?=a5 (.ref r)/\C.IO r/\cB C (λ_=>False) H r u
 any:∀(i:Nat) (u:U),i∉is->us[i]?=a5 u->∃v,vs[i]?=a5 v/\Rep C C.Hj H u v
 inj:∀(i j:Nat) (r:gs),i∈is->j∈is->vs[i]?=a5 (.ref r)->vs[j]?=a5 (.ref r)->i=j
 Gu:∀a,C.IO a->∃i∈is,vs[i]?=a5 (.ref a)
abbrev MQ(P:vu)(w:DD)(K:PySem.W.Frag)(F:List U->Option (Ex (Kd×U)))(b:Nat)(is:List Nat):Sp:=λvs H Q _=>vs.length=b/\∃us k u ws a IO,F us=a5 (.ok (k,.tup (u::ws)))/\(k=.own\/k=.loc)/\BB (Ie P w K H a IO) H is us vs /\
 ∀v H' S',zO (Ie P w K H a IO) H H' S' is vs ws k u v->Q v H'
theorem map_inj:∀{l:List α},(l.map f).Nodup->∀x∈l,∀y∈l,f x=f y->x=y
 |[],_,_,h,_,_,_=>by cases h
 |a::l,h,x,g,y,c,e=>by
  rw[l3,Hc]at h;rcases fz.mp g with d|h1
  .rcases fz.mp c with b|h2
   .rw[d,b]
   .show absurd (mh.mpr ⟨y,h2,by rw[<-e,d]⟩) h.1
  .rcases fz.mp c with b|h2
   .show absurd (mh.mpr ⟨x,h1,by rw[e,b]⟩) h.1
   .show map_inj h.2 x h1 y h2 e
section
def tZ(h:j4 rs p=a5 j):∃us,rs[p]?=a5 (.bor j,.lst us)/\eW us=b7:=by
 unfold j4 at h;split at h
 .split at h
  .cases h;show⟨_,by assumption,by assumption⟩
  .cases h
 .cases h
def GQ.Qn(t:GQ C d c rs vs){i:Nat}(h:rs[i]?=a5 r):∃v,vs[i]?=a5 v/\aJ C d c r.1 r.2 v:=by
 have f:∀(l:List (Kd×U)) (w:List V),cm C d c l w->aY l c.st->∀(i:Nat) (r:Kd×U),l[i]?=a5 r->∃v,w[i]?=a5 v/\aJ C d c r.1 r.2 v:=by
  intro l;induction l with
  |nil=>intro w _ _ i r e;simp at e
  |cons x l g =>
   intro w h hs i r e;obtain⟨v,t',rfl,j,k,_⟩:=h;rw[cG]at hs;cases i with
   |zero=>simp at e;subst e;show⟨v,rfl,j.t hs.1⟩
   |succ i=>have⟨m,a,b⟩:=g t' k hs.2 i r (by simpa using e);show⟨m,by simpa using a,b⟩
 show f rs vs t.rep t.J4 i r h
def GQ.len(t:GQ C a c rs vs):rs.length=vs.length:=by
 have:=t.read.len;rw[eh]at this;show this
theorem rT(q:C'.Eqv C){vs:List V}(hs:∀a,S' a->S1 a){IO:gs->Prop}(O:∀a,S' a->¬IO a)(A:∀a o,IO a->H' a=a5 o->¬Tp o):
  ∀(g:List Nat) (ws:List U) (c:Cf) (st':ar),Ok C c->Ns c1 c->c.S=S1->rC rs g ws c.st=a5 st'->(g.map (j4 rs)).Nodup->(∀p∈g,∀a,vs[p]?=a5 (.ref a)->IO a) ->
  (∀p∈g,∀j,j4 rs p=a5 j->∃k u r,k.root=b7/\c.st[j]?=a5 (a5 (k,u))/\c.σ[j]?=a5 (a5 (.ref r))/\vs[p]?=a5 (.ref r)) ->
  (∀(n p:Nat) (r:gs) (w:U),g[n]?=a5 p->vs[p]?=a5 (.ref r)->ws[n]?=a5 w->cB C' S' H' r w)->(∀a,(∀p∈g,vs[p]?≠a5 (.ref a))->c.H a=H' a)->(∀a,¬IO a->c.H a=H' a) ->
  ∃l:Cf,Ok C l/\Ns c1 l/\l.σ=c.σ/\l.S=S1/\l.st=st'/\l.H=H'/\l.kid=c.kid/\∀(j:Nat) (k:Kd) (u:U),l.st[j]?=a5 (a5 (k,u))->∃B,c.st[j]?=a5 (a5 (k,B))
 |[],ws,c,st',ok,n,y,e,_,_,_,_,D,_=>by
  cases ws with
  |nil=>cases e;show⟨c,ok,n,rfl,y,rfl,funext λa=>D a λp hp=>(by cases hp),rfl,λj k u e=>⟨u,e⟩⟩
  |cons _ _=>cases e
 |p::g,ws,c,st',ok,n,y,e,G,Q,T,rt,D,I=>by
  cases ws with
  |nil=>cases e
  |cons w ws =>
   simp only[rC]at e;split at e
   .rename_i j Y;split at e
    .rename_i us k0 TZ EO;have⟨k,u,r,hk,t,e2,J⟩:=T p (by simp) j Y;rw[EO]at t;cases t;have t:=EO;have hr:=rt 0 p r _ rfl J rfl;have⟨xs,g1,g2⟩:=hr;have L:IO r:=Q p (by simp) r J;rw[l3,Hc]at G;have⟨Fb,n'⟩:=ok.mod (H':=upd c.H r (.lst xs)) (u':=.lst us) n hk t e2 (λa ne=>aw ne) ⟨_,aH⟩ (λ_=>⟨xs,aH,by
      show(g2.cg q).mv ⟨λa z=>by rw[y];show hs a z,λa o h tp=>?_,λa o z h=>?_⟩
      .by_cases s:a=r
       .subst s;show absurd tp (A a o L h)
       .rw[aw s];by_cases x:IO a
        .show absurd tp (A a o x h)
        .rw[I a x];show h
      .have x:=O a z;have s:a≠r:=λe=>x (e▸L);rw[aw s,I a x];show h⟩)
     have Ha:j<c.st.length:=(hQ.mp t).1;have A1:∀f∈g,∀v,j4 rs f=a5 v->∃k u r,Kd.root k=b7/\(c.st.set j (a5 (k0,.lst us)))[v]?=a5 (a5 (k,u))/\c.σ[v]?=a5 (a5 (.ref r))/\vs[f]?=a5 (.ref r):=λf hp v Jk=>by
      have⟨k',u',N,a1,a2,a3,a4⟩:=T f (by simp[hp]) v Jk;have ne:j≠v:=λz=>G.1 (mh.mpr ⟨f,hp,by rw[Jk,Y,z]⟩);show⟨k',u',N,a1,by rw[mu ne];show a2,a3,a4⟩
     have A2:∀a,(∀f∈g,vs[f]?≠a5 (.ref a))->upd c.H r (.lst xs) a=H' a:=λa s=>by
      by_cases h:a=r
      .subst h;rw[aH,g1]
      .rw[aw h];show D a λf hp z=>?_;rcases fz.mp hp with rfl|hp
       .rw[J]at z;cases z;show h rfl
       .show s f hp z
     have A3:∀a,¬IO a->upd c.H r (.lst xs) a=H' a:=λa s=>by
      have ne:a≠r:=λz=>s (by rw[z];show L);rw[aw ne];show I a s
     have⟨l,f1,f2,f3,f4,f5,f6,f7,f8⟩:=rT q hs O A g ws {c with H:=upd c.H r (.lst xs),st:=c.st.set j (a5 (k0,.lst us))} st' Fb n' y e G.2 (λf hp=>Q f (by simp[hp])) A1 (λm f N w' a b d=>rt (m+1) f N w' (by simpa using a) b (by simpa using d)) A2 A3;show⟨l,f1,f2,f3,f4,f5,f6,f7,λi k' u' z=>?_⟩;have⟨B,z⟩:=f8 i k' u' z;by_cases hi:i=j
     .subst hi;have z:(c.st.set i (a5 (k0,.lst us)))[i]?=_:=z;rw[nc Ha]at z;cases z;show⟨_,t⟩
     .have z:(c.st.set j (a5 (k0,.lst us)))[i]?=_:=z;rw[mu (HX hi)]at z;show⟨B,z⟩
    .cases e
   .cases e
end
section
def yW(st:ar)(r:Kd×U):(yq st r).1=r.1:=by
 unfold yq;split<;>rfl
theorem cm.Qo{st:ar}:∀{rs:List (Kd×U)}{vs:List V},cm C d c rs vs->cm C d c (rs.map (yq st)) vs
 |[],_,h=>h
 |r::rs,vs,h=>by
  have⟨v,t,rfl,e,f,g⟩:=h;show⟨v,t,rfl,?_,cm.Qo f,λhk i n j a l b=>?_⟩
  .have⟨k,u⟩:=r;cases k<;>show e
  .rw[nt,et]at a;have⟨m,a,rfl⟩:=a;rw[yW]at hk b;show g hk i m j a l b
def yX(h:PA X es (FO C ms)):PA X es (FO C (ms >>= C7)):=by
 rintro pos pins s σ H Q I ⟨a,rfl,rfl,ok,w⟩;show h pos pins s a.σ a.H Q I ⟨a,rfl,rfl,ok,?_⟩;rw[ah]at w;show w.mono λrs st b c vs d f g n r=>?_;have⟨i,st',e,q⟩:=b;cases e;show q c vs d f g n r.Qo
def v9(h:K4 r=a5 (k,u,ws)):r=(k,.tup (u::ws))/\(k=.own\/k=.loc):=by
 unfold K4 at h;split at h
 .cases h;show⟨rfl,.inl rfl⟩
 .cases h;show⟨rfl,.inr rfl⟩
 .cases h
def v_(hP:C.P=X.prog)(hw:C.w=X.w)(hK:C.K=X.K)(hF:Γ f=F)(hk:∀us r,F us=a5 (.ok r)->us.length=np)
  (G:gD X.prog X.w X.K X.mg X.base JK k fa fd ps (MQ X.prog X.w X.K F np is)) (hr:dn k X.A) (hg:Gl X f) (hm:X.mg f=a5 (.ref fa)) (IY:PySem.W.keepIn X.K (.ref fa)=b7) (B:Binds X.K fd ps [])
  (Gm:(f==("__debug__":Str))=cb) (ha:PA X (e::es) (FO C ms)) (he:mx (e::es) X.env=(cb,Ka e X.env)::mx es X.env) (FJ:(Kc pos (mx es X.env)).any (·.1)=cb) :
  PE X (.Call (.Name f p) (e::es) [] pos) (ET C (ms >>= λrs=>au rs >>= λ_=>vG Γ f rs is)):=by
 rintro pins s σ H Q I ⟨c0,rfl,rfl,ok,h⟩;show Es (cv I hg hm ?_ Gm);show PySem.W.callWith_K (h₀:=X.base) I.ok.mod.IA IY (ER (args ha I ok h pos) λus s1 ⟨rs,c,vs,t,I1,rv,w⟩=>⟨I1.G0,?_⟩) he FJ;have⟨r,st',D,q⟩:=w;unfold vG at D;rw[hF]at D;split at D
 .rename_i r0 e2;split at D
  .rename_i kd u ws eu;split at D
   .rename_i FK;split at D
    .rename_i st2 O0;cases D;have⟨rfl,k1⟩:=v9 eu;have k2:=hk _ _ e2;unfold zJ at FK;simp only[b8,ri,Yq,Jb,ux]at FK;obtain⟨⟨h1,h2⟩,h3⟩:=FK;have Y:∀p∈is,∃j xs k r,j4 rs p=a5 j/\rs[p]?=a5 (.bor j,.lst xs)/\eW xs=b7/\Kd.root k=b7/\c.st[j]?=a5 (a5 (k,.lst xs))/\c.σ[j]?=a5 (a5 (.ref r))/\vs[p]?=a5 (.ref r)/\¬c.S r/\¬C.Hj r/\cB C c.S c.H r (.lst xs):=λp L=>by
      have⟨j,T⟩:=P9.mp (h1 p L);have⟨xs,a1,a2⟩:=tZ T;have⟨v,b1,l⟩:=t.Qn a1;obtain⟨r,rfl,d1,d2,_,N⟩:=t.ok.rootOf l.1 l.2;have⟨k,m,x⟩:=l.1;show⟨j,xs,k,r,T,a1,a2,m,x,l.2,b1,d1,d2,N⟩
     let IO:gs->Prop:=λa=>∃p∈is,vs[p]?=a5 (.ref a);have LY:∀a,IO a->c.R a/\¬c.S a/\¬C.Hj a/\FY c.H a:=λa Fu=>by
      have⟨p,L,e⟩:=Fu;obtain⟨j,xs,k,r,_,_,_,m,x,y,J,g5,g6,g7⟩:=Y p L;rw[e]at J;cases J;obtain⟨o,ho,_⟩:=g7.some;show⟨.inl ⟨j,k,_,m,x,y⟩,g5,g6,o,ho⟩
     let Pr:gs->Prop:=λa=>FY c.H a/\¬IO a;have ab:C.Eqv (Ie X.prog X.w X.K c.H Pr IO):=⟨hP,hw,hK⟩
     have Gr:(Ie X.prog X.w X.K c.H Pr IO).Eqv C:=⟨hP.symm,hw.symm,hK.symm⟩
     have sP:∀a,c.S a->Pr a:=λa z=>⟨t.ok.vA a z,λz'=>(LY a z').2.1 z⟩
     have gi:∀{i:Nat} {u:U},(rs.map (·.2))[i]?=a5 u->∃k,rs[i]?=a5 (k,u):=λ{i u} e=>by
      rw[nt,et]at e;obtain⟨⟨k,u'⟩,e,rfl⟩:=e;show⟨k,e⟩
     have ac:BB (Ie X.prog X.w X.K c.H Pr IO) c.H is (rs.map (·.2)) vs:=by
      show⟨by rw[eh];show t.len,λa z=>z,λa z=>(LY a z).2.2.2,λi u O e=>?_,λi u O e=>?_,λi j r O T e3 e4=>?_,λa z=>z⟩
      .obtain⟨j,xs,k,r,_,g0,gm,m,x,y,J,g5,g6,zs,g7,g8⟩:=Y i O;have⟨k',e⟩:=gi e;rw[g0]at e;cases e;show⟨r,J,⟨i,O,J⟩,zs,g7,(ao.Fc gm g8).cg ab⟩
      .have⟨k',e⟩:=gi e;have⟨v,b1,l⟩:=t.Qn e;show⟨v,b1,?_⟩;have Ha:i<rs.length:=(hQ.mp e).1;have Qp:=(h3 i Ha).resolve_left O;rw[PM,e]at Qp;show Rep.cg ab (u:=u) ?_;cases k' with
       |own =>
        obtain⟨r,rfl,_,d1,d2,N⟩:=l;obtain⟨o,ho,_⟩:=N.some;show N.rep sP ⟨⟨o,ho⟩,λz=>d2 (LY r z).1⟩
       |loc=>show Rep.mv (.up sP) l
       |any=>show Rep.mv (.up λa z=>z.elim (λz=>⟨t.ok.C6 a (.inl z),λz'=>(LY a z').2.2.1 z⟩) (sP a)) l
       |bor j =>
        obtain⟨r,rfl,d1,d2,_,N⟩:=t.ok.rootOf l.1 l.2;obtain⟨o,ho,_⟩:=N.some;show N.rep sP ⟨⟨o,ho⟩,λ⟨p',Qq,e'⟩=>?_⟩;obtain⟨j',xs,k2,r2,g,_,_,m,x,y,J,_⟩:=Y p' Qq;rw[e']at J;cases J;have⟨k3,z1,z2⟩:=l.1;have:=t.ok.inj j j' k3 k2 _ _ r z1 m z2 x l.2 y;subst this;have:a5 j∉is.map (j4 rs):=by simpa[zI] using Qp
        show this (mh.mpr ⟨p',Qq,g⟩)
       |_=>show l.elim
      .obtain⟨j1,_,k1,r1,a0,_,_,a1,a2,a3,a4,_⟩:=Y i O;obtain⟨j2,_,k2,r2,b0,_,_,b1,l,b3,b4,_⟩:=Y j T;rw[e3]at a4;cases a4;rw[e4]at b4;cases b4;have:=t.ok.inj j1 j2 k1 k2 _ _ r a1 b1 a2 l a3 b3;subst this;show map_inj h2 i O j T (by rw[a0,b0])
     have Fz:MQ X.prog X.w X.K F np is vs c.H (λv H'=>Q v H') E0:=⟨by rw[<-t.len,<-k2,eh],rs.map (·.2),kd,u,ws,Pr,IO,e2,k1,ac,λv H' S' B=>by
      classical
      let H1:Hp:=λa=>if IO a then c.H a else H' a
      have MR:∀a,¬IO a->H1 a=H' a:=λa z=>Yt z;have LX:∀a,S' a->¬IO a:=λa z z'=>by
       have⟨o,ho⟩:=(LY a z').2.2.2;rw[(B.new a z).1]at ho;cases ho
      have LZ:kR c.H H1:=λa o e=>by
       by_cases z:IO a
       .change(if IO a then _ else _)=_;rw[Yr z];show e
       .rw[MR a z];show B.same a o e z
      have⟨EX,n1⟩:=t.ok.grow (H':=H1) (S':=λa=>c.S a\/S' a) LZ (λa z=>z.imp id λz=>⟨(B.new a z).1,by rw[MR a (LX a z)];show(B.new a z).2⟩) λa=>.inl;have L0:∀(n i:Nat) (r:gs),is[n]?=a5 i->vs[i]?=a5 (.ref r)->∃w,ws[n]?=a5 w/\cB (Ie X.prog X.w X.K c.H Pr IO) S' H' r w:=λn i r a b=>by
       have hn:n<ws.length:=by rw[B.len];show(hQ.mp a).1
       show⟨_,z8 hn,B.Gu n i r _ a b (z8 hn)⟩
      have⟨cf,f1,f2,f3,f4,f5,f6,f7,f8⟩:=rT (C:=C) Gr (rs:=rs) (vs:=vs) (H':=H') (S':=S') (S1:=λa=>c.S a\/S' a) (λa=>.inr) (IO:=IO) LX (λa o ⟨i,O,z⟩ e=>by
        have⟨n,hn⟩:=List.getElem?_of_mem O;obtain⟨w,_,g⟩:=L0 n i a hn z;have⟨o',m,x⟩:=g.some;rw[e]at m;cases m;show x) is ws {c with H:=H1,S:=λa=>c.S a\/S' a} st' EX n1.toNs rfl O0 h2 (λp L a z=>⟨p,L,z⟩) (λp L j T=>by
        obtain⟨j',xs,k,r,g0,_,_,m,x,y,J,_⟩:=Y p L;rw[T]at g0;cases g0;show⟨k,_,r,m,x,y,J⟩) (λn i r w a b d=>B.Gu n i r w a b d) (λa ha=>MR a λ⟨p,L,z⟩=>ha p L z) MR
      subst f6;have S7:∀a,cf.R a->c.R a:=λa z=>by
       rcases z with⟨j,k,u,m,x,y⟩|⟨j,u,r,m,x,y⟩
       .have⟨u0,g⟩:=f8 j k u x;rw[f3]at y;show .inl ⟨j,k,u0,m,g,y⟩
       .have⟨u0,g⟩:=f8 j .ES u m;rw[f3]at x;rw[f7]at y;show .inr ⟨j,u0,r,g,x,y⟩
      show q cf v (f3.trans t.hσ) f5 f1 ⟨t.nx.toNs.trans f2⟩ ?_;rcases k1 with rfl|rfl
      .have⟨r,rfl,d1,d2,N⟩:=B.own rfl;obtain⟨_,z1,_,_,z4⟩:=t.ok.mZ d1;show⟨r,rfl,t.nx.none d1,by rw[f4];show λz=>z.elim z1 d2,λz=>z4 (S7 r z),(N.cg Gr).mv (.up λa z=>by rw[f4];show .inr z) λo q=>q⟩
      .show((B.loc rfl).cg Gr).mv (.up λa z=>by rw[f4];show .inr z)⟩
     have z:=uK (Q:=Q) G hr B .nil CT I1 rv (by rw[w6];show Fz);rw[t.hσ]at z;show z
    .cases D
   .cases D
  .cases D
 .cases D
end
structure Ck where
 fns:List Str
 gl:List (Str×U)
 Gu:List (Str×List Nat)
 xc:List Str
 xd:List (Str×Str)
 xi:List (Str×Str×Bool)
 xe:List (Str×Str)
 xk:List (Str×List Str)
abbrev nh:U->U->Bool
 |.int i,.int j=>c4 (i=j)
 |.str x,.str y=>c4 (x=y)
 |.bl a,.bl b=>a==b
 |.EU,.EU=>b7
 |_,_=>cb
def dM(h:nh u v=b7):u=v:=by
 cases u<;>cases v<;>simp[nh]at h<;>subst_vars<;>rfl
abbrev noStar:tr->Bool
 |.Starred _ _=>cb
 |_=>b7
abbrev jw:tr->Bool
 |.Slice _ _ _ _=>cb
 |_=>b7
abbrev qh:tr->Bool
 |.Set _ _ _=>cb
 |_=>b7
abbrev ni:tr->Bool
 |.Call (.Name _ _) [] [] _=>cb
 |_=>b7
abbrev de:tr->Bool
 |.ListComp _ _ _ _=>cb
 |.SetComp _ _ _ _=>cb
 |.DictComp _ _ _ _ _=>cb
 |_=>b7
abbrev BC:tr->Bool
 |.Tuple _ _ _=>cb
 |_=>b7
abbrev FQ(a:Lc)(x:Str):Bool:=c4 (a.names.lookup x=a5 .globalImplicit)
abbrev qi(a:Lc)(x:Str):Bool:=c4 (a.names.lookup x=a5 .local)||decide (a.names.lookup x=a5 .cell)||decide (a.names.lookup x=a5 .free)
abbrev j_(a:Lc)(x:Str):Bool:=c4 (a.names.lookup x=a5 .local)||decide (a.names.lookup x=a5 .cell)
abbrev DC(a:Lc)(x:Str):Bool:=c4 (a.names.lookup x=a5 .local)
abbrev bc(x:Str):Bool:=!(x==("__debug__":Str))&&!(x==("__classdict__":Str))
abbrev rV(N:List Str)(a:Lc)(fa:Str->Bool)(i:Nat):tr->Bool
 |.Name x _=>c4 (N[i]?=a5 x)&&j_ a x&&(fa x||DC a x)
 |_=>cb
abbrev nj(N:List Str)(a:Lc)(fa:Str->Bool):List Nat->List tr->Bool
 |[],[]=>b7
 |i::is,e::es=>rV N a fa i e&&nj N a fa is es
 |_,_=>cb
abbrev fP:tr->List Str
 |.Name x _=>[x]
 |.Tuple es _ _=>es.filterMap fun|.Name x _=>a5 x|_=>b6
 |_=>[]
abbrev hide(a N:List Str):List Str:=match a.filter λx=>c4 (x∈N) with
 |[]=>N
 |[x]=>N.set (N.idxOf x) "."
 |x::y::_=>(N.set (N.idxOf x) ".").set (N.idxOf y) ".."
abbrev KQ(t:Bool)(N:List Str)(a:Lc)(fa:Str->Bool)(is:List Nat):tr->Bool
 |.Name x p=>!t&&(match is with|[i]=>rV N a fa i (.Name x p)|_=>cb)
 |.Tuple es _ _=>t&&nj N a fa is es&&is.all λi=>c4 (i<N.length)
 |_=>cb
abbrev nq(e:tr):Option (Str×List tr):=match e with
 |.Call f as a _=>match f with
  |.Name x _=>if a.isEmpty=b7 then a5 (x,as) else b6
  |_=>b6
 |_=>b6
def jb(h:nq e=a5 (x,as)):∃p q,e=.Call (.Name x p) as [] q:=by
 unfold nq at h;split at h
 .split at h
  .split at h
   .rename_i hk;rw[Lu]at hk;cases h;subst hk;show⟨_,_,rfl⟩
   .cases h
  .cases h
 .cases h
abbrev fg(a:Lc)(c:tr)(b:Ik)(e:tr):Option (List tr):=match b with
 |.seq=>a5 [e]
 |.E8=>(nq e).bind λp=>if p.1="range"/\FQ a p.1=b7/\p.2.length=1 then a5 p.2 else b6
 |.Hu=>(nq e).bind λp=>if p.1="range"/\FQ a p.1=b7/\p.2.length=2 then a5 p.2 else b6
 |_=>b6
abbrev simple:Bf->Bool:=λ_=>b7
abbrev BD(scope a:Lc):Lc:={scope with names:=scope.names.map λ(n,k)=>if (k==Km&&a.kind==.function&&a.names.lookup n==a5 .cell)=b7 then(n,.cell) else(n,k)}
abbrev bU(e:tr)(k:Str->Bool):Bool:=match e with|.Name x _=>k x|_=>cb
def az(h:bU e k=b7):∃x p,e=.Name x p/\k x=b7:=by
 unfold bU at h;split at h
 .show⟨_,_,rfl,h⟩
 .cases h
abbrev dg{α:Type}(l:List α)(k:α->Bool):Bool:=match l with|[a]=>k a|_=>cb
def aX(h:dg l k=b7):∃a,l=[a]/\k a=b7:=by
 unfold dg at h;split at h
 .show⟨_,rfl,h⟩
 .cases h
abbrev dy(e:tr)(k:tr->List tr->Pos->Bool):Bool:=match e with|.Call f as a p=>a.isEmpty&&k f as p|_=>cb
def aV(h:dy e k=b7):∃f as p,e=.Call f as [] p/\k f as p=b7:=by
 unfold dy at h;split at h
 .rename_i f as a p;rw[b8,Lu]at h;have⟨rfl,h⟩:=h;show⟨_,_,_,rfl,h⟩
 .cases h
abbrev qj(e:tr)(k:tr->Str->Pos->Bool):Bool:=match e with|.Attribute o m p=>k o m p|_=>cb
def oP(h:qj e k=b7):∃o m p,e=.Attribute o m p/\k o m p=b7:=by
 unfold qj at h;split at h
 .show⟨_,_,_,rfl,h⟩
 .cases h
abbrev wa(e:tr)(k:tr->Operator->tr->Bool):Bool:=match e with|.BinOp a op b _=>k a op b|_=>cb
def qk(h:wa e k=b7):∃a op b p,e=.BinOp a op b p/\k a op b=b7:=by
 unfold wa at h;split at h
 .show⟨_,_,_,_,rfl,h⟩
 .cases h
abbrev wc(e:tr)(k:tr->CmpOp->tr->Bool):Bool:=match e with|.Compare a ops bs _=>dg ops λop=>dg bs λb=>k a op b|_=>cb
def ka(h:wc e k=b7):∃a op b p,e=.Compare a [op] [b] p/\k a op b=b7:=by
 unfold wc at h;split at h
 .have⟨op,rfl,c⟩:=aX h;have⟨b,rfl,d⟩:=aX c;show⟨_,_,_,_,rfl,d⟩
 .cases h
abbrev nu(e:tr)(k:tr->Str->Pos->List tr->Pos->Bool):Bool:=dy e λf as b=>qj f λo m a=>k o m a as b
def fh(h:nu e k=b7):∃o m a as b,e=.Call (.Attribute o m a) as [] b/\k o m a as b=b7:=by
 have⟨f,as,p,rfl,h⟩:=aV h;have⟨o,m,q,rfl,h⟩:=oP h;show⟨_,_,_,_,_,rfl,h⟩
abbrev lE(e:tr)(k:tr->tr->Bool):Bool:=match e with|.Subscript a b _=>k a b|_=>cb
def d9(h:lE e k=b7):∃a b p,e=.Subscript a b p/\k a b=b7:=by
 unfold lE at h;split at h
 .show⟨_,_,_,rfl,h⟩
 .cases h
abbrev BE:tr->Bool
 |.Slice b6 b6 (a5 (.UnaryOp .USub (.Constant (.int 1) _ _) _)) _=>b7
 |_=>cb
def t5(h:BE e=b7):∃a p1 p3 p2,e=.Slice b6 b6 (a5 (.UnaryOp .USub (.Constant (.int 1) a p1) p3)) p2:=by
 unfold BE at h;split at h
 .show⟨_,_,_,_,rfl⟩
 .cases h
abbrev kb{α:Type}(l:List α)(k:α->α->Bool):Bool:=match l with|[a,b]=>k a b|_=>cb
def cH(h:kb l k=b7):∃a b,l=[a,b]/\k a b=b7:=by
 unfold kb at h;split at h
 .show⟨_,_,rfl,h⟩
 .cases h
abbrev wd(e:tr)(k:Const->Bool):Bool:=match e with|.Constant c _ _=>k c|_=>cb
def ql(h:wd e k=b7):∃c q p,e=.Constant c q p/\k c=b7:=by
 unfold wd at h;split at h
 .show⟨_,_,_,rfl,h⟩
 .cases h
abbrev EC:Const->Option U
 |.int j=>a5 (.int j)
 |.str y=>a5 (.str y)
 |.bool y=>a5 (.bl y)
 |.none=>a5 .EU
 |_=>b6
abbrev ED(u:U)(c:Const):Bool:=match EC c with|some v=>nh u v|none=>cb
abbrev yY(e:tr)(op:BoolOp)(k:List tr->Bool):Bool:=match e with|.BoolOp o es _=>c4 (o=op)&&k es|_=>cb
def fB(h:yY e op k=b7):∃es p,e=.BoolOp op es p/\k es=b7:=by
 unfold yY at h;split at h
 .rw[b8,Yq]at h;have⟨rfl,h⟩:=h;show⟨_,_,rfl,h⟩
 .cases h
abbrev BF(e:tr)(op:UnaryOp)(k:tr->Bool):Bool:=match e with|.UnaryOp o a _=>c4 (o=op)&&k a|_=>cb
def lF(h:BF e op k=b7):∃a p,e=.UnaryOp op a p/\k a=b7:=by
 unfold BF at h;split at h
 .rw[b8,Yq]at h;have⟨rfl,h⟩:=h;show⟨_,_,rfl,h⟩
 .cases h
abbrev rW(e:tr)(k:List tr->Bool):Bool:=match e with|.Tuple l _ _=>k l|_=>cb
def kf(h:rW e k=b7):∃l q p,e=.Tuple l q p/\k l=b7:=by
 unfold rW at h;split at h
 .show⟨_,_,_,rfl,h⟩
 .cases h
abbrev we(e:tr)(k:List tr->Bool):Bool:=match e with|.List l _=>k l|_=>cb
def qm(h:we e k=b7):∃l p,e=.List l p/\k l=b7:=by
 unfold we at h;split at h
 .show⟨_,_,rfl,h⟩
 .cases h
abbrev BG(e:tr):Bool:=match e with|.Dict a b _=>a.isEmpty&&b.isEmpty|_=>cb
def t6(h:BG e=b7):∃p,e=.Dict [] [] p:=by
 unfold BG at h;split at h
 .rw[b8,Lu,Lu]at h;have⟨rfl,rfl⟩:=h;show⟨_,rfl⟩
 .cases h
abbrev wg(e:tr)(k:Option tr->Option tr->Bool):Bool:=match e with|.Slice a b c _=>c.isNone&&k a b|_=>cb
def qo(h:wg e k=b7):∃a b p,e=.Slice a b b6 p/\k a b=b7:=by
 unfold wg at h;split at h
 .rw[b8,PD]at h;have⟨rfl,h⟩:=h;show⟨_,_,_,rfl,h⟩
 .cases h
abbrev BH(e:tr)(k:tr->tr->tr->List tr->Lc->Bool):Bool:=match e with|.ListComp elt a b _=>dg a λg=>c4 (g.is_async=0)&&k elt g.target g.iter g.ifs b|_=>cb
def iF(h:BH e k=b7):∃elt d a b f p,e=.ListComp elt [⟨d,a,b,0⟩] f p/\k elt d a b f=b7:=by
 unfold BH at h;split at h
 .obtain⟨⟨d,a,b,z⟩,rfl,c⟩:=aX h;rw[b8,Yq]at c;have⟨rfl,c⟩:=c;show⟨_,_,_,_,_,_,rfl,c⟩
 .cases h
abbrev wj(e:tr)(k:tr->CmpOp->CmpOp->tr->tr->Bool):Bool:=match e with|.Compare a ops d _=>kb ops λp q=>kb d λb c=>k a p q b c|_=>cb
def kg(h:wj e k=b7):∃a p q b c r,e=.Compare a [p,q] [b,c] r/\k a p q b c=b7:=by
 unfold wj at h;split at h
 .have⟨p,q,rfl,d⟩:=cH h;have⟨b,c,rfl,f⟩:=cH d;show⟨_,_,_,_,_,_,rfl,f⟩
 .cases h
abbrev isNm(e:tr)(n:Str):Bool:=bU e λx=>c4 (x=n)
def cn(h:isNm e n=b7):∃p,e=.Name n p:=by
 have⟨x,p,e,z⟩:=az h;show⟨p,Yv z▸e⟩
abbrev qp(v:tr)(f:Str)(k:List tr->Bool):Bool:=dy v λg as _=>isNm g f&&k as
def cZ(h:qp v f k=b7):∃as p q,v=.Call (.Name f p) as [] q/\k as=b7:=by
 have⟨g,as,q,rfl,z⟩:=aV h;rw[b8]at z;have⟨p,rfl⟩:=cn z.1;show⟨as,p,q,rfl,z.2⟩
mutual
noncomputable def bI(k:Ck):E->List Str->Lc->tr->Bool
 |.var i,N,d,g=>bU g λx=>c4 (N[i]?=a5 x)&&qi d x&&bc x
 |.cst u,N,d,g=>wd g λc=>ED u c
 |.G9 x u,N,d,g=>bU g λy=>c4 (x=y)&&FQ d x&&bc x&&k.gl.any λp=>c4 (p.1=x)&&nh p.2 u
 |.bin op a b,N,d,g=>wa g λj z l=>c4 (op.op=z)&&bI k a N d j&&bI k b N d l
 |.cmp op a b,N,d,g=>wc g λj z l=>c4 (op.op=z)&&!V2 z l&&bI k a N d j&&bI k b N d l
 |.GO o1 o2 a b c,N,d,g=>wj g λj p q l A=>c4 (o1.op=p)&&c4 (o2.op=q)&&!XN [p,q] [l,A]&&bI k a N d j&&bI k b N d l&&bI k c N d A
 |.and es,N,d,g=>yY g .And λh=>aE k es N d h
 |.or es,N,d,g=>yY g .Or λh=>aE k es N d h
 |.not a,N,d,g=>BF g .Not λj=>bI k a N d j
 |.ite _ _ _,_,_,_=>cb
 |.neg _,_,_,_=>cb
 |.bad,_,_,_=>b7
 |.Ia f es is,N,d,g=>dy g λf' h _=>bU f' λx=>c4 (x=f)&&c4 ((f,is)∈k.Gu)&&FQ d x&&bc x&&!h.isEmpty&&aE k es N d h
 |.ME _,_,_,_=>cb
 |.inD _ _ _,_,_,_=>cb
 |.IQ _ _ _,_,_,_=>cb
 |.MD _,_,_,_=>cb
 |.Ju a,N,d,g=>lE g λj l=>BE l&&bI k a N d j
 |.MF _ _ _,_,_,_=>cb
 |.fst es,N,d,g=>cb
 |.IM a T,N,d,g=>dy g λf' as _=>bU f' λx=>kb as λj l=>bU l λy=>c4 (x="isinstance")&&c4 (y=T.name)&&FQ d x&&FQ d y&&noStar j&&bI k a N d j
 |.tup es,N,d,g=>rW g λh=>aE k es N d h
 |.lst es,N,d,g=>we g λh=>aE k es N d h
 |.Hv _,N,d,g=>BG g
 |.idx a b,N,d,g=>lE g λj l=>jw l&&bI k a N d j&&bI k b N d l
 |.FC a lo B,N,d,g=>lE g λj l=>wg l λC D=>bI k a N d j&&qq k lo N d C&&qq k B N d D
 |.bi f es,N,d,g=>dy g λf' h _=>bU f' λx=>c4 (x=f.name)&&simple f&&FQ d x&&!h.isEmpty&&aE k es N d h
 |.HC f es,N,d,g=>dy g λf' as _=>bU f' λx=>dg as λc=>dy c λg' h _=>bU g' λy=>c4 (x=f.m8)&&c4 (y=f.hW)&&FQ d x&&FQ d y&&!h.isEmpty&&aE k es N d h
 |.G_ m a es,N,d,g=>nu g λo name v h G=>c4 (name=m.name)&&ni o&&(v.endLine==G.line)&&!h.isEmpty&&c4 (h.length<20)&&bI k a N d o&&aE k es N d h
 |.call f es,N,d,g=>dy g λf' h _=>bU f' λx=>c4 (x=f)&&c4 (f∈k.fns)&&FQ d x&&bc x&&!h.isEmpty&&aE k es N d h
 |.comp n t H src cond e,N,d,g=>BH g λelt r s w scope =>
   c4 ((fP r).length=n)&&AO (fP r++hide (fP r) N) (fP r) scope d.names&&KQ t (fP r++hide (fP r) N) (BD scope d) (λx=>c4 (scope.names.lookup x=a5 .cell)) (ei n) r&&qh s &&
   (match fg d r H s with
    |some as=>aE k src N d as
    |none=>cb) &&
   c4 (w.length<=1)&&aE k cond (fP r++hide (fP r) N) (BD scope d) w&&bI k e (fP r++hide (fP r) N) (BD scope d) elt
noncomputable def aE(k:Ck):List E->List Str->Lc->List tr->Bool
 |[],_,_,a=>a.isEmpty
 |e::es,N,b,a=>match a with
  |e'::a=>noStar e'&&bI k e N b e'&&aE k es N b a
  |[]=>cb
noncomputable def qq(k:Ck):List E->List Str->Lc->Option tr->Bool
 |[],_,_,o=>o.isNone
 |[e],N,a,o=>match o with
  |some b=>bI k e N a b
  |none=>cb
 |_::_::_,_,_,_=>cb
end
abbrev bt:List Str:=["len","sorted","repr","max","min","all","any","list","tuple","str","int","range","enumerate","zip","reversed","set","dict","sum","isinstance","bool"]
abbrev yZ(ck:Ck)(K:PySem.W.Frag)(mg:Str->Option d6):Prop:=∀D,(∃p∈ck.xi,p.2.1=D)->∃a,((∃b,a=.ref b/\mg D=a5 (.ref b))\/(D="ValueError"/\a=.type "ValueError"/\mg D=b6))/\∀p∈ck.xi,p.2.1=D->∀C,PySem.W.nsIn K mA p.1=a5 (a5 (.ref C))->eC K C=b7/\PySem.W.kitOne K (.ref C) a=a5 p.2.2
abbrev MS(ck:Ck)(K:PySem.W.Frag)(mg:Str->Option d6):Prop:=∀q∈ck.xk,∀(c:Str) (bs:List Bool),q.2.length=bs.length->(∀r∈q.2.zip bs,(c,r.1,r.2)∈ck.xi)->∃(fa:gs) (a:OF) (b:List Str),(∀(P:vu) (w:DD) (base:IE),oJ P w K mg base (HA P w) 1 fa a b (OW K c bs))/\mg q.1=a5 (.ref fa)/\PySem.W.keepIn K (.ref fa)=b7/\Binds K a b []
structure Jy(ck:Ck)(K:PySem.W.Frag)(mg:Str->Option d6):Prop where
 xc:∀x∈ck.xc,∃C,mg x=a5 (.ref C)/\PySem.W.nsIn K mA x=a5 (a5 (.ref C))/\PySem.W.excIn K C Kx "ValueError.__new__"=b7
 xd:∀p∈ck.xd,∃C D,mg p.1=a5 (.ref C)/\PySem.W.nsIn K mA p.1=a5 (a5 (.ref C))/\mg p.2=a5 (.ref D)/\PySem.W.exmOne K (.ref C) (.ref D)=a5 b7
 xi:∀D,(∃p∈ck.xi,p.2.1=D)->∃dv,((∃D',dv=.ref D'/\mg D=a5 (.ref D'))\/(D="ValueError"/\dv=.type "ValueError"/\mg D=b6))/\∀p∈ck.xi,p.2.1=D->∀C,PySem.W.nsIn K mA p.1=a5 (a5 (.ref C))->eC K C=b7/\PySem.W.kitOne K (.ref C) dv=a5 p.2.2
 xe:∀x,(∃p∈ck.xe,p.2=x)->∃D,mg x=a5 (.ref D)/\∀cl,(cl,x)∈ck.xe->∀C,PySem.W.nsIn K mA cl=a5 (a5 (.ref C))->PySem.W.exmOne K (.ref C) (.ref D)=a5 b7
 xk:MS ck K mg
structure y6(P:vu)(w:DD)(K:PySem.W.Frag)(mg:Str->Option d6)(base:IE)(d:Nat)(F:List U->Option (Ex (Kd×U)))(f:Str):Prop where
 ex:∃(np:Nat) (fa:gs) (fd:OF) (ps:List Str),gD P w K mg base (HA P w) d fa fd ps (spT P w K F np)/\mg f=a5 (.ref fa)/\PySem.W.keepIn K (.ref fa)=b7/\Binds K fd ps []/\(∀us k u,F us=a5 (.ok (k,u))->(k=.own\/k=.loc\/k=.any)/\us.length=np)/\∀us c,F us=a5 (.exc c)->us.length=np
structure y7(P:vu)(w:DD)(K:PySem.W.Frag)(mg:Str->Option d6)(base:IE)(d:Nat)(F:List U->Option (Ex (Kd×U)))(f:Str)(is:List Nat):Prop where
 ex:∃(np:Nat) (fa:gs) (fd:OF) (ps:List Str),gD P w K mg base JK d fa fd ps (MQ P w K F np is)/\mg f=a5 (.ref fa)/\PySem.W.keepIn K (.ref fa)=b7/\Binds K fd ps []/\∀us r,F us=a5 (.ok r)->us.length=np
structure Gd(ck:Ck)(Γ:Tab)(C:Ct)(d:Nat)(X:Cx):Prop where
 P:C.P=X.prog
 w:C.w=X.w
 K:C.K=X.K
 u:X.A.units+60<Ga
 calm:X.calm=b7
 room:dn d X.A
 blt:∀x∈bt,X.mg x=b6
 fns:∀f∈ck.fns,y6 X.prog X.w X.K X.mg X.base d (Γ f) f
 Hl:∀p∈ck.gl,∃val v,X.mg p.1=a5 val/\RelV v val/\∀S H,Rep C S H p.2 v
 Gu:∀p∈ck.Gu,y7 X.prog X.w X.K X.mg X.base d (Γ p.1) p.1 p.2
 Iv:Jy ck X.K X.mg
def Gd.cx(g:Gd ck Γ C d X)(N:List Str)(a:Lc)(D:gs)(s:fx)(H:Hp)(ex:List gs):Gd ck Γ C d (FH X N a D s H ex) :=
 ⟨g.P,g.w,g.K,g.u,g.calm,g.room,g.blt,g.fns,g.Hl,g.Gu,g.Iv⟩
def iG(h:qi a x=b7):Ih a x:=by
 unfold qi at h;simp only[Jb,Yq]at h;rcases h with(h|h)|h
 .show .inl h
 .show .inr (.inl h)
 .show .inr (.inr h)
def aD(h:bc x=b7):(x==("__debug__":Str))=cb/\(x==("__classdict__":Str))=cb:=by
 unfold bc at h;simpa using h
def bh(h:noStar e=b7):mx (e::es) env=(cb,Ka e env)::mx es env:=by
 cases e<;>first|rfl|cases h
def wm(h:jw e=b7):mr e:=by
 intro o i;cases e<;>first|rfl|cases h
def qr(h:qh e=b7):∀x,Lr e env x=pure x:=by
 intro x;cases e<;>first|rfl|cases h
def jx(h:ni o=b7):Ry o name env a=a:=by
 cases o with
 |Call f as b p =>
  cases f with
  |Name x q=>cases as with
   |nil=>cases b with
    |nil=>cases h
    |cons _ _=>rfl
   |cons _ _=>rfl
  |_=>rfl
 |_=>rfl
def bo(h:∀e∈es,noStar e=b7):(Kc pos (mx es env)).any (·.1)=cb/\(Kc pos (mx es env)).all (λx=>!x.1)=b7:=by
 induction es with
 |nil=>show⟨rfl,rfl⟩
 |cons e es a =>
  rw[bh (h e (by simp))];have:=a λb c=>h b (by simp[c]);constructor
  .change(cb||(Kc pos (mx es env)).any (·.1))=cb;rw[this.1];rfl
  .change(!cb&&(Kc pos (mx es env)).all (λx=>!x.1))=b7;rw[this.2];rfl
def bO(h:aE k es N c a=b7):∀e∈a,noStar e=b7:=by
 induction es generalizing a with
 |nil =>
  cases a with
  |nil=>intro e he;cases he
  |cons _ _=>simp[aE]at h
 |cons x es b =>
  cases a with
  |nil=>intro e he;cases he
  |cons d a =>
   simp only[aE,b8]at h;intro e he;rcases fz.mp he with rfl|he
   .show h.1.1
   .show b h.2 e he
def lG(a:∀x,fa x=b7->X.fn x=b7)(h:rV X.N X.env.scope fa i e=b7):qe X e i:=by
 cases e with
 |Name x p =>
  simp only[rV,b8,Yq,j_,Jb,DC]at h;show⟨x,p,rfl,h.1.1,?_,?_⟩
  .rcases h.1.2 with z|z
   .show .inl z
   .show .inr z
  .rcases h.2 with z|z
   .show .inl (a x z)
   .show .inr z
 |_=>cases h
theorem kh(a:∀x,fa x=b7->X.fn x=b7):∀{is:List Nat}{es:List tr},nj X.N X.env.scope fa is es=b7->dZ X es is
 |[],[],_=>.nil
 |[],_::_,h=>by cases h
 |_::_,[],h=>by cases h
 |i::is,e::es,h=>by
  simp only[nj,b8]at h;show .cons (lG a h.1) (kh a h.2)
def rX(d:X.calm=b7)(e:C.K=X.K)(a:X.N.Nodup)(b:∀x,fa x=b7->X.fn x=b7)(h:KQ t X.N X.env.scope fa is c=b7):PG X c (tG C t is):=by
 cases c with
 |Name x p =>
  simp only[KQ,b8,vl]at h;have⟨rfl,h⟩:=h;cases is with
  |nil=>cases h
  |cons i is=>cases is with
   |nil=>show Bv a (lG b h)
   |cons _ _=>cases h
 |Tuple es k p =>
  simp only[KQ,b8,ri,Yq]at h;obtain⟨⟨rfl,f⟩,g⟩:=h;show Di d e a (kh b f) g
 |_=>cases h
def lH(a N:List Str):dq ((a++hide a N).drop a.length) N:=by
 rw[UM rfl];unfold hide;split
 .show .refl N
 .show(dq.refl N).set _ (.inl rfl)
 .show((dq.refl N).set _ (.inl rfl)).set _ (.inr rfl)
abbrev Bf.T6:Bf->Bool
 |.len=>b7|.sorted=>b7|.repr=>b7|.max=>b7|.min=>b7|.all=>b7|.any=>b7|_=>cb
abbrev Bf.id:Bf->String
 |.len=>"len"|.sorted=>"sorted"|.repr=>"repr"|.max=>"max"|.min=>"min"|.all=>"all"|.any=>"any"
 |.list=>"list"|.tuple=>"tuple"|.str=>"str"|.int=>"int"
def y8:∀f:Bf,simple f=b7->Iw f.name=a5 f.val/\f.name∈bt/\f.name≠"__name__"/\(f.name==("__debug__":Str))=cb:=by
 intro f h;cases f<;>first|show⟨by decide +kernel,by decide +kernel,by decide +kernel,by decide +kernel⟩|(cases h;done)
def BI:∀f:Bf,simple f=b7->(f.val=.builtin f.id\/f.val=.type f.id):=by
 intro f h;cases f<;>first|show .inl rfl|show .inr rfl|(cases h;done)
def BJ:∀f:B2,f.m8∈bt/\f.hW∈bt:=by
 intro f;cases f<;>show⟨by decide +kernel,by decide +kernel⟩
def y9:∀f:Mf,Slot "str" f.name f.id/\U7 (.builtin f.id)=pure (.type "method_descriptor"):=by
 intro f;cases f with
 |split=>show⟨PySem.F.slot_str_split,PySem.F.type_str_split⟩
 |join=>show⟨PySem.F.slot_str_join,PySem.F.type_str_join⟩
 |partition=>show⟨PySem.F.slot_str_partition,PySem.F.type_str_partition⟩
 |endswith=>show⟨PySem.F.slot_str_endswith,PySem.F.type_str_endswith⟩
section
def bH(h:FQ X.env.scope x=b7):Gl X x:=by
 unfold FQ at h;change X.env.kindOf x=a5 .globalImplicit;show Yv h
def hZ:("isinstance":Str)∈bt:=by decide +kernel
def wo(T:GL):T.name∈bt:=by cases T<;>decide +kernel
def rY:("range":Str)∈bt:=by decide +kernel
def zP(g:Gd ck Γ C d X)(h:fg X.env.scope n o c=a5 as)(m:PA X as (FO C (bp Γ src)))(r:∀a,as=[a]->∃e,src=[e]/\PE X a (ET C (ev Γ e)))(k:∀e∈as,noStar e=b7):PI X n c (Iu C o (bp Γ src)):=by
 unfold fg at h;split at h
 .cases h;have⟨e,rfl,s⟩:=r _ rfl;show Bu g.K s
 .rw[sh]at h;obtain⟨⟨x,bs⟩,l,h⟩:=h;split at h
  .rename_i hh;cases h;have⟨f,i,hl⟩:=hh
   dsimp only at f i hl
   subst f;have⟨p,q,rfl⟩:=jb l;have⟨b,rfl⟩:=List.length_eq_one_iff.mp hl;show yS (bH i) (g.blt _ rY) (bh (k _ (by simp))) m
  .cases h
 .rw[sh]at h;obtain⟨⟨x,bs⟩,l,h⟩:=h;split at h
  .rename_i hh;cases h;have⟨f,i,hl⟩:=hh
   dsimp only at f i hl
   subst f;have⟨p,q,rfl⟩:=jb l;obtain⟨b,j,rfl⟩:∃b j,bs=[b,j]:=by match bs,hl with|[b,j],_=>show⟨b,j,rfl⟩
   have s1:=bh (env:=X.env) (es:=[]) (k _ (show _∈[_,_] from ek _ gw));show yT (bH i) (g.blt _ rY) (by rw[bh (k _ gw),s1];rfl) s1 m
  .cases h
 .cases h
def Gd.GD(g:Gd ck Γ C d X):Gd ck Γ C d X.GD :=
 ⟨g.P,g.w,g.K,g.u,g.calm,g.room,g.blt,g.fns,g.Hl,g.Gu,g.Iv⟩
def zQ{a:M α}{b:α->M β}{c:α->M γ}{g:γ->M δ}{st:ar}{Q:δ->ar->Prop}(w:W (a >>= λx=>b x >>= λ_=>c x >>= g) st Q):W ((a >>= λx=>b x >>= λ_=>c x) >>= g) st Q:=by
 simp only[ah]at w ⊢;show w
def bf:PT X e (FV C M.fail):=λpins s σ H Q I ⟨_,_,_,_,w⟩=>(aU.mp w).elim
def d_:PE X e (ET C M.fail):=λpins s σ H Q I ⟨_,_,_,_,w⟩=>(aU.mp w).elim
def PT.eqv(h:PT X e (FV C m))(i:∀st Q,W a st Q->W m st Q):PT X e (FV C a):=PT.weak h λσ H Q ⟨b,c,d,ok,w⟩=>⟨b,c,d,ok,i _ _ w⟩
def DE(g:Gd ck Γ C d X)(b:PA X a (FO C (bp Γ es)))
  (h:(c4 (x=f.name)&&simple f&&FQ X.env.scope x&&!a.isEmpty&&aE ck es X.N X.env.scope a)=b7):PE X (.Call (.Name x p) a [] pos) (ET C (ev Γ (.bi f es))):=by
 simp only[b8,Yq,vl]at h;obtain⟨⟨⟨⟨rfl,c⟩,i⟩,q⟩,r⟩:=h;have⟨j,k,l,m⟩:=y8 f c;have n:=bO r;cases a with
 |nil=>cases q
 |cons s o =>
  have st:=bh (env:=X.env) (es:=o) (n s (by simp));have sn:=(bo (pos:=pos) (env:=X.env) (es:=o) λe t=>n e (by simp[t])).1;rcases BI f c with hv|hv
  .show yL g.calm g.K g.room.gd g.u hv (bH i) (g.blt _ k) (by rw[j,hv]) l m b st sn
  .show yM g.calm g.K g.room.gd g.u hv (bH i) (g.blt _ k) (by rw[j,hv]) l m b st sn
def DF(g:Gd ck Γ C d X)(i:PA X a (FO C (bp Γ es)))
  (h:(c4 (x=f.m8)&&c4 (y=f.hW)&&FQ X.env.scope x&&FQ X.env.scope y&&!a.isEmpty&&aE ck es X.N X.env.scope a)=b7):PE X (.Call (.Name x p) [.Call (.Name y p2) a [] pos2] [] pos) (ET C (ev Γ (.HC f es))):=by
 simp only[b8,Yq,vl]at h;obtain⟨⟨⟨⟨⟨rfl,rfl⟩,j⟩,k⟩,l⟩,m⟩:=h;have⟨n,o⟩:=BJ f;have b:=bO m;cases a with
 |nil=>cases l
 |cons q c =>
  have st:=bh (env:=X.env) (es:=c) (b q (by simp));have sn:=(bo (pos:=pos2) (env:=X.env) (es:=c) λe r=>b e (by simp[r])).1;show yR g.calm g.u g.K (bH j) (g.blt _ n) (bH k) (g.blt _ o) i st sn
def DG(g:Gd ck Γ C d X)(l:PE X o (ET C (ev Γ a)))(n:PA X b (FO C (bp Γ es)))
  (h:(c4 (name=m.name)&&ni o&&(c.endLine==i.line)&&!b.isEmpty&&c4 (b.length<20)&&bI ck a X.N X.env.scope o&&aE ck es X.N X.env.scope b)=b7):PE X (.Call (.Attribute o name c) b [] i) (ET C (ev Γ (.G_ m a es))):=by
 simp only[b8,Yq,vl]at h;obtain⟨⟨⟨⟨⟨⟨rfl,p⟩,q⟩,r⟩,s⟩,w⟩,t⟩:=h;have j:=bO t;have⟨s1,s2⟩:=y9 m;cases b with
 |nil=>cases r
 |cons k f =>
  have st:=bh (env:=X.env) (es:=f) (j k (by simp));have sn:=(bo (pos:=i) (env:=X.env) (es:=f) λe u=>j e (by simp[u])).1;have v:=(bo (pos:=i) (env:=X.env) (es:=k::f) j).2;show yP g.K s1 s2 l n (jx p) ?_ q st sn;rw[v];have:(k::f).length+([]:List NB).length+(if ([]:List NB).isEmpty=b7 then 0 else 1)<30:=by simp at s ⊢;lia
  simp only[Yu this];rfl
def wq(g:Gd ck Γ C d X)(i:PA X a (FO C (bp Γ es)))
  (h:(c4 (x=f)&&c4 (f∈ck.fns)&&FQ X.env.scope x&&bc x&&!a.isEmpty&&aE ck es X.N X.env.scope a)=b7):PE X (.Call (.Name x p) a [] pos) (ET C (ev Γ (.call f es))):=by
 simp only[b8,Yq,vl]at h;obtain⟨⟨⟨⟨⟨rfl,j⟩,k⟩,l⟩,m⟩,n⟩:=h;have b:=bO n;obtain⟨y,fa,z,A,o,q,r,s,t,_⟩:=(g.fns _ j).ex;cases a with
 |nil=>cases m
 |cons u c =>
  have st:=bh (env:=X.env) (es:=c) (b u (by simp));have sn:=(bo (pos:=pos) (env:=X.env) (es:=c) λe v=>b e (by simp[v])).1;show vR g.P g.w g.K rfl t o g.room (bH k) q r s (aD l).1 i st sn
def BK(g:Gd ck Γ C d X)(i:PA X a (FO C (bp Γ es)))
  (h:(c4 (x=f)&&c4 ((f,is)∈ck.Gu)&&FQ X.env.scope x&&bc x&&!a.isEmpty&&aE ck es X.N X.env.scope a)=b7):PE X (.Call (.Name x p) a [] pos) (ET C (ev Γ (.Ia f es is))):=by
 simp only[b8,Yq,vl]at h;obtain⟨⟨⟨⟨⟨rfl,j⟩,k⟩,l⟩,m⟩,n⟩:=h;have b:=bO n;have⟨y,fa,z,A,o,q,r,s,t⟩:=(g.Gu _ j).ex;cases a with
 |nil=>cases m
 |cons u c =>
  have st:=bh (env:=X.env) (es:=c) (b u (by simp));have sn:=(bo (pos:=pos) (env:=X.env) (es:=c) λe v=>b e (by simp[v])).1;show v_ g.P g.w g.K rfl t o g.room (bH k) q r s (aD l).1 (yX i) st sn
def c9(h:(b&&aE k es N a c)=b7):aE k es N a c=b7:=(Ij.mp h).2
mutual
theorem bx:∀(e:E) (X:Cx) (k:tr),Gd ck Γ C d X->bI ck e X.N X.env.scope k=b7->PE X k (ET C (ev Γ e))
 |.var i,X,k,g,h=>by
  have⟨x,B,rfl,q⟩:=az h;clear h;have h:=q;simp only[b8,Yq]at h;have⟨h3,h4⟩:=aD h.2;show rK h.1.1 (iG h.1.2) h3 h4
 |.cst u,X,k,g,h=>by
  have⟨c,q0,B,rfl,q⟩:=ql h;cases c with
  |int j=>have:=dM q;subst this;show hU uA λ_ _=>rfl
  |str y=>have:=dM q;subst this;show hU Ak λ_ _=>rfl
  |bool y=>have:=dM q;subst this;show hU Cn λ_ _=>rfl
  |none=>have:=dM q;subst this;show hU Aj λ_ _=>rfl
  |_=>cases q
 |.G9 x u,X,k,g,h=>by
  have⟨y,B,rfl,q⟩:=az h;clear h;have h:=q;simp only[b8,Yq,Lw]at h;obtain⟨⟨⟨rfl,G⟩,J⟩,p,hp,O,e2⟩:=h;have:=dM e2;subst this O;have⟨val,v,q1,q2,q3⟩:=g.Hl p hp;show hU (xI (bH G) q1 q2 (aD J).1) q3
 |.bin op a b,X,k,g,h=>by
  have⟨a',J',b',B,rfl,q⟩:=qk h;clear h;have h:=q;simp only[b8,Yq]at h;obtain⟨⟨rfl,G⟩,J⟩:=h;show yy g.K (bx a X _ g G) (bx b X _ g J)
 |.cmp op a b,X,k,g,h=>by
  have⟨a',J',b',B,rfl,A⟩:=ka h;have h:=A;simp only[b8,Yq,vl]at h;obtain⟨⟨⟨rfl,h0⟩,G⟩,J⟩:=h;show yz g.P g.w g.K g.u (bx a X _ g G) (bx b X _ g J) h0
 |.GO o1 o2 a b c,X,k,g,h=>by
  have⟨a',S8,L4,b',c',B,rfl,q⟩:=kg h;clear h;have h:=q;simp only[b8,Yq,vl]at h;obtain⟨⟨⟨⟨⟨rfl,rfl⟩,h0⟩,G⟩,J⟩,h3⟩:=h;show vM g.P g.w g.K g.u (bx a X _ g G) (bx b X _ g J) (bx c X _ g h3) h0
 |.and es,X,k,g,h=>by
  have⟨EL,B,rfl,q⟩:=fB h;clear h;have h:=q;show wt es X _ g h
 |.or es,X,k,g,h=>by
  have⟨EL,B,rfl,q⟩:=fB h;clear h;have h:=q;show zR es X _ g h
 |.not a,X,k,g,h=>by
  have⟨a',B,rfl,q⟩:=lF h;clear h;have h:=q;show yB (bx a X _ g h)
 |.neg a,X,k,g,h=>absurd (show cb=b7 from h) oa
 |.bad,X,k,g,h=>d_
 |.Ia f es is,X,k,g,h=>by
  have⟨f',as,B,rfl,A⟩:=aV h;have⟨x,p1,rfl,L⟩:=az A;show BK g (h_ es X _ g (c9 L)) L
 |.Ju a,X,k,g,h=>by
  have⟨a',b',B,rfl,A⟩:=d9 h;rw[b8]at A;have⟨kx,p1,p3,p2,rfl⟩:=t5 A.1;show yK g.K (bx a X _ g A.2)
 |.ME i,X,k,g,h=>d_
 |.inD neg a i,X,k,g,h=>d_
 |.MD i,X,k,g,h=>d_
 |.IQ i a b,X,k,g,h=>d_
 |.MF ln a b,X,k,g,h=>d_
 |.fst es,X,k,g,h=>d_
 |.IM a T,X,k,g,h=>by
  have⟨f',as,B,rfl,A⟩:=aV h;have⟨x,p1,rfl,L⟩:=az A;clear h A;have⟨a',b',rfl,z4⟩:=cH L;have⟨y,p2,rfl,z3⟩:=az z4;have h:=z3;simp only[b8,Yq]at h;obtain⟨⟨⟨⟨⟨rfl,rfl⟩,G⟩,J⟩,h3⟩,h4⟩:=h;show rP g.K (bH G) (g.blt _ hZ) (bH J) (g.blt _ (wo T)) (bx a X _ g h4) (bh h3)
 |.ite c a b,X,k,g,h=>absurd (show cb=b7 from h) oa
 |.tup es,X,k,g,h=>by
  have⟨l,q0,B,rfl,q⟩:=kf h;clear h;have h:=q;show yF (h_ es X _ g h)
 |.lst es,X,k,g,h=>by
  have⟨l,B,rfl,q⟩:=qm h;clear h;have h:=q;show yG (h_ es X _ g h)
 |.Hv r,X,k,g,h=>by
  have⟨B,rfl⟩:=t6 h;show vQ g.P g.w r
 |.idx a b,X,k,g,h=>by
  have⟨a',b',B,rfl,q⟩:=d9 h;clear h;have h:=q;simp only[b8]at h;show yH g.K g.u (wm h.1.1) (bx a X _ g h.1.2) (bx b X _ g h.2)
 |.FC a lo hi,X,k,g,h=>by
  have⟨a',b',B,rfl,A⟩:=d9 h;have⟨Qr,Gf,p1,rfl,q⟩:=qo A;clear h A;simp only[b8]at q;show yJ g.K (bx a X _ g q.1.1) (DH lo X _ g q.1.2) (DH hi X _ g q.2)
 |.bi f es,X,k,g,h=>by
  have⟨f',as,B,rfl,A⟩:=aV h;have⟨x,p1,rfl,L⟩:=az A;have h:=L;show DE g (h_ es X _ g (c9 h)) h
 |.HC f es,X,k,g,h=>by
  have⟨f',as,B,rfl,A⟩:=aV h;have⟨x,p1,rfl,L⟩:=az A;have⟨c,rfl,z3⟩:=aX L;have⟨g',KA,p2,rfl,z4⟩:=aV z3;have⟨y,p3,rfl,z5⟩:=az z4;have h:=z5;show DF g (h_ es X _ g (c9 h)) h
 |.G_ m a es,X,k,g,h=>by
  have⟨o,name,ag,as,EM,rfl,A⟩:=fh h;have h:=A;have h':=h;simp only[b8]at h';show DG g (bx a X _ g h'.1.2) (h_ es X _ g (c9 h)) h
 |.call f es,X,k,g,h=>by
  have⟨f',as,B,rfl,A⟩:=aV h;have⟨x,p1,rfl,L⟩:=az A;have h:=L;show wq g (h_ es X _ g (c9 h)) h
 |.comp n t ik src cond e,X,k,g,h=>by
  have⟨elt,tg,ab,ac,scope,B,rfl,q⟩:=iF h;clear h;have h:=q;simp only[b8,Yq]at h;obtain⟨⟨⟨⟨⟨⟨⟨G,J⟩,h3⟩,h4⟩,Y⟩,h6⟩,h7⟩,h8⟩:=h;subst G;have S:=u4 (X:=X) rfl (lH _ _) J;split at Y
  .rename_i as has;have EO:=bO Y;have hI:PI X tg ab (Iu C ik (bp Γ src)):=zP g has (h_ src X _ g Y) (λa e=>by
    subst e;cases src with
    |nil=>simp[aE]at Y
    |cons O Fo =>
     cases Fo with
     |nil =>
      simp only[aE,b8]at Y;show⟨O,rfl,bx O X _ g Y.1.2⟩
     |cons _ _=>simp[aE]at Y) EO
   show vY S g.calm hI (λD s H ex=>rX (fa:=λx=>c4 (scope.names.lookup x=a5 .cell)) g.calm g.K S.nd (λ_ z=>z) h3)
    (λD s H ex=>by
     cases ac with
     |nil =>
      cases cond with
      |nil=>show λpins s σ H Q I ⟨c0,O,e2,ok,w⟩=>qZ pins s σ H Q I (by subst O e2;rw[show aQ Γ []=pure b7 from rfl,aj]at w;show w c0 rfl rfl ok (Nx.refl c0))
      |cons _ _=>simp[aE]at h7
     |cons c1 cs =>
      cases cs with
      |nil =>
       cases cond with
       |nil=>simp[aE]at h7
       |cons O Fo =>
        cases Fo with
        |nil =>
         simp only[aE,b8]at h7;show q9 (nv O (FH X _ scope D s H ex) c1 (g.cx _ _ _ _ _ _) h7.1.2)
        |cons _ _=>simp[aE]at h7
      |cons _ _=>simp at h6)
    (λD s H ex=>bx e (FH X _ scope D s H ex) elt (g.cx _ _ _ _ _ _) h8) (qr h4)
  .cases Y
theorem h_:∀(es:List E) (X:Cx) (a:List tr),Gd ck Γ C d X->aE ck es X.N X.env.scope a=b7->PA X a (FO C (bp Γ es))
 |[],X,a,g,h=>by
  cases a with
  |nil=>show yE
  |cons _ _=>simp[aE]at h
 |e::es,X,a,g,h=>by
  cases a with
  |nil=>simp[aE]at h
  |cons b a =>
   simp only[aE,b8]at h;show vO (bx e X b g h.1.2) (h_ es X a g h.2) (bh h.1.1)
theorem DH:∀(es:List E) (X:Cx) (o:Option tr),Gd ck Γ C d X->qq ck es X.N X.env.scope o=b7->PO X o (tO C (J2 Γ es))
 |[],X,o,g,h=>by
  cases o with
  |none=>show ip
  |some _=>simp[qq]at h
 |[e],X,o,g,h=>by
  cases o with
  |none=>simp[qq]at h
  |some a=>simp only[qq]at h;show tS (bx e X a g h)
 |_::_::_,X,o,g,h=>by simp[qq]at h
theorem wt:∀(es:List E) (X:Cx) (a:List tr),Gd ck Γ C d X->aE ck es X.N X.env.scope a=b7->∀{pos},PE X (.BoolOp .And a pos) (ET C (g_ Γ es))
 |[],X,a,g,h,pos=>d_
 |[e],X,a,g,h,pos=>by
  cases a with
  |nil=>simp[aE]at h
  |cons b a =>
   cases a with
   |nil=>simp only[aE,b8]at h;show uB (bx e X b g h.1.2)
   |cons _ _=>simp[aE]at h
 |e::c::es,X,a,g,h,pos=>by
  cases a with
  |nil=>simp[aE]at h
  |cons b a =>
   have h':noStar b=b7/\bI ck e X.N X.env.scope b=b7/\aE ck (c::es) X.N X.env.scope a=b7:=by
    rw[aE]at h;simp only[b8]at h;show⟨h.1.1,h.1.2,h.2⟩
   cases a with
   |nil=>have:=h'.2.2;simp[aE]at this
   |cons f i=>show snd_and (bx e X b g h'.2.1) (wt (c::es) X _ g h'.2.2)
theorem zR:∀(es:List E) (X:Cx) (a:List tr),Gd ck Γ C d X->aE ck es X.N X.env.scope a=b7->∀{pos},PE X (.BoolOp .Or a pos) (ET C (yt Γ es))
 |[],X,a,g,h,pos=>d_
 |[e],X,a,g,h,pos=>by
  cases a with
  |nil=>simp[aE]at h
  |cons b a =>
   cases a with
   |nil=>simp only[aE,b8]at h;show uB (bx e X b g h.1.2)
   |cons _ _=>simp[aE]at h
 |e::c::es,X,a,g,h,pos=>by
  cases a with
  |nil=>simp[aE]at h
  |cons b a =>
   have h':noStar b=b7/\bI ck e X.N X.env.scope b=b7/\aE ck (c::es) X.N X.env.scope a=b7:=by
    rw[aE]at h;simp only[b8]at h;show⟨h.1.1,h.1.2,h.2⟩
   cases a with
   |nil=>have:=h'.2.2;simp[aE]at this
   |cons f i=>show Bi (bx e X b g h'.2.1) (zR (c::es) X _ g h'.2.2)
theorem nv:∀(e:E) (X:Cx) (j:tr),Gd ck Γ C d X->bI ck e X.N X.env.scope j=b7->PT X j (FV C (E6 Γ e))
 |.and es,X,j,g,h=>by
  have⟨G,l,rfl,k⟩:=fB h;clear h;have h:=k;show(rZ es X _ g h).pt
 |.or es,X,j,g,h=>by
  have⟨G,l,rfl,k⟩:=fB h;clear h;have h:=k;show(wu es X _ g h).pt
 |.not a,X,j,g,h=>by
  have⟨z,l,rfl,k⟩:=lF h;clear h;have h:=k;show yC (nv a X _ g h)
 |.cmp op a b,X,j,g,h=>by
  have⟨z,O,D,l,rfl,o⟩:=ka h;have h:=o;simp only[b8,Yq,vl]at h;obtain⟨⟨⟨rfl,A⟩,p⟩,q⟩:=h;show yA g.P g.w g.K g.u (bx a X _ g p) (bx b X _ g q) A
 |.GO o1 o2 a b c,X,j,g,h=>by
  have⟨z,Y,L4,D,c',l,rfl,k⟩:=kg h;clear h;have h:=k;simp only[b8,Yq,vl]at h;obtain⟨⟨⟨⟨⟨rfl,rfl⟩,A⟩,p⟩,q⟩,s⟩:=h;show vN g.P g.w g.K g.u (bx a X _ g p) (bx b X _ g q) (bx c X _ g s) A
 |.var i,X,j,g,h=>by
  have⟨x,l,rfl,k⟩:=az h;simp only[b8,Yq]at k;have⟨s,B⟩:=aD k.2;show ju (rK k.1.1 (iG k.1.2) s B) g.K λ_=>rfl
 |.idx a b,X,j,g,h=>bf
 |.bi f es,X,j,g,h=>by
  have⟨f',as,l,rfl,o⟩:=aV h;have⟨x,p1,rfl,v⟩:=az o;have h:=v;show PT.eqv (ju (DE g (h_ es X _ g (c9 h)) h) g.K λ_=>rfl) λst Q w=>zQ w
 |.HC f es,X,j,g,h=>bf
 |.G_ m a es,X,j,g,h=>bf
 |.call f es,X,j,g,h=>by
  have⟨f',as,l,rfl,o⟩:=aV h;have⟨x,p1,rfl,v⟩:=az o;have h:=v;show PT.eqv (ju (wq g (h_ es X _ g (c9 h)) h) g.K λ_=>rfl) λst Q w=>zQ w
 |.cst u,X,j,g,h=>bf
 |.fst es,X,j,g,h=>bf
 |.G9 x u,X,j,g,h=>bf
 |.Ju a,X,j,g,h=>bf
 |.neg a,X,j,g,h=>bf
 |.IM a T,X,j,g,h=>by
  have⟨f',as,l,rfl,o⟩:=aV h;have⟨x,p1,rfl,v⟩:=az o;clear h o;have⟨z,D,rfl,H⟩:=cH v;have⟨y,p2,rfl,I⟩:=az H;have h:=I;simp only[b8,Yq]at h;obtain⟨⟨⟨⟨⟨rfl,rfl⟩,p⟩,q⟩,s⟩,B⟩:=h;show PT.eqv (ju (rP g.K (bH p) (g.blt _ hZ) (bH q) (g.blt _ (wo T)) (bx a X _ g B) (bh s)) g.K λ_=>rfl) λst Q w=>?_;have w:W (ev Γ a >>= λx=>M.E3 (oK x.2 T)) st Q:=w;simp only[ah]at w ⊢;show W.mono w λx s1 J=>?_;have⟨b,e,L⟩:=bJ.mp J;show bJ.mpr ⟨b,e,aj.mpr (bJ.mpr ⟨b,rfl,L⟩)⟩
 |.bad,X,j,g,h=>bf
 |.Ia f es is,X,j,g,h=>bf
 |.inD neg a i,X,j,g,h=>bf
 |.MD i,X,j,g,h=>bf
 |.MF ln a b,X,j,g,h=>bf
 |.ME i,X,j,g,h=>bf
 |.IQ i a b,X,j,g,h=>bf
 |.bin op a b,X,j,g,h=>bf
 |.ite c a b,X,j,g,h=>bf
 |.tup es,X,j,g,h=>bf
 |.lst es,X,j,g,h=>bf
 |.Hv r,X,j,g,h=>bf
 |.FC a lo hi,X,j,g,h=>bf
 |.comp n t ik src cond e,X,j,g,h=>bf
theorem rZ:∀(es:List E) (X:Cx) (a:List tr),Gd ck Γ C d X->aE ck es X.N X.env.scope a=b7->∀{pos},PW X (.BoolOp .And a pos) (FV C (aQ Γ es))
 |[],X,a,g,h,pos=>by
  cases a with
  |nil =>
   rintro i pins s σ H Q I ⟨c,rfl,rfl,ok,w⟩;rw[show aQ Γ []=pure b7 from rfl,aj]at w;show Yp ⟨c.H,I,w c rfl rfl ok (Nx.refl c)⟩
  |cons _ _=>simp[aE]at h
 |[e],X,a,g,h,pos=>by
  cases a with
  |nil=>simp[aE]at h
  |cons b a =>
   cases a with
   |nil=>simp only[aE,b8]at h;show xJ (nv e X b g h.1.2)
   |cons _ _=>simp[aE]at h
 |e::f::es,X,a,g,h,pos=>by
  cases a with
  |nil=>simp[aE]at h
  |cons b a =>
   have h':noStar b=b7/\bI ck e X.N X.env.scope b=b7/\aE ck (f::es) X.N X.env.scope a=b7:=by
    rw[aE]at h;simp only[b8]at h;show⟨h.1.1,h.1.2,h.2⟩
   cases a with
   |nil=>have:=h'.2.2;simp[aE]at this
   |cons j k=>show yD (nv e X b g h'.2.1) (rZ (f::es) X _ g h'.2.2)
theorem wu:∀(es:List E) (X:Cx) (a:List tr),Gd ck Γ C d X->aE ck es X.N X.env.scope a=b7->∀{pos},PW X (.BoolOp .Or a pos) (FV C (fb Γ es))
 |[],X,a,g,h,pos=>by
  cases a with
  |nil =>
   rintro i pins s σ H Q I ⟨c,rfl,rfl,ok,w⟩;rw[show fb Γ []=pure cb from rfl,aj]at w;show isTrue_or_nil ⟨c.H,I,w c rfl rfl ok (Nx.refl c)⟩
  |cons _ _=>simp[aE]at h
 |[e],X,a,g,h,pos=>by
  cases a with
  |nil=>simp[aE]at h
  |cons b a =>
   cases a with
   |nil=>simp only[aE,b8]at h;show Al (nv e X b g h.1.2)
   |cons _ _=>simp[aE]at h
 |e::f::es,X,a,g,h,pos=>by
  cases a with
  |nil=>simp[aE]at h
  |cons b a =>
   have h':noStar b=b7/\bI ck e X.N X.env.scope b=b7/\aE ck (f::es) X.N X.env.scope a=b7:=by
    rw[aE]at h;simp only[b8]at h;show⟨h.1.1,h.1.2,h.2⟩
   cases a with
   |nil=>have:=h'.2.2;simp[aE]at this
   |cons j k=>show Bj (nv e X b g h'.2.1) (wu (f::es) X _ g h'.2.2)
end
end
abbrev L5(b:Lc)(x:Str)(a:Nat):tr->Bool
 |.ListComp elt gens s pos=>c4 (b.names.lookup x=a5 .local)&&(a==pos.line)&&!(s.names.any λ(n,k)=>n==x&&(k==.local||k==.cell))
 |_=>cb
abbrev lI(s:Ls)(k:tr->Bool):Bool:=match s with|.Expr e _=>k e|_=>cb
def ef(h:lI s k=b7):∃e p,s=.Expr e p/\k e=b7:=by
 unfold lI at h;split at h
 .show⟨_,_,rfl,h⟩
 .cases h
abbrev lJ(s:Ls)(k:tr->tr->Bool):Bool:=match s with|.Assign ts v _=>dg ts λt=>k t v|_=>cb
def en(h:lJ s k=b7):∃t v p,s=.Assign [t] v p/\k t v=b7:=by
 unfold lJ at h;split at h
 .have⟨t,rfl,a⟩:=aX h;show⟨_,_,_,rfl,h⟩
 .cases h
abbrev wx(s:Ls)(k:tr->Bool):Bool:=match s with|.Raise (a5 e) b6 _=>k e|_=>cb
def qt(h:wx s k=b7):∃e p,s=.Raise (a5 e) b6 p/\k e=b7:=by
 unfold wx at h;split at h
 .show⟨_,_,rfl,h⟩
 .cases h
abbrev r9(s:Ls)(k:Ls->ExceptHandler->Bool):Bool:=match s with|.Try b hs [] [] _=>dg b λb=>dg hs λh=>k b h|_=>cb
def ki(h:r9 s k=b7):∃b a p,s=.Try [b] [a] [] [] p/\k b a=b7:=by
 unfold r9 at h;split at h
 .have⟨b,rfl,c⟩:=aX h;have⟨a,rfl,d⟩:=aX c;show⟨_,_,_,rfl,d⟩
 .cases h
abbrev r_(s:ExceptHandler)(k:tr->Str->Ls->Bool):Bool:=match s with|.ExceptHandler (a5 t) (a5 n) b _=>dg b λb=>k t n b|_=>cb
def kj(h:r_ s k=b7):∃t n b p,s=.ExceptHandler (a5 t) (a5 n) [b] p/\k t n b=b7:=by
 unfold r_ at h;split at h
 .have⟨b,rfl,a⟩:=aX h;show⟨_,_,_,_,rfl,a⟩
 .cases h
abbrev y_(s:Ls)(k:Str->tr->Bool):Bool:=lJ s λt v=>bU t λy=>k y v
def iH(h:y_ s k=b7):∃y p v a,s=.Assign [.Name y p] v a/\k y v=b7:=by
 have⟨t,v,a,rfl,z⟩:=en h;have⟨y,p,rfl,z⟩:=az z;show⟨y,p,v,a,rfl,z⟩
abbrev BL(e:tr)(k:Str->Pos->Bool):Bool:=match e with|.Name x p=>k x p|_=>cb
def t7(h:BL e k=b7):∃x p,e=.Name x p/\k x p=b7:=by
 unfold BL at h;split at h
 .show⟨_,_,rfl,h⟩
 .cases h
abbrev lK(s:Ls)(k:Option tr->Bool):Bool:=match s with|.Return v _=>k v|_=>cb
def gj(h:lK s k=b7):∃v p,s=.Return v p/\k v=b7:=by
 unfold lK at h;split at h
 .show⟨_,_,rfl,h⟩
 .cases h
abbrev BM(v:Option tr)(k:tr->Bool):Bool:=match v with|some e=>k e|none=>cb
def lL(h:BM v k=b7):∃e,v=a5 e/\k e=b7:=by
 cases v with
 |none=>cases h
 |some e=>show⟨e,rfl,h⟩
abbrev wy(s:Ls)(k:tr->List Ls->List Ls->Bool):Bool:=match s with|.If c a b _=>k c a b|_=>cb
def qu(h:wy s k=b7):∃c a b p,s=.If c a b p/\k c a b=b7:=by
 unfold wy at h;split at h
 .show⟨_,_,_,_,rfl,h⟩
 .cases h
abbrev wz(s:Ls)(k:tr->tr->List Ls->Bool):Bool:=match s with|.For t i b o _=>o.isEmpty&&k t i b|_=>cb
def qv(h:wz s k=b7):∃t i b p,s=.For t i b [] p/\k t i b=b7:=by
 unfold wz at h;split at h
 .rw[b8,Lu]at h;have⟨rfl,h⟩:=h;show⟨_,_,_,_,rfl,h⟩
 .cases h
abbrev BN(s:Ls)(k:tr->List Ls->Bool):Bool:=match s with|.While c b o _=>o.isEmpty&&k c b|_=>cb
def t8(h:BN s k=b7):∃c b p,s=.While c b [] p/\k c b=b7:=by
 unfold BN at h;split at h
 .rw[b8,Lu]at h;have⟨rfl,h⟩:=h;show⟨_,_,_,rfl,h⟩
 .cases h
abbrev oQ(n:Nat)(s:Ls):Bool:=match s with|.Break _=>n==0|.Continue _=>n==1|.Pass _=>n==2|_=>cb
def gk(h:oQ n s=b7):(n=0/\∃p,s=.Break p)\/(n=1/\∃p,s=.Continue p)\/(n=2/\∃p,s=.Pass p):=by
 unfold oQ at h;split at h
 .show .inl ⟨by simpa using h,_,rfl⟩
 .show .inr (.inl ⟨by simpa using h,_,rfl⟩)
 .show .inr (.inr ⟨by simpa using h,_,rfl⟩)
 .cases h
abbrev KR(a:Lc)(n:Str):List tr->List Str->Bool
 |[],[]=>b7
 |e::es,D::b=>qp e "isinstance" (λas=>kb as λx y=>isNm x n&&isNm y D)&&FQ a D&&bc D&&KR a n es b
 |_,_=>cb
abbrev BO(v:tr)(k:List tr->Bool):Bool:=match v with|.List es _=>k es|_=>cb
def t9(h:BO v k=b7):∃es p,v=.List es p/\k es=b7:=by
 unfold BO at h;split at h
 .show⟨_,_,rfl,h⟩
 .cases h
abbrev Qs(N:List Str)(a:Lc)(b:List Str)(s:Ls):Bool:=match N with
 |n::_=>lK s λv=>BM v λv=>BO v λes=>qi a n&&bc n&&FQ a "isinstance"&&c4 (b.length<100)&&KR a n es b
 |[]=>cb
abbrev Qt(k:Ck)(f x c:Str)(a:Lc):Bool:=c4 (f∈k.fns)&&FQ a f&&bc f&&c4 ((c,x)∈k.xd)&&FQ a x&&bc x
abbrev EF(v:tr)(g n:Str):Bool:=qp v g λas=>dg as λa=>isNm a n
abbrev Qu(k:Ck)(f x c:Str)(a:Lc):Bool:=c4 (f∈k.fns)&&FQ a f&&bc f&&c4 ((c,x)∈k.xd)&&FQ a x&&bc x&&FQ a c&&bc c&&FQ a "isinstance"
abbrev DI(v:tr)(n c:Str):Bool:=qp v "isinstance" λas=>kb as λx y=>isNm x n&&isNm y c
def t_(h:DI v n c=b7):∃b d e f,v=.Call (.Name "isinstance" b) [.Name n d,.Name c e] [] f:=by
 have⟨as,b,f,rfl,g⟩:=cZ h;have⟨x,y,rfl,a⟩:=cH g;rw[b8]at a;have⟨d,rfl⟩:=cn a.1;have⟨e,rfl⟩:=cn a.2;show⟨_,_,_,_,rfl⟩
mutual
noncomputable def wA(k:Ck):S->List Str->Lc->Ls->Bool
 |.set i e,N,d,s=>lJ s λt v=>BL t λx p=>c4 (N[i]?=a5 x)&&j_ d x&&c4 (d.kind=.function)&&bI k e N d v&&(de v||L5 d x p.line v||(match v with|.ListComp _ _ _ _=>b7|_=>cb))&&(match e with|.comp _ _ _ _ _ _=>b7|_=>de v)
 |.G' is e,N,d,s=>lJ s λt v=>rW t λ_=>KQ b7 N d (λ_=>b7) is t&&de v&&BC v&&bI k e N d v
 |.put i a b,N,d,s=>lJ s λt u=>lE t λo w=>bU o λx=>c4 (N[i]?=a5 x)&&qi d x&&bc x&&de u&&jw w&&bI k a N d w&&bI k b N d u
 |.app i e,N,d,s=>lI s λc=>nu c λo m h as B=>bU o λx=>dg as λa=>c4 (m="append")&&c4 (N[i]?=a5 x)&&qi d x&&bc x&&(h.endLine==B.line)&&noStar a&&bI k e N d a
 |.ext i e,N,d,s=>lI s λc=>nu c λo m h as B=>bU o λx=>dg as λa=>c4 (m="extend")&&c4 (N[i]?=a5 x)&&qi d x&&bc x&&(h.endLine==B.line)&&noStar a&&bI k e N d a
 |.bad,_,_,_=>b7
 |.newD _,_,_,_=>cb
 |.aug _ _ _ _,_,_,_=>cb
 |.MG _,_,_,_=>cb
 |.putD _ _ _,_,_,_=>cb
 |.IS _ _ _,_,_,_=>cb
 |.exp e,N,d,s=>lI s λA=>de A&&bI k e N d A
 |.ret e,N,d,s=>lK s λv=>BM v λA=>bI k e N d A
 |.IT,N,d,s=>lK s λv=>v.isNone
 |.ite c a b,N,d,s=>wy s λC w u=>bI k c N d C&&cE k a N d w&&cE k b N d u
 |.FL t is L src body,N,d,s=>wz s λJ l D=>KQ t N d (λ_=>b7) is J&&qh l&&(match fg d J L l with
    |some as=>aE k src N d as
    |none=>cb)&&cE k body N d D
 |.MH c body,N,d,s=>BN s λC D=>bI k c N d C&&cE k body N d D
 |.brk,_,_,s=>oQ 0 s
 |.cnt,_,_,s=>oQ 1 s
 |.LJ _,_,_,_=>cb
 |.IU c e,N,d,s=>wx s λr=>qp r c λas=>dg as λa=>c4 (c∈k.xc)&&FQ d c&&bc c&&noStar a&&bI k e N d a
 |.knd q,N,d,s=>Qs N d q s
 |.GY i f es x c j m g q bs,N,d,s=>r9 s λb G=>r_ G λt n H=>y_ b λy v=>y_ H λz I=>(isNm t x&&EF I g n&&qp v f λas=>!as.isEmpty&&aE k es N d as)&&Qt k f x c d&&(c4 ((g,q)∈k.xk)&&c4 (q.length=bs.length)&&(q.zip bs).all (λr=>c4 ((c,r.1,r.2)∈k.xi))&&FQ d g&&bc g)&&(c4 (N[i]?=a5 y)&&j_ d y&&c4 (N[j]?=a5 n)&&c4 (d.names.lookup n=a5 .local)&&bc n&&c4 (N[m]?=a5 z)&&j_ d z)
 |.J0 i f es x c j,N,d,s=>r9 s λb G=>r_ G λt n H=>lI b λv=>y_ H λy I=>(isNm t x&&DI I n c&&qp v f λas=>!as.isEmpty&&aE k es N d as)&&Qu k f x c d&&(c4 (N[i]?=a5 y)&&j_ d y&&c4 (N[j]?=a5 n)&&c4 (d.names.lookup n=a5 .local)&&bc n)
 |.MI,_,_,s=>oQ 2 s
noncomputable def cE(k:Ck):List S->List Str->Lc->List Ls->Bool
 |[],_,_,a=>a.isEmpty
 |s::ss,N,b,a=>match a with
  |s'::a=>wA k s N b s'&&cE k ss N b a
  |[]=>cb
end
section
variable{ck:Ck}{Γ:Tab}{C:Ct}{d:Nat}{X:Cx}
def kl(h:j_ a x=b7):Loc a x:=by
 unfold j_ at h;simp only[Jb,Yq]at h;show h
def km(h:de v=b7):Qg v t a env=pure cb:=by
 cases v<;>first|rfl|cases h
def sd(h:de v=b7):Rr [t] v a env=pure cb:=by
 rw[Rr];show km h
def za(h:jw i=b7):∀v,Rz (.Subscript o i p) env v=(do
   let a <-Ou [v] (Ka o env)
   let b <-Ou [v,a] (Ka i env)
   Wk p
   Ou [v,a,b] (Wm a b v)
   release [v,a,b] []):=by
 intro v;cases i<;>first|rfl|cases h
structure Gs(ck:Ck)(Γ:Tab)(C:Ct)(d:Nat)(X:Cx):Prop where
 gd:Gd ck Γ C d X
 nd:X.N.Nodup
 fn:∀x,X.fn x=b7
 po:Vc (ko X.prog X.w) X.A X.env X.xe
 kd:X.env.scope.kind=.function
 xs:Jy ck X.K X.mg
 xl:∀c H',C.xw (.str c) H'->∀C' T H pins σ s e s',PySem.W.nsIn X.K mA c=a5 (a5 (.ref C'))->Inv X pins σ H s->br X.prog X.w X.stack H s e C' T .none H' s'->X.xe (.ref e) s'
 sk:X.stack=X.env::X.outer/\X.env.frame=a5 X.env.locals
 ex:X.ex=[]
def se(g:Gd ck Γ C d X)(h:(match fg X.env.scope f i b with|some as=>aE ck src X.N X.env.scope as|none=>cb)=b7):PI X f b (Iu C i (bp Γ src)):=by
 split at h
 .rename_i as has;show zP g has (h_ src X _ g h) (λa e=>by
   subst e;cases src with
   |nil=>simp[aE]at h
   |cons c j =>
    cases j with
    |nil =>
     simp only[aE,b8]at h;show⟨c,rfl,bx c X _ g h.1.2⟩
    |cons _ _=>simp[aE]at h) (bO h)
 .cases h
def kn{pos p a:Pos}(hk:X.env.scope.kind=.function):Qg (.ListComp elt gens s pos) (a5 (.Name x p)) a.line X.env=pure (L5 X.env.scope x p.line (.ListComp elt gens s pos)):=by
 have b:X.env.blockKind=.function:=by
  unfold Env.blockKind;rw[hk];rfl
 change(pure (X.env.blockKind==.function&&X.env.kindOf x==a5 .local&&p.line==pos.line&&!(s.names.any λ(n,k)=>n==x&&(k==.local||k==.cell))):Sem Bool)=_;rw[b];unfold L5;congr 1
 have:(X.env.kindOf x==a5 NameKind.local)=c4 (X.env.scope.names.lookup x=a5 .local):=by
  unfold Env.kindOf;rw[pj];simp
 rw[this];rfl
def BP{src cond:List E}(G:Gs ck Γ C d X)(l:X.N[i]?=a5 x)(A:j_ X.env.scope x=b7)
  (h:bI ck (.comp n t m src cond e) X.N X.env.scope (.ListComp elt [⟨o,a,b,0⟩] scope pos)=b7) (ns:Nat->Bool) (q:∀j,ns j=b7->j≠i) :
  L2.PS X (.Assign [.Name x p] (.ListComp elt [⟨o,a,b,0⟩] scope pos) Hq) (Fs C ns (ev Γ (.comp n t m src cond e) >>= λr=>cO i r >>= λ_=>pure .nx)):=by
 have g:=G.gd;have u:=bx (.comp n t m src cond e) X _ g h;cases f:L5 X.env.scope x p.line (.ListComp elt [⟨o,a,b,0⟩] scope pos) with
 |false=>show zN q G.nd l (kl A) (.inl (G.fn x)) u (by rw[kn G.kd,f])
 |true =>
  have hl:X.env.scope.names.lookup x=a5 .local:=by
   simp only[L5,b8,Yq]at f;show f.1.1
  have⟨S9,T7,Qv,S_,O3,p',B,v⟩:=iF h;cases B;clear h u;simp only[b8,Yq]at v;obtain⟨⟨⟨⟨⟨⟨⟨J,L⟩,O⟩,T⟩,Y⟩,h6⟩,c⟩,h8⟩:=v;subst J;have S:=u4 (X:=X) rfl (lH _ _) L;show Bz q S g.calm G.nd l hl (se g Y) (λD s H ex=>rX (fa:=λx=>c4 (scope.names.lookup x=a5 .cell)) g.calm g.K S.nd (λ_ z=>z) O)
   (λD s H ex=>by
    cases b with
    |nil =>
     cases cond with
     |nil=>show λpins s σ H Q I ⟨y,k,e2,ok,w⟩=>qZ pins s σ H Q I (by subst k e2;rw[show aQ Γ []=pure b7 from rfl,aj]at w;show w y rfl rfl ok (Nx.refl y))
     |cons _ _=>simp[aE]at c
    |cons c1 cs =>
     cases cs with
     |nil =>
      cases cond with
      |nil=>simp[aE]at c
      |cons k Fo =>
       cases Fo with
       |nil =>
        simp only[aE,b8]at c;show q9 (nv k (FH X _ scope D s H ex) c1 (g.cx _ _ _ _ _ _) c.1.2)
       |cons _ _=>simp[aE]at c
     |cons _ _=>simp at h6)
   (λD s H ex=>bx e (FH X _ scope D s H ex) elt (g.cx _ _ _ _ _ _) h8) (by rw[kn G.kd,f]) (qr T)
def zb(G:Gs ck Γ C d X)(h:wA ck (.IU c e) X.N X.env.scope s'=b7):L2.PS X s' (Fs C (KH (.IU c e)) (exec Γ (.IU c e))):=by
 have⟨r,t,rfl,f⟩:=qt h;have⟨as,p1,p2,rfl,g⟩:=cZ f;have⟨a,rfl,b⟩:=aX g;simp only[b8,Yq]at b;obtain⟨⟨⟨⟨i,j⟩,k⟩,l⟩,m⟩:=b;have⟨n,o,p,q⟩:=G.xs.xc _ i;show Dy G.gd.calm (bH j) o (aD k).1 q (bx e X a G.gd m) (bh (es:=[]) l) λH' w pins σ s e s' I F=>G.xl _ H' w n b6 H' pins σ s e s' p I F
def zc(G:Gs ck Γ C d X)(h:wA ck (.GY i f es x c j m g k bs) X.N X.env.scope s'=b7):L2.PS X s' (Fs C (KH (.GY i f es x c j m g k bs)) (exec Γ (.GY i f es x c j m g k bs))):=by
 have⟨b,hd,p,rfl,l⟩:=ki h;have⟨t0,n,o,OS,rfl,q⟩:=kj l;have⟨y,p1,v,p4,rfl,s⟩:=iH q;have⟨z,p6,v2,LW,rfl,t⟩:=iH s;clear h l q s;simp only[b8,Yq,Qt]at t;obtain⟨⟨⟨⟨⟨u,A⟩,B⟩,⟨⟨⟨⟨⟨O,Q⟩,T⟩,Y⟩,o⟩,b3⟩⟩,⟨⟨⟨⟨k1,k2⟩,k3⟩,k4⟩,k5⟩⟩,⟨⟨⟨⟨⟨⟨d2,d3⟩,d4⟩,d5⟩,D⟩,d7⟩,d8⟩⟩:=t;have⟨p5,rfl⟩:=cn u;have⟨T8,p8,Ja,rfl,c5⟩:=cZ A;have⟨T9,rfl,c6⟩:=aX c5;have⟨p9,rfl⟩:=cn c6;have⟨as,p2,p3,rfl,H⟩:=cZ B;rw[b8,vl]at H;have⟨a4,I⟩:=H;clear u A B;have J:=bO I;have⟨np,fa,fd,ps,q1,q2,q3,q4,q5,q6⟩:=(G.gd.fns _ O).ex;have⟨Cc,Cd,r1,r2,r3,r4⟩:=G.xs.xd _ Y;have⟨ga,gd,T_,g1,g2,g3,g4⟩:=G.xs.xk _ k1 c bs k2 (λr hr=>Yv (ri.mp k3 r hr));have gn:Gd ck Γ C d X.GD:=Gd.GD G.gd;cases as with
 |nil=>cases a4
 |cons e0 L =>
  have st:=bh (env:=X.env) (es:=L) (J e0 (by simp));have sn:=(bo (pos:=p3) (env:=X.env) (es:=L) λe he=>J e (by simp[he])).1;show DB (λn a=>by have a:(c4 (n≠i)&&c4 (n≠m)&&c4 (n≠j))=b7:=a;simpa[and_assoc] using a) G.nd d2 (kl d3) (G.fn _) d4 d5 d7 (kl d8) (G.fn _) G.gd.P G.gd.w G.gd.K rfl q5 q6 q1 G.gd.room (bH Q) q2 q3 q4 (aD T).1 (h_ es X.GD _ gn I) st sn G.sk G.ex (bH o) r3 (aD b3).1 r2 r4 (g1 _ _ _) (bH k4) g2 g3 g4 (aD k5).1 (aD D).1 (aD D).2
def zd(G:Gs ck Γ C d X)(h:wA ck (.J0 i f es x c j) X.N X.env.scope s'=b7):L2.PS X s' (Fs C (KH (.J0 i f es x c j)) (exec Γ (.J0 i f es x c j))):=by
 have⟨b,hd,p,rfl,g⟩:=ki h;have⟨t0,n,k,OS,rfl,l⟩:=kj g;have⟨v,p4,rfl,m⟩:=ef l;have⟨y,p6,v2,LW,rfl,o⟩:=iH m;clear h g l m;simp only[b8,Yq,Qu]at o;obtain⟨⟨⟨⟨q,r⟩,s⟩,⟨⟨⟨⟨⟨⟨⟨⟨D,H⟩,I⟩,J⟩,k⟩,L⟩,O⟩,Q⟩,T⟩⟩,⟨⟨⟨⟨Y,d3⟩,d4⟩,d5⟩,t⟩⟩:=o;have⟨p5,rfl⟩:=cn q;have⟨p8,p9,LV,Ja,rfl⟩:=t_ r;have⟨as,p2,p3,rfl,u⟩:=cZ s;rw[b8,vl]at u;have⟨a4,z⟩:=u;clear q r s;have A:=bO z;have⟨np,fa,fd,ps,q1,q2,q3,q4,q5,q6⟩:=(G.gd.fns _ D).ex;have⟨Cc,Cd,r1,r2,r3,r4⟩:=G.xs.xd _ J;have gn:Gd ck Γ C d X.GD:=Gd.GD G.gd;cases as with
 |nil=>cases a4
 |cons e0 B =>
  have st:=bh (env:=X.env) (es:=B) (A e0 (by simp));have sn:=(bo (pos:=p3) (env:=X.env) (es:=B) λe he=>A e (by simp[he])).1;show Dz (λn a=>by have a:(c4 (n≠i)&&c4 (n≠j))=b7:=a;simpa using a) G.nd Y (kl d3) (G.fn _) d4 d5 G.gd.P G.gd.w G.gd.K rfl q5 q6 q1 G.gd.room (bH H) q2 q3 q4 (aD I).1 (h_ es X.GD _ gn z) st sn G.sk (bH k) r3 (aD L).1 (bH O) r1 r2 (aD Q).1 r4 (bH T) (G.gd.blt _ hZ) (aD t).1 (aD t).2
mutual
theorem EG:∀(s:S) (X:Cx) (s':Ls),Gs ck Γ C d X->wA ck s X.N X.env.scope s'=b7->L2.PS X s' (Fs C (KH s) (exec Γ s))
 |.set i e,X,s',G,h=>by
  have⟨t,v,p1,rfl,k⟩:=en h;have⟨x,p,rfl,B⟩:=t7 k;clear h k;have h:=B;simp only[b8,Yq]at h;obtain⟨⟨⟨⟨⟨y,A⟩,J⟩,q⟩,L⟩,O⟩:=h;have Fx:∀j,KH (.set i e) j=b7->j≠i:=λj r=>Yv (show c4 (j≠i)=b7 from r);by_cases hc:de v=b7
  .show zN Fx G.nd y (kl A) (.inl (G.fn x)) (bx e X v G.gd q) (km hc)
  .cases e with
   |comp n t ik src cond e =>
    obtain⟨elt,tg,Y,ac,scope,p3,rfl,_⟩:=iF q;show BP G y A q _ Fx
   |_=>show absurd O hc
 |.G' is e,X,s',G,h=>by
  have⟨t,v,p1,rfl,k⟩:=en h;have⟨es,kk,p,rfl,B⟩:=kf k;clear h k;have h:=B;simp only[b8]at h;obtain⟨⟨⟨y,A⟩,J⟩,q⟩:=h;show BA (λj r=>Yv (show c4 (j∉is)=b7 from r)) (bx e X v G.gd q) (rX (fa:=λ_=>b7) G.gd.calm G.gd.K G.nd (λx _=>G.fn x) y) (sd A) ?_ rfl;cases v<;>first|rfl|cases J
 |.put i a b,X,s',G,h=>by
  have⟨t,v,p,rfl,k⟩:=en h;have⟨o,a',p1,rfl,B⟩:=d9 k;have⟨x,px,rfl,Q⟩:=az B;simp only[b8,Yq]at Q;obtain⟨⟨⟨⟨⟨⟨y,A⟩,J⟩,q⟩,L⟩,O⟩,h7⟩:=Q;have⟨q1,q2⟩:=aD J;show Dx G.gd.P G.gd.w G.gd.K G.gd.u y (iG A) q1 q2 (bx b X _ G.gd h7) (bx a X _ G.gd O) (sd q) rfl (za L)
 |.app i e,X,s',G,h=>by
  have⟨c,p0,rfl,k⟩:=ef h;have⟨o,m,ab,as,EM,rfl,B⟩:=fh k;have⟨x,px,rfl,Q⟩:=az B;have⟨a,rfl,z4⟩:=aX Q;simp only[b8,Yq]at z4;obtain⟨⟨⟨⟨⟨⟨rfl,y⟩,A⟩,J⟩,q⟩,L⟩,O⟩:=z4;have⟨q1,q2⟩:=aD J;have st:=bh (env:=X.env) (es:=[]) L;have sa:=(bo (pos:=EM) (env:=X.env) (es:=[a]) λe he=>by simp at he;subst he;show L).2;show Dv G.gd.K y (iG A) q1 q2 (bx e X _ G.gd O) ?_ q st;rw[sa];rfl
 |.ext i e,X,s',G,h=>by
  have⟨c,p0,rfl,k⟩:=ef h;have⟨o,m,ab,as,EM,rfl,B⟩:=fh k;have⟨x,px,rfl,Q⟩:=az B;have⟨a,rfl,z4⟩:=aX Q;simp only[b8,Yq]at z4;obtain⟨⟨⟨⟨⟨⟨rfl,y⟩,A⟩,J⟩,q⟩,L⟩,O⟩:=z4;have⟨q1,q2⟩:=aD J;have st:=bh (env:=X.env) (es:=[]) L;have sa:=(bo (pos:=EM) (env:=X.env) (es:=[a]) λe he=>by simp at he;subst he;show L).2;show Dw G.gd.K y (iG A) q1 q2 (bx e X _ G.gd O) ?_ q st;rw[sa];rfl
 |.bad,X,s',G,h=>λpins T σ H D I ⟨_,_,_,_,w⟩=>(aU.mp w).elim
 |.aug sub i a e,X,s',G,h=>λpins T σ H D I ⟨_,_,_,_,w⟩=>(aU.mp w).elim
 |.MG i,X,s',G,h=>λpins T σ H D I ⟨_,_,_,_,w⟩=>(aU.mp w).elim
 |.newD i,X,s',G,h=>λpins T σ H D I ⟨_,_,_,_,w⟩=>(aU.mp w).elim
 |.putD i a b,X,s',G,h=>λpins T σ H D I ⟨_,_,_,_,w⟩=>(aU.mp w).elim
 |.IS i a e,X,s',G,h=>λpins T σ H D I ⟨_,_,_,_,w⟩=>(aU.mp w).elim
 |.exp e,X,s',G,h=>by
  have⟨e',p,rfl,l⟩:=ef h;clear h;have h:=l;simp only[b8]at h;show Dp (bx e X _ G.gd h.2) (km h.1)
 |.ret e,X,s',G,h=>by
  have⟨v,p,rfl,l⟩:=gj h;have⟨e',rfl,k⟩:=lL l;clear h l;have h:=k;show Dq (bx e X _ G.gd h)
 |.IT,X,s',G,h=>by
  have⟨v,p,rfl,l⟩:=gj h;cases v with
  |none=>show By
  |some _=>cases l
 |.ite c a b,X,s',G,h=>by
  have⟨c',a',b',p,rfl,l⟩:=qu h;clear h;have h:=l;simp only[b8]at h;have ha:=kq a X _ G h.1.2;have hb:=kq b X _ G h.2;show Dr (nv c X _ G.gd h.1.1) (FF.weak ha λD σ H z=>ng (λj r=>(Ij.mp (show(Gi a j&&Gi b j)=b7 from r)).1) z) (FF.weak hb λD σ H z=>ng (λj r=>(Ij.mp (show(Gi a j&&Gi b j)=b7 from r)).2) z)
 |.FL t is ik src body,X,s',G,h=>by
  have⟨tg,Y,GS,p,rfl,l⟩:=qv h;clear h;have h:=l;rw[b8,b8,b8]at h;show Du G.po G.gd.calm (se G.gd h.1.2) (rX (fa:=λ_=>b7) G.gd.calm G.gd.K G.nd (λx _=>G.fn x) h.1.1.1) (kq body X _ G h.2) (qr h.1.1.2) λj r=>by have r:(c4 (j∉is)&&Gi body j)=b7:=r;simpa using r
 |.MH c body,X,s',G,h=>by
  have⟨c',GS,p,rfl,l⟩:=t8 h;clear h;have h:=l;simp only[b8]at h;show Dt G.po (nv c X _ G.gd h.1) (kq body X _ G h.2)
 |.brk,X,s',G,h=>by
  rcases gk h with⟨_,p,rfl⟩|⟨e,_⟩|⟨e,_⟩
  .show Dl
  .cases e
  .cases e
 |.cnt,X,s',G,h=>by
  rcases gk h with⟨e,_⟩|⟨_,p,rfl⟩|⟨e,_⟩
  .cases e
  .show Dm
  .cases e
 |.LJ is,X,s',G,h=>absurd (show cb=b7 from h) oa
 |.IU c e,X,s',G,h=>zb G h
 |.knd _,X,s',G,h=>λpins T σ H D I ⟨_,_,_,_,w⟩=>(aU.mp w).elim
 |.GY i f es x c j m g Ds bs,X,s',G,h=>zc G h
 |.J0 i f es x c j,X,s',G,h=>zd G h
 |.MI,X,s',G,h=>by
  rcases gk h with⟨e,_⟩|⟨e,_⟩|⟨_,p,rfl⟩
  .cases e
  .cases e
  .show Dn
theorem kq:∀(ss:List S) (X:Cx) (a:List Ls),Gs ck Γ C d X->cE ck ss X.N X.env.scope a=b7->FF X a (Fs C (Gi ss) (execs Γ ss))
 |[],X,a,G,h=>by
  cases a with
  |nil=>show Dk
  |cons _ _=>simp[cE]at h
 |s::ss,X,a,G,h=>by
  cases a with
  |nil=>simp[cE]at h
  |cons s' a =>
   simp only[cE,b8]at h;have c:=EG s X s' G h.1;have e:=kq ss X a G h.2;show Bx (PS.weak c λD σ H z=>ng (λj b=>by simp only[Gi,b8]at b;show b.1) z) (FF.weak e λD σ H z=>ng (λj b=>by simp only[Gi,b8]at b;show b.2) z)
end
end
section
variable{ck:Ck}{Γ:Tab}{d:Nat}{P:vu}{w:DD}{K:PySem.W.Frag}{mg:Str->Option d6}{base:IE}
def iI{n i:Nat}(h:(start us n)[i]?=a5 (a5 (k,u))):us[i]?=a5 u/\k=if Fc u=b7 then .loc else .any:=by
 unfold start at h;by_cases a:i<us.length
 .rw[ve (by simpa using a),nt]at h;rw[z8 a]at h ⊢;simp only[ON,Vg,WM]at h;have⟨b,c⟩:=h;subst c;show⟨rfl,b.symm⟩
 .rw[va (by simp;lia),Ii]at h;split at h<;>cases h
def cI{i:Nat}(h:vs[i]?=a5 v):(L2.start N vs)[i]?=a5 (a5 v):=by
 unfold L2.start;have a:i<vs.length:=(hQ.mp h).1;rw[ve (by simpa using a),nt,h];rfl
def wB(p:∀a,c a->FY H a)(h:ao ⟨P,w,K,H,c,λ_=>False,q⟩ c H us vs)(s:N.length=n):Ok ⟨P,w,K,H,c,λ_=>False,q⟩ ⟨λ_=>False,H,L2.start N vs,start us n,λ_=>[]⟩:=by
 have f:∀(j:Nat) (u:U),(start us n)[j]?≠a5 (a5 (.ES,u)):=λj u e=>by
  have:=(iI e).2;split at this<;>cases this
 show⟨λa o e _=>e,λa z=>z.elim,λa z=>⟨p a z,λz=>z⟩,λa z=>z.elim,?_,λi k u e=>?_,λi j k k' u u' r hk x g m y A=>?_,⟨λj u r e _=>(f j u e).elim,λi j a ⟨u,_,e,_⟩=>(f i u e).elim,λj a ⟨u,_,e,_⟩=>(f j u e).elim⟩⟩
 .have:=h.len;simp[start,L2.start,s];lia
 .have⟨g,m⟩:=iI e;have⟨v,ev,b⟩:=h.get g;show⟨v,cI ev,?_⟩;subst m;by_cases l:Fc u=b7
  .rw[Yr l];show Rep.Fc l b
  .rw[Yt l];show Rep.mv (.up λa z=>.inl z) b
 .obtain⟨_,t⟩:=iI g;subst t;split at hk<;>cases hk
def ny(h:bu Γ fn us=a5 (.ok (k,u))):us.length=fn.np/\((k=.own\/k=.loc\/k=.any)/\(∃st',execs Γ fn.body (start us fn.ns)=a5 (.ok (.rt k u),st'))\/(k=.loc/\u=.EU/\∃st',execs Γ fn.body (start us fn.ns)=a5 (.ok .nx,st'))):=by
 unfold bu at h;split at h
 .rename_i hl;show⟨hl,?_⟩;split at h
  .rename_i e;cases h;show .inl ⟨.inl rfl,_,e⟩
  .rename_i e;cases h;show .inl ⟨.inr (.inl rfl),_,e⟩
  .rename_i e;cases h;show .inl ⟨.inr (.inr rfl),_,e⟩
  .rename_i e;cases h;show .inr ⟨rfl,rfl,_,e⟩
  .cases h
  .cases h
 .cases h
def oR(h:bu Γ fn us=a5 (.exc c)):us.length=fn.np/\∃st',execs Γ fn.body (start us fn.ns)=a5 (.ok (.rt .io (.str c)),st'):=by
 unfold bu at h;split at h
 .rename_i hl;show⟨hl,?_⟩;split at h
  .cases h
  .cases h
  .cases h
  .cases h
  .rename_i e;cases h;show⟨_,e⟩
  .cases h
 .cases h
def zS{st:Ls}(F:Ji K fn.name i st f fd)(S:cJ N J (aF st))(hN:N.length=fn.ns)(Gz:J.length=fn.np)
  (Kb:cE ck fn.body N (aF st) (b_ st)=b7) (t:∀x∈bt,mg x=b6) (y:∀g∈ck.fns,y6 P w K mg base d (Γ g) g)
  (Hl:∀p∈ck.gl,∃val v,mg p.1=a5 val/\RelV v val/\∀(C:Ct) S H,Rep C S H p.2 v) (Gu:∀p∈ck.Gu,y7 P w K mg base d (Γ p.1) p.1 p.2) (xs:Jy ck K mg):gD P w K mg base (HA P w) (d+1) f fd J (spT P w K (bu Γ fn) fn.np):=by
 have⟨oc,od,kV,ab,pm,an,L,ct,Jh,rfl,lk,FR⟩:=F.ex;show zA lk FR S (λvs H Q E h=>h.1.trans Gz.symm) λA outer s H vs Q E O h=>?_;have⟨hl,us,r,q,Y,Ta,B,b⟩:=h;have IX:=O.un;let l:Ct:=⟨P,w,K,H,q,λ_=>False,λu H'=>∃c,u=.str c/\∀j,PySem.W.nsIn K mA c=a5 (a5 (.ref j))->E (.ref j) b6 H'⟩
 have D:(Ib P w K H q).Eqv l:=⟨rfl,rfl,rfl⟩
 have m:l.Eqv (Ib P w K H q):=⟨rfl,rfl,rfl⟩
 have G:Gs ck Γ l d (mf (HA P w) P w K mg base N i (aF st) f L A outer s H E) :=
  ⟨⟨rfl,rfl,rfl,by change(A.deeper (P5 i (aF st) s.heap.objs.size f L)).units+60<Ga;lia,rfl,O,t,y,λp hp=>let ⟨val,v,D,m,q3⟩:=Hl p hp;⟨val,v,D,m,q3 _⟩,Gu,xs⟩,S.nd,λ_=>rfl,PassesOwn.leaving,S.kind,xs,
   λc H' ⟨c',e1,hE⟩ j T H2 pins σ s2 e s' hm I F=>by
    cases e1;show F.leave I.ok.frames rfl I.stack I.gA λT' GF F'=>⟨e,j,T',H',rfl,F'.down I rfl rfl rfl,hE j hm⟩,⟨rfl,rfl⟩,rfl⟩
 show⟨_,kq fn.body _ _ G Kb,⟨λ_=>False,H,L2.start N vs,start us fn.ns,λ_=>[]⟩,rfl,rfl,wB Ta (B.cg D) hN,?_⟩;cases r with
 |exc c =>
  obtain⟨_,st',e⟩:=oR Y;show⟨_,st',e,λcf ec ok n kp=>⟨c,rfl,λj hC=>b j cf.H hC λa o z=>ok.same a o z λz=>z⟩⟩
 |ok x =>
 have⟨k,u⟩:=x;have⟨hk,b⟩:=b;obtain⟨_,O4⟩:=ny Y;have mk:∀(c:Cf),Ok l c->∀v,Bw l c k u v->Back (Ib P w K H q) H c.H c.S k u v:=λc ok v r=>by
  show⟨λa o e=>ok.same a o e λz=>z,λa z=>ok.G8 a z,λe=>?_,λe=>?_,λe=>?_⟩
  .subst e;have⟨r0,e,h1,h2,h3,h4⟩:=r;show⟨r0,e,h1,h2,h4.cg m⟩
  .subst e;show Rep.cg m r
  .subst e;show Rep.cg m r
 rcases O4 with⟨_,st',e⟩|⟨rfl,rfl,st',e⟩
 .rcases hk with rfl|rfl|rfl<;>show⟨_,st',e,λc ec ok n kp v r=>b v c.H c.S (mk c ok v r)⟩
 .show⟨_,st',e,λc ec ok n kp=>b .EU c.H c.S (mk c ok .EU rfl)⟩
def gp(h:(dw is us n)[i]?=a5 (a5 (k,u))):us[i]?=a5 u/\k=if i∈is then .io else if Fc u=b7 then .loc else .any:=by
 unfold dw at h;by_cases a:i<us.length
 .rw[ve (by simpa using a),nt,List.getElem?_zipIdx]at h;rw[z8 a]at h ⊢;simp only[ON,Vg,WM,Pn]at h;have⟨b,c⟩:=h;subst c;show⟨rfl,b.symm⟩
 .rw[va (by simp;lia),Ii]at h;split at h<;>cases h
def ua(a:BB C C.H₀ is us vs)(t:N.length=n):Ok C ⟨λ_=>False,C.H₀,L2.start N vs,dw is us n,λ_=>[]⟩:=by
 have h:∀(j:Nat) (u:U),(dw is us n)[j]?≠a5 (a5 (.ES,u)):=λj u e=>by
  have:=(gp e).2;split at this
  .cases this
  .split at this<;>cases this
 have rt:∀(j:Nat) (k:Kd) (u:U),k.root=b7->(dw is us n)[j]?=a5 (a5 (k,u))->j∈is/\us[j]?=a5 u:=λj k u hk e=>by
  have⟨f,b⟩:=gp e;show⟨?_,f⟩;by_cases z:j∈is
  .show z
  .rw[Yt z]at b;subst b;split at hk<;>cases hk
 show⟨λa o e _=>e,λa z=>z.elim,λx z=>a.par x z,λx z=>⟨a.Qm x z,a.Qm x z⟩,?_,λi k u e=>?_,λi j k k' u u' r hk y f b m p=>?_,⟨λj u r e _=>(h j u e).elim,λi j a ⟨u,_,e,_⟩=>(h i u e).elim,λj a ⟨u,_,e,_⟩=>(h j u e).elim⟩⟩
 .have:=a.len;simp[dw,L2.start,t];lia
 .have⟨f,b⟩:=gp e;by_cases z:i∈is
  .rw[Yr z]at b;subst b;have⟨r,g,c,A⟩:=a.io i u z f;show⟨_,cI g,r,rfl,λz=>z,λz=>(a.par r z).2 c,c,A⟩
  .rw[Yt z]at b;have⟨v,g,c⟩:=a.any i u z f;show⟨v,cI g,?_⟩;subst b;by_cases l:Fc u=b7
   .rw[Yr l];show Rep.Fc l c
   .rw[Yt l];show Rep.mv (.up λa z=>.inl z) c
 .have⟨q,B⟩:=rt i k u hk f;have⟨s,D⟩:=rt j k' u' y b;obtain⟨G,g,_⟩:=a.io i u q B;obtain⟨H,c,_⟩:=a.io j u' s D;rw[cI g]at m;rw[cI c]at p;cases m;cases p;show a.inj i j _ q s g c
theorem sf:∀{is:List Nat}{st:ar}{ws:List U},LK is st=a5 ws->ws.length=is.length/\∀(n i:Nat),is[n]?=a5 i->∃w,ws[n]?=a5 w/\st[i]?=a5 (a5 (.io,w))
 |[],_,_,h=>by cases h;show⟨rfl,λn i e=>by simp at e⟩
 |i::is,st,ws,h=>by
  unfold LK at h;split at h
  .rename_i u c;rw[et]at h;have⟨k,h,rfl⟩:=h;have⟨a,b⟩:=sf h;show⟨by simp[a],λn j e=>?_⟩;cases n with
   |zero=>simp at e;subst e;show⟨u,rfl,c⟩
   |succ n=>have⟨w,f,g⟩:=b n j (by simpa using e);show⟨w,by simpa using f,g⟩
  .cases h
def sg(h:vI Γ fn is body us=a5 (.ok r)):us.length=fn.np/\∃f st k u ws,execs Γ body (dw is us fn.ns)=a5 (.ok f,st)/\P' f=a5 (k,u)/\LK is st=a5 ws/\r=(k,.tup (u::ws)):=by
 unfold vI at h;split at h
 .rename_i hl;show⟨hl,?_⟩;split at h
  .rename_i f st e;obtain⟨⟨k,u⟩,a,h⟩:=sh.mp h;rw[et]at h;have⟨ws,b,c⟩:=h;cases c;show⟨f,st,k,u,ws,e,a,b,rfl⟩
  .cases h
 .cases h
def BQ{st:Ls}(F:Ji K fn.name b st f fd)(S:cJ N I (aF st))(hN:N.length=fn.ns)(Gz:I.length=fn.np)(Fx:∀i∈is,Gi body i=b7)
  (Kb:cE ck body N (aF st) (b_ st)=b7) (t:∀x∈bt,mg x=b6) (y:∀g∈ck.fns,y6 P w K mg base d (Γ g) g)
  (Hl:∀p∈ck.gl,∃val v,mg p.1=a5 val/\RelV v val/\∀(C:Ct) S H,Rep C S H p.2 v) (Gu:∀p∈ck.Gu,y7 P w K mg base d (Γ p.1) p.1 p.2) (xs:Jy ck K mg):gD P w K mg base JK (d+1) f fd I (MQ P w K (vI Γ fn is body) fn.np is):=by
 show F.ok S (λvs H Q E h=>h.1.trans Gz.symm) (λJ A outer s H vs Q E L h=>?_);have⟨hl,us,k,u,ws,l,IO,Fi,hk,B,j⟩:=h;have IX:=L.un;have G:Gs ck Γ (Ie P w K H l IO) d (mf JK P w K mg base N b (aF st) f J A outer s H E).GD :=
  ⟨⟨rfl,rfl,rfl,by change(A.deeper (P5 b (aF st) s.heap.objs.size f J)).units+60<Ga;lia,rfl,L,t,y,λp hp=>let ⟨val,v,q1,q2,q3⟩:=Hl p hp;⟨val,v,q1,q2,q3 _⟩,Gu,xs⟩,S.nd,λ_=>rfl,PassesOwn.never,S.kind,xs,λ_ _ z=>z.elim,⟨rfl,rfl⟩,rfl⟩
 show⟨_,kq body _ _ G Kb,⟨λ_=>False,H,L2.start N vs,dw is us fn.ns,λ_=>[]⟩,rfl,rfl,ua (C:=Ie P w K H l IO) B hN,?_⟩;obtain⟨_,O,st',k',u',Tc,e,m,e2,e3⟩:=sg Fi;cases e3;have⟨l1,l2⟩:=sf e2;have mk:∀(c:Cf),c.st=st'->Ok (Ie P w K H l IO) c->Kept (Gi body) ⟨λ_=>False,H,L2.start N vs,dw is us fn.ns,λ_=>[]⟩ c->∀v,Bw (Ie P w K H l IO) c k u v->zO (Ie P w K H l IO) H c.H c.S is vs ws k u v:=λc o ok q v r=>by
  show⟨ok.same,λa z=>ok.G8 a z,λe=>?_,λe=>?_,l1,λn i r w T g2 g3=>?_⟩
  .subst e;have⟨r0,e,h1,h2,h3,h4⟩:=r;show⟨r0,e,h1,h2,h4⟩
  .subst e;show r
  .have⟨w',Y,z2⟩:=l2 n i T;rw[g3]at Y;cases Y;rw[<-o]at z2;obtain⟨v',D,r',y2,_,_,_,y3⟩:=ok.sl i _ _ z2;have hi:i∈is:=Hb T;rw[q.1 i (Fx i hi)]at D;rw[show(L2.start N vs)[i]?=a5 (a5 (.ref r)) from cI g2]at D;cases D;cases y2;show y3
 show⟨O,st',e,λc o ok n q=>?_⟩;cases O with
 |nx=>cases m;show j .EU c.H c.S (mk c o ok q .EU rfl)
 |rt k0 u0=>cases k0<;>first|(cases m;done)|(cases m;show λv r=>j v c.H c.S (mk c o ok q v r))
 |_=>cases m
abbrev Fn.bd(fn:Fn):List S:=match fn.io with|some (_,b)=>b|none=>fn.body
abbrev MT(fn:Fn):Bool:=match fn.io with|some (is,b)=>is.all λi=>Gi b i|none=>b7
abbrev MU(ck:Ck)(Pg:List Fn):Bool:=ck.fns.all (λg=>Pg.any λfn=>c4 (fn.name=g)&&fn.io.isNone)&&ck.Gu.all λp=>Pg.any λfn=>c4 (fn.name=p.1)&&c4 (fn.io.map (·.1)=a5 p.2)
abbrev wC:List S->List Str->Bool
 |[.knd a],b=>c4 (a=b)
 |_,_=>cb
def qw(h:wC b a=b7):b=[.knd a]:=by
 unfold wC at h;split at h
 .rw[Yv h]
 .cases h
abbrev MV(ck:Ck)(Pg:List Fn):Bool:=ck.xk.all λq=>Pg.any λfn=>c4 (fn.name=q.1)&&wC fn.bd q.2&&c4 (fn.np=1)
structure Ld(ck:Ck)(K:PySem.W.Frag)(mg:Str->Option d6)(fn:Fn):Prop where
 ex:∃(qual:Str) (st:Ls) (f:gs) (fd:OF) (N ps:List Str),Ji K fn.name qual st f fd/\mg fn.name=a5 (.ref f)/\Binds K fd ps []/\cJ N ps (aF st)/\N.length=fn.ns/\ps.length=fn.np/\cE ck fn.bd N (aF st) (b_ st)=b7/\MT fn=b7
def ze{Pg:List Fn}(a:(Pg.map (·.name)).Nodup)(h:fn∈Pg):Pg.find? (λg=>c4 (g.name=fn.name))=a5 fn:=by
 induction Pg with
 |nil=>cases h
 |cons g Pg b =>
  rw[l3,Hc]at a;rcases fz.mp h with rfl|h
  .simp
  .rw[L8];have:c4 (g.name=fn.name)=cb:=by
    apply Ys;intro z;show a.1 (z▸List.mem_map_of_mem h)
   rw[this];show b a.2 h
def qx(a:(Pg.map (·.name)).Nodup)(h:fn∈Pg):Fp Pg (d+1) fn.name=la (Fp Pg d) fn:=by
 funext us
 change(match Pg.find? λg=>c4 (g.name=fn.name) with|some fn=>la (Fp Pg d) fn us|none=>b6)=_;rw[ze a h]
def lM(h:fn.io=b6):la Γ fn=bu Γ fn:=by funext us;unfold la;rw[h]
def ub(h:fn.io=a5 (is,b)):la Γ fn=vI Γ fn is b:=by funext us;unfold la;rw[h]
def si(T:(Pg.map (·.name)).Nodup)(t:MU ck Pg=b7)(B:∀x∈bt,mg x=b6)(Y:∀p∈ck.gl,∃val v,mg p.1=a5 val/\RelV v val/\∀(C:Ct) S H,Rep C S H p.2 v)
  (ld:∀fn∈Pg,Ld ck K mg fn) (xs:Jy ck K mg):∀d,(∀g∈ck.fns,y6 P w K mg base d (Fp Pg d g) g)/\∀p∈ck.Gu,y7 P w K mg base d (Fp Pg d p.1) p.1 p.2:=by
 simp only[MU,b8,ri,Lw,Yq]at t;intro d;induction d with
 |zero =>
  show⟨λg J=>?_,λp L=>?_⟩
  .obtain⟨fn,j,rfl,_⟩:=t.1 g J;obtain⟨a,st,f,l,N,m,F,n,o,S,D,q,_⟩:=(ld fn j).ex;show⟨fn.np,f,l,m,⟨λvs H Q E h=>h.1.trans q.symm,λA outer s H args us vs Q E _ _ _ _ h=>by obtain⟨_,us,r,_,e,_⟩:=h;cases e⟩,n,F.kp,o,λus k u e=>(by cases e),λus c e=>by cases e⟩
  .obtain⟨fn,j,e,_⟩:=t.2 p L;obtain⟨a,st,f,l,N,m,F,n,o,S,D,q,_⟩:=(ld fn j).ex;show⟨fn.np,f,l,m,⟨λvs H Q E h=>h.1.trans q.symm,λA outer s H args us vs Q E _ _ _ _ h=>by obtain⟨_,us,k,u,_,_,_,e,_⟩:=h;cases e⟩,e▸n,F.kp,o,λus k e=>by cases e⟩
 |succ d I =>
  show⟨λg J=>?_,λp L=>?_⟩
  .have⟨fn,j,rfl,i⟩:=t.1 g J;rw[PD]at i;obtain⟨a,st,f,l,N,m,F,n,o,S,D,q,G,_⟩:=(ld fn j).ex;rw[qx T j,lM i];rw[show fn.bd=fn.body by unfold Fn.bd;rw[i]]at G;show⟨fn.np,f,l,m,zS F S D q G B I.1 Y I.2 xs,n,F.kp,o,λus k u e=>?_,λus c e=>(oR e).1⟩;have⟨h1,h2⟩:=ny e;show⟨?_,h1⟩;rcases h2 with⟨z,_⟩|⟨z,_⟩
   .show z
   .show .inr (.inl z)
  .have⟨fn,j,e,i⟩:=t.2 p L;rw[et]at i;obtain⟨⟨is,b⟩,i,Qw⟩:=i;have⟨x,y⟩:=p
   dsimp only at e Qw
   subst e Qw;have⟨a,st,f,l,N,m,F,n,o,S,D,q,G,O⟩:=(ld fn j).ex;rw[qx T j,ub i];rw[show fn.bd=b by unfold Fn.bd;rw[i]]at G;unfold MT at O;rw[i]at O;show⟨fn.np,f,l,m,BQ F S D q (ri.mp O) G B I.1 Y I.2 xs,n,F.kp,o,λus r e=>(sg e).1⟩
end
abbrev qy(ns:List Int):U:=.lst (ns.map .int)
theorem lN{S:gs->Prop}:∀(ns:List Int),ao C S H (ns.map .int) (ns.map V.int)
 |[]=>rfl
 |n::ns=>⟨_,_,rfl,rfl,lN ns⟩
def qz(h:Fm C.K H a (ns.map V.int)):Rep C (FY H) H (qy ns) (.ref a):=by
 show⟨a,_,rfl,?_,lN ns⟩;rcases h with(h|⟨o,h⟩)|h
 .show .inl ⟨⟨_,h⟩,.inl h⟩
 .show .inl ⟨⟨_,h⟩,.inr ⟨o,h⟩⟩
 .show .inr h
theorem dI:∀{l:List α},(∀a∈l,f a=g a)->l.filterMap f=l.filterMap g
 |[],_=>rfl
 |a::l,h=>by rw[HJ,HJ,h a (by simp),dI λb c=>h b (by simp[c])]
theorem sj:∀(l:List Str) (us:List d6),l.Nodup->us.length=l.length->l.filterMap (λn=>((l.zip us).lookup n).map (n,·))=l.zip us
 |[],_,_,_=>rfl
 |a::l,[],_,h=>nomatch h
 |a::l,u::us,b,h=>by
  rw[Hc]at b;have c:=sj l us b.2 (by simpa using h);simp only[Nq,HJ,tA,beq_self_eq_true,ON];congr 1
  conv=>rhs;rw[<-c]
  show dI λn d=>?_;have:(n==a)=cb:=by
   rw[Yz];rintro rfl;show b.1 d
  rw[this]
def wD(l:List Str)(us:List d6)(h:us.length=l.length):l.filter (λn=>((l.zip us).lookup n).isNone)=[]:=by
 rw[Q5];intro n hn;induction l generalizing us with
 |nil=>cases hn
 |cons a l b =>
  cases us with
  |nil=>cases h
  |cons u us =>
   simp only[Nq,tA];cases e:n==a with
   |true=>simp
   |false =>
    rcases fz.mp hn with rfl|hn
    .simp at e
    .show b us (by simpa using h) hn
def wF{kV a b c ct:d6}(d:(as.map (·.arg)).Nodup)(hl:us.length=(as.map (·.arg)).length):
  Ye (PySem.W.fnOf x q ⟨[],as,b6,[],[],b6,[]⟩ body scope .none kV a b m c ct) ⟨us,[]⟩=pure ((as.map (·.arg)).zip us):=by
 have e:=sj _ us d hl;have f:=wD _ us hl;change(if _ then _ else _)=_;rw[Yt (by simp[hl])];have g:∀k:Nat,¬(!(((as.map (·.arg)).take k).filter λn=>(((as.map (·.arg)).zip us).lookup n).isNone).isEmpty)=b7:=λk=>by
  rw[Q5.mpr λn h=>Q5.mp f n (M3 h)];show oa
 show(Yt (g _)).trans ?_;have hz:∀(l:List Str) (i j:Nat),(l.drop i).zip ((b6.getD #[]:Array d6).toList.drop j)=[]:=λl i j=>by rw[show(b6.getD #[]:Array d6).toList=[] from rfl,List.drop_nil,List.zip_nil_right]
 show Eq.trans (Yy (λz=>Bind.bind (XH z _ _) _) (hz _ _ _)) ?_;show Yy (pure:List (Str×d6)->Sem (List (Str×d6))) ((Yy (List.filterMap _) (w6 _)).trans e)
structure Me where
 fn:Fn
 i:Nat
 N:List Str
 a:gs
 c:gs
 m:d6
 cr:Obj
abbrev Me.fd(top:Nat->Ls)(m:Me):OF:=PySem.W.fnOf m.fn.name m.fn.name (fw (top m.i)) (b_ (top m.i)) (aF (top m.i)) .none .none .none m.m b6 (.ref m.c) .none
abbrev Me.fo(top:Nat->Ls)(m:Me):Obj:=⟨.type "function",b6,.func (m.fd top),#[]⟩
@[reducible]noncomputable def Gx:=Obj×List (gs×Obj)
abbrev adr(ms:List Me)(xa:List gs):List gs:=3::(ms.flatMap (λm=>[m.c,m.a])++xa)
abbrev Gv(top:Nat->Ls)(g:Gx)(ms:List Me):PySem.W.Frag:=(3,g.1)::(ms.flatMap (λm=>[(m.c,m.cr),(m.a,m.fo top)])++g.2)
def sm(top:Nat->Ls)(g:Gx)(ms:List Me)(xa:List gs)(h:g.2.map (·.1)=xa):adr ms xa=(Gv top g ms).map (·.1):=by
 unfold adr Gv;rw[l3,w4,List.map_flatMap,h];rfl
abbrev BR(v:Option (Option d6))(a:gs):Bool:=match v with|some (a5 (.ref b))=>c4 (b=a)|_=>cb
def zf(h:BR v a=b7):v=a5 (a5 (.ref a)):=by
 unfold BR at h;split at h
 .rw[Yv h]
 .cases h
abbrev nn(o:Option (Option d6)):Bool:=match o with|some b6=>b7|_=>cb
def DJ(h:nn o=b7):o=a5 b6:=by
 unfold nn at h;split at h
 .rfl
 .cases h
abbrev DK(p:Arguments)(a:List Str):Bool:=p.posonlyargs.isEmpty&&p.vararg.isNone&&p.kwonlyargs.isEmpty&&p.kw_defaults.isEmpty&&p.kwarg.isNone&&p.defaults.isEmpty&&c4 (p.args.map (·.arg)=a)
abbrev Qx(N:List Str)(b:Nat)(a:Lc):Bool:=c4 (a.kind=.function)&&c4 (a.isCoroutine=cb)&&c4 (a.isGenerator=cb)&&decide N.Nodup&&(N.take b).all (j_ a)&&a.names.all (λy=>c4 (y.2≠.free))
abbrev Qy(ck:Ck)(top:Nat->Ls)(K:PySem.W.Frag)(m:Me):Bool:=PySem.W.codeIn K (.ref m.c) m.fn.name&&PySem.W.keepIn K (.ref m.a)&&BR (PySem.W.nsIn K mA m.fn.name) m.a&&DK (fw (top m.i)) (m.N.take m.fn.np) &&
 Qx m.N m.fn.np (aF (top m.i))&&c4 (m.N.length=m.fn.ns)&&c4 (m.fn.np<=m.fn.ns)&&(cE ck m.fn.bd m.N (aF (top m.i)) (b_ (top m.i))&&MT m.fn)
abbrev Qz(K:PySem.W.Frag)(p:Str×U):Bool:=match p.2,PySem.W.nsIn K mA p.1 with
 |.int i,a5 (a5 (.int j _))=>c4 (i=j)
 |.str i,a5 (a5 (.str j _))=>c4 (i=j)
 |_,_=>cb
abbrev Jz(ck:Ck)(top:Nat->Ls)(K:PySem.W.Frag)(ms:List Me):Bool:=ms.all (Qy ck top K)&&bt.all (λy=>nn (PySem.W.nsIn K mA y))&&ck.gl.all (Qz K)&&c4 (K.map (·.1)).Nodup
def DL{K:PySem.W.Frag}(b:(K.map (·.1)).Nodup)(h:(a,o)∈K):K.lookup a=a5 o:=by
 induction K with
 |nil=>cases h
 |cons p K c =>
  rw[l3,Hc]at b;rw[tA];rcases fz.mp h with rfl|h
  .simp
  .have:(a==p.1)=cb:=by
    rw[Yz];rintro rfl;show b.1 (mh.mpr ⟨_,h,rfl⟩)
   rw[this];show c b.2 h
section
def zT(c:Jz ck top (Gv top g ms) ms=b7)(h:m∈ms):Ji (Gv top g ms) m.fn.name m.fn.name (top m.i) m.a (m.fd top)/\PySem.W.nsIn (Gv top g ms) mA m.fn.name=a5 (a5 (.ref m.a)) /\
  (∀us:List d6,us.length=(m.N.take m.fn.np).length->Ye (m.fd top) ⟨us,[]⟩=pure ((m.N.take m.fn.np).zip us))/\cJ m.N (m.N.take m.fn.np) (aF (top m.i))/\m.N.length=m.fn.ns/\(m.N.take m.fn.np).length=m.fn.np/\(cE ck m.fn.bd m.N (aF (top m.i)) (b_ (top m.i))=b7/\MT m.fn=b7):=by
 simp only[Jz,b8,Yq]at c;have z:=ri.mp c.1.1.1 m h;simp only[Qy,b8,Yq]at z;obtain⟨⟨⟨⟨⟨⟨⟨j,k⟩,l⟩,b⟩,d⟩,n⟩,u⟩,o⟩:=z;simp only[Qx,b8,Yq]at d;obtain⟨⟨⟨⟨⟨s1,s2⟩,s3⟩,s4⟩,p⟩,q⟩:=d;have r:(Gv top g ms).lookup m.a=a5 (m.fo top):=DL c.2 (fz.mpr (.inr (JZ _ (List.mem_flatMap.mpr ⟨m,h,by simp⟩))));have hl:(m.N.take m.fn.np).length=m.fn.np:=by rw[tj];lia
 show⟨AI r j k,zf l,λus f=>?_,⟨s1,s2,s3,s4,by rw[hl],λx s=>?_,λy t=>?_⟩,n,hl,o⟩
 .unfold Me.fd;revert b;cases fw (top m.i) with
  |mk v as w A B C D =>
   intro b;simp only[DK,b8,Lu,PD,Yq]at b;obtain⟨⟨⟨⟨⟨⟨rfl,rfl⟩,rfl⟩,rfl⟩,rfl⟩,rfl⟩,e⟩:=b;rw[<-e]at f ⊢;show wF (by rw[e];show(Up _ _).nodup s4) f
 .have:=ri.mp p x s;simpa[j_] using this
 .have:=ri.mp q y t;simpa using this
def DM(i:Jz ck top (Gv top g ms) ms=b7)(X:(Gv top g ms).In h)(G:h.Ns mA mg)(j:m∈ms):Ld ck (Gv top g ms) mg m.fn :=
 let ⟨a,b,c,d,e,f,k⟩:=zT i j
 ⟨_,_,_,_,_,_,a,PySem.W.mg_of X G b,.all c,d,e,f,k⟩
def BS(c:Jz ck top (Gv top g ms) ms=b7)(X:(Gv top g ms).In h)(G:h.Ns mA mg):∀p∈ck.gl,∃val v,mg p.1=a5 val/\RelV v val/\∀(C:Ct) S H,Rep C S H p.2 v:=by
 intro p d;simp only[Jz,b8,Yq]at c;have z:=ri.mp c.1.2 p d;unfold Qz at z;split at z
 .rename_i i j k a b;obtain rfl:=Yv z;show⟨_,.int i,PySem.W.mg_of X G b,⟨_,rfl⟩,λ_ _ _=>by rw[a];rfl⟩
 .rename_i i j k a b;obtain rfl:=Yv z;show⟨_,.str i,PySem.W.mg_of X G b,⟨_,rfl⟩,λ_ _ _=>by rw[a];rfl⟩
 .cases z
end
abbrev wG(K:PySem.W.Frag)(x:Str):Option gs:=match PySem.W.nsIn K mA x with|some (a5 (.ref C))=>a5 C|_=>b6
abbrev QA(K:PySem.W.Frag)(D:Str):Option d6:=match PySem.W.nsIn K mA D with|some (a5 (.ref C))=>a5 (.ref C)|some b6=>if D="ValueError" then a5 (.type "ValueError") else b6|_=>b6
abbrev gY(ck:Ck)(K:PySem.W.Frag):Bool:=ck.xi.all (λp=>match wG K p.1,QA K p.2.1 with|some C,a5 a=>eC K C&&(PySem.W.kitOne K (.ref C) a==a5 p.2.2)|_,_=>cb)&&ck.xe.all λp=>match wG K p.1,wG K p.2 with|some C,a5 D=>PySem.W.exmOne K (.ref C) (.ref D)==a5 b7|_,_=>cb
def iJ{K:PySem.W.Frag}(h:wG K x=a5 C):PySem.W.nsIn K mA x=a5 (a5 (.ref C)):=by
 unfold wG at h;split at h
 .rename_i e;cases h;show e
 .cases h
def zU{K:PySem.W.Frag}(z:gY ck K=b7)(X:K.In h)(G:h.Ns mA mg)(D:Str)(i:∃p∈ck.xi,p.2.1=D):∃b,((∃f,b=.ref f/\mg D=a5 (.ref f))\/(D="ValueError"/\b=.type "ValueError"/\mg D=b6))/\∀p∈ck.xi,p.2.1=D->∀C,PySem.W.nsIn K mA p.1=a5 (a5 (.ref C))->eC K C=b7/\PySem.W.kitOne K (.ref C) b=a5 p.2.2:=by
 rw[gY,b8,ri]at z;have⟨j,k,rfl⟩:=i;have g:=z.1 j k;split at g
 .rename_i o b q a;show⟨b,?_,λp l e C m=>?_⟩
  .unfold QA at a;split at a
   .rename_i e;cases a;show .inl ⟨_,rfl,PySem.W.mg_of X G e⟩
   .rename_i e;split at a
    .rename_i d;cases a;show .inr ⟨d,rfl,PySem.W.mg_none_of X G e⟩
    .cases a
   .cases a
  .have c:=z.1 p l;rw[e,a]at c;split at c
   .rename_i r s d n;cases n;have:=iJ d;rw[m]at this;cases this;rw[b8,beq_iff_eq]at c;show c
   .cases c
 .cases g
def DN{K:PySem.W.Frag}(z:gY ck K=b7)(X:K.In h)(G:h.Ns mA mg)(x:Str)(d:∃p∈ck.xe,p.2=x):∃D,mg x=a5 (.ref D)/\∀cl,(cl,x)∈ck.xe->∀C,PySem.W.nsIn K mA cl=a5 (a5 (.ref C))->PySem.W.exmOne K (.ref C) (.ref D)=a5 b7:=by
 rw[gY,b8,ri,ri]at z;have⟨e,f,rfl⟩:=d;have b:=z.2 e f;split at b
 .rename_i l D m c;show⟨D,PySem.W.mg_of X G (iJ c),λcl g C i=>?_⟩;have a:=z.2 _ g
  dsimp only at a
  rw[c]at a;split at a
  .rename_i n o j k;cases k;have:=iJ j;rw[i]at this;cases this;show beq_iff_eq.mp a
  .cases a
 .cases b
abbrev gX(ck:Ck)(K:PySem.W.Frag):Bool:=ck.xc.all (λx=>match PySem.W.nsIn K mA x with|some (a5 (.ref C))=>PySem.W.excIn K C Kx "ValueError.__new__"|_=>cb)&&ck.xd.all λp=>match PySem.W.nsIn K mA p.1,PySem.W.nsIn K mA p.2 with
 |some (a5 (.ref C)),a5 (a5 (.ref D))=>PySem.W.exmOne K (.ref C) (.ref D)==a5 b7
 |_,_=>cb
def BU{K:PySem.W.Frag}(z:(gX ck K&&gY ck K)=b7)(X:K.In h)(G:h.Ns mA mg):(yZ ck K mg->MS ck K mg)->Jy ck K mg:=by
 intro c;rw[b8]at z;have⟨z,a⟩:=z;rw[gX,b8,ri,ri]at z;show⟨λx d=>?_,λp f=>?_,zU a X G,DN a X G,c (zU a X G)⟩
 .have:=z.1 x d;split at this
  .rename_i e;show⟨_,PySem.W.mg_of X G e,e,this⟩
  .cases this
 .have:=z.2 p f;split at this
  .rename_i b g;show⟨_,_,PySem.W.mg_of X G b,b,PySem.W.mg_of X G g,beq_iff_eq.mp this⟩
  .cases this
theorem wH(f:X.N[0]?=a5 n)(g:Ih X.env.scope n)(i:(n==("__debug__":Str))=cb)(j:(n==("__classdict__":Str))=cb)(k:Gl X "isinstance")(l:X.mg "isinstance"=b6)(q:yZ ck X.K X.mg):
  ∀{es:List tr} {d:List Str} {bs:List Bool},KR X.env.scope n es d=b7->d.length=bs.length->(∀r∈d.zip bs,(c,r.1,r.2)∈ck.xi)->PA X es (v7 X.K 0 c bs)
 |[],[],[],_,_,_=>eO
 |[],[],_::_,_,h,_=>by simp at h
 |[],_::_,_,h,_,_=>by simp[KR]at h
 |_::_,[],_,h,_,_=>by simp[KR]at h
 |_::_,_::_,[],_,h,_=>by simp at h
 |e::es,D::d,b::bs,h,hl,t=>by
  simp only[KR,b8]at h;obtain⟨⟨⟨C,v⟩,G⟩,J⟩:=h;have⟨as,p,p3,rfl,L⟩:=cZ C;have⟨x,y,rfl,m⟩:=cH L;rw[b8]at m;have⟨p1,rfl⟩:=cn m.1;have⟨p2,rfl⟩:=cn m.2;have w:(c,D,b)∈ck.xi:=t (D,b) gw;have⟨O,T,Y⟩:=q D ⟨_,w,rfl⟩;have A:∀Cc,PySem.W.nsIn X.K mA c=a5 (a5 (.ref Cc))->eC X.K Cc=b7/\PySem.W.kitOne X.K (.ref Cc) O=a5 b:=λCc hn=>Y _ w rfl Cc hn;have a:=wH f g i j k l q J (by simpa using hl) λr hr=>t r (ek _ hr);rcases T with⟨B,rfl,o⟩|⟨rfl,rfl,o⟩
  .show bY (v5 f g i j k l (vD:=.ref B) (λpins s σ H Q I z=>cv I (bH v) o ⟨.ref B,H,I,rfl,z⟩ (aD G).1) (λu z=>z) A) a rfl
  .show bY (v5 f g i j k l (vD:=.ty "ValueError") (qR (bH v) o (show Iw "ValueError"=a5 (.type "ValueError") by decide +kernel) rfl (by decide +kernel) (by decide +kernel)) (λu z=>z) A) a rfl
def BV{K:PySem.W.Frag}(hk:MV ck Pg=b7)(d:∀x∈bt,mg x=b6)(ld:∀fn∈Pg,Ld ck K mg fn)(k:yZ ck K mg):MS ck K mg:=by
 intro q l c bs hl m;unfold MV at hk;have⟨fn,o,h⟩:=Lw.mp (ri.mp hk q l);simp only[b8,Yq]at h;obtain⟨⟨r,t⟩,y⟩:=h;obtain⟨b,st,f,z,N,B,F,C,D,S,hN,G,a,_⟩:=(ld fn o).ex;rw[qw t]at a;show⟨f,z,B,λP w base=>?_,r▸C,F.kp,D⟩;have hsz:(1000:Nat)<=df:=by decide
 have⟨oc,od,kV,I,pm,an,J,ct,Jh,rfl,lk,L⟩:=F.ex;show A4 lk L S (λvs H Q E ⟨_,_,_,_,e,_⟩=>by rw[e,G,y];rfl) λA outer s H vs Q E hr O=>?_;have⟨ea,oe,u,Cc,e,T,Y,g4,gq⟩:=O;subst e;cases g:b_ st with
 |nil=>rw[g]at a;simp[cE]at a
 |cons s1 ss =>
  rw[g]at a;cases ss with
  |cons _ _=>simp[cE]at a
  |nil =>
   simp only[cE,b8]at a;have a:Qs N (aF st) q.2 s1=b7:=a.1;cases N with
   |nil=>cases a
   |cons n N =>
    have⟨v,p,rfl,z1⟩:=gj (show lK s1 _=b7 from a);have⟨v',rfl,z2⟩:=lL z1;have⟨es,p',rfl,i⟩:=t9 z2;simp only[b8,Yq]at i;obtain⟨⟨⟨⟨y1,j⟩,y3⟩,y4⟩,y5⟩:=i;show⟨_,gC (uE (AB (wH (X:=Kz (HA P w) P w K mg base (n::N) b (aF st) f J A outer s H E) rfl (iG y1) (aD j).1 (aD j).2 (bH y3) (d _ hZ) k y5 hl m))) jo,?_⟩;show oO (ea:=ea) (oe:=oe) (u:=u) (Cc:=Cc) rfl T Y g4 bs _ ⟨by rw[eh,<-hl];lia,gq⟩
def walk{l:PySem.W.OpenLaw}{K:Uh->PySem.W.Frag}
  (A:l.most=a5 63) (B:d.params.defaults=[]) (D:dn (dp+1) Sm) (I:∀(w:DD) (h:IE),J w h->(K w.params).In h)
  (j:(Pg.map (·.name)).Nodup) (r:MU ck Pg=b7) (L:MV ck Pg=b7) (O:fn.io=b6) (Q:fn∈Pg) (Ig:fn.name=d.name)
  (F:∀(w:DD) (mg:Str->Option d6) (fa:gs) (h:IE),(K w.params).In h->h.Ns mA mg->mg d.name=a5 (.ref fa) ->
   (∀y∈bt,mg y=b6)/\(∀p∈ck.gl,∃val v,mg p.1=a5 val/\RelV v val/\∀(C:Ct) S H,Rep C S H p.2 v)/\(∀g∈Pg,Ld ck (K w.params) mg g)/\((yZ ck (K w.params) mg->MS ck (K w.params) mg)->Jy ck (K w.params) mg) /\
   ∃(e:Str) (st:Ls) (i:OF) (N:List Str),Ji (K w.params) fn.name e st fa i/\cJ N [x] (aF st)/\N.length=fn.ns/\1=fn.np/\cE ck fn.body N (aF st) (b_ st)=b7/\∀(s:fx) (u:d6),Vu s i ⟨[u],[]⟩ [(x,u)])
  (T:∀ns:List Int,ns.length<=63->Fp Pg (dp+1) fn.name [qy ns]=a5 (.ok (.loc,.bl b7))) :
  PySem.W.WalkO q m XP J l.row.toRowW d [] (λf vs=>PySem.call f vs) :=
 L2.x4 (n:=63) (k:=dp+1) (x:=x) (CX:=λw=>HA l.prog w) (sp:=λw=>spT l.prog w (K w.params) (bu (Fp Pg dp) fn) fn.np) A (by decide) B D I
  (λw mg fa h Y G JI=>by
   have⟨c,o,ld,Iv,e,st,i,N,F1,S,hN,Gz,hc,hb⟩:=F w mg fa h Y G JI;have xs:Jy ck (K w.params) mg:=Iv (BV L c ld);show⟨i,hb,λbase _ _=>zS F1 S hN Gz hc c (si j r c o ld xs dp).1 o (si j r c o ld xs dp).2 xs⟩)
  (λw H a ns hl _ hS=>by
   have t:=T ns hl;rw[qx j Q,lM O]at t;have Tf:fn.np=1:=(ny t).1.symm;show⟨Tf.symm,[qy ns],.ok (.loc,.bl b7),FY H,t,λ_ z=>z,⟨_,_,rfl,qz hS,rfl⟩,.inr (.inl rfl),λv H' S' b=>b.loc rfl⟩)
  λ_ _ _ _ _ ⟨_,_,_,_,_,_,z⟩=>z
def walk2{l:PySem.W.OpenLaw}{g:Uh->Gx}
  (z:l.most=a5 63) (A:d.params.defaults=[]) (B:dn (dp+1) Sm) (o:ms.map (·.fn)=Pg) (C:(Pg.map (·.name)).Nodup) (D:MU ck Pg=b7) (H:MV ck Pg=b7) (p:m.fn.io=b6) (r:m∈ms) (t:m.fn.name=d.name) (I:m.N.take m.fn.np=[x])
  (ok:∀P,Jz ck top (Gv top (g P) ms) ms=b7) (J:∀P,(gX ck (Gv top (g P) ms)&&gY ck (Gv top (g P) ms))=b7) (L:∀P,(g P).2.map (·.1)=xa) (T:∀ns:List Int,ns.length<=63->Fp Pg (dp+1) m.fn.name [qy ns]=a5 (.ok (.loc,.bl b7))) :
  PySem.W.WalkO q j Q (PySem.W.kHook (λP=>Gv top (g P) ms) (adr ms xa) λP=>sm top (g P) ms xa (L P)).says l.row.toRowW d [] (λf vs=>PySem.call f vs) :=
 walk z A B (λw h Y=>PySem.W.kIn_of Y) C D H p (o▸mh.mpr ⟨m,r,rfl⟩) t (λw mg fa h X G v=>by
  have hk:=ok w.params;have⟨a,b,c,e,f,k,n⟩:=zT hk r;rw[<-t,PySem.W.mg_of X G b]at v;cases v;rw[I]at c e k;show⟨λy i=>PySem.W.mg_none_of X G (DJ ?_),BS hk X G,λy i=>?_,BU (J w.params) X G,_,_,_,_,a,e,f,k,by have:=n.1;rw[show m.fn.bd=m.fn.body by unfold Fn.bd;rw[p]]at this;show this,λs u=>.of_eq (c [u] rfl)⟩
  .simp only[Jz,b8]at hk;show ri.mp hk.1.1.2 y i
  .rw[<-o]at i;have⟨m',O,rfl⟩:=mh.mp i;show DM hk X G O) T
abbrev co(n:Str)(k l c:Nat)(r s:gs)(x y z:d6)(a b t:Nat):Obj:=⟨.type "code",b6,.fields #[.str n k,.str n (k+1),.str "/claim/cut.py" (k+2),.int l 0,.int c 0,.int 0 0,.int 0 0,.int 3 0,.ref r,.bool b7,.int t 0,.ref s,.none,x,y,z,.int a 0,.int l 0,.str "/claim/cut.py" b],#[]⟩
abbrev ge(P:Uh)(x:Str)(k:Nat)(v:d6):DictEntry:=⟨Nu P x,.str x k,v⟩
end TM
namespace E5
open PySem L2
abbrev bW(l:List Nat):Prop:=bS l=b7\/∃a b k,l=a++47::b/\bS a=b7/\2<=k/\k<=99/\(cW k).cps.toList=b
def len_list(x:Str):x.length=x.cps.toList.length:=by simp[Ow]
def fC(a:0<=k)(b:k<=99):(cW k).length<=2:=by
 have⟨m,rfl⟩:=QT a;have c:m<100:=by lia
 clear a b;revert m;decide +kernel
def bW.len(h:bW l):1<=l.length/\l.length<=11:=by
 rcases h with h|⟨a,b,k,rfl,h,e,c,d⟩
 .have:=(bN l).mp h;lia
 .have:=(bN a).mp h;have hl:=fC (k:=k) ⋯ c;rw[len_list,d]at hl;simp;lia
def bW.EH(h:bW x.cps.toList):∃y r,LC x zD=y::r/\bS y.cps.toList=b7:=by
 rcases h with h|⟨a,b,k,e,h,_⟩
 .show⟨x,[],jI (gJ h),h⟩
 .have⟨r,c⟩:=nY e (gJ h) (by decide);show⟨_,r,c,by simpa using h⟩
theorem eE:∀(b:List Str) (a:Array Nat),(b.foldl (λa p=>a++JG.cps++p.cps) a).toList=a.toList++(b.map λp=>p.cps.toList).flatten
 |[],a=>by simp
 |p::b,a=>by
  rw[IL,eE b];have:JG.cps=#[]:=rfl;simp[this]
def join_list(ts:List Str):(Us JG ts).cps.toList=(ts.map λp=>p.cps.toList).flatten:=by
 cases ts with
 |nil=>rfl
 |cons t ts =>
  change(ts.foldl (λa p=>a++JG.cps++p.cps) t.cps).toList=_;rw[eE];simp
abbrev one(c:Nat):Str:=⟨#[c]⟩
def join_ones(a:List Nat):(Us JG (a.map one)).cps.toList=a:=by
 rw[join_list,sx];induction a with
 |nil=>rfl
 |cons c a b=>rw[l3,List.flatten_cons,b];rfl
def oS(a:List Nat)(h:a.length<=100):Xo JG (a.map one)=b7:=by
 unfold Xo;have e:=PySem.StrLaws.joinTotal JG (a.map one);have b:JG.length=0:=rfl;have es:((a.map one).map (·.length)).sum=a.length:=by
  rw[sx];clear h e;induction a with
  |nil=>rfl
  |cons c a d=>rw[l3,List.sum_cons,d];change 1+a.length=a.length+1;lia
 rw[e,b,es];have f:a.length+(a.map one).length * 0<=100:=by lia
 revert f;generalize a.length+(a.map one).length * 0=m;revert m;decide
def BW(x:Str)(j:Nat):(PySem.StrLaws.sliceText x b6 (a5 (j:Int))).cps.toList=x.cps.toList.take j:=by
 by_cases h:j<=x.cps.toList.length
 .rw[PySem.StrLaws.sliceText_to (x:=x) ⟨⋯,⋯⟩];simp
 .have e:PySem.StrLaws.sliceText x b6 (a5 (j:Int))=PySem.StrLaws.sliceText x b6 (a5 (x.length:Int)):=by
   unfold PySem.StrLaws.sliceText;have hl:=len_list x;have:PySem.Builtin.Str.strSliceIndices b6 (a5 (j:Int)) 1 x.length=PySem.Builtin.Str.strSliceIndices b6 (a5 (x.length:Int)) 1 x.length:=by
    have a:¬((j:Int)<0):=by lia
    have b:¬((x.length:Int)<0):=by lia
    have c:min (j:Int) (x.length:Int)=x.length:=by lia
    simp[PySem.Builtin.Str.strSliceIndices,a,b,c]
   rw[this]
  have hl:=len_list x;rw[e,PySem.StrLaws.sliceText_to (x:=x) ⟨⋯,⋯⟩,List.drop_zero,KS (l:=x.cps.toList) (i:=j) ⋯];change(x.cps.toList.take ((x.length:Int) - 0).toNat).toArray.toList=_;rw[KS ⋯]
def uc(d:bS a=b7)(e:∀c∈b,low c=b7):bS ((a++b).take 8)=b7:=by
 have h:=(bN a).mp d;show(bN _).mpr ⟨by simp;lia,by simp;lia,λc f=>?_⟩;have g:=M3 f;rcases l'.mp g with m|m
 .show h.2.2 c m
 .have:=e c m;simp[low]at this;lia
def jc(a:∀c∈b,low c=b7)(d:1<=b.length)(e:b.length<=8):bS b=b7 :=
 (bN b).mpr ⟨d,e,λc f=>by have:=a c f;simp[low]at this;lia⟩
abbrev small:Str:="abcdefghijklmnopqrstuvwxyz"
def qA:small.cps.toList=(ei 26).map (97+·):=by decide +kernel
def kr(a:0<=k)(b:k<26):E7 small.cps.toList k=a5 (97+k.toNat):=by
 have⟨j,rfl⟩:=QT a;show bZ ?_;rw[qA,nt,Tn ⋯];rfl
def qB(h:j<26):low (97+j)=b7:=by simp[low];lia
abbrev lO(k:Nat):Str:=⟨#[97+k / 26,97+k % 26]⟩
def qC(h:k<40):bS (lO k).cps.toList=b7:=by
 show jc (λc a=>?_) (by change 1<=2;decide) (by change 2<=8;decide);have b:c=97+k / 26\/c=97+k % 26:=by simpa[lO] using a
 rcases b with rfl|rfl
 .show qB ⋯
 .show qB ⋯
theorem ku [DecidableEq α]:∀{l m:List α},l.Nodup->(∀x∈l,x∈m)->l.length<=m.length
 |[],_,_,_=>uv _
 |x::l,m,c,h=>by
  have⟨d,e⟩:=Hc.mp c;have a:=h x gw;have f:=ku (l:=l) (m:=m.erase x) e λy b=>(VV (by rintro rfl;show d b)).mpr (h y (ek _ b));rw[Vh a]at f;have:0<m.length:=Vx a;rw[lx];lia
abbrev bD:List Str:=(ei 40).map lO
def nz:bD.Nodup:=by
 decide +kernel
def qD(names:List Str)(h:names.length<40):∃x∈bD,x∉names:=by
 apply K8;intro a;have:∀x∈bD,x∈names:=λx b=>K8 λc=>a ⟨x,b,c⟩;have:=ku nz this;simp[bD]at this;lia
end E5
namespace TM
open PySem L2
section
abbrev Run(m:M α)(st:ar)(a:α)(st':ar):Prop:=m st=a5 (.ok a,st')
def af(c:Run m st a st1)(d:Run (f a) st1 b st2):Run (m >>= f) st b st2:=by
 change M.bind m f st=_;unfold M.bind;rw[show m st=_ from c];show d
def aO:Run (pure a:M α) st a st:=rfl
def cP(h:o=a5 a):Run (M.E3 o) st a st:=by subst h;rfl
def aM(h:aY rs st):Run (au rs) st () st:=by change au rs st=_;unfold au;rw[Yr h]
abbrev kv(i:Nat)(k:Kd):Kd:=if k.root=b7 then .bor i else k
def lP(h:st[i]?=a5 (a5 (k,u)))(hk:k≠.ES:=by intro z;cases z):Run (gf i) st (kv i k,u) st:=by
 change gf i st=_;unfold gf;rw[h];cases k<;>first|rfl|show absurd rfl hk
def aa(h:st[i]?=a5 (a5 (.loc,u))):Run (ev Γ (.var i)) st (.loc,u) st:=lP h
def c_(h:st[i]?=a5 (a5 (.any,u))):Run (ev Γ (.var i)) st (.any,u) st:=lP h
def cS(h:st[i]?=a5 (a5 (.own,u))):Run (ev Γ (.var i)) st (.bor i,u) st:=lP h
def ak:Run (ev Γ (.cst u)) st (.loc,u) st:=rfl
def lQ:Run (ev Γ (.G9 x u)) st (.loc,u) st:=rfl
def aL(c:Run (ev Γ a) st x st1)(d:Run (ev Γ b) st1 y st2)(e:aY [x,y] st2)(f:Gp op x y=a5 r):Run (ev Γ (.bin op a b)) st r st2 :=
 af c (af d (af (aM e) (cP f)))
def fi(d:Run (ev Γ a) st x st1)(e:Run (ev Γ b) st1 y st2)(f:aY [x,y] st2)(g:aW op x.2 y.2=a5 c):Run (ev Γ (.cmp op a b)) st (.loc,.bl c) st2 :=
 af d (af e (af (aM f) (af (cP g) aO)))
def cp(c:Run (ev Γ a) st x st1)(d:Run (ev Γ b) st1 y st2)(e:aY [x,y] st2)(f:gZ x y.2=a5 r):Run (ev Γ (.idx a b)) st r st2 :=
 af c (af d (af (aM e) (cP f)))
def eF:Run (J2 Γ []) st b6 st:=rfl
def eG(h:Run (ev Γ e) st (k,.int i) st1):Run (J2 Γ [e]) st (a5 i) st1:=af h rfl
def eI(b:Run (ev Γ a) st x st1)(c:Run (J2 Γ lo) st1 l st2)(d:Run (J2 Γ e) st2 h st3)(f:aY [x] st3)(g:ix x l h=a5 r):Run (ev Γ (.FC a lo e)) st r st3 :=
 af b (af c (af d (af (aM f) (cP g))))
def ai:Run (bp Γ []) st [] st:=rfl
def ae(a:Run (ev Γ e) st r st1)(b:Run (bp Γ es) st1 rs st2):Run (bp Γ (e::es)) st (r::rs) st2:=af a (af b aO)
def bX(a:Run (bp Γ es) st rs st1)(b:aY rs st1)(c:FZ f rs=a5 r):Run (ev Γ (.bi f es)) st r st1:=af a (af (aM b) (cP c))
def wI(a:Run (bp Γ es) st rs st1)(b:aY rs st1)(c:qa f rs=a5 r):Run (ev Γ (.HC f es)) st r st1:=af a (af (aM b) (cP c))
def oU(b:Run (ev Γ a) st x st1)(c:Run (bp Γ es) st1 rs st2)(d:aY (x::rs) st2)(e:iy m x.2 rs=a5 r):Run (ev Γ (.G_ m a es)) st r st2:=af b (af c (af (aM d) (cP e)))
def so(h:Γ f us=a5 (.ok r))(a:isAny r.1=cb):Run (j3 Γ f us) st r st:=by
 have⟨k,u⟩:=r;change j3 Γ f us st=_;unfold j3;rw[h];cases k<;>first|rfl|cases a
def aZ(a:Run (bp Γ es) st rs st1)(b:aY rs st1)(c:Γ f (rs.map (·.2))=a5 (.ok r))(d:isAny r.1=cb:=by show rfl):Run (ev Γ (.call f es)) st r st1:=af a (af (aM b) (so c d))
def cQ(a:Run (bp Γ es) st rs st1)(b:aY rs st1)(c:Run (cN rs) st1 us st2)(d:us.length<=df):Run (ev Γ (.tup es)) st (.loc,.tup us) st2:=by
 show af a (af (aM b) (af c ?_));rw[Yr d];show aO
def fj(a:Run (bp Γ es) st rs st1)(b:aY rs st1)(c:Run (cN rs) st1 us st2)(d:us.length<=df):Run (ev Γ (.lst es)) st (.own,.lst us) st2:=by
 show af a (af (aM b) (af c ?_));rw[Yr d];show aO
def BX:Run (ev Γ (.Hv r)) st (.own,if r=b7 then .Fw [] else .FT [] []) st:=rfl
def wJ:Run (lift (.own,u)) st u st:=rfl
def aA:Run (lift (.loc,u)) st u st:=rfl
def zV(h:Fc u=b7):Run (lift (.any,u)) st u st:=by
 change(if Fc u=b7 then(pure u:M U) else M.fail) st=_;rw[Yr h];rfl
def aT:Run (cN []) st [] st:=rfl
def av(a:Run (lift r) st u st1)(b:Run (cN rs) st1 us st2):Run (cN (r::rs)) st (u::us) st2:=af a (af b aO)
def nA(h:Run (ev Γ e) st r st1):Run (g_ Γ [e]) st r st1:=h
def wK(h:Run (ev Γ e) st (k,.bl p) st1)(a:if p=b7 then Run (g_ Γ (b::es)) st1 r st2 else st2=st1/\r=(.loc,.bl cb)):Run (g_ Γ (e::b::es)) st r st2:=by
 show af h ?_;cases p with
 |true=>show a
 |false=>have⟨rfl,rfl⟩:=a;show aO
def sr(h:Run (g_ Γ es) st r st1):Run (ev Γ (.and es)) st r st1:=h
def DO(h:Run (yt Γ es) st r st1):Run (ev Γ (.or es)) st r st1:=h
def bT(d:Run (ev Γ a) st x st1)(e:Run (ev Γ b) st1 y st2)(f:aY [x,y] st2)(g:aW op x.2 y.2=a5 c):Run (E6 Γ (.cmp op a b)) st c st2:=af d (af e (af (aM f) (cP g)))
def kz(h:Run (E6 Γ a) st c st1):Run (E6 Γ (.not a)) st (!c) st1:=af h aO
def su(h:Run (aQ Γ es) st c st1):Run (E6 Γ (.and es)) st c st1:=h
def oV(h:Run (fb Γ es) st c st1):Run (E6 Γ (.or es)) st c st1:=h
def fk:Run (aQ Γ []) st b7 st:=rfl
def nB(h:Run (E6 Γ e) st c st1):Run (aQ Γ [e]) st c st1:=h
def qE(h:Run (E6 Γ e) st b7 st1)(a:Run (aQ Γ (b::es)) st1 c st2):Run (aQ Γ (e::b::es)) st c st2:=af h a
def wL(h:Run (E6 Γ e) st cb st1):Run (aQ Γ (e::a::es)) st cb st1:=af h aO
def jd(h:Run (E6 Γ e) st c st1):Run (fb Γ [e]) st c st1:=h
def DP(h:Run (E6 Γ e) st b7 st1):Run (fb Γ (e::a::es)) st b7 st1:=af h aO
def sv(h:Run (E6 Γ e) st cb st1)(a:Run (fb Γ (b::es)) st1 c st2):Run (fb Γ (e::b::es)) st c st2:=af h a
def da:Run (cO i (.own,u)) st () (st.set i (a5 (.own,u))):=rfl
def aG:Run (cO i (.loc,u)) st () (st.set i (a5 (.loc,u))):=rfl
def oW:Run (cO i (.any,u)) st () (st.set i (a5 (.any,u))):=rfl
def DQ(a:Run (ev Γ e) st r st1)(b:Run (cO i r) st1 () st2):Run (exec Γ (.set i e)) st .nx st2:=af a (af b aO)
def DR(b:∃k' us',st[i]?=a5 (a5 (k',.lst us'))/\k'≠.ES)(c:Run (ev Γ e) st r st1)(d:Run (lift r) st1 u st2)(f:st2[i]?=a5 (a5 (k,.lst us)))(hk:k.root=b7)(hl:us.length<df):
  Run (exec Γ (.app i e)) st .nx (st2.set i (a5 (k,.lst (us++[u])))):=by
 have⟨k',us',b,g⟩:=b;show af (lP b g) (af (a:=()) (st1:=st) rfl (af c (af d (af (a:=()) ?_ aO))));change modS i (vH u) st2=_;unfold modS;rw[f];simp only[hk,YA];have e:vH u (.lst us)=a5 (.lst (us++[u])):=by change(if us.length<df then _ else _)=_;rw[Yr hl]
 rw[e]
def DS(a:Run (ev Γ e) st r st1)(b:Run (retS r) st1 f st2):Run (exec Γ (.ret e)) st f st2:=af a b
def a9:Run (retS (.loc,u)) st (.rt .loc u) st:=rfl
def DT(h:Fc u=b7):Run (retS (.any,u)) st (.rt .loc u) st:=by
 change(if Fc u=b7 then(pure (Fl.rt .loc u):M Fl) else pure (.rt .any u)) st=_;rw[Yr h];rfl
def zW(h:st[j]?=a5 (a5 (.own,u))):Run (retS (.bor j,a)) st (.rt .own u) (st.set j b6):=by
 change(match st[j]? with|some (a5 (.own,u))=>a5 (Ex.ok (Fl.rt .own u),st.set j b6)|_=>b6)=_;rw[h]
def nE(d:Run (E6 Γ c) st b7 st1)(e:Run (execs Γ a) st1 f st2):Run (exec Γ (.ite c a b)) st f st2:=af d e
def gr(d:Run (E6 Γ c) st cb st1)(e:Run (execs Γ b) st1 f st2):Run (exec Γ (.ite c a b)) st f st2:=af d e
def aI:Run (execs Γ []) st .nx st:=rfl
def kA(a:Run (exec Γ s) st .nx st1)(b:Run (execs Γ ss) st1 f st2):Run (execs Γ (s::ss)) st f st2:=af a b
def nF(a:Run (exec Γ s) st (.rt k u) st1):Run (execs Γ (s::ss)) st (.rt k u) st1:=af a aO
def aB(a:Run (ev Γ e) st r st1)(b:Run (cO i r) st1 () st2)(c:Run (execs Γ ss) st2 f st3):Run (execs Γ (.set i e::ss)) st f st3:=kA (DQ a b) c
def oX(a:st[i]?=a5 (a5 (k',.lst us')))(b:Run (ev Γ e) st r st1)(c:Run (lift r) st1 u st2)(d:st2[i]?=a5 (a5 (k,.lst us)))(hk:k.root=b7)(hl:us.length<df)
  (g:Run (execs Γ ss) (st2.set i (a5 (k,.lst (us++[u])))) f st3) (h:k'≠.ES:=by intro z;cases z):Run (execs Γ (.app i e::ss)) st f st3:=kA (DR ⟨_,_,a,h⟩ b c d hk hl) g
def a_(a:Run (ev Γ e) st r st1)(b:Run (retS r) st1 (.rt k u) st2):Run (execs Γ (.ret e::ss)) st (.rt k u) st2:=nF (DS a b)
def cT(d:Run (E6 Γ c) st b7 st1)(e:Run (execs Γ a) st1 .nx st2)(g:Run (execs Γ ss) st2 f st3):Run (execs Γ (.ite c a b::ss)) st f st3:=kA (nE d e) g
def aN(d:Run (E6 Γ c) st cb st1)(e:Run (execs Γ b) st1 .nx st2)(g:Run (execs Γ ss) st2 f st3):Run (execs Γ (.ite c a b::ss)) st f st3:=kA (gr d e) g
def iK(d:Run (E6 Γ c) st b7 st1)(e:Run (execs Γ a) st1 (.rt k u) st2):Run (execs Γ (.ite c a b::ss)) st (.rt k u) st2:=nF (nE d e)
def zX(a:Run (bp Γ src) st rs st1)(b:aY rs st1)(c:GP d rs=a5 xs)(e:rE rs is body=b7)(g:Run (forM t is (execs Γ body) rs xs) st1 f st2):
  Run (exec Γ (.FL t is d src body)) st f st2:=by
 show af a (af (aM b) (af (cP c) ?_));rw[Yr e];show g
def kB(a:Run (bp Γ src) st rs st1)(b:aY rs st1)(c:GP d rs=a5 xs)(e:rE rs is body=b7)(g:Run (forM t is (execs Γ body) rs xs) st1 .nx st2)(h:Run (execs Γ ss) st2 f st3):
  Run (execs Γ (.FL t is d src body::ss)) st f st3:=kA (zX a b c e g) h
def wM(h:aY rs st):Run (forM t is body rs []) st .nx st:=af (aM h) aO
def BY(h:aY rs st)(a:Run (du t is x) st () st1)(b:Run body st1 .nx st2)(c:Run (forM t is body rs xs) st2 f st3):Run (forM t is body rs (x::xs)) st f st3:=af (aM h) (af a (af b c))
def DU(h:aY rs st)(a:Run (du t is x) st () st1)(b:Run body st1 (.rt k u) st2):Run (forM t is body rs (x::xs)) st (.rt k u) st2:=af (aM h) (af a (af b aO))
theorem oY(I:List (Kd×U)->ar->Prop)(hs:∀xs st,I xs st->aY rs st)(VZ:∀x xs st,I (x::xs) st->∃st1 st2,Run (du t is x) st () st1/\Run body st1 .nx st2/\I xs st2):
  ∀(xs:List (Kd×U)) (st:ar),I xs st->∃st',Run (forM t is body rs xs) st .nx st'/\I [] st'
 |[],st,h=>⟨st,wM (hs _ _ h),h⟩
 |x::xs,st,h=>by
  have⟨s1,s2,a,b,c⟩:=VZ x xs st h;have⟨s3,d,e⟩:=oY I hs VZ xs s2 c;show⟨s3,BY (hs _ _ h) a b d,e⟩
def nG(h:Run (cO i r) st () st1):Run (du cb [i] r) st () st1:=h
def ay(a:us.length=fn.np)(hk:k=.own\/k=.loc)(hs:start us fn.ns=st0)(h:Run (execs Γ fn.body) st0 (.rt k u) st):bu Γ fn us=a5 (.ok (k,u)):=by
 subst hs;unfold bu;rw[Yr a,show execs Γ fn.body (start us fn.ns)=_ from h];rcases hk with rfl|rfl<;>rfl
def wN{cond:M Bool}(h:aY src st):Run (bB k t cond elt src [] a) st a st:=af (aM h) aO
def qF{cond:M Bool}(h:aY src st)(d:Run (du t (ei k) x) (pb k b6++st) () s1)(e:Run cond s1 b7 s2)(g:Run elt s2 r s3)(i:Run (lift r) s3 u s4)
  (hl:c.length<df) (j:Run (bB k t cond elt src xs (c++[u])) (s4.drop k) us st2):Run (bB k t cond elt src (x::xs) c) st us st2:=by
 show af (aM h) (af (a:=a5 u) (st1:=s4.drop k) ?_ ?_)
 .change inScope k _ st=_;unfold inScope;have hh:Run (du t (ei k) x >>= λ_=>cond >>= λb=>if b=b7 then(elt >>= λr=>lift r >>= λu=>pure (a5 u)) else pure b6) (pb k b6++st) (a5 u) s4 :=
   af d (af e (show Run (elt >>= λr=>lift r >>= λu=>pure (a5 u)) s2 (a5 u) s4 from af g (af (f:=λu=>pure (a5 u)) i rfl)))
  rw[show _=_ from hh]
 .change Run (if c.length<df then bB k t cond elt src xs (c++[u]) else M.fail) _ _ _;rw[Yr hl];show j
def BZ{cond:M Bool}(h:aY src st)(d:Run (du t (ei k) x) (pb k b6++st) () s1)(e:Run cond s1 cb s2)
  (f:Run (bB k t cond elt src xs c) (s2.drop k) us st2):Run (bB k t cond elt src (x::xs) c) st us st2:=by
 show af (aM h) (af (a:=b6) (st1:=s2.drop k) ?_ f);change inScope k _ st=_;unfold inScope;have hh:Run (du t (ei k) x >>= λ_=>cond >>= λb=>if b=b7 then(elt >>= λr=>lift r >>= λu=>pure (a5 u)) else pure b6) (pb k b6++st) b6 s2 :=
  af d (af e (show Run (pure b6:M (Option U)) s2 b6 s2 from rfl))
 rw[show _=_ from hh]
def cU{src cond:List E}(a:Run (bp Γ src) st rs st1)(b:aY rs st1)(c:GP d rs=a5 xs)(f:Run (bB k t (aQ Γ cond) (ev Γ e) rs xs []) st1 us st2):Run (ev Γ (.comp k t d src cond e)) st (.own,.lst us) st2 :=
 af a (af (aM b) (af (cP c) (af f aO)))
theorem wO{cond:M Bool}(h:aY src st)(g:Kd×U->U)(b:Kd×U->Kd):∀(xs:List (Kd×U)) (a:List U),a.length+xs.length<=df ->
  (∀x∈xs,x.1=.loc\/x.1=.any)->(∀x∈xs,Run cond (a5 x::st) b7 (a5 x::st)/\Run elt (a5 x::st) (b x,g x) (a5 x::st)/\Run (lift (b x,g x)) (a5 x::st) (g x) (a5 x::st))->Run (bB 1 cb cond elt src xs a) st (a++xs.map g) st
 |[],a,_,_,_=>by rw[O8,w6];show wN h
 |x::xs,a,hl,hk,d=>by
  have⟨e,f,i⟩:=d x (by simp);rw[lx]at hl;show qF (s1:=a5 x::st) (s2:=a5 x::st) (s3:=a5 x::st) (s4:=a5 x::st) h ?_ e f i ⋯ ?_
  .have⟨k,u⟩:=x;rcases hk _ (gw ..) with z|z<;>(cases z;rfl)
  .have:=wO h g b xs (a++[g x]) (by simp;lia) (λy c=>hk y (by simp[c])) λy c=>d y (by simp[c]);rw[l3];simpa using this
theorem kC{cond:M Bool}(h:aY src st)(p:Kd×U->Bool)(g:Kd×U->U)(c:Kd×U->Kd):∀(xs:List (Kd×U)) (a:List U),a.length+xs.length<=df ->
  (∀x∈xs,x.1=.loc\/x.1=.any)->(∀x∈xs,Run cond (a5 x::st) (p x) (a5 x::st)/\Run elt (a5 x::st) (c x,g x) (a5 x::st)/\Run (lift (c x,g x)) (a5 x::st) (g x) (a5 x::st))->Run (bB 1 cb cond elt src xs a) st (a++(xs.filter p).map g) st
 |[],a,_,_,_=>by rw[List.filter_nil,O8,w6];show wN h
 |x::xs,a,hl,hk,f=>by
  have⟨d,j,l⟩:=f x (by simp);rw[lx]at hl;have i:Run (du cb (ei 1) x) (pb 1 b6++st) () (a5 x::st):=by
   have⟨k,u⟩:=x;rcases hk _ (gw ..) with z|z<;>(cases z;rfl)
  cases e:p x with
  |true =>
   rw[e]at d;show qF (s1:=a5 x::st) (s2:=a5 x::st) (s3:=a5 x::st) (s4:=a5 x::st) h i d j l ⋯ ?_;have:=kC h p g c xs (a++[g x]) (by simp;lia) (λy b=>hk y (by simp[b])) λy b=>f y (by simp[b]);rw[WQ,Yr e,l3];simpa using this
  |false =>
   rw[e]at d;show BZ (s1:=a5 x::st) (s2:=a5 x::st) h i d ?_;have:=kC h p g c xs a ⋯ (λy b=>hk y (by simp[b])) λy b=>f y (by simp[b]);rw[WQ,Yt (by simp[e])];show this
end
section
end
abbrev Ft(Pg:List Fn)(f:Str)(fn:Fn):Prop:=(Pg.find? λg=>c4 (g.name=f))=a5 fn
section
def aC(h:Ft Pg f fn)(us:List U)(a:fn.io=b6:=by rfl):Fp Pg (d+1) f us=bu (Fp Pg d) fn us:=by
 change(match Pg.find? λg=>c4 (g.name=f) with|some fn=>la (Fp Pg d) fn us|none=>b6)=_;rw[show _=a5 fn from h];change la _ _ _=_;unfold la;rw[a]
end
def bq(h:0<j):Gp .mod (k,.int i) (k',.int j)=a5 (.loc,.int (i % j)):=by change(yn i j).map _=_;rw[yn,Yr h];rfl
def qG(h:0<j/\j<1073741824):Gp .Gh (k,.int i) (k',.int j)=a5 (.loc,.int (i / j)):=by change(ym i j).map _=_;rw[ym,Yr h];rfl
def l8(h:(-(2 ^ 64)<i/\i<2 ^ 64)\/(-(2 ^ 64)<j/\j<2 ^ 64)):Gp .mul (k,.int i) (k',.int j)=a5 (.loc,.int (i * j)):=by change(yl i j).map _=_;rw[yl,Yr h];rfl
def l9(h:0<=j/\j<=1000000/\i.natAbs<2 ^ 64):Gp .pow (k,.int i) (k',.int j)=a5 (.loc,.int (i ^ j.toNat)):=by change(yo i j).map _=_;rw[yo,Yr h];rfl
def cF:Gp .add (k,.int i) (k',.int j)=a5 (.loc,.int (i+j)):=rfl
def jC:Gp .sub (k,.int i) (k',.int j)=a5 (.loc,.int (i - j)):=rfl
def aK(h:E7 xs i=a5 u):gZ (k,.lst xs) (.int i)=a5 (kE k,u):=by change(E7 xs i).map _=_;rw[h];rfl
def jG(h:E7 xs i=a5 u):gZ (k,.tup xs) (.int i)=a5 (kE k,u):=by change(E7 xs i).map _=_;rw[h];rfl
def sy:Kd.own≠Kd.ES:=by decide
local macro_rules
 |`(tactic| sizeOf_list_dec)=>`(tactic| first|exact aI|apply aB|apply oX|apply a_|exact ak|exact aa rfl|exact c_ rfl|exact cS rfl|apply aL|apply fi|apply cp|apply bX|apply aZ|apply oU|apply bT|exact ai|apply ae|apply cQ|apply fj|exact aT|apply av|exact aA|exact wJ|(first|exact trivial|exact⟨⟨_,rfl,rfl⟩,trivial⟩|exact⟨⟨_,rfl,rfl⟩,⟨_,rfl,rfl⟩,trivial⟩)|exact cF|exact jC|exact bq (by first|lia|decide)|exact qG (by first|lia|decide)|exact l8 (by first|lia|decide)|exact l9 (by decide)|exact aG|exact da|exact oW|exact a9|exact L6|exact zW rfl|exact uv _|exact rfl|exact sy)
abbrev qH(c k:Int):Int:=((c % 10 ^ 15+1) * 48271+k * k * 16807+k * 7919) % 2147483647 * 69621 % 2147483629
abbrev ud:Fn:=⟨"_law_mix",2,3,[.set 2 (.bin .add (.bin .add (.bin .mul (.bin .add (.bin .mod (.var 0) (.bin .pow (.cst (.int 10)) (.cst (.int 15)))) (.cst (.int 1))) (.cst (.int 48271))) (.bin .mul (.bin .mul (.var 1) (.var 1)) (.cst (.int 16807)))) (.bin .mul (.var 1) (.cst (.int 7919)))),.ret (.bin .mod (.bin .mul (.bin .mod (.var 2) (.cst (.int 2147483647))) (.cst (.int 69621))) (.cst (.int 2147483629)))]⟩
def zg(a:0<=k)(b:k<2 ^ 63):bu Γ ud [.int c,.int k]=a5 (.ok (.loc,.int (qH c k))):=by
 apply ay (st0:=[a5 (.loc,.int c),a5 (.loc,.int k),b6]) rfl (.inr rfl) rfl
 repeat' sizeOf_list_dec
abbrev sA:Fn:=⟨"_law_cell",2,3,[.ite (.cmp .lt (.var 1) (.bi .len [.var 0])) [.ret (.idx (.var 0) (.var 1))] [],.set 2 (.cst (.int 0)),.ite (.cmp .gt (.bi .len [.var 0]) (.cst (.int 0))) [.set 2 (.idx (.var 0) (.bin .mod (.var 1) (.bi .len [.var 0])))] [],.ret (.bin .add (.bin .mul (.cst (.int 2)) (.call "_law_mix" [.var 2,.var 1])) (.cst (.int 1)))]⟩
abbrev wQ(Γ:Tab):Prop:=∀c k:Int,0<=k->k<2 ^ 63->Γ "_law_mix" [.int c,.int k]=a5 (.ok (.loc,.int (qH c k)))
def lR(h:c4 (i<j)=c):aW .lt (.int i) (.int j)=a5 c:=by subst h;rfl
def fm(h:c4 (j<i)=c):aW .gt (.int i) (.int j)=a5 c:=by subst h;rfl
def gu(h:(i==j)=c):aW .eq (.int i) (.int j)=a5 c:=by subst h;rfl
def sC:FZ .len [(k,.lst xs)]=a5 (.loc,.int (xs.length:Nat)):=rfl
def cL:FZ .len [(k,.tup xs)]=a5 (.loc,.int (xs.length:Nat)):=rfl
abbrev zY(ns:List Int)(k:Nat):Int:=if k<ns.length then(ns[k]?).getD 0 else 2 * qH ((ns[k % ns.length]?).getD 0) k+1
def wR(f:wQ Γ){k:Nat}(hk:k<2 ^ 62):bu Γ sA [.lst (ns.map .int),.int k]=a5 (.ok (.loc,.int (zY ns k))):=by
 have b:∀c,Γ "_law_mix" [.int c,.int k]=a5 (.ok (.loc,.int (qH c k))):=λc=>f c k ⋯ ⋯;unfold zY;by_cases h:k<ns.length
 .rw[Yr h];have a:E7 (ns.map U.int) (k:Int)=a5 (.int ((ns[k]?).getD 0)):=bZ (by simp[h]);apply ay (st0:=[a5 (.any,.lst (ns.map .int)),a5 (.loc,.int k),b6]) rfl (.inr rfl) rfl;apply iK
  all_goals repeat' (first|show lR (by simp[h])|show aK a|show DT rfl|sizeOf_list_dec)
 .rw[Yt h];have d:aW .lt (.int k) (.int ((ns.map U.int).length:Nat))=a5 cb:=lR (by simp;lia);by_cases hz:0<ns.length
  .have g:k % ns.length<ns.length:=P7 _ hz;have a:E7 (ns.map U.int) ((k:Int) % ((ns.map U.int).length:Nat))=a5 (.int ((ns[k % ns.length]?).getD 0)):=by
    rw[eh,show(k:Int) % (ns.length:Nat)=((k % ns.length:Nat):Int) by lia];show bZ (by simp[g])
   have i:(0:Int)<((ns.map U.int).length:Nat):=by simp;lia
   apply ay (st0:=[a5 (.any,.lst (ns.map .int)),a5 (.loc,.int k),b6]) rfl (.inr rfl) rfl;apply aN
   all_goals repeat' (first|show d|sizeOf_list_dec)
   apply cT
   all_goals repeat' (first|show fm (by simp;lia)|show bq i|show aK a|show b _|sizeOf_list_dec)
  .have e:ns=[]:=OX ⋯;subst e;apply ay (st0:=[a5 (.any,.lst ([].map .int)),a5 (.loc,.int k),b6]) rfl (.inr rfl) rfl;apply aN
   all_goals repeat' (first|show d|sizeOf_list_dec)
   apply aN
   all_goals repeat' (first|show b _|sizeOf_list_dec)
abbrev nH:Fn:=⟨"_law_drawn",2,5,[.set 2 (.lst []),.set 3 (.bin .Gh (.var 0) (.cst (.int 2))),.FL cb [4] .E8 [.var 1] [.ite (.cmp .eq (.bin .mod (.var 0) (.cst (.int 2))) (.cst (.int 0))) [.app 2 (.bin .mod (.var 3) (.cst (.int 64))),.set 3 (.bin .Gh (.var 3) (.cst (.int 64)))] [.app 2 (.bin .mod (.bin .Gh (.call "_law_mix" [.var 0,.var 4]) (.cst (.int 7))) (.cst (.int 4096)))]],.ret (.var 2)]⟩
def oZ(x:Kd×U):GP .E8 [x]=tP x:=rfl
def fq(h:n<2 ^ 62):GP .E8 [(k,.int (n:Nat))]=a5 ((ei n).map λi:Nat=>(Kd.loc,U.int (0+(i:Int)))):=by
 rw[oZ,tP,Yr ⋯,N']
abbrev dN(n:Nat)(xs:List (Kd×U)):Prop:=∃i,i<=n/\xs=((ei n).drop i).map λi:Nat=>(Kd.loc,U.int (0+(i:Int)))
def dN.cons(h:dN n (x::xs)):∃i:Nat,i<n/\x=(.loc,.int (i:Nat))/\dN n xs/\i+xs.length+1=n:=by
 have⟨i,b,e⟩:=h;by_cases a:i<n
 .rw[Qd (by simpa using a),l3]at e;cases e;show⟨i,a,by simp,⟨i+1,a,rfl⟩,by simp;lia⟩
 .rw[List.drop_eq_nil_of_le (by simp;lia)]at e;cases e
def dN.all(n:Nat):dN n ((ei n).map λi:Nat=>(Kd.loc,U.int (0+(i:Int)))):=⟨0,uv _,rfl⟩
def ue(r:wQ Γ)(y:n<1000):∃a:List Int,a.length=n/\(∀d∈a,0<=d)/\bu Γ nH [.int c,.int n]=a5 (.ok (.own,.lst (a.map .int))):=by
 have hsz:(1000:Nat)<=df:=by decide
 let I:List (Kd×U)->ar->Prop:=λxs st=>∃(a:List Int) (us:List U) (left:Int) (o:Option (Kd×U)),st=[a5 (.loc,.int c),a5 (.loc,.int n),a5 (.own,.lst us),a5 (.loc,.int left),o]/\us=a.map .int/\(∀d∈a,0<=d)/\a.length+xs.length=n/\dN n xs;have b:=oY (t:=cb) (is:=[4]) (body:=execs Γ [.ite (.cmp .eq (.bin .mod (.var 0) (.cst (.int 2))) (.cst (.int 0)))
    [.app 2 (.bin .mod (.var 3) (.cst (.int 64))),
    .set 3 (.bin .Gh (.var 3) (.cst (.int 64)))]
    [.app 2 (.bin .mod (.bin .Gh (.call "_law_mix" [(.var 0),(.var 4)]) (.cst (.int 7))) (.cst (.int 4096)))]]) (rs:=[(.loc,.int n)]) I (λ_ _ _=>trivial) (λx xs st s=>by
  have⟨a,us,left,o,e,f,g,hl,u⟩:=s;subst e;have l:us.length=a.length:=by rw[f];simp
  have⟨i,A,rfl,m,p⟩:=u.cons;have v:Γ "_law_mix" [.int c,.int i]=a5 (.ok (.loc,.int (qH c i))):=r c i ⋯ ⋯;rw[lx]at hl;by_cases q:c % 2=0
  .show⟨[a5 (.loc,.int c),a5 (.loc,.int n),a5 (.own,.lst us),a5 (.loc,.int left),a5 (.loc,.int i)],[a5 (.loc,.int c),a5 (.loc,.int n),a5 (.own,.lst (us++[.int (left % 64)])),a5 (.loc,.int (left / 64)),a5 (.loc,.int i)],aG,?_,⟨a++[left % 64],_,left / 64,_,rfl,by simp[f],?_,by simp;lia,m⟩⟩
   .apply cT
    all_goals repeat' (first|show gu (by simp[q])|show(by rw[l];lia)|sizeOf_list_dec)
   .intro d h;rcases l'.mp h with z|z
    .show g d z
    .rw[rr.mp z];lia
  .show⟨[a5 (.loc,.int c),a5 (.loc,.int n),a5 (.own,.lst us),a5 (.loc,.int left),a5 (.loc,.int i)],[a5 (.loc,.int c),a5 (.loc,.int n),a5 (.own,.lst (us++[.int (qH c i / 7 % 4096)])),a5 (.loc,.int left),a5 (.loc,.int i)],aG,?_,⟨a++[qH c i / 7 % 4096],_,left,_,rfl,by simp[f],?_,by simp;lia,m⟩⟩
   .apply aN
    all_goals repeat' (first|show gu (by simp[q])|show v|show(by rw[l];lia)|sizeOf_list_dec)
   .intro d h;rcases l'.mp h with z|z
    .show g d z
    .rw[rr.mp z];lia)
 obtain⟨st',w,a,us,left,o,e,f,g,hl,_⟩:=b ((ei n).map λi:Nat=>(Kd.loc,U.int (0+(i:Int)))) [a5 (.loc,.int c),a5 (.loc,.int n),a5 (.own,.lst []),a5 (.loc,.int (c / 2)),b6] ⟨[],[],c / 2,b6,rfl,rfl,by simp,by simp,dN.all n⟩;subst e f;show⟨a,by simpa using hl,g,?_⟩;apply ay (st0:=[a5 (.loc,.int c),a5 (.loc,.int n),b6,b6,b6]) rfl (.inl rfl) rfl
 repeat' sizeOf_list_dec
 have j:=fq (k:=.loc) (n:=n) ⋯;refine' kB (rs:=[(.loc,.int n)]) (st1:=[a5 (.loc,.int c),a5 (.loc,.int n),a5 (.own,.lst []),a5 (.loc,.int (c / 2)),b6]) _ trivial j rfl w _
 all_goals repeat' sizeOf_list_dec
end TM
local macro_rules
 |`(tactic| sizeOf_list_dec)=>`(tactic| first|exact TM.aI|apply TM.aB|apply TM.oX|apply TM.a_|exact TM.ak|exact TM.aa rfl|exact TM.c_ rfl|exact TM.cS rfl|apply TM.aL|apply TM.fi|apply TM.cp|apply TM.bX|apply TM.aZ|apply TM.oU|apply TM.bT|exact TM.ai|apply TM.ae|apply TM.cQ|apply TM.fj|exact TM.aT|apply TM.av|exact TM.aA|exact TM.wJ|(first|exact trivial|exact⟨⟨_,rfl,rfl⟩,trivial⟩|exact⟨⟨_,rfl,rfl⟩,⟨_,rfl,rfl⟩,trivial⟩)|exact TM.cF|exact TM.jC|exact TM.bq (by first|lia|decide)|exact TM.qG (by first|lia|decide)|exact TM.l8 (by first|lia|decide)|exact TM.l9 (by decide)|exact TM.aG|exact TM.da|exact TM.oW|exact TM.a9|exact TM.L6|exact TM.zW rfl|exact uv _|exact rfl|exact TM.sy)
namespace TM
open PySem L2 E5
def sD(a:0<=z)(h:z<2 ^ 62):GP .E8 [(k,.int z)]=a5 ((ei z.toNat).map λi:Nat=>(Kd.loc,U.int (0+(i:Int)))):=by
 rw[oZ,tP,Yr ⋯]
def eQ(a:x.length<=df)(h:E7 x.cps.toList i=a5 c):gZ (k,.str x) (.int i)=a5 (.loc,.str (E5.one c)):=by
 simp only[gZ];rw[Yr a,h];rfl
def kD:small.length<=df:=by decide
def bP{a:List Int}{i:Nat}(h:i<a.length):E7 (a.map U.int) (i:Int)=a5 (.int ((a[i]?).getD 0)):=bZ (by simp[h])
theorem dO:∀(ss:List Str),strsOf (ss.map U.str)=a5 ss
 |[]=>rfl
 |s::ss=>by change(strsOf (ss.map U.str)).map (s::·)=_;rw[dO ss];rfl
abbrev nI(a:E):Fn:=⟨"_law_name",2,6,[.set 2 (.cst (.str "abcdefghijklmnopqrstuvwxyz")),.set 3 (.G_ .join (.cst (.str "")) [.comp 1 cb .E8 [.bin .add (.cst (.int 1)) (.bin .mod (.idx (.var 0) (.cst (.int 0))) (.cst (.int 8)))] [] (.idx (.var 3) (.bin .mod (.idx (.var 1) (.bin .add (.cst (.int 4)) (.var 0))) (.cst (.int 26))))]),.ite (.cmp .gt (.bi .len [.var 1]) (.cst (.int 0))) [.set 4 (.idx (.G_ .split (.idx (.var 1) (.bin .mod (.idx (.var 0) (.cst (.int 1))) (.bi .len [.var 1]))) [.cst (.str "/")]) (.cst (.int 0))),.ite (.cmp .eq (.bin .mod (.idx (.var 0) (.cst (.int 2))) (.cst (.int 4))) (.cst (.int 1))) [.set 3 (.FC (.bin .add (.var 4) (.var 3)) [] [.cst (.int 8)])] [],.ite (.cmp .eq (.bin .mod (.idx (.var 0) (.cst (.int 2))) (.cst (.int 4))) (.cst (.int 2))) [.set 3 (.bin .add (.bin .add (.var 4) (.cst (.str "/"))) (.bi .str [.bin .add (.cst (.int 2)) (.bin .mod (.idx (.var 0) (.cst (.int 3))) a)]))] []] [],.set 5 (.bin .add (.lst [.var 3]) (.comp 1 cb .E8 [.cst (.int 40)] [] (.bin .add (.idx (.var 3) (.bin .Gh (.var 0) (.cst (.int 26)))) (.idx (.var 3) (.bin .mod (.var 0) (.cst (.int 26))))))),.ret (.idx (.comp 1 cb .seq [.var 5] [.cmp .EW (.var 0) (.var 2)] (.var 0)) (.cst (.int 0)))]⟩
abbrev zh(b:E):Prop:=∀(Γ:Tab) (a:List Int),12<=a.length->(∀d∈a,0<=d)->∃m:Int,0<m/\m<=98/\∀o1 o2 o3 o4 o5,Run (ev Γ b) [a5 (.any,.lst (a.map .int)),o1,o2,o3,o4,o5] (.loc,.int m) [a5 (.any,.lst (a.map .int)),o1,o2,o3,o4,o5]
@[reducible]noncomputable def DV:E:=.cst (.int 98)
def zi:zh DV:=λ_ _ _ _=>⟨98,by decide,by decide,λ_ _ _ _ _=>ak⟩
section
variable{Γ:Tab}{ds:List Int}
abbrev dd(ds:List Int)(i:Nat):Int:=(ds[i]?).getD 0
def dP(a:∀d∈ds,0<=d)(i:Nat):0<=dd ds i:=by
 unfold dd;cases e:ds[i]? with
 |none=>simp
 |some d=>show a d (Hb e)
def nJ(q:12<=ds.length)(g:∀d∈ds,0<=d):∃b:List Nat,(∀c∈b,low c=b7)/\1<=b.length/\b.length<=8 /\
  Run (ev Γ (.comp 1 cb .E8 [.bin .add (.cst (.int 1)) (.bin .mod (.idx (.var 0) (.cst (.int 0))) (.cst (.int 8)))] [] (.idx (.var 3) (.bin .mod (.idx (.var 1) (.bin .add (.cst (.int 4)) (.var 0))) (.cst (.int 26))))))
   [a5 (.any,.lst (ds.map .int)),o1,a5 (.loc,.str small),o3,o4,o5] (.own,.lst ((b.map E5.one).map .str)) [a5 (.any,.lst (ds.map .int)),o1,a5 (.loc,.str small),o3,o4,o5]:=by
 have hz:=dP g 0;let n:=(1+dd ds 0 % 8).toNat;have h:n<=8/\1<=n:=by change(1+dd ds 0 % 8).toNat<=8/\1<=(1+dd ds 0 % 8).toNat;lia
 let f:Nat->Nat:=λi=>97+(dd ds (4+i) % 26).toNat;show⟨(ei n).map f,?_,by simp;show h.2,by simp;show h.1,?_⟩
 .intro c m;obtain⟨i,_,rfl⟩:=mh.mp m;have:=dP g (4+i);show qB ⋯
 .have a:Run (bB 1 cb (aQ Γ []) (ev Γ (.idx (.var 3) (.bin .mod (.idx (.var 1) (.bin .add (.cst (.int 4)) (.var 0))) (.cst (.int 26))))) [(.loc,.int (1+dd ds 0 % 8))] ((ei n).map λi:Nat=>(Kd.loc,U.int (0+(i:Int)))) [])
    [a5 (.any,.lst (ds.map .int)),o1,a5 (.loc,.str small),o3,o4,o5] ([]++((ei n).map λi:Nat=>(Kd.loc,U.int (0+(i:Int)))).map λx=>match x.2 with|.int j=>.str (E5.one (97+(dd ds (4+j.toNat) % 26).toNat))|u=>u) [a5 (.any,.lst (ds.map .int)),o1,a5 (.loc,.str small),o3,o4,o5]:=by
   have r:(8:Nat)<=df:=by decide
   show wO (by show trivial) _ (λ_=>.loc) _ _ (by simp;lia) (λx a=>?_) (λx a=>?_)
   .obtain⟨i,_,rfl⟩:=mh.mp a;show .inl rfl
   .have⟨i,o,rfl⟩:=mh.mp a;have s:i<n:=by simpa using o
    have l:E7 (ds.map U.int) (4+(0+(i:Int)))=a5 (.int (dd ds (4+i))):=by
     rw[show(4+(0+(i:Int)))=((4+i:Nat):Int) by lia];show bP ⋯
    have t:=dP g (4+i);have hs:=kr (k:=dd ds (4+i) % 26) ⋯ ⋯;show⟨fk,?_,aA⟩;simp only[RF,N'];rw[RF]at l
    repeat' (first|show aK l|show eQ kD hs|sizeOf_list_dec)
  have e:((ei n).map f).map E5.one=(ei n).map λi=>E5.one (97+(dd ds (4+i) % 26).toNat):=by rw[sx];rfl
  rw[e];have p:([]++((ei n).map λi:Nat=>(Kd.loc,U.int (0+(i:Int)))).map λx=>match x.2 with|.int j=>U.str (E5.one (97+(dd ds (4+j.toNat) % 26).toNat))|u=>u)=((ei n).map λi=>E5.one (97+(dd ds (4+i) % 26).toNat)).map U.str:=by
   rw[FG,sx,sx];apply O2;intro i _;simp
  rw[p]at a;show cU (rs:=[(.loc,.int (1+dd ds 0 % 8))]) ?_ trivial (sD ⋯ ⋯) a
  repeat' (first|show aK (bP (i:=0) ⋯)|sizeOf_list_dec)
def dh(h:x.length+y.length<=df):Gp .add (k,.str x) (k',.str y)=a5 (.loc,.str (x++y)):=by
 simp only[Gp,vB];rw[Yr h]
theorem fD:∀(ss:List Str) (n:Nat),e_ n (ss.map U.str)=b7
 |[],n=>by simp[e_]
 |s::ss,n=>by simp only[l3,e_,fD ss n,Nj];cases n<;>rfl
theorem o_(x:Str):∀(ss:List Str),((ss.map U.str).any λy=>bA y (.str x))=c4 (x∈ss)
 |[]=>by simp
 |s::ss=>by
  rw[l3,Tt,o_ x ss];have:bA (.str s) (.str x)=c4 (x=s):=by
   simp only[bA];by_cases h:x=s
   .subst h;simp
   .have h':s≠x:=λz=>h z.symm;simp[h,h']
  rw[this,pj];simp
def zj(x:Str)(ss:List Str):IV (.str x) (ss.map U.str)=a5 (c4 (x∈ss)):=by
 unfold IV;rw[Yr ⟨by rfl,fD ss 50⟩,o_]
def kF{x:Str}{ss:List Str}:aW .EW (.str x) (.lst (ss.map U.str))=a5 (c4 (x∉ss)):=by
 change(IV (.str x) (ss.map U.str)).map (!·)=_;rw[zj];simp
def pd:Run (ev Γ (.comp 1 cb .E8 [.cst (.int 40)] [] (.bin .add (.idx (.var 3) (.bin .Gh (.var 0) (.cst (.int 26)))) (.idx (.var 3) (.bin .mod (.var 0) (.cst (.int 26)))))))
   [o0,o1,a5 (.loc,.str small),o3,o4,o5] (.own,.lst (bD.map .str)) [o0,o1,a5 (.loc,.str small),o3,o4,o5]:=by
 have g:(100:Nat)<=df:=by decide
 have a:Run (bB 1 cb (aQ Γ []) (ev Γ (.bin .add (.idx (.var 3) (.bin .Gh (.var 0) (.cst (.int 26)))) (.idx (.var 3) (.bin .mod (.var 0) (.cst (.int 26)))))) [(.loc,.int 40)] ((ei 40).map λi:Nat=>(Kd.loc,U.int (0+(i:Int)))) [])
   [o0,o1,a5 (.loc,.str small),o3,o4,o5] ([]++((ei 40).map λi:Nat=>(Kd.loc,U.int (0+(i:Int)))).map λx=>match x.2 with|.int j=>.str (lO j.toNat)|u=>u) [o0,o1,a5 (.loc,.str small),o3,o4,o5]:=by
  show wO (by show trivial) _ (λ_=>.loc) _ _ (by simp;lia) (λx a=>?_) (λx a=>?_)
  .obtain⟨i,_,rfl⟩:=mh.mp a;show .inl rfl
  .have⟨i,e,rfl⟩:=mh.mp a;have h:i<40:=by simpa using e
   show⟨fk,?_,aA⟩;simp only[RF,N'];have c:=kr (k:=(i:Int) / 26) ⋯ ⋯;have d:=kr (k:=(i:Int) % 26) ⋯ ⋯;have f:((i:Int) / 26).toNat=i / 26:=by lia
   have b:((i:Int) % 26).toNat=i % 26:=by lia
   rw[f]at c;rw[b]at d;have ad:Gp .add (.loc,.str (E5.one (97+i / 26))) (.loc,.str (E5.one (97+i % 26)))=a5 (.loc,.str (lO i)):=by
    have:=dh (k:=.loc) (k':=.loc) (x:=E5.one (97+i / 26)) (y:=E5.one (97+i % 26)) (by change 1+1<=df;lia);rw[this];rfl
   repeat' (first|show eQ kD c|show eQ kD d|show ad|sizeOf_list_dec)
 have b:([]++((ei 40).map λi:Nat=>(Kd.loc,U.int (0+(i:Int)))).map λx=>match x.2 with|.int j=>U.str (lO j.toNat)|u=>u)=bD.map U.str:=by
  rw[FG,sx,bD,sx];apply O2;intro i _;simp
 rw[b]at a;show cU (rs:=[(.loc,.int 40)]) (by repeat' sizeOf_list_dec) trivial (sD ⋯ ⋯) a
def uf{names ts:List Str}(hl:ts.length<=1000):Run (ev Γ (.comp 1 cb .seq [.var 5] [.cmp .EW (.var 0) (.var 2)] (.var 0)))
   [o0,a5 (.any,.lst (names.map .str)),o2,o3,o4,a5 (.own,.lst (ts.map .str))] (.own,.lst ((ts.filter λx=>c4 (x∉names)).map .str)) [o0,a5 (.any,.lst (names.map .str)),o2,o3,o4,a5 (.own,.lst (ts.map .str))]:=by
 have c:(1000:Nat)<=df:=by decide
 have a:=kC (cond:=aQ Γ [.cmp .EW (.var 0) (.var 2)]) (elt:=ev Γ (.var 0)) (src:=[(.bor 5,.lst (ts.map .str))]) (st:=[o0,a5 (.any,.lst (names.map .str)),o2,o3,o4,a5 (.own,.lst (ts.map .str))]) ⟨⟨.own,rfl,rfl⟩,trivial⟩
  (λx=>match x.2 with|.str y=>c4 (y∉names)|_=>cb) (λx=>x.2) (λ_=>.loc) ((ts.map U.str).map λu=>(kE (.bor 5),u)) [] (by simp;lia) (λx a=>by obtain⟨u,_,rfl⟩:=mh.mp a;show .inl rfl) (λx a=>by
   have⟨u,b,rfl⟩:=mh.mp a;obtain⟨y,_,rfl⟩:=mh.mp b;show⟨nB ?_,aa rfl,aA⟩
   repeat' (first|show kF|sizeOf_list_dec))
 have e:([]++(((ts.map U.str).map λu=>(kE (.bor 5),u)).filter λx=>match x.2 with|.str y=>c4 (y∉names)|_=>cb).map λx=>x.2)=(ts.filter λx=>c4 (x∉names)).map U.str:=by
  rw[FG,W8,W8,sx,sx];rfl
 rw[e]at a;show cU (rs:=[(.bor 5,.lst (ts.map .str))]) (by repeat' sizeOf_list_dec) ⟨⟨.own,rfl,rfl⟩,trivial⟩ rfl a
end
section
variable{Γ:Tab}{ds:List Int}
def ug{names:List Str}(d:names.length<40)(f:bW a.cps.toList):∃x st',bW x.cps.toList/\x∉names /\
  Run (execs Γ [.set 5 (.bin .add (.lst [.var 3]) (.comp 1 cb .E8 [.cst (.int 40)] [] (.bin .add (.idx (.var 3) (.bin .Gh (.var 0) (.cst (.int 26)))) (.idx (.var 3) (.bin .mod (.var 0) (.cst (.int 26))))))),
  .ret (.idx (.comp 1 cb .seq [(.var 5)] [(.cmp .EW (.var 0) (.var 2))] (.var 0)) (.cst (.int 0)))]) [o0,a5 (.any,.lst (names.map .str)),a5 (.loc,.str small),a5 (.loc,.str a),o4,b6] (.rt .loc (.str x)) st':=by
 have o:(1000:Nat)<=df:=by decide
 have⟨y,g,i⟩:=qD names d;have j:(a::bD).filter (λx=>c4 (x∉names))≠[]:=λz=>by
  have:y∈(a::bD).filter (λx=>c4 (x∉names)):=Nl.mpr ⟨ek _ g,by simpa using i⟩;rw[z]at this;cases this
 cases e:(a::bD).filter (λx=>c4 (x∉names)) with
 |nil=>show absurd e j
 |cons x b =>
  have l:x∈(a::bD).filter (λx=>c4 (x∉names)):=by rw[e];simp
  have⟨m,n⟩:=Nl.mp l;have c:=uf (Γ:=Γ) (names:=names) (ts:=a::bD) (by simp[bD]) (o0:=o0) (o2:=a5 (.loc,.str small)) (o3:=a5 (.loc,.str a)) (o4:=o4);rw[e]at c;have ad:Gp .add (.own,.lst [.str a]) (.own,.lst (bD.map U.str))=a5 (.own,.lst ((a::bD).map U.str)):=by
   simp only[Gp,vB];rw[Yr ⟨by simp[bD];lia,rfl,rfl⟩];rfl
  show⟨x,[o0,a5 (.any,.lst (names.map .str)),a5 (.loc,.str small),a5 (.loc,.str a),o4,a5 (.own,.lst ((a::bD).map .str))],?_,by simpa using n,?_⟩
  .rcases fz.mp m with rfl|h
   .show f
   .have⟨k,hk,rfl⟩:=mh.mp h;show .inl (qC (by simpa using hk))
  .show aB (st2:=[o0,a5 (.any,.lst (names.map .str)),a5 (.loc,.str small),a5 (.loc,.str a),o4,a5 (.own,.lst ((a::bD).map .str))]) (aL (x:=(.own,.lst [.str a])) (fj (ae (aa rfl) ai) (by(first|show trivial|show⟨⟨_,rfl,rfl⟩,trivial⟩|show⟨⟨_,rfl,rfl⟩,⟨_,rfl,rfl⟩,trivial⟩)) (av aA aT) (by change 1<=df;lia)) pd trivial ad) da ?_;show a_ (cp c ak trivial (aK (by change E7 _ ((0:Nat):Int)=_;show bZ rfl))) a9
def wU(O:zh l)(C:12<=ds.length)(j:∀d∈ds,0<=d){names:List Str}(Q:names.length<40)(T:∀x∈names,bW x.cps.toList):
  ∃x,bW x.cps.toList/\x∉names/\bu Γ (nI l) [.lst (ds.map .int),.lst (names.map .str)]=a5 (.ok (.loc,.str x)):=by
 have⟨m,D,Uc,Y⟩:=O Γ ds C j;have h8:(1000:Nat)<=df:=by decide
 have⟨b,G,JA,H,L9⟩:=nJ (Γ:=Γ) C j (o1:=a5 (.any,.lst (names.map .str))) (o3:=b6) (o4:=b6) (o5:=b6);have L_:iy .join (.str "") [(.own,.lst ((b.map E5.one).map U.str))]=a5 (.loc,.str (Us JG (b.map E5.one))):=by
  change(strsOf ((b.map E5.one).map U.str)).bind _=_;rw[dO];change(if Xo JG (b.map E5.one)=b7 then _ else _)=_;rw[Yr (oS b ⋯)];rfl
 let a:Str:=Us JG (b.map E5.one);have n:a.cps.toList=b:=join_ones b;have I:bS a.cps.toList=b7:=by rw[n];show jc G JA H
 have QE:a.length<=8:=by rw[len_list,n];show H
 have e:∀{f:Fl} {st':ar} (ss:List S),Run (execs Γ ss) [a5 (.any,.lst (ds.map .int)),a5 (.any,.lst (names.map .str)),a5 (.loc,.str small),a5 (.loc,.str a),b6,b6] f st' ->
   Run (execs Γ (.set 2 (.cst (.str "abcdefghijklmnopqrstuvwxyz"))::.set 3 (.G_ .join (.cst (.str "")) [.comp 1 cb .E8 [.bin .add (.cst (.int 1)) (.bin .mod (.idx (.var 0) (.cst (.int 0))) (.cst (.int 8)))] [] (.idx (.var 3) (.bin .mod (.idx (.var 1) (.bin .add (.cst (.int 4)) (.var 0))) (.cst (.int 26))))])::ss))
    [a5 (.any,.lst (ds.map .int)),a5 (.any,.lst (names.map .str)),b6,b6,b6,b6] f st':=λss h=>aB (r:=(.loc,.str small)) ak aG (aB (oU ak (ae L9 ai) (by(first|show trivial|show⟨⟨_,rfl,rfl⟩,trivial⟩|show⟨⟨_,rfl,rfl⟩,⟨_,rfl,rfl⟩,trivial⟩)) L_) aG h)
 have k:∀(g:Str) (o4:Option (Kd×U)),bW g.cps.toList->∃x st',bW x.cps.toList/\x∉names/\Run (execs Γ [.set 5 (.bin .add (.lst [.var 3]) (.comp 1 cb .E8 [.cst (.int 40)] [] (.bin .add (.idx (.var 3) (.bin .Gh (.var 0) (.cst (.int 26)))) (.idx (.var 3) (.bin .mod (.var 0) (.cst (.int 26))))))),
  .ret (.idx (.comp 1 cb .seq [(.var 5)] [(.cmp .EW (.var 0) (.var 2))] (.var 0)) (.cst (.int 0)))]) [a5 (.any,.lst (ds.map .int)),a5 (.any,.lst (names.map .str)),a5 (.loc,.str small),a5 (.loc,.str g),o4,b6] (.rt .loc (.str x)) st':=λg o4 o=>ug Q o
 by_cases hz:0<names.length
 .
  have p:(dd ds 1).toNat % names.length<names.length:=P7 _ hz;let nm:=names[(dd ds 1).toNat % names.length]'p;have J:bW nm.cps.toList:=T _ (KY p);have⟨y,r,Fz,q⟩:=J.EH;have KN:y.length<=8:=by rw[len_list];show((bN _).mp q).2.1
  have Ud:nm.length<=11:=by rw[len_list];show J.len.2
  have Th:=dP j 1;have G1:E7 (names.map U.str) (dd ds 1 % ((names.map U.str).length:Nat))=a5 (.str nm):=by
   rw[eh,show dd ds 1 % (names.length:Nat)=(((dd ds 1).toNat % names.length:Nat):Int) by rw[Int.natCast_emod,F_ Th]];show bZ (by simp[p];rfl)
  have G7:iy .split (.str nm) [(.loc,.str "/")]=a5 (.own,.lst ((y::r).map U.str)):=by
   change(if (Ow "/"==0)=cb/\nm.length+2<=df then a5 (Kd.own,U.lst ((LC nm "/").map .str)) else b6)=_;rw[Yr ⟨by decide,⋯⟩,show("/":Str)=zD from rfl,Fz]
  have hp:(0:Int)<((names.map U.str).length:Nat):=by simp;lia
  have Ti:gZ (.own,.lst ((y::r).map U.str)) (.int 0)=a5 (.loc,.str y):=aK (by change E7 _ ((0:Nat):Int)=_;show bZ rfl);have ab:=dP j 2;have Ue:=dP j 3;have i1:E7 (ds.map U.int) 1=a5 (.int (dd ds 1)):=bP (i:=1) ⋯;have L:E7 (ds.map U.int) 2=a5 (.int (dd ds 2)):=bP (i:=2) ⋯;have i3:E7 (ds.map U.int) 3=a5 (.int (dd ds 3)):=bP (i:=3) ⋯;have go:∀g:Str,bW g.cps.toList->Run (execs Γ [.ite (.cmp .eq (.bin .mod (.idx (.var 0) (.cst (.int 2))) (.cst (.int 4))) (.cst (.int 1)))
    [.set 3 (.FC (.bin .add (.var 4) (.var 3)) [] [.cst (.int 8)])]
    [],
   .ite (.cmp .eq (.bin .mod (.idx (.var 0) (.cst (.int 2))) (.cst (.int 4))) (.cst (.int 2)))
    [.set 3 (.bin .add (.bin .add (.var 4) (.cst (.str "/"))) (.bi .str [.bin .add (.cst (.int 2)) (.bin .mod (.idx (.var 0) (.cst (.int 3))) l)]))]
    []]) [a5 (.any,.lst (ds.map .int)),a5 (.any,.lst (names.map .str)),a5 (.loc,.str small),a5 (.loc,.str a),a5 (.loc,.str y),b6] .nx [a5 (.any,.lst (ds.map .int)),a5 (.any,.lst (names.map .str)),a5 (.loc,.str small),a5 (.loc,.str g),a5 (.loc,.str y),b6] ->
    ∃x,bW x.cps.toList/\x∉names/\bu Γ (nI l) [.lst (ds.map .int),.lst (names.map .str)]=a5 (.ok (.loc,.str x)):=λg o hr=>by
   have⟨x,st',s,t,u⟩:=k g (a5 (.loc,.str y)) o;show⟨x,s,t,ay (st0:=[a5 (.any,.lst (ds.map .int)),a5 (.any,.lst (names.map .str)),b6,b6,b6,b6]) rfl (.inr rfl) rfl (e _ (cT (st1:=[a5 (.any,.lst (ds.map .int)),a5 (.any,.lst (names.map .str)),a5 (.loc,.str small),a5 (.loc,.str a),b6,b6]) ?_ (aB (r:=(.loc,.str y)) (st1:=[a5 (.any,.lst (ds.map .int)),a5 (.any,.lst (names.map .str)),a5 (.loc,.str small),a5 (.loc,.str a),b6,b6]) ?_ aG hr) u))⟩
   .repeat' (first|show fm (by simp;lia)|sizeOf_list_dec)
   .repeat' (first|show bq hp|show aK G1|show aK i1|show G7|show Ti|sizeOf_list_dec)
  have v:∀{c:Bool} {o3 o4:Option (Kd×U)},(dd ds 2 % 4==1)=c->Run (E6 Γ (.cmp .eq (.bin .mod (.idx (.var 0) (.cst (.int 2))) (.cst (.int 4))) (.cst (.int 1)))) [a5 (.any,.lst (ds.map .int)),a5 (.any,.lst (names.map .str)),a5 (.loc,.str small),o3,o4,b6] c [a5 (.any,.lst (ds.map .int)),a5 (.any,.lst (names.map .str)),a5 (.loc,.str small),o3,o4,b6]:=λw=>by
   repeat' (first|show aK L|show gu w|sizeOf_list_dec)
  have z:∀{c:Bool} {o3 o4:Option (Kd×U)},(dd ds 2 % 4==2)=c->Run (E6 Γ (.cmp .eq (.bin .mod (.idx (.var 0) (.cst (.int 2))) (.cst (.int 4))) (.cst (.int 2)))) [a5 (.any,.lst (ds.map .int)),a5 (.any,.lst (names.map .str)),a5 (.loc,.str small),o3,o4,b6] c [a5 (.any,.lst (ds.map .int)),a5 (.any,.lst (names.map .str)),a5 (.loc,.str small),o3,o4,b6]:=λw=>by
   repeat' (first|show aK L|show gu w|sizeOf_list_dec)
  by_cases A:dd ds 2 % 4=1
  .have O_:y.length+a.length<=df:=by lia
   have Hz:ix (.loc,.str (y++a)) b6 (a5 8)=a5 (.loc,.str (PySem.StrLaws.sliceText (y++a) b6 (a5 8))):=by
    simp only[ix];rw[Yr (by rw[len_list];change(y.cps++a.cps).toList.length<=_;rw[Sr,gc,<-len_list,<-len_list];lia)]
   show go (PySem.StrLaws.sliceText (y++a) b6 (a5 8)) (.inl ?_) ?_
   .have:=BW (y++a) 8;rw[show((8:Nat):Int)=8 from rfl]at this;rw[this];change bS ((y.cps++a.cps).toList.take 8)=b7;rw[Sr];show uc q (by rw[n];show G)
   .show cT (v (by simp[A])) (aB (eI (aL (aa rfl) (aa rfl) trivial (dh O_)) eF (eG ak) trivial Hz) aG aI) (aN (z (by simp[A])) aI aI)
  .by_cases B:dd ds 2 % 4=2
   .have Oy:=Je (dd ds 3) (show m≠0 by lia);have KJ:=JH (dd ds 3) D;have Mz:0<=2+dd ds 3 % m:=by lia
    have N:2+dd ds 3 % m<=99:=by lia
    have Tj:=fC Mz N;have J5:FZ .str [(.loc,.int (2+dd ds 3 % m))]=a5 (.loc,.str (cW (2+dd ds 3 % m))):=by
     simp only[FZ,gb,vF];rw[Yr (by
      have:(2+dd ds 3 % m).natAbs<2 ^ 7:=by lia
      have h2:(2+dd ds 3 % m).natAbs≠0:=by lia
      have:=(X4 h2).mpr this;lia)]
     rfl
    have O':(y++("/":Str)).length=y.length+1:=by rw[len_list,len_list];change(y.cps++_).toList.length=_;rw[Sr,gc];rfl
    have Pa:Run (ev Γ (.bin .add (.cst (.int 2)) (.bin .mod (.idx (.var 0) (.cst (.int 3))) l))) [a5 (.any,.lst (ds.map .int)),a5 (.any,.lst (names.map .str)),a5 (.loc,.str small),a5 (.loc,.str a),a5 (.loc,.str y),b6] (.loc,.int (2+dd ds 3 % m)) [a5 (.any,.lst (ds.map .int)),a5 (.any,.lst (names.map .str)),a5 (.loc,.str small),a5 (.loc,.str a),a5 (.loc,.str y),b6]:=aL ak (aL (cp (c_ rfl) ak trivial (aK i3)) (Y _ _ _ _ _) trivial (bq D)) trivial cF;show go (y++"/"++cW (2+dd ds 3 % m)) (.inr ⟨y.cps.toList,(cW (2+dd ds 3 % m)).cps.toList,2+dd ds 3 % m,?_,q,⋯,N,rfl⟩) ?_
    .change((y.cps++#[47])++(cW _).cps).toList=_;simp
    .show aN (v (by simp[B])) aI (cT (z (by simp[B])) (aB (aL (aL (aa rfl) ak trivial (dh (by change y.length+1<=df;lia))) (bX (ae Pa ai) trivial J5) trivial (dh (by rw[O'];lia))) aG aI) aI)
   .show go a (.inl I) ?_;show aN (v (by simp[A])) aI (aN (z (by simp[B])) aI aI)
 .have⟨x,st',s,t,u⟩:=k a b6 (.inl I);show⟨x,s,t,ay (st0:=[a5 (.any,.lst (ds.map .int)),a5 (.any,.lst (names.map .str)),b6,b6,b6,b6]) rfl (.inr rfl) rfl (e _ (aN (st1:=[a5 (.any,.lst (ds.map .int)),a5 (.any,.lst (names.map .str)),a5 (.loc,.str small),a5 (.loc,.str a),b6,b6]) ?_ aI u))⟩
  repeat' (first|show fm (Ys (by simp only[eh];lia))|sizeOf_list_dec)
end
abbrev iL(Γ:Tab):Prop:=∀(ns:List Int) (k:Nat),k<2 ^ 62->∃z,Γ "_law_cell" [.lst (ns.map .int),.int (k:Nat)]=a5 (.ok (.loc,.int z))
abbrev fE(Γ:Tab):Prop:=∀(c:Int) (n:Nat),n<1000->∃a:List Int,a.length=n/\(∀d∈a,0<=d)/\Γ "_law_drawn" [.int c,.int (n:Nat)]=a5 (.ok (.own,.lst (a.map .int)))
abbrev wV(Γ:Tab):Prop:=∀(a:List Int) (names:List Str),12<=a.length->(∀d∈a,0<=d)->names.length<40->(∀x∈names,bW x.cps.toList)->∃x,bW x.cps.toList/\x∉names/\Γ "_law_name" [.lst (a.map .int),.lst (names.map .str)]=a5 (.ok (.loc,.str x))
abbrev fNames:Fn:=⟨"_law_names",3,5,[.set 3 (.lst []),.FL cb [4] .E8 [.var 2] [.app 3 (.call "_law_name" [.call "_law_drawn" [.call "_law_cell" [.var 0,.bin .add (.var 1) (.var 4)],.cst (.int 12)],.var 3])],.ret (.var 3)]⟩
theorem uh(hc:iL Γ)(hd:fE Γ)(hn:wV Γ){ns:List Int}(hb:b<1000)(hm:m<40):
    ∃names:List Str,names.length=m/\names.Nodup/\(∀x∈names,bW x.cps.toList)/\bu Γ fNames [.lst (ns.map .int),.int (b:Nat),.int (m:Nat)]=a5 (.ok (.own,.lst (names.map .str))):=by
  have hsz:(1000:Nat)<=df:=by decide
  let I:List (Kd×U)->ar->Prop:=λxs st=>∃(names:List Str) (us:List U) (o:Option (Kd×U)),st=[a5 (.any,.lst (ns.map .int)),a5 (.loc,.int (b:Nat)),a5 (.loc,.int (m:Nat)),a5 (.own,.lst us),o]/\us=names.map .str/\names.Nodup/\(∀x∈names,bW x.cps.toList)/\names.length+xs.length=m/\dN m xs;have loop:=oY (t:=cb) (is:=[4]) (body:=execs Γ [.app 3 (.call "_law_name" [.call "_law_drawn" [.call "_law_cell" [.var 0,.bin .add (.var 1) (.var 4)],.cst (.int 12)],.var 3])]) (rs:=[(.loc,.int (m:Nat))]) I (λ_ _ _=>trivial) (λx xs st Fu=>by
    obtain⟨names,us,o,e,e2,E2,hw,hl,hr⟩:=Fu;subst e;obtain⟨i,hi,rfl,Iz,hlen⟩:=hr.cons;rw[lx]at hl;obtain⟨z,hz⟩:=hc ns (b+i) ⋯;rw[U0]at hz;obtain⟨ds,d1,d2,d3⟩:=hd z 12 ⋯;obtain⟨x,x1,x2,x3⟩:=hn ds names ⋯ d2 ⋯ hw;rw[<-e2]at x3;refine⟨[a5 (.any,.lst (ns.map .int)),a5 (.loc,.int (b:Nat)),a5 (.loc,.int (m:Nat)),a5 (.own,.lst us),a5 (.loc,.int (i:Nat))],[a5 (.any,.lst (ns.map .int)),a5 (.loc,.int (b:Nat)),a5 (.loc,.int (m:Nat)),a5 (.own,.lst (us++[.str x])),a5 (.loc,.int (i:Nat))],aG,?_,⟨names++[x],_,_,rfl,by simp[e2],?_,?_,by simp;lia,Iz⟩⟩
    · repeat' (first|exact hz|exact d3|exact x3|exact(by rw[e2,eh];lia)|sizeOf_list_dec)
    · rw[GR]
      exact ⟨E2, by simp, fun y hy w J8 => by have : w = x := by simpa using J8
                                              subst this;rintro rfl;exact x2 hy⟩
    · intro y hy
      rcases l'.mp hy with h|h
      · exact hw y h
      · rw[rr.mp h];exact x1)
  obtain⟨st',Fi,names,us,o,e,e2,E2,hw,hl,_⟩:=loop ((ei m).map λi:Nat=>(Kd.loc,U.int (0+(i:Int)))) [a5 (.any,.lst (ns.map .int)),a5 (.loc,.int (b:Nat)),a5 (.loc,.int (m:Nat)),a5 (.own,.lst []),b6] ⟨[],[],b6,rfl,rfl,by simp,by simp,by simp,dN.all m⟩;subst e e2;refine⟨names,by simpa using hl,E2,hw,?_⟩;apply ay (st0:=[a5 (.any,.lst (ns.map .int)),a5 (.loc,.int (b:Nat)),a5 (.loc,.int (m:Nat)),b6,b6]) rfl (.inl rfl) rfl
  repeat' sizeOf_list_dec
  have hit:=fq (k:=.loc) (n:=m) ⋯;refine' kB (rs:=[(.loc,.int (m:Nat))]) (st1:=[a5 (.any,.lst (ns.map .int)),a5 (.loc,.int (b:Nat)),a5 (.loc,.int (m:Nat)),a5 (.own,.lst []),b6]) _ trivial hit rfl Fi _
  all_goals repeat' sizeOf_list_dec
abbrev je:Fn:=⟨"_law_told",2,6,[.set 2 (.bi .len [.var 1]),.ite (.and [.cmp .gt (.bin .mod (.idx (.var 0) (.cst (.int 2))) (.cst (.int 3))) (.cst (.int 0)),.cmp .gt (.bin .mod (.idx (.var 0) (.cst (.int 0))) (.bi .len [.var 1])) (.cst (.int 0))]) [.set 2 (.bin .mod (.idx (.var 0) (.cst (.int 0))) (.bi .len [.var 1]))] [],.set 3 (.lst []),.FL cb [4] .E8 [.idx (.lst [.cst (.int 0),.cst (.int 0),.cst (.int 1),.cst (.int 1),.cst (.int 1),.cst (.int 2),.cst (.int 2),.cst (.int 2),.cst (.int 3),.cst (.int 8)]) (.bin .mod (.idx (.var 0) (.cst (.int 1))) (.cst (.int 10)))] [.set 5 (.idx (.var 1) (.bin .mod (.idx (.var 0) (.bin .add (.cst (.int 3)) (.var 4))) (.var 2))),.ite (.cmp .EW (.var 5) (.var 3)) [.app 3 (.var 5)] []],.ret (.bi .tuple [.var 3])]⟩
theorem EI:∀j:Nat,j<10->∃q:Nat,q<=8/\E7 [U.int 0,.int 0,.int 1,.int 1,.int 1,.int 2,.int 2,.int 2,.int 3,.int 8] (j:Int)=a5 (.int (q:Nat))
 |0,_=>⟨0,⋯,rfl⟩|1,_=>⟨0,⋯,rfl⟩|2,_=>⟨1,⋯,rfl⟩|3,_=>⟨1,⋯,rfl⟩|4,_=>⟨1,⋯,rfl⟩
 |5,_=>⟨2,⋯,rfl⟩|6,_=>⟨2,⋯,rfl⟩|7,_=>⟨2,⋯,rfl⟩|8,_=>⟨3,⋯,rfl⟩|9,_=>⟨8,⋯,rfl⟩
 |n+10,h=>absurd h ⋯
def B0(hz:0<=z)(b:0<t)(hl:t<=xs.length):∃x∈xs,E7 xs (z % t)=a5 x:=by
 have c:=Je z (by lia:t≠0);have e:=JH z b;have⟨j,d⟩:=QT c;have a:j<xs.length:=by lia
 show⟨xs[j]'a,KY a,?_⟩;rw[d];show bZ (by simp[a])
def sE{xs:List Str}{z t:Int}(hz:0<=z)(a:0<t)(hl:t<=xs.length):∃x∈xs,E7 (xs.map U.str) (z % t)=a5 (.str x):=by
 have⟨u,b,e⟩:=B0 (xs:=xs.map U.str) hz a (by simpa using hl);have⟨x,c,rfl⟩:=mh.mp b;show⟨x,c,e⟩
theorem wW{Γ:Tab}{ds:List Int}{names:List Str}(hd:11<=ds.length)(h0:∀d∈ds,0<=d)(hn:0<names.length):
    ∃told:List Str,told.length<=8/\told.Nodup/\(∀x∈told,x∈names)/\bu Γ je [.lst (ds.map .int),.lst (names.map .str)]=a5 (.ok (.loc,.tup (told.map .str))):=by
  have hsz:(1000:Nat)<=df:=by decide
  have i0:E7 (ds.map U.int) 0=a5 (.int (dd ds 0)):=bP (i:=0) ⋯;have i1:E7 (ds.map U.int) 1=a5 (.int (dd ds 1)):=bP (i:=1) ⋯;have i2:E7 (ds.map U.int) 2=a5 (.int (dd ds 2)):=bP (i:=2) ⋯;have n0:=dP h0 0;have n1:=dP h0 1;have n2:=dP h0 2;have hp:(0:Int)<((names.map U.str).length:Nat):=by simp;lia
  have hL:((names.map U.str).length:Int)=names.length:=by simp
  have JL:=JH (dd ds 0) hp;have Oy:=Je (dd ds 0) (by lia:((names.map U.str).length:Int)≠0);let B:=λ(t:Int) (us:List U) (o4 o5:Option (Kd×U))=>([a5 (.any,.lst (ds.map .int)),a5 (.any,.lst (names.map .str)),a5 (.loc,.int t),a5 (.own,.lst us),o4,o5]:ar)
  have hj:(dd ds 1 % 10).toNat<10:=by lia
  obtain⟨q,hq,G1⟩:=EI _ hj;rw[F_ ⋯]at G1;have main:∀t:Int,0<t->t<=names.length->∃told:List Str,told.length<=8/\told.Nodup/\(∀x∈told,x∈names)/\∃st',Run (execs Γ (je.body.drop 2)) [a5 (.any,.lst (ds.map .int)),a5 (.any,.lst (names.map .str)),a5 (.loc,.int t),b6,b6,b6] (.rt .loc (.tup (told.map .str))) st':=λt ht Pb=>by
    let I:List (Kd×U)->ar->Prop:=λxs st=>∃(told:List Str) (us:List U) (o4 o5:Option (Kd×U)),st=B t us o4 o5/\us=told.map .str/\told.Nodup/\(∀x∈told,x∈names)/\told.length+xs.length<=q/\dN q xs;have loop:=oY (t:=cb) (is:=[4]) (body:=execs Γ [.set 5 (.idx (.var 1) (.bin .mod (.idx (.var 0) (.bin .add (.cst (.int 3)) (.var 4))) (.var 2))),
      .ite (.cmp .EW (.var 5) (.var 3))
        [.app 3 (.var 5)]
        []]) (rs:=[(.loc,.int (q:Nat))]) I (λ_ _ _=>trivial) (λx xs st Fu=>by
      obtain⟨told,us,o4,o5,e,e2,E2,hw,hl,hr⟩:=Fu;subst e;obtain⟨i,hi,rfl,Iz,hlen⟩:=hr.cons;rw[lx]at hl;have ik:E7 (ds.map U.int) (3+(i:Int))=a5 (.int (dd ds (3+i))):=by
        rw[show(3+(i:Int))=((3+i:Nat):Int) by lia];exact bP ⋯
      obtain⟨x,hx,MW⟩:=sE (xs:=names) (dP h0 (3+i)) ht Pb;have H0:aW .EW (.str x) (.lst us)=a5 (c4 (x∉told)):=by rw[e2];exact kF
      by_cases Gg:x∈told
      · refine⟨B t us (a5 (.loc,.int (i:Nat))) o5,B t us (a5 (.loc,.int (i:Nat))) (a5 (.any,.str x)),aG,?_,⟨told,us,_,_,rfl,e2,E2,hw,⋯,Iz⟩⟩
        refine aB (r:=(.any,.str x)) (st1:=B t us (a5 (.loc,.int (i:Nat))) o5) ?_ oW (aN (st1:=B t us (a5 (.loc,.int (i:Nat))) (a5 (.any,.str x))) ?_ aI aI)
        · repeat' (first|exact aK ik|exact bq ht|exact aK MW|sizeOf_list_dec)
        · have:aW .EW (.str x) (.lst us)=a5 cb:=by rw[H0];simp[Gg]
          repeat' (first|exact this|sizeOf_list_dec)
      · refine⟨B t us (a5 (.loc,.int (i:Nat))) o5,B t (us++[.str x]) (a5 (.loc,.int (i:Nat))) (a5 (.any,.str x)),aG,?_,⟨told++[x],_,_,_,rfl,by simp[e2],?_,?_,by simp;lia,Iz⟩⟩
        · refine aB (r:=(.any,.str x)) (st1:=B t us (a5 (.loc,.int (i:Nat))) o5) ?_ oW (cT (st1:=B t us (a5 (.loc,.int (i:Nat))) (a5 (.any,.str x))) (st2:=B t (us++[.str x]) (a5 (.loc,.int (i:Nat))) (a5 (.any,.str x))) ?_ ?_ aI)
          · repeat' (first|exact aK ik|exact bq ht|exact aK MW|sizeOf_list_dec)
          · have:aW .EW (.str x) (.lst us)=some true:=by rw[H0];simp[Gg]
            repeat' (first|exact this|sizeOf_list_dec)
          · repeat' (first|exact zV rfl|exact(by rw[e2,eh];lia)|sizeOf_list_dec)
        · rw[GR]
          exact ⟨E2, by simp, fun y hy w J8 => by have : w = x := by simpa using J8
                                                  subst this;rintro rfl;exact Gg hy⟩
        · intro y hy
          rcases l'.mp hy with h|h
          · exact hw y h
          · rw[rr.mp h];exact hx)
    obtain⟨st',Fi,told,us,o4,o5,e,e2,E2,hw,hl,_⟩:=loop ((ei q).map λi:Nat=>(Kd.loc,U.int (0+(i:Int)))) (B t [] b6 b6) ⟨[],[],b6,b6,rfl,rfl,by simp,by simp,by simp,dN.all q⟩;subst e e2;refine⟨told,by simp at hl;lia,E2,hw,?_⟩;have hit:=fq (k:=.loc) (n:=q) ⋯;refine⟨B t (told.map .str) o4 o5,aB (r:=(.own,.lst [])) (fj ai trivial aT (uv _)) da (kB (rs:=[(.loc,.int (q:Nat))]) (st1:=B t [] b6 b6) ?_ trivial hit rfl Fi ?_)⟩
    · refine ae (cp (x:=(.own,.lst [U.int 0,.int 0,.int 1,.int 1,.int 1,.int 2,.int 2,.int 2,.int 3,.int 8])) (y:=(.loc,.int (dd ds 1 % 10))) (st1:=B t [] b6 b6) ?_ ?_ trivial (aK G1)) ai
      · repeat' (first|exact(by decide:(10:Nat)<=df)|sizeOf_list_dec)
      · repeat' (first|exact aK i1|sizeOf_list_dec)
    · repeat' sizeOf_list_dec
  have fin:∀t:Int,0<t->t<=names.length->(∀{f:Fl} {st':ar},Run (execs Γ (je.body.drop 2)) [a5 (.any,.lst (ds.map .int)),a5 (.any,.lst (names.map .str)),a5 (.loc,.int t),b6,b6,b6] f st'->Run (execs Γ je.body) [a5 (.any,.lst (ds.map .int)),a5 (.any,.lst (names.map .str)),b6,b6,b6,b6] f st') ->
      ∃told:List Str,told.length<=8/\told.Nodup/\(∀x∈told,x∈names)/\bu Γ je [.lst (ds.map .int),.lst (names.map .str)]=a5 (.ok (.loc,.tup (told.map .str))):=λt ht Pb hh=>by
    obtain⟨told,a1,a2,a3,st',a4⟩:=main t ht Pb;exact⟨told,a1,a2,a3,ay (st0:=[a5 (.any,.lst (ds.map .int)),a5 (.any,.lst (names.map .str)),b6,b6,b6,b6]) rfl (.inr rfl) rfl (hh a4)⟩
  let S0:ar:=[a5 (.any,.lst (ds.map .int)),a5 (.any,.lst (names.map .str)),a5 (.loc,.int ((names.map U.str).length:Nat)),b6,b6,b6]
  have q1:∀{c:Bool},c4 (0<dd ds 2 % 3)=c->Run (E6 Γ (.cmp .gt (.bin .mod (.idx (.var 0) (.cst (.int 2))) (.cst (.int 3))) (.cst (.int 0)))) S0 c S0:=λh=>by repeat' (first|exact aK i2|exact fm h|sizeOf_list_dec)
  have q2:∀{c:Bool},c4 (0<dd ds 0 % ((names.map U.str).length:Nat))=c->Run (E6 Γ (.cmp .gt (.bin .mod (.idx (.var 0) (.cst (.int 0))) (.bi .len [.var 1])) (.cst (.int 0)))) S0 c S0:=λh=>by repeat' (first|exact aK i0|exact bq hp|exact fm h|sizeOf_list_dec)
  have s2:Run (ev Γ (.bi .len [.var 1])) [a5 (.any,.lst (ds.map .int)),a5 (.any,.lst (names.map .str)),b6,b6,b6,b6] (.loc,.int ((names.map U.str).length:Nat)) [a5 (.any,.lst (ds.map .int)),a5 (.any,.lst (names.map .str)),b6,b6,b6,b6]:=by repeat' sizeOf_list_dec
  have s3:Run (ev Γ (.bin .mod (.idx (.var 0) (.cst (.int 0))) (.bi .len [.var 1]))) S0 (.loc,.int (dd ds 0 % ((names.map U.str).length:Nat))) S0:=by repeat' (first|exact aK i0|exact bq hp|sizeOf_list_dec)
  by_cases c1:0<dd ds 2 % 3
  · by_cases c2:0<dd ds 0 % ((names.map U.str).length:Nat)
    · exact fin (dd ds 0 % ((names.map U.str).length:Nat)) c2 ⋯ λh=>aB s2 aG (cT (su (qE (q1 (Yu c1)) (nB (q2 (Yu c2))))) (aB s3 aG aI) h)
    · exact fin ((names.map U.str).length:Nat) hp ⋯ λh=>aB s2 aG (aN (su (qE (q1 (Yu c1)) (nB (q2 (Ys c2))))) aI h)
  · exact fin ((names.map U.str).length:Nat) hp ⋯ λh=>aB s2 aG (aN (su (wL (q1 (Ys c1)))) aI h)
def DW(g:Run (ev Γ h) st j st1)(l:st1[i]?=a5 (a5 (k',u')))(m:Run (ev Γ n) st1 o st2)(p:Run (cN [j,o]) st2 [b,c] st3)(q:st3[i]?=a5 (a5 (k,d)))(hk:k.root=b7)(r:j5 c b d=a5 e)
  (s:Run (execs Γ ss) (st3.set i (a5 (k,e))) f t) (u:k'≠.ES:=by intro z;cases z):Run (execs Γ (.put i n h::ss)) st f t:=by
 show kA (af g (af (lP l u) (af m (af p (af (a:=()) (st1:=st3.set i (a5 (k,e))) ?_ aO))))) s;change modS i (rD [b,c]) st3=_;unfold modS;rw[q];simp only[hk,YA];change(match j5 c b d with|some u'=>_|none=>b6)=_;rw[r]
@[reducible]noncomputable def Row:=Str×List Str
abbrev B'(r:Row):U:=.tup [.str r.1,.tup (r.2.map .str)]
abbrev keyOf(r:Row):Row:=(r.1,bV r.2)
def iM(r:Row):rowOf (B' r)=a5 r:=by
 change(strsOf (r.2.map U.str)).map _=_;rw[dO];rfl
def sorted_strs(h:ss.length<64):FZ .sorted [(k,.tup (ss.map .str))]=a5 (.own,.lst ((bV ss).map .str)):=by
 change(strsOf (ss.map U.str)).bind _=_;rw[dO];change(if ss.length<64 then _ else _)=_;rw[Yr h]
abbrev wX:Fn:=⟨"_law_book",4,10,[.set 4 (.lst []),.set 5 (.Hv b7),.FL cb [6] .E8 [.var 3] [.set 7 (.call "_law_drawn" [.call "_law_cell" [.var 0,.bin .add (.var 1) (.var 6)],.cst (.int 11)]),.set 8 (.tup [.idx (.var 2) (.bin .mod (.idx (.var 7) (.cst (.int 0))) (.bi .len [.var 2])),.call "_law_told" [.var 7,.var 2]]),.set 9 (.tup [.idx (.var 8) (.cst (.int 0)),.bi .tuple [.bi .sorted [.idx (.var 8) (.cst (.int 1))]]]),.ite (.cmp .EW (.var 9) (.var 5)) [.put 5 (.var 9) (.cst (.bl b7)),.app 4 (.var 8)] []],.ret (.bi .tuple [.var 4])]⟩
abbrev wY(Γ:Tab):Prop:=∀(b:List Int) (names:List Str),11<=b.length->(∀d∈b,0<=d)->0<names.length ->
 ∃a:List Str,a.length<=8/\a.Nodup/\(∀x∈a,x∈names)/\Γ "_law_told" [.lst (b.map .int),.lst (names.map .str)]=a5 (.ok (.loc,.tup (a.map .str)))
structure pe(names:List Str)(r:Row):Prop where
 word:r.1∈names
 Im:r.2.length<=8
 once:r.2.Nodup
 told:∀x∈r.2,x∈names
theorem wZ(hc:iL Γ)(hd:fE Γ)(ht:wY Γ){ns:List Int}(hn:0<names.length)(hb:b<1000)(hm:m<1000):
    ∃rows:List Row,rows.length<=m/\(rows.map keyOf).Nodup/\(∀r∈rows,pe names r)/\bu Γ wX [.lst (ns.map .int),.int (b:Nat),.lst (names.map .str),.int (m:Nat)]=a5 (.ok (.loc,.tup (rows.map B'))):=by
  have hsz:(1000:Nat)<=df:=by decide
  let B:=λ(us:List U) (ks:List cu) (o6 o7 o8 o9:Option (Kd×U))=>([a5 (.any,.lst (ns.map .int)),a5 (.loc,.int (b:Nat)),a5 (.any,.lst (names.map .str)),a5 (.loc,.int (m:Nat)),a5 (.own,.lst us),a5 (.own,.Fw ks),o6,o7,o8,o9]:ar)
  let I:List (Kd×U)->ar->Prop:=λxs st=>∃(rows:List Row) (us:List U) (ks:List cu) (o6 o7 o8 o9:Option (Kd×U)),st=B us ks o6 o7 o8 o9/\us=rows.map B'/\ks=rows.map keyOf/\ks.Nodup/\(∀r∈rows,pe names r)/\rows.length+xs.length<=m/\dN m xs;have hp:(0:Int)<((names.map U.str).length:Nat):=by simp;lia
  have loop:=oY (t:=cb) (is:=[6]) (body:=execs Γ [.set 7 (.call "_law_drawn" [.call "_law_cell" [.var 0,.bin .add (.var 1) (.var 6)],.cst (.int 11)]),
      .set 8 (.tup [.idx (.var 2) (.bin .mod (.idx (.var 7) (.cst (.int 0))) (.bi .len [.var 2])),.call "_law_told" [.var 7,.var 2]]),
      .set 9 (.tup [.idx (.var 8) (.cst (.int 0)),.bi .tuple [.bi .sorted [.idx (.var 8) (.cst (.int 1))]]]),
      .ite (.cmp .EW (.var 9) (.var 5))
        [.put 5 (.var 9) (.cst (.bl b7)),
        .app 4 (.var 8)]
        []]) (rs:=[(.loc,.int (m:Nat))]) I (λ_ _ _=>trivial) (λx xs st Fu=>by
    obtain⟨rows,us,ks,o6,o7,o8,o9,e,e2,e3,E2,hw,hl,hr⟩:=Fu;subst e;obtain⟨i,hi,rfl,Iz,hlen⟩:=hr.cons;rw[lx]at hl;obtain⟨z,hz⟩:=hc ns (b+i) ⋯;rw[U0]at hz;obtain⟨ds,d1,d2,d3⟩:=hd z 11 ⋯;obtain⟨told,t1,t2,t3,t4⟩:=ht ds names ⋯ d2 hn;have i0:E7 (ds.map U.int) 0=a5 (.int (dd ds 0)):=bP (i:=0) ⋯;obtain⟨nm,MX,Ox⟩:=sE (xs:=names) (t:=((names.map U.str).length:Nat)) (dP d2 0) hp (by simp);have I_:pe names (nm,told):=⟨MX,t1,t2,t3⟩
    have j0:gZ (.loc,B' (nm,told)) (.int 0)=a5 (.loc,.str nm):=rfl;have j1:gZ (.loc,B' (nm,told)) (.int 1)=a5 (.loc,.tup (told.map .str)):=rfl;have Hr:=sorted_strs (k:=.loc) (ss:=told) ⋯;let i6:Option (Kd×U):=a5 (.loc,.int (i:Nat));let i7:Option (Kd×U):=a5 (.own,.lst (ds.map .int));let i8:Option (Kd×U):=a5 (.loc,B' (nm,told));let i9:Option (Kd×U):=a5 (.loc,B' (keyOf (nm,told)));have g7:Run (ev Γ (.call "_law_drawn" [.call "_law_cell" [.var 0,.bin .add (.var 1) (.var 6)],.cst (.int 11)])) (B us ks i6 o7 o8 o9) (.own,.lst (ds.map .int)) (B us ks i6 o7 o8 o9):=by repeat' (first|exact hz|exact d3|sizeOf_list_dec)
    have g8:Run (ev Γ (.tup [.idx (.var 2) (.bin .mod (.idx (.var 7) (.cst (.int 0))) (.bi .len [.var 2])),.call "_law_told" [.var 7,.var 2]])) (B us ks i6 i7 o8 o9) (.loc,B' (nm,told)) (B us ks i6 i7 o8 o9):=by
      repeat' (first|exact aK i0|exact bq hp|exact aK Ox|exact t4|exact zV rfl|exact(by decide:(2:Nat)<=df)|sizeOf_list_dec)
    have g9:Run (ev Γ (.tup [.idx (.var 8) (.cst (.int 0)),.bi .tuple [.bi .sorted [.idx (.var 8) (.cst (.int 1))]]])) (B us ks i6 i7 i8 o9) (.loc,B' (keyOf (nm,told))) (B us ks i6 i7 i8 o9):=by
      repeat' (first|exact j0|exact j1|exact Hr|exact(by decide:(2:Nat)<=df)|sizeOf_list_dec)
    have H0:aW .EW (B' (keyOf (nm,told))) (.Fw ks)=a5 (c4 (keyOf (nm,told)∉ks)):=by
      show(((rowOf (B' (keyOf (nm,told)))).map λr=>c4 (r∈ks))).map (!·)=_;rw[iM];simp
    by_cases Gg:keyOf (nm,told)∈ks
    · refine⟨B us ks i6 o7 o8 o9,B us ks i6 i7 i8 i9,aG,aB g7 da (aB g8 aG (aB g9 aG (aN ?_ aI aI))),⟨rows,us,ks,_,_,_,_,rfl,e2,e3,E2,hw,⋯,Iz⟩⟩
      have:aW .EW (B' (keyOf (nm,told))) (.Fw ks)=a5 cb:=by rw[H0];simp[Gg]
      exact bT (aa rfl) (cS rfl) ⟨⟨.own,rfl,rfl⟩,trivial⟩ this
    · refine⟨B us ks i6 o7 o8 o9,B (us++[B' (nm,told)]) (ks++[keyOf (nm,told)]) i6 i7 i8 i9,aG,aB g7 da (aB g8 aG (aB g9 aG (cT (st1:=B us ks i6 i7 i8 i9) (st2:=B (us++[B' (nm,told)]) (ks++[keyOf (nm,told)]) i6 i7 i8 i9) ?_ ?_ aI))),⟨rows++[(nm,told)],_,_,_,_,_,_,rfl,by simp[e2],by simp[e3],?_,?_,by simp;lia,Iz⟩⟩
      · have:aW .EW (B' (keyOf (nm,told))) (.Fw ks)=a5 b7:=by rw[H0];simp[Gg]
        exact bT (aa rfl) (cS rfl) ⟨⟨.own,rfl,rfl⟩,trivial⟩ this
      · have Pc:j5 (B' (keyOf (nm,told))) (.bl b7) (.Fw ks)=a5 (.Fw (ks++[keyOf (nm,told)])):=by
          show(match rowOf (B' (keyOf (nm,told))),U.bl b7 with|some r,.bl b7=>if r∉ks/\ks.length<=1000 then a5 (U.Fw (ks++[r])) else b6|_,_=>b6)=_;rw[iM];show(if keyOf (nm,told)∉ks/\ks.length<=1000 then _ else _)=_;rw[Yr ⟨Gg,by rw[e3,eh];lia⟩]
        exact DW (st1:=B us ks i6 i7 i8 i9) (st2:=B us ks i6 i7 i8 i9) (st3:=B us ks i6 i7 i8 i9) (k:=.own) (k':=.own) ak rfl (aa rfl) (av aA (av aA aT)) rfl rfl Pc
          (oX (st1:=B us (ks++[keyOf (nm,told)]) i6 i7 i8 i9) (st2:=B us (ks++[keyOf (nm,told)]) i6 i7 i8 i9) (k:=.own) (k':=.own) (us:=us) (us':=us) rfl (aa rfl) aA rfl rfl (by rw[e2,eh];lia) aI)
      · rw[GR]
        exact ⟨E2, by simp, fun y hy w J8 => by have : w = keyOf (nm, told) := by simpa using J8
                                                subst this;rintro rfl;exact Gg hy⟩
      · intro y hy
        rcases l'.mp hy with h|h
        · exact hw y h
        · rw[rr.mp h];exact I_)
  obtain⟨st',Fi,rows,us,ks,o6,o7,o8,o9,e,e2,e3,E2,hw,hl,_⟩:=loop ((ei m).map λi:Nat=>(Kd.loc,U.int (0+(i:Int)))) (B [] [] b6 b6 b6 b6) ⟨[],[],[],b6,b6,b6,b6,rfl,rfl,rfl,by simp,by simp,by simp,dN.all m⟩;subst e e2 e3;refine⟨rows,by simpa using hl,E2,hw,?_⟩;have hit:=fq (k:=.loc) (n:=m) ⋯;exact ay (st0:=[a5 (.any,.lst (ns.map .int)),a5 (.loc,.int (b:Nat)),a5 (.any,.lst (names.map .str)),a5 (.loc,.int (m:Nat)),b6,b6,b6,b6,b6,b6]) rfl (.inr rfl) rfl
    (aB (r:=(.own,.lst [])) (fj ai trivial aT (uv _)) da (aB (r:=(.own,.Fw [])) BX da (kB (rs:=[(.loc,.int (m:Nat))]) (st1:=B [] [] b6 b6 b6 b6) (ae (aa rfl) ai) trivial hit rfl Fi
      (a_ (bX (ae (cS rfl) ai) ⟨⟨.own,rfl,rfl⟩,trivial⟩ rfl) a9))))
abbrev nK(Γ:Tab):Prop:=∀(ns:List Int) (b m:Nat),b<1000->m<40->∃names:List Str,names.length=m/\names.Nodup/\(∀x∈names,bW x.cps.toList)/\Γ "_law_names" [.lst (ns.map .int),.int (b:Nat),.int (m:Nat)]=a5 (.ok (.own,.lst (names.map .str)))
abbrev w9(Γ:Tab):Prop:=∀(ns:List Int) (names:List Str) (b m:Nat),0<names.length->b<1000->m<1000 ->
 ∃a:List Row,a.length<=m/\(a.map keyOf).Nodup/\(∀r∈a,pe names r)/\Γ "_law_book" [.lst (ns.map .int),.int (b:Nat),.lst (names.map .str),.int (m:Nat)]=a5 (.ok (.loc,.tup (a.map B')))
abbrev w_:Fn:=⟨"_law_made",1,3,[.set 1 (.call "_law_drawn" [.call "_law_cell" [.var 0,.cst (.int 0)],.cst (.int 4)]),.set 2 (.call "_law_names" [.var 0,.cst (.int 1),.bin .add (.cst (.int 1)) (.bin .mod (.idx (.var 1) (.cst (.int 0))) (.cst (.int 14)))]),.ret (.call "_law_book" [.var 0,.cst (.int 20),.var 2,.bin .mod (.idx (.var 1) (.cst (.int 1))) (.cst (.int 41))])]⟩
def xb(f:iL Γ)(g:fE Γ)(h:nK Γ)(j:w9 Γ)(ns:List Int):∃(names:List Str) (a:List Row),0<names.length/\names.length<=14/\names.Nodup/\(∀x∈names,bW x.cps.toList) /\
  a.length<=40/\(a.map keyOf).Nodup/\(∀r∈a,pe names r)/\bu Γ w_ [.lst (ns.map .int)]=a5 (.ok (.loc,.tup (a.map B'))):=by
 have⟨z,hz⟩:=f ns 0 ⋯;have⟨b,s,c,k⟩:=g z 4 ⋯;have l:E7 (b.map U.int) 0=a5 (.int (dd b 0)):=bP (i:=0) ⋯;have m:E7 (b.map U.int) 1=a5 (.int (dd b 1)):=bP (i:=1) ⋯;have t:=dP c 0;have u:=dP c 1;have⟨names,v,n,o,d⟩:=h ns 1 (1+dd b 0 % 14).toNat ⋯ ⋯;rw[F_ ⋯]at d;have⟨a,w,p,q,e⟩:=j ns names 20 (dd b 1 % 41).toNat ⋯ ⋯ ⋯;rw[F_ ⋯]at e;show⟨names,a,⋯,⋯,n,o,⋯,p,q,?_⟩;apply ay (st0:=[a5 (.any,.lst (ns.map .int)),b6,b6]) rfl (.inr rfl) rfl
 repeat' (first|show hz|show k|show aK l|show aK m|show d|show e|sizeOf_list_dec)
section
def zZ(h:Ft Pg "_law_mix" ud):wQ (Fp Pg (d+1)):=λc k a b=>by rw[aC h];show zg a b
def iN(h:Ft Pg "_law_mix" ud)(a:Ft Pg "_law_cell" sA):iL (Fp Pg (d+2)):=λns k hk=>⟨_,by rw[aC a];show wR (zZ h) hk⟩
def drawnOk(h:Ft Pg "_law_mix" ud)(f:Ft Pg "_law_drawn" nH):fE (Fp Pg (d+2)):=λc n g=>by
 have⟨i,a,b,e⟩:=ue (zZ (d:=d) h) (c:=c) g;show⟨i,a,b,by rw[aC f];show e⟩
def B1(f:zh g)(h:Ft Pg "_law_name" (nI g)):wV (Fp Pg (d+1)):=λi names a b c e=>by
 have⟨x,p,q,r⟩:=wU (Γ:=Fp Pg d) f a b c e;show⟨x,p,q,by rw[aC h];show r⟩
def B3(h:Ft Pg "_law_told" je):wY (Fp Pg (d+1)):=λe names a b c=>by
 have⟨x,p,q,r,s⟩:=wW (Γ:=Fp Pg d) a b c;show⟨x,p,q,r,by rw[aC h];show s⟩
structure cy(md:E)(Pg:List Fn):Prop where
 mix:Ft Pg "_law_mix" ud
 cell:Ft Pg "_law_cell" sA
 drawn:Ft Pg "_law_drawn" nH
 name:Ft Pg "_law_name" (nI md)
 names:Ft Pg "_law_names" fNames
 told:Ft Pg "_law_told" je
 book:Ft Pg "_law_book" wX
def cy.iN(M:cy a Pg):iL (Fp Pg (d+2)):=TM.iN M.mix M.cell
def cy.drawnOk(M:cy a Pg):fE (Fp Pg (d+2)):=TM.drawnOk M.mix M.drawn
def cy.xf(a:zh c)(M:cy c Pg):nK (Fp Pg (d+3)):=λns b m e f=>by
 have⟨names,p,q,r,s⟩:=uh (Γ:=Fp Pg (d+2)) M.iN M.drawnOk (TM.B1 a M.name) (ns:=ns) e f;show⟨names,p,q,r,by rw[aC M.names];show s⟩
@[reducible]noncomputable def xg(Pg:List Fn):Prop:=cy DV Pg
def cy.namesOk(M:xg Pg):nK (Fp Pg (d+3)):=cy.xf zi M
def cy.B4(M:cy g Pg):w9 (Fp Pg (d+3)):=λns names b m c e f=>by
 have⟨a,p,q,r,s⟩:=wZ (Γ:=Fp Pg (d+2)) M.iN M.drawnOk (TM.B3 M.told) (ns:=ns) c e f;show⟨a,p,q,r,by rw[aC M.book];show s⟩
end
section
def lS(h:Run (execs Γ (a++ss)) st f st2):(∃s1,Run (execs Γ a) st .nx s1/\Run (execs Γ ss) s1 f st2)\/(Run (execs Γ a) st f st2/\f≠.nx):=by
 induction a generalizing st with
 |nil=>show .inl ⟨st,aI,h⟩
 |cons s a i =>
  have h':M.bind (exec Γ s) (λf=>match f with|.nx=>execs Γ (a++ss)|f=>pure f) st=a5 (.ok f,st2):=h;unfold M.bind at h';cases e:exec Γ s st with
  |none=>rw[e]at h';cases h'
  |some p =>
   have⟨x,s1⟩:=p;rw[e]at h';cases x with
   |exc c=>cases h'
   |ok g =>
    cases g with
    |nx =>
     rcases i h' with⟨s2,b,d⟩|⟨b,d⟩
     .show .inl ⟨s2,kA e b,d⟩
     .show .inr ⟨kA e b,d⟩
    |rt k u=>cases h';show .inr ⟨nF e,λz=>nomatch z⟩
    |bk=>cases h';show .inr ⟨af (show Run (exec Γ s) st Fl.bk _ from e) aO,λz=>nomatch z⟩
    |ct=>cases h';show .inr ⟨af (show Run (exec Γ s) st Fl.ct _ from e) aO,λz=>nomatch z⟩
def DX(a:Run (exec Γ s) st f st1)(b:f≠.nx):Run (execs Γ (s::ss)) st f st1:=by
 cases f with
 |nx=>show absurd rfl b
 |rt k u=>show nF a
 |_=>show af a aO
def kG(g:Run (E6 Γ c) st p st1)(h:p=b7->Run (execs Γ (a++ss)) st1 f st2)(i:p=cb->Run (execs Γ (b++ss)) st1 f st2):Run (execs Γ (.ite c a b::ss)) st f st2:=by
 cases p with
 |true =>
  rcases lS (h rfl) with⟨s1,d,e⟩|⟨d,e⟩
  .show kA (nE g d) e
  .show DX (nE g d) e
 |false =>
  rcases lS (i rfl) with⟨s1,d,e⟩|⟨d,e⟩
  .show kA (gr g d) e
  .show DX (gr g d) e
def qI(h:Run (ev Γ e) st (k,.bl p) st)(a:p=b7->Run (g_ Γ (b::es)) st (.loc,.bl q) st):Run (g_ Γ (e::b::es)) st (.loc,.bl (p&&q)) st:=by
 show wK h ?_;cases p with
 |true=>rw[Yr rfl];show a rfl
 |false=>rw[Yt oa];show⟨rfl,rfl⟩
def lT(h:Run (E6 Γ e) st p st)(a:p=cb->Run (fb Γ (b::es)) st q st):Run (fb Γ (e::b::es)) st (p||q) st:=by
 cases p with
 |true=>show DP h
 |false=>show sv h (a rfl)
def B5(h:Run (E6 Γ e) st p st)(a:p=b7->Run (aQ Γ (b::es)) st q st):Run (aQ Γ (e::b::es)) st (p&&q) st:=by
 cases p with
 |true=>show qE h (a rfl)
 |false=>show wL h
theorem dz{cond:M Bool}(h:aY src st)(k:Kd)(hk:k=.loc\/k=.any)(a g:α->U)(d:Kd)(e:∀y,Run cond (a5 (k,a y)::st) b7 (a5 (k,a y)::st)):∀(c:List α) (b:List U),b.length+c.length<=df ->
  (∀y∈c,Run elt (a5 (k,a y)::st) (d,g y) (a5 (k,a y)::st)/\Run (lift (d,g y)) (a5 (k,a y)::st) (g y) (a5 (k,a y)::st))->Run (bB 1 cb cond elt src (c.map λy=>(k,a y)) b) st (b++c.map g) st
 |[],b,_,_=>by rw[O8,O8,w6];show wN h
 |y::c,b,hl,f=>by
  have⟨i,j⟩:=f y (by simp);rw[lx]at hl;show qF (s1:=a5 (k,a y)::st) (s2:=a5 (k,a y)::st) (s3:=a5 (k,a y)::st) (s4:=a5 (k,a y)::st) h ?_ (e y) i j ⋯ ?_
  .rcases hk with rfl|rfl
   .show nG aG
   .show nG oW
  .have:=dz h k hk a g d e c (b++[g y]) (by simp;lia) λz hz=>f z (by simp[hz]);rw[l3];simpa using this
theorem qJ(it:α->Kd×U)(I:List α->List α->ar->Prop)(hs:∀d r st,I d r st->aY rs st)
  (VZ:∀d y r st,I d (y::r) st->∃st1 st2,Run (du t is (it y)) st () st1/\Run body st1 .nx st2/\I (d++[y]) r st2):∀(r d:List α) (st:ar),I d r st->∃st',Run (forM t is body rs (r.map it)) st .nx st'/\I (d++r) [] st'
 |[],d,st,h=>⟨st,wM (hs _ _ _ h),by rw[w6];show h⟩
 |y::r,d,st,h=>by
  have⟨s1,s2,a,b,c⟩:=VZ d y r st h;have⟨s3,e,f⟩:=qJ it I hs VZ r (d++[y]) s2 c;show⟨s3,BY (hs _ _ _ h) a b e,by simpa using f⟩
def nL(a:Run (bp Γ es) st rs st1)(c:aY rs st1)(d:Γ f (rs.map (·.2))=a5 (.ok r))(e:tQ r.2=a5 b)(g:isAny r.1=cb:=by show rfl):Run (E6 Γ (.call f es)) st b st1:=af a (af (aM c) (af (so d g) (cP e)))
def B6(h:Run (ev Γ (.bi f es)) st (k,.bl b) st1):Run (E6 Γ (.bi f es)) st b st1:=by
 have h':(bp Γ es >>= λrs=>au rs >>= λ_=>M.E3 (FZ f rs)) st=a5 (.ok (k,.bl b),st1):=h;obtain⟨rs,s1,c,d,s2,e,r,s3,g,i⟩:∃rs s1,bp Γ es st=a5 (.ok rs,s1)/\∃(a:Unit) (s2:ar),au rs s1=a5 (.ok a,s2)/\∃r s3,M.E3 (FZ f rs) s2=a5 (.ok r,s3)/\(r,s3)=((k,U.bl b),st1):=by
  have w:W (bp Γ es >>= λrs=>au rs >>= λ_=>M.E3 (FZ f rs)) st λr s=>(r,s)=((k,U.bl b),st1):=⟨_,_,h',rfl⟩
  rw[ah]at w;have⟨rs,s1,c,w⟩:=w;rw[ah]at w;have⟨a,s2,d,w⟩:=w;have⟨r,s3,e,w⟩:=w;show⟨rs,s1,c,a,s2,d,r,s3,e,w⟩
 cases i;show af c (af (a:=d) e (af g (cP rfl)))
end
theorem lU:∀ss:List Str,eW (ss.map U.str)=b7
 |[]=>by simp[eW]
 |s::ss=>by simp[eW,Fc,lU ss]
def nM(r:Row):Fc (B' r)=b7:=by simp[B',Fc,eW,lU]
theorem cq:∀rs:List Row,eW (rs.map B')=b7
 |[]=>by simp[eW]
 |r::rs=>by simp[eW,nM,cq rs]
theorem gv:∀(a b:List Str),cj (a.map U.str) (b.map U.str)=c4 (a=b)
 |[],[]=>by simp[cj]
 |[],_::_=>by simp[cj]
 |_::_,[]=>by simp[cj]
 |x::a,y::b=>by
  rw[l3,l3,cj,gv a b];simp only[bA];by_cases h:x=y
  .subst h;simp
  .simp[h]
def kH(ss:List Str)(n:Nat):FN (n+1) (.lst (ss.map U.str))=b7:=by simp[FN,fD]
def xh{a b:List Str}:aW .eq (.lst (a.map U.str)) (.lst (b.map U.str))=a5 (c4 (a=b)):=by
 simp only[aW];rw[Yr ⟨kH a 49,kH b 49⟩];simp only[bA,gv]
def nN:aW .eq (.str a) (.str b)=a5 (c4 (a=b)):=by
 simp only[aW];rw[Yr ⟨rfl,rfl⟩];simp only[bA];by_cases h:a=b
 .subst h;simp
 .simp[h]
def nO(f:α->β)(xs:List α)(lo a:Option Int):cut (xs.map f) lo a=(cut xs lo a).map f:=by simp[cut,Xr,Xs]
def ia(xs:List α)(lo a:Option Int):(cut xs lo a).length<=xs.length:=by simp[cut];lia
def xj(h:k_ k (a.map U.int)=b7):ix (k,.lst (a.map .int)) lo b=a5 (.own,.lst ((cut a lo b).map .int)):=by
 simp only[ix];rw[Yr h,nO]
section
end
section
def z9(c:Run (ev Γ a) st x st1)(d:oK x.2 T=a5 b):Run (E6 Γ (.IM a T)) st b st1:=af c (cP d)
end
def sF(x y:Str):(x++y).cps.toList=x.cps.toList++y.cps.toList:=by
 change(x.cps++y.cps).toList=_;simp
def str_len(x y:Str):(x++y).length=x.length+y.length:=by rw[len_list,len_list,len_list,sF,gc]
def cV{x y:Str}(h:x.cps.toList=y.cps.toList):x=y:=by
 have⟨a⟩:=x;have⟨b⟩:=y;have:a=b:=Ux.mp h;rw[this]
end TM
namespace Od
section
variable{W:Type}[DecidableEq W]{rows:List (W×List W)}
end
end Od
namespace TM
open PySem L2 E5
section
def z_(hk:k=.loc\/k=.any):Run (du b7 [i,j] (k,.tup [a,b])) st () ((st.set i (a5 (k,a))).set j (a5 (k,b))):=by
 rcases hk with rfl|rfl<;>rfl
def B7(a:Run (ev Γ e) st r st1)(b:Run (du b7 is r) st1 () st2)(c:Run (execs Γ ss) st2 f st3):Run (execs Γ (.G' is e::ss)) st f st3:=kA (af a (af b aO)) c
end
def Aa{ss:List Str}:aW .isin (.str x) (.lst (ss.map U.str))=a5 (c4 (x∈ss)):=by
 have h:=@kF x ss;have e:aW .EW (.str x) (.lst (ss.map U.str))=(aW .isin (.str x) (.lst (ss.map U.str))).map (!·):=rfl;rw[e,et]at h;have⟨b,a,c⟩:=h;rw[a];congr 1
 cases b<;>simp_all
def B8:aW .ne (.str a) (.str b)=a5 (!c4 (a=b)):=by
 have:aW .ne (.str a) (.str b)=(aW .eq (.str a) (.str b)).map (!·):=by
  simp only[aW];rw[Yr ⟨rfl,rfl⟩,Yr ⟨rfl,rfl⟩];rfl
 rw[this,nN];rfl
def jy(bs:List Bool):FZ .all [(k,.lst (bs.map .bl))]=a5 (.loc,.bl (bs.all id)):=by
 change(jX (bs.map U.bl)).map _=_;have:∀bs:List Bool,jX (bs.map U.bl)=a5 bs:=λbs=>by
  induction bs with
  |nil=>rfl
  |cons b bs a=>change(jX (bs.map U.bl)).map _=_;rw[a];rfl
 rw[this];rfl
mutual
theorem lV:∀(n:Nat) (u:U),FN n u=b7->bA u u=b7
 |_,.EU,_=>rfl
 |_,.bl b,_=>by simp[bA]
 |_,.int i,_=>by simp[bA]
 |_,.str x,_=>by simp[bA]
 |0,.tup xs,h=>by simp[FN]at h
 |0,.lst xs,h=>by simp[FN]at h
 |n+1,.tup xs,h=>by rw[bA];show gy n xs (by simpa[FN] using h)
 |n+1,.lst xs,h=>by rw[bA];show gy n xs (by simpa[FN] using h)
 |_,.FT _ _,h=>by simp[FN]at h
 |_,.Fw _,h=>by simp[FN]at h
theorem gy:∀(n:Nat) (us:List U),e_ n us=b7->cj us us=b7
 |_,[],_=>rfl
 |n,u::us,h=>by
  have h':FN n u=b7/\e_ n us=b7:=by simpa[e_] using h
  rw[cj,lV n u h'.1,gy n us h'.2];rfl
end
def lW(h:FN 50 u=b7):aW .ne u u=a5 cb:=by
 simp only[aW];rw[Yr ⟨h,h⟩,lV 50 u h];rfl
section
end
section
end
end TM
namespace K
open PySem L2 TM
abbrev top(i:Nat):Ls:=PySem.Challenge.pw_primer_k03_books_that_fit.main.body.getD i (.Pass ⟨0,0,0,0⟩)
abbrev fF:Fn:=⟨"is_stem",1,1,[.ite (.or [.cmp .eq (.var 0) (.cst (.str "")),.cmp .gt (.bi .len [.var 0]) (.G9 "LONGEST_STEM" (.int 8))]) [.ret (.cst (.bl cb))] [],.ret (.bi .all [.comp 1 cb .seq [.var 0] [] (.cmp .isin (.var 0) (.G9 "LETTERS" (.str "abcdefghijklmnopqrstuvwxyz")))])]⟩
abbrev bQ:Fn:=⟨"is_later_sense",1,1,[.ret (.cmp .isin (.var 0) (.comp 1 cb .Hu [.bin .add (.G9 "FIRST_SENSE" (.int 1)) (.cst (.int 1)),.bin .add (.G9 "LAST_SENSE" (.int 99)) (.cst (.int 1))] [] (.bi .str [.var 0])))]⟩
abbrev fG:Fn:=⟨"is_word",1,1,[.ite (.cmp .EW (.cst (.str "/")) (.var 0)) [.ret (.call "is_stem" [.var 0])] [],.ret (.and [.call "is_stem" [.call "stem_of" [.var 0]],.call "is_later_sense" [.call "number_of" [.var 0]]])]⟩
abbrev iO:Fn:=⟨"stem_of",1,1,[.ret (.idx (.G_ .partition (.var 0) [.cst (.str "/")]) (.cst (.int 0)))]⟩
abbrev ft:Fn:=⟨"number_of",1,1,[.ret (.idx (.G_ .partition (.var 0) [.cst (.str "/")]) (.cst (.int 2)))]⟩
abbrev ib:Fn:=⟨"is_row",1,2,[.set 1 (.idx (.var 0) (.cst (.int 1))),.ite (.or [.cmp .gt (.bi .len [.var 1]) (.G9 "MOST_TOLD" (.int 8)),.cmp .lt (.HC .eR [.var 1]) (.bi .len [.var 1])]) [.ret (.cst (.bl cb))] [],.ret (.and [.call "is_word" [.idx (.var 0) (.cst (.int 0))],.bi .all [.comp 1 cb .seq [.var 1] [] (.call "is_word" [.var 0])]])]⟩
abbrev bM:Fn:=⟨"in_one_order",1,1,[.ret (.tup [.idx (.var 0) (.cst (.int 0)),.bi .tuple [.bi .sorted [.idx (.var 0) (.cst (.int 1))]]])]⟩
abbrev bR:Fn:=⟨"has_alike_rows",1,1,[.ret (.cmp .lt (.HC .eR [.comp 1 cb .seq [.var 0] [] (.call "in_one_order" [.var 0])]) (.bi .len [.var 0]))]⟩
abbrev nP:Fn:=⟨"fits",1,1,[.ite (.cmp .gt (.bi .len [.var 0]) (.G9 "MOST_ROWS" (.int 60))) [.ret (.cst (.bl cb))] [],.ret (.and [.bi .all [.comp 1 cb .seq [.var 0] [] (.call "is_row" [.var 0])],.not (.call "has_alike_rows" [.var 0])])]⟩
abbrev ic:Fn:=⟨"fitted",1,1,[.ite (.not (.call "fits" [.var 0])) [.IU "Unfit" (.cst (.str "the book does not fit"))] [],.ret (.var 0)]⟩
noncomputable abbrev lX:Fn:=TM.ud
noncomputable abbrev kI:Fn:=TM.sA
noncomputable abbrev jf:Fn:=TM.nH
abbrev kJ:Fn:=⟨"_law_name",2,6,[.set 2 (.cst (.str "abcdefghijklmnopqrstuvwxyz")),.set 3 (.G_ .join (.cst (.str "")) [.comp 1 cb .E8 [.bin .add (.cst (.int 1)) (.bin .mod (.idx (.var 0) (.cst (.int 0))) (.cst (.int 8)))] [] (.idx (.var 3) (.bin .mod (.idx (.var 1) (.bin .add (.cst (.int 4)) (.var 0))) (.cst (.int 26))))]),.ite (.cmp .gt (.bi .len [.var 1]) (.cst (.int 0))) [.set 4 (.idx (.G_ .split (.idx (.var 1) (.bin .mod (.idx (.var 0) (.cst (.int 1))) (.bi .len [.var 1]))) [.cst (.str "/")]) (.cst (.int 0))),.ite (.cmp .eq (.bin .mod (.idx (.var 0) (.cst (.int 2))) (.cst (.int 4))) (.cst (.int 1))) [.set 3 (.FC (.bin .add (.var 4) (.var 3)) [] [.cst (.int 8)])] [],.ite (.cmp .eq (.bin .mod (.idx (.var 0) (.cst (.int 2))) (.cst (.int 4))) (.cst (.int 2))) [.set 3 (.bin .add (.bin .add (.var 4) (.cst (.str "/"))) (.bi .str [.bin .add (.cst (.int 2)) (.bin .mod (.idx (.var 0) (.cst (.int 3))) (.cst (.int 98)))]))] []] [],.set 5 (.bin .add (.lst [.var 3]) (.comp 1 cb .E8 [.cst (.int 40)] [] (.bin .add (.idx (.var 3) (.bin .Gh (.var 0) (.cst (.int 26)))) (.idx (.var 3) (.bin .mod (.var 0) (.cst (.int 26))))))),.ret (.idx (.comp 1 cb .seq [.var 5] [.cmp .EW (.var 0) (.var 2)] (.var 0)) (.cst (.int 0)))]⟩
noncomputable abbrev jg:Fn:=TM.fNames
noncomputable abbrev kK:Fn:=TM.je
noncomputable abbrev kL:Fn:=TM.wX
noncomputable abbrev kM:Fn:=TM.w_
abbrev cM:Fn:=⟨"_law_is_word",1,3,[.set 1 (.idx (.G_ .split (.var 0) [.cst (.str "/")]) (.cst (.int 0))),.set 2 (.FC (.var 0) [.bi .len [.var 1]] []),.ite (.or [.cmp .lt (.bi .len [.var 1]) (.cst (.int 1)),.cmp .gt (.bi .len [.var 1]) (.cst (.int 8))]) [.ret (.cst (.bl cb))] [],.ite (.and [.cmp .ne (.var 2) (.cst (.str "")),.cmp .EW (.var 2) (.comp 1 cb .Hu [.cst (.int 2),.cst (.int 100)] [] (.bin .add (.cst (.str "/")) (.bi .str [.var 0])))]) [.ret (.cst (.bl cb))] [],.ret (.bi .all [.comp 1 cb .seq [.var 1] [] (.GO .le .le (.cst (.str "a")) (.var 0) (.cst (.str "z")))])]⟩
abbrev fH:Fn:=⟨"_law_fit",1,5,[.set 1 (.lst []),.FL b7 [2,3] .seq [.var 0] [.set 4 (.tup [.var 2,.bi .sorted [.var 3]]),.ite (.or [.cmp .isin (.var 4) (.var 1),.cmp .gt (.bi .len [.var 3]) (.cst (.int 8)),.cmp .ne (.HC .eR [.var 3]) (.bi .len [.var 3])]) [.ret (.cst (.bl cb))] [],.ite (.not (.bi .all [.comp 1 cb .seq [.bin .add (.tup [.var 2]) (.var 3)] [] (.call "_law_is_word" [.var 0])])) [.ret (.cst (.bl cb))] [],.app 1 (.var 4)],.ret (.cmp .le (.bi .len [.var 0]) (.cst (.int 60)))]⟩
abbrev jh:Fn:=⟨"_law_kinds",1,1,[.knd ["PrimerError","ValueError","NoText","Unfit","Unknown","Unlearnt","TooMany","Lacking","NoRow","NoDeed"]]⟩
abbrev ez:Fn:=⟨"_law_only",2,2,[.ret (.cmp .eq (.var 0) (.comp 1 cb .E8 [.cst (.int 10)] [] (.or [.cmp .lt (.var 0) (.cst (.int 2)),.cmp .eq (.var 0) (.var 2)])))]⟩
abbrev cz:Fn:=⟨"_law_bad_word",1,2,[.set 1 (.lst [.cst (.str ""),.cst (.str "Bank"),.cst (.str "abcdefghi"),.cst (.str "bank/1"),.cst (.str "bank/02"),.cst (.str "bank/100"),.cst (.str "/2"),.cst (.str "bank/"),.cst (.str "a b"),.cst (.str "a*"),.cst (.str "bank/2/3"),.cst (.str "bank/x")]),.ret (.idx (.var 1) (.bin .mod (.var 0) (.bi .len [.var 1])))]⟩
abbrev cX:Fn:=⟨"_law_filled",2,5,[.set 2 (.bi .list [.var 0]),.set 3 (.cst (.str "abcdefghij")),.FL cb [4] .E8 [.bin .sub (.bin .add (.cst (.int 60)) (.var 1)) (.bi .len [.var 2])] [.app 2 (.tup [.bin .add (.bin .add (.bin .add (.cst (.str "q")) (.idx (.var 3) (.bin .Gh (.var 4) (.cst (.int 10))))) (.idx (.var 3) (.bin .mod (.var 4) (.cst (.int 10))))) (.cst (.str "zzzzz")),.tup []])],.ret (.bi .tuple [.var 2])]⟩
abbrev cY:Fn:=⟨"_law_spoilt",2,9,[.set 2 (.bin .mod (.idx (.var 0) (.cst (.int 0))) (.cst (.int 9))),.ite (.or [.cmp .gt (.var 2) (.cst (.int 6)),.cmp .eq (.bi .len [.var 1]) (.cst (.int 0))]) [.ret (.call "_law_filled" [.var 1,.bin .mod (.var 2) (.cst (.int 2))])] [],.set 3 (.bin .mod (.idx (.var 0) (.cst (.int 1))) (.bi .len [.var 1])),.G' [4,5] (.idx (.var 1) (.var 3)),.set 6 (.bin .mod (.idx (.var 0) (.cst (.int 2))) (.bin .add (.bi .len [.var 5]) (.cst (.int 1)))),.set 7 (.tup [.var 4,.var 5]),.ite (.cmp .eq (.var 2) (.cst (.int 0))) [.set 7 (.tup [.call "_law_bad_word" [.idx (.var 0) (.cst (.int 3))],.var 5])] [.ite (.cmp .eq (.var 2) (.cst (.int 1))) [.set 7 (.tup [.var 4,.bin .add (.bin .add (.FC (.FC (.var 5) [] [.var 6]) [] [.cst (.int 7)]) (.tup [.call "_law_bad_word" [.idx (.var 0) (.cst (.int 3))]])) (.FC (.var 5) [.bin .add (.var 6) (.cst (.int 1))] [])])] [.ite (.cmp .eq (.var 2) (.cst (.int 2))) [.set 7 (.tup [.var 4,.bin .add (.bin .add (.FC (.var 5) [] [.cst (.int 7)]) (.tup [.idx (.bin .add (.var 5) (.tup [.var 4])) (.bin .mod (.var 6) (.bi .max [.cst (.int 1),.bi .len [.var 5]]))])) (.FC (.var 5) [] [.cst (.int 1)])])] [.ite (.cmp .eq (.var 2) (.cst (.int 3))) [.set 7 (.tup [.var 4,.bi .tuple [.comp 1 cb .E8 [.cst (.int 9)] [] (.bin .add (.cst (.str "nine")) (.idx (.cst (.str "abcdefghi")) (.var 0)))]])] [.ite (.cmp .eq (.var 2) (.cst (.int 4))) [.set 8 (.bin .mod (.idx (.var 0) (.cst (.int 3))) (.bin .add (.bi .len [.var 1]) (.cst (.int 1)))),.ret (.bin .add (.bin .add (.FC (.var 1) [] [.var 8]) (.tup [.tup [.var 4,.Ju (.var 5)]])) (.FC (.var 1) [.var 8] []))] []]]]],.ret (.bin .add (.bin .add (.FC (.var 1) [] [.var 3]) (.tup [.var 7])) (.FC (.var 1) [.bin .add (.var 3) (.cst (.int 1))] []))]⟩
abbrev di:Fn:=⟨"_law_right",1,6,[.set 1 (.call "_law_fit" [.var 0]),.set 2 (.call "fits" [.var 0]),.ite (.or [.not (.IM (.var 2) .bool),.cmp .ne (.var 2) (.var 1)]) [.ret (.cst (.bl cb))] [],.set 3 (.lst []),.set 4 (.cst .EU),.GY 4 "fitted" [.var 0] "PrimerError" "Unfit" 5 3 "_law_kinds" ["PrimerError","ValueError","NoText","Unfit","Unknown","Unlearnt","TooMany","Lacking","NoRow","NoDeed"] [b7,b7,cb,b7,cb,cb,cb,cb,cb,cb],.ite (.var 1) [.ret (.and [.cmp .eq (.var 3) (.lst []),.cmp .eq (.bi .repr [.var 4]) (.bi .repr [.var 0])])] [],.ret (.call "_law_only" [.var 3,.cst (.int 3)])]⟩
abbrev sG:Fn:=⟨"law",1,3,[.set 1 (.call "_law_made" [.var 0]),.ite (.or [.not (.call "_law_fit" [.var 1]),.not (.call "_law_right" [.var 1])]) [.ret (.cst (.bl cb))] [],.FL cb [2] .E8 [.cst (.int 13)] [.ite (.not (.call "_law_right" [.call "_law_spoilt" [.FC (.call "_law_drawn" [.call "_law_cell" [.var 0,.bin .add (.cst (.int 41)) (.var 2)],.cst (.int 15)]) [.cst (.int 11)] [],.var 1]])) [.ret (.cst (.bl cb))] []],.ret (.cst (.bl b7))]⟩
abbrev prog:List Fn:=[fF,bQ,fG,iO,ft,ib,bM,bR,nP,ic,lX,kI,jf,kJ,jg,kK,kL,kM,cM,fH,jh,ez,cz,cX,cY,di,sG]
abbrev ck:Ck:=⟨(prog.filter λf=>f.io.isNone).map (·.name),[("FIRST_SENSE",(.int 1)),("LAST_SENSE",(.int 99)),("LETTERS",(.str "abcdefghijklmnopqrstuvwxyz")),("LONGEST_STEM",(.int 8)),("MOST_ROWS",(.int 60)),("MOST_TOLD",(.int 8))],prog.filterMap λf=>f.io.map λp=>(f.name,p.1),["Unfit"],[("Unfit","PrimerError")],[("Unfit","Lacking",cb),("Unfit","NoDeed",cb),("Unfit","NoRow",cb),("Unfit","NoText",cb),("Unfit","PrimerError",b7),("Unfit","TooMany",cb),("Unfit","Unfit",b7),("Unfit","Unknown",cb),("Unfit","Unlearnt",cb),("Unfit","ValueError",b7)],[],[("_law_kinds",["PrimerError","ValueError","NoText","Unfit","Unknown","Unlearnt","TooMany","Lacking","NoRow","NoDeed"])]⟩
end K
namespace TM
open PySem L2 E5
def word_short{x:Str}(h:bW x.cps.toList):x.length<=20/\∀c∈x.cps.toList,c<16 ^ 8:=by
 have g:∀n:_root_.Fin 100,∀c∈(cW ((n:Nat):Int)).cps.toList,c<16 ^ 8:=by decide +kernel
 rw[len_list];rcases h with h|⟨a,b,k,e,h,k2,i,f⟩
 .have⟨j,l,d⟩:=(bN _).mp h;show⟨⋯,λc hc=>by have:=d c hc;lia⟩
 .have⟨j,l,d⟩:=(bN _).mp h;have hl:=fC (k:=k) ⋯ i;rw[len_list,f]at hl;rw[e];show⟨by simp;lia,λc hc=>?_⟩;rcases l'.mp hc with hc|hc
  .have:=d c hc;lia
  .rcases fz.mp hc with rfl|hc
   .decide
   .rw[<-f]at hc;have:=g ⟨k.toNat,⋯⟩ c;have m:(((k.toNat:Nat)):Int)=k:=by lia
    rw[show(((⟨k.toNat,⋯⟩:_root_.Fin 100):Nat):Int)=k from m]at this;show this hc
abbrev Rp(n b:Nat)(u:U):Prop:=∃d,eJ u=a5 d/\d.showable=b7/\d.depth<=n/\d.leavesShort 8=b7/\d.bulk<=b
def xm(h:x.length<=20/\∀c∈x.cps.toList,c<16 ^ 8):Rp 0 20 (.str x):=by
 show⟨.str x,rfl,by simp[QR],by simp[TU],?_,?_⟩
 .simp only[O6,ri,Yq];show h.2
 .simp only[Ut];show h.1
theorem qK:∀{us:List U},(∀u∈us,Rp n b u)->∃a,jm us=a5 a/\VO a=b7/\Ws a<=n/\Vo 8 a=b7/\WJ a<=(b+1) * us.length
 |[],_=>⟨[],rfl,rfl,uv _,rfl,uv _⟩
 |u::us,h=>by
  have⟨a,e,c,l,g,m⟩:=qK λv i=>h v (ek _ i);have⟨d,f,j,o,k,p⟩:=h u gw;show⟨d::a,?_,?_,?_,?_,?_⟩
  .change(eJ u).bind (λd=>(jm us).map (d::·))=_;rw[f,e];rfl
  .simp only[VO,c,j,Vi]
  .simp only[Ws];lia
  .simp only[Vo,g,k,Vi]
  .simp only[WJ,lx,Nat.mul_add];lia
def xn(h:∀u∈us,Rp n b u):Rp (n+1) ((b+1) * us.length) (.tup us):=by
 have⟨a,e,c,g,d,f⟩:=qK h;show⟨.tuple a,?_,by simp only[QR];show c,by simp only[TU];lia,by simp only[O6];show d,by simp only[Ut];show f⟩;change(jm us).map _=_;rw[e];rfl
def xp(h:Rp n b u)(g:n<=m)(i:b<=c):Rp m c u:=by
 have⟨d,f,a,j,e,k⟩:=h;show⟨d,f,a,⋯,e,⋯⟩
def B9(l:Bool)(h:∀u∈us,Rp n b u)(f:n<=40)(g:(b+1) * us.length<=2 ^ 20):∃s:Str,∀k,FZ .repr [(k,if l=b7 then .lst us else .tup us)]=a5 (.loc,.str s):=by
 have⟨a,e,c,i,d,j⟩:=qK h;cases l with
 |false =>
  show⟨(PyData.tuple a).shown,λk=>?_⟩;change(eJ (.tup us)).bind _=_;have e:eJ (.tup us)=a5 (.tuple a):=by change(jm _).map _=_;rw[e];rfl
  rw[e];change(if _/\_/\_/\_ then _ else _)=_;rw[Yr ⟨by simp only[QR];show c,by simp only[TU];lia,Ve (B:=8) ⋯ ⋯ (by simp only[O6];show d) (by simp only[Ut];lia),rfl⟩]
 |true =>
  show⟨(PyData.list a).shown,λk=>?_⟩;change(eJ (.lst us)).bind _=_;have e:eJ (.lst us)=a5 (.list a):=by change(jm _).map _=_;rw[e];rfl
  rw[e];change(if _/\_/\_/\_ then _ else _)=_;rw[Yr ⟨by simp only[QR];show c,by simp only[TU];lia,Ve (B:=8) ⋯ ⋯ (by simp only[O6];show d) (by simp only[Ut];lia),rfl⟩]
def sH(a:0<=i)(b:i<=99):FZ .str [(k,.int i)]=a5 (.loc,.str (cW i)):=by
 simp only[FZ,gb,vF];rw[Yr (by
  by_cases hz:i.natAbs=0
  .rw[hz];decide
  .have:i.natAbs<2 ^ 7:=by lia
   have:=(X4 hz).mpr this;lia)]
 rfl
theorem Ab:∀(l D:List cu),(D++l).Nodup->l.foldl eV D=D++l
 |[],D,_=>by simp
 |x::l,D,h=>by
  have a:x∉D:=λz=>by
   rw[GR]at h;show h.2.2 x z x (by simp) rfl
  rw[IL,eV,Yt a,Ab l (D++[x]) (by simpa using h)];simp
theorem pf:∀rs:List Row,jY (rs.map B')=a5 rs
 |[]=>rfl
 |r::rs=>by
  rw[l3,jY,iM,pf rs];rfl
section
def DY(h:Run (ev Γ e) st x st1):Run (execs Γ (.IU c e::ss)) st (.rt .io (.str c)) st1:=af (af h aO) aO
def xq(a:us.length=fn.np)(hs:start us fn.ns=st0)(h:Run (execs Γ fn.body) st0 (.rt .io (.str c)) st):bu Γ fn us=a5 (.exc c):=by
 subst hs;unfold bu;rw[Yr a,show execs Γ fn.body (start us fn.ns)=_ from h]
def Ac(h:st[i]?=a5 (a5 (.loc,.bl b))):Run (E6 Γ (.var i)) st b st:=af (lP h) (cP rfl)
def B_(b:Run (bp Γ es) st rs st)(d:aY rs st)(e:Γ f (rs.map (·.2))=a5 (.ok (.loc,u)))(h:Run (cO i (.loc,u)) st () st1)(l:Run (execs Γ ss) st1 m st2):Run (execs Γ (.GY i f es x c j k g n bs::ss)) st m st2:=by
 have a:Run (eD Γ f (rs.map (·.2)) c) st (a5 (.loc,u)) st:=by
  change eD Γ f _ c st=_;unfold eD;rw[e]
 show af (af b (af (aM d) (af a (af h aO)))) l
def Ca(d:Run (bp Γ es) st rs st)(e:aY rs st)(h:Γ f (rs.map (·.2))=a5 (.exc c))(l:st[j]?=a5 b6)(m:k≠j)(n:Run (cO k (.own,.lst (bs.map .bl))) st () st1)(o:Run (execs Γ ss) st1 p st2):Run (execs Γ (.GY i f es x c j k g q bs::ss)) st p st2:=by
 have a:Run (eD Γ f (rs.map (·.2)) c) st b6 st:=by
  change eD Γ f _ c st=_;unfold eD;rw[h];show Yr rfl
 have b:Run (m4 i j k bs b6) st .nx st1:=by
  change m4 i j k bs b6 st=_;unfold m4
  dsimp only
  rw[l];show(Yr m).trans (show(cO k (.own,.lst (bs.map .bl)) >>= λ_=>(pure .nx:M Fl)) st=_ from af n aO)
 show af (af d (af (aM e) (af a b))) o
def Cb(d:Run (ev Γ a) st x st)(e:Run (ev Γ b) st y st)(f:aY [x,y] st)(g:aW o1 x.2 y.2=a5 p)(h:Run (ev Γ c) st z st)(i:aY [y,z] st)(j:aW o2 y.2 z.2=a5 q):Run (ev Γ (.GO o1 o2 a b c)) st (.loc,.bl (p&&q)) st:=by
 show af d (af e (af (aM f) (af (cP g) ?_)));cases p with
 |true=>show af h (af (aM i) (af (cP j) aO))
 |false=>show aO
def EJ(h:Run (ev Γ a) st (k,.bl c) st1):Run (ev Γ (.not a)) st (.loc,.bl !c) st1:=af h aO
end
theorem iP:∀(l D:List cu),(l.foldl eV D).length<=D.length+l.length
 |[],D=>by simp
 |x::l,D=>by
  have h:=iP l (eV D x);have:(eV D x).length<=D.length+1:=by unfold eV;split<;>simp
  rw[IL,lx];lia
theorem ph:∀(l D:List cu),D.Nodup->D.length+l.length<=(l.foldl eV D).length->(D++l).Nodup
 |[],D,h,_=>by simpa using h
 |x::l,D,h,hl=>by
  rw[IL,lx]at hl;by_cases c:x∈D
  .have e:eV D x=D:=by unfold eV;rw[Yr c]
   rw[e]at hl;have:=iP l D;lia
  .have e:eV D x=D++[x]:=by unfold eV;rw[Yt c]
   rw[e]at hl;have d:(D++[x]).Nodup:=by
    rw[GR];show⟨h,by simp,λa f b g z=>c ?_⟩;rw[<-rr.mp g,<-z];show f
   have:=ph l (D++[x]) d (by rw[gc,mN];lia);simpa using this
theorem lY:∀(l D:List Str),(l.foldl dr D).length<=D.length+l.length
 |[],D=>by simp
 |x::l,D=>by
  have h:=lY l (dr D x);have:(dr D x).length<=D.length+1:=by unfold dr;split<;>simp
  rw[IL,lx];lia
theorem pk:∀(l D:List Str),D.Nodup->D.length+l.length<=(l.foldl dr D).length->(D++l).Nodup
 |[],D,h,_=>by simpa using h
 |x::l,D,h,hl=>by
  rw[IL,lx]at hl;by_cases c:x∈D
  .have e:dr D x=D:=by unfold dr;rw[Yr c]
   rw[e]at hl;have:=lY l D;lia
  .have e:dr D x=D++[x]:=by unfold dr;rw[Yt c]
   rw[e]at hl;have d:(D++[x]).Nodup:=by
    rw[GR];show⟨h,by simp,λa f b g z=>c ?_⟩;rw[<-rr.mp g,<-z];show f
   have:=pk l (D++[x]) d (by rw[gc,mN];lia);simpa using this
def zk(l:List cu):c4 ((bj l).length<l.length)=!decide l.Nodup:=by
 by_cases h:l.Nodup
 .rw[Yu h,show bj l=l from Ab l [] h];simp
 .have:=iP l [];have a:¬l.length<=(bj l).length:=λz=>h (ph l [] .nil (by simpa[bj] using z));rw[Ys h,Yu ⋯];rfl
def sI(l:List Str):c4 ((aP l).length<l.length)=!decide l.Nodup:=by
 by_cases h:l.Nodup
 .have c:=fX l;have a:=ku h λx b=>(pN l x).mpr b;rw[Yu h,Ys ⋯];rfl
 .have a:¬l.length<=(aP l).length:=λz=>h (pk l [] .nil (by simpa[aP] using z));rw[Ys h,Yu ⋯];rfl
def zl(l:List Str):(!((aP l).length==l.length))=!decide l.Nodup:=by
 have a:=fX l;have h:=sI l;by_cases e:(aP l).length=l.length
 .rw[<-h,e];simp
 .rw[<-h,Yu ⋯];simp[e]
def qL(hl:rs.length<=64):qa .eR [(k,.lst (rs.map B'))]=a5 (.loc,.int ((bj rs).length:Nat)):=by
 change jZ (k,.lst (rs.map B'))=_;unfold jZ;cases rs with
 |nil=>rfl
 |cons r rs =>
  have e:p_ (.lst ((r::rs).map B'))=b6:=rfl;rw[show(k,U.lst ((r::rs).map B')).2=U.lst ((r::rs).map B') from rfl,e];change(jY ((r::rs).map B')).bind _=_;rw[pf];change(if (r::rs).length<=64 then _ else _)=_;rw[Yr hl]
def kN(hl:ss.length<=100):qa .eR [(k,.tup (ss.map .str))]=a5 (.loc,.int ((aP ss).length:Nat)):=by
 change jZ (k,.tup (ss.map .str))=_;unfold jZ;have e:p_ (.tup (ss.map U.str))=a5 (aP ss):=by
  change(strsOf (ss.map U.str)).bind _=_;rw[dO];change(if ss.length+1<Ln then _ else _)=_;rw[Yr (by change ss.length+1<4096;lia)]
 rw[show(k,U.tup (ss.map U.str)).2=U.tup (ss.map U.str) from rfl,e]
def len_str(h:x.length<=1000):FZ .len [(k,.str x)]=a5 (.loc,.int (x.length:Nat)):=by
 have hsz:(1000:Nat)<=df:=by decide
 change(yp (.str x)).map _=_;change(if x.length<=df then a5 x.length else b6).map _=_;rw[Yr ⋯];rfl
def zm(x:Str)(c:Nat):KD ⟨#[c]⟩ x=c4 (c∈x.cps.toList):=PySem.StrLaws.found_one x c
def xr:aW .le (.str a) (.str b)=a5 (!J1 b a):=rfl
abbrev isNum(b:Str):Bool:=(ei 98).any λj:Nat=>c4 (cW (2+(j:Int))=b)
abbrev wb(x:Str):Bool:=if 47∈x.cps.toList then bS (oT x "/").1.cps.toList&&isNum (oT x "/").2.2 else bS x.cps.toList
def sJ(h:bW x.cps.toList):wb x=b7:=by
 unfold wb;rcases h with h|⟨a,b,k,e,h,k2,f,c⟩
 .rw[Yt (gJ h)];show h
 .have d:=E5.mE e (gJ h);rw[Yr (by rw[e];simp),show("/":Str)=⟨#[47]⟩ from rfl,d,b8];show⟨by simpa using h,?_⟩;unfold isNum;rw[Lw];show⟨(k - 2).toNat,ux.mpr ⋯,Yu ?_⟩;rw[show(2:Int)+((k - 2).toNat:Nat)=k by lia];show TM.cV (by simpa using c)
end TM
namespace K
open PySem L2 TM E5
section
def xu(b:x.length<=1000):bu Γ fF [.str x]=a5 (.ok (.loc,.bl (bS x.cps.toList))):=by
 have hsz:(1000:Nat)<=df:=by decide
 have g:=len_list x;let S:ar:=[a5 (.loc,.str x)]
 have d:Run (E6 Γ (.or [.cmp .eq (.var 0) (.cst (.str "")),.cmp .gt (.bi .len [.var 0]) (.G9 "LONGEST_STEM" (.int 8))])) S (c4 (x="")||decide (8<x.length)) S:=by
  show oV (lT (bT (aa rfl) ak trivial nN) λ_=>jd (bT (bX (ae (aa rfl) ai) trivial (len_str b)) lQ trivial (fm ?_)));rw[pj];simp;lia
 have a:=dz (cond:=aQ Γ []) (elt:=ev Γ (.cmp .isin (.var 0) (.G9 "LETTERS" (.str "abcdefghijklmnopqrstuvwxyz")))) (src:=[(.loc,.str x)]) (st:=S) trivial .loc (.inl rfl) (λc:Nat=>U.str ⟨#[c]⟩) (λc=>U.bl (low c)) .loc (λ_=>fk) x.cps.toList [] (by rw[Nm,Pn];lia)
  (λc i=>⟨fi (c:=low c) (aa rfl) lQ trivial (by
   change a5 (KD ⟨#[c]⟩ "abcdefghijklmnopqrstuvwxyz")=_;have:=pF "abcdefghijklmnopqrstuvwxyz" (by decide +kernel) c;rw[show KD ⟨#[c]⟩ "abcdefghijklmnopqrstuvwxyz"=low c from this]),aA⟩)
 rw[FG]at a;have e:FZ .all [(.own,.lst (x.cps.toList.map λc=>U.bl (low c)))]=a5 (.loc,.bl (x.cps.toList.all low)):=by
  have:=jy (k:=.own) (x.cps.toList.map low);rw[sx,Q_]at this;show this
 show ay (st:=S) rfl (.inr rfl) (show TM.start [.str x] 1=S from rfl) (kG d (λz=>?_) λz=>?_)
 .have:bS x.cps.toList=cb:=by
   rw[Jb,Yq,Yq]at z;unfold bS;rcases z with rfl|z
   .rfl
   .rw[Ys (p:=x.cps.toList.length<=8) ⋯];simp
  rw[this];show a_ ak a9
 .have:bS x.cps.toList=x.cps.toList.all low:=by
   rw[M6,Yw,Yw]at z;unfold bS;have f:1<=x.cps.toList.length:=by
    rcases Nat.eq_zero_or_pos x.cps.toList.length with h|h
    .show absurd (TM.cV (x:=x) (y:="") (by rw[OX h];rfl)) z.1
    .show h
   rw[Yu f,Yu (p:=x.cps.toList.length<=8) ⋯];rfl
  rw[this];show a_ (bX (ae (cU (rs:=[(.loc,.str x)]) (ae (aa rfl) ai) trivial rfl a) ai) trivial e) a9
def sL(y:Str):c4 (y∈(ei 98).map λi:Nat=>cW (2+(i:Int)))=isNum y:=by
 unfold isNum;rw[pj,Yq,Lw,mh];simp only[Yq]
def ui:bu Γ bQ [.str y]=a5 (.ok (.loc,.bl (isNum y))):=by
 have hsz:(1000:Nat)<=df:=by decide
 let S:ar:=[a5 (.loc,.str y)]
 have a:=dz (cond:=aQ Γ []) (elt:=ev Γ (.bi .str [.var 0])) (src:=[(.loc,.int (1+1)),(.loc,.int (99+1))]) (st:=S) trivial .loc (.inl rfl) (λi:Nat=>U.int (2+(i:Int))) (λi=>U.str (cW (2+(i:Int)))) .loc (λ_=>fk) (ei 98) [] (by simp;lia)
  (λi b=>⟨bX (ae (aa rfl) ai) trivial (sH ⋯ (by have:=ux.mp b;lia)),aA⟩)
 rw[FG]at a;have e:((ei 98).map λi:Nat=>U.str (cW (2+(i:Int))))=((ei 98).map λi:Nat=>cW (2+(i:Int))).map U.str:=by rw[sx];rfl
 rw[e]at a;show ay rfl (.inr rfl) (show TM.start [.str y] 1=S from rfl) (a_ (fi (c:=isNum y) (aa rfl) (cU (rs:=[(.loc,.int (1+1)),(.loc,.int (99+1))]) (ae (aL lQ ak trivial cF) (ae (aL lQ ak trivial cF) ai)) trivial rfl a) trivial ?_) a9);change aW .isin (.str y) (.lst (((ei 98).map λi:Nat=>cW (2+(i:Int))).map U.str))=_;rw[Aa,sL]
def xv(a:fn=⟨fn.name,1,1,[.ret (.idx (.G_ .partition (.var 0) [.cst (.str "/")]) (.cst (.int n)))]⟩)(hl:x.length<=1000)(h:E7 [U.str (oT x "/").1,.str (oT x "/").2.1,.str (oT x "/").2.2] n=a5 (.str y)):bu Γ fn [.str x]=a5 (.ok (.loc,.str y)):=by
 have hsz:(1000:Nat)<=df:=by decide
 have b:iy .partition (.str x) [(.loc,.str "/")]=a5 (.loc,.tup [.str (oT x "/").1,.str (oT x "/").2.1,.str (oT x "/").2.2]):=by
  change(if (Ow "/"==0)=cb/\x.length<=df then _ else _)=_;rw[Yr ⟨by decide,⋯⟩]
 rw[a];show ay (st0:=[a5 (.loc,.str x)]) rfl (.inr rfl) rfl (a_ (cp (oU (aa rfl) (ae ak ai) trivial b) ak trivial (jG h)) a9)
def xx(h:x.length<=1000):(oT x "/").1.length<=1000:=by
 rw[show("/":Str)=⟨#[47]⟩ from rfl];by_cases c:47∈x.cps.toList
 .have⟨a,b,e,d⟩:=iT c;rw[E5.mE e d,len_list];rw[len_list,e]at h;simp at h ⊢;lia
 .rw[E5.ip c];show h
def xy(c:∀x:Str,x.length<=1000->Γ "is_stem" [.str x]=a5 (.ok (.loc,.bl (bS x.cps.toList))))(d:∀y:Str,Γ "is_later_sense" [.str y]=a5 (.ok (.loc,.bl (isNum y))))
    (hs:∀x:Str,x.length<=1000->Γ "stem_of" [.str x]=a5 (.ok (.loc,.str (oT x "/").1))) (e:∀x:Str,x.length<=1000->Γ "number_of" [.str x]=a5 (.ok (.loc,.str (oT x "/").2.2)))
 (a:x.length<=1000):bu Γ fG [.str x]=a5 (.ok (.loc,.bl (wb x))):=by
  let S:ar:=[a5 (.loc,.str x)]
  have f:Run (E6 Γ (.cmp .EW (.cst (.str "/")) (.var 0))) S (!c4 (47∈x.cps.toList)) S:=bT ak (aa rfl) trivial (by
    change(a5 (KD "/" x)).map _=_;rw[show KD "/" x=c4 (47∈x.cps.toList) from zm x 47];rfl)
  show ay (st:=S) rfl (.inr rfl) (show TM.start [.str x] 1=S from rfl) (kG f (λz=>?_) λz=>?_)
  . have b:47∉x.cps.toList:=by simpa using z
    unfold wb;rw[Yt b];show a_ (aZ (ae (aa rfl) ai) trivial (c x a)) a9
  . have b:47∈x.cps.toList:=by simpa using z
    unfold wb;rw[Yr b];show a_ (sr (qI (aZ (ae (aZ (ae (aa rfl) ai) trivial (hs x a)) ai) trivial (c _ (xx a))) λ_=>nA (aZ (ae (aZ (ae (aa rfl) ai) trivial (e x a)) ai) trivial (d _)))) a9
def Ce(c:Nat):(!J1 ⟨#[c]⟩ "a"&&!J1 "z" ⟨#[c]⟩)=low c:=by
 have a:J1 ⟨#[c]⟩ "a"=c4 (c<97):=by
  change c4 ([c] < [97])=_;rw[pj,Yq,Yq,VL];simp
 have b:J1 "z" ⟨#[c]⟩=c4 (122<c):=by
  change c4 ([122] < [c])=_;rw[pj,Yq,Yq,VL];simp
 rw[a,b];unfold low;rw[pj];simp
def uj(hx:x.length<=1000):bu Γ cM [.str x]=a5 (.ok (.loc,.bl (wb x))):=by
 have hsz:(2000:Nat)<=df:=by decide
 have A:iy .split (.str x) [(.loc,.str "/")]=a5 (.own,.lst ((LC x "/").map U.str)):=by
  change(if (Ow "/"==0)=cb/\x.length+2<=df then a5 (Kd.own,U.lst ((LC x "/").map .str)) else b6)=_;rw[Yr ⟨by decide,⋯⟩]
 have o:=len_list x;obtain⟨y,r,t,B,KN,C,D⟩:∃(y:Str) (r:List Str) (t:Str),LC x "/"=y::r/\y.length<=x.length/\PySem.StrLaws.sliceText x (a5 (y.length:Nat)) b6=t /\
   ((47∉x.cps.toList/\y=x/\t="")\/(47∈x.cps.toList/\y=(oT x "/").1/\t.cps.toList=47::(oT x "/").2.2.cps.toList)):=by
  by_cases d:47∈x.cps.toList
  .have⟨a,b,e,p⟩:=iT d;have⟨r,G⟩:=nY e p (by decide);have q:=E5.mE e p;have hl:(⟨a.toArray⟩:Str).length=a.length:=by rw[len_list]
   have H:a.length<=x.length:=by rw[o,e];simp
   show⟨⟨a.toArray⟩,r,_,G,by rw[hl];show H,rfl,.inr ⟨d,by rw[show("/":Str)=⟨#[47]⟩ from rfl,q],?_⟩⟩;rw[show("/":Str)=⟨#[47]⟩ from rfl,q,PySem.StrLaws.sliceText_from ⟨⋯,by rw[hl];lia⟩,hl,e];simp;rw[KS (by simp;lia)]
  .show⟨x,[],_,jI d,ke _,rfl,.inl ⟨d,rfl,?_⟩⟩;rw[PySem.StrLaws.sliceText_from ⟨⋯,⋯⟩];show TM.cV ?_;simp[o];rfl
 let S:ar:=[a5 (.loc,.str x),a5 (.loc,.str y),a5 (.loc,.str t)]
 have I:TM.start [.str x] 3=[a5 (.loc,.str x),b6,b6]:=rfl;have s:y.length<=1000:=by lia
 have J:=len_list y;have u:Run (ev Γ (.bi .len [.var 1])) S (.loc,.int (y.length:Nat)) S:=bX (ae (aa rfl) ai) trivial (len_str s);have L:Run (E6 Γ (.or [.cmp .lt (.bi .len [.var 1]) (.cst (.int 1)),.cmp .gt (.bi .len [.var 1]) (.cst (.int 8))])) S (c4 (y.length<1)||decide (8<y.length)) S :=
  oV (lT (bT u ak trivial (lR (by rw[pj];simp;lia))) λ_=>jd (bT u ak trivial (fm (by rw[pj];simp;lia))))
 have l:=dz (cond:=aQ Γ []) (elt:=ev Γ (.bin .add (.cst (.str "/")) (.bi .str [.var 0]))) (src:=[(.loc,.int 2),(.loc,.int 100)]) (st:=S) trivial .loc (.inl rfl) (λi:Nat=>U.int (2+(i:Int))) (λi=>U.str ("/"++cW (2+(i:Int)))) .loc (λ_=>fk) (ei 98) [] (by simp;lia)
  (λi g=>⟨aL ak (bX (ae (aa rfl) ai) trivial (sH ⋯ (by have:=ux.mp g;lia))) trivial (by
   have h2:=fC (k:=2+(i:Int)) ⋯ (by have:=ux.mp g;lia);change(if Ow "/"+(cW (2+(i:Int))).length<=df then _ else _)=_;rw[Yr (by change 1+_<=_;lia)]),aA⟩)
 rw[FG]at l;have e:((ei 98).map λi:Nat=>U.str ("/"++cW (2+(i:Int))))=((ei 98).map λi:Nat=>"/"++cW (2+(i:Int))).map U.str:=by rw[sx];rfl
 rw[e]at l;have N:Run (E6 Γ (.and [.cmp .ne (.var 2) (.cst (.str "")),.cmp .EW (.var 2) (.comp 1 cb .Hu [.cst (.int 2),.cst (.int 100)] [] (.bin .add (.cst (.str "/")) (.bi .str [.var 0])))])) S (!c4 (t="")&&!c4 (t∈(ei 98).map λi:Nat=>"/"++cW (2+(i:Int)))) S :=
  su (B5 (bT (aa rfl) ak trivial B8) λ_=>nB (bT (aa rfl) (cU (rs:=[(.loc,.int 2),(.loc,.int 100)]) (ae ak (ae ak ai)) trivial rfl l) trivial (by
   simp only[aW];rw[show vC (.str t) (.lst (((ei 98).map λi:Nat=>"/"++cW (2+(i:Int))).map U.str))=a5 (c4 (t∈(ei 98).map λi:Nat=>"/"++cW (2+(i:Int)))) from Aa];rfl)))
 have v:=dz (cond:=aQ Γ []) (elt:=ev Γ (.GO .le .le (.cst (.str "a")) (.var 0) (.cst (.str "z")))) (src:=[(.loc,.str y)]) (st:=S) trivial .loc (.inl rfl) (λc:Nat=>U.str ⟨#[c]⟩) (λc=>U.bl (low c)) .loc (λ_=>fk) y.cps.toList [] (by rw[Nm,Pn];lia)
  (λc hc=>⟨by rw[<-Ce c];show Cb ak (aa rfl) trivial xr ak trivial xr,aA⟩)
 rw[FG]at v;have O:FZ .all [(.own,.lst (y.cps.toList.map λc=>U.bl (low c)))]=a5 (.loc,.bl (y.cps.toList.all low)):=by
  have:=jy (k:=.own) (y.cps.toList.map low);rw[sx,Q_]at this;show this
 have Q:wb x=(!(c4 (y.length<1)||decide (8<y.length))&&(!(!c4 (t="")&&!c4 (t∈(ei 98).map λi:Nat=>"/"++cW (2+(i:Int))))&&y.cps.toList.all low)):=by
  have w:bS y.cps.toList=(!(c4 (y.length<1)||decide (8<y.length))&&y.cps.toList.all low):=by
   unfold bS;rw[<-J,pj];simp;lia
  rcases D with⟨d,m,f⟩|⟨d,m,f⟩
  .unfold wb;rw[Yt d,<-m,w,f];simp
  .have T:c4 (t∈(ei 98).map λi:Nat=>"/"++cW (2+(i:Int)))=isNum (oT x "/").2.2:=by
    rw[<-sL,pj,Yq,Yq,mh,mh];constructor
    .rintro⟨i,g,rfl⟩;show⟨i,g,TM.cV ?_⟩;rw[app_list]at f;show(List.cons.inj (show 47::(cW (2+(i:Int))).cps.toList=_ from f)).2
    .rintro⟨i,g,h⟩;show⟨i,g,TM.cV ?_⟩;rw[app_list,f,<-h];rfl
   have Y:c4 (t="")=cb:=Ys λz=>by rw[z]at f;cases f
   unfold wb;rw[Yr d,<-m,w,T,Y];cases isNum (oT x "/").2.2<;>simp
 rw[Q];show ay (st:=S) rfl (.inr rfl) I (aB (r:=(.loc,.str y)) (cp (oU (aa rfl) (ae ak ai) trivial A) ak trivial (aK (by rw[B];show bZ (j:=0) rfl))) aG (aB (r:=(.loc,.str t)) (eI (x:=(.loc,.str x)) (aa rfl) (eG (bX (ae (aa rfl) ai) trivial (len_str s))) eF trivial (by
  change(if x.length<=df then _ else _)=_;rw[Yr ⋯,C])) aG (kG L (λz=>?_) λz=>kG N (λn=>?_) λn=>?_)))
 .rw[z];show a_ ak a9
 .rw[z,n];show a_ ak a9
 .rw[z,n];show a_ (bX (ae (cU (rs:=[(.loc,.str y)]) (ae (aa rfl) ai) trivial rfl v) ai) trivial O) a9
def zo(h:r.2.length<64):bu Γ bM [B' r]=a5 (.ok (.loc,B' (keyOf r))):=by
 have a:=sorted_strs (k:=.loc) (ss:=r.2) h;have b:gZ (.loc,B' r) (.int 0)=a5 (.loc,.str r.1):=rfl;have c:gZ (.loc,B' r) (.int 1)=a5 (.loc,.tup (r.2.map .str)):=rfl;apply ay (st0:=[a5 (.loc,B' r)]) rfl (.inr rfl) (by simp[TM.start,nM,bM])
 repeat' (first|show b|show c|show a|show(by decide:(2:Nat)<=df)|sizeOf_list_dec)
end
end K
namespace TM
open PySem L2 E5
abbrev SW(x:Str):Prop:=x.length<=20/\∀c∈x.cps.toList,c<16 ^ 8
structure Rw(r:Row):Prop where
 ln:r.2.length<=20
 w:SW r.1
 ws:∀x∈r.2,SW x
abbrev dA(r:Row):Bool:=(c4 (r.2.length<=8)&&decide r.2.Nodup)&&(wb r.1&&r.2.all wb)
abbrev dc(a:List Row):Bool:=c4 (a.length<=60)&&(a.all dA&&c4 (a.map keyOf).Nodup)
def dQ{a b:List Str}(h:a.length+b.length<=df):Gp .add (k,.tup (a.map .str)) (k',.tup (b.map .str))=a5 (kT k k',.tup ((a++b).map .str)):=by
 change(if _ then _ else _)=_;rw[Yr (by rw[eh,eh];show h),w4]
def Cg:aW .ne (.int i) (.int j)=a5 (!(i==j)):=by
 simp only[aW];rw[Yr ⟨rfl,rfl⟩];simp only[bA]
abbrev kU(r:Row):U:=.tup [.str r.1,.lst ((bV r.2).map .str)]
def qM(r:Row):FN 50 (kU r)=b7/\FN 49 (kU r)=b7:=by
 unfold kU;simp[FN,e_,fD]
theorem sM(n:Nat)(h:n=50\/n=49):∀d:List Row,e_ n (d.map kU)=b7
 |[]=>by simp[e_]
 |r::d=>by
  rw[l3,e_,sM n h d,Nj];rcases h with rfl|rfl
  .show(qM r).1
  .show(qM r).2
def zp(a r:Row):bA (kU a) (kU r)=c4 (keyOf a=keyOf r):=by
 unfold kU;simp only[bA,cj,gv,Nj];rw[pj];simp[keyOf,Prod.ext_iff]
def Ci{d:List Row}:aW .isin (kU r) (.lst (d.map kU))=a5 (c4 (keyOf r∈d.map keyOf)):=by
 simp only[aW];change IV (kU r) (d.map kU)=_;unfold IV;rw[Yr ⟨(qM r).1,sM 50 (.inl rfl) d⟩,List.any_map];congr 1
 rw[pj,Lw,Yq,mh];simp only[Function.comp,zp,Yq]
end TM
namespace K
open PySem L2 TM E5
section
variable{Γ:Tab}{names:List Str}{rows:List Row}
abbrev fI(Γ:Tab)(f:Str):Prop:=∀x:Str,x.length<=1000->Γ f [.str x]=a5 (.ok (.loc,.bl (wb x)))
def lZ(d:fI Γ f){ss:List Str}(hs:∀x∈ss,x.length<=1000)(hl:ss.length<=1000)(h:Run (ev Γ e) st (k,u) st)(c:aY [(k,u)] st)(b:GP .seq [(k,u)]=a5 (ss.map λx=>(.loc,U.str x))):Run (ev Γ (.bi .all [.comp 1 cb .seq [e] [] (.call f [.var 0])])) st (.loc,.bl (ss.all wb)) st:=by
 have hsz:(1000:Nat)<=df:=by decide
 have a:=dz (cond:=aQ Γ []) (elt:=ev Γ (.call f [.var 0])) (src:=[(k,u)]) (st:=st) c .loc (.inl rfl) U.str (λx=>U.bl (wb x)) .loc (λ_=>fk) ss [] (by simp;lia)
  (λx a=>⟨aZ (ae (aa rfl) ai) trivial (d x (hs x a)),aA⟩)
 rw[FG]at a;have g:FZ .all [(.own,.lst (ss.map λx=>U.bl (wb x)))]=a5 (.loc,.bl (ss.all wb)):=by
  have:=jy (k:=.own) (ss.map wb);rw[sx,Q_]at this;show this
 show bX (ae (cU (rs:=[(k,u)]) (ae h ai) c b a) ai) trivial g
def zq(a:fI Γ "is_word")(h:Rw r):bu Γ ib [B' r]=a5 (.ok (.loc,.bl (dA r))):=by
 have hsz:(1000:Nat)<=df:=by decide
 have g:=h.ln;have c:TM.start [B' r] 2=[a5 (.loc,B' r),b6]:=by simp[TM.start,nM]
 let S:ar:=[a5 (.loc,B' r),a5 (.loc,.tup (r.2.map .str))]
 have b:Run (ev Γ (.bi .len [.var 1])) S (.loc,.int (r.2.length:Nat)) S:=by
  have h:=bX (Γ:=Γ) (st:=S) (f:=.len) (es:=[.var 1]) (ae (aa rfl) ai) trivial (cL (xs:=r.2.map U.str));rw[eh]at h;show h
 have d:Run (E6 Γ (.or [.cmp .gt (.bi .len [.var 1]) (.G9 "MOST_TOLD" (.int 8)),.cmp .lt (.HC .eR [.var 1]) (.bi .len [.var 1])])) S (c4 (8<r.2.length)||!decide r.2.Nodup) S:=by
  show oV (lT (bT b lQ trivial (fm (by rw[pj];simp;lia))) λ_=>jd (bT (wI (ae (aa rfl) ai) trivial (kN ⋯)) b trivial (lR ?_)));rw[<-sI,pj];simp
 show ay (st:=S) rfl (.inr rfl) c (aB (cp (x:=(.loc,B' r)) (aa rfl) ak trivial rfl) aG (kG d (λz=>?_) λz=>?_))
 .have:dA r=cb:=by
   unfold dA;rw[Jb,Yq,vl,Yw]at z;rcases z with z|z
   .rw[Ys (p:=r.2.length<=8) ⋯];rfl
   .rw[Ys z,LB];rfl
  rw[this];show a_ ak a9
 .have:dA r=(wb r.1&&r.2.all wb):=by
   unfold dA;rw[M6,Yw,Wh,Yq]at z;rw[Yu z.2,Yu (p:=r.2.length<=8) ⋯];rfl
  rw[this];show a_ (sr (qI (aZ (ae (cp (x:=(.loc,B' r)) (aa rfl) ak trivial rfl) ai) trivial (a r.1 (by have:=h.w.1;lia))) λ_=>nA (lZ a (λx e=>by have:=(h.ws x e).1;lia) ⋯ (aa rfl) trivial (by change a5 _=_;rw[sx];rfl)))) a9
def qN(ho:∀r:Row,r.2.length<64->Γ "in_one_order" [B' r]=a5 (.ok (.loc,B' (keyOf r))))(h:∀r∈rows,Rw r)(hl:rows.length<=64):bu Γ bR [.tup (rows.map B')]=a5 (.ok (.loc,.bl (!c4 (rows.map keyOf).Nodup))):=by
 have hsz:(1000:Nat)<=df:=by decide
 let S:ar:=[a5 (.loc,.tup (rows.map B'))]
 have b:TM.start [.tup (rows.map B')] 1=S:=by simp[TM.start,Fc,cq,S]
 have a:=dz (cond:=aQ Γ []) (elt:=ev Γ (.call "in_one_order" [.var 0])) (src:=[(.loc,.tup (rows.map B'))]) (st:=S) trivial .loc (.inl rfl) B' (λr=>B' (keyOf r)) .loc (λ_=>fk) rows [] (by simp;lia)
  (λr c=>⟨aZ (ae (aa rfl) ai) trivial (ho r (by have:=(h r c).ln;lia)),aA⟩)
 rw[FG]at a;have e:(rows.map λr=>B' (keyOf r))=(rows.map keyOf).map B':=by rw[sx];rfl
 rw[e]at a;have d:=qL (k:=.own) (rs:=rows.map keyOf) (by rw[eh];show hl);have g:Run (ev Γ (.bi .len [.var 0])) S (.loc,.int (rows.length:Nat)) S:=by
  have h:=bX (Γ:=Γ) (st:=S) (f:=.len) (es:=[.var 0]) (ae (aa rfl) ai) trivial (cL (xs:=rows.map B'));rw[eh]at h;show h
 have i:GP .seq [(.loc,.tup (rows.map B'))]=a5 (rows.map λr=>(Kd.loc,B' r)):=by change a5 _=_;rw[sx];rfl
 show ay rfl (.inr rfl) b (a_ (fi (wI (ae (cU (rs:=[(.loc,.tup (rows.map B'))]) (ae (aa rfl) ai) trivial i a) ai) trivial d) g trivial (lR ?_)) a9);rw[<-zk,pj];simp
def xA(b:∀r∈rows,Γ "is_row" [B' r]=a5 (.ok (.loc,.bl (dA r))))(c:Γ "has_alike_rows" [.tup (rows.map B')]=a5 (.ok (.loc,.bl (!c4 (rows.map keyOf).Nodup))))(hl:rows.length<=64):bu Γ nP [.tup (rows.map B')]=a5 (.ok (.loc,.bl (dc rows))):=by
 have hsz:(1000:Nat)<=df:=by decide
 let S:ar:=[a5 (.loc,.tup (rows.map B'))]
 have d:TM.start [.tup (rows.map B')] 1=S:=by simp[TM.start,Fc,cq,S]
 have a:=dz (cond:=aQ Γ []) (elt:=ev Γ (.call "is_row" [.var 0])) (src:=[(.loc,.tup (rows.map B'))]) (st:=S) trivial .loc (.inl rfl) B' (λr=>U.bl (dA r)) .loc (λ_=>fk) rows [] (by simp;lia)
  (λr h=>⟨aZ (ae (aa rfl) ai) trivial (b r h),aA⟩)
 rw[FG]at a;have e:FZ .all [(.own,.lst (rows.map λr=>U.bl (dA r)))]=a5 (.loc,.bl (rows.all dA)):=by
  have:=jy (k:=.own) (rows.map dA);rw[sx,Q_]at this;show this
 have f:GP .seq [(.loc,.tup (rows.map B'))]=a5 (rows.map λr=>(Kd.loc,B' r)):=by change a5 _=_;rw[sx];rfl
 have g:Run (E6 Γ (.cmp .gt (.bi .len [.var 0]) (.G9 "MOST_ROWS" (.int 60)))) S (c4 (60<rows.length)) S:=bT (bX (ae (aa rfl) ai) trivial cL) lQ trivial (fm (by rw[eh,pj];simp;lia));show ay (st:=S) rfl (.inr rfl) d (kG g (λz=>?_) λz=>?_)
 .have:dc rows=cb:=by
   unfold dc;rw[Ys (p:=rows.length<=60) (by have:=Yv z;lia)];rfl
  rw[this];show a_ ak a9
 .have:dc rows=(rows.all dA&&!(!c4 (rows.map keyOf).Nodup)):=by
   unfold dc;rw[Yu (p:=rows.length<=60) (by have:=of_decide_eq_false z;lia),Bool.not_not];rfl
  rw[this];show a_ (sr (qI (bX (ae (cU (rs:=[(.loc,.tup (rows.map B'))]) (ae (aa rfl) ai) trivial f a) ai) trivial e) λ_=>nA (EJ (aZ (ae (aa rfl) ai) trivial c)))) a9
def qO(d:Γ "fits" [.tup (rows.map B')]=a5 (.ok (.loc,.bl (dc rows)))):bu Γ ic [.tup (rows.map B')]=if dc rows=b7 then a5 (.ok (.loc,.tup (rows.map B'))) else a5 (.exc "Unfit"):=by
 let S:ar:=[a5 (.loc,.tup (rows.map B'))]
 have b:TM.start [.tup (rows.map B')] 1=S:=by simp[TM.start,Fc,cq,S]
 have a:Run (E6 Γ (.not (.call "fits" [.var 0]))) S (!dc rows) S:=kz (nL (ae (aa rfl) ai) trivial d rfl);cases c:dc rows with
 |true =>
  rw[Yr rfl];rw[c]at a;show ay rfl (.inr rfl) b (kG a (λz=>by cases z) λ_=>a_ (aa rfl) a9)
 |false =>
  rw[Yt oa];rw[c]at a;show xq rfl b (kG a (λ_=>DY ak) λz=>by cases z)
abbrev Ad:List TM.S:=[.set 4 (.tup [.var 2,.bi .sorted [.var 3]]),.ite (.or [.cmp .isin (.var 4) (.var 1),.cmp .gt (.bi .len [.var 3]) (.cst (.int 8)),.cmp .ne (.HC .eR [.var 3]) (.bi .len [.var 3])]) [.ret (.cst (.bl cb))] [],.ite (.not (.bi .all [.comp 1 cb .seq [.bin .add (.tup [.var 2]) (.var 3)] [] (.call "_law_is_word" [.var 0])])) [.ret (.cst (.bl cb))] [],.app 1 (.var 4)]
abbrev GU(rows d:List Row)(o2 o3 o4:Option (Kd×U)):ar:=[a5 (.loc,.tup (rows.map B')),a5 (.own,.lst (d.map kU)),o2,o3,o4]
theorem l0(J:fI Γ "_law_is_word")(h:∀r∈rows,Rw r)(hl:rows.length<=100):∀(r d:List Row) (o2 o3 o4:Option (Kd×U)),d++r=rows->d.all dA=b7->(d.map keyOf).Nodup ->
  ∃(d':List Row) (t v A:Option (Kd×U)),Run (forM b7 [2,3] (execs Γ Ad) [(.loc,.tup (rows.map B'))] (r.map λx=>(Kd.loc,B' x))) (GU rows d o2 o3 o4) (if (rows.all dA&&c4 (rows.map keyOf).Nodup)=b7 then .nx else .rt .loc (.bl cb)) (GU rows d' t v A)
 |[],d,o2,o3,o4,j,B,C=>by
  rw[w6]at j;subst j;rw[B,Yu C,Nj,Yr rfl];show⟨d,o2,o3,o4,wM trivial⟩
 |y::r,d,o2,o3,o4,j,B,C=>by
  have hsz:(1000:Nat)<=df:=by decide
  have D:=h y (by rw[<-j];simp);have KN:=D.ln;have Tr:d.length<100:=by have:=Yy KX j;simp at this;lia
  let e:Option (Kd×U):=a5 (.loc,.str y.1);let g:Option (Kd×U):=a5 (.loc,.tup (y.2.map .str));let i:Option (Kd×U):=a5 (.loc,kU y);have G:Run (du b7 [2,3] (.loc,B' y)) (GU rows d o2 o3 o4) () (GU rows d e g o4):=z_ (.inl rfl);have H:Run (ev Γ (.tup [.var 2,.bi .sorted [.var 3]])) (GU rows d e g o4) (.loc,kU y) (GU rows d e g o4) :=
   cQ (ae (aa rfl) (ae (bX (ae (aa rfl) ai) trivial (sorted_strs ⋯)) ai)) trivial (av aA (av wJ aT)) (by change 2<=df;lia)
  have L:Run (ev Γ (.bi .len [.var 3])) (GU rows d e g i) (.loc,.int (y.2.length:Nat)) (GU rows d e g i):=by
   have h:=bX (Γ:=Γ) (st:=GU rows d e g i) (f:=.len) (es:=[.var 3]) (ae (aa rfl) ai) trivial (cL (xs:=y.2.map U.str));rw[eh]at h;show h
  have m:Run (E6 Γ (.or [.cmp .isin (.var 4) (.var 1),.cmp .gt (.bi .len [.var 3]) (.cst (.int 8)),.cmp .ne (.HC .eR [.var 3]) (.bi .len [.var 3])])) (GU rows d e g i) (c4 (keyOf y∈d.map keyOf)||(c4 (8<y.2.length)||!decide y.2.Nodup)) (GU rows d e g i):=by
   show oV (lT (bT (aa rfl) (cS rfl) ⟨⟨.own,rfl,rfl⟩,trivial⟩ Ci) λ_=>lT (bT L ak trivial (fm (by rw[pj];simp;lia))) λ_=>jd (bT (wI (ae (aa rfl) ai) trivial (kN ⋯)) L trivial ?_));rw[Cg,<-zl];congr 2
   rw[pj];simp;lia
  have q:Run (E6 Γ (.not (.bi .all [.comp 1 cb .seq [.bin .add (.tup [.var 2]) (.var 3)] [] (.call "_law_is_word" [.var 0])]))) (GU rows d e g i) (!((y.1::y.2).all wb)) (GU rows d e g i) :=
   kz (B6 (lZ J (ss:=y.1::y.2) (k:=.loc) (u:=.tup ((y.1::y.2).map .str)) (λx hx=>by
    rcases fz.mp hx with rfl|hx
    .have:=D.w.1;lia
    .have:=(D.ws x hx).1;lia) (by rw[lx];lia)
    (aL (cQ (us:=[y.1].map .str) (ae (aa rfl) ai) trivial (av aA aT) (by change 1<=df;lia)) (aa rfl) trivial (dQ (by rw[mN];lia))) trivial (by change a5 _=_;rw[sx];rfl)))
  have o:∀{c:Bool},(keyOf y∈d.map keyOf\/dA y=cb)->(rows.all dA&&c4 (rows.map keyOf).Nodup)=cb:=λ{c} z=>by
   rw[<-j];rcases z with z|z
   .have:¬((d++y::r).map keyOf).Nodup:=λn=>by
     rw[w4,GR]at n;show n.2.2 _ z _ (by simp) rfl
    rw[Ys this,LB]
   .rw[W9,Tx,z];simp
  cases l:(c4 (keyOf y∈d.map keyOf)||(c4 (8<y.2.length)||!decide y.2.Nodup)) with
  |true =>
   rw[l]at m;rw[o (c:=b7) (by
    rw[Jb,Yq]at l;rcases l with z|z
    .show .inl z
    .show .inr ?_;unfold dA;rw[Jb,Yq,vl,Yw]at z;rcases z with z|z
     .rw[Ys (p:=y.2.length<=8) ⋯];rfl
     .rw[Ys z,LB];rfl),Yt oa]
   show⟨d,e,g,i,DU trivial G (aB H aG (iK m (a_ ak a9)))⟩
  |false =>
   rw[l]at m;rw[M6,M6,Yw,Yw,Wh,Yq]at l;have⟨O,q2,Q⟩:=l;have N:dA y=(y.1::y.2).all wb:=by
    unfold dA;rw[Yu (p:=y.2.length<=8) ⋯,Yu Q,Tx];rfl
   cases s:(y.1::y.2).all wb with
   |false =>
    rw[s]at q;rw[o (c:=b7) (.inr (N.trans s)),Yt oa];show⟨d,e,g,i,DU trivial G (aB H aG (kG m (λz=>by cases z) λ_=>iK q (a_ ak a9)))⟩
   |true =>
    rw[s]at q;have em:(d++[y]).map kU=d.map kU++[kU y]:=by simp
    have VZ:Run (execs Γ Ad) (GU rows d e g o4) .nx (GU rows (d++[y]) e g i):=by
     show aB H aG (kG m (λz=>by cases z) λ_=>kG q (λz=>by cases z) λ_=>?_);change Run _ _ _ [a5 (.loc,.tup (rows.map B')),a5 (.own,.lst ((d++[y]).map kU)),e,g,i];rw[em];show oX (k:=.own) (k':=.own) (r:=(.loc,kU y)) rfl (aa rfl) aA rfl rfl (by rw[eh];lia) aI
    have⟨d',t,v,A,T⟩:=l0 J h hl r (d++[y]) e g i (by rw[<-j];simp) (by rw[W9,B,Tx,N,s];rfl) (by
     rw[w4,GR];show⟨C,by simp,λa Y b I z=>O ?_⟩;have I:b=keyOf y:=by simpa using I
     rw[<-I,<-z];show Y)
    show⟨d',t,v,A,BY trivial G VZ T⟩
def xB(e:fI Γ "_law_is_word")(h:∀r∈rows,Rw r)(hl:rows.length<=100):bu Γ fH [.tup (rows.map B')]=a5 (.ok (.loc,.bl (dc rows))):=by
 have c:TM.start [.tup (rows.map B')] 5=[a5 (.loc,.tup (rows.map B')),b6,b6,b6,b6]:=by simp[TM.start,Fc,cq]
 have⟨d',o2,o3,o4,a⟩:=l0 e h hl rows [] b6 b6 b6 rfl rfl .nil;have d:GP .seq [(.loc,.tup (rows.map B'))]=a5 (rows.map λr=>(Kd.loc,B' r)):=by change a5 _=_;rw[sx];rfl
 cases b:(rows.all dA&&c4 (rows.map keyOf).Nodup) with
 |true =>
  rw[b,Yr rfl]at a;have:dc rows=c4 (rows.length<=60):=by unfold dc;rw[b,Nj]
  rw[this];show ay rfl (.inr rfl) c (aB (r:=(.own,.lst [])) (fj ai trivial aT (uv _)) da (kB (rs:=[(.loc,.tup (rows.map B'))]) (st1:=GU rows [] b6 b6 b6) (ae (aa rfl) ai) trivial d rfl a (a_ (fi (bX (ae (aa rfl) ai) trivial cL) ak trivial (by
   change a5 (decide _)=_;rw[eh];congr 1
   rw[pj];simp;lia)) a9)))
 |false =>
  rw[b,Yt oa]at a;have:dc rows=cb:=by unfold dc;rw[b,LB]
  rw[this];show ay rfl (.inr rfl) c (aB (r:=(.own,.lst [])) (fj ai trivial aT (uv _)) da (nF (zX (rs:=[(.loc,.tup (rows.map B'))]) (st1:=GU rows [] b6 b6 b6) (ae (aa rfl) ai) trivial d rfl a)))
end
end K
namespace TM
open PySem L2 E5
def fu:ix (k,.tup (ss.map .str)) lo a=a5 (kE k,.tup ((cut ss lo a).map .str)):=by
 simp only[ix];rw[nO]
def ie:ix (k,.tup (rs.map B')) lo a=a5 (kE k,.tup ((cut rs lo a).map B')):=by
 simp only[ix];rw[nO]
def ig{a b:List Row}(h:a.length+b.length<=df):Gp .add (k,.tup (a.map B')) (k',.tup (b.map B'))=a5 (kT k k',.tup ((a++b).map B')):=by
 change(if _ then _ else _)=_;rw[Yr (by rw[eh,eh];show h),w4]
def DZ(b:Run (ev Γ a) st x st1)(c:yr x=a5 r):Run (ev Γ (.Ju a)) st r st1:=af b (cP c)
def cA(h:x∈cut xs lo a):x∈xs:=OV (M3 h)
def xC(xs:List α)(j:Nat):(cut xs b6 (a5 (j:Int))).length<=j:=by
 unfold cut;rw[HT.mi,tj];change min (min j xs.length - 0) _<=j;lia
def kO(xs:List α)(j:Nat):(cut xs (a5 (j:Int)) b6).length<=xs.length - j:=by
 unfold cut;rw[HT.mi,tj,JF];lia
def xD(h:a.length=15):(cut a (a5 11) b6).length=4:=by
 have b:HT.EV a.length 0 (a5 11)=11:=by
  change HT.EV a.length 0 (a5 ((11:Nat):Int))=11;rw[HT.mi];lia
 have c:HT.EV a.length a.length b6=a.length:=rfl;unfold cut;rw[b,c,tj,JF];lia
abbrev Sn(n:Nat)(x:Str):Prop:=x.length<=n/\∀c∈x.cps.toList,c<16 ^ 8
def Sn.app(h:Sn n x)(a:Sn m y):Sn (n+m) (x++y):=by
 show⟨by rw[str_len];have:=h.1;have:=a.1;lia,λc b=>?_⟩;rw[sF]at b;show(l'.mp b).elim (h.2 c) (a.2 c)
def Sn.sw(h:Sn n x)(a:n<=20):SW x:=⟨Hm h.1 a,h.2⟩
def iQ(h:c<1000):Sn 1 (E5.one c):=⟨ke _,λd a=>by
 have:d=c:=by simpa[E5.one] using a
 lia⟩
def xE(i:Nat)(h:i<10):∃c,c<1000/\E7 ("abcdefghij":Str).cps.toList (i:Int)=a5 c:=by
 have:∀i:_root_.Fin 10,((E7 ("abcdefghij":Str).cps.toList ((i:Nat):Int)).any λc=>c4 (c<1000))=b7:=by decide +kernel
 have:=this ⟨i,h⟩;rw[VT]at this;have⟨c,a,b⟩:=this;show⟨c,Yv b,a⟩
def Cj(i:Nat)(h:i<9):∃c,c<1000/\E7 ("abcdefghi":Str).cps.toList (i:Int)=a5 c:=by
 have:∀i:_root_.Fin 9,((E7 ("abcdefghi":Str).cps.toList ((i:Nat):Int)).any λc=>c4 (c<1000))=b7:=by decide +kernel
 have:=this ⟨i,h⟩;rw[VT]at this;have⟨c,a,b⟩:=this;show⟨c,Yv b,a⟩
abbrev jn:List Str:=["","Bank","abcdefghi","bank/1","bank/02","bank/100","/2","bank/","a b","a*","bank/2/3","bank/x"]
def zr:∀x∈jn,SW x:=by
 have:∀x∈jn,x.length<=20/\∀c∈x.cps.toList,c<16 ^ 8:=by decide +kernel
 show this
end TM
namespace K
open PySem L2 TM E5
section
variable{Γ:Tab}{rows:List Row}{ds:List Int}
def zt:∃x:Str,SW x/\bu Γ cz [.int d]=a5 (.ok (.loc,.str x)):=by
 obtain⟨j,a⟩:∃j:Nat,d % ((jn.map U.str).length:Nat)=(j:Int):=⟨_,(F_ (Je _ (by decide))).symm⟩
 have b:j<jn.length:=by
  have:=JH d (show(0:Int)<((jn.map U.str).length:Nat) by decide);rw[a,eh]at this;lia
 show⟨jn[j],zr _ (KY b),?_⟩;have c:E7 (jn.map U.str) (j:Int)=a5 (.str jn[j]):=bZ (by simp[b]);have g:Run (ev Γ (.bin .mod (.var 0) (.bi .len [.var 1]))) [a5 (.loc,.int d),a5 (.own,.lst (jn.map .str))] (.loc,.int (j:Int)) [a5 (.loc,.int d),a5 (.own,.lst (jn.map .str))]:=by
  rw[<-a];show aL (aa rfl) (bX (ae (cS rfl) ai) ⟨⟨.own,rfl,rfl⟩,trivial⟩ sC) trivial (bq (by decide))
 show ay (st0:=[a5 (.loc,.int d),b6]) rfl (.inr rfl) rfl (aB (r:=(.own,.lst (jn.map .str)))
  (fj (us:=jn.map U.str) (ae ak (ae ak (ae ak (ae ak (ae ak (ae ak (ae ak (ae ak (ae ak (ae ak (ae ak (ae ak ai)))))))))))) trivial (av aA (av aA (av aA (av aA (av aA (av aA (av aA (av aA (av aA (av aA (av aA (av aA aT)))))))))))) (by change 12<=df;decide)) da
  (a_ (cp (cS rfl) g ⟨⟨.own,rfl,rfl⟩,trivial⟩ (aK c)) a9))
abbrev Ts:List TM.S:=[.app 2 (.tup [.bin .add (.bin .add (.bin .add (.cst (.str "q")) (.idx (.var 3) (.bin .Gh (.var 4) (.cst (.int 10))))) (.idx (.var 3) (.bin .mod (.var 4) (.cst (.int 10))))) (.cst (.str "zzzzz")),.tup []])]
def qP(h:∀r∈rows,Rw r)(hl:rows.length<=40)(L:b=0\/b=1):∃rs:List Row,rs.length<=64/\(∀r∈rs,Rw r)/\bu Γ cX [.tup (rows.map B'),.int b]=a5 (.ok (.loc,.tup (rs.map B'))):=by
 have hsz:(1000:Nat)<=df:=by decide
 let a:Option (Kd×U):=a5 (.loc,.tup (rows.map B'));let c:Option (Kd×U):=a5 (.loc,.int b);let m:Option (Kd×U):=a5 (.loc,.str "abcdefghij");let S:=λ(rs:List Row) (o4:Option (Kd×U))=>([a,c,a5 (.own,.lst (rs.map B')),m,o4]:ar)
 have u:TM.start [.tup (rows.map B'),.int b] 5=[a,c,b6,b6,b6]:=by simp[TM.start,Fc,cq,a,c]
 let n:Nat:=(60+b - (rows.length:Int)).toNat;have v:((n:Nat):Int)=60+b - (rows.length:Int):=F_ ⋯;have N:n<=61:=by lia
 have⟨st',run,O,rs,o4,g,j,e⟩:=qJ (t:=cb) (is:=[4]) (body:=execs Γ Ts) (rs:=[(.loc,.int ((n:Nat):Int))]) (λi:Nat=>(Kd.loc,U.int (0+(i:Int))))
  (λd r st=>d++r=ei n/\∃(rs:List Row) (o4:Option (Kd×U)),rs.length=rows.length+d.length/\(∀r∈rs,Rw r)/\st=S rs o4) (λ_ _ _ _=>trivial) (λd i r st y=>by
   have⟨l,rs,o4,g,j,e⟩:=y;subst e;have Q:i<n:=ux.mp (by rw[<-l];simp);have Y:d.length<=n:=by have:=Yy KX l;simp at this;lia
   have⟨o,k1,z⟩:=xE (i / 10) ⋯;have⟨p,k2,A⟩:=xE (i % 10) ⋯;let T:=S rs (a5 (.loc,.int (0+(i:Int))));have B:Gp .Gh (.loc,.int (0+(i:Int))) (.loc,.int 10)=a5 (.loc,.int ((i / 10:Nat):Int)):=by
    rw[TM.qG (by decide)];congr 3
    lia
   have C:Gp .mod (.loc,.int (0+(i:Int))) (.loc,.int 10)=a5 (.loc,.int ((i % 10:Nat):Int)):=by
    rw[TM.bq (by decide)];congr 3
    lia
   have q:("abcdefghij":Str).length<=df:=by decide +kernel
   have D:Run (ev Γ (.idx (.var 3) (.bin .Gh (.var 4) (.cst (.int 10))))) T (.loc,.str (E5.one o)) T:=cp (aa rfl) (aL (aa rfl) ak trivial B) trivial (eQ q z);have G:Run (ev Γ (.idx (.var 3) (.bin .mod (.var 4) (.cst (.int 10))))) T (.loc,.str (E5.one p)) T:=cp (aa rfl) (aL (aa rfl) ak trivial C) trivial (eQ q A);have s:Sn 1 "q":=by unfold Sn;decide +kernel
   have hz:Sn 5 "zzzzz":=by unfold Sn;decide +kernel
   have s1:=s.app (iQ k1);have s2:=s1.app (iQ k2);have s3:=s2.app hz;let w:Str:=(("q"++E5.one o)++E5.one p)++"zzzzz";have H:Run (ev Γ (.tup [.bin .add (.bin .add (.bin .add (.cst (.str "q")) (.idx (.var 3) (.bin .Gh (.var 4) (.cst (.int 10))))) (.idx (.var 3) (.bin .mod (.var 4) (.cst (.int 10))))) (.cst (.str "zzzzz")),.tup []])) T (.loc,B' (w,[])) T :=
    cQ (us:=[.str w,.tup []]) (ae (aL (aL (aL ak D trivial (dh (by have:=s.1;have:=(iQ k1).1;lia))) G trivial (dh (by have:=s1.1;have:=(iQ k2).1;lia))) ak trivial (dh (by have:=s2.1;have:=hz.1;lia))) (ae (cQ ai trivial aT (uv _)) ai)) trivial (av aA (av aA aT)) (by change 2<=df;lia)
   have em:(rs++[((w,[]):Row)]).map B'=rs.map B'++[B' (w,[])]:=by simp
   show⟨T,S (rs++[(w,[])]) (a5 (.loc,.int (0+(i:Int)))),nG aG,?_,by rw[<-l];simp,_,_,by simp;lia,?_,rfl⟩
   .change Run _ _ _ [a,c,a5 (.own,.lst ((rs++[((w,[]):Row)]).map B')),m,a5 (.loc,.int (0+(i:Int)))];rw[em];show oX (k:=.own) (k':=.own) (r:=(.loc,B' (w,[]))) rfl H aA rfl rfl (by rw[eh];lia) aI
   .intro r hr;rcases l'.mp hr with hr|hr
    .show j r hr
    .rw[rr.mp hr];show⟨uv _,s3.sw ⋯,λx I=>by cases I⟩) (ei n) [] (S rows b6) ⟨rfl,rows,b6,by simp,h,rfl⟩
 subst e;rw[gc,Lk]at g;show⟨rs,by simp at g;lia,j,?_⟩;have J:Run (ev Γ (.bin .sub (.bin .add (.cst (.int 60)) (.var 1)) (.bi .len [.var 2]))) (S rows b6) (.loc,.int ((n:Nat):Int)) (S rows b6):=by
  rw[v,<-eh (f:=B')];show aL (aL ak (aa rfl) trivial cF) (bX (ae (cS rfl) ai) ⟨⟨.own,rfl,rfl⟩,trivial⟩ sC) trivial jC
 show ay rfl (.inr rfl) u (aB (r:=(.own,.lst (rows.map B'))) (bX (ae (aa rfl) ai) trivial rfl) da (aB ak aG (kB (rs:=[(.loc,.int ((n:Nat):Int))]) (st1:=S rows b6) (ae J ai) trivial (fq ⋯) rfl run
  (a_ (bX (r:=(.loc,.tup (rs.map B'))) (ae (cS rfl) ai) ⟨⟨.own,rfl,rfl⟩,trivial⟩ rfl) a9))))
end
section
variable{Γ:Tab}{rows:List Row}{ds:List Int}
abbrev Tu:List TM.S:=[.ret (.bin .add (.bin .add (.FC (.var 1) [] [.var 3]) (.tup [.var 7])) (.FC (.var 1) [.bin .add (.var 3) (.cst (.int 1))] []))]
def qQ(hd:ds.length=4)(h:∀r∈rows,Rw r/\r.2.length<=8)(hl:rows.length<=40)(hb:∀d:Int,∃x:Str,SW x/\Γ "_law_bad_word" [.int d]=a5 (.ok (.loc,.str x)))
  (hf:∀b:Int,b=0\/b=1->∃rs:List Row,rs.length<=64/\(∀r∈rs,Rw r)/\Γ "_law_filled" [.tup (rows.map B'),.int b]=a5 (.ok (.loc,.tup (rs.map B')))) :
  ∃rs:List Row,rs.length<=64/\(∀r∈rs,Rw r)/\bu Γ cY [.lst (ds.map .int),.tup (rows.map B')]=a5 (.ok (.loc,.tup (rs.map B'))):=by
 have hsz:(1000:Nat)<=df:=by decide
 let C:Option (Kd×U):=a5 (.any,.lst (ds.map .int));let D:Option (Kd×U):=a5 (.loc,.tup (rows.map B'));have I:TM.start [.lst (ds.map .int),.tup (rows.map B')] 9=[C,D,b6,b6,b6,b6,b6,b6,b6]:=by simp[TM.start,Fc,cq,C,D]
 have o:∀q:Nat,q<4->E7 (ds.map U.int) (q:Int)=a5 (.int (dd ds q)):=λq T=>bP ⋯;let a:=dd ds 0 % 9;have w0:0<=a:=Je _ (by decide);let i2:Option (Kd×U):=a5 (.loc,.int a);have g2:Run (ev Γ (.bin .mod (.idx (.var 0) (.cst (.int 0))) (.cst (.int 9)))) [C,D,b6,b6,b6,b6,b6,b6,b6] (.loc,.int a) [C,D,b6,b6,b6,b6,b6,b6,b6]:=aL (cp (c_ rfl) ak trivial (aK (o 0 ⋯))) ak trivial (bq (by decide));let Y:ar:=[C,D,i2,b6,b6,b6,b6,b6,b6]
 have t1:Run (E6 Γ (.or [.cmp .gt (.var 2) (.cst (.int 6)),.cmp .eq (.bi .len [.var 1]) (.cst (.int 0))])) Y (c4 (6<a)||decide (rows.length=0)) Y :=
  oV (lT (bT (aa rfl) ak trivial (fm rfl)) λ_=>jd (bT (bX (ae (aa rfl) ai) trivial cL) ak trivial (gu (by rw[eh,pj];simp))))
 cases hc:(c4 (6<a)||decide (rows.length=0)) with
 |true =>
  rw[hc]at t1;have⟨rs,s,t,u⟩:=hf (a % 2) ⋯;show⟨rs,s,t,ay rfl (.inr rfl) I (aB g2 aG (iK t1 (a_ (aZ (ae (aa rfl) (ae (aL (aa rfl) ak trivial (bq (by decide))) ai)) trivial u) a9)))⟩
 |false =>
  rw[hc]at t1;rw[M6,Yw,Yw]at hc;have QI:(0:Int)<((rows.map B').length:Nat):=by rw[eh];lia
  obtain⟨j,hj⟩:∃j:Nat,dd ds 1 % ((rows.map B').length:Nat)=(j:Int):=⟨_,(F_ (Je _ ⋯)).symm⟩
  have Gq:j<rows.length:=by
   have:=JH (dd ds 1) QI;rw[hj,eh]at this;lia
  obtain⟨r,hr⟩:∃r,r=rows[j]:=⟨_,rfl⟩
  have⟨k,Ug⟩:=h r (by rw[hr];show KY Gq);have hx:E7 (rows.map B') (j:Int)=a5 (B' r):=bZ (by simp[Gq,hr]);let i3:Option (Kd×U):=a5 (.loc,.int (j:Int));let i4:Option (Kd×U):=a5 (.loc,.str r.1);let i5:Option (Kd×U):=a5 (.loc,.tup (r.2.map .str));have g3:Run (ev Γ (.bin .mod (.idx (.var 0) (.cst (.int 1))) (.bi .len [.var 1]))) Y (.loc,.int (j:Int)) Y:=by
   rw[<-hj];show aL (cp (c_ rfl) ak trivial (aK (o 1 ⋯))) (bX (ae (aa rfl) ai) trivial cL) trivial (bq QI)
  let S5:ar:=[C,D,i2,i3,i4,i5,b6,b6,b6]
  obtain⟨p,hp⟩:∃p:Nat,dd ds 2 % ((((r.2.map U.str).length:Nat):Int)+1)=(p:Int):=⟨_,(F_ (Je _ ⋯)).symm⟩
  let i6:Option (Kd×U):=a5 (.loc,.int (p:Int));have g6:Run (ev Γ (.bin .mod (.idx (.var 0) (.cst (.int 2))) (.bin .add (.bi .len [.var 5]) (.cst (.int 1))))) S5 (.loc,.int (p:Int)) S5:=by
   rw[<-hp];show aL (cp (c_ rfl) ak trivial (aK (o 2 ⋯))) (aL (bX (ae (aa rfl) ai) trivial cL) ak trivial cF) trivial (bq ⋯)
  let S:=λN o8:Option (Kd×U)=>([C,D,i2,i3,i4,i5,i6,N,o8]:ar)
  have c1:=xC rows j;have c2:=kO rows (j+1);have v:∀q:Row,Rw q->∃rs:List Row,rs.length<=64/\(∀r∈rs,Rw r)/\Run (execs Γ Tu) (S (a5 (.loc,B' q)) b6) (.rt .loc (.tup (rs.map B'))) (S (a5 (.loc,B' q)) b6):=λq T=>by
   show⟨(cut rows b6 (a5 (j:Int))++[q])++cut rows (a5 ((j+1:Nat):Int)) b6,by rw[gc,gc,mN];lia,λx hx=>?_,?_⟩
   .rcases l'.mp hx with hx|hx
    .rcases l'.mp hx with hx|hx
     .show(h x (cA hx)).1
     .rw[rr.mp hx];show T
    .show(h x (cA hx)).1
   .show a_ (aL (aL (eI (aa rfl) eF (eG (aa rfl)) trivial ie) (cQ (us:=[q].map B') (ae (aa rfl) ai) trivial (av aA aT) (by change 1<=df;lia)) trivial (ig (by rw[mN];lia))) (eI (aa rfl) (eG (aL (aa rfl) ak trivial cF)) eF trivial ie) trivial (ig (by rw[gc,mN];have:=kO rows (j+1);rw[show(((j+1:Nat)):Int)=(j:Int)+1 by lia]at this;lia))) a9
  have l:∀{G:List TM.S} {f:Fl} {st':ar},Run (execs Γ G) (S (a5 (.loc,B' r)) b6) f st'->Run (execs Γ (.set 2 (.bin .mod (.idx (.var 0) (.cst (.int 0))) (.cst (.int 9))) ::
    .ite (.or [.cmp .gt (.var 2) (.cst (.int 6)),.cmp .eq (.bi .len [.var 1]) (.cst (.int 0))]) [.ret (.call "_law_filled" [.var 1,.bin .mod (.var 2) (.cst (.int 2))])] [] ::
    .set 3 (.bin .mod (.idx (.var 0) (.cst (.int 1))) (.bi .len [.var 1]))::.G' [4,5] (.idx (.var 1) (.var 3))::.set 6 (.bin .mod (.idx (.var 0) (.cst (.int 2))) (.bin .add (.bi .len [.var 5]) (.cst (.int 1)))) ::
    .set 7 (.tup [(.var 4),(.var 5)])::G)) [C,D,b6,b6,b6,b6,b6,b6,b6] f st':=λhh =>
   aB g2 aG (aN t1 aI (aB g3 aG (B7 (cp (aa rfl) (aa rfl) trivial (jG hx)) (z_ (.inl rfl)) (aB g6 aG (aB (r:=(.loc,B' r)) (cQ (us:=[.str r.1,.tup (r.2.map .str)]) (ae (aa rfl) (ae (aa rfl) ai)) trivial (av aA (av aA aT)) (by change 2<=df;lia)) aG hh)))))
  have tw:∀n:Int,Run (E6 Γ (.cmp .eq (.var 2) (.cst (.int n)))) (S (a5 (.loc,B' r)) b6) (c4 (a=n)) (S (a5 (.loc,B' r)) b6):=λn=>bT (aa rfl) ak trivial (gu rfl);have O:∀{n:Int},a=n->Run (E6 Γ (.cmp .eq (.var 2) (.cst (.int n)))) (S (a5 (.loc,B' r)) b6) b7 (S (a5 (.loc,B' r)) b6):=λ{n} h=>by have:=tw n;rwa [Yu h]at this
  have e:∀{n:Int},a≠n->Run (E6 Γ (.cmp .eq (.var 2) (.cst (.int n)))) (S (a5 (.loc,B' r)) b6) cb (S (a5 (.loc,B' r)) b6):=λ{n} h=>by have:=tw n;rwa [Ys h]at this
  have⟨H,QJ,Tv⟩:=hb (dd ds 3);have Md:∀N:Option (Kd×U),Run (ev Γ (.call "_law_bad_word" [.idx (.var 0) (.cst (.int 3))])) (S N b6) (.loc,.str H) (S N b6):=λN=>aZ (ae (cp (c_ rfl) ak trivial (aK (o 3 ⋯))) ai) trivial Tv;by_cases L:a=0
  .have⟨rs,s,t,u⟩:=v (H,r.2) ⟨k.ln,QJ,k.ws⟩;show⟨rs,s,t,ay rfl (.inr rfl) I (l (cT (O L) (aB (r:=(.loc,B' (H,r.2))) (cQ (us:=[.str H,.tup (r.2.map .str)]) (ae (Md _) (ae (aa rfl) ai)) trivial (av aA (av aA aT)) (by change 2<=df;lia)) aG aI) u))⟩
  by_cases Q:a=1
  .let B:=(cut (cut r.2 b6 (a5 (p:Int))) b6 (a5 7)++[H])++cut r.2 (a5 ((p:Int)+1)) b6;have d1:=ia (cut r.2 b6 (a5 (p:Int))) b6 (a5 7);have d2:=ia r.2 b6 (a5 (p:Int));have d3:=ia r.2 (a5 ((p:Int)+1)) b6;have⟨rs,s,t,u⟩:=v (r.1,B) ⟨by change B.length<=20;change((_++[H])++_:List Str).length<=20;rw[gc,gc,mN];lia,k.w,λx hx=>by
    rcases l'.mp (show x∈(_++[H])++_ from hx) with hx|hx
    .rcases l'.mp hx with hx|hx
     .show k.ws x (cA (cA hx))
     .rw[rr.mp hx];show QJ
    .show k.ws x (cA hx)⟩
   have gt:Run (ev Γ (.tup [.var 4,.bin .add (.bin .add (.FC (.FC (.var 5) [] [.var 6]) [] [.cst (.int 7)]) (.tup [.call "_law_bad_word" [.idx (.var 0) (.cst (.int 3))]])) (.FC (.var 5) [.bin .add (.var 6) (.cst (.int 1))] [])])) (S (a5 (.loc,B' r)) b6) (.loc,B' (r.1,B)) (S (a5 (.loc,B' r)) b6) :=
    cQ (us:=[.str r.1,.tup (B.map .str)]) (ae (aa rfl) (ae (aL (aL (eI (eI (aa rfl) eF (eG (aa rfl)) trivial fu) eF (eG ak) trivial fu) (cQ (us:=[H].map .str) (ae (Md _) ai) trivial (av aA aT) (by change 1<=df;lia)) trivial (dQ (by rw[mN];lia))) (eI (aa rfl) (eG (aL (aa rfl) ak trivial cF)) eF trivial fu) trivial (dQ (by rw[gc,mN];lia))) ai)) trivial (av aA (av aA aT)) (by change 2<=df;lia)
   show⟨rs,s,t,ay rfl (.inr rfl) I (l (aN (e L) (cT (O Q) (aB gt aG aI) aI) u))⟩
  by_cases e2:a=2
  .obtain⟨m,hm,m0,m1⟩:∃m:Int,FZ .max [(.loc,.int 1),(.loc,.int ((r.2.map U.str).length:Nat))]=a5 (.loc,.int m)/\0<m/\m<=((r.2.map U.str).length:Nat)+1:=by
    show⟨if (((r.2.map U.str).length:Nat):Int)>1 then(((r.2.map U.str).length:Nat):Int) else 1,rfl,?_⟩;split<;>lia
   obtain⟨q,T⟩:∃q:Nat,(p:Int) % m=(q:Int):=⟨_,(F_ (Je _ ⋯)).symm⟩
   have QK:q<(r.2++[r.1]).length:=by
    have:=JH (p:Int) m0;rw[eh]at m1;rw[gc,mN];lia
   obtain⟨y,hy⟩:∃y,y=(r.2++[r.1])[q]:=⟨_,rfl⟩
   have Tw:y∈r.2++[r.1]:=by rw[hy];show KY QK
   have Tz:SW y:=by
    rcases l'.mp Tw with z|z
    .show k.ws y z
    .rw[rr.mp z];show k.w
   have O_:E7 ((r.2++[r.1]).map U.str) (q:Int)=a5 (.str y):=bZ (by rw[nt,z8 QK,hy];rfl);let B:=(cut r.2 b6 (a5 7)++[y])++cut r.2 b6 (a5 1);have d1:=ia r.2 b6 (a5 7);have d3:=ia r.2 b6 (a5 1);have⟨rs,s,t,u⟩:=v (r.1,B) ⟨by change B.length<=20;change((_++[y])++_:List Str).length<=20;rw[gc,gc,mN];lia,k.w,λx hx=>by
    rcases l'.mp (show x∈(_++[y])++_ from hx) with hx|hx
    .rcases l'.mp hx with hx|hx
     .show k.ws x (cA hx)
     .rw[rr.mp hx];show Tz
    .show k.ws x (cA hx)⟩
   have gi:Run (ev Γ (.idx (.bin .add (.var 5) (.tup [.var 4])) (.bin .mod (.var 6) (.bi .max [.cst (.int 1),.bi .len [.var 5]])))) (S (a5 (.loc,B' r)) b6) (.loc,.str y) (S (a5 (.loc,B' r)) b6):=by
    have gm:Run (ev Γ (.bin .mod (.var 6) (.bi .max [.cst (.int 1),.bi .len [.var 5]]))) (S (a5 (.loc,B' r)) b6) (.loc,.int (q:Int)) (S (a5 (.loc,B' r)) b6):=by
     rw[<-T];show aL (aa rfl) (bX (ae ak (ae (bX (ae (aa rfl) ai) trivial cL) ai)) trivial hm) trivial (bq m0)
    show cp (aL (aa rfl) (cQ (us:=[r.1].map .str) (ae (aa rfl) ai) trivial (av aA aT) (by change 1<=df;lia)) trivial (dQ (by rw[mN];lia))) gm trivial (jG O_)
   have gt:Run (ev Γ (.tup [.var 4,.bin .add (.bin .add (.FC (.var 5) [] [.cst (.int 7)]) (.tup [.idx (.bin .add (.var 5) (.tup [.var 4])) (.bin .mod (.var 6) (.bi .max [.cst (.int 1),.bi .len [.var 5]]))])) (.FC (.var 5) [] [.cst (.int 1)])])) (S (a5 (.loc,B' r)) b6) (.loc,B' (r.1,B)) (S (a5 (.loc,B' r)) b6) :=
    cQ (us:=[.str r.1,.tup (B.map .str)]) (ae (aa rfl) (ae (aL (aL (eI (aa rfl) eF (eG ak) trivial fu) (cQ (us:=[y].map .str) (ae gi ai) trivial (av aA aT) (by change 1<=df;lia)) trivial (dQ (by rw[mN];lia))) (eI (aa rfl) eF (eG ak) trivial fu) trivial (dQ (by rw[gc,mN];lia))) ai)) trivial (av aA (av aA aT)) (by change 2<=df;lia)
   show⟨rs,s,t,ay rfl (.inr rfl) I (l (aN (e L) (aN (e Q) (cT (O e2) (aB gt aG aI) aI) aI) u))⟩
  by_cases e3:a=3
  .have HM:∀i:Nat,i<9->∃y:Str,SW y/\∀st:ar,st[0]?=a5 (a5 (.loc,.int (0+(i:Int))))->Run (ev Γ (.bin .add (.cst (.str "nine")) (.idx (.cst (.str "abcdefghi")) (.var 0)))) st (.loc,.str y) st:=λi A=>by
    have⟨c,k1,q1⟩:=Cj i A;have h9:Sn 4 "nine":=by unfold Sn;decide +kernel
    have s1:=h9.app (iQ k1);show⟨_,s1.sw ⋯,λst hs=>aL ak (cp ak (aa hs) trivial (eQ (by decide +kernel) (by rw[RF];show q1))) trivial (dh (by have:=h9.1;have:=(iQ k1).1;lia))⟩
   let g:Nat->Str:=λi=>if A:i<9 then VM (HM i A) else ""
   have hg:∀i,i<9->SW (g i)/\∀st:ar,st[0]?=a5 (a5 (.loc,.int (0+(i:Int))))->Run (ev Γ (.bin .add (.cst (.str "nine")) (.idx (.cst (.str "abcdefghi")) (.var 0)))) st (.loc,.str (g i)) st:=λi A=>by
    have:=Classical.choose_spec (HM i A);rw[show VM (HM i A)=g i by change _=dite _ _ _;rw[dif_pos A]]at this;show this
   have hx:=dz (cond:=aQ Γ []) (elt:=ev Γ (.bin .add (.cst (.str "nine")) (.idx (.cst (.str "abcdefghi")) (.var 0)))) (src:=[(.loc,.int ((9:Nat):Int))]) (st:=S (a5 (.loc,B' r)) b6) trivial .loc (.inl rfl) (λi:Nat=>U.int (0+(i:Int))) (λi=>U.str (g i)) .loc (λ_=>fk) (ei 9) [] (by simp;lia)
    (λi A=>⟨(hg i (ux.mp A)).2 _ rfl,aA⟩)
   rw[FG]at hx;have em:((ei 9).map λi=>U.str (g i))=((ei 9).map g).map U.str:=by rw[sx];rfl
   rw[em]at hx;have⟨rs,s,t,u⟩:=v (r.1,(ei 9).map g) ⟨by simp,k.w,λx hx=>by
    have⟨i,A,rfl⟩:=mh.mp (show x∈(ei 9).map g from hx);show(hg i (ux.mp A)).1⟩
   have gt:Run (ev Γ (.tup [.var 4,.bi .tuple [.comp 1 cb .E8 [.cst (.int 9)] [] (.bin .add (.cst (.str "nine")) (.idx (.cst (.str "abcdefghi")) (.var 0)))]])) (S (a5 (.loc,B' r)) b6) (.loc,B' (r.1,(ei 9).map g)) (S (a5 (.loc,B' r)) b6) :=
    cQ (us:=[.str r.1,.tup (((ei 9).map g).map .str)]) (ae (aa rfl) (ae (bX (r:=(.loc,.tup (((ei 9).map g).map .str))) (ae (cU (rs:=[(.loc,.int ((9:Nat):Int))]) (ae ak ai) trivial (fq ⋯) hx) ai) trivial rfl) ai)) trivial (av aA (av aA aT)) (by change 2<=df;lia)
   show⟨rs,s,t,ay rfl (.inr rfl) I (l (aN (e L) (aN (e Q) (aN (e e2) (cT (O e3) (aB gt aG aI) aI) aI) aI) u))⟩
  by_cases e4:a=4
  .obtain⟨J,QL⟩:∃p:Nat,dd ds 3 % ((((rows.map B').length:Nat):Int)+1)=(p:Int):=⟨_,(F_ (Je _ ⋯)).symm⟩
   have TB:J<=rows.length:=by
    have:=JH (dd ds 3) (show(0:Int)<(((rows.map B').length:Nat):Int)+1 by lia);rw[QL,eh]at this;lia
   let i8:Option (Kd×U):=a5 (.loc,.int (J:Int));have g8:Run (ev Γ (.bin .mod (.idx (.var 0) (.cst (.int 3))) (.bin .add (.bi .len [.var 1]) (.cst (.int 1))))) (S (a5 (.loc,B' r)) b6) (.loc,.int (J:Int)) (S (a5 (.loc,B' r)) b6):=by
    rw[<-QL];show aL (cp (c_ rfl) ak trivial (aK (o 3 ⋯))) (aL (bX (ae (aa rfl) ai) trivial cL) ak trivial cF) trivial (bq ⋯)
   have k1:=xC rows J;have k2:=kO rows J;let q:Row:=(r.1,r.2.reverse)
   have gq:Run (ev Γ (.tup [.tup [.var 4,.Ju (.var 5)]])) (S (a5 (.loc,B' r)) i8) (.loc,.tup ([q].map B')) (S (a5 (.loc,B' r)) i8) :=
    cQ (us:=[q].map B') (ae (cQ (us:=[.str r.1,.tup (r.2.reverse.map .str)]) (ae (aa rfl) (ae (DZ (r:=(.loc,.tup (r.2.reverse.map .str))) (aa rfl) (by change a5 (Kd.loc,U.tup (r.2.map U.str).reverse)=_;rw[List.map_reverse])) ai)) trivial (av aA (av aA aT)) (by change 2<=df;lia)) ai) trivial (av aA aT) (by change 1<=df;lia)
   have gt:Run (ev Γ (.bin .add (.bin .add (.FC (.var 1) [] [.var 8]) (.tup [.tup [.var 4,.Ju (.var 5)]])) (.FC (.var 1) [.var 8] []))) (S (a5 (.loc,B' r)) i8) (.loc,.tup (((cut rows b6 (a5 (J:Int))++[q])++cut rows (a5 (J:Int)) b6).map B')) (S (a5 (.loc,B' r)) i8) :=
    aL (aL (eI (aa rfl) eF (eG (aa rfl)) trivial ie) gq trivial (ig (by rw[mN];lia))) (eI (aa rfl) (eG (aa rfl)) eF trivial ie) trivial (ig (by rw[gc,mN];lia))
   show⟨_,by rw[gc,gc,mN];lia,λx hx=>?_,ay rfl (.inr rfl) I (l (nF (gr (e L) (nF (gr (e Q) (nF (gr (e e2) (nF (gr (e e3) (iK (O e4) (aB g8 aG (a_ gt a9))))))))))))⟩;rcases l'.mp hx with hx|hx
   .rcases l'.mp hx with hx|hx
    .show(h x (cA hx)).1
    .rw[rr.mp hx];show⟨by change r.2.reverse.length<=20;rw[Tg];lia,k.w,λx hx=>k.ws x (List.mem_reverse.mp hx)⟩
   .show(h x (cA hx)).1
  .have⟨rs,s,t,u⟩:=v r k;show⟨rs,s,t,ay rfl (.inr rfl) I (l (aN (e L) (aN (e Q) (aN (e e2) (aN (e e3) (aN (e e4) aI aI) aI) aI) aI) u))⟩
end
end K
namespace TM
open PySem L2 E5
def D0(h:Run (ev Γ e) st (k,.bl p) st)(a:Run (ev Γ b) st (k',.bl q) st)(hk:k'=.loc):Run (ev Γ (.or [e,b])) st (.loc,.bl (p||q)) st:=by
 subst hk;cases p with
 |true=>show DO (af h aO)
 |false=>show DO (af h a)
end TM
namespace K
open PySem L2 TM E5
section
variable{Γ:Tab}{rows:List Row}
abbrev Pj:List Bool:=[b7,b7,cb,b7,cb,cb,cb,cb,cb,cb]
def D2(h:Rw r):Rp 2 1000 (B' r):=by
 show xp (xn (n:=1) (b:=420) (us:=[.str r.1,.tup (r.2.map .str)]) λu hu=>?_) ⋯ (by simp);rcases fz.mp hu with rfl|hu
 .show xp (xm h.w) ⋯ ⋯
 .rw[rr.mp hu];show xp (xn (n:=0) (b:=20) λu hu=>?_) ⋯ (by rw[eh];have:=h.ln;lia);have⟨x,a,rfl⟩:=mh.mp hu;show xm (h.ws x a)
def xF:bu Γ ez [.lst (Pj.map .bl),.int 3]=a5 (.ok (.loc,.bl b7)):=by
 let S:ar:=[a5 (.any,.lst (Pj.map .bl)),a5 (.loc,.int 3)]
 have a:=dz (cond:=aQ Γ []) (elt:=ev Γ (.or [.cmp .lt (.var 0) (.cst (.int 2)),.cmp .eq (.var 0) (.var 2)])) (src:=[(.loc,.int ((10:Nat):Int))]) (st:=S) trivial .loc (.inl rfl) (λi:Nat=>U.int (0+(i:Int))) (λi=>U.bl (c4 (0+(i:Int)<2)||(0+(i:Int)==3))) .loc (λ_=>fk) (ei 10) [] (by decide)
  (λi b=>⟨D0 (fi (aa rfl) ak trivial (lR rfl)) (fi (aa rfl) (aa rfl) trivial (gu rfl)) rfl,aA⟩)
 show ay (st:=S) (st0:=S) rfl (.inr rfl) rfl (a_ (fi (c:=b7) (c_ rfl) (cU (rs:=[(.loc,.int ((10:Nat):Int))]) (ae ak ai) trivial (fq ⋯) a) trivial rfl) a9)
def um(h:∀r∈rows,Rw r)(hl:rows.length<=64)(i:Γ "_law_fit" [.tup (rows.map B')]=a5 (.ok (.loc,.bl (dc rows))))(j:Γ "fits" [.tup (rows.map B')]=a5 (.ok (.loc,.bl (dc rows))))
  (f:Γ "fitted" [.tup (rows.map B')]=if dc rows=b7 then a5 (.ok (.loc,.tup (rows.map B'))) else a5 (.exc "Unfit")) (ho:Γ "_law_only" [.lst (Pj.map .bl),.int 3]=a5 (.ok (.loc,.bl b7))) :
  bu Γ di [.tup (rows.map B')]=a5 (.ok (.loc,.bl b7)):=by
 have hsz:(1000:Nat)<=df:=by decide
 let e:Option (Kd×U):=a5 (.loc,.tup (rows.map B'));have l:TM.start [.tup (rows.map B')] 6=[e,b6,b6,b6,b6,b6]:=by simp[TM.start,Fc,cq,e]
 have⟨s,hs⟩:=B9 (n:=2) (b:=1000) (us:=rows.map B') cb (λu o=>by
  have⟨r,q,rfl⟩:=mh.mp o;show D2 (h r q)) ⋯ (by rw[eh];lia)
 cases m:dc rows with
 |true =>
  rw[m]at i j f;rw[Yr rfl]at f;let d:Option (Kd×U):=a5 (.loc,.bl b7);have k:Run (E6 Γ (.or [.not (.IM (.var 2) .bool),.cmp .ne (.var 2) (.var 1)])) [e,d,d,b6,b6,b6] cb [e,d,d,b6,b6,b6]:=oV (sv (kz (c:=b7) (z9 (aa rfl) rfl)) (jd (bT (aa rfl) (aa rfl) trivial (lW rfl))));let S:ar:=[e,d,d,a5 (.own,.lst []),e,b6]
  have g:Run (ev Γ (.and [.cmp .eq (.var 3) (.lst []),.cmp .eq (.bi .repr [.var 4]) (.bi .repr [.var 0])])) S (.loc,.bl b7) S :=
   sr (wK (p:=b7) (fi (cS rfl) (fj ai trivial aT (uv _)) ⟨⟨.own,rfl,rfl⟩,trivial⟩ (xh (a:=[]) (b:=[]))) (by rw[Yr rfl];show nA (fi (bX (ae (aa rfl) ai) trivial (hs _)) (bX (ae (aa rfl) ai) trivial (hs _)) trivial (by rw[nN,Yu rfl]))))
  show ay rfl (.inr rfl) l (aB (aZ (ae (aa rfl) ai) trivial i) aG (aB (aZ (ae (aa rfl) ai) trivial j) aG (aN k aI (aB (r:=(.own,.lst [])) (fj ai trivial aT (uv _)) da (aB ak aG
   (B_ (ae (aa rfl) ai) trivial f aG (iK (Ac rfl) (a_ g a9))))))))
 |false =>
  rw[m]at i j f;rw[Yt oa]at f;let d:Option (Kd×U):=a5 (.loc,.bl cb);have k:Run (E6 Γ (.or [.not (.IM (.var 2) .bool),.cmp .ne (.var 2) (.var 1)])) [e,d,d,b6,b6,b6] cb [e,d,d,b6,b6,b6]:=oV (sv (kz (c:=b7) (z9 (aa rfl) rfl)) (jd (bT (aa rfl) (aa rfl) trivial (lW rfl))));show ay rfl (.inr rfl) l (aB (aZ (ae (aa rfl) ai) trivial i) aG (aB (aZ (ae (aa rfl) ai) trivial j) aG (aN k aI (aB (r:=(.own,.lst [])) (fj ai trivial aT (uv _)) da (aB ak aG
   (Ca (ae (aa rfl) ai) trivial f rfl (by decide) da (aN (Ac rfl) aI (a_ (aZ (ae (cS rfl) (ae ak ai)) ⟨⟨.own,rfl,rfl⟩,trivial⟩ ho) a9))))))))
abbrev TC:List TM.S:=[.ite (.not (.call "_law_right" [.call "_law_spoilt" [.FC (.call "_law_drawn" [.call "_law_cell" [.var 0,.bin .add (.cst (.int 41)) (.var 2)],.cst (.int 15)]) [.cst (.int 11)] [],.var 1]])) [.ret (.cst (.bl cb))] []]
def uo(g:iL Γ)(h:fE Γ)(j:Γ "_law_made" [.lst (ns.map .int)]=a5 (.ok (.loc,.tup (rows.map B'))))(k:Γ "_law_fit" [.tup (rows.map B')]=a5 (.ok (.loc,.bl b7)))(l:Γ "_law_right" [.tup (rows.map B')]=a5 (.ok (.loc,.bl b7)))
  (m:∀a:List Int,a.length=4->∃rs:List Row,Γ "_law_spoilt" [.lst (a.map .int),.tup (rows.map B')]=a5 (.ok (.loc,.tup (rs.map B')))/\Γ "_law_right" [.tup (rs.map B')]=a5 (.ok (.loc,.bl b7))):bu Γ sG [qy ns]=a5 (.ok (.loc,.bl b7)):=by
 let b:Option (Kd×U):=a5 (.any,.lst (ns.map .int));let n:Option (Kd×U):=a5 (.loc,.tup (rows.map B'));let S:=λo2:Option (Kd×U)=>([b,n,o2]:ar)
 have o:TM.start [qy ns] 3=[b,b6,b6]:=rfl;have p:Run (E6 Γ (.or [.not (.call "_law_fit" [.var 1]),.not (.call "_law_right" [.var 1])])) (S b6) cb (S b6):=oV (sv (kz (c:=b7) (nL (ae (aa rfl) ai) trivial k rfl)) (jd (kz (c:=b7) (nL (ae (aa rfl) ai) trivial l rfl))));obtain⟨st2,q,_,o2,e⟩:=qJ (t:=cb) (is:=[2]) (body:=execs Γ TC) (rs:=[(.loc,.int ((13:Nat):Int))]) (λi:Nat=>(Kd.loc,U.int (0+(i:Int))))
  (λd r st=>d++r=ei 13/\∃o2,st=S o2) (λ_ _ _ _=>trivial) (λd i r st s=>by
   have⟨f,o2,e⟩:=s;subst e;have B:i<13:=ux.mp (by rw[<-f];simp);have⟨z,hz⟩:=g ns (41+i) ⋯;rw[U0]at hz;have⟨a,u,C,v⟩:=h z 15 ⋯;have⟨rs,w,x⟩:=m (cut a (a5 11) b6) (xD u);let T:=S (a5 (.loc,.int (0+(i:Int))));have y:Run (ev Γ (.call "_law_cell" [.var 0,.bin .add (.cst (.int 41)) (.var 2)])) T (.loc,.int z) T:=aZ (ae (c_ rfl) (ae (aL ak (aa rfl) trivial cF) ai)) trivial (by rw[RF];show hz);have A:Run (ev Γ (.call "_law_drawn" [.call "_law_cell" [.var 0,.bin .add (.cst (.int 41)) (.var 2)],.cst (.int 15)])) T (.own,.lst (a.map .int)) T :=
    aZ (ae y (ae ak ai)) trivial v
   have t:Run (E6 Γ (.not (.call "_law_right" [.call "_law_spoilt" [.FC (.call "_law_drawn" [.call "_law_cell" [.var 0,.bin .add (.cst (.int 41)) (.var 2)],.cst (.int 15)]) [.cst (.int 11)] [],.var 1]]))) T cb T :=
    kz (c:=b7) (nL (ae (aZ (ae (eI A (eG ak) eF trivial (xj rfl)) (ae (aa rfl) ai)) trivial w) ai) trivial x rfl)
   show⟨T,T,nG aG,aN t aI aI,by rw[<-f];simp,_,rfl⟩) (ei 13) [] (S b6) ⟨rfl,b6,rfl⟩
 subst e;show ay rfl (.inr rfl) o (aB (aZ (ae (c_ rfl) ai) trivial j) aG (aN p aI (kB (rs:=[(.loc,.int ((13:Nat):Int))]) (st1:=S b6) (ae ak ai) trivial (fq ⋯) rfl q (a_ ak a9))))
end
def makers:xg prog:=⟨rfl,rfl,rfl,rfl,rfl,rfl,rfl⟩
def xG(d:Nat):fI (Fp prog (d+2)) "is_word":=λx h=>(aC (show Ft prog "is_word" fG from rfl) _).trans (xy (λx a=>(aC (show Ft prog "is_stem" fF from rfl) _).trans (xu a)) (λy=>(aC (show Ft prog "is_later_sense" bQ from rfl) _).trans ui)
 (λx hl=>(aC (show Ft prog "stem_of" iO from rfl) _).trans (xv rfl hl rfl)) (λx hl=>(aC (show Ft prog "number_of" ft from rfl) _).trans (xv rfl hl rfl)) h)
def ur(d:Nat):fI (Fp prog (d+1)) "_law_is_word":=λx h=>(aC (show Ft prog "_law_is_word" cM from rfl) _).trans (uj h)
section
variable{rows:List Row}
def sN(d:Nat)(h:∀r∈rows,Rw r)(hl:rows.length<=64):Fp prog (d+2) "_law_fit" [.tup (rows.map B')]=a5 (.ok (.loc,.bl (dc rows))) :=
 (aC (show Ft prog "_law_fit" fH from rfl) _).trans (xB (ur d) h ⋯)
def pq(d:Nat)(h:∀r∈rows,Rw r)(hl:rows.length<=64):Fp prog (d+4) "fits" [.tup (rows.map B')]=a5 (.ok (.loc,.bl (dc rows))):=by
 show(aC (show Ft prog "fits" nP from rfl) _).trans (xA (λr a=>(aC (show Ft prog "is_row" ib from rfl) _).trans (zq (xG d) (h r a))) ?_ hl);show(aC (show Ft prog "has_alike_rows" bR from rfl) _).trans (qN (λr a=>(aC (show Ft prog "in_one_order" bM from rfl) _).trans (zo a)) h hl)
def l4(d:Nat)(h:∀r∈rows,Rw r)(hl:rows.length<=64):Fp prog (d+6) "_law_right" [.tup (rows.map B')]=a5 (.ok (.loc,.bl b7)) :=
 (aC (show Ft prog "_law_right" di from rfl) _).trans (um h hl (sN (d+3) h hl) (pq (d+1) h hl) ((aC (show Ft prog "fitted" ic from rfl) _).trans (qO (pq d h hl))) ((aC (show Ft prog "_law_only" ez from rfl) _).trans xF))
end
def pure(ns:List Int)(z:ns.length<=63):Fp prog 7 "law" [qy ns]=a5 (.ok (.loc,.bl b7)):=by
 have⟨names,c,A,B,C,f,k,m,e,n⟩:=xb (Γ:=Fp prog 5) makers.iN makers.drawnOk makers.namesOk makers.B4 ns;have o:Fp prog 6 "_law_made" [.lst (ns.map .int)]=a5 (.ok (.loc,.tup (c.map B'))):=(aC (show Ft prog "_law_made" w_ from rfl) _).trans n;have h:∀r∈c,Rw r/\r.2.length<=8:=λr a=>⟨⟨by have:=(e r a).Im;lia,word_short (f _ (e r a).word),λx g=>word_short (f x ((e r a).told x g))⟩,(e r a).Im⟩
 have q:dc c=b7:=by
  unfold dc;rw[Yu (p:=c.length<=60) ⋯,Yu m,Nj,OK,ri];intro r a;unfold dA;rw[Yu (e r a).Im,Yu (e r a).once,sJ (f _ (e r a).word),OK,OK,OK,ri];show λx g=>sJ (f x ((e r a).told x g))
 have l:=sN 4 (λr a=>(h r a).1) ⋯;rw[q]at l;show(aC (show Ft prog "law" sG from rfl) _).trans (uo makers.iN makers.drawnOk o l (l4 0 (λr a=>(h r a).1) ⋯) λD s=>?_);have⟨rs,t,u,v⟩:=qQ (Γ:=Fp prog 5) s h k (λd=>by
  have⟨x,i,j⟩:=zt (Γ:=Fp prog 4) (d:=d);show⟨x,i,(aC (show Ft prog "_law_bad_word" cz from rfl) _).trans j⟩) (λb w=>by
  have⟨rs,i,j,y⟩:=qP (Γ:=Fp prog 4) (λr a=>(h r a).1) k w;show⟨rs,i,j,(aC (show Ft prog "_law_filled" cX from rfl) _).trans y⟩)
 show⟨rs,(aC (show Ft prog "_law_spoilt" cY from rfl) _).trans v,l4 0 u t⟩
end K
namespace K
open PySem L2 TM PySem.W PyProof.Rows
abbrev m0:d6:=.str "primer.words" 335
abbrev m1:d6:=.str "primer.books" 378
abbrev m2:d6:=.str "law_primer_k03_books_that_fit" 416
abbrev ml:Me:=⟨sG,45,["_law_script","_law_book_here","_law_k"],292,291,m2,co "law" 563 186 1 286 287 (.ref 288) (.ref 289) (.ref 290) 569 570 181⟩
abbrev ms:List Me:=[⟨fF,15,["text"],128,127,m0,co "is_stem" 345 25 1 124 125 .none .none (.ref 126) 348 349 181⟩,
 ⟨bQ,16,["text"],133,132,m0,co "is_later_sense" 351 29 1 129 130 .none .none (.ref 131) 354 355 181⟩,
 ⟨fG,17,["text"],140,139,m0,co "is_word" 357 31 1 134 135 (.ref 136) (.ref 137) (.ref 138) 361 362 181⟩,
 ⟨iO,18,["word"],147,146,m0,co "stem_of" 364 35 1 141 142 (.ref 143) (.ref 144) (.ref 145) 368 369 181⟩,
 ⟨ft,19,["word"],154,153,m0,co "number_of" 371 37 1 148 149 (.ref 150) (.ref 151) (.ref 152) 375 376 181⟩,
 ⟨ib,23,["row","told"],159,158,m1,co "is_row" 384 42 1 155 156 .none .none (.ref 157) 387 388 181⟩,
 ⟨bM,24,["row"],166,165,m1,co "in_one_order" 390 47 1 160 161 (.ref 162) (.ref 163) (.ref 164) 394 395 181⟩,
 ⟨bR,25,["book"],171,170,m1,co "has_alike_rows" 397 49 1 167 168 .none .none (.ref 169) 400 401 181⟩,
 ⟨nP,26,["book"],176,175,m1,co "fits" 403 51 1 172 173 .none .none (.ref 174) 406 407 181⟩,
 ⟨ic,27,["book"],183,182,m1,co "fitted" 409 55 1 177 178 (.ref 179) (.ref 180) (.ref 181) 413 414 181⟩,
 ⟨lX,29,["_law_cell_here","_law_k","_law_by"],190,189,m2,co "_law_mix" 418 60 2 184 185 (.ref 186) (.ref 187) (.ref 188) 424 425 181⟩,
 ⟨kI,30,["_law_script","_law_k","_law_seed"],197,196,m2,co "_law_cell" 427 63 2 191 192 (.ref 193) (.ref 194) (.ref 195) 433 434 181⟩,
 ⟨jf,31,["_law_cell_here","_law_many","_law_found","_law_left","_law_k"],204,203,m2,co "_law_drawn" 436 70 2 198 199 (.ref 200) (.ref 201) (.ref 202) 444 445 181⟩,
 ⟨kJ,32,["_law_drawn_here","_law_names_here","_law_letters","_law_name_here","_law_stem","_law_spare"],209,208,m2,co "_law_name" 447 80 2 205 206 .none .none (.ref 207) 450 451 181⟩,
 ⟨jg,33,["_law_script","_law_base","_law_many","_law_names_here","_law_k"],216,215,m2,co "_law_names" 453 91 3 210 211 (.ref 212) (.ref 213) (.ref 214) 461 462 181⟩,
 ⟨kK,34,["_law_drawn_here","_law_names_here","_law_top","_law_told_here","_law_k","_law_one"],223,222,m2,co "_law_told" 464 96 2 217 218 (.ref 219) (.ref 220) (.ref 221) 473 474 181⟩,
 ⟨kL,35,["_law_script","_law_base","_law_names_here","_law_many","_law_rows","_law_met","_law_k","_law_drawn_here","_law_row","_law_key"],230,229,m2,co "_law_book" 476 106 4 224 225 (.ref 226) (.ref 227) (.ref 228) 489 490 181⟩,
 ⟨kM,36,["_law_script","_law_drawn_here","_law_names_here"],237,236,m2,co "_law_made" 492 117 1 231 232 (.ref 233) (.ref 234) (.ref 235) 498 499 181⟩,
 ⟨cM,37,["_law_text","_law_stem","_law_tail"],242,241,m2,co "_law_is_word" 501 121 1 238 239 .none .none (.ref 240) 504 505 181⟩,
 ⟨fH,38,["_law_book_here","_law_seen","_law_word","_law_told_here","_law_key"],247,246,m2,co "_law_fit" 507 129 1 243 244 .none .none (.ref 245) 510 511 181⟩,
 ⟨jh,39,["_law_e"],254,253,m2,co "_law_kinds" 513 139 1 248 249 (.ref 250) (.ref 251) (.ref 252) 517 518 181⟩,
 ⟨ez,40,["_law_kinds_here","_law_place"],259,258,m2,co "_law_only" 520 141 2 255 256 .none .none (.ref 257) 523 524 181⟩,
 ⟨cz,41,["_law_number","_law_some"],266,265,m2,co "_law_bad_word" 526 143 1 260 261 (.ref 262) (.ref 263) (.ref 264) 531 532 181⟩,
 ⟨cX,42,["_law_book_here","_law_many","_law_rows","_law_signs","_law_k"],273,272,m2,co "_law_filled" 534 146 2 267 268 (.ref 269) (.ref 270) (.ref 271) 542 543 181⟩,
 ⟨cY,43,["_law_drawn_here","_law_book_here","_law_way","_law_at","_law_word","_law_told_here","_law_place","_law_row","_law_other"],278,277,m2,co "_law_spoilt" 545 152 2 274 275 .none .none (.ref 276) 548 549 181⟩,
 ⟨di,44,["_law_book_here","_law_due","_law_found","_law_kinds_here","_law_told_here","_law_e"],285,284,m2,co "_law_right" 551 172 1 279 280 (.ref 281) (.ref 282) (.ref 283) 560 561 181⟩,
 ml]
abbrev gg(P:Uh):Obj:=⟨.type "dict",b6,.dict #[ge P "__name__" 165 (.str "law_primer_k03_books_that_fit" 416),ge P "__doc__" 166 .none,ge P "__package__" 167 .none,ge P "__loader__" 168 (.builtin "__main__.__loader__#opaque"),ge P "__spec__" 169 .none,ge P "__annotations__" 170 (.ref 6),ge P "__builtins__" 171 (.ref 4),ge P "__file__" 173 (.str "/claim/cut.py" 172),ge P "__cached__" 174 .none,ge P "PrimerError" 206 (.ref 24),ge P "NoText" 222 (.ref 37),ge P "Unfit" 238 (.ref 49),ge P "Unknown" 254 (.ref 61),ge P "Unlearnt" 270 (.ref 73),ge P "TooMany" 286 (.ref 85),ge P "Lacking" 302 (.ref 97),ge P "NoRow" 318 (.ref 109),ge P "NoDeed" 334 (.ref 121),ge P "LETTERS" 338 (.str "abcdefghijklmnopqrstuvwxyz" 337),ge P "LONGEST_STEM" 340 (.int 8 339),ge P "FIRST_SENSE" 342 (.int 1 341),ge P "LAST_SENSE" 344 (.int 99 343),ge P "is_stem" 350 (.ref 128),ge P "is_later_sense" 356 (.ref 133),ge P "is_word" 363 (.ref 140),ge P "stem_of" 370 (.ref 147),ge P "number_of" 377 (.ref 154),ge P "MOST_TOLD" 381 (.int 8 380),ge P "MOST_ROWS" 383 (.int 60 382),ge P "is_row" 389 (.ref 159),ge P "in_one_order" 396 (.ref 166),ge P "has_alike_rows" 402 (.ref 171),ge P "fits" 408 (.ref 176),ge P "fitted" 415 (.ref 183),ge P "_law_mix" 426 (.ref 190),ge P "_law_cell" 435 (.ref 197),ge P "_law_drawn" 446 (.ref 204),ge P "_law_name" 452 (.ref 209),ge P "_law_names" 463 (.ref 216),ge P "_law_told" 475 (.ref 223),ge P "_law_book" 491 (.ref 230),ge P "_law_made" 500 (.ref 237),ge P "_law_is_word" 506 (.ref 242),ge P "_law_fit" 512 (.ref 247),ge P "_law_kinds" 519 (.ref 254),ge P "_law_only" 525 (.ref 259),ge P "_law_bad_word" 533 (.ref 266),ge P "_law_filled" 544 (.ref 273),ge P "_law_spoilt" 550 (.ref 278),ge P "_law_right" 562 (.ref 285),ge P "law" 571 (.ref 292)] 51,#[]⟩
abbrev xk(a:gs)(n:Str)(b r:gs)(t u:Tok):Obj:={cls:=.type "type",data:=.cls {name:=n,bases:=[.ref b],mro:=[.ref a,.ref b,.type "ValueError",.type "Exception",.type "BaseException",.type "object"],ns:=a - 1,qualname:=n},slots:=#[a5 (.ref r),b6,a5 (.str n t),a5 (.str n u),a5 (.builtin "ValueError.__new__"),a5 (.bool b7)]}
abbrev xd(P:Uh)(m f:Tok)(l:Int)(n s:Tok)(a:gs)(d:Tok):Obj:={cls:=.type "dict",data:=.dict #[ge P "__module__" m (.str "primer.errors" 187),ge P "__firstlineno__" f (.int l n),ge P "__static_attributes__" s (.ref a),ge P "__doc__" d .none] 2}
abbrev xo(P:Uh):List (gs×Obj):=[(97,xk 97 "Lacking" 24 88 287 295),
 (121,xk 121 "NoDeed" 24 112 319 327),
 (109,xk 109 "NoRow" 24 100 303 311),
 (37,xk 37 "NoText" 24 28 207 215),
 (24,({cls:=.type "type",data:=.cls {name:="PrimerError",bases:=[.type "ValueError"],mro:=[.ref 24,.type "ValueError",.type "Exception",.type "BaseException",.type "object"],ns:=23,qualname:="PrimerError",subclasses:=[.ref 37,.ref 49,.ref 61,.ref 73,.ref 85,.ref 97,.ref 109,.ref 121]},slots:=#[a5 (.ref 15),b6,a5 (.str "PrimerError" 189),a5 (.str "PrimerError" 197),a5 (.builtin "ValueError.__new__"),a5 (.bool b7)]}:Obj)),
 (85,xk 85 "TooMany" 24 76 271 279),
 (49,xk 49 "Unfit" 24 40 223 231),
 (61,xk 61 "Unknown" 24 52 239 247),
 (73,xk 73 "Unlearnt" 24 64 255 263),
 (96,xd P 294 298 14 297 299 95 300),
 (120,xd P 326 330 18 329 331 119 332),
 (108,xd P 310 314 16 313 315 107 316),
 (36,xd P 214 218 4 217 219 35 220),
 (23,({cls:=.type "dict",data:=.dict #[{hash:=Nu P "__module__",key:=.str "__module__" 196,val:=.str "primer.errors" 187},{hash:=Nu P "__firstlineno__",key:=.str "__firstlineno__" 200,val:=.int 2 199},{hash:=Nu P "__static_attributes__",key:=.str "__static_attributes__" 201,val:=.ref 22},{hash:=Nu P "__weakref__",key:=.str "__weakref__" 203,val:=.ref 25},{hash:=Nu P "__doc__",key:=.str "__doc__" 204,val:=.none}] 3}:Obj)),
 (84,xd P 278 282 12 281 283 83 284),
 (48,xd P 230 234 6 233 235 47 236),
 (60,xd P 246 250 8 249 251 59 252),
 (72,xd P 262 266 10 265 267 71 268)]
abbrev gx(P:Uh):Gx:=(gg P,xo P)
abbrev xa:List gs:=[97,121,109,37,24,85,49,61,73,96,120,108,36,23,84,48,60,72]
abbrev vw:vu:=view PySem.Challenge.pw_primer_k03_books_that_fit [15,16,17,18,19,23,24,25,26,27,29,30,31,32,33,34,35,36,37,38,39,40,41,42,43,44,45]
abbrev hk:Hook:=kHook (λP=>Gv top (gx P) ms) (adr ms xa) λP=>sm top (gx P) ms xa rfl
abbrev lo:List Str:=["PrimerError","NoText","Unfit","Unknown","Unlearnt","TooMany","Lacking","NoRow","NoDeed","LETTERS","LONGEST_STEM","FIRST_SENSE","LAST_SENSE","MOST_TOLD","MOST_ROWS"]
noncomputable abbrev xt(s:fx):Bool:=xlAt vw [] s&&recOk (RowW.records PySem.Challenge.rw_primer_k03_books_that_fit.row.toRowW) s
noncomputable abbrev oe(w:DD):Option fx:=openEnds treeTable PySem.Challenge.rw_primer_k03_books_that_fit.row.prog w 4000
noncomputable abbrev os(s:fx):=openSeen vw lo (importedModules PySem.Challenge.rw_primer_k03_books_that_fit.row.prog.main.body) xt b7 s
def G4(w:DD):(oe w).map (λs=>(os s).1)=a5 (openGood vw lo).1:=by kernel_rfl
def HQ(w:DD):(oe w).map (λs=>(os s).2)=a5 (openGood vw lo).2:=by kernel_rfl
def KO(w:DD):(oe w).map hk.obs=a5 (hk.val w):=by kernel_rfl
def hl:LeftO PySem.Challenge.rw_primer_k03_books_that_fit.row.prog vw lo xt hk.obs hk.val 4000:=λw=>by
 have⟨s,e,a⟩:=et.mp (G4 w);have b:=HQ w;have c:=KO w;rw[e]at b c;change(oe w).map _=_;rw[e];show Yy a5 (QN (QN a (wk b)) (wk c))
def hs:PySem.Challenge.rw_primer_k03_books_that_fit.wellSaid=b7:=by kernel_rfl
def ho(P:Uh):Jz ck top (Gv top (gx P) ms) ms=b7:=by kernel_rfl
def TF(P:Uh):(gX ck (Gv top (gx P) ms)&&gY ck (Gv top (gx P) ms))=b7:=by kernel_rfl
end K
open PySem PySem.W PyProof.Rows K
theorem PySem.Challenge.cw_primer_k03_books_that_fit_holds : PySem.Challenge.rw_primer_k03_books_that_fit.Holds := by
 w_on
 refine holds_law hs λz => ?_;refine holds_open hl hk.of hk.keeps (λs e => xl_of s (Ij.mp e).1) XL.keeps rfl rfl rfl (λs e => recFacts_of (Ij.mp e).2) rfl z (by kernel_rfl) ⟨rfl, rfl, rfl, rfl, rfl, by decide +kernel⟩ ?hw ?a
 (case hw => w_witness2)
 exact TM.walk2 (l := PySem.Challenge.rw_primer_k03_books_that_fit) (Pg := prog) (ck := ck) (dp := 6) (x := "_law_script") (m := ml) rfl rfl ⟨rfl, by decide, by decide, rfl⟩ rfl (by decide +kernel) (by decide +kernel) (by decide +kernel) rfl (List.mem_iff_getElem?.mpr ⟨26, rfl⟩) rfl rfl ho TF (λ_ => rfl) K.pure
