import PyProof.Rows.All
import Wide.All
import OpenK.AllK
import Wide.FinOn
import Lean
import PyProof.EqAt
import PyProof.EqKinds
import PyProof.TupleCall
import PyProof.StrLawsChain
import PyProof.StrLawsFirst
import PyProof.Rows.StrNews2
import OpenK.AllK
import PySem.SetOps
import OpenK.AllK
import PyProof.DictItems
import PyProof.StationsW
import PyProof.ExcBaseAll.ValueError
import PyProof.RulesAs
import PyProof.NsDelKeeps
import OpenK.AllK
import PyProof.ExcArgsOwn
import PyProof.ExcAttrAll.ValueError
import PyProof.IsiBase
import PyProof.ReprBulk
import PySem.Challenge.RW_primer_k31_under_and_over
set_option Elab.async false
set_option linter.all false
set_option bootstrap.genMatcherCode false
set_option maxRecDepth 100000
set_option maxHeartbeats 4000000
set_option genInjectivity false
set_option genSizeOf false
set_option autoImplicit true
set_option relaxedAutoImplicit true
open Option renaming some->a5,none->b6,map_eq_some_iff->i1,bind_eq_some_iff->vr,isNone_iff_eq_none->PB,isSome_iff_exists->Qf,map_eq_none_iff->QD,isSome_map->R8,getD_none->So,map_some->S3
open PySem renaming wpAny_bind->bD,wpAny_pure->c4,sizeLine->dV,Value->et,wpAny->eH,Shared->gj,model->gs,Addr->hH,starEach->ke,mainGlobals->l0,wpAny_mono->nc,wpAny_setState_of->nC,Expr->rr,wpAny_Call_Name_kw->ti,wpAny_holding->vl,bootBuiltins->w6,Program->D3,eval->GV,rawInt->G2,backTo->HR,scanBound->HU,World->H_,isSubtype_type->Im,Heap->Ju,wpAny_newObj_type->J_,codeAny_builtin->Kb,cLine->KJ,compareOp->Le,wpAny_truthy_bool->Lg,keywordEach->Lh,foldedSetIterable->Lm,Scope->Ln,Stmt->Lo,holding->LG,sysModules->Ma,call->Mj,Builtin->MF,wpAny_passesOwn->MJ,wpAny_execs_nil->ML,isSubtype->MS,builtinLookup_eq_fast->MV,Around->M0,Keyword->M',binaryOp->Nm,SetTable->Nn,NameKind->Np,wpAny_call_entry->Nw,swapsWith->Ny,wpAny_rule->NZ,tupleKind_room_in1->N0,assignEach->N2,wpAny_getItem_str_slice->N3,wpAny_setField->OD,wpAny_loadPart_at->OM,codeAny->OU,backToKw->OV,wpAny_isInstance->O5,wpAny_askSetting->O9,typeLookup->Pa,call_meets->Pb,swapsWithSole->Pp,behindInMarks->Pq,sliceBounds->Pw,wpAny_updateSeq->PM,typeLookup_type->PQ,call_isinstance->P7,wpAny_setEntries_of->Qb,codeAny_mono->Qm,assign->QB,FuncData->QC,notedBy->QN,plainId_quiet->QR,attributeBase->QU,setItem->Rp,relabel->Rr,callerA->Rt,wpAny_specialOf->RI,post_val_or_str->RK,letOwnedTupleGo->RO,pyNext->R',codeAny_call_builtin->Sa,tupleKind->Si,swappedStores->SG,Params->S7,wpAny_typeOf->Te,wpAny_storeSet_of->Tf,wpAny_setEpoch_of->Th,wpAny_pyIter_list->Ti,wpAny_Assign_Name->Tj,valueAt->Tn,sub_set_self->Tq,setNext->Tr,setField->Ts,release->Tt,getItem->Tx,fits_of_scanBound->TF,concat_meets->TH,compEnvC->TJ,wpAny_execs_cons->UH,typeOf->UJ,seqIndex?->UO,pickOrder->UY,noFill_tuple_add->UZ,checkBuiltinCall->U0,PassesOwn->U2,unsupported->U',subscripted->Vd,standAt->V2,wpAny_runValue->Wa,typeIs_str->Wb,relayAll->Wc,pyIter->Wd,entryFor_alias->We,atKey->Wf,GenState->Wj,codeAny_handlers_suite_as->Wt,wpAny_standAt->WR,wpAny_newList->WV,wpAny_comprehension_free->WW,seq_tuple_add->WX,wpAny_Call_method0_late->W7,bindL->W8,bindC->W9,wpAny_Call_method_late->Xd,setNextDrawn->Xe,collect->Xf,call_meetsIn->Xg,BindsTo->Xn,wpAny_isTrue_Compare1->Xx,codeAny_handlers_test->Xy,wpAny_of_eq->XO,step->XQ,seqIndex_of->XR,raiseNew->XS,entryFor->XT,codeAny_extend_loopS->XU,bindArgs->XW,Operator->XX,wpAny_handleBy_cons->X6,wpAny_Tuple_spliced->X7,wpAny_pyIter_tuple->Yb,wpAny_load->Yc,wpAny_call->Yd,wpAny_Name->Ye,setsByText->Yf,builtinsNs->Yg,WalksS->Yh,JoinOk->Yj,wpAny_pyIter_slot->Yt,wpAny_assign_Name->Yu,spliced->Yv,slot_list_getitem->Yw,newList->Yx,ItemsOf->YD,wpAny_setScan_of->YJ,wpAny_eqBool_str->YK,wpAny_eqBool_int->YL,wpAny_Try_except->YM,updateSeq->YN,storeName->YO,setDiscardHashed->YP,seqItems?->YQ,rule->YR,cellsFrom->YS,codeAny_of_tree->Y0,wpAny_seqItems->Y6,wpAny_Expr_any->Y7,truthy->Y8,recursionLimit->Y9,newExc->Y_,firstArgMember->Y',augStore->Za,argsOk->Zb,again->Zc
open Bool renaming true->b8,and_eq_true->cb,false->cc,false_ne_true->mu,not_eq_true'->va,false_eq_true->Ji,or_eq_true->KQ,and_eq_true_iff->KS,eq_iff_iff->L5,and_false->Rn,or_false->Vg,not_true->VD,noConfusion->XN,false_and->Ya,and_true->Yr,and_self->Ys
open PySem.Heap renaming get?_push_of_some->df,lt_size->hV,get?_push_size->hY,SameBut->t4,get?_update_self->DD,get?_update_other->LI,get?_update_ne->Nk
open Decidable renaming decide->d6
open List renaming length_map->ei,getElem?_eq_some_iff->ez,getElem?_set_self->fx,size_toArray->hQ,mem_cons->hU,map_cons->hW,getElem?_set_ne->i0,range->ko,mem_singleton->kr,length_append->l',replicate->mh,all_eq_true->mx,mem_map->my,mem_cons_of_mem->mA,getElem?_map->mN,mem_append->qd,map_append->qs,mem_append_right->ro,length_cons->rz,mem_cons_self->r6,nodup_cons->td,getElem?_append_right->tj,nil_append->u6,lookup_cons->u7,getElem?_eq_getElem->ve,map_map->vu,getElem?_append_left->x3,append_nil->y1,length_range->G9,mem_of_getElem?->HC,length_take->HJ,isEmpty_iff->HM,mem_range->HW,filterMap_cons->H8,length_singleton->IS,not_mem_nil->Jf,nodup_append->JJ,getElem?_replicate->JO,getElem_mem->Ki,mem_filterMap->Kr,getElem?_drop->Ku,length->Lz,take_of_length_le->LL,map_nil->LS,find?_cons->L4,length_filter_le->L_,map_congr_left->Nl,mem_filter->NS,eraseIdx_eq_take_drop_succ->Od,length_replicate->Of,getD->Ou,mem_append_left->O0,of_mem_zip->O3,dropLast_concat_getLast->O4,mem_map_of_mem->Pk,getElem_of_mem->Pn,zip_cons_cons->PD,perm_ext_iff_of_nodup->PK,pairwise_cons->PL,reverse_cons->Qt,getElem?_cons_succ->QE,eraseIdx_cons_succ->QF,any_eq_true->QK,length_nil->Q1,foldl_cons->Q2,getElem?_eq_none->Rb,nodup_nil->Rm,length_reverse->RY,filter_eq_self->RZ,any_cons->R3,findIdx?_eq_some_iff_getElem->Sb,eraseIdxIfInBounds_toArray->SF,filter_cons->S5,ext_getElem->S6,forIn_cons->Tb,filter_nil->Tc,drop_left'->Td,getD_eq_getElem?_getD->UE,forIn_nil->UG,findIdx?_eq_none_iff->U7,drop_eq_getElem_cons->U_,getElem?_take_of_lt->Ve,findIdx?->Vf,length_eq_zero_iff->VY,dropLast_eq_take->Wo,mem_iff_getElem->WG,map_id->WK,length_eraseIdx->WL,map_singleton->Xa,filter_append->Xb,take_sublist->Xt,flatten_cons->Xu,filter_congr->Xv,ext_getElem?->Xw,mem_toArray->XC,mem_flatten->XD,map_fst_zip->XE,length_drop->XF,getElem_map->XG,getElem_inj->XH,drop_length->XI,cons_append->XJ,length_zip->X4,length_set->X5,set_comm->Yn,map_take->Yo,map_drop->Yp,all_cons->Yq,set_set->YG,all_map->YH,range'->YX
open Array renaming length_toList->i2,getElem?_toList->uk,getElem?_eq_getElem->Nf,size_map->Py,getD->R4,forIn_toList->R5,size_append->Sg,toList->V1,toList_extract->Wq,toArray_toList->Wr,append_assoc->W6,toList_push->Xc
open Nat renaming le_refl->i3,ne_of_lt->kj,lt_of_lt_of_le->lg,zero_le->oT,lt_irrefl->C0,le_trans->Jq,ne_of_gt->KX,le_succ->M7,lt_succ_self->Nh,le_of_lt->Ni,lt_succ_of_lt->Qv,zero_add->Q0,lt_trans->SE,mod_lt->U3,add_sub_cancel_left->V',succ_pos->Wm,le_of_eq->Wn,lt_of_le_of_lt->Xs,not_lt_of_lt->X3,add_zero->YW
open PySem.PyData renaming keyHash->js
open PySem.Value renaming ref->ri,none->u3,str->wh,type->x2,bool->MR,builtin->Qn,isStrOf->RT,isStrOf_shape->Wu,int->Xi,isInt->YA
open Sum renaming inr->sx,inl->Sq
open PySem.Obj renaming mapSeq->tA,putSet->NT,data_mapFields->P_,isFreed_of_fields->WB,cls_mapFields->Xz,mapFields->YB
open Ne renaming symm->uv
open PySem.Builtin.List renaming listExtendWith->u5,listTooLong->Ko,listSameRef->MG,listLengthHint->R0,listItems->SH,listUpdate->Y2
open Int renaming eq_ofNat_of_zero_le->wk,emod_nonneg->Po,emod_lt_of_pos->P',toNat_natCast->XM,le_trans->YZ
open PySem.Str renaming empty->zy,ofString->Wh,length->Zg
open PySem.SetTable.layClean renaming free->A0
open Option.some renaming inj->GI,injEq->Rk
open PyProof.Rows renaming seqObj->Hq,callWith_builtin1->KI,size_push'->Lu,callWith_type1->N8,StrsAre->OW,AllBare->QQ,envOfC->RF,subscriptTail->SR,listUpdate_at->S0,subscriptTail_builtinR->Xo,listItems_at->Xp,IntsAre->Xr,seqEpoch_at->X2,sortedHeap->Yl,Subscript_->Ym,slot_str_getitem->YV,get?_update_seq->Y3,entry_list_sort->Y4,call_isinstance_yes->Y5,sortedHeap_old->Zj,slot_list_sort->Zk,isTrue_and_nil->Zl,args_list_sort->Zm,IsTup->Zn
open PySem.Heap.SameBut renaming refl->IV,update->KG
open PySem.Builtin.Frozenset renaming isAnySet->Jn,difference->ND,sizeOf->Oe,differenceUpdate->Qp,unchanged->Ra,copyOf->Rw,baseOf->Rx,addrOf->Ry,slot1->RX,updateFrom->XZ,slot0->X0,newClass->X1
open PySem.Calls renaming callWith_builtin->JV,evalArgs_plain->KN,spliced_cons->Lx,spliced_nil->NW,Name_function_global->TR,call_function_entry->UC
open PySem.SetTable renaming sizeAbove->Ka,below->K0,grown->L9,bits->M8,eraseAt->NX,turns->O2,layClean->Px,fits->Pz,laid->Rf,runEnd->Sk,relaid->Sm,fill->S_,orStandIn->V9,fresh->W',leap->Xj,drop->Xk
open PySem.NameKind renaming free->Lw
open False renaming elim->LF
open PyProof.Rows.F renaming plain_set_update_loop->LX,entry_set_update_loop->Qu
open List.Perm renaming refl->L7,swap->WZ,cons->W2
open PySem.Around renaming under_plainId->MH
open PySem.W renaming kas_sort->MM,Looks->W_,looks_findIn->Xh,kas_ask->Yy,subIn->Zd,nsIn->Ze,findIn->Zf
open PySem.AutoSeq1 renaming wpAny_loadPart'->Na,sub_tuple_tuple->Ta,sub_tuple_list->Ub,sub_list_tuple->Ui,sub_list_list->UD,idx_int->WE
open ForInStep renaming yield->Nc
open List.cons renaming injEq->Oq
open LT renaming lt->OX
open PySem.Shared renaming TypeIs->Qe
open PySem.SeqAt renaming EqAt->QM,ne_of_list_tuple->VE,RcAt->WY,RcNeAt->Yi
open ToString renaming toString->Rc
open PySem.Txt renaming join->Ru
open PySem.F renaming typeOf_object_class->Rv,slot_gs_get->Wk,excBase_ValueError->Xl,args_list_extend_2->Xm,entry_list_extend->XB,slot_list_extend->XY,attr_ValueError->X9,entry_list_pop->Yk,slot_list_pop->YF
open PySem.Code renaming quiet_builtin->R7
open Sum.inr renaming inj->Sh
open List.Pairwise renaming filter->S8,nil->YY
open PySem.pickOrder renaming go->Tu
open PySem.SetTable.below renaming go->TK
open Prod.mk renaming injEq->Uj
open True renaming intro->Uu
open PySem.SeqAt.EqAt renaming bool_bool->Uv
open PySem.W.Looks renaming ld->Wg
open PySem.Data renaming fields->WD,cell->Zi
open PyProof.Rows.IsTup renaming new->Xq
open PySem.Flow renaming next->XA
open PySem.ItemsOf renaming nil->X8
open PyProof.Rows.LSm renaming range_all->X_,kept_iter->X'
open PySem.W.WShape renaming has->Yz
open PySem.Moved renaming trans->YC
open PySem.Heap.IsSliceOf renaming new->YE
open LE renaming le->YI
open PySem.Walks renaming list->YT
open PySem.Builtin.Range renaming rangeSize->YU
open PySem.W.WData renaming int->Y1
open PySem.Heap.DictOf renaming new->Zh
open ForIn renaming forIn->Zo
abbrev Zp:=@decide_eq_true_eq
abbrev Zq:=@if_pos
abbrev Zr:=@if_neg
abbrev Zs:=@decide_eq_false
abbrev Zt:=@decide_eq_true
abbrev Zu:=@of_decide_eq_true
abbrev Zv:=@congrArg
abbrev Zw:=@beq_eq_false_iff_ne
local macro_rules|`(⋯)=>`(by lia)
local macro_rules|`(∅)=>`(by(first|exact trivial|exact⟨⟨_,rfl,rfl⟩,trivial⟩|exact⟨⟨_,rfl,rfl⟩,⟨_,rfl,rfl⟩,trivial⟩))
namespace L2
open PySem PySem.Spec PyProof.Rows
abbrev Key:=Sum Int Str
noncomputable def jy:Key->et->Bool
 |.inl k,v=>YA k v
 |.inr x,v=>RT x v
noncomputable def FD(w:H_):Key->Int
 |.inl k=>hashInt k
 |.inr x=>hashStr w x
theorem bh:∀{k:Key}{v:et},jy k v=b8->(∃i t,k=Sq i/\v=Xi i t)\/(∃x t,k=sx x/\v=wh x t)
 |.inl i,v,h=>by
  obtain⟨t,e⟩:=Value.isInt_shape (k:=i) (v:=v) h;exact .inl ⟨i,t,rfl,e⟩
 |.inr x,v,h=>by
  obtain⟨t,e⟩:=Wu (x:=x) (v:=v) h;exact .inr ⟨x,t,rfl,e⟩
theorem s_(i:Int)(t:Tok):jy (.inl i) (.int i t)=b8:=by simp[jy,YA]
theorem tf(x:Str)(t:Tok):jy (.inr x) (.str x t)=b8:=by simp[jy,RT]
theorem A_(a b:Int):d6 ((Sq a:Key)=Sq b)=(a==b):=by
 by_cases e:a=b
 ·subst e;simp
 ·have h:¬(Sq a:Key)=Sq b:=λq=>e (Sum.inl.inj q);rw[Zs h];exact(Zw.mpr e).symm
theorem Ba(a b:Str):d6 ((sx a:Key)=sx b)=d6 (a=b):=by
 by_cases e:a=b
 ·subst e;simp
 ·have h:¬(sx a:Key)=sx b:=λq=>e (Sh q);rw[Zs h,Zs e]
theorem Bb(a:Int)(b:Str):d6 ((Sq a:Key)=sx b)=cc:=Zs (λq=>nomatch q)
theorem Bc(a:Str)(b:Int):d6 ((sx a:Key)=Sq b)=cc:=Zs (λq=>nomatch q)
noncomputable def aY(prog:D3)(w:H_):PySem.KeyKind prog w Key where
 is:=jy
 hash:=FD w
 inj:=λv a b g f=>by
  rcases bh g with⟨i,t,rfl,rfl⟩|⟨x,t,rfl,rfl⟩
  ·rcases bh f with⟨j,u,rfl,e⟩|⟨y,u,rfl,e⟩
   ·injection e with c _;rw[c]
   ·exact nomatch e
  ·rcases bh f with⟨j,u,rfl,e⟩|⟨y,u,rfl,e⟩
   ·exact nomatch e
   ·injection e with c _;rw[c]
 byValue:=λk v h=>by
  rcases bh h with⟨i,t,rfl,rfl⟩|⟨x,t,rfl,rfl⟩<;>rfl
 pyHash:=λd h=>by
  rcases bh d with⟨i,t,rfl,rfl⟩|⟨x,t,rfl,rfl⟩
  ·exact wpAny_pyHash_int h
  ·exact wpAny_pyHash_str h
 eqBool:=λl d h=>by
  rcases bh l with⟨i,t,rfl,rfl⟩|⟨x,t,rfl,rfl⟩
  ·rcases bh d with⟨j,u,rfl,rfl⟩|⟨y,u,rfl,rfl⟩
   ·rw[A_]at h;exact YL h
   ·rw[Bb]at h;exact SeqAt.EqAt.int_str i t y u _ _ _ _ h
  ·rcases bh d with⟨j,u,rfl,rfl⟩|⟨y,u,rfl,rfl⟩
   ·rw[Bc]at h;exact SeqAt.EqAt.str_int x t j u _ _ _ _ h
   ·rw[Ba]at h;exact YK h
 «strs»:=λk x t v h=>by
  rcases bh h with⟨i,u,rfl,e⟩|⟨y,u,rfl,e⟩
  ·exact nomatch e
  ·injection e with c _
   subst c;cases v<;>rfl
theorem nY(prog:D3)(w:H_)(i:Int)(t:Tok):(aY prog w).is (.inl i) (.int i t)=b8:=s_ i t
theorem nZ(prog:D3)(w:H_)(x:Str)(t:Tok):(aY prog w).is (.inr x) (.str x t)=b8:=tf x t
inductive V where
 |Gv|bl (b:Bool)|int (i:Int)|str (x:Str)|N4 (b:Array UInt8)|N5 (b:UInt64)|ref (a:hH)|ty (n:String)
 deriving DecidableEq
def RelV:V->et->Prop
 |.Gv,u=>u=u3
 |.bl b,u=>u=MR b
 |.int i,u=>∃t,u=Xi i t
 |.str x,u=>∃t,u=wh x t
 |.N4 b,u=>∃t,u=Value.bytes b t
 |.N5 b,u=>∃t,u=Value.float b t
 |.ref a,u=>u=ri a
 |.ty n,u=>u=x2 n
abbrev Vals:List V->List et->Prop:=Paired RelV
theorem Vals.length(r:Vals xs us):xs.length=us.length:=Paired.length r
theorem Vals.get:∀{xs:List V}{us:List et}{i:Nat}{x:V},Vals xs us->xs[i]?=a5 x->∃u,us[i]?=a5 u/\RelV x u
 |_,_,_,_,.nil,e=>by simp at e
 |_,_,0,_,.cons r _,e=>by simp at e;subst e;exact⟨_,rfl,r⟩
 |_,_,i+1,x,.cons _ t,e=>by
  obtain⟨u,a,b⟩:=Vals.get (i:=i) (x:=x) t (by simpa using e);exact⟨u,by simpa using a,b⟩
theorem Vals.set(r:RelV x u):∀{xs:List V}{us:List et} (i:Nat),Vals xs us->Vals (xs.set i x) (us.set i u)
 |_,_,_,.nil=>.nil
 |_,_,0,.cons _ t=>.cons r t
 |_,_,i+1,.cons q t=>.cons q (Vals.set r i t)
theorem Vals.append:∀{xs ys:List V}{us ws:List et},Vals xs us->Vals ys ws->Vals (xs++ys) (us++ws)
 |_,_,_,_,.nil,s=>s
 |_,_,_,_,.cons r t,s=>.cons r (Vals.append t s)
theorem Vals.take:∀{xs:List V}{us:List et} (n:Nat),Vals xs us->Vals (xs.take n) (us.take n)
 |_,_,0,_=>.nil
 |_,_,_+1,.nil=>.nil
 |_,_,n+1,.cons r t=>.cons r (Vals.take n t)
theorem Vals.drop:∀{xs:List V}{us:List et} (n:Nat),Vals xs us->Vals (xs.drop n) (us.drop n)
 |_,_,0,r=>r
 |_,_,_+1,.nil=>.nil
 |_,_,n+1,.cons _ t=>Vals.drop n t
def jd:Option V->Option et->Prop
 |some v,a5 u=>RelV v u
 |none,b6=>True
 |_,_=>False
def KV{κ:Type}:List (κ×V)->List (κ×et)->Prop:=Paired λ(p:κ×V) (q:κ×et)=>p.1=q.1/\RelV p.2 q.2
noncomputable def kV:Key->V
 |.inl i=>.int i
 |.inr x=>.str x
inductive HO where
 |lst (xs:List V)
 |tup (xs:List V)
 |dK (kvs:List (Key×V))|dT (kvs:List (List Key×V))
 |set (S:Int->Bool) (n:Nat)
 |ins (C dx:hH) (fs:List (Str×V))
 |own (x:hH)
 |xd (fs:List (Str×V))
 |met (f x:hH)
 |N6 (lo hi:Int)
 |Ia (o:Obj) (u:HO)
 |KH (ps:Array et)
 |ext (φ:Ju->Prop)
abbrev Hp:=hH->Option HO
noncomputable def upd(H:Hp)(a:hH)(o:HO):Hp:=λb=>if b=a then a5 o else H b
theorem aw:upd H a o a=a5 o:=by unfold upd;rw[Zq rfl]
theorem au(h:b≠a):upd H a o b=H b:=by unfold upd;rw[Zr h]
theorem Dv{H:Hp}(h:H a=a5 o)(h':H b=a5 u)(d:o≠u):a≠b:=by
 intro e;subst e;rw[h]at h';exact d (GI h')
theorem a9{H:Hp}(h:H a=a5 o)(h':H b=b6):a≠b:=by
 intro e;subst e;rw[h]at h';cases h'
section
variable(P:D3)(w:H_)
def bN(H:Hp)(h:Ju)(a:hH):HO->Prop
 |.lst xs=>xs.length<=dV/\∃(c:List et) (n:Nat),Vals xs c/\h.get? a=a5 {cls:=.type "list",data:=.seq c.toArray n}
 |.tup xs=>xs.length<=dV/\∃c:List et,Vals xs c/\Zn h a c.toArray
 |.dK kvs=>kvs.length<=dV/\(a==Ma)=cc/\∃vs,KV kvs vs/\h.DictOf (aY P w) a vs
 |.dT kvs=>kvs.length<=dV/\(a==Ma)=cc/\∃xs:List (List Key×hH×et),
   Paired (λ(p:List Key×V) (q:List Key×hH×et)=>p.1=q.1/\H q.2.1=a5 (.tup (p.1.map kV))/\RelV p.2 q.2.2) kvs xs /\
   ∃o es ep,h.get? a=a5 o/\o.ExactDict/\o.data=.dict es ep/\es.toList=xs.map (entryOfKey (Si (aY P w)))/\(xs.map (·.1)).Nodup
 |.set S n=>h.SetOf (intKind P w) a S n
 |.ins C e d=>H e=a5 (.own a)/\d.length<=1000/\e≠a/\h.get? a=a5 (PySem.W.instObj C e) /\
   ∃b,h.Ns1 e b/\(∀f,jd (d.lookup f) (b f))/\PySem.Within b (d.map (·.1))
 |.own _=>∃o,h.get? a=a5 o
 |.xd d=>∃b,h.Ns1 a b/\∀f,jd (d.lookup f) (b f)
 |.N6 lo j=>∃t u v,h.get? a=a5 {cls:=.type "range",data:=.fields #[.int lo t,.int j u,.int 1 v]}
 |.Ia o u=>h.get? a=a5 o/\bN H h a u
 |.KH k=>h.get? a=a5 {cls:=.none,data:=.fields k}
 |.met f x=>h.get? a=a5 (PySem.W.methodObj (.ref f) (.ref x))
 |.ext φ=>φ h/\(∃o,h.get? a=a5 o)/\∀g i:Ju,φ g->(∀o,g.get? a=a5 o->i.get? a=a5 o)->φ i
def Ho(H:Hp)(h:Ju):Prop:=∀a o,H a=a5 o->bN P w H h a o
end
section
theorem bN.lt(x:bN P w H h a o):a<h.objs.size:=by
 cases o with
 |lst xs=>obtain⟨_,_,_,_,e⟩:=x;exact hV e
 |tup xs=>obtain⟨_,_,_,p⟩:=x;exact p.lt
 |set S n=>obtain⟨o,_,_,_,e,_⟩:=x;exact hV e
 |ins C c b=>obtain⟨_,_,_,e,_⟩:=x;exact hV e
 |own y=>obtain⟨_,e⟩:=x;exact hV e
 |xd b=>obtain⟨_,⟨_,_,_,e,_⟩,_⟩:=x;exact hV e
 |N6 lo d=>obtain⟨_,_,_,e⟩:=x;exact hV e
 |Ia g u=>obtain⟨e,_⟩:=x;exact hV e
 |KH i=>exact hV (show h.get? a=a5 _ from x)
 |met f y=>exact hV (show h.get? a=a5 _ from x)
 |ext φ=>obtain⟨_,⟨_,e⟩,_⟩:=x;exact hV e
 |_=>obtain⟨_,_,_,_,o,_,_,e,_⟩:=x;exact hV e
theorem Paired.Bd:∀{c:List α}{d:List β},Paired F c d->(∀a b,F a b->G a b)->Paired G c d
 |_,_,.nil,_=>.nil
 |_,_,.cons r t,f=>.cons (f _ _ r) (Paired.Bd t f)
theorem bN.gh(x:bN P w H h a o)(k:∀b u,(b=a\/H b=a5 (.own a))->h.get? b=a5 u->h'.get? b=a5 u)
  (ho:∀b,H b=a5 (.own a)->H' b=a5 (.own a)) (s:∀b xs,H b=a5 (.tup xs)->H' b=a5 (.tup xs)):bN P w H' h' a o:=by
 induction o with
 |lst xs=>obtain⟨z,i,n,r,e⟩:=x;exact⟨z,i,n,r,k _ _ (.inl rfl) e⟩
 |tup xs=>obtain⟨z,i,r,g,e,c⟩:=x;exact⟨z,i,r,g,k _ _ (.inl rfl) e,c⟩
 |dK kvs=>obtain⟨z,y,vs,r,g,es,ep,e,c⟩:=x;exact⟨z,y,vs,r,g,es,ep,k _ _ (.inl rfl) e,c⟩
 |dT kvs =>
  obtain⟨z,y,xs,r,g,es,ep,e,c⟩:=x;exact⟨z,y,xs,Paired.Bd r λp q z=>⟨z.1,s _ _ z.2.1,z.2.2⟩,g,es,ep,k _ _ (.inl rfl) e,c⟩
 |set S n=>obtain⟨g,es,ep,t,e,c⟩:=x;exact⟨g,es,ep,t,k _ _ (.inl rfl) e,c⟩
 |ins C G A =>
  obtain⟨d,z,ne,e,j,⟨l,es,ep,B,c⟩,r⟩:=x;exact⟨ho _ d,z,ne,k _ _ (.inl rfl) e,j,⟨l,es,ep,k _ _ (.inr d) B,c⟩,r⟩
 |own y=>obtain⟨g,e⟩:=x;exact⟨g,k _ _ (.inl rfl) e⟩
 |xd A=>obtain⟨j,⟨l,es,ep,e,c⟩,r⟩:=x;exact⟨j,⟨l,es,ep,k _ _ (.inl rfl) e,c⟩,r⟩
 |N6 lo I=>obtain⟨t,u,v,e⟩:=x;exact⟨t,u,v,k _ _ (.inl rfl) e⟩
 |Ia g u D=>obtain⟨e,q⟩:=x;exact⟨k _ _ (.inl rfl) e,D q⟩
 |KH m =>
  have e:h.get? a=a5 {cls:=.none,data:=.fields m}:=x;show h'.get? a=a5 {cls:=.none,data:=.fields m};exact k a _ (.inl rfl) e
 |met f y =>
  have e:h.get? a=a5 (PySem.W.methodObj (.ref f) (.ref y)):=x;show h'.get? a=a5 (PySem.W.methodObj (.ref f) (.ref y));exact k a _ (.inl rfl) e
 |ext φ=>obtain⟨p,⟨o,e⟩,st⟩:=x;exact⟨st _ _ p λo q=>k _ _ (.inl rfl) q,⟨o,k _ _ (.inl rfl) e⟩,st⟩
theorem Ho.lt(x:Ho P w H h)(e:H a=a5 o):a<h.objs.size:=(x a o e).lt
theorem Ho.fresh(x:Ho P w H h)(e:h.objs.size<=a):H a=b6:=by
 cases q:H a with
 |none=>rfl
 |some u=>exact absurd (lg (x.lt q) e) (C0 _)
theorem Ho.kept(x:Ho P w H h)(k:∀b u,h.get? b=a5 u->h'.get? b=a5 u):Ho P w H h':=λa o e =>
 (x a o e).gh (λb u _ q=>k b u q) (λ_ q=>q) λ_ _ q=>q
theorem Ho.laid(x:Ho P w H h)(k:∀b u,h.get? b=a5 u->h'.get? b=a5 u)(g:h.objs.size<=a)(new:bN P w (upd H a o) h' a o):Ho P w (upd H a o) h':=λb u e=>by
 have d:=x.fresh g;by_cases f:b=a
 ·subst f;rw[aw]at e;cases e;exact new
 ·rw[au f]at e;exact(x b u e).gh (λc v _ q=>k c v q) (λc q=>by rw[au (a9 q d)];exact q) λc xs q=>by rw[au (a9 q d)];exact q
end
def Rd(H:Hp)(a:hH)(u:HO):Prop:=H a=a5 u\/∃o,H a=a5 (.Ia o u)
theorem Rd.ok(r:Rd H a u)(x:Ho P w H h):bN P w H h a u:=by
 rcases r with r|⟨o,r⟩
 ·exact x a u r
 ·obtain⟨_,q⟩:=x a _ r;exact q
def MI:Option HO->Prop
 |some (.lst _)=>True
 |some (.dK _)=>True
 |some (.dT _)=>True
 |some (.set _ _)=>True
 |some (.ins _ _ _)=>True
 |some (.ext _)=>True
 |_=>False
section
theorem Ho.write(m:Ho P w H h)(a:MI (H x))(g:e=x\/H e=a5 (.own x))(k:∀b u,b≠e->h.get? b=a5 u->h'.get? b=a5 u)(n:∃u,h'.get? e=a5 u)
  (new:bN P w (upd H x i) h' x i):Ho P w (upd H x i) h':=λb u q=>by
 have j:∀c y,H c=a5 (.own y)->c≠x:=λc y r z=>by subst z;rw[r]at a;exact a
 have o:∀c xs,H c=a5 (.tup xs)->c≠x:=λc xs r z=>by subst z;rw[r]at a;exact a
 by_cases d:b=x
 ·subst d;rw[aw]at q;cases q;exact new
 ·rw[au d]at q;by_cases f:b=e
  ·have l:H b=a5 (.own x):=by
    rcases g with z|z
    ·exact absurd (f.trans z) d
    ·rw[f];exact z
   rw[q]at l;cases l;obtain⟨v,p⟩:=n;exact⟨v,by rw[f];exact p⟩
  ·refine(m b u q).gh (λc v hc r=>k c v ?_ r) (λc r=>by rw[au (j c b r)];exact r) λc xs r=>by rw[au (o c xs r)];exact r
   rcases hc with rfl|hc
   ·exact f
   ·rintro rfl;rcases g with z|z
    ·exact j c b hc z
    ·rw[hc]at z;cases z;exact d rfl
end
structure Un(fs ex:List hH)(H H':Hp)(h h':Ju):Prop where
 keep:∀b o,h.get? b=a5 o->H b=b6->b∉fs->b∉ex->h'.get? b=a5 o
 slot:∀b o,h.get? b=a5 o->H b=b6->b∈fs->b∉ex->∃sl,h'.get? b=a5 {o with slots:=sl}
 free:∀b o,h.get? b=a5 o->H b=b6->b∉ex->H' b=b6
 there:∀b o,h.get? b=a5 o->b∉ex->∃o',h'.get? b=a5 o'
 fi:∀b xs,H b=a5 (.tup xs)->H' b=a5 (.tup xs)
 Hm:∀b o u,H b=a5 (.Ia o u)->H' b=a5 (.Ia o u)
 Hr:∀b ps,H b=a5 (.KH ps)->∃more,H' b=a5 (.KH (ps++more))
section
theorem Un.any(u:Un e ex H i h f)(q:h.get? b=a5 a)(n:H b=b6)(c:b∉ex):∃g,f.get? b=a5 {a with slots:=g}:=by
 by_cases d:b∈e
 ·exact u.slot b a q n d c
 ·exact⟨a.slots,u.keep b a q n d c⟩
theorem Un.kept(k:∀b u,h.get? b=a5 u->h'.get? b=a5 u):Un c ex H H h h' :=
 ⟨λb a q _ _ _=>k b a q,λb a q _ _ _=>⟨a.slots,k b a q⟩,λ_ _ _ n _=>n,λb a q _=>⟨a,k b a q⟩,λ_ _ q=>q,λ_ _ _ q=>q,λ_ d q=>⟨#[],by rw[q];simp⟩⟩
theorem Un.refl:Un a ex H H h h:=Un.kept λ_ _ q=>q
theorem Un.laid(k:∀b u,h.get? b=a5 u->h'.get? b=a5 u)(d:h.objs.size<=a)(c:H a=b6):Un e ex H (upd H a o) h h' where
 keep:=λb u q _ _ _=>k b u q
 slot:=λb u q _ _ _=>⟨u.slots,k b u q⟩
 free:=λb u q n _=>by rw[au (kj (lg (hV q) d))];exact n
 there:=λb u q _=>⟨u,k b u q⟩
 fi:=λb xs q=>by rw[au (a9 q c)];exact q
 Hm:=λb u xs q=>by rw[au (a9 q c)];exact q
 Hr:=λb f q=>⟨#[],by rw[au (a9 q c),q];simp⟩
theorem Un.write(a:MI (H x))(i:e=x\/H e=a5 (.own x))(k:∀b u,b≠e->h.get? b=a5 u->h'.get? b=a5 u)(j:∃u,h'.get? e=a5 u):Un l ex H (upd H x o) h h':=by
 have d:∀b,H b=b6->b≠x:=λb n z=>by subst z;rw[n]at a;exact a
 have f:∀b,H b=b6->b≠e:=λb n z=>by
  subst z;rcases i with r|r
  ·exact d b n r
  ·rw[n]at r;cases r
 have c:∀b u,H b=a5 u->¬MI (a5 u)->b≠x:=λb u q nm z=>by subst z;rw[q]at a;exact nm a
 refine⟨λb u q n _ _=>k b u (f b n) q,λb u q n _ _=>⟨u.slots,k b u (f b n) q⟩,λb u q n _=>by rw[au (d b n)];exact n,λb u q _=>?_,
  λb xs q=>by rw[au (c b _ q λz=>z)];exact q,λb u xs q=>by rw[au (c b _ q λz=>z)];exact q,λb m q=>⟨#[],by rw[au (c b _ q λz=>z),q];simp⟩⟩
 by_cases g:b=e
 ·subst g;exact j
 ·exact⟨u,k b u g q⟩
end
noncomputable def N7(h:Ju)(H:Hp):List hH:=(ko h.objs.size).filter λa=>(H a).isSome
noncomputable def mI(h:Ju)(H:Hp):Ju:=PySem.W.hideAll h (N7 h H)
theorem tm(h:Ju)(H:Hp):(mI h H).objs.size=h.objs.size:=PySem.W.hideAll_size _ _
theorem uR(e:h.get? b=a5 o)(n:H b=b6):(mI h H).get? b=a5 o :=
 PySem.W.hideAll_get _ e λa=>by
  have q:(H b).isSome=b8:=(NS.mp a).2;rw[n]at q;simp at q
theorem yw(e:(mI h H).get? b=a5 o):h.get? b=a5 o/\H b=b6:=by
 have a:h.get? b=a5 o:=PySem.W.of_hideAll (N7 h H) e;refine⟨a,?_⟩;cases q:H b with
 |none=>rfl
 |some x =>
  have c:b∈N7 h H:=NS.mpr ⟨HW.mpr (hV a),by simp[q]⟩;have z:(mI h H).get? b=b6:=PySem.W.hideAll_none (N7 h H) c;rw[z]at e;cases e
structure Mod(K:PySem.W.Frag)(mg:Str->Option et)(base:Ju):Prop where
 Li:K.In base
 glob:base.Ns l0 mg
 blt:∃mb,base.Ns Yg mb/\∀x:Str,x≠"__name__"->mb x=w6 x
 nolimit:base.NoLimit
structure Cx where
 prog:D3
 w:H_
 K:PySem.W.Frag
 mg:Str->Option et
 base:Ju
 A:M0
 N:List Str
 s₀:gj
 H₀:Hp
 env:Env
 outer:List Env
 stack:List Env
 ex:List hH
 fn:Str->Bool
 calm:Bool
 pn:List (hH×Obj)
 xe:et->gj->Prop
noncomputable def G3(l:List Env):List hH:=l.filterMap (·.frame)
noncomputable abbrev Cx.fs(X:Cx):List hH:=G3 X.outer
def Ib(a:Ln)(x:Str):Prop:=a.names.lookup x=a5 .local\/a.names.lookup x=a5 .cell\/a.names.lookup x=a5 .free
def Loc(a:Ln)(x:Str):Prop:=a.names.lookup x=a5 .local\/a.names.lookup x=a5 .cell
def Look(env:Env)(h:Ju)(m:Str->Option et)(x:Str)(u:et):Prop :=
 (env.kindOf x=a5 .local/\m x=a5 u)\/((env.kindOf x=a5 .cell\/env.kindOf x=a5 .free)/\∃c,env.cells.lookup x=a5 c/\h.IsCell c (a5 u))
structure Cx.Ok(X:Cx):Prop where
 mod:Mod X.K X.mg X.base
 kind:X.env.scope.kind=.function
 glob:X.env.globals=l0
 blt:X.env.builtins=Yg
 above:X.s₀.heap.objs.size<=X.env.locals
 inj:∀x y c,X.env.cells.lookup x=a5 c->X.env.cells.lookup y=a5 c->x=y
 has:∀x,(X.env.kindOf x=a5 .cell\/X.env.kindOf x=a5 .free)->∃c,X.env.cells.lookup x=a5 c
 Mc:∀x c,X.fn x=b8->X.env.cells.lookup x=a5 c->X.s₀.heap.objs.size<=c
 hd:X.calm=b8->X.A.handled=b6
 frames:X.A.frames=a5 X.stack
 MK:X.stack=X.outer\/(X.stack=X.env::X.outer/\X.env.frame=a5 X.env.locals)
 OY:∀b∈X.ex,b≠X.env.locals/\∀x c,X.env.cells.lookup x=a5 c->c≠b
 bs:∀b o,X.base.get? b=a5 o->X.s₀.heap.get? b=a5 o/\X.H₀ b=b6
 Kl:X.base.objs.size<=X.s₀.heap.objs.size
 Js:∀b o,X.base.get? b=a5 o->b∉X.ex
 JM:∀b∈X.ex,b∉X.fs
 je:X.s₀.heap.FunFrames X.base X.outer
 Lj:∀b∈X.fs,X.H₀ b=b6
structure Inv(X:Cx)(pins:List (hH×Obj))(σ:List (Option V))(H:Hp)(s:gj):Prop where
 ok:X.Ok
 os:s.os=X.s₀.os
 bare:QQ s.gens
 base:Un X.fs X.ex X.H₀ H X.s₀.heap s.heap
 loc:∃m,s.heap.Ns X.env.locals m/\∀(i:Nat) (x:Str) (v:V),X.N[i]?=a5 x->σ[i]?=a5 (a5 v)->Ib X.env.scope x->∃u,RelV v u/\Look X.env s.heap m x u
 cell:∀x c,X.env.cells.lookup x=a5 c->∃v,s.heap.IsCell c v
 free:H X.env.locals=b6
 GP:∀x c,X.env.cells.lookup x=a5 c->H c=b6
 pin:∀p∈X.pn++pins,s.heap.get? p.1=a5 p.2/\H p.1=b6/\p.1≠X.env.locals/\p.1∉X.fs/\∀v,p.2.data≠.cell v
 Gz:Ho X.prog X.w H s.heap
 len:σ.length=X.N.length
section
variable{X:Cx}{pins:List (hH×Obj)}{σ:List (Option V)}{H H':Hp}{s:gj}{h':Ju}
theorem Cx.Ok.FE(a:X.Ok)(e:X.base.get? b=a5 o):b∉X.fs:=λc=>by
 have:=(a.je.mem c).1;rw[e]at this;cases this
theorem Inv.bs(I:Inv X pins σ H s):∀b o,X.base.get? b=a5 o->s.heap.get? b=a5 o/\H b=b6:=λb o e =>
 ⟨I.base.keep b o (I.ok.bs b o e).1 (I.ok.bs b o e).2 (I.ok.FE e) (I.ok.Js b o e),I.base.free b o (I.ok.bs b o e).1 (I.ok.bs b o e).2 (I.ok.Js b o e)⟩
theorem Inv.bk(I:Inv X pins σ H s):∀b o,X.base.get? b=a5 o->s.heap.get? b=a5 o:=λb o e=>(I.bs b o e).1
theorem Inv.mod(I:Inv X pins σ H s):Mod X.K X.mg X.base:=I.ok.mod
theorem Inv.Jh(I:Inv X pins σ H s):X.K.In s.heap:=I.ok.mod.Li.keeps I.bk
theorem Inv.lt(I:Inv X pins σ H s):X.env.locals<s.heap.objs.size:=let ⟨_,a,_⟩:=I.loc;a.lt
theorem Inv.sz(I:Inv X pins σ H s):X.s₀.heap.objs.size<=s.heap.objs.size:=Jq I.ok.above (Ni I.lt)
theorem Inv.Be(I:Inv X pins σ H s)(h:s.heap.objs.size<=a):a∉X.fs:=λb=>by
 obtain⟨_,o,ho,_⟩:=I.ok.je.mem b;exact absurd (lg (hV ho) (Jq I.sz h)) (C0 _)
theorem Inv.JN(I:Inv X pins σ H s):∀x c,X.env.cells.lookup x=a5 c->c≠X.env.locals:=λx c e z=>by
 obtain⟨v,o,ho,a⟩:=I.cell x c e;obtain⟨m,⟨f,es,ep,b,d,_⟩,_⟩:=I.loc;rw[z,b]at ho;cases ho;rw[d]at a;cases a
theorem Inv.je(I:Inv X pins σ H s):s.heap.FunFrames X.base X.outer:=by
 have all:∀(l:List Env),(∀b∈G3 l,b∈X.fs)->X.s₀.heap.FunFrames X.base l->s.heap.FunFrames X.base l:=by
  intro l;induction l with
  |nil=>intro _ _;trivial
  |cons env r f =>
   intro hs hl;obtain⟨hk,⟨L,o,a,g,ho,h⟩,i⟩:=hl;have c:L∈X.fs:=hs L (by unfold G3;rw[H8,a];exact r6);obtain⟨j,e⟩:=I.base.slot L o ho (I.ok.Lj L c) c λz=>I.ok.JM L z c;exact⟨hk,⟨L,_,a,g,e,h⟩,f (λb d=>hs b (by unfold G3;rw[H8,a];exact mA _ d)) i⟩
 exact all X.outer (λ_ d=>d) I.ok.je
theorem Inv.stack(I:Inv X pins σ H s):s.heap.FunFrames X.base X.stack:=by
 rcases I.ok.MK with e|⟨e,a⟩
 ·rw[e];exact I.je
 ·rw[e];obtain⟨m,b,_⟩:=I.loc;refine .cons (by rw[I.ok.kind];decide) a b ?_ I.je;exact Heap.get?_none_of_le (Jq I.ok.Kl I.ok.above)
theorem Inv.jz(I:Inv X pins σ H s):∀b∈G3 X.stack,b∈X.env.locals::X.fs:=λb a=>by
 rcases I.ok.MK with e|⟨e,c⟩
 ·rw[e]at a;exact mA _ a
 ·rw[e]at a;unfold G3 at a;rw[H8,c]at a;exact a
theorem Inv.gF(I:Inv X pins σ H s):∀b∈G3 X.stack,H b=b6:=λb hb=>by
 rcases hU.mp (I.jz b hb) with e|hb
 ·rw[e];exact I.free
 ·obtain⟨_,o,ho,_⟩:=I.ok.je.mem hb;exact I.base.free b o ho (I.ok.Lj b hb) λz=>I.ok.JM b z hb
theorem Inv.step{ch:List hH}(I:Inv X pins σ H s)
  (j:∀b∈ch,(b∈X.ex\/X.s₀.heap.objs.size<=b)/\b≠X.env.locals/\(∀x c,X.env.cells.lookup x=a5 c->c≠b)/\∀p∈X.pn++pins,p.1≠b)
  (keep:∀b o,b≠X.env.locals->b∉X.fs->b∉ch->s.heap.get? b=a5 o->H b=b6->h'.get? b=a5 o)
  (slot:∀b o,b≠X.env.locals->b∈X.fs->b∉ch->s.heap.get? b=a5 o->H b=b6->∃D,h'.get? b=a5 {o with slots:=D}) (free:∀b o,b∉ch->s.heap.get? b=a5 o->H b=b6->H' b=b6)
  (there:∀b o,b∉ch->s.heap.get? b=a5 o->∃t,h'.get? b=a5 t)
  (fi:∀b xs,H b=a5 (.tup xs)->H' b=a5 (.tup xs)) (Hm:∀b o u,H b=a5 (.Ia o u)->H' b=a5 (.Ia o u)) (Hr:∀b B,H b=a5 (.KH B)->∃more,H' b=a5 (.KH (B++more)))
  (ns:∀m,s.heap.Ns X.env.locals m->h'.Ns X.env.locals m) (Q:Ho X.prog X.w H' h') (T:QQ g') :
  Inv X pins σ H' {s with heap:=h',gens:=g',drawn:=d',toks:=t' }:=by
 have J:∀b o,X.s₀.heap.get? b=a5 o->b≠X.env.locals:=λb o e=>kj (lg (hV e) I.ok.above);have C:∀b o,X.s₀.heap.get? b=a5 o->b∉X.ex->b∉ch:=λb o e a h=>by
  rcases(j b h).1 with z|z
  ·exact a z
  ·exact absurd (lg (hV e) z) (C0 _)
 have f:∀x c,X.env.cells.lookup x=a5 c->∀v,s.heap.IsCell c v->h'.IsCell c v:=λx c e v Y=>by
  obtain⟨o,ho,G⟩:=Y;have y:c∉ch:=λz=>(j c z).2.2.1 x c e rfl;by_cases L:c∈X.fs
  ·obtain⟨D,q⟩:=slot c o (I.JN x c e) L y ho (I.GP x c e);exact⟨_,q,G⟩
  ·exact⟨o,keep c o (I.JN x c e) L y ho (I.GP x c e),G⟩
 refine⟨I.ok,I.os,T,⟨λb o e n h a=>?_,λb o e n h a=>?_,λb o e n a=>?_,λb o e a=>?_,λb xs e=>fi b xs (I.base.fi b xs e),λb o xs e=>Hm b o xs (I.base.Hm b o xs e),λb B e=>?_⟩,?_,λx c e=>?_,?_,λx c e=>?_,λp N=>?_,Q,I.len⟩
 ·exact keep b o (J b o e) h (C b o e a) (I.base.keep b o e n h a) (I.base.free b o e n a)
 ·obtain⟨D,g⟩:=I.base.slot b o e n h a;obtain⟨Md,A⟩:=slot b _ (J b o e) h (C b o e a) g (I.base.free b o e n a);exact⟨Md,A⟩
 ·obtain⟨t,g⟩:=I.base.there b o e a;exact free b t (C b o e a) g (I.base.free b o e n a)
 ·obtain⟨t,g⟩:=I.base.there b o e a;exact there b t (C b o e a) g
 ·obtain⟨m1,g⟩:=I.base.Hr b B e;obtain⟨m2,A⟩:=Hr b _ g;exact⟨m1++m2,by rw[A,W6]⟩
 ·obtain⟨m,hn,hl⟩:=I.loc;refine⟨m,ns m hn,λi x v g A e3=>?_⟩;obtain⟨u,r,l⟩:=hl i x v g A e3;refine⟨u,r,?_⟩;rcases l with l|⟨k,c,e,z⟩
  ·exact .inl l
  ·exact .inr ⟨k,c,e,f x c e _ z⟩
 ·obtain⟨v,z⟩:=I.cell x c e;exact⟨v,f x c e v z⟩
 ·obtain⟨m,⟨o,_,_,ho,_⟩,_⟩:=I.loc;exact free _ o (λz=>(j _ z).2.1 rfl) ho I.free
 ·obtain⟨v,o,ho,G⟩:=I.cell x c e;exact free c o (λz=>(j c z).2.2.1 x c e rfl) ho (I.GP x c e)
 ·obtain⟨e,n,ne,O,d⟩:=I.pin p N;have y:p.1∉ch:=λz=>(j p.1 z).2.2.2 p N rfl;exact⟨keep p.1 p.2 ne O y e n,free p.1 p.2 y e n,ne,O,d⟩
theorem Inv.un(I:Inv X pins σ H s)(u:Un X.fs [] H H' s.heap h')(d:Ho X.prog X.w H' h'):Inv X pins σ H' {s with heap:=h',toks:=t' }:=by
 obtain⟨m,⟨o,es,ep,ho,r⟩,_⟩:=id I.loc;obtain⟨k,f⟩:=u.any ho I.free (by simp);exact I.step (g':=s.gens) (d':=s.drawn) (ch:=[]) (λ_ z=>nomatch z) (λb o _ a _ e n=>u.keep b o e n a (by simp)) (λb o _ a _ e n=>u.slot b o e n a (by simp)) (λb o _ e n=>u.free b o e n (by simp)) (λb o _ e=>u.there b o e (by simp)) u.fi u.Hm u.Hr (λl g=>by
  obtain⟨p,h,i,c,j⟩:=g;rw[ho]at c;cases c;exact⟨_,h,i,f,j⟩) d I.bare
theorem Inv.call(I:Inv X pins σ H s)(u:Un (G3 X.stack) ch H H' s.heap h')(h:Ho X.prog X.w H' h')(i:QQ g')
  (f:∀b∈ch,(b∈X.ex\/X.s₀.heap.objs.size<=b)/\b≠X.env.locals/\(∀x c,X.env.cells.lookup x=a5 c->c≠b)/\∀p∈X.pn++pins,p.1≠b) :
  Inv X pins σ H' {s with heap:=h',gens:=g',drawn:=d',toks:=t' }:=by
 obtain⟨m,⟨o,es,ep,ho,r⟩,_⟩:=id I.loc;obtain⟨v,d⟩:=u.any ho I.free λz=>(f _ z).2.1 rfl;exact I.step (ch:=ch) f (λb o d j a e n=>u.keep b o e n (λz=>(hU.mp (I.jz b z)).elim d j) a) (λb o _ _ a e n=>u.any e n a) (λb o a e n=>u.free b o e n a) (λb o a e=>u.there b o e a) u.fi u.Hm u.Hr (λy k=>by
  obtain⟨A,l,q,g,t⟩:=k;rw[ho]at g;cases g;exact⟨_,l,q,d,t⟩) h i
theorem Inv.turned(I:Inv X pins σ H s)(k:∀b o,b≠it->s.heap.get? b=a5 o->h'.get? b=a5 o)(g:H it=b6)(d:it≠X.env.locals)
  (h:it∈X.ex\/X.s₀.heap.objs.size<=it) (i:∀x c,X.env.cells.lookup x=a5 c->c≠it) (j:∀p∈X.pn++pins,p.1≠it):Inv X pins σ H {s with heap:=h',toks:=t' }:=by
 have f:∀b u,H b=a5 u->b≠it:=λb u e z=>by rw[z,g]at e;cases e
 refine I.step (g':=s.gens) (d':=s.drawn) (ch:=[it]) (λb l=>?_) (λb o _ _ a e _=>k b o (λz=>a (by simp[z])) e) (λb o _ _ a e _=>⟨o.slots,k b o (λz=>a (by simp[z])) e⟩) (λ_ _ _ _ n=>n)
  (λb o a e=>⟨o,k b o (λz=>a (by simp[z])) e⟩) (λ_ _ e=>e) (λ_ _ _ e=>e) (λb w e=>⟨#[],by rw[e];simp⟩) (λm t=>?_) (λb u e=>?_) I.bare
 ·have e:b=it:=by simpa using l
  subst e;exact⟨h,d,i,j⟩
 ·obtain⟨o,es,ep,ho,r⟩:=t;exact⟨o,es,ep,k _ o (uv d) ho,r⟩
 ·refine(I.Gz b u e).gh (λc v a q=>k c v ?_ q) (λ_ q=>q) λ_ _ q=>q;rcases a with z|z
  ·rw[z];exact f b u e
  ·exact f c _ z
theorem Inv.tok(I:Inv X pins σ H s)(t:Nat):Inv X pins σ H {s with toks:=t}:=I.un (h':=s.heap) (t':=t) Un.refl I.Gz
theorem Inv.kept(I:Inv X pins σ H s)(k:∀b u,s.heap.get? b=a5 u->h'.get? b=a5 u):Inv X pins σ H {s with heap:=h',toks:=t' }:=I.un (Un.kept k) (I.Gz.kept k)
theorem Inv.laid(I:Inv X pins σ H s)(k:∀b u,s.heap.get? b=a5 u->h'.get? b=a5 u)(c:s.heap.objs.size<=a)(new:bN X.prog X.w (upd H a o) h' a o):
  Inv X pins σ (upd H a o) {s with heap:=h',toks:=t' }:=I.un (Un.laid k c (I.Gz.fresh c)) (I.Gz.laid k c new)
theorem Inv.write(I:Inv X pins σ H s)(a:MI (H x))(c:e=x\/H e=a5 (.own x))(k:∀b u,b≠e->s.heap.get? b=a5 u->h'.get? b=a5 u)(d:∃u,h'.get? e=a5 u)
  (new:bN X.prog X.w (upd H x o) h' x o):Inv X pins σ (upd H x o) {s with heap:=h',toks:=t' }:=I.un (Un.write a c k d) (I.Gz.write a c k d new)
theorem Inv.weak(I:Inv X pins σ H s)(hl:a.length=σ.length)(w:∀(i:Nat) v,a[i]?=a5 (a5 v)->σ[i]?=a5 (a5 v)):Inv X pins a H s :=
 ⟨I.ok,I.os,I.bare,I.base,let ⟨m,b,c⟩:=I.loc;⟨m,b,λi x v d e f=>c i x v d (w i v e) f⟩,I.cell,I.free,I.GP,I.pin,I.Gz,hl.trans I.len⟩
theorem Inv.dP(I:Inv X pins σ H s)(h:∀p∈a,s.heap.get? p.1=a5 p.2/\H p.1=b6/\p.1≠X.env.locals/\p.1∉X.fs/\∀v,p.2.data≠.cell v):Inv X a σ H s :=
 ⟨I.ok,I.os,I.bare,I.base,I.loc,I.cell,I.free,I.GP,λp b=>(qd.mp b).elim (λz=>I.pin p (O0 _ z)) (h p),I.Gz,I.len⟩
theorem gG{N:List Str}(c:N.Nodup){i j:Nat}(a:N[i]?=a5 x)(b:N[j]?=a5 x):i=j:=by
 obtain⟨f,d⟩:=ez.mp a;obtain⟨g,e⟩:=ez.mp b;exact(XH c).mp (d.trans e.symm)
theorem lp(I:Inv X pins σ H s)(hN:X.N.Nodup)(D:X.N[i]?=a5 x)(l:Loc X.env.scope x)(r:RelV v u)
  (h:∀s',Inv X pins (σ.set i (a5 v)) H s'->(∃a,t4 a s.heap s'.heap/\(a=X.env.locals\/X.env.cells.lookup x=a5 a))->Q () s') (hf:X.fn x=b8\/X.env.scope.names.lookup x=a5 .local:=by first|exact .inl rfl|exact .inr rfl|assumption):eH M A (YO X.env x u) Q E s:=by
 obtain⟨m,L,hl⟩:=id I.loc;have Ll:(X.env.scope.kind==.class||(X.env.scope.kind==.module&&X.env.locals != X.env.globals))=cc:=by rw[I.ok.kind];rfl
 have Rz:i < σ.length:=by rw[I.len];exact(ez.mp D).1
 have O:=I.JN;have f:∀{a:hH} {h':Ju},(∃o,s.heap.get? a=a5 o/\H a=b6)->t4 a s.heap h'->Ho X.prog X.w H h':=λ{a h'} ha hs b ob e=>by
  obtain⟨_,_,Hd⟩:=ha;refine(I.Gz b ob e).gh (λc G hc q=>(hs.2 c ?_).trans q) (λ_ q=>q) λ_ _ q=>q;rintro rfl;rcases hc with rfl|hc
  ·rw[Hd]at e;cases e
  ·rw[Hd]at hc;cases hc
 rcases l with hk|hk
 ·refine wpAny_storeName_local hk L (λh' Mg hs=>?_) Ll;obtain⟨oL,_,_,Km,_⟩:=id L;refine h _ ⟨I.ok,I.os,I.bare,⟨λb o e n B l=>?_,λb o e n B l=>?_,I.base.free,λb o e l=>?_,I.base.fi,I.base.Hm,I.base.Hr⟩,⟨_,Mg,λj y T g t Y=>?_⟩,λy c e=>?_,I.free,I.GP,λp hp=>?_,f ⟨oL,Km,I.free⟩ hs,by simpa using I.len⟩ ⟨_,hs,.inl rfl⟩
  ·exact(hs.2 b (kj (lg (hV e) I.ok.above))).trans (I.base.keep b o e n B l)
  ·obtain⟨sl,g⟩:=I.base.slot b o e n B l;exact⟨sl,(hs.2 b (kj (lg (hV e) I.ok.above))).trans g⟩
  ·obtain⟨o',g⟩:=I.base.there b o e l;exact⟨o',(hs.2 b (kj (lg (hV e) I.ok.above))).trans g⟩
  ·by_cases C:j=i
   ·subst C;rw[D]at g;cases g;rw[fx Rz]at t;cases t;exact⟨u,r,.inl ⟨hk,by simp⟩⟩
   ·rw[i0 (uv C)]at t;obtain⟨u',r',q⟩:=hl j y T g t Y;refine⟨u',r',?_⟩;rcases q with⟨k,e⟩|⟨k,c,e,z⟩
    ·refine .inl ⟨k,?_⟩;have:y≠x:=λe=>C (gG hN g (e▸D));simp[this,e]
    ·exact .inr ⟨k,c,e,z.sameBut hs (O y c e)⟩
  ·obtain⟨G,z⟩:=I.cell y c e;exact⟨G,z.sameBut hs (O y c e)⟩
  ·obtain⟨e,n,ne,nf,d⟩:=I.pin p hp;exact⟨(hs.2 p.1 ne).trans e,n,ne,nf,d⟩
 ·have IJ:X.fn x=b8:=by
   rcases hf with z|z
   ·exact z
   ·rw[z]at hk;cases hk
  obtain⟨c,hc⟩:=I.ok.has x (.inl hk);obtain⟨G,z⟩:=I.cell x c hc;refine wpAny_storeName_cell I.ok.kind hk hc z (λh' RA hs=>?_);obtain⟨oc,RB,OZ⟩:=id z;refine h {s with heap:=h' } ⟨I.ok,I.os,I.bare,⟨λb o e n B l=>?_,λb o e n B l=>?_,I.base.free,λb o e l=>?_,I.base.fi,I.base.Hm,I.base.Hr⟩,⟨m,L.sameBut hs (uv (O x c hc)),λj y T g t Y=>?_⟩,λy J e=>?_,I.free,I.GP,λp hp=>?_,f ⟨oc,RB,I.GP x c hc⟩ hs,by simpa using I.len⟩ ⟨c,hs,.inr hc⟩
  ·exact(hs.2 b (kj (lg (hV e) (I.ok.Mc x c IJ hc)))).trans (I.base.keep b o e n B l)
  ·obtain⟨sl,g⟩:=I.base.slot b o e n B l;exact⟨sl,(hs.2 b (kj (lg (hV e) (I.ok.Mc x c IJ hc)))).trans g⟩
  ·obtain⟨o',g⟩:=I.base.there b o e l;exact⟨o',(hs.2 b (kj (lg (hV e) (I.ok.Mc x c IJ hc)))).trans g⟩
  ·by_cases C:j=i
   ·subst C;rw[D]at g;cases g;rw[fx Rz]at t;cases t;exact⟨u,r,.inr ⟨.inl hk,c,hc,RA⟩⟩
   ·rw[i0 (uv C)]at t;obtain⟨u',r',q⟩:=hl j y T g t Y;refine⟨u',r',?_⟩;rcases q with q|⟨k,J,e,z'⟩
    ·exact .inl q
    ·refine .inr ⟨k,J,e,z'.sameBut hs ?_⟩;rintro rfl;exact C (gG hN g (I.ok.inj _ _ _ e hc▸D))
  ·by_cases RC:J=c
   ·subst RC;exact⟨_,RA⟩
   ·obtain⟨w2,z2⟩:=I.cell y J e;exact⟨w2,z2.sameBut hs RC⟩
  ·obtain⟨e,n,ne,nf,d⟩:=I.pin p hp;refine⟨(hs.2 p.1 ?_).trans e,n,ne,nf,d⟩;intro q;rw[q,RB]at e;have q':oc=p.2:=GI e;exact d G (by rw[<-q'];exact OZ)
theorem d0(I:Inv X pins σ H s)(a:X.N.Nodup)(b:X.N[i]?=a5 x)(c:Loc X.env.scope x)(r:RelV v u)
  (h:∀s',Inv X pins (σ.set i (a5 v)) H s'->Q () s') (d:X.fn x=b8\/X.env.scope.names.lookup x=a5 .local:=by first|exact .inl rfl|exact .inr rfl|assumption):eH M A (YO X.env x u) Q E s :=
 lp I a b c r (λs' e _=>h s' e) d
theorem Inv.uS(I:Inv X pins σ H s)(ho:s'.os=s.os)(u:Un (G3 X.stack) ch H H' s.heap s'.heap)(a:Ho X.prog X.w H' s'.heap)(d:QQ s'.gens)
  (f:∀b∈ch,(b∈X.ex\/X.s₀.heap.objs.size<=b)/\b≠X.env.locals/\(∀x c,X.env.cells.lookup x=a5 c->c≠b)/\∀p∈X.pn++pins,p.1≠b):Inv X pins σ H' s':=by
 obtain⟨h',g',d',t',g⟩:=s';have e:g=s.os:=ho;subst e;exact I.call (g':=g') (t':=t') (d':=d') u a d f
end
abbrev XK:=et->Option hH->Hp->Prop
abbrev St:=List (Option V)
abbrev VK:=V->Hp->Prop
abbrev TE:=St->Hp->VK->Prop
abbrev TT:=St->Hp->(Bool->Hp->Prop)->Prop
abbrev TA:=St->Hp->(List V->Hp->Prop)->Prop
structure Ends where
 nx:St->Hp->Prop
 rt:VK
 bk:St->Hp->Prop:=λ_ _=>False
 ct:St->Hp->Prop:=λ_ _=>False
abbrev TS:=Ends->St->Hp->Prop
def EP(X:Cx)(a:List (hH×Obj))(σ:St)(Q:VK)(u:et)(s':gj):Prop:=∃v H',Inv X a σ H' s'/\RelV v u/\Q v H'
def TP(X:Cx)(a:List (hH×Obj))(σ:St)(Q:Bool->Hp->Prop)(b:Bool)(s':gj):Prop:=∃H',Inv X a σ H' s'/\Q b H'
def AP(X:Cx)(a:List (hH×Obj))(σ:St)(Q:List V->Hp->Prop)(us:List et)(s':gj):Prop:=∃vs H',Inv X a σ H' s'/\Vals vs us/\Q vs H'
def SP(X:Cx)(a:List (hH×Obj))(D:Ends)(f:Flow)(s':gj):Prop :=
 match f with
 |.next=>∃b H',Inv X a b H' s'/\D.nx b H'
 |.brk=>∃b H',Inv X a b H' s'/\D.bk b H'
 |.cont=>∃b H',Inv X a b H' s'/\D.ct b H'
 |.ret u=>∃v b H',Inv X a b H' s'/\RelV v u/\D.rt v H'
def PE(X:Cx)(e:rr)(t:TE):Prop :=
 ∀(a:List (hH×Obj)) (s:gj) (σ:St) (H:Hp) (Q:VK),Inv X a σ H s->t σ H Q->eH (gs X.prog X.w) X.A (GV e X.env) (EP X a σ Q) X.xe s
def PT(X:Cx)(e:rr)(t:TT):Prop :=
 ∀(a:List (hH×Obj)) (s:gj) (σ:St) (H:Hp) (Q:Bool->Hp->Prop),Inv X a σ H s->t σ H Q->eH (gs X.prog X.w) X.A (isTrue e X.env (GV e X.env)) (TP X a σ Q) X.xe s
def PW(X:Cx)(e:rr)(t:TT):Prop :=
 ∀(b:Sem et) (a:List (hH×Obj)) (s:gj) (σ:St) (H:Hp) (Q:Bool->Hp->Prop),Inv X a σ H s->t σ H Q->eH (gs X.prog X.w) X.A (isTrue e X.env b) (TP X a σ Q) X.xe s
theorem PW.pt(h:PW X e t):PT X e t:=h _
def PA(X:Cx)(es:List rr)(t:TA):Prop :=
 ∀(pos:Pos) (a:List (hH×Obj)) (s:gj) (σ:St) (H:Hp) (Q:List V->Hp->Prop),Inv X a σ H s->t σ H Q->eH (gs X.prog X.w) X.A (Yv (HR pos (ke es X.env))) (AP X a σ Q) X.xe s
def PS(X:Cx)(st:Lo)(t:TS):Prop :=
 ∀(a:List (hH×Obj)) (s:gj) (σ:St) (H:Hp) (D:Ends),Inv X a σ H s->t D σ H->eH (gs X.prog X.w) X.A (exec st X.env) (SP X a D) X.xe s
def Hy(X:Cx)(st:List Lo)(t:TS):Prop :=
 ∀(a:List (hH×Obj)) (s:gj) (σ:St) (H:Hp) (D:Ends),Inv X a σ H s->t D σ H->eH (gs X.prog X.w) X.A (execs st X.env) (SP X a D) X.xe s
theorem GC(h:eH M A t Q E s)(b:∀a s,Q a s->Q' a s):eH M A t Q' E s:=nc h b λ_ _ x=>x
section
def FF(i:Nat):TE:=λσ H Q=>∃v,σ[i]?=a5 (a5 v)/\Q v H
def tC(v:V):TE:=λ_ H Q=>Q v H
theorem bE(j:X.N[i]?=a5 x)(k:Ib X.env.scope x)(d:(x==("__debug__":Str))=cc:=by decide)(n:(x==("__classdict__":Str))=cc:=by decide):PE X (.Name x pos) (FF i):=by
 intro b s σ H Q I h;obtain⟨v,e,h⟩:=h;obtain⟨m,o,hl⟩:=I.loc;obtain⟨u,r,l⟩:=hl i x v j e k;have a:EP X b σ Q u s:=⟨v,H,I,r,h⟩
 rcases l with⟨hk,p⟩|⟨hk,c,f,g⟩
 ·exact Ye (wpAny_loadName_local I.ok.kind hk o p a) d
 ·rcases hk with hk|hk
  ·exact Ye (wpAny_loadName_cell I.ok.kind hk f g a) d
  ·exact Ye (wpAny_loadName_free I.ok.kind hk f g a n) d
theorem uT:PE X (.Constant (.int i) j pos) (tC (.int i)):=λ_ _ _ H _ I h=>wpAny_Constant_int ⟨.int i,H,I.tok _,⟨_,rfl⟩,h⟩
theorem rb:PE X (.Constant (.bool b) j pos) (tC (.bl b)):=λ_ _ _ H _ I h=>Constant_bool ⟨.bl b,H,I,rfl,h⟩
theorem uU:PE X (.Constant .none j pos) (tC .Gv):=λ_ _ _ H _ I h=>Constant_none ⟨.Gv,H,I,rfl,h⟩
theorem pF:PE X (.Constant (.str x) j pos) (tC (.str x)):=λ_ _ _ H _ I h=>Calls.Constant_str ⟨.str x,H,I.tok _,⟨_,rfl⟩,h⟩
def Gl(X:Cx)(x:Str):Prop:=X.env.kindOf x=a5 .globalImplicit
theorem dk(I:Inv X a σ H s)(b:Gl X x)(c:X.mg x=a5 u)(h:Q u s)
  (d:(x==("__debug__":Str))=cc:=by decide):eH (gs X.prog X.w) X.A (GV (.Name x pos) X.env) Q E s :=
 TR I.ok.kind b (Calls.loadGlobal_global (by rw[I.ok.glob];exact I.mod.glob.keeps I.bk) c h) d
theorem cR(I:Inv X a σ H s)(b:Gl X x)(c:X.mg x=b6)(d:w6 x=a5 u)(h:Q u s)
  (e:x≠"__name__":=by decide) (f:(x==("__debug__":Str))=cc:=by decide):eH (gs X.prog X.w) X.A (GV (.Name x pos) X.env) Q E s:=by
 obtain⟨j,g,i⟩:=I.mod.blt;exact TR I.ok.kind b (Calls.loadGlobal_builtin (by rw[I.ok.glob];exact I.mod.glob.keeps I.bk) c (by rw[I.ok.blt];exact g.keeps I.bk) ((i x e).trans d) h) f
theorem rf(a:Gl X x)(b:X.mg x=b6)(c:w6 x=a5 u)(r:RelV v u)(d:x≠"__name__":=by decide)(e:(x==("__debug__":Str))=cc:=by decide):PE X (.Name x pos) (tC v) :=
 λ_ _ _ H _ I h=>cR I a b c ⟨v,H,I,r,h⟩ d e
def PC(X:Cx)(d:CmpOp)(a b:rr)(t:TE):Prop :=
 ∀(c:List (hH×Obj)) (s:gj) (σ:St) (H:Hp) (Q:VK),Inv X c σ H s->t σ H Q ->
  eH (gs X.prog X.w) X.A (GV a X.env) (λv e=>eH (gs X.prog X.w) X.A (GV b X.env) (λu f=>eH (gs X.prog X.w) X.A (Le d v u) (EP X c σ Q) X.xe f) X.xe e) X.xe s
def tB(t:TE):TT:=λσ H Q=>t σ H λx a=>∃c,x=.bl c/\Q c a
theorem uV(h:PC X g a b t)(f:Pq g b=cc:=by first|exact o _ (by decide) (by decide)|rfl):PT X (.Compare a [g] [b] pos) (tB t):=by
 intro e s σ H Q I i;refine Xx (GC (h e s σ H _ I i) λv s1 f=>GC f λu s2 j=>GC j λc s3 ⟨x,k,l,m,n⟩=>?_) f;obtain⟨d,rfl,q⟩:=n;cases m;exact Lg ⟨k,l,q⟩
def FG(t u:TT):TT:=λσ H Q=>t σ H λc a=>if c=b8 then u σ a Q else Q cc a
def Tg(t u:TT):TT:=λσ H Q=>t σ H λc a=>if c=b8 then Q b8 a else u σ a Q
def FH(t:TT):TT:=λσ H Q=>t σ H λc a=>Q (!c) a
theorem yx(d:PT X a f):PW X (.BoolOp .And [a] pos) f:=by
 intro g b s σ H Q I h;refine isTrue_and (GC (d b s σ H Q I h) λc s1 e=>?_);cases c with
 |true=>exact Zl e
 |false=>exact e
theorem Bg(d:PT X a f):PW X (.BoolOp .Or [a] pos) f:=by
 intro g b s σ H Q I h;refine isTrue_or (GC (d b s σ H Q I h) λc s1 e=>?_);cases c with
 |false=>exact isTrue_or_nil e
 |true=>exact e
theorem Bh(i:PT X a j)(k:PW X (.BoolOp .And (b::rest) pos) l):PW X (.BoolOp .And (a::b::rest) pos) (FG j l):=by
 intro m d s σ H Q I h;refine isTrue_and (GC (i d s σ H _ I h) λc s1 n=>?_);obtain⟨e,f,g⟩:=n;cases c with
 |true=>exact k m d s1 σ e Q f g
 |false=>exact⟨e,f,g⟩
theorem Dw(i:PT X a j)(k:PW X (.BoolOp .Or (b::rest) pos) l):PW X (.BoolOp .Or (a::b::rest) pos) (Tg j l):=by
 intro m d s σ H Q I h;refine isTrue_or (GC (i d s σ H _ I h) λc s1 n=>?_);obtain⟨e,f,g⟩:=n;cases c with
 |true=>exact⟨e,f,g⟩
 |false=>exact k m d s1 σ e Q f g
theorem Bi(d:PT X a e):PT X (.UnaryOp .Not a pos) (FH e):=by
 intro b s σ H Q I h;exact isTrue_not (d b s σ H (λc f=>Q (!c) f) I h)
def Dx(b d:TE):TE:=λσ H Q=>b σ H λx a=>∃c,x=.bl c/\if c=b8 then d σ a Q else Q (.bl cc) a
def Dy(a:TE):TE:=λσ H Q=>a σ H λx b=>∃c,x=.bl c/\Q (.bl (!c)) b
theorem Bj(h:PE X a t):PE X (.BoolOp d [a] pos) t:=λb s σ H Q I c=>BoolOp_one (h b s σ H Q I c)
theorem Bk(i:PE X a j)(k:PE X (.BoolOp .And (b::rest) pos) l):PE X (.BoolOp .And (a::b::rest) pos) (Dx j l):=by
 intro d s σ H Q I h;refine BoolOp_and (GC (i d s σ H _ I h) λv s1 m=>?_);obtain⟨x,f,g,n,e⟩:=m;obtain⟨c,rfl,e⟩:=e;cases n;refine Lg ?_;cases c with
 |true=>exact k d s1 σ f Q g e
 |false=>exact⟨.bl cc,f,g,rfl,e⟩
theorem Bl(e:PE X a f):PE X (.UnaryOp .Not a pos) (Dy f):=by
 intro b s σ H Q I h;refine UnaryOp_ (GC (e b s σ H _ I h) λv s1 g=>?_);obtain⟨x,i,j,k,d⟩:=g;obtain⟨c,rfl,d⟩:=d;cases k;exact not_of (Lg ⟨.bl (!c),i,j,rfl,d⟩)
def To(t:TT)(b d:TE):TE:=λσ H Q=>t σ H λc a=>if c=b8 then b σ a Q else d σ a Q
theorem uW(j:PT X c k)(l:PE X a m)(n:PE X b o):PE X (.IfExp c a b pos) (To k m o):=by
 intro e s σ H Q I h;refine wpAny_IfExp (GC (j e s σ H _ I h) λd s1 p=>?_);obtain⟨f,g,i⟩:=p;cases d with
 |true=>exact l e s1 σ f Q g i
 |false=>exact n e s1 σ f Q g i
end
def GY(K:PySem.W.Frag)(H:Hp)(a:hH)(xs:List V):Prop :=
 Rd H a (.lst xs) \/
  ∃(o:Obj) (b:Array et) (n:Nat),K.lookup a=a5 o/\o.cls=.type "list"/\o.dict=b6/\o.data=.seq b n/\b.size<=dV/\Vals xs b.toList
def Hh(K:PySem.W.Frag)(H:Hp)(a:hH)(xs:List V):Prop :=
 Rd H a (.tup xs) \/
  ∃(o:Obj) (b:Array et) (n:Nat),K.lookup a=a5 o/\o.cls=.type "tuple"/\o.data=.seq b n/\b.size<=dV/\Vals xs b.toList
noncomputable def FI:et->Option V
 |.none=>a5 .Gv
 |.bool b=>a5 (.bl b)
 |.int i _=>a5 (.int i)
 |.str x _=>a5 (.str x)
 |.bytes b _=>a5 (.N4 b)
 |.float b _=>a5 (.N5 b)
 |.ref a=>a5 (.ref a)
 |.type n=>a5 (.ty n)
 |_=>b6
theorem RelV.abs(r:RelV x u):FI u=a5 x:=by
 cases x with
 |Gv=>cases r;rfl
 |bl _=>cases r;rfl
 |ref _=>cases r;rfl
 |ty _=>cases r;rfl
 |_=>obtain⟨t,rfl⟩:=r;rfl
theorem RelV.inj(r:RelV x u)(q:RelV y u):x=y:=GI (r.abs.symm.trans q.abs)
theorem Vals.inj:∀{xs ys:List V}{us:List et},Vals xs us->Vals ys us->xs=ys
 |_,_,_,.nil,.nil=>rfl
 |_,_,_,.cons r t,.cons a t'=>by rw[r.inj a,Vals.inj t t']
section
theorem GY.of{K:PySem.W.Frag}(h:H a=a5 (.lst xs)):GY K H a xs:=.inl (.inl h)
theorem Hh.of{K:PySem.W.Frag}(h:H a=a5 (.tup xs)):Hh K H a xs:=.inl (.inl h)
theorem Inv.list(I:Inv X c σ H s)(h:GY X.K H a xs):∃b:List et,Vals xs b/\PlainL s.heap a b.toArray/\xs.length<=dV:=by
 rcases h with h|⟨o,b,n,hk,d,f,hs,hz,r⟩
 ·obtain⟨z,b,n,r,e⟩:=h.ok I.Gz;exact⟨b,r,⟨_,n,e,rfl,rfl,rfl⟩,z⟩
 ·refine⟨b.toList,r,⟨o,n,I.Jh a o hk,d,f,by simpa using hs⟩,?_⟩;have e:=r.length;simp only[i2]at e;lia
theorem Inv.tuple(I:Inv X c σ H s)(h:Hh X.K H a xs):∃b:List et,Vals xs b/\Zn s.heap a b.toArray/\xs.length<=dV:=by
 rcases h with h|⟨o,b,n,hk,d,hs,hz,r⟩
 ·obtain⟨z,b,r,p⟩:=h.ok I.Gz;exact⟨b,r,p,z⟩
 ·refine⟨b.toList,r,⟨o,I.Jh a o hk,d,n,by simpa using hs⟩,?_⟩;have e:=r.length;simp only[i2]at e;lia
theorem Inv.uX(I:Inv X b σ H s)(h:GY X.K H a xs)(h':GY X.K H a ys):xs=ys:=by
 obtain⟨f,r,⟨o,n,e,_,_,d⟩,_⟩:=I.list h;obtain⟨its',g,⟨j,k,c,_,_,d'⟩,_⟩:=I.list h';rw[e]at c;cases c;rw[d]at d';injection d' with i _
 have:f=its':=by simpa using Zv V1 i
 subst this;exact r.inj g
theorem Inv.tq(I:Inv X b σ H s)(h:Hh X.K H a xs)(h':Hh X.K H a ys):xs=ys:=by
 obtain⟨f,r,⟨o,e,_,n,d⟩,_⟩:=I.tuple h;obtain⟨its',g,⟨j,c,_,k,d'⟩,_⟩:=I.tuple h';rw[e]at c;cases c;rw[d]at d';injection d' with i _
 have:f=its':=by simpa using Zv V1 i
 subst this;exact r.inj g
end
abbrev Cx.iw(X:Cx)(E:et->gj->Prop):Cx:={X with xe:=E}
abbrev Cx.Ic(X:Cx):Cx:=X.iw λ_ _=>False
theorem Cx.Ok.iw{X:Cx}(a:X.Ok)(E:et->gj->Prop):(X.iw E).Ok :=
 ⟨a.mod,a.kind,a.glob,a.blt,a.above,a.inj,a.has,a.Mc,a.hd,a.frames,a.MK,a.OY,a.bs,a.Kl,a.Js,a.JM,a.je,a.Lj⟩
theorem Cx.Ok.eJ{X:Cx}(a:(X.iw E).Ok):X.Ok :=
 ⟨a.mod,a.kind,a.glob,a.blt,a.above,a.inj,a.has,a.Mc,a.hd,a.frames,a.MK,a.OY,a.bs,a.Kl,a.Js,a.JM,a.je,a.Lj⟩
section
theorem Inv.iw(I:Inv X a σ H s)(E:et->gj->Prop):Inv (X.iw E) a σ H s:=⟨I.ok.iw E,I.os,I.bare,I.base,I.loc,I.cell,I.free,I.GP,I.pin,I.Gz,I.len⟩
theorem Inv.eJ(I:Inv (X.iw E) a σ H s):Inv X a σ H s:=⟨I.ok.eJ,I.os,I.bare,I.base,I.loc,I.cell,I.free,I.GP,I.pin,I.Gz,I.len⟩
theorem SP.eJ(h:SP (X.iw E) a D f s'):SP X a D f s':=by
 cases f with
 |ret u=>obtain⟨v,b,H',I,r,q⟩:=h;exact⟨v,b,H',I.eJ,r,q⟩
 |_=>obtain⟨b,H',I,q⟩:=h;exact⟨b,H',I.eJ,q⟩
theorem Hy.Ic{st:List Lo}(h:Hy X.Ic st t):Hy X st t:=λa s σ H D I b =>
 nc (h a s σ H D (I.iw _) b) (λ_ _ q=>q.eJ) λ_ _ z=>LF z
end
section
variable{X:Cx}{st:Lo}{rest:List Lo}{t u:TS}{e:rr}{te:TE}{pos:Pos}
def Dz:TS:=λD σ H=>D.nx σ H
def FJ(t u:TS):TS:=λD σ H=>t {D with nx:=u D} σ H
theorem mJ:Hy X [] Dz:=λ_ _ σ H _ I h=>ML ⟨σ,H,I,h⟩
theorem jA(b:PS X st t)(c:Hy X rest u):Hy X (st::rest) (FJ t u):=by
 intro a s σ H D I h;refine UH (GC (b a s σ H {D with nx:=u D} I h) λf s1 q=>?_);cases f with
 |next =>
  obtain⟨d,H',g,q⟩:=q;exact c a s1 d H' D g q
 |_=>exact q
theorem Inv.quiet(I:Inv X a σ H s):interactive X.env=cc:=by simp[interactive,I.ok.kind]
def DA(te:TE):TS:=λD σ H=>te σ H λ_ a=>D.nx σ a
theorem gH(b:PE X e te)(hs:Ny e b6 pos.line X.env=pure cc:=by rfl):PS X (.Expr e pos) (DA te):=by
 intro a s σ H D I h;exact Y7 (GC (b a s σ H _ I h) λv s1 ⟨x,c,d,g,f⟩=>⟨σ,c,d,f⟩) I.quiet hs
def FK(te:TE):TS:=λD σ H=>te σ H D.rt
theorem Bm(b:PE X e te):PS X (.Return (a5 e) pos) (FK te):=by
 intro a s σ H D I h;exact wpAny_Return_some (GC (b a s σ H _ I h) λv s1 ⟨x,c,d,f,g⟩=>⟨x,σ,c,d,f,g⟩)
def DB:TS:=λD _ H=>D.rt .Gv H
theorem yy:PS X (.Return b6 pos) DB:=λ_ _ σ H _ I h=>wpAny_Return_none ⟨.Gv,σ,H,I,rfl,h⟩
def FL(c:TT)(t u:TS):TS:=λD σ H=>c σ H λb a=>if b=b8 then t D σ a else u D σ a
theorem DC(k:PT X c l)(m:Hy X a t)(n:Hy X b u):PS X (.If c a b pos) (FL l t u):=by
 intro f s σ H D I h;refine wpAny_If (GC (k f s σ H _ I h) λd s1 o=>?_);obtain⟨g,i,j⟩:=o;cases d with
 |true=>exact m f s1 σ g D i j
 |false=>exact n f s1 σ g D i j
end
abbrev TG:=V->St->Hp->(St->Hp->Prop)->Prop
abbrev Mh:=List V->St->Hp->(St->Hp->Prop)->Prop
def PG(X:Cx)(a:rr)(t:TG):Prop :=
 ∀(b:List (hH×Obj)) (s:gj) (σ:St) (H:Hp) (v:V) (u:et) (Q:St->Hp->Prop),Inv X b σ H s->RelV v u->t v σ H Q ->
  eH (gs X.prog X.w) X.A (QB a X.env u) (λ_ s'=>∃c H',Inv X b c H' s'/\Q c H') X.xe s
def MN(X:Cx)(ts:List rr)(t:Mh):Prop :=
 ∀(a:List (hH×Obj)) (s:gj) (σ:St) (H:Hp) (vs:List V) (us:List et) (Q:St->Hp->Prop),Inv X a σ H s->Vals vs us->t vs σ H Q ->
  eH (gs X.prog X.w) X.A (assignInOrder ((N2 ts X.env).map (·.2)) us) (λ_ s'=>∃b H',Inv X a b H' s'/\Q b H') X.xe s
abbrev Bn:=V->V->V->Hp->(Hp->Prop)->Prop
def mK(X:Cx)(t:Bn):Prop :=
 ∀(a:List (hH×Obj)) (s:gj) (σ:St) (H:Hp) (o i v:V) (b c u:et) (Q:Hp->Prop),Inv X a σ H s->RelV o b->RelV i c->RelV v u->t o i v H Q ->
  eH (gs X.prog X.w) X.A (Rp b c u) (λ_ s'=>∃H',Inv X a σ H' s'/\Q H') X.xe s
abbrev O1:=V->V->Hp->VK->Prop
def N9(X:Cx)(b:XX)(t:O1):Prop :=
 ∀(a:List (hH×Obj)) (s:gj) (σ:St) (H:Hp) (x y:V) (v u:et) (Q:VK),Inv X a σ H s->RelV x v->RelV y u->t x y H Q ->
  eH (gs X.prog X.w) X.A (inplaceOp b v u) (EP X a σ Q) X.xe s
section
def rg(i:Nat):TG:=λv σ H Q=>Q (σ.set i (a5 v)) H
theorem rh(b:X.N.Nodup)(c:X.N[i]?=a5 x)(d:Loc X.env.scope x)(e:X.fn x=b8\/X.env.scope.names.lookup x=a5 .local:=by first|exact .inl rfl|exact .inr rfl|assumption):PG X (.Name x pos) (rg i):=by
 intro a s σ H v u Q I r h;exact Yu (d0 I b c d r (λs' f=>⟨_,H,f,h⟩) e)
noncomputable def DE:Mh:=λvs σ H Q=>vs=[]/\Q σ H
noncomputable def AA(t:TG)(u:Mh):Mh:=λvs σ H Q=>∃v r,vs=v::r/\t v σ H λa H'=>u r a H' Q
theorem yz:MN X [] DE:=by
 intro a s σ H vs us Q I r h;obtain⟨e,h⟩:=h;subst e;cases r;exact assignInOrder_nil ⟨σ,H,I,h⟩
theorem uY(b:PG X e t)(c:MN X es u)
  (hs:(N2 (e::es) X.env).map (·.2)=QB e X.env::(N2 es X.env).map (·.2):=by rfl):MN X (e::es) (AA t u):=by
 intro a s σ H vs us Q I r h;obtain⟨v,m,d,h⟩:=h;subst d;cases r with
 |cons r f =>
  rw[hs];refine assignInOrder_cons (GC (b a s σ H _ _ _ I r h) λ_ s1 g=>?_);obtain⟨i,j,k,l⟩:=g;exact c a s1 i j _ _ Q k f l
def FN(K:PySem.W.Frag)(n:Nat)(t:Mh):TG:=λv σ H Q=>∃a xs,v=.ref a/\Hh K H a xs/\xs.length=n/\t xs σ H Q
theorem Bo(f:X.calm=b8)(h:MN X es t)
  (g:(N2 es X.env).length=n:=by rfl) (i:(N2 es X.env).findIdx? (·.1)=b6:=by rfl):PG X (.Tuple es k pos) (FN X.K n t):=by
 intro c s σ H v u Q I r d;obtain⟨a,xs,j,l,hl,d⟩:=d;subst j;cases r;obtain⟨w,rv,m,hz⟩:=I.tuple l;refine assign_Tuple_tuple (I.ok.hd f) m (by simp[g,<-hl,rv.length]) i λh' p=>?_;have q:Inv X c σ H {s with heap:=h' }:=I.kept (t':=s.toks) λb o e=>p b o (kj (hV e)) e;exact h c _ σ H xs _ Q q (by simpa using rv) d
def FO(a b:TE)(t:Bn):TG:=λv σ H Q=>a σ H λo c=>b σ c λi d=>t o i v d λe=>Q σ e
theorem uZ(ho:PE X o d)(e:PE X i f)(hs:mK X t)
  (g:∀v,QB (.Subscript o i pos) X.env v=(do
   let b <-LG [v] (GV o X.env)
   let c <-LG [v,b] (GV i X.env)
   V2 pos
   LG [v,b,c] (Rp b c v)
   Tt [v,b,c] []):=by intro _;rfl):PG X (.Subscript o i pos) (FO d f t):=by
 intro a s σ H v u Q I r h;rw[g];refine bD (vl (GC (ho a s σ H _ I h) λb s1 j=>?_));obtain⟨x,k,l,m,n⟩:=j;refine bD (vl (GC (e a s1 σ k _ l n) λc s2 p=>?_));obtain⟨y,q,w,z,A⟩:=p;refine bD (WR (bD (vl (GC (hs a s2 σ q x y v b c u _ w m z r A) λ_ s3 B=>?_))));obtain⟨C,D,G⟩:=B;exact wpAny_release ⟨σ,C,D,G⟩
def Bp(te:TE)(g:TG):TS:=λD σ H=>te σ H λx a=>g x σ a D.nx
theorem pG(c:PE X e te)(d:PG X b g)(hs:Pp [b] e pos.line X.env=pure cc:=by rfl)(f:SG [b] e X.env=pure b6:=by rfl)
  (i:(N2 [b] X.env).map (·.2)=[QB b X.env]:=by rfl):PS X (.Assign [b] e pos) (Bp te g):=by
 intro a s σ H D I h;refine wpAny_Assign_stores (GC (c a s σ H _ I h) λv s1 ⟨x,j,k,l,m⟩=>?_) hs f;rw[i];exact GC (d a s1 σ j x v _ k l m) λ_ s2 q=>q
theorem mL(b:X.N.Nodup)(c:X.N[i]?=a5 x)(d:Loc X.env.scope x)(f:PE X e te)(hs:Ny e (a5 (.Name x pos')) pos.line X.env=pure cc:=by rfl)(g:X.fn x=b8\/X.env.scope.names.lookup x=a5 .local:=by first|exact .inl rfl|exact .inr rfl|assumption):
  PS X (.Assign [.Name x pos'] e pos) (Bp te (rg i)):=by
 intro a s σ H D I h;refine Tj (GC (f a s σ H _ I h) λv s1 ⟨y,j,k,l,m⟩=>?_) hs;exact d0 k b c d l (λs2 n=>⟨_,j,n,m⟩) g
def DF(a b te:TE)(c:V->V->Hp->VK->Prop)(d:O1)(e:Bn):TS:=λD σ H=>a σ H λo f=>b σ f λi g=>c o i g λx h=>te σ h λy j=>d x y j λz k=>e o i z k λl=>D.nx σ l
def DG(X:Cx)(t:V->V->Hp->VK->Prop):Prop :=
 ∀(a:List (hH×Obj)) (s:gj) (σ:St) (H:Hp) (o i:V) (b c:et) (Q:VK),Inv X a σ H s->RelV o b->RelV i c->t o i H Q ->
  eH (gs X.prog X.w) X.A (Tx b c) (EP X a σ Q) X.xe s
theorem yA(ho:PE X o k)(l:PE X i m)(n:DG X p)(q:PE X e te)(r:N9 X t u)(hs:mK X w)
  (x:∀b c new,Za i b c new=(do LG [new,b,c] (Rp b c new);Tt [new,b,c] [];pure .next):=by intros;rfl):PS X (.AugAssign (.Subscript o i Tv) t e pos) (DF k m te p u w):=by
 intro a s σ H D I h;refine wpAny_AugAssign_SubscriptAny (GC (ho a s σ H _ I h) λb s1 ⟨x1,y,z,f,A⟩=>?_) x;refine GC (l a s1 σ y _ z A) λc s2 B=>?_;obtain⟨g,C,G,j,J⟩:=B;refine GC (n a s2 σ C x1 g b c _ G f j J) λd s3 L=>?_;obtain⟨N,O,Q,T,Y⟩:=L;refine GC (q a s3 σ O _ Q Y) λv s4 O6=>?_;obtain⟨x4,H4,I4,r4,q4⟩:=O6;refine GC (r a s4 σ H4 N x4 d v _ I4 T r4 q4) λnew s5 O7=>?_;obtain⟨x5,H5,I5,r5,q5⟩:=O7;exact GC (hs a s5 σ H5 x1 g x5 b c new _ I5 f j r5 q5) λ_ s6 ⟨H6,I6,q6⟩=>⟨σ,H6,I6,q6⟩
noncomputable def O8(f:Int->Int->Int):O1:=λx y H Q=>∃i j,x=.int i/\y=.int j/\Q (.int (f i j)) H
theorem Br:N9 X .Add (O8 λi j=>i+j):=by
 intro a s σ H x y v u Q I b c h;obtain⟨i,j,d,e,q⟩:=h;subst d;subst e;obtain⟨t,rfl⟩:=b;obtain⟨t',rfl⟩:=c;exact iadd_int ⟨.int _,H,I.tok _,⟨_,rfl⟩,q⟩
theorem Bs:N9 X .Sub (O8 λi j=>i - j):=by
 intro a s σ H x y v u Q I b c h;obtain⟨i,j,d,e,q⟩:=h;subst d;subst e;obtain⟨t,rfl⟩:=b;obtain⟨t',rfl⟩:=c;exact isub_int ⟨.int _,H,I.tok _,⟨_,rfl⟩,q⟩
end
section
def Bt(c:TT)(f:TS):TS:=λD σ H=>∃W:Nat->St->Hp->Prop,(∃m,W m σ H)/\∀m σ H,W m σ H ->
 c σ H λb a=>if b=b8 then ∃N:St->Hp->Prop,(∀d H',N d H'->∃e,e<m/\W e d H')/\f {D with nx:=N,ct:=N,bk:=D.nx} σ a else D.nx σ a
theorem u9(r:U2 (gs X.prog X.w) X.A X.env X.xe)(z:PT X c B)(C:Hy X body G):PS X (.While c body [] pos) (Bt B G):=by
 intro a s σ H D I h;obtain⟨W,⟨m0,J⟩,d⟩:=h;refine wpAny_While (codeAny_whileLoop (λn s'=>∃t H',Inv X a t H' s'/\W n t H') ?_ m0 ⟨σ,H,I,J⟩);rintro n s1 ⟨i,u,L,O⟩;refine MJ r (GC (z a s1 i u _ L (d n i u O)) λb s2 Q=>?_);obtain⟨v,x,j⟩:=Q;cases b with
 |true =>
  obtain⟨N,y,j⟩:=j;rw[Zq rfl];refine MJ r (GC (C a s2 i v _ x j) λf s3 k=>?_);cases f with
  |next =>
   obtain⟨e,g,l,m⟩:=k;obtain⟨o,p,q⟩:=y e g m;exact⟨o,p,e,g,l,q⟩
  |cont =>
   obtain⟨e,g,l,m⟩:=k;obtain⟨o,p,q⟩:=y e g m;exact⟨o,p,e,g,l,q⟩
  |_=>exact k
 |false =>
  rw[Zr mu];exact ML ⟨i,v,x,j⟩
end
structure It where
 go:Nat->Hp->Prop
 N_:Nat->Hp->V->Hp->Prop
 stop:Nat->Hp->Prop
def jB(X:Cx)(a:List (hH×Obj))(H:Hp)(b:hH):Prop :=
 H b=b6/\b≠X.env.locals/\b∉X.fs/\(b∈X.ex\/X.s₀.heap.objs.size<=b)/\(∀x c,X.env.cells.lookup x=a5 c->c≠b)/\∀p∈X.pn++a,p.1≠b
theorem Inv.Bu(I:Inv X a σ H s)(d:s.heap.objs.size<=b)(f:H' b=b6):jB X a H' b:=by
 refine⟨f,KX (lg I.lt d),I.Be d,.inr (Jq I.sz d),λx c e z=>?_,λp g z=>?_⟩
 ·obtain⟨v,q⟩:=I.cell x c e;exact absurd (lg q.lt (by rw[z];exact d)) (C0 _)
 ·exact absurd (lg (hV (I.pin p g).1) (by rw[z];exact d)) (C0 _)
structure Turn(P:D3)(w:H_)(K:PySem.W.Frag)(tg:rr)(J:It)(fp:List hH)(it:hH)(tn:Nat->Ju->Prop):Prop where
 mem:it∈fp
 obj:∀i h,tn i h->∀b∈fp,∃o,h.get? b=a5 o/\∀v,o.data≠.cell v
 keep:∀i h h',tn i h->(∀b∈fp,∀o,h.get? b=a5 o->h'.get? b=a5 o)->tn i h'
 item:∀(X:Cx),X.prog=P->X.w=w->X.K=K->X.calm=b8->∀(i:Nat) (pins:List (hH×Obj)) (s:gj) (σ:St) (H:Hp) (E:et->gj->Prop),Inv X pins σ H s->(∀b∈fp,jB X pins H b)->tn i s.heap->J.go i H ->
  eH (gs P w) X.A (R' (.ref it)) (λr s1=>∃u,r=a5 u /\
   eH (gs P w) X.A (RO tg (.ref it) u) (λ_ s2=>∃x H',Inv X pins σ H' s2/\RelV x u/\J.N_ i H x H'/\tn (i+1) s2.heap/\∀b∈fp,H' b=b6) E s1) E s
 done:∀(X:Cx),X.prog=P->X.w=w->X.K=K->X.calm=b8->∀(i:Nat) (pins:List (hH×Obj)) (s:gj) (σ:St) (H:Hp) (E:et->gj->Prop),Inv X pins σ H s->(∀b∈fp,jB X pins H b)->tn i s.heap->J.stop i H ->
  eH (gs P w) X.A (R' (.ref it)) (λr s1=>r=b6/\Inv X pins σ H s1) E s
 self:∀(A:M0) (i:Nat) (s:gj) (Q:et->gj->Prop) (E:et->gj->Prop),tn i s.heap->Q (.ref it) s->eH (gs P w) A (Wd (.ref it)) Q E s
abbrev TI:=St->Hp->(It->Hp->Prop)->Prop
def RE(X:Cx)(a:List (hH×Obj))(σ:St)(e:rr)(R:It->Hp->Prop)(f:et)(s2:gj):Prop :=
 ∃(it:hH) (c:List hH) (d:Nat->Ju->Prop) (J:It) (H':Hp),f=.ref it/\Inv X a σ H' s2/\Turn X.prog X.w X.K e J c it d/\d 0 s2.heap/\(∀b∈c,jB X a H' b)/\R J H'
def PI(X:Cx)(c b:rr)(d:TI):Prop :=
 ∀(a:List (hH×Obj)) (s:gj) (σ:St) (H:Hp) (R:It->Hp->Prop),Inv X a σ H s->d σ H R ->
  eH (gs X.prog X.w) X.A (GV b X.env) (λv s1=>eH (gs X.prog X.w) X.A (Wd v) (RE X a σ c R) X.xe s1) X.xe s
theorem u_(ho:s.heap.get? it=a5 o)(b:o.cls=.type n)(c:o.data=.fields vs)
    (d:["enumerate","zip","dict_itemiterator","dict_reverseitemiterator","odict_iterator","itertools.zip_longest","itertools.pairwise"].contains n=cc) (a:Q () s):eH M A (RO e (.ref it) u) Q E s:=by
  unfold RO;cases e<;>first
    | exact c4 a
    | (cases u<;>first
        | exact c4 a
        | (refine bD (Yc ho ?_)
           rw[b,c];show eH M A (if (["enumerate","zip","dict_itemiterator","dict_reverseitemiterator","odict_iterator","itertools.zip_longest","itertools.pairwise"].contains n&&vs[0]?==a5 (G2 _))=b8 then _ else _) Q E s;rw[Zr (by intro h;rw[d,Ya]at h;cases h)];exact c4 a))
noncomputable def O_(K:PySem.W.Frag)(a:hH):It :=
 ⟨λi H=>∃xs x,GY K H a xs/\xs[i]?=a5 x,λi H x H'=>H'=H/\∀xs,GY K H a xs->xs[i]?=a5 x,λi H=>∃xs,GY K H a xs/\xs.length<=i⟩
noncomputable def O'(K:PySem.W.Frag)(a:hH):It :=
 ⟨λi H=>∃xs x,Hh K H a xs/\xs[i]?=a5 x,λi H x H'=>H'=H/\∀xs,Hh K H a xs->xs[i]?=a5 x,λi H=>∃xs,Hh K H a xs/\xs.length<=i⟩
noncomputable def Oa(lo:Int)(n:Nat):It:=⟨λi _=>i<n,λi H x H'=>H'=H/\x=.int (lo+i),λi _=>n<=i⟩
theorem tu{K:PySem.W.Frag}(a it:hH):Turn P w K tg (O_ K a) [it] it (λi h=>h.IsListIter it a i) where
 mem:=by simp
 obj:=λi h st b g=>by
  have e:b=it:=by simpa using g
  subst e;obtain⟨o,e,c,d⟩:=st;exact⟨o,e,λv z=>by rw[d]at z;cases z⟩
 keep:=λi h h' st k=>st.at λo e=>k it (by simp) o e
 item:=by
  intro X m n q G i f s σ H E I j st r;subst m n q;obtain⟨xs,x,l,t⟩:=r;obtain⟨J,rv,p,hz⟩:=I.list l;obtain⟨u,L,N⟩:=rv.get t;obtain⟨y,A,O,B,C,D⟩:=j it (by simp);refine wpAny_pyNext_list_item st p.isList (x:=u) (by simpa using L) λh' st' Q=>?_;have T:Inv X f σ H {s with heap:=h' }:=I.turned (t':=s.toks) (λb o g e=>(Q.2 b g).trans e) y A B C D;obtain⟨o,e,c,d⟩:=id st';exact⟨u,rfl,u_ (s:={s with heap:=h' }) e c d (by decide) ⟨x,H,T,N,⟨rfl,λys Y=>by rw[I.uX Y l];exact t⟩,st',λb g=>(j b g).1⟩⟩
 done:=by
  intro X m n q G i f s σ H E I j st r;subst m n q;obtain⟨xs,l,t⟩:=r;obtain⟨J,rv,p,hz⟩:=I.list l;obtain⟨y,A,O,B,C,D⟩:=j it (by simp);have hl:=rv.length;exact wpAny_pyNext_list_end (I.ok.hd G) st p.isList (by simp;lia) λh' eb=>⟨rfl,I.turned (t':=s.toks) (λb o g e=>eb b o g e) y A B C D⟩
 self:=λ_ _ _ _ _ st h=>wpAny_pyIter_listiter st h
theorem pH{K:PySem.W.Frag}(a it:hH):Turn P w K tg (O' K a) [it] it (λi h=>h.IsTupleIter it a i) where
 mem:=by simp
 obj:=λi h st b g=>by
  have e:b=it:=by simpa using g
  subst e;obtain⟨o,e,c,d⟩:=st;exact⟨o,e,λv z=>by rw[d]at z;cases z⟩
 keep:=λi h h' st k=>st.at λo e=>k it (by simp) o e
 item:=by
  intro X m n q J i f s σ H E I j st r;subst m n q;obtain⟨xs,x,l,t⟩:=r;obtain⟨y,rv,p,hz⟩:=I.tuple l;obtain⟨u,L,N⟩:=rv.get t;obtain⟨A,B,O,C,D,G⟩:=j it (by simp);refine wpAny_pyNext_tuple_item st (show s.heap.IsTuple a y.toArray from p) (x:=u) (by simpa using L) λh' st' Q=>?_;have T:Inv X f σ H {s with heap:=h' }:=I.turned (t':=s.toks) (λb o g e=>(Q.2 b g).trans e) A B C D G;obtain⟨o,e,c,d⟩:=id st';exact⟨u,rfl,u_ (s:={s with heap:=h' }) e c d (by decide) ⟨x,H,T,N,⟨rfl,λys Y=>by rw[I.tq Y l];exact t⟩,st',λb g=>(j b g).1⟩⟩
 done:=by
  intro X m n q J i f s σ H E I j st r;subst m n q;obtain⟨xs,l,t⟩:=r;obtain⟨y,rv,p,hz⟩:=I.tuple l;obtain⟨A,B,O,C,D,G⟩:=j it (by simp);have hl:=rv.length;exact wpAny_pyNext_tuple_end (I.ok.hd J) st (show s.heap.IsTuple a y.toArray from p) (by simp;lia) λh' eb=>⟨rfl,I.turned (t':=s.toks) (λb o g e=>eb b o g e) A B C D G⟩
 self:=λ_ _ _ _ _ st h=>wpAny_pyIter_tupleiter st h
theorem pI{K:PySem.W.Frag}(it:hH)(lo:Int)(n:Nat):Turn P w K L (Oa lo n) [it] it (λi h=>IsRangeIter h it (lo+(i:Nat) * 1) ((n:Int) - (i:Nat)) 1) where
 mem:=by simp
 obj:=λi h st b c=>by
  have e:b=it:=by simpa using c
  subst e;exact⟨_,st,λv z=>by
   have A:WD _=Zi v:=z;cases A⟩
 keep:=λi h h' st k=>k it (by simp) _ st
 item:=by
  intro X f g j l i a s σ H E I d st m;subst f g j;obtain⟨p,q,B,r,u,x⟩:=d it (by simp);have W:=Walks.range (prog:=X.prog) (w:=X.w) (I.ok.hd l) it lo 1 n;refine W.item i s _ _ m st λv h' y C st' D=>?_;obtain⟨t,rfl⟩:=C;have G:Inv X a σ H {s with heap:=h',toks:=y}:=I.turned (λb o c e=>D b o (by simpa using c) e) p q r u x;refine⟨_,rfl,u_ (s:={s with heap:=h',toks:=y}) (n:="range_iterator") st' rfl rfl (by decide) ⟨.int (lo+i),H,G,⟨t,?_⟩,⟨rfl,rfl⟩,st',λb c=>(d b c).1⟩⟩;rw[Int.mul_one]
 done:=by
  intro X f g j l i a s σ H E I d st m;subst f g j;obtain⟨p,q,B,r,u,x⟩:=d it (by simp);exact wpAny_pyNext_range_end (I.ok.hd l) st (by have:n<=i:=m;lia) λh' J=>⟨rfl,I.turned (t':=s.toks) (λb o c e=>J b o c e) p q r u x⟩
 self:=λ_ _ _ _ _ st h=>wpAny_pyIter_rangeiter st h
section
def DH(K:PySem.W.Frag)(c:TE):TI:=λσ H R=>c σ H λx b=>∃a,x=.ref a/\(∃xs,GY K b a xs)/\R (O_ K a) b
def FP(K:PySem.W.Frag)(c:TE):TI:=λσ H R=>c σ H λx b=>∃a,x=.ref a/\(∃xs,Hh K b a xs)/\R (O' K a) b
theorem yB(hl:PE X l f):PI X r l (DH X.K f):=by
 intro c s σ H R I h;refine GC (hl c s σ H _ I h) λv s1 g=>?_;obtain⟨x,i,d,j,k⟩:=g;obtain⟨a,e,⟨xs,m⟩,q⟩:=k;subst e;cases j;obtain⟨t,rv,p,hz⟩:=d.list m;refine Ti p.isList ?_;refine⟨s1.heap.objs.size,[s1.heap.objs.size],_,_,i,rfl,d.kept (t':=s1.toks) λb o e=>df _ e,tu a _,⟨_,hY _ rfl,rfl,rfl⟩,λb n=>?_,q⟩;have e:b=s1.heap.objs.size:=by simpa using n
 subst e;exact d.Bu (i3 _) (d.Gz.fresh (i3 _))
theorem Bv(hl:PE X l f):PI X t l (FP X.K f):=by
 intro c s σ H R I h;refine GC (hl c s σ H _ I h) λv s1 g=>?_;obtain⟨x,i,d,j,k⟩:=g;obtain⟨a,e,⟨xs,m⟩,q⟩:=k;subst e;cases j;obtain⟨n,rv,p,hz⟩:=d.tuple m;refine Yb (show s1.heap.IsTuple a n.toArray from p) ?_;refine⟨s1.heap.objs.size,[s1.heap.objs.size],_,_,i,rfl,d.kept (t':=s1.toks) λb o e=>df _ e,pH a _,⟨_,hY _ rfl,rfl,rfl⟩,λb r=>?_,q⟩;have e:b=s1.heap.objs.size:=by simpa using r
 subst e;exact d.Bu (i3 _) (d.Gz.fresh (i3 _))
theorem vb{lo a:Int}(I:Inv X c σ H s)(g:-(2 ^ 62)<=lo)(h:lo<2 ^ 62)(i:-(2 ^ 62)<=a)(j:a<2 ^ 62)
  (q:R (Oa lo (a - lo).toNat) H):eH (gs X.prog X.w) X.A (Wd (.ref s.heap.objs.size)) (RE X c σ n R) E {s with heap:=s.heap.push {cls:=.type "range",data:=.fields #[.int lo t,.int a u,.int 1 v]},toks:=f}:=by
 refine wpAny_pyIter_range (IsRange.new ..) (small_one g h i j) ?_;have d:Inv X c σ H {s with heap:=s.heap.push {cls:=.type "range",data:=.fields #[.int lo t,.int a u,.int 1 v]},toks:=f}:=I.kept λb o e=>df _ e;refine⟨(s.heap.push {cls:=.type "range",data:=.fields #[.int lo t,.int a u,.int 1 v]}).objs.size,[(s.heap.push {cls:=.type "range",data:=.fields #[.int lo t,.int a u,.int 1 v]}).objs.size],_,_,H,rfl,
  d.kept (t':=f) λb o e=>df _ e,pI _ lo (a - lo).toNat,?_,λb k=>?_,q⟩
 ·have l:lo+((0:Nat):Int) * 1=lo:=by simp
  have m:(((a - lo).toNat:Nat):Int) - ((0:Nat):Int)=YU lo a 1:=by rw[rangeSize_one];split<;>lia
  show IsRangeIter _ _ (lo+((0:Nat):Int) * 1) ((((a - lo).toNat:Nat):Int) - ((0:Nat):Int)) 1;rw[l,m];exact hY _ rfl
 ·have e:b=(s.heap.push {cls:=.type "range",data:=.fields #[.int lo t,.int a u,.int 1 v]}).objs.size:=by simpa using k
  subst e;exact d.Bu (i3 _) (d.Gz.fresh (i3 _))
def DI(a:TA):TI:=λσ H R=>a σ H λvs b=>∃j:Int,vs=[.int j]/\-(2 ^ 62)<=j/\j<2 ^ 62/\R (Oa 0 j.toNat) b
theorem tv(d:Gl X "range")(f:X.mg "range"=b6)(g:PA X [a] i)(hs:ke [a] X.env=[(cc,GV a X.env)]:=by rfl):PI X o (.Call (.Name "range" p) [a] [] pos) (DI i):=by
 intro b s σ H R I h;refine Call_ (cR I d f boot_range (N8 (GC (g pos b s σ H _ I h) λus s1 ⟨vs,u,k,l,c⟩=>?_) hs rfl));obtain⟨j,e,c,m,q⟩:=c;subst e;cases l with
 |cons r n =>
  cases n;obtain⟨t,rfl⟩:=r;exact call_range_1 (vb k ⋯ ⋯ c m (by simpa using q))
def FQ(c:TI)(g:TG)(d:TS):TS:=λD σ H=>c σ H λJ e=>∃W:Nat->Nat->St->Hp->Prop,(∃m,W 0 m σ e)/\∀i m σ H,W i m σ H ->
 (J.stop i H/\D.nx σ H)\/(J.go i H/\∃N:St->Hp->Prop,(∀a H',N a H'->∃b,b<m/\W (i+1) b a H')/\∀x H',J.N_ i H x H'->g x σ H' λf h=>d {D with nx:=N,ct:=N,bk:=D.nx} f h)
noncomputable def jC(a:List hH)(h:Ju):List (hH×Obj):=a.filterMap λb=>(h.get? b).map λo=>(b,o)
theorem eL(a:b∈c)(e:h.get? b=a5 o):(b,o)∈jC c h:=Kr.mpr ⟨b,a,by rw[e];rfl⟩
theorem tw(a:p∈jC c h):p.1∈c/\h.get? p.1=a5 p.2:=by
 obtain⟨b,d,e⟩:=Kr.mp a;cases q:h.get? b with
 |none=>rw[q]at e;cases e
 |some o =>
  rw[q]at e;have f:(b,o)=p:=GI e;subst f;exact⟨d,q⟩
theorem Inv.pinned(I:Inv X a σ H s)(h:∀b∈c,jB X a H b)(ho:∀b∈c,∃o,s.heap.get? b=a5 o/\∀v,o.data≠.cell v):Inv X (a++jC c s.heap) σ H s :=
 I.dP λp i=>(qd.mp i).elim (λz=>I.pin p (ro _ z)) λz=>by
  obtain⟨f,e⟩:=tw z;obtain⟨j,k,l,_⟩:=h p.1 f;obtain⟨o,g,d⟩:=ho p.1 f;rw[e]at g;cases g;exact⟨e,j,k,l,d⟩
theorem Inv.jD(I:Inv X (a++c) σ H s):Inv X a σ H s:=I.dP λp b=>I.pin p (ro _ (O0 _ b))
theorem Bw(t:U2 (gs X.prog X.w) X.A X.env X.xe)(hc:X.calm=b8)(hi:PI X tg p wi)(hg:PG X tg g)(c:Hy X body tb)
  (hs:∀x,Lm p X.env x=pure x:=by intro _;rfl):PS X (.For tg p body [] pos) (FQ wi g tb):=by
 intro a s σ H D I h;refine wpAny_For (GC (hi a s σ H _ I h) λv s1 h1=>GC h1 λN' s2 h2=>?_) hs;obtain⟨it,y,tn,J,H2,e,I2,T,st2,f2,W,⟨m0,w0⟩,z⟩:=h2;subst e;have O:∀{H':Hp},(∀b∈y,H' b=b6)->∀b∈y,jB X a H' b:=λhn b c=>⟨hn b c,(f2 b c).2⟩
 refine codeAny_forLoop_any (λn s'=>∃i B H',Inv X a B H' s'/\tn i s'.heap/\(∀b∈y,H' b=b6)/\W i n B H') ?_ m0 ⟨0,σ,H2,I2,st2,λb c=>(f2 b c).1,w0⟩;rintro n s3 ⟨i,C,L,I3,G8,MO,w3⟩;rcases z i n C L w3 with⟨G,qn⟩|⟨go,N,hN,XQ⟩
 ·refine MJ t (GC (T.done X rfl rfl rfl hc i a s3 C L X.xe I3 (O MO) G8 G) λr s4 Pc=>?_);obtain⟨Q,I4⟩:=Pc;subst Q;exact ML ⟨C,L,I4,qn⟩
 ·refine MJ t (GC (T.item X rfl rfl rfl hc i a s3 C L X.xe I3 (O MO) G8 go) λr s4 Pd=>?_);obtain⟨u,Q,h4⟩:=Pd;subst Q;refine MJ t (GC h4 λ_ s5 Pe=>?_);obtain⟨x,H5,I5,r5,y5,Y,Pf⟩:=Pe;have Ph:=I5.pinned (O Pf) (T.obj _ _ Y);refine MJ t (GC (hg _ s5 C H5 x u _ Ph r5 (XQ x H5 y5)) λ_ s6 Pj=>?_);obtain⟨σ6,H6,I6,q6⟩:=Pj;refine MJ t (GC (c _ s6 σ6 H6 _ I6 q6) λf s7 q=>?_);have Zc:∀{j:St} {k:Hp},Inv X (a++jC y s5.heap) j k s7->N j k->∃m,m<n/\∃i B H',Inv X a B H' s7/\tn i s7.heap/\(∀b∈y,H' b=b6)/\W i m B H':=λ{j k} l n7=>by
   obtain⟨m',hm,w7⟩:=hN j k n7;refine⟨m',hm,i+1,j,k,l.jD,T.keep _ _ _ Y λb c o e=>(l.pin (b,o) (ro _ (ro _ (eL c e)))).1,λb c=>?_,w7⟩;obtain⟨o,e,d⟩:=T.obj _ _ Y b c;exact(l.pin (b,o) (ro _ (ro _ (eL c e)))).2.1
  cases f with
  |brk=>obtain⟨j,k,l,q⟩:=q;exact⟨j,k,l.jD,q⟩
  |ret v=>obtain⟨x7,j,k,l,r7,q⟩:=q;exact⟨x7,j,k,l.jD,r7,q⟩
  |_=>obtain⟨j,k,l,n7⟩:=q;exact Zc l n7
end
abbrev R2:=V->V->Hp->VK->Prop
def HS(X:Cx)(f:et->et->Sem et)(r:R2):Prop :=
 ∀(a:List (hH×Obj)) (s:gj) (σ:St) (H:Hp) (x y:V) (v u:et) (Q:VK),Inv X a σ H s->RelV x v->RelV y u->r x y H Q ->
  eH (gs X.prog X.w) X.A (f v u) (EP X a σ Q) X.xe s
def gI(X:Cx)(f:et)(r:List V->Hp->VK->Prop):Prop :=
 ∀(a:List (hH×Obj)) (s:gj) (σ:St) (H:Hp) (xs:List V) (us:List et) (Q:VK),Inv X a σ H s->Vals xs us->r xs H Q ->
  eH (gs X.prog X.w) X.A (Mj f us) (EP X a σ Q) X.xe s
def FR(X:Cx)(r:V->Hp->(Bool->Hp->Prop)->Prop):Prop :=
 ∀(a:List (hH×Obj)) (s:gj) (σ:St) (H:Hp) (x:V) (v:et) (Q:Bool->Hp->Prop),Inv X a σ H s->RelV x v->r x H Q ->
  eH (gs X.prog X.w) X.A (Y8 v) (TP X a σ Q) X.xe s
noncomputable def rI(C:Int->Int->Prop)(g:Int->Int->V):R2:=λx y H Q=>∃i j,x=.int i/\y=.int j/\C i j/\Q (g i j) H
noncomputable def Lp(g:Int->Int->V):R2:=λx y H Q=>∃i j,x=.int i/\y=.int j/\Q (g i j) H
section
theorem Ob{g:Int->Int->Int}
  (YR:∀(i j:Int) (t u:Tok) (s:gj) (Q:et->gj->Prop) (E:et->gj->Prop),C i j->Q (.int (g i j) s.toks) {s with toks:=s.toks+1}->eH (gs X.prog X.w) X.A (f (.int i t) (.int j u)) Q E s) :
  HS X f (rI C λi j=>.int (g i j)):=by
 intro a s σ H x y v u Q I b c h;obtain⟨i,j,rfl,rfl,d,q⟩:=h;obtain⟨t,rfl⟩:=b;obtain⟨t',rfl⟩:=c;exact YR i j t t' s _ _ d ⟨.int (g i j),H,I.tok _,⟨_,rfl⟩,q⟩
theorem DJ{g:Int->Int->Int}
  (YR:∀(i j:Int) (t u:Tok) (s:gj) (Q:et->gj->Prop) (E:et->gj->Prop),Q (.int (g i j) s.toks) {s with toks:=s.toks+1}->eH (gs X.prog X.w) X.A (f (.int i t) (.int j u)) Q E s) :
  HS X f (Lp λi j=>.int (g i j)):=by
 intro a s σ H x y v u Q I b c h;obtain⟨i,j,rfl,rfl,q⟩:=h;obtain⟨t,rfl⟩:=b;obtain⟨t',rfl⟩:=c;exact YR i j t t' s _ _ ⟨.int (g i j),H,I.tok _,⟨_,rfl⟩,q⟩
theorem Bx{g:Int->Int->Bool}
  (YR:∀(i j:Int) (t u:Tok) (s:gj) (Q:et->gj->Prop) (E:et->gj->Prop),Q (.bool (g i j)) s->eH (gs X.prog X.w) X.A (f (.int i t) (.int j u)) Q E s) :
  HS X f (Lp λi j=>.bl (g i j)):=by
 intro a s σ H x y v u Q I b c h;obtain⟨i,j,rfl,rfl,q⟩:=h;obtain⟨t,rfl⟩:=b;obtain⟨t',rfl⟩:=c;exact YR i j t t' s _ _ ⟨.bl (g i j),H,I,rfl,q⟩
def FT(i j:Int):Prop:=0<j/\j<1073741824
def FU(i j:Int):Prop:=0<=j/\j<=1000000/\i.natAbs<2 ^ 64
def By(i j:Int):Prop:=(-(2 ^ 64)<i/\i<2 ^ 64)\/(-(2 ^ 64)<j/\j<2 ^ 64)
theorem By.ok(h:By i j):IntMulOk i j:=by
 rcases h with⟨a,b⟩|⟨a,b⟩
 ·exact .of_left (intBits_le_64 a b)
 ·exact .of_right (intBits_le_64 a b)
theorem b_:HS X (Nm .Add) (Lp λi j=>.int (i+j)):=DJ λ_ _ _ _ _ _ _ q=>add_int q
theorem pJ:HS X (Nm .Sub) (Lp λi j=>.int (i - j)):=DJ λ_ _ _ _ _ _ _ q=>sub_int q
theorem jE:HS X (Nm .Mult) (rI By λi j=>.int (i * j)):=Ob λ_ _ _ _ _ _ _ a q=>mul_int q a.ok
theorem yC:HS X (Nm .FloorDiv) (rI FT λi j=>.int (i / j)):=Ob λi j _ _ _ _ _ a q=>by
 have b:(0:Int)<j:=a.1;have c:j<1073741824:=a.2;exact floordiv_int ⋯ (by rw[Int.fdiv_eq_ediv_of_nonneg i ⋯];exact q) (.inl (PyProof.noPylong_small ⋯))
theorem dW:HS X (Nm .Mod) (rI (λ_ j=>0<j) λi j=>.int (i % j)):=Ob λi j _ _ _ _ _ a q=>by
 have b:(0:Int)<j:=a;exact mod_int' ⋯ (by rw[Int.fmod_eq_emod_of_nonneg i ⋯];exact q)
theorem mM:HS X (Nm .Pow) (rI FU λi j=>.int (i ^ j.toNat)):=Ob λ_ _ _ _ _ _ _ a q=>pow_int_small a.1 a.2.1 a.2.2 q
end
section
theorem mO(I:Inv X a σ H s)(q:Q (.bl k) H)(e:k=k'):EP X a σ Q (.bool k') s:=by
 subst e;exact⟨.bl k,H,I,rfl,q⟩
theorem DK:HS X (Le .Lt) (Lp λi j=>.bl (d6 (i<j))):=Bx λ_ _ _ _ _ _ _ q=>lt_int q
theorem DL:HS X (Le .Gt) (Lp λi j=>.bl (d6 (j<i))):=Bx λ_ _ _ _ _ _ _ q=>gt_int q
theorem DM:HS X (Le .GtE) (Lp λi j=>.bl (d6 (j<=i))):=Bx λ_ _ _ _ _ _ _ q=>ge_int q
theorem Bz:HS X (Le .Is) (λx y H Q=>y=.Gv/\Q (.bl (d6 (x=.Gv))) H):=by
 intro a s σ H x y v u Q I b c h;obtain⟨rfl,q⟩:=h;cases c;refine is_none_gen (mO I q ?_);cases x<;>first
  |(cases b;rfl)
  |(obtain⟨t,rfl⟩:=b;rfl)
theorem yD:HS X (Le .IsNot) (λx y H Q=>y=.Gv/\Q (.bl (!d6 (x=.Gv))) H):=by
 intro a s σ H x y v u Q I b c h;obtain⟨rfl,q⟩:=h;cases c;refine isnot_none_gen (mO I q ?_);cases x<;>first
  |(cases b;rfl)
  |(obtain⟨t,rfl⟩:=b;rfl)
def DN(K:PySem.W.Frag)(x:V)(H:Hp)(k:Bool):Prop :=
 match x with
 |.Gv=>k=cc
 |.bl b=>k=b
 |.int i=>k=(i != 0)
 |.str y=>y.length<=dV/\k=((y.length:Int) != 0)
 |.N4 y=>y.size<=dV/\k=((y.size:Int) != 0)
 |.ref p=>(∃xs,GY K H p xs/\k=!xs.isEmpty)\/(∃xs,Hh K H p xs/\k=!xs.isEmpty)\/∃kvs,H p=a5 (.dK kvs)/\k=!kvs.isEmpty
 |_=>False
theorem pK(r:KV kvs vs):(!vs.isEmpty)=!kvs.isEmpty:=by
 cases r<;>rfl
theorem jF(r:Vals xs a):(!a.toArray.isEmpty)=!xs.isEmpty:=by
 cases r<;>simp
theorem fc:(dV:Nat)<2 ^ 63:=by rw[sizeLine_eq];decide
theorem BA:FR X (λx H Q=>∃k,DN X.K x H k/\Q k H):=by
 intro j s σ H x v Q I d h;obtain⟨k,e,q⟩:=h;have hl:=fc;have hs:dV=16777216:=sizeLine_eq;cases x with
 |Gv =>
  cases d;have a:k=cc:=e;subst a;exact truthy_none ⟨H,I,q⟩
 |bl b =>
  cases d;have a:k=b:=e;subst a;exact Lg ⟨H,I,q⟩
 |int i =>
  obtain⟨t,rfl⟩:=d;have a:k=(i != 0):=e;subst a;exact PySem.P.truthy_int ⟨H,I,q⟩
 |str y =>
  obtain⟨t,rfl⟩:=d;obtain⟨l,a⟩:y.length<=dV/\k=((y.length:Int) != 0):=e;subst a;exact PySem.P.truthy_str ⋯ ⟨H,I.tok _,q⟩
 |N4 y =>
  obtain⟨t,rfl⟩:=d;obtain⟨l,a⟩:y.size<=dV/\k=((y.size:Int) != 0):=e;subst a;exact PySem.W.truthy_bytes ⋯ ⟨H,I.tok _,q⟩
 |ref p =>
  cases d;have a:(∃xs,GY X.K H p xs/\k=!xs.isEmpty)\/(∃xs,Hh X.K H p xs/\k=!xs.isEmpty)\/∃kvs,H p=a5 (.dK kvs)/\k=!kvs.isEmpty:=e;rcases a with⟨xs,f,a⟩|⟨xs,f,a⟩|⟨kvs,f,a⟩
  ·subst a;obtain⟨n,r,g,hz⟩:=I.list f;have c:=r.length;exact wpAny_truthy_list g.isList (by simp only[hQ];lia) ⟨H,I.tok _,by rw[jF r];exact q⟩
  ·subst a;obtain⟨n,r,g,hz⟩:=I.tuple f;have c:=r.length;exact truthy_tuple g (by simp only[hQ];lia) ⟨H,I.tok _,by rw[jF r];exact q⟩
  ·subst a;obtain⟨hz,o,vs,r,m⟩:kvs.length<=dV/\(p==Ma)=cc/\∃vs,KV kvs vs/\s.heap.DictOf (aY X.prog X.w) p vs:=I.Gz p _ f;have c:kvs.length=vs.length:=Paired.length r;exact wpAny_truthy_dict o m ⋯ ⟨H,I.tok _,by rw[pK r];exact q⟩
 |_=>exact(show False from e).elim
theorem vc(d:PE X a e)(f:∀b,isTrue a X.env b=(do let v <-b;V2 a.pos;LG [v] (Y8 v))):
  PT X a (λσ H Q=>e σ H λx H'=>∃k,DN X.K x H' k/\Q k H'):=by
 intro c s σ H Q I h;exact isTrue_plain (GC (d c s σ H _ I h) λv s1 ⟨x,g,i,j,l⟩=>BA c s1 σ g x v Q i j l) (f _)
theorem pL:HS X (Nm .Add) (λx y H Q=>∃i j,x=.str i/\y=.str j/\i.length+j.length<=dV/\Q (.str (i++j)) H):=by
 intro a s σ H x y v u Q I b c h;obtain⟨i,j,rfl,rfl,hz,q⟩:=h;obtain⟨t,rfl⟩:=b;obtain⟨t',rfl⟩:=c;exact add_str (λt' d=>⟨.str (i++j),H,I.tok _,⟨_,rfl⟩,q⟩) hz
theorem vals1(r:Vals [x] us):∃u,us=[u]/\RelV x u:=by
 cases r with
 |cons a b=>cases b;exact⟨_,rfl,a⟩
theorem vals2(r:Vals [x,y] us):∃u a,us=[u,a]/\RelV x u/\RelV y a:=by
 cases r with
 |cons b c =>
  cases c with
  |cons d e=>cases e;exact⟨_,_,rfl,b,d⟩
theorem mP:gI X (.type "str") (λxs H Q=>∃i,xs=[.int i]/\i.natAbs.log2<1920/\Q (.str (Rc i)) H):=by
 intro a s σ H xs us Q I r h;obtain⟨i,rfl,hz,q⟩:=h;obtain⟨u,rfl,t,rfl⟩:=vals1 r;exact PySem.P.str_of_int hz ⟨.str _,H,I.tok _,⟨_,rfl⟩,q⟩
end
section
end
theorem jd.some_of(r:jd (a5 v) o):∃u,o=a5 u/\RelV v u:=by
 cases o with
 |none=>exact(show False from r).elim
 |some u=>exact⟨u,rfl,r⟩
section
end
structure Tw(K:PySem.W.Frag)(C:hH):Prop where
 pg:PySem.W.plainGet K C zy=b8
 hd:PySem.W.hasDictIn K C=b8
 po:PySem.W.plainOver K C=b8
 sa:PySem.W.findIn K (.ref C) "__setattr__"=a5 (a5 (.builtin "object.__setattr__"))
section
end
section
end
section
inductive jG(K:PySem.W.Frag)(H:Hp):V->et->Prop where
 |Gv:jG K H .Gv (.type "NoneType")
 |bl (x:Bool):jG K H (.bl x) (.type "bool")
 |int (i:Int):jG K H (.int i) (.type "int")
 |str (x:Str):jG K H (.str x) (.type "str")
 |N5 (x:UInt64):jG K H (.N5 x) (.type "float")
 |lst {a:hH} {xs:List V} (e:H a=a5 (.lst xs)):jG K H (.ref a) (.type "list")
 |Ia {a:hH} {o:Obj} {xs:List V} (e:H a=a5 (.Ia o (.lst xs))):jG K H (.ref a) (.type "list")
 |tup {a:hH} {xs:List V} (e:H a=a5 (.tup xs)):jG K H (.ref a) (.type "tuple")
 |dK {a:hH} {kvs:List (Key×V)} (e:H a=a5 (.dK kvs)):jG K H (.ref a) (.type "dict")
 |dT {a:hH} {kvs:List (List Key×V)} (e:H a=a5 (.dT kvs)):jG K H (.ref a) (.type "dict")
 |ins {a C dx:hH} {fs:List (Str×V)} (e:H a=a5 (.ins C dx fs)) (cl:Tw K C) (ha:PySem.W.findIn K (.ref C) "__class__"=a5 (a5 (.builtin "object.__class__")))
   (hn:PySem.W.specialIn K (.builtin "object.__class__") "__get__"=a5 (a5 (.builtin "getset_descriptor.__get__"))) (Tz:PySem.W.takesIn K (.builtin "object.__class__")=a5 b8)
   (hm:PySem.W.mroIn K C (.type "object")=a5 b8):jG K H (.ref a) (.ref C)
end
structure eM(k:Nat)(A:M0):Prop where
 hd:A.handled=b6
 dp:A.depth+3 * k+5<Y9
 un:A.units+16 * k+200<KJ
 gd:A.guards=a5 []
theorem eM.deeper(r:eM (k+1) A)(env:Env):eM k (A.deeper env) :=
 ⟨r.hd,by have:=r.dp;show A.depth+1+3 * k+5 < _;lia,by have:=r.un;show A.units+3+16 * k+200 < _;lia,r.gd⟩
theorem eM.depth(r:eM k A):A.depth<Y9:=by have:=r.dp;lia
def FV:TA:=λ_ H Q=>Q [] H
def DO(a:TE)(b:TA):TA:=λσ H Q=>a σ H λx c=>b σ c λxs d=>Q (x::xs) d
section
theorem dB:PA X [] FV:=λ_ _ _ _ H Q I h=>NW ⟨[],H,I,.nil,h⟩
theorem bH(b:PE X e te)(c:PA X es t)(hs:ke (e::es) X.env=(cc,GV e X.env)::ke es X.env:=by rfl):PA X (e::es) (DO te t):=by
 intro pos a s σ H Q I h;rw[hs];show eH _ _ (Yv ((cc,GV e X.env)::HR pos (ke es X.env))) _ _ s;refine Lx (GC (b a s σ H _ I h) λu s1 d=>?_);obtain⟨x,f,g,i,j⟩:=d;exact GC (c pos a s1 σ f _ g j) λus s2 ⟨xs,k,l,m,n⟩=>⟨x::xs,k,l,.cons i m,n⟩
def FW(t:TA):TE:=λσ H Q=>t σ H λxs a=>xs.length<=dV/\∀p,a p=b6->Q (.ref p) (upd a p (.tup xs))
theorem BB(h:PA X es t):PE X (.Tuple es x1 pos) (FW t):=by
 intro a s σ H Q I f;refine X7 (GC (h pos a s σ H _ I f) λus s1 ⟨xs,c,d,r,z,q⟩=>⟨by rw[<-r.length];exact z,?_⟩);have g:c s1.heap.objs.size=b6:=d.Gz.fresh (i3 _);refine⟨.ref s1.heap.objs.size,upd c s1.heap.objs.size (.tup xs),d.laid (t':=s1.toks) (λb u e=>df _ e) (i3 _) ?_,rfl,q _ g⟩;exact⟨z,us,r,⟨_,hY _ rfl,rfl,_,rfl⟩⟩
end
abbrev Sp:=List V->Hp->VK->XK->Prop
abbrev Lq:=List Env->Hp->gj->XK->et->gj->Prop
structure yE(P:D3)(w:H_)(K:PySem.W.Frag)(mg:Str->Option et)(base:Ju)(A:M0)(outer:List Env)(s:gj)(H:Hp):Prop where
 frames:A.frames=a5 outer
 mod:Mod K mg base
 bs:∀b o,base.get? b=a5 o->s.heap.get? b=a5 o/\H b=b6
 Kl:base.objs.size<=s.heap.objs.size
 je:s.heap.FunFrames base outer
 Lj:∀b∈G3 outer,H b=b6
 Gz:Ho P w H s.heap
 bare:QQ s.gens
def CE(outer:List Env)(P:D3)(w:H_)(H:Hp)(s:gj)(Q:VK)(u:et)(s':gj):Prop :=
 ∃v H',s'.os=s.os/\QQ s'.gens/\Un (G3 outer) [] H H' s.heap s'.heap/\Ho P w H' s'.heap/\RelV v u/\Q v H'
def CR(CX:Lq)(outer:List Env)(P:D3)(w:H_)(H:Hp)(s:gj)(Q:VK)(E:XK)(r:Result)(s':gj):Prop :=
 match r with
 |.ok (.ret u)=>CE outer P w H s Q u s'
 |.ok _=>False
 |.error e=>CX outer H s E e s'
structure gJ(P:D3)(w:H_)(K:PySem.W.Frag)(mg:Str->Option et)(base:Ju)(CX:Lq)(k:Nat)(f:hH)(fd:QC)(ps:List Str)(sp:Sp):Prop where
 len:∀vs H Q E,sp vs H Q E->vs.length=ps.length
 run:∀(A:M0) (outer:List Env) (s:gj) (H:Hp) (args:Args) (us:List et) (vs:List V) (Q:VK) (E:XK),eM k A->yE P w K mg base A outer s H->Xn s fd args (ps.zip us)->Vals vs us->sp vs H Q E ->
  OU (gs P w) A (.call (.ref f) args) (CR CX outer P w H s Q E) s
section
theorem Inv.DP(I:Inv X a σ H s):yE X.prog X.w X.K X.mg X.base X.A X.stack s H :=
 ⟨I.ok.frames,I.ok.mod,I.bs,Jq I.ok.Kl I.sz,I.stack,I.gF,I.Gz,I.bare⟩
theorem Inv.after(I:Inv X a σ H s)(h:CE X.stack X.prog X.w H s Q u s'):EP X a σ Q u s':=by
 obtain⟨v,H',os,c,e,f,r,q⟩:=h;obtain⟨i,g,d,t,j⟩:=s';obtain rfl:j=s.os:=os;exact⟨v,H',I.call (h':=i) (g':=g) (d':=d) (t':=t) (ch:=[]) e f c (λb z=>absurd z (by simp)),r,q⟩
end
def Binds(K:PySem.W.Frag)(c:QC)(a:List Str)(b:List et):Prop :=
 ∀(s:gj) (us:List et),K.In s.heap->(us++b).length=a.length->Xn s c ⟨us,[]⟩ (a.zip (us++b))
theorem Binds.all{K:PySem.W.Frag}(h:∀us:List et,us.length=a.length->XW b ⟨us,[]⟩=pure (a.zip us)):Binds K b a []:=λs us _ hl=>by
 rw[y1]at hl ⊢;exact .of_eq (h us hl)
def Passes(CX:Lq)(X:Cx)(E:XK):Prop:=∀(a:List (hH×Obj)) (σ:St) (H:Hp) (s:gj) (e:et) (s':gj),Inv X a σ H s->CX X.stack H s E e s'->X.xe e s'
section
theorem vd(F:gJ X.prog X.w X.K X.mg X.base CX k f j g sp)(l:eM k X.A)(m:Binds X.K j g b)(n:Vals c b)(o:Passes CX X E)
  (I:Inv X a σ H s) (r:Vals vs us) (h:sp (vs++c) H Q E):eH (gs X.prog X.w) X.A (Mj (.ref f) us) (EP X a σ Q) X.xe s:=by
 have i:Vals (vs++c) (us++b):=r.append n;have hl:(us++b).length=g.length:=by rw[<-i.length];exact F.len _ _ _ _ h
 refine Yd (Qm (F.run X.A X.stack s H ⟨us,[]⟩ (us++b) (vs++c) Q E l I.DP (m s us I.Jh hl) i h) λr s' d=>?_);cases r with
 |error e=>exact o a σ H s e s' I d
 |ok p =>
  cases p with
  |ret u=>exact I.after d
  |_=>exact LF d
end
section
end
structure dQ(N P:List Str)(sc:Ln):Prop where
 kind:sc.kind=.function
 co:sc.isCoroutine=cc
 gen:sc.isGenerator=cc
 nd:N.Nodup
 pre:N.take P.length=P
 par:∀x∈P,sc.names.lookup x=a5 .local\/sc.names.lookup x=a5 .cell
 Ls:∀y∈sc.names,y.2≠.free
theorem lq{kindOf:Str->Option Np}:∀{a:List (Str×et)}{m:Str->Option et},(∀v,(x,v)∉a)->W8 kindOf a m x=m x
 |[],_,_=>rfl
 |(n,v)::r,m,h=>by
  unfold W8;rw[lq λw b=>h w (mA _ b)];split
  ·have:x≠n:=by rintro rfl;exact h v r6
   simp[this]
  ·rfl
theorem lr{kindOf:Str->Option Np}:∀{a:List (Str×et)}{m:Str->Option et},(∀v,(x,v)∉a)->W9 kindOf a m x=m x
 |[],_,_=>rfl
 |(n,v)::r,m,h=>by
  unfold W9;rw[lr λw b=>h w (mA _ b)];split
  ·rfl
  ·have:x≠n:=by rintro rfl;exact h v r6
   simp[this]
theorem lu{kindOf:Str->Option Np}:∀{P:List Str}{vs:List et}{i:Nat}{m:Str->Option et},P.Nodup->P[i]?=a5 x->vs[i]?=a5 v->kindOf x=a5 .local ->
  W8 kindOf (P.zip vs) m x=a5 v
 |[],_,_,_,_,h,_,_=>by simp at h
 |_::_,[],_,_,_,_,h,_=>by simp at h
 |p::P,w::vs,0,m,c,a,b,hk=>by
  simp at a b;subst a;subst b;show W8 kindOf ((p,w)::P.zip vs) m p=_;unfold W8;rw[lq λv d=>(td.mp c).1 (O3 d).1,Zq hk];simp
 |p::P,w::vs,i+1,m,c,a,b,hk=>by
  show W8 kindOf ((p,w)::P.zip vs) m x=_;unfold W8;exact lu (i:=i) (td.mp c).2 (by simpa using a) (by simpa using b) hk
theorem lx{kindOf:Str->Option Np}:∀{P:List Str}{vs:List et}{i:Nat}{m:Str->Option et},P.Nodup->P[i]?=a5 x->vs[i]?=a5 v->kindOf x≠a5 .local ->
  W9 kindOf (P.zip vs) m x=a5 v
 |[],_,_,_,_,h,_,_=>by simp at h
 |_::_,[],_,_,_,_,h,_=>by simp at h
 |p::P,w::vs,0,m,c,a,b,hk=>by
  simp at a b;subst a;subst b;show W9 kindOf ((p,w)::P.zip vs) m p=_;unfold W9;rw[lr λv d=>(td.mp c).1 (O3 d).1,Zr hk];simp
 |p::P,w::vs,i+1,m,c,a,b,hk=>by
  show W9 kindOf ((p,w)::P.zip vs) m x=_;unfold W9;exact lx (i:=i) (td.mp c).2 (by simpa using a) (by simpa using b) hk
noncomputable def start(N:List Str)(vs:List V):St:=vs.map a5++mh (N.length - vs.length) b6
noncomputable def n9(CX:Lq)(P:D3)(w:H_)(K:PySem.W.Frag)(mg:Str->Option et)(base:Ju)(N:List Str)(a:Str)(scope:Ln)(f:hH)(b:et)(A:M0)(outer:List Env)(s:gj)(H:Hp)(E:XK):Cx where
 prog:=P
 w:=w
 K:=K
 mg:=mg
 base:=base
 A:=A.deeper (RF a scope s.heap.objs.size f b)
 N:=N
 s₀:=s
 H₀:=H
 env:=RF a scope s.heap.objs.size f b
 outer:=outer
 stack:=RF a scope s.heap.objs.size f b::outer
 ex:=[]
 calm:=b8
 fn:=λ_=>b8
 pn:=[]
 xe:=λe s'=>eH (gs P w) (A.deeper (RF a scope s.heap.objs.size f b)) (leaving (RF a scope s.heap.objs.size f b) e) (λ_ c=>CX outer H s E e c) (λd c=>CX outer H s E d c) s'
theorem n_{a:Ln}(h:a.names.lookup x=a5 .cell):∃c,(YS n a.names []).lookup x=a5 c:=by
 have q:=PySem.W.cellsFrom_some a.names n [] (.inl h);exact Qf.mp q
theorem tD{K:PySem.W.Frag}
  (S:dQ N l scope) (I:A.handled=b6) (j:yE P w K mg base A outer s H) (hl:vs.length=l.length) (r:Vals vs us)
  (x:InCallC s s.heap.objs.size (W8 (RF g scope s.heap.objs.size f B).kindOf (l.zip us) λ_=>b6) (YS (s.heap.objs.size+1) scope.names []) (W9 (RF g scope s.heap.objs.size f B).kindOf (l.zip us) λ_=>b6) s1) :
  Inv (n9 CX P w K mg base N g scope f B A outer s H E) [] (start N vs) H s1:=by
 have L:l.length<=N.length:=by have:=Zv Lz S.pre;rw[HJ]at this;lia
 obtain⟨o,O,rfl,hk⟩:=x.done;have C:∀b:hH,b∉(n9 CX P w K mg base N g scope f B A outer s H E).ex:=λb z=>absurd (show b∈([]:List hH) from z) (by simp);refine⟨⟨j.mod,S.kind,rfl,rfl,i3 _,λy z c o d=>?_,λy hy=>?_,λy c _ h=>?_,λ_=>I,Around.frames_deeper j.frames,.inr ⟨rfl,rfl⟩,λb z=>absurd z (C b),j.bs,j.Kl,λb _ _=>C b,λb z=>absurd z (C b),j.je,j.Lj⟩,
  rfl,j.bare,Un.kept hk,⟨_,x.toInCall.ns,λi y v o d Q=>?_⟩,λy c h=>⟨_,x.cell y c h⟩,j.Gz.fresh (i3 _),λy c h=>?_,λp m=>absurd (show p∈([]:List (hH×Obj)) from m) (by simp),j.Gz.kept hk,?_⟩
 ·exact name_of_addr x.apart (PySem.mem_of_lookup o) (PySem.mem_of_lookup d)
 ·have hy:scope.names.lookup y=a5 .cell\/scope.names.lookup y=a5 .free:=hy;rcases hy with hy|hy
  ·exact n_ hy
  ·exact absurd rfl (S.Ls _ (PySem.mem_of_lookup hy))
 ·exact Ni (x.above y c (PySem.mem_of_lookup h))
 ·have t:i<vs.length:=by
   unfold start at d;by_cases t:i<vs.length
   ·exact t
   ·rw[tj (by simpa using t)]at d;rw[JO]at d;split at d<;>cases d
  have J:vs[i]?=a5 v:=by
   unfold start at d;rw[x3 (by simpa using t),mN]at d;cases e:vs[i]? with
   |none=>rw[e]at d;cases d
   |some a=>rw[e]at d;cases d;rfl
  obtain⟨u,D,rv⟩:=r.get J;have m:l[i]?=a5 y:=by
   rw[<-S.pre,Ve ⋯];exact o
  have G:l.Nodup:=by rw[<-S.pre];exact S.nd.sublist (Xt _ _)
  refine⟨u,rv,?_⟩;rcases S.par y (HC m) with k|k
  ·exact .inl ⟨k,lu G m D k⟩
  ·obtain⟨c,e⟩:=n_ (n:=s.heap.objs.size+1) k;refine .inr ⟨.inl k,c,e,?_⟩;have q:=x.cell y c e;rw[lx G m D (by show scope.names.lookup y≠_;rw[k];decide)]at q;exact q
 ·exact j.Gz.fresh (Ni (x.above y c (PySem.mem_of_lookup h)))
 ·unfold start;show _=N.length;rw[l',ei,Of];lia
theorem AB{K:PySem.W.Frag}{B kV g C d ct L:et}
 (lk:K.lookup f=a5 ⟨L,od,.func (PySem.W.fnOf name a c body scope B kV g C O d ct),Mi⟩) (T:PySem.W.codeIn K d a=b8) (S:dQ N m scope)
    (h:∀vs H Q E,sp vs H Q E->vs.length=m.length)
    (Y:∀(A:M0) (outer:List Env) (s:gj) (H:Hp) (vs:List V) (Q:VK) (E:XK),eM k (A.deeper (RF a scope s.heap.objs.size f d))->sp vs H Q E ->
      ∃t,Hy (n9 CX P w K mg base N a scope f d A outer s H E) body t/\t {nx:=λ_ H'=>Q .Gv H',rt:=Q} (start N vs) H) :
    gJ P w K mg base CX (k+1) f (PySem.W.fnOf name a c body scope B kV g C O d ct) m sp:=by
  refine⟨h,λA outer s H args us vs Q E p i hb r D=>?_⟩;have hl:=h _ _ _ _ D;have G:K.In s.heap:=i.mod.Li.keeps λb o e=>(i.bs b o e).1;have z:s.heap.NoLimit:=i.mod.nolimit.keeps λb o e=>(i.bs b o e).1;have MQ:∀y∈m.zip us,scope.names.lookup y.1=a5 .local\/(scope.names.lookup y.1=a5 .cell/\((YS (s.heap.objs.size+1) scope.names []).lookup y.1).isSome=b8):=λ⟨n,v⟩ hy=>by
    rcases S.par n (O3 hy).1 with q|q
    · exact .inl q
    · exact .inr ⟨q,PySem.W.cellsFrom_some _ _ _ (.inl q)⟩
  refine codeAny_call_function p.depth (G _ _ lk) rfl S.co S.gen rfl (PySem.W.codeRec_of G T) (hb _ _ _ _ ?_);refine wpAny_newFunctionEnv_cells S.kind MQ λenv he s1 x=>?_;subst he;refine⟨z.keeps x.toInCall.keep,codeAny_func ?_⟩;obtain⟨t,ht,hq⟩:=Y A outer s H vs Q E (p.deeper _) D;have I:Inv (n9 CX P w K mg base N a scope f d A outer s H E) [] (start N vs) H s1:=tD S p.hd i hl r x;refine nc (ht [] s1 (start N vs) H _ I hq) (λfl s' hs=>?_) λe s' hs=>hs;have j:∀{l:St} {H':Hp} {v:V} {u:et},Inv (n9 CX P w K mg base N a scope f d A outer s H E) [] l H' s'->RelV v u->Q v H'->CE outer P w H s Q u s' :=
    λ{l H' v u} J rv q=>⟨v,H',J.os,J.bare,J.base,J.Gz,rv,q⟩
  cases fl with
  | ret u =>
    obtain⟨v,l,H',J,rv,q⟩:=hs;exact j J rv q
  | next =>
    obtain⟨l,H',J,q⟩:=hs;exact j (v:=V.Gv) (u:=u3) J rfl q
  | brk =>
    obtain⟨_,_,_,q⟩:=hs;exact LF q
  | cont =>
    obtain⟨_,_,_,q⟩:=hs;exact LF q
section
end
end L2
namespace HT
open PySem PyProof.Rows
section
open PySem.SeqAt
open PySem.AutoSeq1 (wpAny_loadPart')
open PySem.MeetsSeq PySem.MeetsSeq2 PySem.MeetsSeq3
end
section
theorem yF(o:Zn s.heap t vs.toArray)(p:Zn s.heap b ws.toArray)(f:vs≠[])
  (q:ws=[]->Q (.ref t) s) (r:ws≠[]->Q (.ref s.heap.objs.size) {s with heap:=s.heap.push {cls:=.type "tuple",data:=.seq (vs++ws).toArray}})
  (hsz:vs.length+ws.length<=dV):eH (gs prog w) A (Nm .Add (.ref t) (.ref b)) Q E s:=by
 obtain⟨⟨cls,dd,data,g⟩,ho,h,n,i⟩:=id o;obtain⟨⟨u,j,data2,k⟩,c,l,m,a⟩:=id p;simp only at h i l a;subst h i l a;have e:vs.toArray++ws.toArray=(vs++ws).toArray:=by simp
 by_cases d:ws=[]
 ·exact TH ⟨_,ho,rfl⟩ ⟨_,c,rfl⟩ UZ WX PySem.F.slot_tuple_add PySem.F.entry_tuple_add (PySem.F.args_tuple_add_2 _ _)
   (tuple_addW1 t b vs.toArray ws.toArray n m dd j g k (by simpa using f) (by simp[d])) ⟨ho,c,q d⟩
 ·refine TH ⟨_,ho,rfl⟩ ⟨_,c,rfl⟩ UZ WX PySem.F.slot_tuple_add PySem.F.entry_tuple_add (PySem.F.args_tuple_add_2 _ _)
   (tuple_addW2 t b vs.toArray ws.toArray n m dd j g k (by simpa using f) (by simpa using d) (by rw[hQ,hQ];exact hsz)) ⟨ho,c,?_⟩
  rw[e];exact r d
noncomputable def Io(n d:Nat):Option Int->Nat
 |none=>d
 |some v=>if v<0 then(v+(n:Int)).toNat else min v.toNat n
end
end HT
namespace L2
open PySem PySem.Spec PyProof.Rows
abbrev TO:=St->Hp->(Option Int->Hp->Prop)->Prop
def PO(X:Cx)(e:Option rr)(t:TO):Prop :=
 ∀(a:List (hH×Obj)) (s:gj) (σ:St) (H:Hp) (Q:Option Int->Hp->Prop),Inv X a σ H s->t σ H Q ->
  eH (gs X.prog X.w) X.A (evalPart e X.env) (λu s'=>∃o H',Inv X a σ H' s'/\IsPart u o/\Q o H') X.xe s
def yG:TO:=λ_ H Q=>Q b6 H
def DQ(t:TE):TO:=λσ H Q=>t σ H λx a=>∃i,x=.int i/\Q (a5 i) a
section
variable{X:Cx}{e:rr}{te:TE}{lo hi:Option rr}{tl th:TO}{pos p2:Pos}
theorem yH:PO X b6 yG:=by
 intro a s σ H Q I h;rw[evalPart_none];exact c4 ⟨b6,H,I,.none,h⟩
theorem yI(h:PE X e te):PO X (a5 e) (DQ te):=by
 intro a s σ H Q I b;rw[evalPart_some];refine GC (h a s σ H _ I b) λu s1 c=>?_;obtain⟨x,d,f,g,j⟩:=c;obtain⟨i,rfl,q⟩:=j;obtain⟨t,rfl⟩:=g;exact⟨a5 i,d,f,.int i t,q⟩
def KR(X:Cx)(r:V->Option Int->Option Int->Hp->VK->Prop):Prop :=
 ∀(a:List (hH×Obj)) (s:gj) (σ:St) (H:Hp) (x:V) (v b c:et) (lo hi:Option Int) (d:hH) (Q:VK),Inv X a σ H s->RelV x v->s.heap.IsSliceOf d b c .none->IsPart b lo->IsPart c hi->r x lo hi H Q ->
  ∃T id,Pa (.type T) "__getitem__"=pure (a5 (.builtin id))/\s.TypeIs v T/\eH (gs X.prog X.w) X.A (Tx v (.ref d)) (EP X a σ Q) X.xe s
theorem KR.or(h:KR X r)(h':KR X j):KR X (λx lo hi H Q=>r x lo hi H Q\/j x lo hi H Q):=by
 intro a s σ H x v b c lo hi d Q I f hs g i q;rcases q with q|q
 ·exact h a s σ H x v b c lo hi d Q I f hs g i q
 ·exact h' a s σ H x v b c lo hi d Q I f hs g i q
def TB(r:V->Option Int->Option Int->Hp->VK->Prop)(te:TE)(tl th:TO):TE:=λσ H Q=>te σ H λx a=>tl σ a λl b=>th σ b λu c=>r x l u c Q
theorem vf(g:KR X r)(i:PE X e te)(hl:PO X lo tl)(j:PO X hi th):PE X (.Subscript e (.Slice lo hi b6 p2) pos) (TB r te tl th):=by
 intro a s σ H Q I h;refine Ym (GC (i a s σ H _ I h) λv s1 k=>?_);obtain⟨x,m,n,o,p⟩:=k;refine wpAny_Slice (GC (hl a s1 σ m _ n p) λc s2 ⟨l,t,y,z,B⟩=>GC (j a s2 σ t _ y B) λd s3 C=>?_);obtain⟨u,f,D,G,J⟩:=C;rw[evalPart_none];refine c4 ?_;have L:Inv X a σ f {s3 with heap:=s3.heap.push {cls:=.type "slice",data:=.fields #[c,d,.none]}}:=D.kept (t':=s3.toks) λb ob q=>df _ q;obtain⟨T,id,N,O,Y⟩:=g a {s3 with heap:=s3.heap.push {cls:=.type "slice",data:=.fields #[c,d,.none]}} σ f x v c d l u s3.heap.objs.size Q L o (YE ..) z G J;show eH (gs X.prog X.w) X.A (SR e (.Slice lo hi b6 p2) v (.ref s3.heap.objs.size)) (EP X a σ Q) X.xe {s3 with heap:=s3.heap.push {cls:=.type "slice",data:=.fields #[c,d,.none]}};exact tail_any (ops:=[.ref s3.heap.objs.size,v]) O N Y (by with_unfolding_all rfl)
noncomputable def tE(xs:List V)(lo hi:Option Int):List V:=(xs.drop (HT.Io xs.length 0 lo)).take (HT.Io xs.length xs.length hi - HT.Io xs.length 0 lo)
theorem oa(xs:List V)(lo hi:Option Int):(tE xs lo hi).length<=xs.length:=by
 unfold tE;rw[HJ,XF];lia
noncomputable def DR(K:PySem.W.Frag):R2:=λx y H Q=>∃a b xs ys,x=.ref a/\y=.ref b/\Hh K H a xs/\Hh K H b ys/\xs≠[]/\xs.length+ys.length<=dV /\
 (ys=[]->Q (.ref a) H)/\(ys≠[]->∀p,H p=b6->Q (.ref p) (upd H p (.tup (xs++ys))))
theorem Vals.mQ(r:Vals xs us):us=[]↔xs=[]:=by
 cases r with
 |_=>simp
theorem yJ:HS X (Nm .Add) (DR X.K):=by
 intro f s σ H x y v u Q I g i h;obtain⟨a,b,xs,ys,rfl,rfl,j,k,l,hz,m,n⟩:=h;cases g;cases i;obtain⟨r,d,p,_⟩:=I.tuple j;obtain⟨t,c,p2,_⟩:=I.tuple k;refine HT.yF p p2 (λz=>l (d.mQ.mp z)) (λz=>⟨.ref a,H,I,rfl,m (c.mQ.mp z)⟩) (λz=>?_) (by rw[<-d.length,<-c.length];exact hz);refine⟨.ref s.heap.objs.size,_,I.laid (t':=s.toks) (o:=.tup (xs++ys)) (λb A q=>df _ q) (i3 _) ?_,rfl,n (λw=>z (c.mQ.mpr w)) _ (I.Gz.fresh (i3 _))⟩;exact⟨by rw[l'];exact hz,_,d.append c,Xq _ _⟩
end
noncomputable def Kn(n:Nat)(i:Int):Option Nat:=if 0<=i then(if i<n then a5 i.toNat else b6) else if -(n:Int)<=i then a5 (i+n).toNat else b6
noncomputable def Hs{α:Type}(xs:List α)(i:Int):Option α:=(Kn xs.length i).bind λj=>xs[j]?
theorem rj{n:Nat}(h:Kn n i=a5 j):UO i n=a5 j/\j<n/\-(n:Int)<=i/\i<n:=by
 unfold Kn at h;by_cases b:0<=i
 ·rw[Zq b]at h;by_cases a:i<n
  ·rw[Zq a]at h;have e:i.toNat=j:=GI h;exact⟨by rw[XR b a,e],⋯,⋯,a⟩
  ·rw[Zr a]at h;cases h
 ·rw[Zr b]at h;by_cases a:-(n:Int)<=i
  ·rw[Zq a]at h;have e:(i+n).toNat=j:=GI h;exact⟨by rw[seqIndex_neg ⋯ a,e],⋯,a,⋯⟩
  ·rw[Zr a]at h;cases h
theorem mR(h:Hs xs i=a5 v):∃j,UO i xs.length=a5 j/\xs[j]?=a5 v/\j<xs.length/\-(xs.length:Int)<=i/\i<xs.length:=by
 unfold Hs at h;cases e:Kn xs.length i with
 |none=>rw[e]at h;cases h
 |some j =>
  rw[e]at h;obtain⟨a,b,c,d⟩:=rj e;exact⟨j,a,h,b,c,d⟩
theorem jm{j:Nat}(h:xs[j]?=a5 v):Hs xs (j:Int)=a5 v:=by
 have a:j<xs.length:=(ez.mp h).1;have e:Kn xs.length (j:Int)=a5 j:=by
  unfold Kn;rw[Zq ⋯,Zq ⋯];simp
 unfold Hs;rw[e];exact h
def mS(b:rr):Prop:=∀o i,Vd b cc o i=operate [o,i] (Tx o i)
def Pt(X:Cx)(r:R2):Prop :=
 ∀(c a:rr) (b:List (hH×Obj)) (s:gj) (σ:St) (H:Hp) (x y:V) (v u:et) (Q:VK),Inv X b σ H s->RelV x v->RelV y u->r x y H Q ->
  Vd a cc v u=operate [v,u] (Tx v u)->eH (gs X.prog X.w) X.A (SR c a v u) (EP X b σ Q) X.xe s
def Pu(X:Cx)(id:String)(r:V->List V->Hp->VK->Prop):Prop :=
 ∀(a:List (hH×Obj)) (s:gj) (σ:St) (H:Hp) (x:V) (xs:List V) (v:et) (us:List et) (Q:VK),Inv X a σ H s->RelV x v->Vals xs us->r x xs H Q ->
  eH (gs X.prog X.w) X.A (Mj (.builtin id) (v::us)) (EP X a σ Q) X.xe s
section
noncomputable def FX(K:PySem.W.Frag):R2:=λx y H Q=>∃p xs i v,x=.ref p/\y=.int i/\GY K H p xs/\Hs xs i=a5 v/\Q v H
noncomputable def FY(K:PySem.W.Frag):R2:=λx y H Q=>∃p xs i v,x=.ref p/\y=.int i/\Hh K H p xs/\Hs xs i=a5 v/\Q v H
noncomputable def FZ:R2:=λx y H Q=>∃z i c,x=.str z/\y=.int i/\z.length<=dV/\Hs z.cps.toList i=a5 c/\Q (.str ⟨#[c]⟩) H
theorem yK:Pt X (FX X.K):=by
 intro d f a s σ H x y v u Q I n A h hs;obtain⟨p,xs,i,z,rfl,rfl,B,C,q⟩:=h;cases n;obtain⟨t,rfl⟩:=A;obtain⟨D,r,g,hz⟩:=I.list B;obtain⟨j,c,G,O,J,L⟩:=mR C;obtain⟨w,l,N⟩:=r.get G;have hl:=r.length;have Y:=fc;have b:EP X a σ Q w s:=⟨z,H,I,N,q⟩
 by_cases m:0<=i
 ·have k:i.toNat=j:=by
   rw[XR m L]at c;exact GI c
  exact item_listR g.isList m ⋯ (by rw[k];simpa using l) b hs
 ·have k:(i+(D.toArray.size:Int)).toNat=j:=by
   rw[seqIndex_neg ⋯ J]at c;rw[hQ,<-hl];exact GI c
  exact Xo (x:=w) g.isList.typeIs Yw.lookup
   (wpAny_getItem_list_neg (Q:=λr s'=>r=w/\EP X a σ Q r s') g.isList ⋯ (by rw[hQ]<;>lia) ⋯ (by rw[k];simpa using l) ⟨rfl,b⟩) hs
theorem mT:Pt X (FY X.K):=by
 intro b c a s σ H x y v u Q I g k h hs;obtain⟨p,xs,i,z,rfl,rfl,l,m,q⟩:=h;cases g;obtain⟨t,rfl⟩:=k;obtain⟨D,r,f,hz⟩:=I.tuple l;obtain⟨j,n,A,G,J,L⟩:=mR m;obtain⟨w,B,C⟩:=r.get A;have hl:=r.length;have N:=fc;have d:EP X a σ Q w s:=⟨z,H,I,C,q⟩
 exact Xo (x:=w) f.typeIs slot_tuple_getitem.lookup
  (getItem_tuple (j:=j) (Q:=λr s'=>r=w/\EP X a σ Q r s') f ⋯ ⋯ (by rw[hQ,<-hl];exact n) (by simpa using B) ⟨rfl,d⟩) hs
theorem mU:Pt X FZ:=by
 intro a b d s σ H x y v u Q I g k h hs;obtain⟨z,i,c,rfl,rfl,hz,l,q⟩:=h;obtain⟨t,rfl⟩:=g;obtain⟨t',rfl⟩:=k;obtain⟨j,f,m,B,n,p⟩:=mR l;have hl:z.cps.toList.length=z.length:=by simp[Zg]
 rw[hl]at f n p;have C:=fc;exact tail_any (Wb s z t) YV.lookup (getItem_str (c:=c) (by
  have w:d6 (i < -(2 ^ 63:Int))=cc:=Zs ⋯;have A:d6 (i >= 2 ^ 63)=cc:=Zs ⋯;rw[w,A,Vg]) (by rw[f];simpa using m) ⟨.str ⟨#[c]⟩,H,I.tok _,⟨_,rfl⟩,q⟩) hs
theorem pM(a:List et)(n j:Nat)(u:et):tA (·.setIfInBounds j u) {cls:=.type "list",data:=.seq a.toArray n}={cls:=.type "list",data:=.seq (a.set j u).toArray n}:=by
 simp[tA]
theorem Inv.lst(I:Inv X b σ H s)(h:H p=a5 (.lst xs)):
  ∃(a:List et) (n:Nat),Vals xs a/\s.heap.get? p=a5 {cls:=.type "list",data:=.seq a.toArray n}/\xs.length<=dV:=by
 obtain⟨z,a,n,r,e⟩:=I.Gz p _ h;exact⟨a,n,r,e,z⟩
theorem Inv.BC{c its':List et}(I:Inv X a σ H s)(h:H p=a5 (.lst xs))
  (ho:s.heap.get? p=a5 {cls:=.type "list",data:=.seq c.toArray n}) (d:f {cls:=.type "list",data:=.seq c.toArray n}={cls:=.type "list",data:=.seq its'.toArray g }) (r:Vals ys its') (hz:ys.length<=dV) (t:Nat) :
  Inv X a σ (upd H p (.lst ys)) {s with heap:=s.heap.update p f,toks:=t}:=by
 have e:(s.heap.update p f).get? p=a5 {cls:=.type "list",data:=.seq its'.toArray g }:=by
  rw[DD f ho (by rw[d]<;>rfl),d]
 refine I.write (x:=p) (e:=p) (by rw[h];trivial) (.inl rfl) (λb u i q=>(LI _ _ (uv i)).trans q) ⟨_,e⟩ ?_;exact⟨hz,its',g,r,e⟩
def DS:V->V->V->Hp->(Hp->Prop)->Prop:=λo i v H Q=>∃p xs k j,o=.ref p/\i=.int k/\H p=a5 (.lst xs)/\Kn xs.length k=a5 j/\Q (upd H p (.lst (xs.set j v)))
theorem set_list:mK X DS:=by
 intro a s σ H o i v z A u Q I w x rv h;obtain⟨p,xs,k,j,rfl,rfl,c,y,q⟩:=h;cases w;obtain⟨t,rfl⟩:=x;obtain⟨d,n,r,ho,hz⟩:=I.lst c;obtain⟨b,B,f,g⟩:=rj y;have hl:=r.length;have C:=fc;have l:Inv X a σ (upd H p (.lst (xs.set j v))) {s with heap:=s.heap.update p (tA (·.setIfInBounds j u))} :=
  I.BC c ho (pM d n j u) (r.set rv j) (by rw[X5];exact hz) s.toks
 by_cases m:0<=k
 ·have hk:k.toNat=j:=by
   rw[XR m g]at b;exact GI b
  exact PySem.W.ki_setAt ho m ⋯ (by rw[hQ,<-hl];exact g) (by rw[hk];exact⟨_,l,q⟩)
 ·have hk:(k+(d.toArray.size:Int)).toNat=j:=by
   rw[seqIndex_neg ⋯ f]at b;rw[hQ,<-hl];exact GI b
  exact PySem.W.ki_setBack ho ⋯ (by rw[hQ,<-hl];exact f) ⋯ (by rw[hk];exact⟨_,l,q⟩)
theorem mV(lo a:Option Int)(n:Nat):(Pw lo a b6 n).1=((HT.Io n 0 lo:Nat):Int)/\(Pw lo a b6 n).2.1=((HT.Io n n a:Nat):Int)/\(Pw lo a b6 n).2.2=1:=by
 refine⟨?_,?_,rfl⟩
 ·cases lo with
  |none=>simp[Pw,HT.Io]
  |some i =>
   simp only[Pw,HT.Io,So,show(1:Int)>0 by decide,if_true];by_cases h:i<0
   ·simp only[h,if_true]<;>lia
   ·simp only[h,if_false]<;>lia
 ·cases a with
  |none=>simp[Pw,HT.Io]
  |some i =>
   simp only[Pw,HT.Io,So,show(1:Int)>0 by decide,if_true];by_cases h:i<0
   ·simp only[h,if_true]<;>lia
   ·simp only[h,if_false]<;>lia
theorem kZ(a:List et)(lo b:Option Int):slicePick a.toArray lo b b6=((a.drop (HT.Io a.length 0 lo)).take (HT.Io a.length a.length b - HT.Io a.length 0 lo)).toArray:=by
 obtain⟨c,d,f⟩:=mV lo b a.toArray.size;unfold slicePick;rw[c,d,f];simp only[sliceRange_one,pick_run,hQ]<;>rfl
def DT(K:PySem.W.Frag):V->Option Int->Option Int->Hp->VK->Prop:=λx lo b H Q=>∃a xs,x=.ref a/\GY K H a xs/\∀p,H p=b6->Q (.ref p) (upd H p (.lst (tE xs lo b)))
theorem yL:KR X (DT X.K):=by
 intro f s σ H x v m n lo d p Q I i hs j k h;obtain⟨a,xs,rfl,l,q⟩:=h;cases i;obtain⟨u,r,g,hz⟩:=I.list l;have c:=r.length;refine⟨"list",_,Yw.lookup,g.isList.typeIs,?_⟩;refine wpAny_getItem_list_slice g.isList hs j k .none (by simp) ?_ (by rw[hQ]<;>lia);rw[kZ,<-c];refine⟨.ref s.heap.objs.size,_,I.laid (t':=s.toks) (o:=.lst (tE xs lo d)) (λb w q=>df _ q) (i3 _) ?_,rfl,q _ (I.Gz.fresh (i3 _))⟩;exact⟨Jq (oa xs lo d) hz,_,0,(r.drop (HT.Io xs.length 0 lo)).take (HT.Io xs.length xs.length d - HT.Io xs.length 0 lo),hY _ rfl⟩
theorem gK:gI X (.builtin "len") (λxs H Q=>∃p ys,xs=[.ref p]/\(GY X.K H p ys\/Hh X.K H p ys)/\Q (.int ys.length) H):=by
 intro d s σ H xs us Q I r h;obtain⟨p,ys,rfl,hq,q⟩:=h;obtain⟨u,rfl,f⟩:=vals1 r;cases f;have i:=fc;rcases hq with hq|hq
 ·obtain⟨g,b,c,hz⟩:=I.list hq;have a:=b.length;exact Calls.call_len_list c.isList (by simp only[hQ]<;>lia) ⟨.int ys.length,H,I.tok _,⟨s.toks+1,by rw[hQ,a]⟩,q⟩
 ·obtain⟨g,b,c,hz⟩:=I.tuple hq;have a:=b.length;exact len_tuple c (by simp only[hQ]<;>lia) ⟨.int ys.length,H,I.tok _,⟨s.toks+1,by rw[hQ,a]⟩,q⟩
theorem mW:gI X (.builtin "len") (λxs H Q=>∃z,xs=[.str z]/\z.length<=dV/\Q (.int z.length) H):=by
 intro a s σ H xs us Q I r h;obtain⟨z,rfl,hz,q⟩:=h;obtain⟨u,rfl,t,rfl⟩:=vals1 r;have b:=fc;exact len_str ⋯ ⟨.int z.length,H,I.tok _,⟨_,rfl⟩,q⟩
theorem gL:gI X (.type "list") (λxs H Q=>∃p ys,xs=[.ref p]/\(GY X.K H p ys\/Hh X.K H p ys)/\∀l,H l=b6->Q (.ref l) (upd H l (.lst ys))):=by
 intro f s σ H xs us Q I r h;obtain⟨p,ys,rfl,hq,q⟩:=h;obtain⟨u,rfl,y⟩:=vals1 r;cases y;have g:∀(a:List et),Vals ys a->ys.length<=dV->∀(h':Ju) (c:Nat),(∀b x,s.heap.get? b=a5 x->h'.get? b=a5 x) ->
   h'.get? s.heap.objs.size=a5 {cls:=.type "list",dict:=b6,data:=.seq a.toArray c,slots:=#[]}->EP X f σ Q (.ref s.heap.objs.size) {s with heap:=h' }:=λa d hz h' c i e =>
  ⟨.ref s.heap.objs.size,_,I.laid (t':=s.toks) i (i3 _) (show bN X.prog X.w _ h' _ (.lst ys) from⟨hz,a,c,d,e⟩),rfl,q _ (I.Gz.fresh (i3 _))⟩
 rcases hq with hq|hq
 ·obtain⟨a,d,k,hz⟩:=I.list hq;have j:=d.length;obtain⟨o,ho,m,n,v⟩:=k.isList;exact call_list_seq p (.inl rfl) ho m v (λh' c i e=>g a d hz h' c i e) (by simp only[hQ]<;>lia)
 ·obtain⟨a,d,k,hz⟩:=I.tuple hq;have j:=d.length;obtain⟨o,ho,m,n,v⟩:=k;exact call_list_seq p (.inr rfl) ho m v (λh' c i e=>g a d hz h' c i e) (by simp only[hQ]<;>lia)
theorem fU:gI X (.type "tuple") (λxs H Q=>∃p ys,xs=[.ref p]/\((GY X.K H p ys/\∀l,H l=b6->Q (.ref l) (upd H l (.tup ys)))\/(Hh X.K H p ys/\Q (.ref p) H))):=by
 intro a s σ H xs us Q I r h;obtain⟨p,ys,rfl,h⟩:=h;obtain⟨u,rfl,k⟩:=vals1 r;cases k;rcases h with⟨c,q⟩|⟨c,q⟩
 ·obtain⟨d,f,g,hz⟩:=I.list c;have i:=f.length;refine call_tuple_list g.isList (λh' m=>?_) (by simp only[hQ]<;>lia);have j:Inv X a σ H {s with heap:=h' }:=I.kept (t':=s.toks) m;have n:Inv X a σ (upd H h'.objs.size (.tup ys)) {s with heap:=h'.push {cls:=.type "tuple",data:=.seq d.toArray}} :=
   j.laid (t':=s.toks) (λb o e=>df _ e) (i3 _) (show bN X.prog X.w _ _ _ (.tup ys) from⟨hz,d,f,Xq _ _⟩)
  exact⟨.ref h'.objs.size,_,n,rfl,q _ (j.Gz.fresh (i3 _))⟩
 ·obtain⟨d,f,g,hz⟩:=I.tuple c;exact call_tuple_same g ⟨.ref p,H,I,rfl,q⟩
def Oc(K:PySem.W.Frag)(T:String)(x:V)(H:Hp):Prop:=match x with
 |.str _=>T="str"
 |.int _=>T="int"
 |.ref p=>(T="list"/\∃xs,GY K H p xs)\/(T="tuple"/\∃o,K.lookup p=a5 o/\o.cls=.type "tuple"/\o.dict=b6) \/
   (T="dict"/\((∃kvs,H p=a5 (.dK kvs))\/∃kvs,H p=a5 (.dT kvs)))\/(T="set"/\∃S n,H p=a5 (.set S n))
 |_=>False
theorem mX(I:Inv X f σ H s)(r:RelV x v)(ty:Oc X.K T x H):
  s.TypeIs v T/\∀a,v=.ref a->∃g,s.heap.get? a=a5 g/\g.dict=b6:=by
 cases x with
 |str z =>
  obtain⟨t,rfl⟩:=r;cases(show T="str" from ty);exact⟨Wb s z t,λ_ e=>nomatch e⟩
 |int i =>
  obtain⟨t,rfl⟩:=r;cases(show T="int" from ty);exact⟨typeIs_int s i t,λ_ e=>nomatch e⟩
 |ref p =>
  cases r;rcases ty with⟨rfl,xs,j⟩|⟨rfl,o,hk,k,b⟩|⟨rfl,hk⟩|⟨rfl,S,n,hk⟩
  ·obtain⟨l,_,h,_⟩:=I.list j;refine⟨h.isList.typeIs,λa e=>?_⟩;cases e;obtain⟨o,n,e,c,b,_⟩:=h;exact⟨o,e,b⟩
  ·refine⟨⟨o,I.Jh p o hk,k⟩,λa e=>?_⟩;cases e;exact⟨o,I.Jh _ o hk,b⟩
  ·have z:∃o,s.heap.get? p=a5 o/\o.ExactDict:=by
    rcases hk with⟨kvs,hk⟩|⟨kvs,hk⟩
    ·obtain⟨_,_,_,_,o,_,_,e,ex,_⟩:=I.Gz p _ hk;exact⟨o,e,ex⟩
    ·obtain⟨_,_,_,_,o,_,_,e,ex,_⟩:=I.Gz p _ hk;exact⟨o,e,ex⟩
   obtain⟨o,e,ex⟩:=z;refine⟨⟨o,e,ex.1⟩,λa d=>?_⟩;cases d;exact⟨o,e,ex.2.1⟩
  ·obtain⟨o,_,_,_,e,ex,_⟩:=I.Gz p _ hk;refine⟨⟨o,e,ex.1⟩,λa d=>?_⟩;cases d;exact⟨o,e,ex.2.1⟩
 |_=>exact LF ty
def F0(K:PySem.W.Frag)(T:String)(r:V->List V->Hp->VK->Prop)(to:TE):TE:=λσ H Q=>to σ H λx a=>Oc K T x a/\r x [] a Q
def TC(K:PySem.W.Frag)(T:String)(r:V->List V->Hp->VK->Prop)(to:TE)(t:TA):TE:=λσ H Q=>to σ H λx a=>Oc K T x a/\t σ a λxs b=>r x xs b Q
variable{o e:rr}{es:List rr}{to:TE}{t:TA}{name:Str}{apos B':Pos}{T id:String}{r:V->List V->Hp->VK->Prop}
theorem vg(d:PlainAttrs T)(slot:Slot T name id)(f:UJ (.builtin id)=pure (.type "method_descriptor"))(g:Pu X id r)(ho:PE X o to)
  (i:QU o name X.env (GV o X.env)=GV o X.env:=by rfl) (j:(apos.endLine==B'.line)=b8:=by rfl):PE X (.Call (.Attribute o name apos) [] [] B') (F0 X.K T r to):=by
 intro a s σ H Q I h;refine W7 i j (GC (ho a s σ H _ I h) λv s1 k=>?_);obtain⟨x,l,b,c,ty,m⟩:=k;obtain⟨n,p⟩:=mX b c ty;exact⟨T,id,d,slot,f,n,p,JV rfl (PySem.evalArgs_none (g a s1 σ l x [] v [] Q b c .nil m))⟩
theorem ly(f:PlainAttrs T)(slot:Slot T name id)(g:UJ (.builtin id)=pure (.type "method_descriptor"))(i:Pu X id r)(ho:PE X o to)(j:PA X (e::es) t)
  (k:QU o name X.env (GV o X.env)=GV o X.env:=by rfl)
  (l:((HR B' (ke (e::es) X.env)).all (λx=>!x.1)&&(OV B' (Lh [] X.env)).all (λx=>x.1.isSome)
   && d6 ((e::es).length+([]:List M').length+(if ([]:List M').isEmpty then 0 else 1)<30))=b8:=by rfl)
  (m:(apos.endLine==B'.line)=b8:=by rfl) (hs:ke (e::es) X.env=(cc,GV e X.env)::ke es X.env:=by rfl) (n:(HR B' (ke es X.env)).any (·.1)=cc:=by rfl) :
  PE X (.Call (.Attribute o name apos) (e::es) [] B') (TC X.K T r to t):=by
 intro a s σ H Q I h;refine Xd k l m rfl (GC (ho a s σ H _ I h) λv s1 p=>?_);obtain⟨x,q,b,c,ty,u⟩:=p;obtain⟨w,y⟩:=mX b c ty;refine⟨T,id,f,slot,g,w,y,?_⟩;have d:=j B' a s1 σ q _ b u;rw[hs]at d ⊢;refine JV (by show(cc||(HR B' (ke es X.env)).any (·.1))=cc;rw[n]<;>rfl) (KN ?_);exact GC d λus s2 ⟨vs,z,A,B,C⟩=>i a s2 σ z x vs v us Q A c B C
end
def Lv(X:Cx)(id:String)(r:V->List V->Hp->VK->Prop):Prop :=
 ∀(a:List (hH×Obj)) (s:gj) (σ:St) (H:Hp) (x:V) (xs:List V) (v:et) (us:List et) (Q:VK),Inv X a σ H s->RelV x v->Vals xs us->r x xs H Q ->
  eH (gs X.prog X.w) X.A (Mj (.builtin id) (v::us)) (EP X a σ Q) X.xe s
theorem Vals.one:∀{x:V}{us:List et},Vals [x] us->∃u,us=[u]/\RelV x u
 |_,_,.cons r .nil=>⟨_,rfl,r⟩
theorem Vals.zero:∀{us:List et},Vals [] us->us=[]
 |_,.nil=>rfl
theorem Vals.dropLast(h:Vals xs us):Vals xs.dropLast us.dropLast:=by
 induction h with
 |nil=>exact .nil
 |cons r t a =>
  cases t with
  |nil=>exact .nil
  |cons q t'=>exact .cons r a
theorem Vals.eraseIdx:∀{xs:List V}{us:List et} (i:Nat),Vals xs us->Vals (xs.eraseIdx i) (us.eraseIdx i)
 |_,_,_,.nil=>.nil
 |_,_,0,.cons _ t=>t
 |_,_,i+1,.cons r t=>.cons r (Vals.eraseIdx i t)
theorem Vals.reverse(h:Vals xs us):Vals xs.reverse us.reverse:=by
 induction h with
 |nil=>exact .nil
 |cons r t a=>rw[Qt,Qt];exact Vals.append a (.cons r .nil)
theorem pN(l:List α):l.eraseIdx (l.length - 1)=l.dropLast:=by
 induction l with
 |nil=>rfl
 |cons a r c =>
  cases r with
  |nil=>rfl
  |cons b r =>
   have e:(a::b::r).length - 1=((b::r).length - 1)+1:=by
    have d:(a::b::r).length=r.length+2:=rfl;have f:(b::r).length=r.length+1:=rfl;lia
   rw[e,QF,c]
   all_goals rfl
theorem lz:∀(l:List α) (i:Nat),(l.eraseIdx i).length<=l.length
 |[],_=>i3 _
 |_::_,0=>M7 _
 |_::r,i+1=>Nat.succ_le_succ (lz r i)
section
theorem Inv.jH{b its':List et}(I:Inv X a σ H s)(c:H l=a5 (.lst xs))
  (e:s.heap.get? l=a5 {cls:=.type "list",data:=.seq b.toArray n}) (d:f b.toArray=its'.toArray) (g:Vals ys its') (hz:ys.length<=dV) :
  Inv X a σ (upd H l (.lst ys)) {s with heap:=s.heap.update l (tA f),toks:=t' }:=by
 have q:=PySem.IsL.update e f;rw[d]at q;refine I.write (x:=l) (e:=l) (by rw[c];exact trivial) (.inl rfl) (λj u h i=>(LI s.heap (tA f) (uv h)).trans i) ⟨_,q⟩ ?_;exact⟨hz,its',_,g,q⟩
theorem Inv.F5(I:Inv X a σ H s)(c:Vals ys b)(hz:ys.length<=dV):
  Inv X a σ (upd H s.heap.objs.size (.lst ys)) {s with heap:=s.heap.push {cls:=.type "list",data:=.seq b.toArray},toks:=t' } :=
 I.laid (λ_ _ q=>df _ q) (i3 _) ⟨hz,b,0,c,hY _ rfl⟩
theorem Inv.fresh(I:Inv X a σ H s):H s.heap.objs.size=b6:=I.Gz.fresh (i3 _)
theorem Inv.pO(I:Inv X b σ H s)(c:H l=a5 (.lst xs)):xs.length<=dV/\∃(a:List et) (n:Nat),Vals xs a/\xs.length=a.length/\s.heap.get? l=a5 {cls:=.type "list",data:=.seq a.toArray n}:=by
 obtain⟨z,a,n,r,e⟩:=I.Gz l _ c;exact⟨z,a,n,r,r.length,e⟩
theorem vh(h:n<=dV):Ko n=cc:=by
 unfold Ko;exact Zs ⋯
end
section
def yM:V->List V->Hp->VK->Prop:=λx vs H Q=>∃l xs y,x=.ref l/\vs=[y]/\H l=a5 (.lst xs)/\xs.length<dV/\Q .Gv (upd H l (.lst (xs++[y])))
theorem lA:Lv X "list.append" yM:=by
 intro a s σ H x vs v us Q I d rv h;obtain⟨l,xs,y,rfl,rfl,b,hz,q⟩:=h;cases d;obtain⟨u,rfl,f⟩:=rv.one;obtain⟨z,c,n,r,hl,e⟩:=I.pO b;refine Pb F.slot_list_append ⟨_,e,rfl⟩ F.entry_list_append (F.args_list_append_2 _ _) (PySem.list_append l c.toArray n u (by rw[hQ];lia)) ⟨e,?_⟩;refine⟨.Gv,_,I.jH (its':=c++[u]) b e (by simp) (r.append (.cons f .nil)) ?_,rfl,q⟩;rw[l',IS];lia
def F6:V->List V->Hp->VK->Prop:=λx vs H Q=>∃l xs y,x=.ref l/\vs=[]/\H l=a5 (.lst xs)/\xs[xs.length - 1]?=a5 y/\Q y (upd H l (.lst xs.dropLast))
theorem BD:Lv X "list.pop" F6:=by
 intro b s σ H x vs v us Q I d rv h;obtain⟨l,xs,y,rfl,rfl,c,f,q⟩:=h;cases d;have g:=rv.zero;subst g;obtain⟨z,a,n,r,hl,e⟩:=I.pO c;obtain⟨u,i,j⟩:=r.get f;have k:a.toArray[a.toArray.size - 1]?=a5 u:=by
  show a.toArray[a.length - 1]?=a5 u;rw[<-uk,<-hl];exact i
 refine Pb YF ⟨_,e,rfl⟩ Yk (F.args_list_pop_1 _) (MeetsSeq.list_pop_last l a.toArray n u k (by rw[hQ];lia)) ⟨e,?_⟩;refine⟨y,_,I.jH (its':=a.dropLast) c e ?_ r.dropLast ?_,j,q⟩
 ·show a.toArray.eraseIdxIfInBounds (a.toArray.size - 1)=a.dropLast.toArray;rw[hQ,SF,pN]
 ·rw[List.length_dropLast];lia
def BE:V->List V->Hp->VK->Prop:=λx vs H Q=>∃l xs i k y,x=.ref l/\vs=[.int i]/\H l=a5 (.lst xs)/\-(2 ^ 63)<=i/\i<2 ^ 63/\UO i xs.length=a5 k/\xs[k]?=a5 y/\Q y (upd H l (.lst (xs.eraseIdx k)))
theorem vi:Lv X "list.pop" BE:=by
 intro b s σ H x vs v us Q I d rv h;obtain⟨l,xs,i,k,y,rfl,rfl,c,f,g,hk,j,q⟩:=h;cases d;obtain⟨u,rfl,m⟩:=rv.one;obtain⟨t,rfl⟩:=m;obtain⟨z,a,n,r,hl,e⟩:=I.pO c;obtain⟨w,o,p⟩:=r.get j;refine Pb YF ⟨_,e,rfl⟩ Yk (F.args_list_pop_2 _ _)
  (MeetsSeq.list_pop_at l a.toArray n i t k w (fitsIndex_both f g) (by rw[hQ,<-hl];exact hk) (by rw[<-uk];exact o) (by rw[hQ];lia)) ⟨e,?_⟩
 refine⟨y,_,I.jH (its':=a.eraseIdx k) c e ?_ (r.eraseIdx k) ?_,p,q⟩
 ·show a.toArray.eraseIdxIfInBounds k=(a.eraseIdx k).toArray;rw[SF]
 ·have:=lz xs k;lia
def BF:V->List V->Hp->VK->Prop:=λx vs H Q=>∃l xs,x=.ref l/\vs=[]/\H l=a5 (.lst xs)/\Q .Gv (upd H l (.lst []))
theorem vj:Lv X "list.clear" BF:=by
 intro a s σ H x vs v us Q I c rv h;obtain⟨l,xs,rfl,rfl,b,q⟩:=h;cases c;have d:=rv.zero;subst d;obtain⟨z,f,n,r,hl,e⟩:=I.pO b;refine Pb F.slot_list_clear ⟨_,e,rfl⟩ F.entry_list_clear (F.args_list_clear_1 _) (AutoSeq1.list_clear_list_0 l f.toArray n (by rw[hQ];lia)) ⟨e,?_⟩;exact⟨.Gv,_,I.jH (its':=[]) (ys:=[]) b e rfl .nil (oT _),rfl,q⟩
end
section
set_option maxRecDepth 100000 in
end
section
end
end L2
namespace RG
open PySem PySem.W PySem.Calls PyProof.Rows
theorem jf:∀(ns:List Int) (vs:List et),WellAll P h vs (ns.map Y1)->Xr vs ns:=by
 intro ns;induction ns with
 |nil =>
  intro vs w;rw[LS]at w;cases w;exact .nil
 |cons n ns c =>
  intro vs w;rw[hW]at w;cases w with
  |cons a b =>
   cases a;exact .cons _ _ (c _ b)
theorem tF{l:OpenLaw}(i:l.most=a5 n)
  (f:l.row.toRowW.claim.pre args=b8) (j:WellAll P h vals args) :
  ∃a vs ns,vals=[ri a]/\args=[WData.list (ns.map Y1)]/\h.get? a=a5 {cls:=.type "list",data:=.seq vs.toArray}/\Xr vs ns/\ns.length<=n:=by
 have k:WShape.hasAll [] args [.list .int]=b8:=(pre_splitW f).1;have g:l.pre.holds [] {args:=args}=b8:=(pre_splitW f).2;obtain⟨d,r,rfl,m,o⟩:=hasAllW_cons k;obtain rfl:=hasAllW_nil o;obtain⟨xs,rfl,p⟩:=hasW_list m;obtain⟨ns,rfl⟩:=items_int p;have b:ns.length<=n:=by
  unfold OpenLaw.pre at g;have c:(WTm.not (.lt (.lit (.int (n:Int))) (.len (.arg 0)))).holds [] {args:=[.list (ns.map .int)]}=b8:=by
   have c:=(holds_andW g).1;rw[i]at c;exact c
  have e:=condW_of c (w_not (w_lt w_lit (w_len_list (w_arg rfl))));rw[ei]at e;refine Nat.le_of_not_lt λq=>?_;have s:(n:Int)<((ns.length:Nat):Int):=by lia
  first
   |(rw[Zt s]at e;exact absurd e (by decide))
   |(simp at e;lia)
 cases j with
 |cons t u =>
  cases u;cases t with
  |list ho v=>exact⟨_,_,ns,rfl,rfl,ho,jf ns _ v,b⟩
theorem tH(l:OpenLaw)(args:List WData):l.row.toRowW.claim.post args (.bool b8) args=b8 :=
 postW_of (r:=l.row.toRowW) (X:=(b8==b8))
  (show Yz [] (.bool b8) .bool=b8 by first|rfl|decide|simp[Yz,WShape.arms,WShape.armsAll])
  (show(WTm.eq .res (.lit (.bool b8))).value [] {args:=args,res:=a5 (.bool b8),after:=args}=a5 (.bool (b8==b8)) from w_eq_bool (w_res rfl) w_lit) rfl
theorem og{l:OpenLaw}
  (p:l.most=a5 n) (s:d.params.defaults=[])
  (Mj:∀(w:H_) (s₀ b:gj) (mg j:Str->Option et) (fa:hH) (o:Obj) (k i c:et) (a:hH) (vs:List et) (ns:List Int),
   Ground q e [] t w s₀ mg j b.heap->u w b.heap ->
   b.heap.get? fa=a5 o->o.data=.func (docDef d.name d.params d.body d.scope k i c)->b.heap.CodeRec i d.name->mg d.name=a5 (.ref fa) ->
   b.heap.get? a=a5 {cls:=.type "list",data:=.seq vs.toArray}->Xr vs ns->ns.length<=n->b.gens=#[] ->
   OU (gs l.prog w) Rt (.call (.ref fa) ⟨[.ref a],[]⟩) (λr s'=>r=.ok (.ret (.bool b8))/\OldK b.heap s'.heap/\s'.os=b.os/\QQ s'.gens) b) :
  WalkO q e t u l.row.toRowW d [] (λf vs=>PySem.call f vs):=by
 intro w s₀ b mg j G Y fa o k i c v kV ho x y m z A args vals as B O Q C T;obtain rfl:v=.none:=Dflts.none m s;obtain rfl:kV=.none:=Dflts.noKw m;obtain⟨a,vs,ns,rfl,rfl,D,g,h⟩:=tF p B C;refine enter_call (Qm (Mj w s₀ b mg j fa o k i c a vs ns G Y ho (fd_plain x) y z D g h A) λr s' H=>?_);obtain⟨rfl,I,J,L⟩:=H;exact⟨.inl ⟨.bool b8,.bool b8,[],rfl,λ_=>rfl,.bool b8,tH l _,λ_=>⟨YY,λ_ N=>(nomatch N)⟩⟩,I,J,L⟩
section
end
end RG
namespace L2
open PySem PySem.Spec PyProof.Rows
theorem lB:∀{vs:List et}{ns:List Int},Xr vs ns->Vals (ns.map V.int) vs
 |_,_,.nil=>.nil
 |_,_,.cons n t h=>.cons ⟨t,rfl⟩ (lB h)
def BG(H:Hp):Prop:=∀b,H b=b6\/∃o xs,H b=a5 (.Ia o (.lst xs))
theorem vk{K:PySem.W.Frag}
  (y:K.In c.heap) (A:c.heap.Ns l0 mg) (f:c.heap.Ns Yg B) (O:∀x:Str,x≠"__name__"->B x=w6 x) (Q:c.heap.NoLimit) (T:c.gens=#[])
  (l:c.heap.get? a=a5 {cls:=.type "list",data:=.seq vs.toArray}) (C:Xr vs ns) (hl:ns.length<=dV) (Y:eM k Rt)
  (F:∀base:Ju,K.In base->base.Ns l0 mg->gJ P w K mg base CX k fa fd [x] sp) (MT:∀(s:gj) (u:et),Xn s fd ⟨[u],[]⟩ [(x,u)])
  (HK:∀H:Hp,BG H->GY K H a (ns.map V.int)->sp [.ref a] H (λv _=>v=.bl b8) λ_ _ _=>False)
  (PF:∀H e s',CX [] H c (λ_ _ _=>False) e s'->False) :
  OU (gs P w) Rt (.call (.ref fa) ⟨[.ref a],[]⟩) (λr s'=>r=.ok (.ret (.bool b8))/\OldK c.heap s'.heap/\s'.os=c.os/\QQ s'.gens) c:=by
 have rv:=lB C;have PH:=C.length;have g:∀H:Hp,BG H->GY K H a (ns.map V.int)->Ho P w H c.heap->(∀b,H b≠b6->b=a)->(H a≠b6->K.lookup a=b6) ->
   OU (gs P w) Rt (.call (.ref fa) ⟨[.ref a],[]⟩) (λr s'=>r=.ok (.ret (.bool b8))/\OldK c.heap s'.heap/\s'.os=c.os/\QQ s'.gens) c:=by
  intro H D hS G I hK;have jw:∀{b:hH} {o:Obj},c.heap.get? b=a5 o->H b=b6->(mI c.heap H).get? b=a5 o:=λe n=>uR e n;have MP:∀{b:hH} {o:Obj} {es:Array DictEntry} {ep:Nat},c.heap.get? b=a5 o->o.data=.dict es ep->H b=b6:=λ{b o es ep} e d=>by
   cases q:H b with
   |none=>rfl
   |some u =>
    have t:b=a:=I b (by rw[q];simp);subst t;rw[l]at e;cases e;have d':Data.seq vs.toArray _=Data.dict es ep:=d;cases d'
  have p:∀{b:hH} {m:Str->Option et},c.heap.Ns b m->(mI c.heap H).Ns b m:=λ{b m} ⟨o,es,ep,e,d,r⟩=>⟨o,es,ep,jw e (MP e d),d,r⟩
  have J:K.In (mI c.heap H):=λb o e=>jw (y b o e) (by
   cases q:H b with
   |none=>rfl
   |some u =>
    have t:b=a:=I b (by rw[q];simp);subst t;rw[hK (by rw[q];simp)]at e;cases e)
  have hM:Mod K mg (mI c.heap H):=⟨J,p A,⟨B,p f,O⟩,let ⟨mc,h1,h2⟩:=Q;⟨mc,p h1,h2⟩⟩
  have e0:yE P w K mg (mI c.heap H) Rt [] c H:=⟨rfl,hM,λb o e=>yw e,Wn (tm _ _),trivial,λb f=>absurd (show b∈([]:List hH) from f) (by simp),G,.of_eq T⟩
  refine Qm ((F _ J (p A)).run Rt [] c H ⟨[.ref a],[]⟩ [.ref a] [.ref a] _ _ Y e0 (MT c (.ref a)) (.cons rfl .nil) (HK H D hS)) λr s' h=>?_;cases r with
  |error e=>exact(PF H e s' h).elim
  |ok fl =>
   cases fl with
   |ret u =>
    obtain⟨v,H',os,i,L,PJ,r',q⟩:=h;have q':v=.bl b8:=q;subst q';obtain rfl:u=MR b8:=r';refine⟨rfl,OldK.of_keep λb o e=>?_,os,i⟩;cases q:H b with
    |none=>exact L.keep b o e q (by intro z;exact absurd (show b∈([]:List hH) from z) (by simp)) (by simp)
    |some u =>
     rcases D b with z|⟨ob,xs,z⟩
     ·rw[q]at z;cases z
     ·have z2:=L.Hm b ob _ z;obtain⟨N,_⟩:=G b _ z;obtain⟨e2,_⟩:=PJ b _ z2;rw[e]at N;cases N;exact e2
   |_=>exact LF h
 cases hk:K.lookup a with
 |some o =>
  have e:=y a o hk;rw[l]at e;cases e;refine g (λ_=>b6) (λ_=>.inl rfl) (.inr ⟨_,vs.toArray,_,hk,rfl,rfl,rfl,by rw[hQ,PH];exact hl,by simpa using rv⟩) (λb u z=>by have j:(b6:Option HO)=a5 u:=z;cases j) (λb z=>absurd rfl z) λz=>absurd rfl z
 |none =>
  refine g (λb=>if b=a then a5 (.Ia {cls:=.type "list",data:=.seq vs.toArray} (.lst (ns.map V.int))) else b6) (λb=>?_) (.inl (.inr ⟨{cls:=.type "list",data:=.seq vs.toArray},Zq rfl⟩)) (λb u z=>?_) (λb z=>?_) λ_=>hk
  ·by_cases f:b=a
   ·exact .inr ⟨_,_,Zq f⟩
   ·exact .inl (Zr f)
  ·by_cases f:b=a
   ·have j:=(Zq f).symm.trans z;cases j;subst f;exact⟨l,by rw[ei];exact hl,vs,_,rv,l⟩
   ·have j:=(Zr f).symm.trans z;cases j
  ·by_cases f:b=a
   ·exact f
   ·exact absurd (Zr f) z
theorem yN{l:PySem.W.OpenLaw}{K:S7->PySem.W.Frag}{CX:H_->Lq}{sp:H_->Sp}
  (r:l.most=a5 n) (t:n<=dV) (y:d.params.defaults=[]) (z:eM k Rt)
  (A:∀(w:H_) (h:Ju),B w h->(K w.params).In h)
  (F:∀(w:H_) (mg:Str->Option et) (fa:hH) (h:Ju),(K w.params).In h->h.Ns l0 mg->mg d.name=a5 (.ref fa) ->
   ∃j:QC,(∀(s:gj) (u:et),Xn s j ⟨[u],[]⟩ [(x,u)]) /\
    ∀base:Ju,(K w.params).In base->base.Ns l0 mg->gJ l.prog w (K w.params) mg base (CX w) k fa j [x] (sp w))
  (C:∀(w:H_) (H:Hp) (a:hH) (ns:List Int),ns.length<=n->BG H->GY (K w.params) H a (ns.map V.int)->sp w [.ref a] H (λv _=>v=.bl b8) λ_ _ _=>False)
  (D:∀(w:H_) (H:Hp) (s:gj) (e:et) (s':gj),CX w [] H s (λ_ _ _=>False) e s'->False) :
  PySem.W.WalkO q m XP B l.row.toRowW d [] (λf vs=>PySem.call f vs):=by
 refine RG.og r y λw s₀ I mg mb fa o pm cd J a vs ns G Y ho hd GX L N i c O=>?_;have p:=A w _ Y;obtain⟨j,Q,hF⟩:=F w mg fa _ p G.T.g L;exact vk p G.T.g G.T.b G.T.builtins G.T.nolimit O N i (Jq c t) z hF Q (λH hO hS=>C w H a ns c hO hS) λH e s'=>D w H I e s'
noncomputable def fG(s:Lo):Arguments:=match s with
 |.FunctionDef _ a _ _ _ _ _ _ _ _=>a
 |_=>{posonlyargs:=[],args:=[],vararg:=b6,kwonlyargs:=[],kw_defaults:=[],kwarg:=b6,defaults:=[]}
noncomputable def cH(s:Lo):List Lo:=match s with
 |.FunctionDef _ _ b _ _ _ _ _ _ _=>b
 |_=>[]
noncomputable def aK(s:Lo):Ln:=match s with
 |.FunctionDef _ _ _ _ _ _ a _ _ _=>a
 |_=>{kind:=.function,names:=[],isGenerator:=cc,isCoroutine:=cc}
abbrev Ly:Lq:=λ_ _ _ _ _ _=>False
abbrev E0:XK:=λ_ _ _=>False
theorem DU:Passes Ly X E0:=λ_ _ _ _ _ _ _ h=>h.elim
structure KU(K:PySem.W.Frag)(x qual:Str)(st:Lo)(f:hH)(fd:QC):Prop where
 ex:∃(oc:et) (od:Option hH) (kV doc pm:et) (an:Option hH) (Hz ct:et) (Mi:Array (Option et)),
  fd=PySem.W.fnOf x qual (fG st) (cH st) (aK st) .none kV doc pm an Hz ct/\K.lookup f=a5 ⟨oc,od,.func fd,Mi⟩/\PySem.W.codeIn K Hz qual=b8
 kp:PySem.W.keepIn K (.ref f)=b8
section
variable{P:D3}{w:H_}{K:PySem.W.Frag}{mg:Str->Option et}{base:Ju}
theorem KU.ok{st:Lo}(F:KU K x a st f e)(S:dQ N d (aK st))(c:∀vs H Q E,sp vs H Q E->vs.length=d.length)
  (g:∀(b:et) (A:M0) (outer:List Env) (s:gj) (H:Hp) (vs:List V) (Q:VK) (E:XK),eM k (A.deeper (RF a (aK st) s.heap.objs.size f b))->sp vs H Q E ->
   ∃t,Hy (n9 Ly P w K mg base N a (aK st) f b A outer s H E).Ic (cH st) t/\t {nx:=λ_ H'=>Q .Gv H',rt:=Q} (start N vs) H):gJ P w K mg base Ly (k+1) f e d sp:=by
 obtain⟨n,o,kV,i,p,r,b,ct,u,rfl,lk,j⟩:=F.ex;refine AB lk j S c λA outer s H vs Q E l m=>?_;obtain⟨t,h,q⟩:=g b A outer s H vs Q E l m;exact⟨t,h.Ic,q⟩
theorem BH{st:Lo}{kV b e d ct:et}(l:K.lookup f=a5 ⟨h,i,.func (PySem.W.fnOf x a (fG st) (cH st) (aK st) .none kV b e g d ct),j⟩)
  (c:PySem.W.codeIn K d a=b8) (k:PySem.W.keepIn K (.ref f)=b8):KU K x a st f (PySem.W.fnOf x a (fG st) (cH st) (aK st) .none kV b e g d ct):=⟨⟨h,i,kV,b,e,g,d,ct,j,rfl,l,c⟩,k⟩
end
section
end
def cS(H H':Hp):Prop:=∀b o,H b=a5 o->H' b=a5 o
section
variable{κ:Type}[DecidableEq κ]
noncomputable def dm(kvs:List (κ×V))(k:κ):Option V:=(kvs.find? λkv=>d6 (kv.1=k)).map (·.2)
noncomputable def putK(kvs:List (κ×V))(k:κ)(v:V):List (κ×V) :=
 if (kvs.any λkv=>d6 (kv.1=k))=b8 then kvs.map (λkv=>if kv.1=k then(kv.1,v) else kv) else kvs++[(k,v)]
theorem d9{p:κ×V}{k:κ}(e:p.1=k):dm (p::r) k=a5 p.2:=by simp[dm,L4,e]
theorem d_{p:κ×V}{k:κ}(e:¬p.1=k):dm (p::r) k=dm r k:=by simp[dm,L4,e]
theorem gM(k:κ):∀kvs:List (κ×V),(kvs.any λkv=>d6 (kv.1=k))=(dm kvs k).isSome
 |[]=>rfl
 |p::r=>by
  rw[R3];by_cases e:p.1=k
  ·simp only[d9 e,Zt e,Bool.true_or,Option.isSome_some]
  ·rw[d_ e,Zs e,Bool.false_or];exact gM k r
theorem iU(kvs:List (κ×V))(k:κ)(v:V):(putK kvs k v).length<=kvs.length+1:=by
 unfold putK;split
 ·rw[ei];lia
 ·rw[l',rz,Q1];lia
theorem vm{k:κ}(v:V)(h:dm kvs k=b6):putK kvs k v=kvs++[(k,v)]:=by
 unfold putK;rw[gM,h];exact Zr (by decide)
theorem jd.ef(r:jd o u):o.isSome=u.isSome:=by
 cases o with
 |none=>cases u with
  |none=>rfl
  |some _=>exact(show False from r).elim
 |some _=>cases u with
  |none=>exact(show False from r).elim
  |some _=>rfl
theorem jd.getD(r:jd o u)(a:RelV d d'):RelV (o.getD d) (u.getD d'):=by
 cases o with
 |none=>cases u with
  |none=>exact a
  |some _=>exact(show False from r).elim
 |some _=>cases u with
  |none=>exact(show False from r).elim
  |some _=>exact r
theorem KV.val(r:KV kvs vs)(k:κ):jd (dm kvs k) (Tn vs k):=by
 unfold KV at r;induction r with
 |nil=>exact Uu
 |@cons p q i a h t f =>
  obtain⟨d,g⟩:=h;by_cases e:p.1=k
  ·have c:q.1=k:=d.symm.trans e;have b:Tn (q::a) k=a5 q.2:=by simp[Tn,L4,c]
   rw[d9 e,b];exact g
  ·have c:¬q.1=k:=λz=>e (d.trans z);have b:Tn (q::a) k=Tn a k:=by simp[Tn,L4,c]
   rw[d_ e,b];exact f
theorem KV.any(r:KV kvs vs)(k:κ):(kvs.any λkv=>d6 (kv.1=k))=vs.any λkv=>d6 (kv.1=k):=by
 unfold KV at r;induction r with
 |nil=>rfl
 |cons h t a=>rw[R3,R3,a,h.1]
theorem KV.BI(r:KV kvs vs)(k:κ)(b:RelV y u):
  KV (kvs.map λkv=>if kv.1=k then(kv.1,y) else kv) (vs.map λkv=>if kv.1=k then(kv.1,u) else kv):=by
 unfold KV at r ⊢;induction r with
 |nil=>exact .nil
 |@cons p q f g h t c =>
  rw[hW,hW];refine .cons ?_ c;obtain⟨a,d⟩:=h;by_cases e:p.1=k
  ·rw[Zq e,Zq (a.symm.trans e)];exact⟨a,b⟩
  ·rw[Zr e,Zr (λz=>e (a.trans z))];exact⟨a,d⟩
theorem KV.put(r:KV kvs vs)(k:κ)(a:RelV y u):KV (putK kvs k y) (stored vs k u):=by
 unfold putK stored;rw[r.any k];by_cases e:(vs.any λkv=>d6 (kv.1=k))=b8
 ·rw[Zq e,Zq e];exact r.BI k a
 ·rw[Zr e,Zr e];exact Paired.snoc r ⟨rfl,a⟩
theorem KV.length(r:KV kvs vs):kvs.length=vs.length:=Paired.length r
end
theorem lC(r:RelV (kV k) u):(aY P w).is k u=b8:=by
 cases k with
 |inl i=>obtain⟨t,e⟩:=(show ∃t,u=Xi i t from r);subst e;exact nY P w i t
 |inr x=>obtain⟨t,e⟩:=(show ∃t,u=wh x t from r);subst e;exact nZ P w x t
theorem lD:∀{ks:List Key}{us:List et},Vals (ks.map kV) us->ItemsAre (aY P w) ks us
 |[],_,r=>by rw[LS]at r;cases r;exact .nil
 |k::ks,_,r=>by
  rw[hW]at r;cases r with
  |cons h t=>exact .cons (lC h) (lD t)
abbrev KT(H:Hp):List (List Key×V)->List (List Key×hH×et)->Prop:=Paired λp q=>p.1=q.1/\H q.2.1=a5 (.tup (p.1.map kV))/\RelV p.2 q.2.2
theorem KT.val(r:KT H kvs xs)(k:List Key):jd (dm kvs k) ((Wf xs k).map (·.2)):=by
 induction r with
 |nil=>exact Uu
 |@cons p q i a h t f =>
  obtain⟨d,_,g⟩:=h;by_cases e:p.1=k
  ·have c:q.1=k:=d.symm.trans e;have b:Wf (q::a) k=a5 q.2:=by simp[Wf,L4,c]
   rw[d9 e,b];exact g
  ·have c:¬q.1=k:=λz=>e (d.trans z);have b:Wf (q::a) k=Wf a k:=by simp[Wf,L4,c]
   rw[d_ e,b];exact f
theorem KT.BI(r:KT H kvs xs)(k:List Key)(c:RelV y u):
  KT H (kvs.map λkv=>if kv.1=k then(kv.1,y) else kv) (xs.map (putAt k u)):=by
 induction r with
 |nil=>exact .nil
 |@cons p q g i h t d =>
  rw[hW,hW];refine .cons ?_ d;obtain⟨a,b,f⟩:=h;unfold putAt;by_cases e:p.1=k
  ·rw[Zq e,Zq (a.symm.trans e)];exact⟨a,b,c⟩
  ·rw[Zr e,Zr (λz=>e (a.trans z))];exact⟨a,b,f⟩
theorem KT.put(r:KT H kvs xs)(k:List Key)(c:H b=a5 (.tup (k.map kV)))(a:RelV y u):
  KT H (putK kvs k y) (storedH xs k b u):=by
 have e:(kvs.any λkv=>d6 (kv.1=k))=(Wf xs k).isSome:=by
  rw[gM,(r.val k).ef,R8]
 unfold putK storedH;rw[e];by_cases q:(Wf xs k).isSome=b8
 ·rw[Zq q,Zq q];exact r.BI k a
 ·rw[Zr q,Zr q];exact Paired.snoc r ⟨rfl,c,a⟩
theorem KT.keeps(r:KT H kvs xs)(a:∀b ys,H b=a5 (.tup ys)->H' b=a5 (.tup ys)):KT H' kvs xs :=
 Paired.Bd r λ_ _ z=>⟨z.1,a _ _ z.2.1,z.2.2⟩
section
theorem AD(b:Ho P w H h)(e:Rd H a u):bN P w H h a u:=e.ok b
theorem jI(b:Ho P w H h)(e:Rd H a (.dK kvs)):kvs.length<=dV/\(a==Ma)=cc/\∃vs,KV kvs vs/\h.DictOf (aY P w) a vs :=
 show bN P w H h a (.dK kvs) from AD b e
theorem vn(b:Ho P w H h)(e:H a=a5 (.dK kvs)):kvs.length<=dV/\(a==Ma)=cc/\∃vs,KV kvs vs/\h.DictOf (aY P w) a vs:=jI b (.inl e)
theorem iy(b:Ho P w H h)(e:H a=a5 (.tup (ks.map kV))):(Si (aY P w)).is h ks a:=by
 obtain⟨_,c,r,o,d,f,n,g⟩:=(show bN P w H h a (.tup (ks.map kV)) from b a _ e)
 exact⟨o,c.toArray,n,d,f,g,by simpa using lD r⟩
theorem jJ(b:Ho P w H h)(e:Rd H a (.dT kvs)):kvs.length<=dV/\(a==Ma)=cc /\
  ∃xs,KT H kvs xs/\h.DictOfH (Si (aY P w)) a xs:=by
 obtain⟨z,y,xs,r,o,es,ep,d,f,g,i,j⟩:=(show bN P w H h a (.dT kvs) from AD b e)
 refine⟨z,y,xs,r,o,es,ep,d,f,g,i,λx hx=>?_,j⟩;have all:∀{l:List (List Key×V)} {m:List (List Key×hH×et)},KT H l m->∀x∈m,(Si (aY P w)).is h x.1 x.2.1:=by
  intro l m q;induction q with
  |nil=>intro x hx;exact nomatch hx
  |@cons p q n s c t k =>
   intro x hx;rcases hU.mp hx with e|hx
   ·subst e;exact iy b (by rw[<-c.1];exact c.2.1)
   ·exact k x hx
 exact all r x hx
theorem DV(b:Ho P w H h)(e:H a=a5 (.dT kvs)):kvs.length<=dV/\(a==Ma)=cc /\
  ∃xs,KT H kvs xs/\h.DictOfH (Si (aY P w)) a xs:=jJ b (.inl e)
end
def eN(H:Hp)(a:hH)(y:V)(r:Option V):Prop :=
 (∃kvs k,Rd H a (.dK kvs)/\y=kV k/\r=dm kvs k)\/∃kvs k b,Rd H a (.dT kvs)/\y=.ref b/\H b=a5 (.tup (k.map kV))/\r=dm kvs k
def tI(H:Hp)(a:hH)(y v:V)(H':Hp):Prop :=
 (∃kvs k,H a=a5 (.dK kvs)/\y=kV k/\kvs.length<dV/\H'=upd H a (.dK (putK kvs k v))) \/
 ∃kvs k b,H a=a5 (.dT kvs)/\y=.ref b/\H b=a5 (.tup (k.map kV))/\kvs.length<dV/\H'=upd H a (.dT (putK kvs k v))
theorem eN.k{H:Hp}{a:hH}{kvs:List (Key×V)}{k:Key}(e:H a=a5 (.dK kvs)):eN H a (kV k) (dm kvs k):=.inl ⟨kvs,k,.inl e,rfl,rfl⟩
theorem tI.k{H:Hp}{a:hH}{kvs:List (Key×V)}{k:Key}{v:V}(e:H a=a5 (.dK kvs))(hl:kvs.length<dV):tI H a (kV k) v (upd H a (.dK (putK kvs k v))):=.inl ⟨kvs,k,e,rfl,hl,rfl⟩
section
theorem Inv.big(I:Inv X a σ H s):Ma<s.heap.objs.size:=by
 have h:l0<s.heap.objs.size:=(I.mod.glob.keeps I.bk).lt;exact SE (by decide) h
theorem tJ(q:A.units+1<KJ)(I:Inv X f σ H s)(g:eN H a y (a5 v))(n:RelV y u)(h:∀d s',Inv X f σ H s'->RelV v d->Q d s'):
  eH (gs X.prog X.w) A (Tx (.ref a) u) Q E s:=by
 rcases g with⟨kvs,k,e,i,l⟩|⟨kvs,k,b,e,i,r,l⟩
 ·subst i;obtain⟨z,t,vs,c,dd⟩:=jI I.Gz e;obtain⟨d,j,m⟩:=jd.some_of (v:=v) (o:=Tn vs k) (by rw[l];exact c.val k);exact wpAny_getItem_of (lC n) dd.mapOf j (h d _ (I.tok _) m)
 ·subst i;cases(show u=ri b from n);obtain⟨z,t,xs,c,dd⟩:=jJ I.Gz e;obtain⟨d,j,m⟩:=jd.some_of (v:=v) (o:=(Wf xs k).map (·.2)) (by rw[l];exact c.val k);obtain⟨p,x,B⟩:=i1.mp j;refine wpAny_getItem_heap (N0 q) (iy I.Gz r) dd x ?_;rw[B];exact h d _ (I.tok _) m
theorem DW(m:A.units+1<KJ)(I:Inv X d σ H s)(g:eN H a y o)(j:RelV y u)(h:∀s',Inv X d σ H s'->Q (.bool o.isSome) s'):
  eH (gs X.prog X.w) A (Le .In u (.ref a)) Q E s:=by
 rcases g with⟨kvs,k,e,f,l⟩|⟨kvs,k,b,e,f,n,l⟩
 ·subst f;obtain⟨z,i,vs,c,dd⟩:=jI I.Gz e;refine wpAny_in_of (lC j) i dd.mapOf ?_;rw[<-(c.val k).ef,<-l];exact h _ (I.tok _)
 ·subst f;cases(show u=ri b from j);obtain⟨z,i,xs,c,dd⟩:=jJ I.Gz e;refine wpAny_in_heap (N0 m) (iy I.Gz n) i dd ?_;have q:=(c.val k).ef;rw[R8]at q;rw[<-q,<-l];exact h _ (I.tok _)
theorem rm(m:A.units+1<KJ)(I:Inv X d σ H s)(g:eN H a y o)(j:RelV y u)(h:∀s',Inv X d σ H s'->Q (.bool (!o.isSome)) s'):
  eH (gs X.prog X.w) A (Le .NotIn u (.ref a)) Q E s:=by
 rcases g with⟨kvs,k,e,f,l⟩|⟨kvs,k,b,e,f,n,l⟩
 ·subst f;obtain⟨z,i,vs,c,dd⟩:=jI I.Gz e;refine wpAny_notIn_of (lC j) i dd.mapOf ?_;rw[<-(c.val k).ef,<-l];exact h _ (I.tok _)
 ·subst f;cases(show u=ri b from j);obtain⟨z,i,xs,c,dd⟩:=jJ I.Gz e;refine wpAny_notIn_heap (N0 m) (iy I.Gz n) i dd ?_;have q:=(c.val k).ef;rw[R8]at q;rw[<-q,<-l];exact h _ (I.tok _)
theorem rn(I:Inv X c σ H s)(f:MI (H a))(hs:t4 a s.heap h')(g:∃q,h'.get? a=a5 q)(new:bN X.prog X.w (upd H a d) h' a d):
  Inv X c σ (upd H a d) {s with heap:=h',toks:=t' } :=
 I.write (x:=a) (e:=a) f (.inl rfl) (λb q h z=>(hs.2 b h).trans z) g new
theorem BJ(z:kvs.length<=dV)(c:(a==Ma)=cc)(b:KV kvs vs)(dd:h'.DictOf (aY P w) a vs):
  bN P w H' h' a (.dK kvs):=⟨z,c,vs,b,dd⟩
theorem tK(B:A.units+1<KJ)(I:Inv X f σ H s)(g:tI H a y v H')(p:RelV y u)(rv:RelV v r)(h:∀s',Inv X f σ H' s'->Q () s'):
  eH (gs X.prog X.w) A (Rp (.ref a) u r) Q E s:=by
 rcases g with⟨kvs,k,e,m,l,n⟩|⟨kvs,k,b,e,m,t,l,n⟩
 ·subst m n;obtain⟨z,o,vs,d,dd⟩:=vn I.Gz e;have hz:vs.length<=dV:=by rw[<-d.length];exact z
  have hl:(putK kvs k v).length<=dV:=by have:=iU kvs k v;lia
  refine wpAny_setItem_pairs (hsz:=hz) (lC p) dd λh' i hs=>h _ ?_;have C:∃q,h'.get? a=a5 q:=let ⟨q,_,_,j,_⟩:=i;⟨q,j⟩;exact rn I (by rw[e];exact Uu) hs C (BJ hl o (d.put k rv) i)
 ·subst m n;cases(show u=ri b from p);obtain⟨z,o,xs,d,dd⟩:=DV I.Gz e;have hz:xs.length<=dV:=by rw[<-Paired.length d];exact z
  have hl:(putK kvs k v).length<=dV:=by have:=iU kvs k v;lia
  refine wpAny_setItem_heap (hsz:=hz) (N0 B) (iy I.Gz t) dd λh' i hs=>h _ ?_;obtain⟨q,es,ep,j,D,G,J,_,L⟩:=i;refine rn I (by rw[e];exact Uu) hs ⟨q,j⟩ ⟨hl,o,_,(d.put k t rv).keeps λc ys x=>?_,q,es,ep,j,D,G,J,L⟩;rw[au (Dv x e (λz=>nomatch z))];exact x
end
section
end
def BK(i:rr):Prop:=∀a b,Vd i cc a b=operate [a,b] (Tx a b)
theorem yO{T id:String}
  (hl:Pa (.type T) "__getitem__"=pure (a5 (.builtin id))) (hs:BK a)
  (h:eH (gs prog w) A (GV b env) (λo f=>eH (gs prog w) A (GV a env) (λi d=>d.TypeIs o T/\eH (gs prog w) A (Tx o i) Q E d) E f) E s) :
  eH (gs prog w) A (GV (.Subscript b a pos) env) Q E s:=by
 refine Ym (nc h (λo f k=>nc k (λi d e=>?_) λ_ _ x=>x) λ_ _ x=>x);obtain⟨g,e⟩:=e;unfold SR;refine bD ?_;rw[getitemInPython_of_ne g.not_modules];refine bD (RI g hl ?_);have c:eH (gs prog w) A (Vd a cc o i) (λr j=>eH (gs prog w) A (letTemporaryGo b o r >>= λ_=>pure r) Q E j) E d:=by
  rw[hs o i];exact wpAny_operating (nc e (λr j l=>bD (wpAny_letTemporaryGo (c4 l))) λ_ _ x=>x)
 first
  |exact c4 (bD c)
  |exact bD (c4 (bD c))
  |exact bD c
theorem oh(I:Inv X c σ H s)(g:eN H a y o):s.TypeIs (.ref a) "dict":=by
 rcases g with⟨kvs,k,e,_,_⟩|⟨kvs,k,b,e,_,_,_⟩
 ·obtain⟨_,_,vs,_,dd⟩:=jI I.Gz e;exact dd.typeIs
 ·obtain⟨_,_,xs,_,dd⟩:=jJ I.Gz e;exact dd.typeIs
def DX(c ty:TE):TE:=λσ H Q=>c σ H λx d=>ty σ d λy b=>∃a v,x=.ref a/\eN b a y (a5 v)/\Q v b
def F7(ty c:TE):TE:=λσ H Q=>ty σ H λy d=>c σ d λx b=>∃a o,x=.ref a/\eN b a y o/\Q (.bl o.isSome) b
def yP(ty c:TE):TE:=λσ H Q=>ty σ H λy d=>c σ d λx b=>∃a o,x=.ref a/\eN b a y o/\Q (.bl (!o.isSome)) b
section
theorem yQ(d:X.A.units+1<KJ)(ho:PE X o e)(f:PE X i ty)(hs:BK i):PE X (.Subscript o i pos) (DX e ty):=by
 intro b s σ H Q I h;refine yO PySem.F.slot_dict_getitem.lookup hs (GC (ho b s σ H _ I h) λu s1 ⟨x,j,k,l,m⟩=>GC (f b s1 σ j _ k m) λz s2 n=>?_);obtain⟨y,p,c,q,a,v,ex,g,r⟩:=n;subst ex;obtain rfl:u=ri a:=l;exact⟨oh c g,tJ d c g q λB s3 t w=>⟨v,p,t,w,r⟩⟩
theorem BL(c:X.A.units+1<KJ)(d:PE X i ty)(ho:PE X o e):PC X .In i o (F7 ty e):=by
 intro b s σ H Q I h;refine GC (d b s σ H _ I h) λw s1 ⟨y,f,j,k,l⟩=>GC (ho b s1 σ f _ j l) λu s2 m=>?_;obtain⟨x,n,p,q,a,r,ex,g,t⟩:=m;subst ex;obtain rfl:u=ri a:=q;exact DW c p g k λs3 v=>⟨.bl r.isSome,n,v,rfl,t⟩
theorem tL(c:X.A.units+1<KJ)(d:PE X i ty)(ho:PE X o e):PC X .NotIn i o (yP ty e):=by
 intro b s σ H Q I h;refine GC (d b s σ H _ I h) λw s1 ⟨y,f,j,k,l⟩=>GC (ho b s1 σ f _ j l) λu s2 m=>?_;obtain⟨x,n,p,q,a,r,ex,g,t⟩:=m;subst ex;obtain rfl:u=ri a:=q;exact rm c p g k λs3 v=>⟨.bl (!r.isSome),n,v,rfl,t⟩
end
theorem vp(h:Ju)(a:Ma<h.objs.size):bN P w H (h.push {cls:=.type "dict",data:=.dict #[]}) h.objs.size (.dK []) :=
 ⟨oT _,Zw.mpr (uv (kj a)),[],.nil,Zh h⟩
def BM:TE:=λ_ H Q=>∀p,H p=b6->Q (.ref p) (upd H p (.dK []))
section
theorem oi:PE X (.Dict [] [] pos) BM:=λb s σ H Q I h =>
 wpAny_Dict_empty ⟨.ref s.heap.objs.size,_,I.laid (a:=s.heap.objs.size) (o:=.dK []) (t':=s.toks) (λ_ _ q=>df _ q) (i3 _) (vp s.heap I.big),rfl,h _ (I.Gz.fresh (i3 _))⟩
end
structure M2(X:Cx)(o:rr)(m:Str)(apos:Pos)(e f:rr)(B':Pos):Prop where
 base:QU o m X.env (GV o X.env)=GV o X.env
 PN:((HR B' (ke [e,f] X.env)).all (λx=>!x.1)&&(OV B' (Lh [] X.env)).all (λx=>x.1.isSome)
  && d6 (([e,f]:List rr).length+([]:List M').length+(if ([]:List M').isEmpty then 0 else 1)<30))=b8
 line:(apos.endLine==B'.line)=b8
 trees:HR B' (ke [e,f] X.env)=[(cc,GV e X.env),(cc,GV f X.env)]
def RJ(H:Hp)(a:hH):Prop:=(∃kvs,Rd H a (.dK kvs))\/∃kvs,Rd H a (.dT kvs)
theorem BN(I:Inv X i σ H s)(d:RJ H a):
  s.TypeIs (.ref a) "dict"/\(∀b,ri a=.ref b->∃c,s.heap.get? b=a5 c/\c.dict=b6)/\(a==Ma)=cc:=by
 rcases d with⟨kvs,e⟩|⟨kvs,e⟩
 ·obtain⟨_,f,vs,_,dd⟩:=jI I.Gz e;refine⟨dd.typeIs,λb q=>?_,f⟩;cases q;obtain⟨c,_,_,g,h,_⟩:=dd;exact⟨c,g,h.2.1⟩
 ·obtain⟨_,f,xs,_,dd⟩:=jJ I.Gz e;refine⟨dd.typeIs,λb q=>?_,f⟩;cases q;obtain⟨c,_,_,g,h,_⟩:=dd;exact⟨c,g,h.2.1⟩
section
theorem BO(q:A.units+1<KJ)(I:Inv X f σ H s)(g:eN H a y o)(m:RelV y u)(n:RelV d r)(h:∀p s',Inv X f σ H s'->RelV (o.getD d) p->Q p s'):
  eH (gs X.prog X.w) A (Mj (.builtin "dict.get") [.ref a,u,r]) Q E s:=by
 rcases g with⟨kvs,k,e,i,l⟩|⟨kvs,k,b,e,i,t,l⟩
 ·subst i;obtain⟨z,j,vs,c,dd⟩:=jI I.Gz e;refine Xg PySem.F.slot_dict_get dd.typeIs PySem.F.entry_dict_get (PySem.F.args_dict_get_3 _ _ _) (meets_dict_get_default (aY X.prog X.w) a (lC m) j r) ⟨_,dd.mapOf,h _ _ (I.tok _) ?_⟩;rw[l];exact(c.val k).getD n
 ·subst i;cases(show u=ri b from m);obtain⟨z,j,xs,c,dd⟩:=jJ I.Gz e;refine Xg PySem.F.slot_dict_get dd.typeIs PySem.F.entry_dict_get (PySem.F.args_dict_get_3 _ _ _) (meetsH_dict_get_default (Si (aY X.prog X.w)) a b j r) ⟨N0 q,k,xs,iy I.Gz t,dd,h _ _ (I.tok _) ?_⟩;rw[l];exact(c.val k).getD n
end
def BP(d ty e:TE):TE:=λσ H Q=>d σ H λx b=>∃a,x=.ref a/\RJ b a/\ty σ b λy f=>e σ f λz c=>∃o,eN c a y o/\Q (o.getD z) c
section
theorem vq(j:X.A.units+1<KJ)(ho:PE X o k)(l:PE X e ty)(n:PE X f p)(m:M2 X o "get" c e f q):PE X (.Call (.Attribute o "get" c) [e,f] [] q) (BP k ty p):=by
 intro b s σ H Q I h;refine wpAny_Call_method m.base m.PN m.line PySem.F.plainAttrs_dict PySem.F.slot_dict_get PySem.F.type_dict_get (GC (ho b s σ H _ I h) λu s1 r=>?_);obtain⟨x,t,i,v,a,ex,d,w⟩:=r;subst ex;obtain rfl:u=ri a:=v;obtain⟨B,C,_⟩:=BN i d;refine⟨B,C,?_⟩;rw[m.trees];refine JV rfl (KN (Lx (GC (l b s1 σ t _ i w) λiv s2 ⟨y,D,G,J,L⟩ =>
  Lx (GC (n b s2 σ D _ G L) λfv s3 ⟨z,N,O,T,ov,g,Y⟩=>NW ?_))))
 exact BO j O g J T λw' s4 I4 IL=>⟨_,N,I4,IL,Y⟩
end
section
end
section
end
end L2
namespace GZ
open PySem PySem.Builtin.Str PySem.StrLaws
noncomputable def vt(i:Int):Str:=Wh (Rc i)
theorem app_list(x y:Str):(x++y).cps.toList=x.cps.toList++y.cps.toList:=by
 show(x.cps++y.cps).toList=_;simp
end GZ
namespace L2
open PySem PySem.Spec PyProof.Rows
noncomputable def bu(env:Env):List (Str×Np)->List (Str×hH)->List (Str×hH)
 |[],b=>b
 |(n,k)::r,b=>bu env r (if k==.free then(match env.cells.lookup n with|some a=>(n,a)::b|none=>b) else b)
theorem eh(h:∀y∈scope.names,y.2=.free->∃a,env.cells.lookup y.1=a5 a):closureFor scope env=pure (bu env scope.names []):=by
 unfold closureFor;generalize scope.names=names at h
 suffices H:∀b,(Zo names b (λ(x:Str×Np) (r:List (Str×hH))=>if (x.2==Lw)=b8 then do let a <-cellOf env x.1;pure (Nc ((x.1,a)::r)) else pure (Nc r)):Sem (List (Str×hH)))=pure (bu env names b) by
  have:=H [];exact Zv (λ(m:Sem (List (Str×hH)))=>m >>= pure) this
 induction names with
 |nil=>intro b;rfl
 |cons y r d =>
  intro b;obtain⟨n,k⟩:=y;rw[Tb];have c:=d λy e=>h y (mA _ e);by_cases hk:(k==Lw)=b8
  ·obtain⟨a,f⟩:=h (n,k) r6 (by simpa using hk);have g:env.cells.lookup n=a5 a:=f;simp only[hk,if_true,cellOf,g,bu];exact c _
  ·simp only[hk,if_false,bu];exact c _
theorem eO:∀(names:List (Str×Np)) (b:List (Str×hH)),(∀n c,b.lookup n=a5 c->env.cells.lookup n=a5 c)->∀n c,(bu env names b).lookup n=a5 c->env.cells.lookup n=a5 c
 |[],_,h=>h
 |(m,k)::r,b,h=>by
  unfold bu;refine eO r _ λn c e=>?_;by_cases hk:(k==Lw)=b8
  ·rw[Zq hk]at e;cases q:env.cells.lookup m with
   |none=>rw[q]at e;exact h n c e
   |some a =>
    rw[q]at e;simp only[u7]at e;cases d:n==m with
    |true =>
     rw[d]at e;have f:n=m:=by simpa using d
     subst f;simp only at e;rw[q];exact e
    |false=>rw[d]at e;exact h n c e
  ·rw[Zr hk]at e;exact h n c e
theorem iV(d:env.cells.lookup n=a5 a):∀(names:List (Str×Np)) (c:List (Str×hH)),c.lookup n=a5 a->(bu env names c).lookup n=a5 a
 |[],_,h=>h
 |(m,k)::r,c,h=>by
  unfold bu;refine iV d r _ ?_;by_cases hk:(k==Lw)=b8
  ·rw[Zq hk];cases q:env.cells.lookup m with
   |none=>exact h
   |some b =>
    simp only[u7];cases e:n==m with
    |true =>
     have f:n=m:=by simpa using e
     subst f;rw[d]at q;cases q;rfl
    |false=>exact h
  ·rw[Zr hk];exact h
theorem gk(b:env.cells.lookup n=a5 a):∀(names:List (Str×Np)) (c:List (Str×hH)),(n,Lw)∈names->(bu env names c).lookup n=a5 a
 |[],_,h=>by cases h
 |(m,k)::r,c,h=>by
  unfold bu;rcases hU.mp h with e|e
  ·cases e;refine iV b r _ ?_;rw[Zq (by decide),b];simp[u7]
  ·exact gk b r _ e
theorem bI{env:Env}:∀{names:List (Str×Np)}{x:Str}{k:Np},
  (names.map λ(n,k)=>if (k==Lw&&env.scope.kind==.function&&env.kindOf n==a5 .cell) then(n,NameKind.cell) else(n,k)).lookup x=a5 k ->
  names.lookup x=a5 k\/(k=.cell/\names.lookup x=a5 .free)
 |[],_,_,h=>by simp at h
 |(n,k0)::r,x,k,h=>by
  have e:=@bI env r x k;rw[hW]at h;by_cases b:(k0==Lw&&env.scope.kind==.function&&env.kindOf n==a5 .cell)=b8
  ·simp only[Zq b,u7]at h;cases a:x==n with
   |true =>
    rw[a]at h;have f:k0=.free:=by
     have:=(KS.mp (KS.mp b).1).1;simpa using this
    refine .inr ⟨by simpa using h.symm,by simp[u7,a,f]⟩
   |false =>
    rw[a]at h;rcases e h with z|⟨c,d⟩
    ·exact .inl (by simp[u7,a,z])
    ·exact .inr ⟨c,by simp[u7,a,d]⟩
  ·simp only[Zr b,u7]at h;cases a:x==n with
   |true=>rw[a]at h;exact .inl (by simpa[u7,a] using h)
   |false =>
    rw[a]at h;rcases e h with z|⟨c,d⟩
    ·exact .inl (by simp[u7,a,z])
    ·exact .inr ⟨c,by simp[u7,a,d]⟩
noncomputable def Ht(X:Cx)(N:List Str)(scope:Ln)(C:hH)(s:gj)(H:Hp)(ex:List hH):Cx where
 prog:=X.prog
 w:=X.w
 K:=X.K
 mg:=X.mg
 base:=X.base
 A:=X.A
 N:=N
 s₀:=s
 H₀:=H
 env:=TJ scope (bu X.env scope.names []) C X.env
 outer:=X.stack
 stack:=X.stack
 ex:=ex
 fn:=λ_=>cc
 calm:=X.calm
 pn:=[]
 xe:=λ_ _=>False
def dX(D N:List Str):Prop:=D.length=N.length/\∀(i:Nat) (y:Str),D[i]?=a5 y->N[i]?=a5 y\/y="."\/y=".."
theorem dX.refl(N:List Str):dX N N:=⟨rfl,λ_ _ h=>.inl h⟩
theorem dX.set{D N:List Str}(h:dX D N)(j:Nat){m:Str}(b:m="."\/m=".."):dX (D.set j m) N:=by
 refine⟨by rw[X5];exact h.1,λi y e=>?_⟩;by_cases a:j=i
 ·subst a;rw[List.getElem?_set,Zq rfl]at e;split at e
  ·cases e;exact .inr b
  ·cases e
 ·rw[i0 a]at e;exact h.2 i y e
structure dY(X:Cx)(N own:List Str)(scope:Ln):Prop where
 kind:scope.kind=.function
 IM:∀y∈scope.names,y.2≠.cell
 names:∀y∈scope.names,y.2=.local->scope.names.lookup y.1=a5 .local
 nd:N.Nodup
 pre:N.take own.length=own
 loc:∀y∈scope.names,y.2=.local->y.1∈own\/y.1=".0"
 TL:(".0":Str)∉N
 tail:dX (N.drop own.length) X.N
 free:∀y∈scope.names,y.2=.free->X.env.scope.names.lookup y.1=a5 .cell\/X.env.scope.names.lookup y.1=a5 .free
 dot:∀y∈scope.names,y.1≠"."/\y.1≠".."
theorem mem_lookup{names:List (Str×Np)}(h:names.lookup x=a5 k):(x,k)∈names:=PySem.mem_of_lookup h
theorem dY.cells(S:dY X N c scope)(b:X.Ok):∀y∈scope.names,y.2=.free->∃a,X.env.cells.lookup y.1=a5 a:=λy d e=>by
 rcases S.free y d e with z|z
 ·exact b.has y.1 (.inl z)
 ·exact b.has y.1 (.inr z)
theorem vv(S:dY X N d scope)(I:Inv X A σ H s)
  (G:s.heap.objs.size<=C) (PU:s4.os=s.os) (hg:s4.gens=s.gens) (keep:∀b o,s.heap.get? b=a5 o->s4.heap.get? b=a5 o) (ns:∃m,s4.heap.Ns C m)
  (f:∀b∈ex,jB X A H b/\b<s.heap.objs.size):Inv (Ht X N scope C s H ex) [] (mh d.length b6++σ) H s4:=by
 obtain⟨m0,Og⟩:=ns;have sub:=eO (env:=X.env) scope.names [] (λn c e=>by simp at e);have PV:∀b∈ex,b<C:=λb g=>lg (f b g).2 G;have tl:d.length<=N.length:=by have:=Zv Lz S.pre;rw[HJ]at this;lia
 refine⟨⟨I.ok.mod,?_,I.ok.glob,I.ok.blt,G,λx y c B w=>I.ok.inj x y c (sub x c B) (sub y c w),λx hx=>?_,λx c h _=>absurd (show cc=b8 from h) (by decide),I.ok.hd,I.ok.frames,.inl rfl,λb g=>⟨kj (PV b g),λx c e=>?_⟩,λb o e=>I.bs b o e,?_,λb o e g=>?_,λb g=>?_,I.stack,I.gF⟩,
  PU,(by rw[hg];exact I.bare),Un.kept keep,⟨m0,Og,λi y v B w h3=>?_⟩,λx c e=>?_,I.Gz.fresh G,λx c e=>I.GP x c (sub x c e),λp hp=>absurd (show p∈([]:List (hH×Obj)) from hp) (by simp),I.Gz.kept keep,?_⟩
 ·show(Rr scope X.env).kind=.function;exact S.kind
 ·
  have TN:(Rr scope X.env).names.lookup x=a5 .cell\/(Rr scope X.env).names.lookup x=a5 .free:=hx;have t:scope.names.lookup x=a5 .free:=by
   rcases TN with z|z
   ·rcases bI z with q|⟨_,q⟩
    ·exact absurd rfl (S.IM _ (mem_lookup q))
    ·exact q
   ·rcases bI z with q|⟨q,_⟩
    ·exact q
    ·cases q
  obtain⟨a,ha⟩:=S.cells I.ok (x,.free) (mem_lookup t) rfl;exact⟨a,gk ha scope.names [] (mem_lookup t)⟩
 ·exact(f b g).1.2.2.2.2.1 x c (sub x c e)
 ·exact Jq I.ok.Kl I.sz
 ·obtain⟨f0,O,Q,T,f4,f5⟩:=(f b g).1;rcases T with z|z
  ·exact I.ok.Js b o e z
  ·exact absurd (lg (hV e) (Jq I.ok.Kl z)) (C0 _)
 ·intro Iw;obtain⟨f0,O,Q,T,f4,f5⟩:=(f b g).1;rcases hU.mp (I.jz b Iw) with z|z
  ·exact O z
  ·exact Q z
 ·
  have J:d.length<=i:=by
   by_cases J:i<d.length
   ·rw[x3 (by simpa using J),JO]at w;split at w<;>cases w
   ·lia
  rw[tj (by simpa using J),Of]at w;have TQ:(N.drop d.length)[i - d.length]?=a5 y:=by
   rw[Ku];have e:d.length+(i - d.length)=i:=by lia
   rw[e];exact B
  have Y:(Rr scope X.env).names.lookup y=a5 .local\/(Rr scope X.env).names.lookup y=a5 .cell\/(Rr scope X.env).names.lookup y=a5 .free:=h3;have t:scope.names.lookup y=a5 .free:=by
   rcases Y with z|z|z
   ·rcases bI z with q|⟨q,_⟩
    ·exfalso
     have IQ:y∈d:=by
      rcases S.loc (y,.local) (mem_lookup q) rfl with z|z
      ·exact z
      ·have z':y=".0":=z;exact absurd (HC B) (by rw[z'];exact S.TL)
     obtain⟨j,hj,ej⟩:=Pn IQ;have Jj:N[j]?=a5 y:=by
      have e1:(N.take d.length)[j]?=a5 y:=by rw[S.pre,ve hj,ej]
      rw[Ve hj]at e1;exact e1
     have:=gG S.nd Jj B;lia
    ·cases q
   ·rcases bI z with q|⟨_,q⟩
    ·exact absurd rfl (S.IM _ (mem_lookup q))
    ·exact q
   ·rcases bI z with q|⟨q,_⟩
    ·exact q
    ·cases q
  have hX:X.N[i - d.length]?=a5 y:=by
   rcases S.tail.2 _ _ TQ with e|e|e
   ·exact e
   ·exact absurd e (S.dot _ (mem_lookup t)).1
   ·exact absurd e (S.dot _ (mem_lookup t)).2
  obtain⟨m,hn,hl⟩:=I.loc;have hv:X.env.scope.names.lookup y=a5 .cell\/X.env.scope.names.lookup y=a5 .free:=S.free (y,.free) (mem_lookup t) rfl;obtain⟨u,r,l⟩:=hl _ y v hX w (.inr hv);refine⟨u,r,?_⟩;rcases l with⟨k,_⟩|⟨k,c,e,z⟩
  ·have k':X.env.scope.names.lookup y=a5 .local:=k;rcases hv with q|q<;>(rw[k']at q;cases q)
  ·have hk:(Rr scope X.env).names.lookup y=a5 .cell\/(Rr scope X.env).names.lookup y=a5 .free:=by
    rcases Y with q|q|q
    ·rcases bI q with D|⟨D,_⟩
     ·rw[t]at D;cases D
     ·cases D
    ·exact .inl q
    ·exact .inr q
   obtain⟨o,ho,L⟩:=z;exact .inr ⟨hk,c,gk e scope.names [] (mem_lookup t),o,keep c o ho,L⟩
 ·obtain⟨v,o,ho,L⟩:=I.cell x c (sub x c e);exact⟨v,o,keep c o ho,L⟩
 ·rw[l',Of,I.len];have e:N.length=d.length+(N.drop d.length).length:=by rw[XF];lia
  show _=N.length;rw[e,S.tail.1]
theorem oj(I:Inv X f σ H s)
  (d:Inv (Ht X N scope C s H ex) Y σ' k s4) (t:s.heap.objs.size<=D) (w:s.heap.objs.size<=C) (x:D≠C) (h:k D=b6) (rv:Vals ys m) (y:s4.heap.PlainList D m.toArray) (hl:ys.length<=dV)
  (i:t4 C s4.heap h') (l:∀b∈ex,jB X f H b):Inv X f σ (upd k D (.lst ys)) {s4 with heap:=h' }:=by
 have p:k C=b6:=d.free;have lt:∀{b:hH} {o:Obj},s.heap.get? b=a5 o->b≠C/\b≠D:=λe=>⟨kj (lg (hV e) w),kj (lg (hV e) t)⟩
 refine I.uS (s':={s4 with heap:=h' }) (ch:=ex) d.os ⟨λb o e n j g=>?_,λb o e n j g=>?_,λb o e n g=>?_,λb o e g=>?_,λb xs e=>?_,λb o u e=>?_,λb A e=>?_⟩ (λa o e=>?_) d.bare λb j=>?_
 ·exact(i.2 b (lt e).1).trans (d.base.keep b o e n j g)
 ·obtain⟨B,q⟩:=d.base.slot b o e n j g;exact⟨B,(i.2 b (lt e).1).trans q⟩
 ·rw[au (lt e).2];exact d.base.free b o e n g
 ·obtain⟨G,q⟩:=d.base.there b o e g;exact⟨G,(i.2 b (lt e).1).trans q⟩
 ·have q:=d.base.fi b xs e;rw[au (a9 q h)];exact q
 ·have q:=d.base.Hm b o u e;rw[au (a9 q h)];exact q
 ·obtain⟨more,q⟩:=d.base.Hr b A e;exact⟨more,by rw[au (a9 q h)];exact q⟩
 ·by_cases r:a=D
  ·subst r;rw[aw]at e;cases e;obtain⟨n,q⟩:=y;exact⟨hl,m,n,rv,(i.2 _ x).trans q⟩
  ·rw[au r]at e;refine(d.Gz a o e).gh (λc v J q=>(i.2 c ?_).trans q) (λc q=>?_) λc xs q=>?_
   ·rintro rfl;rcases J with z|z
    ·rw[<-z,p]at e;cases e
    ·rw[p]at z;cases z
   ·rw[au (a9 q h)];exact q
   ·rw[au (a9 q h)];exact q
 ·obtain⟨f0,L,f2,O,Q,T⟩:=l b j;exact⟨O,L,Q,T⟩
section
theorem mY(I:Nat->gj->Prop)
  (b:∀n s,I n s->eH (gs prog w) A (R' it) (λr d=>match r with
   |none=>R (.ok .next) d
   |some v=>eH (gs prog w) A (RO a it v) (λ_ d=>eH (gs prog w) A (QB a env v) (λ_ j =>
     eH (gs prog w) A (Zo f b8 λc r=>if r=b8 then do let ok <-isTrue c env (GV c env);pure (Nc ok) else pure (Nc r)) (λok i =>
      if ok=b8 then eH (gs prog w) A (GV elt env) (λx k =>
       eH (gs prog w) A (Mj (.builtin "list.append") [acc,x]) (λ_ l=>∃m,m<n/\I m l) (QN (gs prog w) A env λe s'=>R (.error e) s') k) (QN (gs prog w) A env λe s'=>R (.error e) s') i
      else ∃m,m<n/\I m i) (QN (gs prog w) A env λe s'=>R (.error e) s') j) (QN (gs prog w) A env λe s'=>R (.error e) s') d) (QN (gs prog w) A env λe s'=>R (.error e) s') d) (QN (gs prog w) A env λe s'=>R (.error e) s') s)
  (n:Nat) (h:I n s) :
  OU (gs prog w) A (.compLoop (.ListComp elt [⟨a,g,f,0⟩] scope pos) 0 it acc env) R s:=by
 refine codeAny_loop rfl I (λn s q=>?_) n h;show eH _ A ((compTurn (.ListComp elt [⟨a,g,f,0⟩] scope pos) 0 it acc env).onRaise (λx=>do noteFrame x env;theTreesLotGoes x)) _ _ s;refine wpAny_noted ?_;rw[compTurn_list];refine bD (WR (bD (nc (b n s q) (λr d o=>?_) λ_ _ h'=>h')));cases r with
 |none=>exact c4 o
 |some v =>
  refine bD (nc o (λ_ B t=>?_) λ_ _ h'=>h');refine bD (nc t (λ_ j u=>bD (nc u (λok i p=>?_) λ_ _ h'=>h')) λ_ _ h'=>h');cases ok with
  |false=>exact c4 ⟨rfl,p⟩
  |true =>
   exact bD (bD (nc p (λx k y=>bD (nc y (λ_ l z=>c4 (c4 ⟨rfl,z⟩)) λ_ _ h'=>h')) λ_ _ h'=>h'))
end
def Kp(X:Cx)(b:List rr)(t:TT):Prop :=
 ∀(a:List (hH×Obj)) (s:gj) (σ:St) (H:Hp) (Q:Bool->Hp->Prop),Inv X a σ H s->t σ H Q ->
  eH (gs X.prog X.w) X.A (Zo b b8 λc r=>if r=b8 then do let d <-isTrue c X.env (GV c X.env);pure (Nc d) else pure (Nc r)) (TP X a σ Q) X.xe s
def F8:TT:=λ_ H Q=>Q b8 H
theorem rp:Kp X [] F8:=λ_ _ _ H _ I h=>wpAny_tests_nil ⟨H,I,h⟩
theorem rq(h:PT X c t):Kp X [c] t:=λa s σ H Q I q=>wpAny_tests_one (h a s σ H Q I q)
def rA(k:Nat)(J:It)(g:TG)(j:TT)(te:TE)(Q:VK)(σ:St)(l:Hp):Prop :=
  ∃W:Nat->Nat->List V->Hp->Prop,(∃m,W 0 m [] l)/\∀i m ys H,W i m ys H->ys.length<=dV /\
    ((J.stop i H/\∀p,H p=b6->Q (.ref p) (upd H p (.lst ys))) \/
     (J.go i H/\∃c:List V->Hp->Prop,(∀e H',c e H'->∃f,f<m/\W (i+1) f e H')/\∀x H',J.N_ i H x H'->g x (mh k b6++σ) H' λd n=>∃a:St,a.length=k/\d=a++σ /\
        j d n λb h=>if b=b8 then te d h λy o=>c (ys++[y]) o else c ys h))
def vA(k:Nat)(a:TI)(g:TG)(b:TT)(te:TE):TE:=λσ H Q=>a σ H λJ c=>rA k J g b te Q σ c
section
theorem vB
  (S:dY X N B scope) (hc:X.calm=b8) (hg:∀C s H ex,PG (Ht X N scope C s H ex) tg g) (hf:∀C s H ex,Kp (Ht X N scope C s H ex) ag tt) (he:∀C s H ex,PE (Ht X N scope C s H ex) elt te)
  (I:Inv X al σ H s) (T:Turn X.prog X.w X.K tg J G it tn) (st:tn 0 s.heap) (f2:∀b∈G,jB X al H b) (W:rA B.length J g tt te Q σ H)
  (hD:@Eq Nat D s.heap.objs.size) (hC:@Eq Nat C (s.heap.objs.size+1)) (PU:s4.os=s.os) (TU:s4.gens=s.gens) (keep:∀b o,s.heap.get? b=a5 o->s4.heap.get? b=a5 o) (ns:∃m,s4.heap.Ns C m) (pl:s4.heap.PlainList D #[])
  (am:∀s5 O ys k,Inv (Ht X N scope C s H G) [] (mh B.length b6++σ) O s5->O D=b6->Vals ys k->s5.heap.PlainList D k.toArray->ys.length<=dV->(∀p,O p=b6->Q (.ref p) (upd O p (.lst ys)))->R (.ok .next) s5) :
  OU (gs X.prog X.w) X.A (.compStart (.ListComp elt [⟨tg,an,ag,0⟩] scope pos) 0 (.ref it) (.ref D) (TJ scope (bu X.env scope.names []) C X.env)) R s4:=by
 have Kq:∀b∈G,@OX Nat _ b s.heap.objs.size:=λb h=>by
  obtain⟨o,e,_⟩:=T.obj 0 s.heap st b h;exact hV e
 have I4:Inv (Ht X N scope C s H G) [] (mh B.length b6++σ) H s4:=vv S I ⋯ PU TU keep ns λb h=>⟨f2 b h,Kq b h⟩
 have Mn:tn 0 s4.heap:=T.keep 0 s.heap s4.heap st λb _ o e=>keep b o e;have nD:H D=b6:=I.Gz.fresh ⋯;obtain⟨W,⟨m0,w0⟩,XQ⟩:=W;generalize l:Ht X N scope C s H G=f at I4 am;have eP:f.prog=X.prog:=by rw[<-l];rfl
 have ew:f.w=X.w:=by rw[<-l];rfl
 have eK:f.K=X.K:=by rw[<-l];rfl
 have ec:f.calm=b8:=by rw[<-l];exact hc
 have eA:f.A=X.A:=by rw[<-l];rfl
 have ee:f.env=TJ scope (bu X.env scope.names []) C X.env:=by rw[<-l];rfl
 have PY:f.xe=λ_ _=>False:=by rw[<-l];rfl
 have el:f.env.locals=C:=by rw[ee];rfl
 have PZ:PG f tg g:=by rw[<-l];exact hg _ _ _ _
 have P0:Kp f ag tt:=by rw[<-l];exact hf _ _ _ _
 have TV:PE f elt te:=by rw[<-l];exact he _ _ _ _
 have s0:f.s₀=s:=by rw[<-l];rfl
 have MU:f.pn=[]:=by rw[<-l];rfl
 have P1:∀{H':Hp} {o:Obj},(∀b∈G,H' b=b6)->∀b∈G,jB f [(D,o)] H' b:=λ{H' o} hn b h=>by
  have ex:f.ex=G:=by rw[<-l];rfl
  refine⟨hn b h,?_,?_,.inl (by rw[ex];exact h),λx c e=>?_,λp L=>?_⟩
  ·rw[el];have:=Kq b h;exact kj (by show @OX Nat _ b C;lia)
  ·have e1:f.fs=G3 X.stack:=by rw[<-l];rfl
   rw[e1];intro z;obtain⟨f0,f1,TX,f3,f4,f5⟩:=f2 b h;rcases hU.mp (I.jz b z) with q|q
   ·exact f1 q
   ·exact TX q
  ·have e1:f.env.cells=bu X.env scope.names []:=by rw[ee];rfl
   rw[e1]at e;exact(f2 b h).2.2.2.2.1 x c (eO scope.names [] (λn c e=>by simp at e) x c e)
  ·rw[MU,u6]at L;have:p=(D,o):=by simpa using L
   subst this;have:=Kq b h;exact KX (by show @OX Nat _ b D;lia)
 have P2:∀{σ':St} {H':Hp} {s':gj} {o:Obj},Inv f [] σ' H' s'->H' D=b6->s'.heap.get? D=a5 o->(∀v,o.data≠.cell v)->Inv f [(D,o)] σ' H' s':=λ{σ' H' s' o} I' n e d =>
  I'.dP λp L=>by
   have:p=(D,o):=by simpa using L
   subst this;refine⟨e,n,?_,?_,d⟩
   ·rw[el];exact kj (by show @OX Nat _ D C;lia)
   ·have e1:f.fs=G3 X.stack:=by rw[<-l];rfl
    rw[e1];intro z;have zz:(D:hH)∈G3 X.stack:=z;rcases hU.mp (I.jz D zz) with q|q
    ·have:=I.lt;rw[<-q]at this;exact absurd this (by show ¬@OX Nat _ D s.heap.objs.size;lia)
    ·exact I.Be (a:=D) ⋯ q
 have start:∀s':gj,s'=s4->OU (gs X.prog X.w) X.A (.compLoop (.ListComp elt [⟨tg,an,ag,0⟩] scope pos) 0 (.ref it) (.ref D) (TJ scope (bu X.env scope.names []) C X.env)) R s':=by
  rintro s' rfl;refine mY (λn s'=>∃i ys k H',Inv f [] (mh B.length b6++σ) H' s'/\tn i s'.heap/\(∀b∈G,H' b=b6)/\H' D=b6/\Vals ys k/\s'.heap.PlainList D k.toArray/\W i n ys H') ?_ m0
   ⟨0,[],[],H,I4,Mn,λb h=>(f2 b h).1,nD,.nil,pl,w0⟩
  rintro n s3 ⟨i,ys,k,H3,I3,G8,MO,RL,Oh,⟨nn,TY⟩,w3⟩;obtain⟨Y,Jk⟩:=XQ i n ys H3 w3;have IP:=P2 I3 RL TY (λv z=>by have z':Data.seq _ _=Zi v:=z;cases z');rcases Jk with⟨ap,qn⟩|⟨go,NN,RM,ar⟩
  ·have d:=T.done f eP ew eK ec i _ s3 _ H3 (QN (gs X.prog X.w) X.A (TJ scope (bu X.env scope.names []) C X.env) λe s'=>R (.error e) s') IP (P1 MO) G8 ap;rw[eA]at d;refine GC d λr s4 P4=>?_;obtain⟨hr,I5⟩:=P4;subst hr;have e5:=(I5.pin (D,({cls:=.type "list",data:=.seq k.toArray nn}:Obj)) (by rw[MU];simp)).1;exact am s4 H3 ys k (I5.dP λp L=>by cases L) RL Oh ⟨nn,e5⟩ Y qn
  ·have d:=T.item f eP ew eK ec i _ s3 _ H3 (QN (gs X.prog X.w) X.A (TJ scope (bu X.env scope.names []) C X.env) λe s'=>R (.error e) s') IP (P1 MO) G8 go;rw[eA]at d;refine GC d λr s4 P5=>?_;obtain⟨u,hr,h4⟩:=P5;subst hr;refine GC h4 λ_ s5 P6=>?_;obtain⟨x,O,I5,r5,y5,KO,Pf⟩:=P6;have Wv:O D=b6:=(I5.pin (D,({cls:=.type "list",data:=.seq k.toArray nn}:Obj)) (by rw[MU];simp)).2.1;have Ph:=I5.pinned (P1 Pf) (T.obj _ _ KO);have a6:=PZ _ s5 _ O x u _ Ph r5 (ar x O y5);rw[eP,ew,eA,ee,PY]at a6;refine nc a6 (λ_ s6 ⟨σ6,H6,I6,q6⟩=>?_) λ_ _ z=>LF z;obtain⟨ow,as,rfl,q6⟩:=q6;have a7:=P0 _ s6 _ H6 _ I6 q6;rw[eP,ew,eA,ee,PY]at a7;refine nc a7 (λb s7 ⟨H7,I7,q7⟩=>?_) λ_ _ z=>LF z;have ab:∀{s8:gj} {t:Hp} {Ie:List V} {its':List et} {nn':Nat},Inv f [] (ow++σ) t s8->tn (i+1) s8.heap->(∀b∈G,t b=b6)->t D=b6->Vals Ie its'->s8.heap.PlainList D its'.toArray->(∃m',m'<n/\W (i+1) m' Ie t) ->
     ∃m,m<n/\∃i ys k H',Inv f [] (mh B.length b6++σ) H' s8/\tn i s8.heap/\(∀b∈G,H' b=b6)/\H' D=b6/\Vals ys k/\s8.heap.PlainList D k.toArray/\W i m ys H':=λ{s8 t Ie its' nn'} I8 TZ T1 n8 T5 T6 w8=>by
    obtain⟨m',hm,w8⟩:=w8;refine⟨m',hm,i+1,Ie,its',t,I8.weak (by simp[as]) (λj v e=>?_),TZ,T1,n8,T5,T6,w8⟩;by_cases hj:j<B.length
    ·rw[x3 (by simpa using hj),JO]at e;split at e<;>cases e
    ·rw[tj (by simpa using(Nat.not_lt.mp hj)),Of]at e;rw[tj ⋯,as];exact e
   have ac:∀{σ':St} {t:Hp} {s8:gj},Inv f ([(D,({cls:=.type "list",data:=.seq k.toArray nn}:Obj))]++jC G s5.heap) σ' t s8->s8.heap.get? D=a5 {cls:=.type "list",data:=.seq k.toArray nn}/\t D=b6/\tn (i+1) s8.heap/\∀b∈G,t b=b6:=λ{σ' t s8} I8=>by
    have p1:=I8.pin (D,({cls:=.type "list",data:=.seq k.toArray nn}:Obj)) (by rw[MU];simp);refine⟨p1.1,p1.2.1,T.keep _ _ _ KO λb h o e=>(I8.pin (b,o) (ro _ (ro _ (eL h e)))).1,λb h=>?_⟩;obtain⟨o,e,d⟩:=T.obj _ _ KO b h;exact(I8.pin (b,o) (ro _ (ro _ (eL h e)))).2.1
   cases b with
   |false =>
    rw[Zr mu]at q7 ⊢;obtain⟨p1,p2,p3,p4⟩:=ac I7;exact ab (nn':=0) (I7.dP λp L=>by cases L) p3 p4 p2 Oh ⟨nn,p1⟩ (RM _ _ q7)
   |true =>
    rw[Zq rfl]at q7 ⊢;have a8:=TV _ s7 _ H7 _ I7 q7;rw[eP,ew,eA,ee,PY]at a8;refine nc a8 (λy s8 ⟨yv,t,I8,r8,q8⟩=>?_) λ_ _ z=>LF z;obtain⟨p1,p2,p3,p4⟩:=ac I8;have hsz:k.toArray.size<=dV:=by rw[hQ,<-Oh.length];exact Y
    refine wpAny_list_append_plain (hsz:=hsz) ⟨nn,p1⟩ λh9 T7 RN=>?_;have T8:Inv f [] (ow++σ) t s8:=I8.dP λp L=>by cases L
    have Oi:∀x c,f.env.cells.lookup x=a5 c->c≠D:=λx c e=>by
     have e1:f.env.cells=bu X.env scope.names []:=by rw[ee];rfl
     rw[e1]at e;have q:=eO scope.names [] (λn c e=>by simp at e) x c e;obtain⟨v,z⟩:=I.cell x c q;have:@OX Nat _ c s.heap.objs.size:=z.lt;exact kj (by show @OX Nat _ c D;lia)
    have I9:Inv f [] (ow++σ) t {s8 with heap:=h9,toks:=s8.toks}:=T8.turned (it:=D) (λb o h e=>(RN.2 b h).trans e) p2 (by rw[el];exact kj (by show @OX Nat _ D C;lia)) (.inr (by rw[s0];show @YI Nat _ s.heap.objs.size D;lia)) Oi (λp L=>by rw[MU]at L;cases L);have T9:(k++[y]).toArray=k.toArray.push y:=by simp
    refine ab (nn':=0) (s8:={s8 with heap:=h9,toks:=s8.toks}) I9 (T.keep _ _ _ p3 λb h o e=>(RN.2 b ?_).trans e) p4 p2 (Oh.append (.cons r8 .nil)) (by rw[T9];exact T7) (RM _ _ q8);have:=Kq b h;exact kj (by show @OX Nat _ b D;lia)
 exact codeAny_compStart_list (start _ rfl) (T.self _ _ _ _ _ Mn (start _ rfl))
theorem jK{RR:et->hH->Result->gj->Prop}
    (S:dY X N d scope) (G:X.calm=b8) (L:∀C s H ex,PG (Ht X N scope C s H ex) v g) (O:∀C s H ex,Kp (Ht X N scope C s H ex) l Y) (he:∀C s H ex,PE (Ht X N scope C s H ex) elt te)
 (I:Inv X f σ H s) (T:Turn X.prog X.w X.K v J x it tn) (st:tn 0 s.heap) (f2:∀b∈x,jB X f H b) (W:rA d.length J g Y te Q σ H)
    (m:∀D C h c ys j,@Eq Nat D s.heap.objs.size->@Eq Nat C (s.heap.objs.size+1)->Inv (Ht X N scope C s H x) [] (mh d.length b6++σ) c h->c D=b6->Vals ys j->h.heap.PlainList D j.toArray->ys.length<=dV->(∀p,c p=b6->Q (.ref p) (upd c p (.lst ys)))->RR (.ref D) C (.ok .next) h) :
    eH (gs X.prog X.w) X.A (Yx []) (λacc s₃=>eH (gs X.prog X.w) X.A (newFunctionEnv scope X.env.globals (bu X.env scope.names []) [] X.env.qual b6 .none (a5 X.env)) (λz s₄ =>
      OU (gs X.prog X.w) X.A (.compStart (.ListComp elt [⟨v,B,l,0⟩] scope pos) 0 (.ref it) acc {z with scope:=Rr scope X.env}) (RR acc z.locals) s₄) E s₃) E s:=by
  refine J_ (wpAny_newFunctionEnv S.IM (by intro y hy;simp at hy) (λn q k=>?_) S.kind)
  dsimp only at q k ⊢
  generalize r:s.heap.push {cls:=.type "list",dict:=b6,data:=.seq ([]:List et).toArray}=i at q k ⊢;have t:i.objs.size=s.heap.objs.size+1:=by rw[<-r,Heap.size_push]
  have PX:s.heap.objs.size≠i.objs.size:=by rw[t];exact kj (Nh _)
  have a:∀b:hH,b<s.heap.objs.size->b≠i.objs.size:=λb hb=>kj (by have Iw:@OX Nat _ b s.heap.objs.size:=hb;show @OX Nat _ b i.objs.size;lia);have u:∀b o,s.heap.get? b=a5 o->n.get? b=a5 o:=λb o e=>k.extBut b o (a b (hV e)) (df _ (r▸df _ e));have Hi:n.PlainList s.heap.objs.size #[]:=⟨_,k.extBut _ _ PX (df _ (r▸hY _ rfl))⟩
  exact vB (s:=s) (s4:={s with heap:=n,toks:=s.toks+([]:List (Str×et)).length}) (C:=i.objs.size) (D:=s.heap.objs.size) S G L O he I T st f2 W rfl t rfl rfl u ⟨_,q⟩ Hi
    λh c ys j I5 n5 MW MX MY q5=>m _ _ h c ys j rfl t I5 n5 MW MX MY q5
theorem yR(S:dY X N c scope)(m:X.calm=b8)(n:PI X f a o)(p:∀C s H ex,PG (Ht X N scope C s H ex) f g)(q:∀C s H ex,Kp (Ht X N scope C s H ex) d r)(t:∀C s H ex,PE (Ht X N scope C s H ex) elt te)
  (hs:∀x,Lm a X.env x=pure x:=by intro _;rfl):PE X (.ListComp elt [⟨f,a,d,0⟩] scope pos) (vA c.length o g r te):=by
 intro b s σ H Q I h;rw[eval_ListComp];refine WW (use:=b6) (cl:=bu X.env scope.names []) rfl hs (eh (S.cells I.ok)) S.kind S.names ?_;refine GC (n b s σ H _ I h) λv s1 u=>GC u λN' s2 y=>?_;obtain⟨it,fp,tn,J,H2,e,i,T,st2,j,W⟩:=y;subst e;refine jK (RR:=λacc C=>compPost (gs X.prog X.w) X.A X.xe b6 (EP X b σ Q) acc C) S m p q t i T st2 j W ?_;intro D C s5 H5 ys A' z hC k l B G L O;obtain⟨Y,P8,_⟩:=k.loc;exact⟨Y,P8,λh' sb=>⟨.ref D,_,oj i k (Wn z.symm) (by show @YI Nat _ s2.heap.objs.size C;lia) (kj (by show @OX Nat _ D C;lia)) l B G L sb j,rfl,O D l⟩⟩
theorem yS(S:dY X N r scope)(hc:X.calm=b8)(hN:X.N.Nodup)(Oj:X.N[i]?=a5 y)(G:X.env.scope.names.lookup y=a5 .local)
  (hi:PI X n d wi) (hg:∀C s H ex,PG (Ht X N scope C s H ex) n g) (hf:∀C s H ex,Kp (Ht X N scope C s H ex) k tt) (he:∀C s H ex,PE (Ht X N scope C s H ex) elt te)
  (Kc:Ny (.ListComp elt [⟨n,d,k,0⟩] scope pos) (a5 (.Name y m)) Jt.line X.env=pure b8:=by rfl)
  (hs:∀x,Lm d X.env x=pure x:=by intro _;rfl):PS X (.Assign [.Name y m] (.ListComp elt [⟨n,d,k,0⟩] scope pos) Jt) (Bp (vA r.length wi g tt te) (rg i)):=by
 intro f s σ H D I h;rw[exec_Assign_Name_used _ _ _ _ Kc];refine bD (WR (bD ?_));show eH _ X.A (do let _ <-comprehension (.ListComp elt [⟨n,d,k,0⟩] scope pos) scope X.env _ (Yx []) cc (GV d X.env) (a5 (QB (.Name y m) X.env))) _ _ s;refine bD (nc (WW (use:=a5 (QB (.Name y m) X.env)) (cl:=bu X.env scope.names []) (Q:=λ_ s'=>SP X f D .next s') rfl hs (eh (S.cells I.ok)) S.kind S.names ?_) (λ_ s' hq=>c4 (c4 hq)) λ_ _ e=>e);refine GC (hi f s σ H _ I h) λv s1 h1=>GC h1 λN' s2 h2=>?_;obtain⟨it,fp,tn,J,H2,e,l,T,st2,L,W⟩:=h2;subst e;refine jK (RR:=λacc C=>compPost (gs X.prog X.w) X.A X.xe (a5 (QB (.Name y m) X.env)) (λ_ s'=>SP X f D .next s') acc C) S hc hg hf he l T st2 L W ?_;intro j C q t ys A' hD hC u O MW MX MY q5;obtain⟨m5,P8,_⟩:=u.loc;have T_:t C=b6:=u.free;have B:Inv X f σ (upd t j (.lst ys)) {q with heap:=q.heap}:=oj l u (Wn hD.symm) (by show @YI Nat _ s2.heap.objs.size C;lia) (kj (by show @OX Nat _ j C;lia)) O MW MX MY (IV ..) L;show eH _ X.A (QB (.Name y m) X.env (.ref j)) _ _ q;refine Yu (lp (s:=q) B hN Oj (.inl G) (show RelV (.ref j) (.ref j) from rfl) (λs6 I6 ⟨a,sb,ha⟩=>?_) (.inr G));have Y:@OX Nat _ X.env.locals C:=by have:@OX Nat _ X.env.locals s2.heap.objs.size:=l.lt;lia
 have JP:∀x c,X.env.cells.lookup x=a5 c->c≠C:=λx c e=>by
  obtain⟨v,z⟩:=l.cell x c e;have:@OX Nat _ c s2.heap.objs.size:=z.lt;exact kj (by show @OX Nat _ c C;lia)
 have Ua:C≠a:=by
  rcases ha with z|z
  ·rw[z];exact KX Y
  ·exact(JP _ _ z).symm
 refine⟨m5,P8.sameBut sb Ua,λh' MZ=>?_⟩;refine⟨σ.set i (a5 (.ref j)),upd t j (.lst ys),I6.turned (it:=C) (t':=s6.toks) (λb o hb e=>(MZ.2 b hb).trans e) ?_ (KX Y) (.inr (by have:@YI Nat _ X.s₀.heap.objs.size s2.heap.objs.size:=l.sz;show @YI Nat _ X.s₀.heap.objs.size C;lia)) JP (λp hp=>?_),q5 j O⟩
 ·rw[au (KX (by show @OX Nat _ j C;lia))];exact T_
 ·have:@OX Nat _ p.1 s2.heap.objs.size:=hV (l.pin p hp).1;exact kj (by show @OX Nat _ p.1 C;lia)
end
section
end
section
def DY:V->Option Int->Option Int->Hp->VK->Prop:=λx lo a H Q=>∃z,x=.str z/\z.length<=dV/\Q (.str (PySem.StrLaws.sliceText z lo a)) H
theorem k7(x:Str)(lo a:Option Int)(hz:x.length<=dV):(PySem.StrLaws.sliceText x lo a).length<=dV:=Jq (Txt.slice_le x lo a) hz
theorem BQ:KR X DY:=by
 intro b s σ H x v n o lo c p Q I g hs m e h;obtain⟨z,rfl,hz,q⟩:=h;obtain⟨t,rfl⟩:=g;refine⟨"str",_,YV.lookup,Wb _ _ _,?_⟩;have a:(PySem.StrLaws.sliceText z lo c).length<=dV/\∀t' k,EP X b σ Q (.str (PySem.StrLaws.sliceText z lo c) t') {s with toks:=k}:=⟨k7 z lo c hz,λt' k=>⟨.str _,H,I.tok k,⟨_,rfl⟩,q⟩⟩
 cases m with
 |none =>
  cases e with
  |none=>exact N3 (l:=b6) (u:=b6) (st:=b6) hs rfl (RK a)
  |int j d=>exact N3 (l:=b6) (u:=a5 (j,d)) (st:=b6) hs rfl (RK a)
 |int i f =>
  cases e with
  |none=>exact N3 (l:=a5 (i,f)) (u:=b6) (st:=b6) hs rfl (RK a)
  |int j d=>exact N3 (l:=a5 (i,f)) (u:=a5 (j,d)) (st:=b6) hs rfl (RK a)
theorem gN:∀{ys:List Str}{a:List et},Vals (ys.map V.str) a->∃l:List (Str×Tok),a=strValues l/\l.map (·.1)=ys
 |[],_,.nil=>⟨[],rfl,rfl⟩
 |y::ys,_,.cons r t=>by
  obtain⟨b,rfl⟩:=r;obtain⟨l,rfl,e⟩:=gN t;exact⟨(y,b)::l,rfl,by rw[hW,e]⟩
theorem yT:Pu X "str.join" (λx xs H Q=>∃a p ys,x=.str a/\xs=[.ref p]/\GY X.K H p (ys.map V.str)/\Yj a ys=b8/\Q (.str (Ru a ys)) H):=by
 intro b s σ H x xs v us Q I c rs h;obtain⟨a,p,ys,rfl,rfl,d,f,q⟩:=h;obtain⟨t,rfl⟩:=c;obtain⟨u,rfl,r⟩:=vals1 rs;cases r;obtain⟨i,rv,g,hz⟩:=I.list d;obtain⟨l,rfl,e⟩:=gN rv;exact SC.join g.isList e f λt' k=>⟨.str _,H,I.tok k,⟨_,rfl⟩,q⟩
theorem iW:∀{bs:List Bool}{a:List et},Vals (bs.map V.bl) a->a=bs.map MR
 |[],_,.nil=>rfl
 |b::bs,_,.cons r t=>by
  cases r;rw[iW t];rfl
theorem vC:X.calm=b8->gI X (.builtin "all") (λxs H Q=>∃(p:hH) (bs:List Bool),xs=[.ref p]/\GY X.K H p (bs.map V.bl)/\Q (.bl (bs.all id)) H):=by
 intro g d s σ H xs us Q I rs h;obtain⟨p,bs,rfl,j,q⟩:=h;obtain⟨u,rfl,r⟩:=vals1 rs;cases r;obtain⟨n,rv,c,hz⟩:=I.list j;have e:=iW rv;subst e;have k:p<s.heap.objs.size:=by obtain⟨_,_,e,_⟩:=c;exact hV e
 refine call_all_walk (Ti c.isList ?_);refine⟨s.heap.objs.size,[s.heap.objs.size,p],[s.heap.objs.size],(bs.map MR).toArray.size,_,_,λi=>(bs[i]?).getD b8,rfl,YT (A:=X.A.in1) (I.ok.hd g) _ p (kj k) (bs.map MR).toArray,
  ⟨⟨_,hY _ rfl,rfl,rfl⟩,c.isList.push _⟩,λi v s' Q' o l f=>?_,λh' m hk=>?_⟩
 ·have a:(bs.map MR)[i]?=a5 v:=by simpa using l
  rw[mN]at a;cases e:bs[i]? with
  |none=>rw[e]at a;cases a
  |some b =>
   rw[e]at a;cases a;simp only[e,Option.getD_some]at f;exact Lg f
 ·have e:((ko (bs.map MR).toArray.size).all λi=>(bs[i]?).getD b8)=bs.all id:=by
   rw[hQ,ei];exact X_ bs
  rw[e];exact⟨.bl _,H,I.kept (t':=m) (X' hk),rfl,q⟩
end
section
end
noncomputable def BR(N a:List Str)(scope:Ln)(out:List (Str×Np)):Bool :=
 d6 (scope.kind=.function)&&scope.names.all (λy=>d6 (y.2≠.cell))&&scope.names.all (λy=>d6 (y.2≠.local)||decide (scope.names.lookup y.1=a5 .local))&&decide N.Nodup&&d6 (N.take a.length=a) &&
 scope.names.all (λy=>d6 (y.2≠.local)||decide (y.1∈a)||decide (y.1=".0"))&&d6 ((".0":Str)∉N)&&scope.names.all (λy=>d6 (y.2≠.free)||decide (out.lookup y.1=a5 .cell)||decide (out.lookup y.1=a5 .free))&&scope.names.all (λy=>d6 (y.1≠".")&&d6 (y.1≠".."))
theorem vE(c:X.env.scope.names=out)(d:dX (N.drop a.length) X.N)(h:BR N a scope out=b8):dY X N a scope:=by
 unfold BR at h;simp only[cb,mx,KQ,Zp]at h;obtain⟨⟨⟨⟨⟨⟨⟨⟨f,g⟩,i⟩,j⟩,k⟩,l⟩,m⟩,n⟩,o⟩:=h;refine⟨f,g,λy b e=>?_,j,k,λy b e=>?_,m,d,λy b e=>?_,o⟩
 ·rcases i y b with z|z
  ·exact absurd e z
  ·exact z
 ·rcases l y b with(z|z)|z
  ·exact absurd e z
  ·exact .inl z
  ·exact .inr z
 ·rw[c];rcases n y b with(z|z)|z
  ·exact absurd e z
  ·exact .inl z
  ·exact .inr z
section
end
section
end
noncomputable def Iy(a b:Str):Bool:=!d6 (b.cps.toList<a.cps.toList)
theorem jn(a b:Str):Iy a b=b8↔a.cps.toList<=b.cps.toList:=by
 simp only[Iy,va,decide_eq_false_iff_not];exact List.not_lt
theorem lE(a b c:Str)(d:Iy a b=b8)(e:Iy b c=b8):Iy a c=b8:=by
 rw[jn]at d e ⊢;exact List.le_trans d e
theorem tM(a b:Str):(Iy a b||Iy b a)=b8:=by
 rw[KQ,jn,jn];exact List.le_total _ _
theorem vF{x y:Str}(h:x.cps.toList=y.cps.toList):x=y:=by
 cases x;cases y;congr
 exact Array.toList_inj.mp h
theorem mZ(c:Iy a b=b8)(d:Iy b a=b8):a=b:=by
 rw[jn]at c d;exact vF (List.le_antisymm c d)
noncomputable def aL(l:List Str):List Str:=l.mergeSort Iy
theorem bp(l:List Str):(aL l).Perm l:=List.mergeSort_perm l Iy
theorem fe(l:List Str):(aL l).Pairwise (λa b=>Iy a b=b8):=List.pairwise_mergeSort lE tM l
theorem gO:∀(l:List Str) (p:Str),risingS p l=b8->(p::l).Pairwise (λa b=>Iy a b=b8)
 |[],p,_=>by simp
 |x::r,p,h=>by
  have h':(!ltCps x.cps.toList p.cps.toList&&risingS x r)=b8:=h;obtain⟨c,g⟩:=KS.mp h';have d:=gO r x g;have f:Iy p x=b8:=by rw[ltCps_eq]at c;exact c
  refine PL.mpr ⟨λy i=>?_,d⟩;rcases hU.mp i with e|e
  ·rw[e];exact f
  ·exact lE _ _ _ f ((PL.mp d).1 y e)
theorem m6(h:sortedS l=b8):l.Pairwise (λa b=>Iy a b=b8):=by
 cases l with
 |nil=>exact .nil
 |cons x r=>exact gO r x h
theorem fH:∀{l m:List Str},l.Perm m->l.Pairwise (λa b=>Iy a b=b8)->m.Pairwise (λa b=>Iy a b=b8)->l=m
 |[],m,c,_,_=>(List.Perm.nil_eq c)
 |x::l,m,c,d,f=>by
  cases m with
  |nil=>exact absurd c.length_eq (by simp)
  |cons y m =>
   obtain⟨g,h⟩:=PL.mp d;obtain⟨i,j⟩:=PL.mp f;have k:x=y:=by
    have m1:x∈y::m:=c.mem_iff.mp r6;have m2:y∈x::l:=c.mem_iff.mpr r6;rcases hU.mp m1 with e|e
    ·exact e
    ·rcases hU.mp m2 with e'|e'
     ·exact e'.symm
     ·exact mZ (g y e') (i x e)
   subst k;rw[fH (List.Perm.cons_inv c) h j]
theorem vG(a:l.Perm m)(hs:sortedS l=b8):l=aL m:=fH (a.trans (bp m).symm) (m6 hs) (fe m)
theorem ff(a:l.Perm m):aL l=aL m:=fH ((bp l).trans (a.trans (bp m).symm)) (fe l) (fe m)
theorem cI(l:List Str):(aL l).length=l.length:=(bp l).length_eq
section
theorem cp:∀{ys:List Str}{a:List et},Vals (ys.map V.str) a->OW a ys
 |[],_,.nil=>.nil
 |y::ys,_,.cons r t=>by
  obtain⟨b,rfl⟩:=r;exact .cons y b (cp t)
theorem dn:∀{a:List et}{ys:List Str},OW a ys->Vals (ys.map V.str) a
 |_,_,.nil=>.nil
 |_,_,.cons x t h=>.cons ⟨t,rfl⟩ (dn h)
theorem eQ(hc:eH (gs prog w) A.in1 (Xf x) (λvs s1=>∃ss,OW vs ss/\vs.length<64 /\
      ∀(h':Ju) (Hj:List et) (e:Nat),(∀b o,s1.heap.get? b=a5 o->h'.get? b=a5 o)->h'.get? s1.heap.objs.size=a5 (Hq "list" Hj.toArray e)->OW Hj (aL ss)->Q (.ref s1.heap.objs.size) {s1 with heap:=h' }) E s) :
    eH (gs prog w) A (Mj (.builtin "sorted") [x]) Q E s:=by
  refine UC kind_sorted plain_sorted entry_sorted (args_sorted1 _) ?_;unfold MF.«sorted»;refine bD (m:=checkCount "sorted" 1 1 _) (c4 ?_);refine bD (nc hc (λvs s1 h1=>?_) λ_ _ e=>e);obtain⟨ss,hS,IG,h⟩:=h1
  refine wpAny_bind (wpAny_newList ?_ (by have : (64 : Nat) ≤ sizeLine := by decide
                                          lia))
  have Km:(s1.heap.push (Hq "list" vs.toArray 0)).get? s1.heap.objs.size=a5 (Hq "list" vs.toArray 0):=hY _ rfl;show eH _ _ _ _ _ {s1 with heap:=s1.heap.push (Hq "list" vs.toArray 0)};refine bD (vl (Nw Zk ⟨_,Km,rfl⟩ Y4 (list_sort_treeK strKind_oneLt Km hS.keysOf (λv₁ v₂ rest e=>keyKind_strs (by rw[<-e];exact hS)) IG λst' a1 a2=>⟨_,rfl,?_⟩) (Zm _)));obtain⟨IT,b1,b2,b3⟩:=sorted_out_str hS a1 a2;obtain⟨e,he⟩:=sortedHeap_at (out:=(arrOf st').map (·.2)) Km;rw[vG b2 b3]at b1;refine c4 ⟨_,rfl,h _ ((arrOf st').map (·.2)).toList e (λb o q=>?_) (by rw[Wr];exact he) b1⟩;have GW:b<s1.heap.objs.size:=hV q;show(Yl (s1.heap.push (Hq "list" vs.toArray 0)) s1.heap.objs.size vs ((arrOf st').map (·.2))).get? b=a5 o;rw[Zj (kj GW) (by rw[Lu];exact Qv GW)];exact df _ q
theorem k8(hl:Zn s.heap l vs.toArray)
  (h:Q vs {s with heap:=(s.heap.push (Hq "list" #[] 0)).update s.heap.objs.size (tA (·++vs.toArray))}) (hsz:vs.length<=dV) :
  eH (gs prog w) A (Xf (.ref l)) Q E s:=by
 obtain⟨o,ho,b,n,c⟩:=id hl;unfold Xf;refine bD (Wa (Kb entry_proto_collect' ?_));show eH _ _ (do Zc (.builtin "list.__iadd__" ⟨[<-Yx [],.ref l],[]⟩)) _ _ s;refine bD (WV (c4 ⟨R7 _ (by decide +kernel),Kb entry_list_iadd' ?_⟩));show eH _ _ (u5 (.ref s.heap.objs.size) (.ref l) (.ref s.heap.objs.size)) _ _ {s with heap:=s.heap.push (Hq "list" #[] 0)};unfold u5;have a:(s.heap.push (Hq "list" #[] 0)).get? l=a5 o:=df _ ho;refine bD (Te (T:="tuple") ⟨o,a,b⟩ ?_);have d:(x2 "tuple"==x2 "tuple")=b8:=by rfl
 rw[Zq (by rw[d];simp)];refine bD (Xp a c ?_);refine bD (Xp (xs:=#[]) (n:=0) (hY _ rfl) rfl ?_);rw[Zr (by simp)];refine bD (S0 (xs:=#[]) (n:=0) (hY _ rfl) rfl ?_ (oT _) (by show(#[]++vs.toArray).size<=dV+1;simp only[Sg,hQ,Q1];lia));refine c4 ?_;show eH (gs prog w) A (do
   let o <-load s.heap.objs.size
   match o.data with
   |.seq xs _=>pure xs.toList
   |_=>U' "internal:collect") Q E {s with heap:=(s.heap.push (Hq "list" #[] 0)).update s.heap.objs.size (tA (·++vs.toArray))}
 refine bD (Yc (Y3 (hY _ rfl) _) ?_);show eH _ _ (pure ((#[]:Array et)++vs.toArray).toList) Q E _;rw[show((#[]:Array et)++vs.toArray).toList=vs by simp];exact c4 h
end
section
theorem k9{h:Ju}{vs:List et}(e:h.get? b=a5 o):((h.push (Hq "list" #[] 0)).update h.objs.size (tA (·++vs.toArray))).get? b=a5 o:=by
 rw[Nk _ _ _ _ (kj (hV e))];exact df _ e
theorem om(I:Inv X a σ H s)(k1:∀b o,s.heap.get? b=a5 o->s1.heap.get? b=a5 o)(h:∃d c,s1={s with heap:=d,toks:=c})
  (hk:∀b o,s1.heap.get? b=a5 o->h'.get? b=a5 o) (i:h'.get? s1.heap.objs.size=a5 (Hq "list" f.toArray e)) (j:OW f (aL ss)) (hsz:s.heap.objs.size<=s1.heap.objs.size) (hl:ss.length<=dV)
  (q:∀p,H p=b6->Q (.ref p) (upd H p (.lst ((aL ss).map V.str)))):EP X a σ Q (.ref s1.heap.objs.size) {s1 with heap:=h' }:=by
 obtain⟨d,c,rfl⟩:=h;have g:Inv X a σ H {s with heap:=d,toks:=c}:=I.kept (t':=c) k1;refine⟨.ref d.objs.size,_,g.laid (t':=c) (o:=.lst ((aL ss).map V.str)) hk (i3 _) ⟨by rw[ei,cI];exact hl,f,e,dn j,i⟩,rfl,q _ (g.Gz.fresh (i3 _))⟩
theorem iX:gI X (.builtin "sorted") (λxs H Q=>∃(p:hH) (ys:List Str),xs=[.ref p]/\(GY X.K H p (ys.map V.str)\/Hh X.K H p (ys.map V.str))/\ys.length<64/\∀q,H q=b6->Q (.ref q) (upd H q (.lst ((aL ys).map V.str)))):=by
 intro d s σ H xs us Q I rs h;obtain⟨p,ys,rfl,hq,k,q⟩:=h;obtain⟨u,rfl,r⟩:=vals1 rs;cases r;have hl:ys.length<=dV:=Ni (lg k (by decide));have f:∀(a:List et),Vals (ys.map V.str) a->∀(h':Ju) (c:List et) (e:Nat),(∀b o,((s.heap.push (Hq "list" #[] 0)).update s.heap.objs.size (tA (·++a.toArray))).get? b=a5 o->h'.get? b=a5 o) ->
   h'.get? ((s.heap.push (Hq "list" #[] 0)).update s.heap.objs.size (tA (·++a.toArray))).objs.size=a5 (Hq "list" c.toArray e)->OW c (aL ys) ->
   EP X d σ Q (.ref ((s.heap.push (Hq "list" #[] 0)).update s.heap.objs.size (tA (·++a.toArray))).objs.size) {s with heap:=h' }:=λa rv h' c e hk g i =>
  om (s1:={s with heap:=(s.heap.push (Hq "list" #[] 0)).update s.heap.objs.size (tA (·++a.toArray))}) I (λb o z=>k9 z) ⟨_,s.toks,rfl⟩ hk g i (by show s.heap.objs.size<=((s.heap.push (Hq "list" #[] 0)).update s.heap.objs.size (tA (·++a.toArray))).objs.size;rw[Heap.size_update,Lu];exact M7 _) hl q
 rcases hq with hq|hq
 ·obtain⟨a,rv,j,hz⟩:=I.list hq;have l:a.length=ys.length:=by rw[<-rv.length,ei]
  exact eQ (collect_list j.isList ⟨ys,cp rv,⋯,λh' c e hk g i=>f a rv h' c e hk g i⟩ ⋯)
 ·obtain⟨a,rv,j,hz⟩:=I.tuple hq;have l:a.length=ys.length:=by rw[<-rv.length,ei]
  exact eQ (k8 j ⟨ys,cp rv,⋯,λh' c e hk g i=>f a rv h' c e hk g i⟩ ⋯)
end
abbrev sK(P:D3)(w:H_):=PySem.strKind P w
def aJ(P:D3)(w:H_)(h:Ju)(a:hH)(led:Bool)(D:List Str):Prop :=
 ∃(L:List (Str×Tok)) (es:Array (Int×et)) (ep:Nat) (t:Nn),h.get? a=a5 {cls:=.type "set",dict:=b6,data:=.set es ep t}/\es.toList=L.map (λp=>((sK P w).hash p.1,wh p.1 p.2)) /\
  (L.map (·.1)).Perm D/\D.Nodup/\t.fits es.size=b8/\es.size<HU/\t.led=led/\(es.size=0\/t.plain=cc)
section
theorem jL{L:List (Str×Tok)}:ElemsOf (sK prog w) (L.map λp=>((sK prog w).hash p.1,wh p.1 p.2)):=by
 intro e a;obtain⟨p,_,rfl⟩:=my.mp a;exact⟨⟨p.1,by simp[PySem.strKind,RT],rfl⟩,rfl⟩
theorem fV(x y:Str)(t:Tok):(sK prog w).is x (.str y t)=d6 (x=y):=by
 rw[L5];simp[PySem.strKind,RT];exact⟨λh=>h.symm,λh=>h.symm⟩
theorem pP(t:Nn)(es:Array (Int×et))(h:Int)(x:et):(layNew t es h x).2.1.led=t.led:=by
 unfold layNew;split
 ·show(V9 (t.put _).1 _).led=t.led;unfold V9;split<;>rfl
 ·rfl
theorem m7(t:Nn)(es:Array (Int×et))(n:Nat):(Wc t es n).2.1.led=t.led:=by
 unfold Wc;split
 ·rename_i t' b a;have:t'.led=t.led:=by
   unfold Sm Rf at a;cases c:Px (Ka n - 1) (es.map (·.1)) with
   |none=>rw[c]at a;cases a
   |some o=>rw[c]at a;cases a;rfl
  dsimp only
  split
  ·exact this
  ·rfl
 ·rfl
theorem jM(t:Nn)(es:Array (Int×et))(n:Nat)(h:t.plain=cc):(Wc t es n).2.1.plain=cc:=by
 unfold Wc;split
 ·rename_i t' b a;have:t'.plain=t.plain:=by
   unfold Sm Rf at a;cases c:Px (Ka n - 1) (es.map (·.1)) with
   |none=>rw[c]at a;cases a
   |some o=>rw[c]at a;cases a;rfl
  dsimp only
  split
  ·rw[this];exact h
  ·rfl
 ·rfl
theorem cT(h:l.Perm (L.map λp=>((sK prog w).hash p.1,wh p.1 p.2))):∃L':List (Str×Tok),l=L'.map (λp=>((sK prog w).hash p.1,wh p.1 p.2))/\L'.Perm L:=by
 have all:∀e∈l,∃p:Str×Tok,e=((sK prog w).hash p.1,wh p.1 p.2):=λe a=>by
  obtain⟨p,_,rfl⟩:=my.mp (h.mem_iff.mp a);exact⟨p,rfl⟩
 have ex:∀l:List (Int×et),(∀e∈l,∃p:Str×Tok,e=((sK prog w).hash p.1,wh p.1 p.2))->∃L':List (Str×Tok),l=L'.map (λp=>((sK prog w).hash p.1,wh p.1 p.2)):=by
  intro l;induction l with
  |nil=>intro _;exact⟨[],rfl⟩
  |cons e l c =>
   intro b;obtain⟨p,rfl⟩:=b e r6;obtain⟨L',rfl⟩:=c λe a=>b e (mA _ a);exact⟨p::L',rfl⟩
 obtain⟨L',rfl⟩:=ex l all;refine⟨L',rfl,?_⟩;have g:(L'.map λp=>((sK prog w).hash p.1,wh p.1 p.2)).map (λe=>match e.2 with|.str x t=>(x,t)|_=>(zy,0))=L':=by
  rw[vu];exact WK _
 have d:(L.map λp=>((sK prog w).hash p.1,wh p.1 p.2)).map (λe=>match e.2 with|.str x t=>(x,t)|_=>(zy,0))=L:=by
  rw[vu];exact WK _
 have:=h.map (λe=>match e.2 with|.str x t=>(x,t)|_=>(zy,0));rw[g,d]at this;exact this
theorem jN(hS:aJ prog w s.heap a led D)(KW:D.length+1<HU)
    (h:∀h',t4 a s.heap h'->aJ prog w h' a led (if x∈D then D else D++[x])->Q (d6 (x∉D)) {s with heap:=h' }) :
    eH (gs prog w) A (setAddHashed a (.str x tk) ((sK prog w).hash x)) Q E s:=by
  obtain⟨L,es,ep,t,ho,Hc,Gw,GQ,hf,hb,He,Ha⟩:=hS;have LA:(sK prog w).is x (.str x tk)=b8:=by rw[fV];simp
  have M1:ElemsOf (sK prog w) es.toList:=by rw[Hc];exact jL
  have hlen:es.size=D.length:=by rw[<-i2,Hc,ei,<-ei (f:=Prod.fst) (as:=L),Gw.length_eq]
  unfold setAddHashed setAddHashedIn;refine vl (bD (nC ho rfl hf ?_))
  dsimp only
  rw[byScan_of (knd:=sK prog w) rfl hb M1];simp only[↓reduceIte];unfold setAddByScan;refine bD ?_;refine bD (NZ ?_);refine bD (YJ (knd:=sK prog w) LA ho rfl hf M1 ?_);have mem_iff:(∃e∈es.toList,(sK prog w).is x e.2=b8)↔x∈D:=by
    rw[Hc,<-Gw.mem_iff,my];constructor
    · rintro⟨e,he,hi⟩
      obtain⟨p,hp,rfl⟩:=my.mp he;rw[fV,Zp]at hi;exact⟨p,hp,hi.symm⟩
    · rintro⟨p,hp,e⟩
      exact⟨_,my.mpr ⟨p,hp,rfl⟩,by rw[fV];simp[e]⟩
  cases hr:Vf (λe=>(sK prog w).is x e.2) es.toList with
  | some j =>
    dsimp only
    obtain⟨hj,Ol,_⟩:=Sb.mp hr;have hx:x∈D:=mem_iff.mp ⟨es.toList[j],Ki hj,Ol⟩;refine c4 (c4 ?_);have e:s={s with heap:=s.heap}:=by cases s;rfl
    have:=h s.heap (IV a s.heap) (by rw[Zq hx];exact⟨L,es,ep,t,ho,Hc,Gw,GQ,hf,hb,He,Ha⟩);rw[Zs (λz=>z hx)]at this;rw[e];exact this
  | none =>
    dsimp only
    have hx:x∉D:=λhx=>by
      obtain⟨e,he,hp⟩:=mem_iff.mpr hx;have:=U7.mp hr e he;rw[hp]at this;exact XN this
    have Uc:∀(b:Bool) {s₁:gj} {Q':Unit->gj->Prop},Q' () s₁->eH (gs prog w) A (match b with|true=>YR "set.scan.the-table-gave-way"|false=>pure ()) Q' E s₁ :=
      λb s₁ Q' hq=>by cases b<;>first|exact c4 hq|exact NZ hq
    have Mo:=layNew_perm t es ((sK prog w).hash x) (.str x tk);have Jl:=layNew_fits t es ((sK prog w).hash x) (.str x tk);have JQ:=pP t es ((sK prog w).hash x) (.str x tk);generalize hL:layNew t es ((sK prog w).hash x) (.str x tk)=NL at Mo Jl JQ ⊢;obtain⟨G4,t1,JR,Ud⟩:=NL
    dsimp only at Mo Jl JQ ⊢
    rw[Xc,Hc,show [((sK prog w).hash x,wh x tk)]=[(x,tk)].map (λp=>((sK prog w).hash p.1,wh p.1 p.2)) from rfl,<-qs]at Mo;obtain⟨L1,e1,Ue⟩:=cT Mo;have LB:G4.size=D.length+1:=by rw[<-i2,Mo.length_eq,ei,l',<-hlen,<-i2,Hc,ei];rfl
    have RP:G4.size<HU:=by lia
    have KY:(L1.map (·.1)).Perm (D++[x]):=(Ue.map _).trans (by rw[qs];exact Gw.append_right _);have RQ:(D++[x]).Nodup:=by
      rw[JJ]
      exact ⟨GQ, by simp, fun y hy z hz => by have : z = x := by simpa using hz
                                              subst this;rintro rfl;exact hx hy⟩
    refine bD (Uc _ ?_);have M3:∀h',t4 a s.heap h'->aJ prog w h' a led (D++[x])->Q b8 {s with heap:=h' }:=λh' sb hs=>by
      have:=h h' sb (by rw[Zr hx];exact hs);rw[Zt hx]at this;exact this
    have tail:∀(g:Bool->Sem Unit),(∀(b:Bool) (s₁:gj) (Q':Unit->gj->Prop),Q' () s₁->eH (gs prog w) A (g b) Q' E s₁)->∀(R:Option Bool->gj->Prop),(∀h',t4 a s.heap h'->aJ prog w h' a led (D++[x])->R (a5 b8) {s with heap:=h' })->∀t2:Nn,t2.fits G4.size=b8->t2.led=led->t2.plain=cc->eH (gs prog w) A (do
        storeSet a G4 t2
        if (!JR&&t2.tooFull)=true then do
            g (relayAll t2 G4 (SetTable.grown G4.size)).2.2
            storeSet a (relayAll t2 G4 (SetTable.grown G4.size)).1 (relayAll t2 G4 (SetTable.grown G4.size)).2.1
            pure (some true)
          else pure (a5 b8)) R E s:=by
      intro g hg R hR t2 Ug JS Ks;refine bD (Tf ho rfl ?_ (TF RP));have Ke:(s.heap.update a (NT G4 t2)).get? a=a5 {cls:=.type "set",dict:=b6,data:=.set G4 (ep+1) t2}:=by
        have:=DD (NT G4 t2) ho rfl;exact this
      have M4:=KG s.heap a (NT G4 t2);split
      · have hp:=relayAll_perm t2 G4 (L9 G4.size)
        have Ip:=relayAll_fits t2 G4 (L9 G4.size);have P9:=m7 t2 G4 (L9 G4.size);have Mp:=jM t2 G4 (L9 G4.size) Ks;generalize Ww:Wc t2 G4 (L9 G4.size)=Rl at hp Ip P9 Mp ⊢;obtain⟨HY,t3,RS⟩:=Rl
        dsimp only at hp Ip P9 Mp ⊢
        rw[e1]at hp;obtain⟨L2,e2,Uh⟩:=cT hp;have hsz:HY.size=G4.size:=by rw[<-i2,hp.length_eq,<-e1,i2]
        refine bD (hg _ _ _ ?_);refine bD (Tf Ke rfl ?_ (TF ⋯));have KZ:((s.heap.update a (NT G4 t2)).update a (NT HY t3)).get? a=a5 {cls:=.type "set",dict:=b6,data:=.set HY (ep+1+1) t3}:=DD (NT HY t3) Ke rfl;refine c4 (hR _ (M4.trans (KG _ a _)) ⟨L2,HY,_,t3,KZ,e2,(Uh.map _).trans KY,RQ,Ip,⋯,P9.trans JS,.inr Mp⟩)
      · exact c4 (hR _ M4 ⟨L1,G4,_,t2,Ke,e1,KY,RQ,Ug,RP,JS,.inr Ks⟩)
    split
    · rename_i hp
      refine bD ?_;rw[hashByValue_scannable 8 rfl];refine c4 ?_;have ep:(if plainKind (wh x tk)=b8 then t1 else {t1 with plain:=cc})={t1 with plain:=cc}:=rfl;rw[ep];refine tail _ ?_ _ ?_ {t1 with plain:=cc} (SetTable.fits_plain_off Jl) (JQ.trans He) rfl
      · intro b s₁ Q' hq;cases b<;>first|exact c4 hq|exact NZ hq
      · intro h' JT HZ;dsimp only;exact c4 (M3 h' JT HZ)
    · rename_i hp
      refine bD (c4 ?_);simp only[↓reduceIte];refine tail _ ?_ _ ?_ t1 Jl (JQ.trans He) (Bool.eq_false_iff.mpr hp)
      · intro b s₁ Q' hq;cases b<;>first|exact c4 hq|exact NZ hq
      · intro h' JT HZ;dsimp only;exact c4 (M3 h' JT HZ)
end
noncomputable def iz(D:List Str)(x:Str):List Str:=if x∈D then D else D++[x]
noncomputable def aE(l:List Str):List Str:=l.foldl iz []
theorem pQ(h:D.Nodup):(iz D x).Nodup:=by
  unfold iz;split
  · exact h
  · rename_i hx
    rw[JJ]
    exact ⟨h, by simp, fun y hy z hz => by have : z = x := by simpa using hz
                                           subst this;rintro rfl;exact hx hy⟩
theorem eR:∀(l D:List Str),D.Nodup->(l.foldl iz D).Nodup/\(∀x,x∈l.foldl iz D↔x∈D\/x∈l)/\(l.foldl iz D).length<=D.length+l.length
 |[],D,h=>⟨h,by simp,by simp⟩
 |y::l,D,h=>by
  obtain⟨a,b,f⟩:=eR l (iz D y) (pQ h);have c:∀x,x∈iz D y↔x∈D\/x=y:=λx=>by
   unfold iz;split
   ·rename_i d;exact⟨.inl,λz=>z.elim id (λe=>e▸d)⟩
   ·simp
  have hl:(iz D y).length<=D.length+1:=by
   unfold iz;split
   ·lia
   ·simp
  refine⟨a,λx=>?_,by rw[Q2,rz];lia⟩;rw[Q2,b,c,hU,or_assoc]
theorem dq(l:List Str):(aE l).Nodup:=(eR l [] Rm).1
theorem cU(l:List Str)(x:Str):x∈aE l↔x∈l:=by rw[aE,(eR l [] Rm).2.1];simp
theorem pR(l:List Str):(aE l).length<=l.length:=by have:=(eR l [] Rm).2.2;simpa[aE] using this
theorem oo(l:List Str)(x:Str):aE (l++[x])=iz (aE l) x:=by unfold aE;rw[List.foldl_append];rfl
section
variable{prog:D3}{w:H_}{A:M0}{R:Result->gj->Prop}{I:hH}{fp wr:List hH}{G:Array Wj->Array Wj->Prop}{n:Nat}{P:Nat->et->Prop}{St:Nat->gj->Prop}
theorem iA(W:Yh prog w A.in1 I fp wr G n P St)(S:hH)(j:S∉fp)(led:Bool)
  (ys:List Str) (hn:ys.length=n) (r:∀i v,P i v->∃x t,ys[i]?=a5 x/\v=.str x t) (a:n+1<HU) :
  ∀(k i:Nat) (s:gj),n - i=k->i<=n->St i s->aJ prog w s.heap S led (aE (ys.take i)) ->
   (∀s',Moved (S::wr) G s s'->aJ prog w s'.heap S led (aE ys)->R (.ok (.ret .none)) s') ->
   OU (gs prog w) A (.builtin "set.update.loop" ⟨[.ref S,.ref I],[]⟩) R s:=by
 have l:S∉wr:=λh=>j (W.sub _ h);have m:∀b∈wr,b∈S::wr:=λb a=>mA _ a;intro k;induction k with
 |zero =>
  intro i s hk u f d g;have y:i=n:=by lia
  subst y;refine Kb Qu ?_;rw[MH LX _];show eH _ A.in1 (R' (.ref I) >>= _) _ _ s;refine bD (W.done s _ _ f λs' c=>?_);show eH _ A.in1 (ret u3) _ _ s';rw[LL ⋯]at d;exact c4 (g s' (c.mono m) (by
   obtain⟨L,es,ep,t,ho,rest⟩:=d;exact⟨L,es,ep,t,c.heap S _ l ho,rest⟩))
 |succ k z =>
  intro i s hk u f d g;have p:i<n:=by lia
  refine Kb Qu ?_;rw[MH LX _];show eH _ A.in1 (R' (.ref I) >>= _) _ _ s;refine bD (W.item i s _ _ p f λv s' B C c=>?_);obtain⟨x,t,D,rfl⟩:=r i v B;have H:aJ prog w s'.heap S led (aE (ys.take i)):=by
   obtain⟨L,es,ep,J,ho,rest⟩:=d;exact⟨L,es,ep,J,c.heap S _ l ho,rest⟩
  show eH _ A.in1 (LG [wh x t] (setAdd S (.str x t)) >>= _) _ _ s';refine bD (vl ?_);unfold setAdd;refine vl ?_;refine bD ((sK prog w).pyHash (k:=x) (by rw[fV];simp) ?_);have N:(aE (ys.take i)).length+1<HU:=by have:=pR (ys.take i);rw[HJ]at this;lia
  refine jN (s:={s' with toks:=s'.toks+1}) H N λh' q O=>?_;have Q:aJ prog w h' S led (aE (ys.take (i+1))):=by
   rw[List.take_add_one,D];show aJ prog w h' S led (aE (ys.take i++[x]));rw[oo];exact O
  refine c4 ⟨QR LX _,z (i+1) _ ⋯ p (W.frame _ s' _ _ C (M7 _) λb a o e=>?_) Q λT Y Qa=>?_⟩
  ·rw[q.2 b (λh:b=S=>j (by rw[<-h];exact a))];exact e
  ·refine g T (YC W.gtrans ((c.mono m).then_heap (M7 _) λb o a e=>?_) Y) Qa;rw[q.2 b (λh:b=S=>a (by rw[h];exact r6))];exact e
end
section
theorem k_(a:et)
  (h:Q₁ (.ref s.heap.objs.size) {s with heap:=s.heap.push {cls:=.type "set",dict:=b6,data:=.set #[] 0 (.fresh 0 0 (!w.params.followText "set-order"))}}) :
  OU (gs prog w) A (.call (.builtin "set.__new__") ⟨[.type "set",a],[]⟩) (wants Q₁ E) s:=by
 refine Y0 ?_;show eH _ A.in1 (do U0 "set.__new__" ⟨[.type "set",a],[]⟩;Zc (.builtin "set.__new__" ⟨[.type "set",a],[]⟩)) _ _ s;refine bD (XO (PySem.F.newCall_set_1 a) (c4 ⟨QR PySem.F.plain_set_new _,Kb PySem.F.entry_set_new ?_⟩));rw[MH PySem.F.plain_set_new _];unfold MF.«set.__new__» X1;have b:=Tq;obtain⟨c,g,d,e,os⟩:=s
 dsimp only
 wp_walk
 refine O9 (c4 ?_)
 dsimp only
 simp only[newObj];refine bD (wpAny_alloc (c4 ?_));exact c4 h
theorem gp(b:h.get? a=a5 {cls:=.type "set",dict:=b6,data:=.set #[] 0 (.fresh 0 0 led)}):aJ prog w h a led [] :=
 ⟨[],#[],0,_,b,rfl,.nil,Rm,rfl,by unfold HU;decide,rfl,.inl rfl⟩
end
theorem sub_tuple_set:MS (.type "tuple") (.type "set")=pure cc:=by rw[Im];kernel_rfl
theorem sub_tuple_frozenset:MS (.type "tuple") (.type "frozenset")=pure cc:=by rw[Im];kernel_rfl
section
abbrev aC(w:H_):Bool:=!w.params.followText "set-order"
abbrev pS(led:Bool):Obj:={cls:=.type "set",dict:=b6,data:=.set #[] 0 (.fresh 0 0 led)}
theorem gP
  (J:s.TypeIs (.ref l) T) (Uk:MS (.type T) (.type "set")=pure cc) (Ul:MS (.type T) (.type "frozenset")=pure cc) (Hu:(x2 T==x2 "dict")=cc)
  (L:ys.length+1<HU)
  (j:∀(s1:gj) (B:M0) (Q':et->gj->Prop),B.handled=A.handled->(∀b o,s.heap.get? b=a5 o->s1.heap.get? b=a5 o)->s.heap.objs.size<s1.heap.objs.size ->
   (∀I k m G P St a,Yh prog w B.in1 I k m G ys.length P St->(∀g g',G g g'->g'=g)->s.heap.objs.size∉k->(∀b∈m,s.heap.objs.size<b)->(∀i v,P i v->∃x t,ys[i]?=a5 x/\v=.str x t)->St 0 {s1 with heap:=a}->(∀b o,s1.heap.get? b=a5 o->a.get? b=a5 o)->Q' (.ref I) {s1 with heap:=a})->eH (gs prog w) B (Wd (.ref l)) Q' E s1)
  (h:∀(h':Ju) (d:Nat),aJ prog w h' s.heap.objs.size (aC w) (aE ys)->(∀b o,b<s.heap.objs.size->s.heap.get? b=a5 o->h'.get? b=a5 o)->Q (.ref s.heap.objs.size) {s with heap:=h',toks:=d}) :
  eH (gs prog w) A (Mj (.type "set") [.ref l]) Q E s:=by
 obtain⟨c,tl,Um⟩:=PySem.F.called_set.mro;have RU:=PySem.F.called_set.made;have Jv:=PySem.F.called_set.sub;refine Yd (Y0 ?_);show eH _ _ (callAny (.type "set") _) _ _ _;refine c4 ⟨R7 _ (by decide +kernel),Kb PySem.F.entry_type_call ?_⟩;rw[Around.under_plain (weight_type_call_type "set" [.ref l] []) rfl];have a:=PySem.F.called_set.notType;have h2:=PySem.F.called_set.canCreate;have Wx:=PySem.F.typeCall_set_1 (.ref l)
 repeat (any_goals (first|assumption|wp_step))
 refine Qm (k_ (.ref l) (E:=E) (Q₁:=λobj y=>obj=.ref s.heap.objs.size/\y={s with heap:=s.heap.push (pS (aC w))}) ⟨rfl,rfl⟩) λr y n=>?_;cases r with
 |error e=>exact n
 |ok N =>
  cases N with
  |ret obj =>
   obtain⟨rfl,rfl⟩:=n;have C:(s.heap.push (pS (aC w))).get? s.heap.objs.size=a5 (pS (aC w)):=hY _ rfl;have O:Qe {s with heap:=s.heap.push (pS (aC w))} (.ref s.heap.objs.size) "set":=⟨_,C,rfl⟩
   have Wy:=PySem.F.called_set.init.lookup;have Wz:=PySem.F.called_set.init.bind (.ref s.heap.objs.size)
   repeat (any_goals (first|assumption|wp_step))
   refine Qm (Sa (R:=wants (λr D=>r=.none/\∃h' d,D={s with heap:=h',toks:=d} /\
     aJ prog w h' s.heap.objs.size (aC w) (aE ys) /\
     (∀b o,b<s.heap.objs.size->s.heap.get? b=a5 o->h'.get? b=a5 o)) E) PySem.F.called_set.init.plain PySem.F.entry_set_init (check_set_init_1 O ?_)) λY D p=>?_
   ·obtain⟨ol,Uo,H⟩:=J;obtain⟨Up,M5,M6,LD⟩:=ol;simp only at H;subst H;have Qc:(s.heap.push (pS (aC w))).get? l=a5 {cls:=.type T,dict:=M5,data:=M6,slots:=LD}:=df _ Uo;have RV:Qe {s with heap:=s.heap.push (pS (aC w))} (.ref l) T:=⟨_,Qc,rfl⟩
    unfold MF.«set.__init__» noKeywords XZ;generalize Uq:Wd=PI
    wp_walk
    subst Uq;refine j {s with heap:=s.heap.push (pS (aC w))} _ _ rfl (λb o e=>df _ e) (by rw[Lu];exact Nh _) λI k m G P St a W hG hf Ur LC GF hk=>?_;refine bD (Wa ?_);refine iA W s.heap.objs.size hf (aC w) ys rfl LC L (ys.length - 0) 0 _ ⋯ (oT _) GF (gp (hk _ _ C)) ?_;intro s' f q;obtain⟨h',g',d',Us,Pl⟩:=s';have eg:g'=s.gens:=hG _ _ f.gens;have ed:d'=s.drawn:=f.drawn;have eo:Pl=s.os:=f.os;subst eg;subst ed;subst eo;show eH _ _ _ _ _ _;refine c4 ?_;show eH _ _ (ret u3) _ _ _;refine c4 ⟨rfl,h',Us,rfl,q,λb o u e=>?_⟩;exact f.heap b o (λz=>by
     rcases hU.mp z with z|z
     ·rw[z]at u;exact C0 _ u
     ·exact absurd (Ur b z) (X3 u)) (hk _ _ (df _ e))
   ·cases Y with
    |error e=>exact p
    |ok Ut =>
     cases Ut with
     |ret r =>
      obtain⟨rfl,h',d,rfl,q,GS⟩:=p
      repeat (any_goals (first|assumption|wp_step))
      exact h _ _ q GS
     |_=>exact p.elim
  |_=>exact n.elim
end
section
theorem m8:∀{vs:List et}{ss:List Str},OW vs ss->∀(i:Nat) (v:et),vs[i]?=a5 v->∃x t,ss[i]?=a5 x/\v=.str x t
 |_,_,.nil,i,v,h=>by simp at h
 |_,_,.cons x t h,0,v,e=>by simp at e;exact⟨x,t,rfl,e.symm⟩
 |_,_,.cons x t h,i+1,v,e=>by rw[QE]at e;rw[QE];exact m8 h i v e
theorem gQ:∀{vs:List et}{ss:List Str},OW vs ss->vs.length=ss.length
 |_,_,.nil=>rfl
 |_,_,.cons x t h=>by simp[gQ h]
theorem rB(a:n≠S)(b:n≠l):n∉[S,l]:=by simp[a,b]
theorem fg(j:A.handled=b6)(hl:s.heap.IsList l vs.toArray)(d:OW vs ys)(a:ys.length+1<HU)
  (h:∀(h':Ju) (k:Nat),aJ prog w h' s.heap.objs.size (aC w) (aE ys)->(∀b o,b<s.heap.objs.size->s.heap.get? b=a5 o->h'.get? b=a5 o)->Q (.ref s.heap.objs.size) {s with heap:=h',toks:=k}) :
  eH (gs prog w) A (Mj (.type "set") [.ref l]) Q E s:=by
 have f:l<s.heap.objs.size:=let ⟨o,ho,_⟩:=hl;hV ho;refine gP hl.typeIs PySem.F.sub_list_set PySem.F.sub_list_frozenset (by decide) a (λs1 B Q' m hk c n=>?_) h;have g:s1.heap.IsList l vs.toArray:=let ⟨o,ho,r⟩:=hl;⟨o,hk _ _ ho,r⟩;refine Ti g ?_;have p:l≠s1.heap.objs.size:=kj (SE f c);have W:=(YT (prog:=prog) (w:=w) (A:=B.in1) (by simp[m,j]) s1.heap.objs.size l p vs.toArray).toS;have q:vs.toArray.size=ys.length:=by simp[gQ d]
 rw[q]at W;refine n _ _ _ _ _ _ _ W (λ_ _ e=>e) (rB (kj c) (KX f)) (λb a=>by rw[kr.mp a];exact c) (λi v t=>m8 d i v (by simpa using t)) ⟨⟨_,hY _ rfl,rfl,rfl⟩,g.push _⟩ λb o e=>df _ e
theorem fW(j:A.handled=b6)(hl:s.heap.IsTuple l vs.toArray)(d:OW vs ys)(a:ys.length+1<HU)
  (h:∀(h':Ju) (k:Nat),aJ prog w h' s.heap.objs.size (aC w) (aE ys)->(∀b o,b<s.heap.objs.size->s.heap.get? b=a5 o->h'.get? b=a5 o)->Q (.ref s.heap.objs.size) {s with heap:=h',toks:=k}) :
  eH (gs prog w) A (Mj (.type "set") [.ref l]) Q E s:=by
 have f:l<s.heap.objs.size:=let ⟨o,ho,_⟩:=hl;hV ho;refine gP hl.typeIs sub_tuple_set sub_tuple_frozenset (by decide) a (λs1 B Q' m hk c n=>?_) h;have g:s1.heap.IsTuple l vs.toArray:=let ⟨o,ho,r⟩:=hl;⟨o,hk _ _ ho,r⟩;refine Yb g ?_;have p:l≠s1.heap.objs.size:=kj (SE f c);have W:=(Walks.tuple (prog:=prog) (w:=w) (A:=B.in1) (by simp[m,j]) s1.heap.objs.size l p vs.toArray).toS;have q:vs.toArray.size=ys.length:=by simp[gQ d]
 rw[q]at W;refine n _ _ _ _ _ _ _ W (λ_ _ e=>e) (rB (kj c) (KX f)) (λb a=>by rw[kr.mp a];exact c) (λi v t=>m8 d i v (by simpa using t)) ⟨⟨_,hY _ rfl,rfl,rfl⟩,let ⟨o,ho,r⟩:=g;⟨o,df _ ho,r⟩⟩ λb o e=>df _ e
theorem m9(a:n≠0)(h:∀i<n,Q i {s with drawn:=s.drawn.bump src}):eH M A (choose src n) Q E s:=λΓ p b=>by
 show Sem.wp M Γ (.choose src n .pure) _ _ p s;rw[Sem.wp_choose];exact⟨a,h _ (U3 _ (Nat.pos_of_ne_zero a))⟩
theorem gq:∀{xs:List α}{i:Nat}{x:α},xs[i]?=a5 x->(x::xs.eraseIdx i).Perm xs
 |[],i,x,h=>by simp at h
 |y::ys,0,x,h=>by simp at h;subst h;exact .refl _
 |y::ys,i+1,x,h=>by
  rw[QE]at h;rw[QF];exact(WZ y x _).trans ((gq h).cons y)
theorem fX:∀(n:Nat) (xs:List α) (s:gj) (Q:List α->gj->Prop),xs.length=n->(∀ys d,ys.Perm xs->Q ys {s with drawn:=d})->eH M A (drawOrder n xs) Q E s
 |0,xs,s,Q,a,h=>by
  have:xs=[]:=VY.mp a;subst this;exact c4 (h [] s.drawn (.refl _))
 |n+1,[],s,Q,a,h=>by simp at a
 |n+1,y::ys,s,Q,a,h=>by
  show eH M A (choose .order (y::ys).length >>= _) Q E s;refine bD (m9 (by simp) λi b=>?_);have e:(y::ys)[i]?=a5 ((y::ys)[i]'b):=ve b;have c:=gq e;generalize (y::ys)[i]'b=x at e c;simp only[e];refine bD (fX n _ _ _ (by have:=c.length_eq;simp at this a ⊢;lia) λf d hz=>?_);exact c4 (h (x::f) d ((hz.cons x).trans c))
theorem iY(next:Nat->Nat):∀(fuel k:Nat) (left:List α) (out:Array α),left.length=fuel->(Tu next fuel k left out).toList.Perm (out.toList++left)
 |0,k,left,out,hl=>by
  have:left=[]:=VY.mp hl;subst this;simp[Tu]
 |fuel+1,k,left,out,hl=>by
  unfold Tu;have a:next k % left.length<left.length:=U3 _ ⋯;have e:left[next k % left.length]?=a5 (left[next k % left.length]'a):=ve a;have b:=gq e;generalize left[next k % left.length]'a=x at e b;simp only[e];refine(iY next fuel _ _ _ (by have:=b.length_eq;simp at this;lia)).trans ?_;rw[Xc,List.append_assoc];exact(b.append_left _)
theorem dC(next:Nat->Nat)(xs:Array α):(UY next xs).toList.Perm xs.toList:=by
 have:=iY next xs.size 0 xs.toList #[] (by simp);simpa[UY] using this
end
namespace SI
theorem oq:Manifest.owners.lookup (String.ofList ['r','o','t','a','r','e','t','i','_','t','e','s'].reverse)=a5 Manifest.sig_set_iterator:=by kernel_rfl
theorem slot_next:Slot "set_iterator" "__next__" "set_iterator.__next__" :=
 .of (owner:="set_iterator") (n:="__next__") (by rw[PQ,MV];kernel_rfl) (by decide +kernel) (by decide +kernel) (by decide +kernel)
  (by first|exact .inl (by decide +kernel)|exact .inr (by decide +kernel)) (by rw[Im];kernel_rfl)
theorem entry_next:XT table "set_iterator.__next__"=a5 MF.«set_iterator.__next__»:=entryFor_of_tree (by kernel_rfl)
theorem args_next(a:et):Zb "set_iterator.__next__" ⟨[a],[]⟩:=by
 unfold Zb;rw[signature?_of (id:="set_iterator.__next__") (n:=['_','_','t','x','e','n','_','_']) (o:=['r','o','t','a','r','e','t','i','_','t','e','s']) (by kernel_rfl) oq];kernel_rfl
theorem lF:Slot "set_iterator" "__iter__" "set_iterator.__iter__" :=
 .of (owner:="set_iterator") (n:="__iter__") (by rw[PQ,MV];kernel_rfl) (by decide +kernel) (by decide +kernel) (by decide +kernel)
  (by first|exact .inl (by decide +kernel)|exact .inr (by decide +kernel)) (by rw[Im];kernel_rfl)
theorem tN(a:et):Zb "set_iterator.__iter__" ⟨[a],[]⟩:=by
 unfold Zb;rw[signature?_of (id:="set_iterator.__iter__") (n:=['_','_','r','e','t','i','_','_']) (o:=['r','o','t','a','r','e','t','i','_','t','e','s']) (by kernel_rfl) oq];kernel_rfl
theorem pT:XT table "set_iterator.__iter__"=a5 MF.«dict_keyiterator.__iter__» :=
 We (id':="dict_keyiterator.__iter__") (by kernel_rfl) (by first|rfl|decide +kernel|(unfold String.splitOn;simp +decide [String.splitOnAux])) (by decide +kernel) (by kernel_rfl)
theorem jO:XT table "set.__iter__"=a5 MF.«frozenset.__iter__» :=
 We (id':="frozenset.__iter__") (by kernel_rfl) rfl (by decide +kernel) (by kernel_rfl)
end SI
section
variable{prog:D3}{w:H_}{A:M0}{E:et->gj->Prop}{s:gj}
def gu(h:Ju)(I:hH)(first:et)(i:Nat)(S:hH)(n ep:Nat):Prop:=∃o,h.get? I=a5 o/\o.cls=.type "set_iterator"/\o.data=.fields #[first,G2 i,.ref S,G2 n,G2 ep]
theorem gu.typeIs(x:gu s.heap I f i S n ep):s.TypeIs (.ref I) "set_iterator":=let ⟨o,ho,a,_⟩:=x;⟨o,ho,a⟩
theorem yU(a:gu s.heap I f i S n ep)(h:Q (.ref I) s):eH (gs prog w) A (Wd (.ref I)) Q E s:=by
 refine Yt a.typeIs SI.lF (Nw SI.lF a.typeIs SI.pT ?_ (SI.tN _));show eH _ _ (ret (.ref I)) _ _ s;exact c4 ⟨_,rfl,"set_iterator",_,a.typeIs,SI.slot_next.lookup,h⟩
theorem cq(h:Q (M.w.params.followText "set-order") s):eH M A Yf Q E s:=by
 unfold Yf;exact bD (O9 (c4 h))
end
end L2
namespace L2
open PySem PySem.Spec PyProof.Rows
section
variable{prog:D3}{w:H_}{A:M0}{E:et->gj->Prop}{s:gj}
abbrev m_(es:Array (Int×et))(ep:Nat)(t:Nn):Obj:={cls:=.type "set",dict:=b6,data:=.set es ep t}
theorem ot{I:hH}{B:M0}{Q:Option et->gj->Prop}{c:Ju}{k:et->Sem (Option et)}(d:B.handled=b6)
  (f:∀h',(∀b o,c.get? b=a5 o->h'.get? b=a5 o)->∀e,Qe {s with heap:=h' } e "StopIteration"->E e {s with heap:=h' }) {Q':Fin->gj->Prop} :
  eH (gs prog w) B (Y_ (.type "StopIteration") [] >>= λe=>(XS e:Sem Fin)) Q' E {s with heap:=c}:=by
 refine bD ?_;simp only[Y_,newTuple];refine bD (J_ ?_ (by size_fits));refine bD (m:=Y' _ _) (XO (a:=u3) (by first|rfl|(simp only[Y'];rfl)) ?_);refine J_ ?_ (by size_fits);simp only[XS];refine bD (wpAny_handled ?_);rw[d];refine bD (c4 (wpAny_throw ?_));exact f _ (λb o e=>df _ (df _ e)) _ ⟨_,hY _ rfl,rfl⟩
theorem rC{I S:hH}{first:et}{i ep:Nat}{es:Array (Int×et)}{t:Nn}(d:gu s.heap I first i S es.size ep)(ho:s.heap.get? S=a5 (m_ es ep t))(j:t.fits es.size=b8)
  (k:∀(Q':Fin->gj->Prop) (h:et->gj->Prop) ,(∀v s',Q (a5 v) s'->Q' (.done (.ret v)) s')->(∀e s',s'.TypeIs e "StopIteration"->Q b6 s'->h e s') ->
   eH (gs prog w) A.in1 (if let .int slot _:=first then(do
     match <-Tr S slot.toNat i ep with
     |some (x,next) =>
      Ts (.ref I) 0 (G2 next)
      Ts (.ref I) 1 (G2 ((i:Int)+1))
      ret x
     |none=>Ts (.ref I) 2 .none;XS (<-Y_ (.type "StopIteration") []))
    else(do
     let a5 c <-YQ first|unsupported "internal:set_iterator"
     match c[i]? with
     |some (.int f _) =>
      let x <-Xe S f.toNat ep
      Ts (.ref I) 1 (G2 ((i:Int)+1))
      ret x
     |some _=>U' "internal:set_iterator"
     |none=>Ts (.ref I) 0 (G2 0);Ts (.ref I) 2 .none;XS (<-Y_ (.type "StopIteration") []))) Q' h s):eH (gs prog w) A (R' (.ref I)) Q E s:=by
 obtain⟨o,l,n,m⟩:=id d;unfold R';refine bD (wpAny_attempt (wpAny_callSpecial?_slot (name:=Wh "__next__") d.typeIs SI.slot_next
  (Nw SI.slot_next d.typeIs SI.entry_next ?_ (SI.args_next _))))
 unfold MF.«set_iterator.__next__»;refine bD (XO (a:=(ri I,[])) rfl ?_)
 try dsimp only
 refine bD (wpAny_fieldsOf l m ?_)
 try dsimp only
 refine bD (Qb ho rfl j ?_);rw[Zr (by simp)];refine nc (k (λg s'=>∃r,g=.done (.ret r)/\Q (a5 r) s') (λe s'=>s'.TypeIs e "StopIteration"/\Q b6 s') (λv s' q=>⟨v,rfl,q⟩) λe s' z q=>⟨z,q⟩) ?_ ?_
 ·rintro g s' ⟨r,rfl,q⟩;exact⟨r,rfl,c4 q⟩
 ·rintro e s' ⟨z,q⟩;refine bD (O5 (T:="StopIteration") (b:=b8) z isSubtype_stop ?_);exact c4 q
end
section
theorem rD{I S:hH}{f f':et}{i n ep:Nat}{h:Ju}{o:Obj}(b:h.get? I=a5 o)(c:o.cls=.type "set_iterator")(a:o.data=.fields #[f,G2 i,.ref S,G2 n,G2 ep]):
  gu (h.update I (YB (·.setIfInBounds 1 (G2 ((i:Int)+1))))) I f (i+1) S n ep :=
 ⟨_,DD _ b (WB (P_ a _)),(Xz ..).trans c,by rw[P_ a];simp⟩
theorem ou{h:Ju}(c:h.get? I=a5 o)(d:o.cls=.type "set_iterator")(b:o.data=.fields #[f,G2 i,.ref S,G2 n,G2 ep]):
  ∃a,(h.update I (YB (·.setIfInBounds 0 f'))).get? I=a5 a/\a.cls=.type "set_iterator"/\a.data=.fields #[f',G2 i,.ref S,G2 n,G2 ep] :=
 ⟨_,DD _ c (WB (P_ b _)),(Xz ..).trans d,by rw[P_ b];simp⟩
theorem vH{I S:hH}{slot i ep:Nat}{es:Array (Int×et)}{t:Nn}{Q:Option et->gj->Prop}(a:gu s.heap I (G2 slot) i S es.size ep)(ho:s.heap.get? S=a5 (m_ es ep t))(j:t.fits es.size=b8)(l:A.handled=b6)
  {r:Option (et×Nat)} (m:∀(B:M0) (f:et->gj->Prop) (Q':Option (et×Nat)->gj->Prop),Q' r s->eH (gs prog w) B (Tr S slot i ep) Q' f s)
  (n:∀x nx,r=a5 (x,nx)->∀h',gu h' I (G2 nx) (i+1) S es.size ep->t4 I s.heap h'->Q (a5 x) {s with heap:=h' })
  (q:r=b6->∀h',(∀b o,b≠I->s.heap.get? b=a5 o->h'.get? b=a5 o)->Q b6 {s with heap:=h' }):eH (gs prog w) A (R' (.ref I)) Q E s:=by
 refine rC a ho j λQ' f u v=>?_;obtain⟨o,c,y,d⟩:=id a;show eH _ _ (Tr S slot i ep >>= _) _ _ s;refine bD (m _ _ _ ?_);cases r with
 |some p =>
  obtain⟨x,nx⟩:=p
  dsimp only
  refine bD (OD c d (by simp) ?_);obtain⟨J,g,z,h⟩:=ou (f':=G2 nx) c y d;refine bD (OD (s:={s with heap:=_}) g h (by simp) ?_);exact c4 (u _ _ (n x nx rfl _ (rD (f':=G2 nx) g z h) ((KG ..).trans (KG ..))))
 |none =>
  dsimp only
  refine bD (OD c d (by simp) ?_);refine ot (I:=I) (k:=λ_=>pure b6) (Q:=λ_ _=>True) (s:=s) (by simpa using l) λh' hk e C=>v e _ C (q rfl h' λb D G H=>hk b D ?_);rw[Nk _ _ _ _ G];exact H
theorem BS{I S T:hH}{i ep:Nat}{es:Array (Int×et)}{t:Nn}{a:List Nat}{Q:Option et->gj->Prop}(c:gu s.heap I (.ref T) i S es.size ep)(ho:s.heap.get? S=a5 (m_ es ep t))(m:t.fits es.size=b8)(r:A.handled=b6)
  (u:s.heap.IsTuple T ((a.map λ(j:Nat)=>G2 j).toArray))
  (v:∀(j:Nat) (e:Int×et),a[i]?=a5 j->es[j]?=a5 e->∀h',gu h' I (.ref T) (i+1) S es.size ep->t4 I s.heap h'->Q (a5 e.2) {s with heap:=h' })
  (x:∀j∈a,j<es.size)
  (y:a[i]?=b6->∀h',(∀b o,b≠I->s.heap.get? b=a5 o->h'.get? b=a5 o)->Q b6 {s with heap:=h' }):eH (gs prog w) A (R' (.ref I)) Q E s:=by
 refine rC c ho m λQ' O z B=>?_;obtain⟨o,d,n,f⟩:=id c;obtain⟨Y,C,WA,nT,D⟩:=u;show eH _ _ (YQ (.ref T) >>= _) _ _ s;refine bD (Y6 C D ?_);cases e:a[i]? with
 |some j =>
  have g:(a.map λ(j:Nat)=>G2 j).toArray[i]?=a5 (G2 j):=by simp[e]
  simp only[g];have h:j<es.size:=x j (HC e);have l:es[j]?=a5 (es[j]'h):=by simp[h]
  show eH _ _ (Xe S (j:Int).toNat ep >>= _) _ _ s;unfold Xe;rw[XM];refine bD (bD (nC ho rfl m ?_))
  dsimp only
  rw[Zr (by simp)];generalize es[j]'h=p at l;simp only[l];refine c4 ?_;refine bD (OD d f (by simp) ?_);exact c4 (z _ _ (v j p e l _ (rD (f':=.ref T) d n f) (KG ..)))
 |none =>
  have g:(a.map λ(j:Nat)=>G2 j).toArray[i]?=b6:=by simp at e ⊢;exact e
  simp only[g];refine bD (OD d f (by simp) ?_);obtain⟨o',G,e2,H⟩:=ou (f':=G2 0) d n f;refine bD (OD (s:={s with heap:=_}) G H (by simp) ?_);refine ot (I:=I) (k:=λ_=>pure b6) (Q:=λ_ _=>True) (s:=s) (by simpa using r) λh' hk ex J=>B ex _ J (y e h' λb L q N=>hk b L ?_);rw[Nk _ _ _ _ q,Nk _ _ _ _ q];exact N
end
section
theorem gu.at(x:gu h I f i S n ep)(e:∀o,h.get? I=a5 o->h'.get? I=a5 o):gu h' I f i S n ep:=let ⟨o,ho,r⟩:=x;⟨o,e _ ho,r⟩
theorem jP(r:A.handled=b6)(n:S≠I)(u:t.fits es.size=b8)(T:hH)(p:T≠I)(c:List et)(k:c.length=es.size)
  (first:Nat->et) (a:Ju->Prop) (l:∀h h',a h->(∀o,h.get? T=a5 o->h'.get? T=a5 o)->a h')
  (m:∀(s:gj) (i:Nat) (E:et->gj->Prop) (Q:Option et->gj->Prop),i<=es.size->a s.heap->gu s.heap I (first i) i S es.size ep->s.heap.get? S=a5 (m_ es ep t) ->
   (∀x,c[i]?=a5 x->∀h',gu h' I (first (i+1)) (i+1) S es.size ep->t4 I s.heap h'->Q (a5 x) {s with heap:=h' }) ->
   (c[i]?=b6->∀h',(∀b o,b≠I->s.heap.get? b=a5 o->h'.get? b=a5 o)->Q b6 {s with heap:=h' })->eH (gs prog w) A (R' (.ref I)) Q E s) :
  Walks prog w A I [I,S,T] [I] es.size (λi v=>c[i]?=a5 v) (λi h=>i<=es.size/\gu h I (first i) i S es.size ep/\h.get? S=a5 (m_ es ep t)/\a h) where
 sub:=λb d=>by rw[kr.mp d];simp
 frame:=λi h h' x hk=>⟨x.1,x.2.1.at λo e=>hk I (by simp) o e,hk S (by simp) _ x.2.2.1,l h h' x.2.2.2 λo e=>hk T (by simp) o e⟩
 item:=λi s Q E q x f=>by
  refine m s i E Q x.1 x.2.2.2 x.2.1 x.2.2.1 (λv g h' j hs=>?_) λz=>absurd z (by simp;lia);refine f v h' s.toks g ⟨q,j,?_,l _ h' x.2.2.2 λo e=>?_⟩ λb o d e=>?_
  ·rw[hs.2 S n];exact x.2.2.1
  ·rw[hs.2 T p];exact e
  ·rw[hs.2 b λz=>d (by simp[z])];exact e
 done:=λs Q E x f=>by
  refine m s es.size E Q x.1 x.2.2.2 x.2.1 x.2.2.1 (λv g=>absurd g (by rw[Rb ⋯];simp)) λ_ h' hk=>f h' s.toks λb o d e=>hk b o (λz=>d (by simp[z])) e
 self:=λi s Q E x f=>yU x.2.1 f
theorem ng(ho:s.heap.get? S=a5 (m_ es ep t))(a:t.fits es.size=b8)(h:Q (!w.params.followText "set-order"&&(!t.plain&&d6 (es.size>1))) s):eH (gs prog w) A (setDrawn S) Q E s:=by
 unfold setDrawn;refine bD (nC ho rfl a ?_)
 dsimp only
 exact bD (cq (c4 h))
theorem nh(a:w.params.followText "set-order"=b8)(ho:s.heap.get? S=a5 (m_ es ep t))(b:t.fits es.size=b8)
  (h:Q ((UY (w.params.setOrder S ep) es)[i]?.map λe=>(e.2,0)) s):eH (gs prog w) A (Tr S 0 i ep) Q E s:=by
 unfold Tr;refine bD (nC ho rfl b ?_)
 dsimp only
 refine bD (cq ?_);show eH _ _ (if (w.params.followText "set-order")=b8 then _ else _) _ _ s;rw[Zq a];rw[Zr (by simp)];unfold setWalk;refine bD (bD (nC ho rfl b ?_))
 dsimp only
 refine bD (cq ?_);show eH _ _ (if (w.params.followText "set-order")=b8 then _ else _) _ _ s;rw[Zq a];refine bD (O9 (c4 ?_));exact c4 h
theorem ox(hw:w.params.followText "set-order"=cc)(ho:s.heap.get? S=a5 (m_ es ep t))(hf:t.fits es.size=b8)(hl:t.led=b8)(h1:es.size<=1)
    (h:Q (match es[K0 t.place slot]?,t.place[K0 t.place slot]? with|some (_,x),a5 j=>a5 (x,j+1)|_,_=>b6) s):eH (gs prog w) A (Tr S slot i ep) Q E s:=by
  unfold Tr;refine bD (nC ho rfl hf ?_)
  dsimp only
  refine bD (cq ?_);show eH _ _ (if (w.params.followText "set-order")=b8 then _ else _) _ _ s;rw[Zr (by rw[hw];simp)];show eH _ _ (if (!t.plain&&d6 (es.size>1))=b8 then _ else _) _ _ s
  rw [if_neg (by have : decide (es.size > 1) = false := decide_eq_false (by lia)
                 rw[this];simp)]
  show eH _ _ ((if (!t.led&&!es.isEmpty)=b8 then _ else _) >>= _) _ _ s;rw[Zr (by rw[hl];simp)];exact bD (c4 (c4 h))
theorem oy(es:Array (Int×et))(a:Array Nat)(i:Nat)(c:es.size<=1)(d:a.size=es.size)(b:i<=es.size):
  (match es[K0 a (if i=0 then 0 else(a[0]?).getD 0+1)]?,a[K0 a (if i=0 then 0 else(a[0]?).getD 0+1)]? with|some (_,x),a5 j=>a5 (x,j+1)|_,_=>b6)=es[i]?.map λe=>(e.2,(a[0]?).getD 0+1):=by
 obtain⟨es⟩:=es;obtain⟨a⟩:=a
 match es,a,c,d,b with
 |[],[],_,_,b=>simp
 |[e],[p],_,_,b =>
  match i,b with
  |0,_ =>
   have:K0 #[p] 0=0:=by simp[K0,TK]
   simp[this]
  |1,_ =>
   have:K0 #[p] (p+1)=1:=by simp[K0,TK]
   simp[this]
  |n+2,h=>simp at h
 |[],_::_,_,h,_=>simp at h
 |[_],[],_,h,_=>simp at h
 |[_],_::_::_,_,h,_=>simp at h
 |_::_::_,_,h,_,_=>simp at h
theorem vI(C:B.handled=b6)(hS:aJ prog w s.heap S (aC w) D)
  (h:∀(I:hH) (fp:List hH) (n:Nat) (P:Nat->et->Prop) (St:Nat->Ju->Prop) (ys:List Str) (h':Ju) (d':Drawn),Walks prog w B I fp [I] n P St->ys.Perm D->n=ys.length->(∀i v,P i v->∃x T,ys[i]?=a5 x/\v=.str x T)->s.heap.objs.size<=I->(∀b∈fp,b=S\/s.heap.objs.size<=b)->St 0 h' ->
   (∀b o,s.heap.get? b=a5 o->h'.get? b=a5 o)->Q (.ref I) {s with heap:=h',drawn:=d' }):eH (gs prog w) A (Wd (.ref S)) Q E s:=by
 obtain⟨L,es,ep,t,ho,Hc,Y,GQ,a,c,He,Ha⟩:=hS;have RW:s.TypeIs (.ref S) "set":=⟨_,ho,rfl⟩
 have JU:S<s.heap.objs.size:=hV ho;refine Yt RW PySem.F.slot_set_iter (Nw PySem.F.slot_set_iter RW SI.jO ?_ (PySem.F.args_set_iter_1 _));unfold MF.«frozenset.__iter__» X0 slotArgs;simp only[List.isEmpty_nil,VD,Ji,↓reduceIte,bind_assoc,Q1,bne_self_eq_false];unfold Ry Oe;refine bD (c4 ?_)
 try dsimp only
 refine bD (c4 ?_);refine bD (bD (Qb ho rfl a (c4 ?_)));have Uw:D.length=es.size:=by rw[<-Y.length_eq,ei,<-i2,Hc,ei]
 have d:∀(l:List (Int×et)),l.Perm es.toList->∃ys:List Str,ys.Perm D/\ys.length=es.size/\∀(i:Nat) (v:et),(l.map (·.2))[i]?=a5 v->∃(x:Str) (T:Tok),ys[i]?=a5 x/\v=wh x T:=by
  intro l hl;rw[Hc]at hl;obtain⟨L',e',p'⟩:=cT hl;refine⟨L'.map (·.1),(p'.map _).trans Y,by rw[((p'.map _).trans Y).length_eq,Uw],λi v G=>?_⟩;subst e';rw[vu,mN]at G;rw[mN];cases q:L'[i]? with
  |none=>rw[q]at G;simp at G
  |some p=>rw[q]at G;simp at G;exact⟨p.1,p.2,rfl,G.symm⟩
 refine bD (ng ho a ?_);cases hw:w.params.followText "set-order" with
 |true =>
  simp only[VD,Ya,Ji,↓reduceIte];refine bD (c4 ?_);refine bD (bD (nC ho rfl a (c4 ?_)));refine bD (J_ ?_);have m:S≠s.heap.objs.size:=kj JU;obtain⟨ys,H,J,N⟩:=d (UY (w.params.setOrder S ep) es).toList (dC _ _);have W:=jP (prog:=prog) (w:=w) (A:=B) (I:=s.heap.objs.size) (S:=S) (es:=es) (ep:=ep) (t:=t) C m a S m ((UY (w.params.setOrder S ep) es).toList.map (·.2)) (by rw[ei,(dC _ _).length_eq,i2]) (λ_=>G2 0) (λ_=>True) (λ_ _ _ _=>trivial)
   (λs i E Q _ _ f u k1 k2=>vH (slot:=0) f u a C (λB E' Q' q=>nh hw u a q) (λx nx e h' O hs=>by
    rw[i1]at e;obtain⟨p,y,e2⟩:=e;cases e2;exact k1 _ (by rw[mN,uk,y];rfl) h' O hs) (λe=>k2 (by rw[mN,uk,QD];rwa [QD]at e)))
  refine c4 ⟨_,rfl,"set_iterator",_,⟨_,hY _ rfl,rfl⟩,SI.slot_next.lookup,?_⟩;exact h _ _ _ _ _ ys _ s.drawn W H J.symm N (i3 _) (λb c=>by
   simp only[hU,Jf,or_false]at c;rcases c with rfl|rfl|rfl
   ·exact .inr (i3 _)
   ·exact .inl rfl
   ·exact .inl rfl) ⟨oT _,⟨_,hY _ rfl,rfl,rfl⟩,df _ ho,trivial⟩ λb o e=>df _ e
 |false =>
  by_cases hsz:es.size>1
  ·have Hn:t.plain=cc:=by
    rcases Ha with z|z
    ·lia
    ·exact z
   have y:(!cc&&(!t.plain&&d6 (es.size>1)))=b8:=by rw[Hn,Zt hsz];rfl
   rw[y];simp only[↓reduceIte];refine bD (fX _ _ _ _ G9 λg d' hp=>?_);simp only[newTuple];have Ks:∀j∈g,j<es.size:=λj hj=>by have:=hp.mem_iff.mp hj;simpa using this
   have M9:g.length=es.size:=by rw[hp.length_eq];simp
   refine bD (J_ ?_ (by
    show(g.map λ(j:Nat)=>G2 j).toArray.size<=_;have:es.size<4096:=c;simp only[hQ,ei,M9];have:(4096:Nat)<=dV:=by decide
    lia))
   have Jw:(s.heap.push {cls:=.type "tuple",data:=.seq (g.map λ(j:Nat)=>G2 j).toArray}).get? S=a5 (m_ es ep t):=df _ ho;refine bD (bD (nC (s:={s with heap:=_,drawn:=d' }) Jw rfl a (c4 ?_)));refine bD (J_ ?_);have Ux:s.heap.objs.size≠(s.heap.push {cls:=.type "tuple",data:=.seq (g.map λ(j:Nat)=>G2 j).toArray}).objs.size:=by rw[Lu];exact kj (Nh _)
   have m:S≠(s.heap.push {cls:=.type "tuple",data:=.seq (g.map λ(j:Nat)=>G2 j).toArray}).objs.size:=by rw[Lu];exact kj (Qv JU)
   have LH:(g.map λj=>(es[j]?).getD (0,u3)).Perm es.toList:=by
    refine(hp.map _).trans ?_;have:(ko es.size).map (λj=>(es[j]?).getD (0,u3))=es.toList:=by
     apply S6
     ·simp
     ·intro i h1 h2;simp at h1 ⊢;simp[h1]
    rw[this]
   obtain⟨ys,H,J,N⟩:=d _ LH;have W:=jP (prog:=prog) (w:=w) (A:=B) (I:=(s.heap.push {cls:=.type "tuple",data:=.seq (g.map λ(j:Nat)=>G2 j).toArray}).objs.size) (S:=S) (es:=es) (ep:=ep) (t:=t) C m a s.heap.objs.size Ux ((g.map λj=>(es[j]?).getD (0,u3)).map (·.2)) (by simp[M9]) (λ_=>.ref s.heap.objs.size) (λh=>h.IsTuple s.heap.objs.size (g.map λ(j:Nat)=>G2 j).toArray) (λh h' ⟨o,ho,r⟩ k=>⟨o,k _ ho,r⟩)
    (λs' i E Q _ Jm f u k1 k2=>BS f u a C Jm (λj e ej ee h' O hs=>k1 _ (by rw[mN,mN,ej];simp[ee]) h' O hs) Ks (λe=>k2 (by rw[mN,mN,e];rfl)))
   refine c4 ⟨_,rfl,"set_iterator",_,⟨_,hY _ rfl,rfl⟩,SI.slot_next.lookup,?_⟩;refine h _ _ _ _ _ ys _ d' W H J.symm N (by rw[Lu];exact M7 _) (λb c=>?_) ⟨oT _,⟨_,hY _ rfl,rfl,rfl⟩,df _ Jw,⟨_,df _ (hY _ rfl),rfl,_,rfl⟩⟩ λb o e=>df _ (df _ e);rw[Lu]at c;simp only[hU,Jf,or_false]at c;rcases c with rfl|rfl|rfl
   ·exact .inr (M7 _)
   ·exact .inl rfl
   ·exact .inr (i3 _)
  ·have y:(!cc&&(!t.plain&&d6 (es.size>1)))=cc:=by rw[Zs hsz];simp
   rw[y];simp only[Ji,↓reduceIte];refine bD (c4 ?_);refine bD (bD (nC ho rfl a (c4 ?_)));refine bD (J_ ?_);have m:S≠s.heap.objs.size:=kj JU;have Uy:t.led=b8:=by rw[He];show(!w.params.followText "set-order")=b8;rw[hw];rfl
   obtain⟨ys,H,J,N⟩:=d es.toList (.refl _);have HL:t.place.size=es.size:=by
    unfold Pz at a;simp only[cb,beq_iff_eq]at a;exact a.1
   have W:=jP (prog:=prog) (w:=w) (A:=B) (I:=s.heap.objs.size) (S:=S) (es:=es) (ep:=ep) (t:=t) C m a S m (es.toList.map (·.2)) (by simp) (λi=>G2 ((if i=0 then 0 else(t.place[0]?).getD 0+1:Nat):Nat)) (λ_=>True) (λ_ _ _ _=>trivial)
    (λs' i E Q hi _ f u k1 k2=>vH (slot:=if i=0 then 0 else(t.place[0]?).getD 0+1) f u a C (λB E' Q' q=>ox hw u a Uy ⋯ q) (λx nx e h' O hs=>by
     rw[oy es t.place i ⋯ HL hi,i1]at e;obtain⟨p,y,e2⟩:=e;cases e2;refine k1 _ (by rw[mN,uk,y];rfl) h' ?_ hs;rw[Zr (Nat.succ_ne_zero i)];exact O) (λe=>by
     rw[oy es t.place i ⋯ HL hi,QD]at e;exact k2 (by rw[mN,uk,e];rfl)))
   refine c4 ⟨_,rfl,"set_iterator",_,⟨_,hY _ rfl,rfl⟩,SI.slot_next.lookup,?_⟩;exact h _ _ _ _ _ ys _ s.drawn W H J.symm N (i3 _) (λb c=>by
    simp only[hU,Jf,or_false]at c;rcases c with rfl|rfl|rfl
    ·exact .inr (i3 _)
    ·exact .inl rfl
    ·exact .inl rfl) ⟨oT _,⟨_,hY _ rfl,rfl,rfl⟩,df _ ho,trivial⟩ λb o e=>df _ e
end
theorem oz:Pa (.type "set") "__len__"=pure (a5 (.builtin "set.__len__")):=by rw[PQ,MV];kernel_rfl
section
theorem jQ:∀{vs:List et}{ys:List Str},vs.length=ys.length->(∀(i:Nat) (v:et),vs[i]?=a5 v->∃x t,ys[i]?=a5 x/\v=.str x t)->OW vs ys
 |[],[],_,_=>.nil
 |[],_::_,h,_=>by simp at h
 |_::_,[],h,_=>by simp at h
 |v::vs,y::ys,h,k=>by
  obtain⟨x,t,a,b⟩:=k 0 v rfl;cases a;subst b;exact .cons y t (jQ (by simpa using h) λi w c=>k (i+1) w c)
theorem oA(H:A.handled=b6)(J:aJ prog w s.heap S (aC w) D)(N:D.length<=dV)
  (O:∀(vs:List et) (ys:List Str) (h':Ju) (d':Drawn) (g:Nat),ys.Perm D->OW vs ys->s.heap.objs.size<=h'.objs.size->s.toks<=g->(∀b o,s.heap.get? b=a5 o->h'.get? b=a5 o)->Q vs {s with heap:=h',drawn:=d',toks:=g}) :
  eH (gs prog w) A (Xf (.ref S)) Q E s:=by
 obtain⟨L,es,ep,t,ho,rest⟩:=id J;have T:S<s.heap.objs.size:=hV ho;unfold Xf;refine bD (Wa (Kb PySem.F.entry_proto_collect ?_));rw[MH PySem.F.plain_proto_collect _];show eH _ A.in1 (Yx [] >>= λl=>Zc (.builtin "list.__iadd__" ⟨[l,.ref S],[]⟩)) _ _ s;refine bD (J_ ?_);refine c4 ⟨QR PySem.F.plain_list_iadd _,Kb PySem.F.entry_list_iadd ?_⟩;rw[MH PySem.F.plain_list_iadd _];have d:(s.heap.push {cls:=.type "list",data:=.seq ([]:List et).toArray}).get? S=a5 {cls:=.type "set",dict:=b6,data:=.set es ep t}:=df _ ho;have Y:Qe {s with heap:=s.heap.push {cls:=.type "list",data:=.seq ([]:List et).toArray}} (.ref S) "set":=⟨_,d,rfl⟩
 show eH _ A.in1 (u5 (.ref s.heap.objs.size) (.ref S) (.ref s.heap.objs.size)) _ _ _;unfold u5;refine bD (Te Y ?_);have h:s.heap.objs.size≠S:=KX T;have h1:MG (.ref s.heap.objs.size) (.ref S)=cc:=by simp[MG,h]
 have h2:(x2 "set"==x2 "list")=cc:=by decide
 have h3:(x2 "set"==x2 "tuple")=cc:=by decide
 simp only[h1,h2,h3,Vg,Ji,if_false];refine bD (vI (B:=A.in1) (by simpa using H) ⟨L,es,ep,t,d,rest⟩ ?_);intro I fp n P St ys h' d' W j k hP m Qd GF hk;have f:Qe {s with heap:=h',drawn:=d' } (.ref S) "set":=⟨_,hk _ _ d,rfl⟩
 refine bD (vl ?_);unfold R0;refine bD (RI f oz ?_);have HK:splitId "set.__len__"=a5 ("set","__len__"):=by decide +kernel
 dsimp only
 rw[HK]
 dsimp only
 refine bD (O5 f Tq ?_);rw[Zr (by decide)];rw[Zq (by decide +kernel)];refine bD (Te f ?_);refine c4 ?_;rw[Zq (by decide +kernel)];have p:s.heap.objs.size∉fp:=λa=>by
  rcases Qd _ a with z|z
  ·exact h z
  ·rw[Lu]at z;exact absurd z (Nat.not_succ_le_self _)
 have q:h'.get? s.heap.objs.size=a5 {cls:=.type "list",data:=.seq ([]:List et).toArray}:=hk _ _ (hY _ rfl);refine bD (NZ ?_);refine bD ?_;show eH _ A.in1 (YN s.heap.objs.size (·.push .none) >>= λ_=>YN s.heap.objs.size (·.pop)) _ _ _;refine bD (PM q rfl ?_);have r:=DD (tA (·.push u3)) q rfl;refine PM r rfl ?_;have Uz:=DD (tA (·.pop)) r rfl;have u:∀b o,b≠s.heap.objs.size->h'.get? b=a5 o->((h'.update s.heap.objs.size (tA (·.push u3))).update s.heap.objs.size (tA (·.pop))).get? b=a5 o :=
  λb o c e=>(LI _ _ (uv c)).trans ((LI _ _ (uv c)).trans e)
 refine c4 ⟨QR PySem.F.plain_extend_loop _,XU W.toS (by rw[k,j.length_eq];exact N) _ p _ n 0 _ _ _ rfl (oT _) (W.frame 0 h' _ GF λb c o e=>u b o (λz=>p (z▸c)) e) Uz (X8 P) λs' Hf c' a x y=>?_⟩;show eH _ A (load s.heap.objs.size >>= _) _ _ s';refine bD (Yc x ?_);obtain⟨Oo,g2,C,UA,UB⟩:=s';have eg:g2=s.gens:=a.gens;have ed:C=d':=a.drawn;have eo:UB=s.os:=a.os;subst eg;subst ed;subst eo;refine c4 (O _ ys Oo C UA j (jQ (by rw[i2,y.1,k]) λi v hv=>hP i v (y.2 i v (by rwa [uk]at hv))) (Ni (hV x)) a.toks λb o e=>?_);have G:b≠s.heap.objs.size:=λz=>by rw[z]at e;exact absurd (hV e) (C0 _)
 refine a.heap b o (λz=>?_) (u b o G (hk _ _ (df _ e)));rcases hU.mp z with z|z
 ·exact G z
 ·rw[kr.mp z]at e;have:=hV e;rw[Lu]at m;exact absurd (lg this (Jq (M7 _) m)) (C0 _)
end
section
theorem Inv.drawn(I:Inv X a σ H s)(d:Drawn):Inv X a σ H {s with drawn:=d}:=⟨I.ok,I.os,I.bare,I.base,I.loc,I.cell,I.free,I.GP,I.pin,I.Gz,I.len⟩
theorem ni(j:X.calm=b8)(I:Inv X c σ H s)(hq:GY X.K H p (ys.map V.str)\/Hh X.K H p (ys.map V.str))(g:ys.length+1<HU)
  (h:∀(S:hH) (h':Ju) (a:Nat),aJ X.prog X.w h' S (aC X.w) (aE ys)->Inv X c σ H {s with heap:=h',toks:=a}->Q (.ref S) {s with heap:=h',toks:=a}) :
  eH (gs X.prog X.w) X.A (Mj (.type "set") [.ref p]) Q X.xe s:=by
 have i:X.A.handled=b6:=I.ok.hd j;rcases hq with hq|hq
 ·obtain⟨l,rv,d,hz⟩:=I.list hq;exact fg i d.isList (cp rv) g λh' a f k=>h _ h' a f (I.kept λb o e=>k b o (hV e) e)
 ·obtain⟨l,rv,d,hz⟩:=I.tuple hq;exact fW i d (cp rv) g λh' a f k=>h _ h' a f (I.kept λb o e=>k b o (hV e) e)
theorem fY(i:X.calm=b8)(I:Inv X a σ H s)(j:aJ X.prog X.w s.heap S (aC X.w) D)(d:D.length<64)
  (q:∀p,H p=b6->Q (.ref p) (upd H p (.lst ((aL D).map V.str)))):eH (gs X.prog X.w) X.A (Mj (.builtin "sorted") [.ref S]) (EP X a σ Q) X.xe s:=by
 have k:X.A.handled=b6:=I.ok.hd i;have hl:D.length<=dV:=Ni (lg d (by decide));refine eQ (oA (A:=X.A.in1) (by simpa using k) j hl λvs ys h' d' b f g hsz n hk=>⟨ys,g,by rw[gQ g,f.length_eq];exact d,λr l e k2 c s2=>?_⟩);rw[ff f]at s2;have m:Inv X a σ H {s with heap:=h',toks:=b}:=I.kept (t':=b) hk;have h:Inv X a σ H {s with heap:=h',drawn:=d',toks:=b}:=m.drawn d';exact⟨.ref h'.objs.size,_,h.laid (t':=b) (o:=.lst ((aL D).map V.str)) k2 (i3 _) ⟨by rw[ei,cI];exact hl,l,e,dn s2,c⟩,rfl,q _ (h.Gz.fresh (i3 _))⟩
theorem pU(I:Inv X a σ H s)(c:aJ X.prog X.w s.heap S (aC X.w) D)
  (q:Q (.int D.length) H):eH (gs X.prog X.w) X.A (Mj (.builtin "len") [.ref S]) (EP X a σ Q) X.xe s:=by
 obtain⟨L,es,ep,t,ho,d,g,j,h,i,k,l⟩:=c;have b:es.size=D.length:=by rw[<-i2,d,ei,<-ei (f:=Prod.fst) (as:=L),g.length_eq]
 have m:es.size<4096:=i;refine call_len_set ho ⟨rfl,rfl,rfl⟩ rfl h ⋯ ?_;exact⟨.int es.size,_,I.kept (t':=s.toks+1+1) (λ_ _ e=>e),⟨_,rfl⟩,by rw[b];exact q⟩
end
end L2
namespace L2
open PySem
noncomputable def dE(mask:Nat):Nat->Nat×Nat->Nat×Nat
 |0,q=>q
 |t+1,q=>dE mask t (Xj mask q.1 q.2)
theorem lG(mask:Nat):∀(a b:Nat) (q:Nat×Nat),dE mask (a+b) q=dE mask b (dE mask a q)
 |0,b,q=>by rw[Q0];rfl
 |a+1,b,q=>by rw[show a+1+b=(a+b)+1 by lia];exact lG mask a b _
theorem lH(mask:Nat):∀(t:Nat) (q:Nat×Nat),(dE mask t q).2=q.2 / 32 ^ t
 |0,q=>by simp[dE]
 |t+1,q=>by
  show(dE mask t (Xj mask q.1 q.2)).2=_;rw[lH mask t];show q.2 / 32 / 32 ^ t=_;rw[Nat.div_div_eq_div_mul,Nat.pow_succ,Nat.mul_comm]
theorem oB(mask:Nat):∀(t:Nat) (q:Nat×Nat),q.1<mask+1->(dE mask t q).1<mask+1
 |0,q,h=>h
 |t+1,q,h=>oB mask t _ (U3 _ (Wm _))
noncomputable def JX(m:Nat):Nat->Nat->Nat
 |0,i=>i
 |t+1,i=>JX m t ((i * 5+1) % m)
theorem lI(mask:Nat):∀(t i:Nat),dE mask t (i,0)=(JX (mask+1) t i,0)
 |0,i=>rfl
 |t+1,i=>by
  show dE mask t ((i * 5+1+0 / 32) % (mask+1),0 / 32)=(JX (mask+1) t ((i * 5+1) % (mask+1)),0)
  rw[Nat.zero_div,YW];exact lI mask t _
theorem jo(m:Nat):∀(a b i:Nat),JX m (a+b) i=JX m b (JX m a i)
 |0,b,i=>by rw[Q0];rfl
 |a+1,b,i=>by rw[show a+1+b=(a+b)+1 by lia];exact jo m a b _
noncomputable def tP(m:Nat):Nat->Nat->List Nat
 |0,_=>[]
 |t+1,i=>i::tP m t ((i * 5+1) % m)
theorem rE(m:Nat):∀(n i t:Nat),t<n->(tP m n i)[t]?=a5 (JX m t i)
 |0,_,_,h=>by lia
 |n+1,i,0,_=>rfl
 |n+1,i,t+1,h=>by
  show(tP m n ((i * 5+1) % m))[t]?=_;exact rE m n _ t ⋯
theorem oC(m:Nat):∀(n i:Nat),(tP m n i).length=n
 |0,_=>rfl
 |n+1,i=>by show(tP m n _).length+1=_;rw[oC m n]
noncomputable def Full(m:Nat):Bool:=(ko m).all (λj=>(tP m m 0).contains j)&&(JX m m 0==0)
theorem AE:Full 8=b8:=by decide +kernel
theorem vJ:Full 16=b8:=by decide +kernel
theorem vK:Full 32=b8:=by decide +kernel
theorem vL:Full 64=b8:=by decide +kernel
theorem rF:Full 128=b8:=by decide +kernel
theorem tQ(h:Full m=b8)(l:i<m)(n:j<m):∃t,t<m/\JX m t i=j:=by
 unfold Full at h;rw[cb,mx]at h;obtain⟨o,d⟩:=h;have d:JX m m 0=0:=by simpa using d
 have get:∀k,k<m->∃a,a<m/\JX m a 0=k:=λk hk=>by
  have:=o k (HW.mpr hk);rw[List.contains_iff_mem]at this;obtain⟨a,c⟩:=List.mem_iff_getElem?.mp this;have e:a<m:=by have:=(ez.mp c).1;rw[oC]at this;exact this
  rw[rE m m 0 a e]at c;exact⟨a,e,by simpa using c⟩
 obtain⟨a,c,f⟩:=get i l;obtain⟨b,p,g⟩:=get j n;by_cases q:a<=b
 ·exact⟨b - a,⋯,by rw[<-f,<-jo,show a+(b - a)=b by lia,g]⟩
 ·refine⟨m - a+b,⋯,?_⟩;rw[<-f,<-jo,show a+(m - a+b)=m+b by lia,jo,d,g]
theorem lJ:∀(f i p:Nat),A0 mask owner f i p=b6->∀t,t<f->(owner.getD (dE mask t (i,p)).1 (a5 0)).isNone=cc
 |0,_,_,_,t,h=>by lia
 |f+1,i,p,h,t,b=>by
  unfold A0 at h;cases a:(ko (Sk mask i+1 - i)).find? (λk=>(owner.getD (i+k) (a5 0)).isNone) with
  |some k=>rw[a]at h;cases h
  |none =>
   rw[a]at h;cases t with
   |zero =>
    have:=List.find?_eq_none.mp a 0 (HW.mpr (by unfold Sk;split<;>lia));rw[YW]at this;show(owner.getD i (a5 0)).isNone=cc;cases e:(owner.getD i (a5 0)).isNone with
    |false=>rfl
    |true=>exact absurd e this
   |succ t=>exact lJ f _ _ h t ⋯
theorem lK:∀(f i p j:Nat),A0 mask owner f i p=a5 j->owner[j]?=a5 b6
 |0,_,_,_,h=>by cases h
 |f+1,i,p,j,h=>by
  unfold A0 at h;cases b:(ko (Sk mask i+1 - i)).find? (λk=>(owner.getD (i+k) (a5 0)).isNone) with
  |some k =>
   rw[b]at h;cases h;have a:=List.find?_some b;have c:i+k<owner.size:=by
    refine Classical.byContradiction λz=>?_;have:owner.getD (i+k) (a5 0)=a5 0:=by simp[R4,z]
    rw[this]at a;cases a
   have d:owner.getD (i+k) (a5 0)=owner[i+k]:=by simp[R4,c]
   rw[d]at a;rw[Nf c];cases e:owner[i+k] with
   |none=>rfl
   |some _=>rw[e]at a;cases a
  |none =>
   rw[b]at h;exact lK f _ _ j h
theorem yV(c:Full (mask+1)=b8){j0:Nat}(a:owner[j0]?=a5 b6)(hsz:owner.size=mask+1)(d:i<mask+1)(f:p<2 ^ 64):∃j,A0 mask owner (O2 mask) i p=a5 j/\owner[j]?=a5 b6:=by
 cases e:A0 mask owner (O2 mask) i p with
 |some j=>exact⟨j,rfl,lK _ _ _ _ e⟩
 |none =>
  have g:j0<mask+1:=by rw[<-hsz];exact(Array.getElem?_eq_some_iff.mp a).1
  have h:(dE mask 13 (i,p)).2=0:=by
   rw[lH];exact Nat.div_eq_of_lt (SE f (by decide))
  obtain⟨t,n,k⟩:=tQ c (oB mask 13 (i,p) d) g;have l:dE mask (13+t) (i,p)=(j0,0):=by
   rw[lG,show dE mask 13 (i,p)=((dE mask 13 (i,p)).1,0) from Prod.ext rfl h,lI,k]
  have:=lJ _ _ _ e (13+t) (by unfold O2;lia);rw[l]at this;have m:owner.getD j0 (a5 0)=b6:=by
   have b:j0<owner.size:=by lia
   rw[Nf b]at a;simp[R4,b];exact GI a
  rw[m]at this;cases this
noncomputable def vals(L:List (Option Nat)):List Nat:=L.filterMap id
theorem oD:∀{L:List (Option Nat)}{j:Nat},L[j]?=a5 b6->(vals (L.set j (a5 k))).Perm (k::vals L)
 |[],j,h=>by simp at h
 |x::L,0,h=>by
  have:x=b6:=by simpa using h
  subst this;exact L7 _
 |x::L,j+1,h=>by
  have a:=oD (k:=k) (L:=L) (j:=j) (by simpa using h);cases x with
  |none=>exact a
  |some y =>
   show(y::vals (L.set j (a5 k))).Perm (k::y::vals L);exact(W2 y a).trans (WZ k y _)
theorem lL:∀{L:List (Option Nat)},(vals L).length<L.length->∃j:Nat,L[j]?=a5 b6
 |[],h=>by simp at h
 |none::L,_=>⟨0,rfl⟩
 |some y::L,h=>by
  obtain⟨j,a⟩:=lL (L:=L) (by
   have:(vals L).length+1<L.length+1:=h;lia)
  exact⟨j+1,by simpa using a⟩
theorem vM(d:Full (mask+1)=b8):∀(hs:List Int) (owner:Array (Option Nat)) (k:Nat),owner.size=mask+1->(vals owner.toList).Perm (ko k)->k+hs.length<=mask ->
  ∃c,hs.foldl (λacc h=>do
   let (owner,k) <-acc
   let j <-A0 mask owner (O2 mask) (M8 h % (mask+1)) (M8 h)
   pure (owner.setIfInBounds j (a5 k),k+1)) (a5 (owner,k))=a5 (c,k+hs.length)/\c.size=mask+1/\(vals c.toList).Perm (ko (k+hs.length))
 |[],owner,k,a,b,_=>⟨owner,rfl,a,b⟩
 |h::hs,owner,k,a,b,f=>by
  rw[rz]at f;obtain⟨j0,g⟩:=lL (L:=owner.toList) (by rw[b.length_eq,G9,i2];lia);obtain⟨j,e,l⟩:=yV d (owner:=owner) (j0:=j0) (by rw[<-uk];exact g) a (i:=M8 h % (mask+1)) (p:=M8 h) (U3 _ (Wm _)) (by unfold M8;lia);have m:owner.toList[j]?=a5 b6:=by rw[uk];exact l
  have n:(vals (owner.setIfInBounds j (a5 k)).toList).Perm (ko (k+1)):=by
   rw[Array.toList_setIfInBounds,List.range_succ];exact(oD m).trans ((W2 k b).trans (List.perm_append_singleton k _).symm)
  obtain⟨o,q,r,s⟩:=vM d hs (owner.setIfInBounds j (a5 k)) (k+1) (by rw[Array.size_setIfInBounds];exact a) n ⋯;refine⟨o,?_,r,by rw[show k+(h::hs).length=k+1+hs.length by simp;lia];exact s⟩;rw[Q2,show k+(h::hs).length=k+1+hs.length by simp;lia,<-q];congr 1
  show(A0 mask owner (O2 mask) (M8 h % (mask+1)) (M8 h)).bind _=_;rw[e];rfl
theorem pV(L:List (Option Nat)):(ko L.length).filterMap (λj=>L.getD j b6)=vals L:=by
 have h:(ko L.length).map (λj=>L.getD j b6)=L:=by
  apply S6
  ·simp
  ·intro i b a;simp[Ou,a]
 have a:vals ((ko L.length).map (λj=>L.getD j b6))=vals L:=Zv vals h;unfold vals at a;rw[List.filterMap_map]at a;exact a
theorem rG{led plain:Bool}(e:Full (mask+1)=b8)(f:hs.size<=mask):∃t a,Rf mask finger moves led plain hs=a5 (t,a)/\t.fits hs.size=b8/\t.led=led/\t.plain=plain/\t.mask=mask/\t.dummies=#[]/\a.toList.Perm (ko hs.size):=by
 obtain⟨owner,c,g,b⟩:=vM e hs.toList (Array.replicate (mask+1) b6) 0 (by simp) (by
  have:∀n:Nat,vals (mh n b6)=[]:=λn=>by
   induction n with
   |zero=>rfl
   |succ n h=>rw[List.replicate_succ];exact h
  rw[Array.toList_replicate,this];exact L7 _) (by rw[i2];lia)
 rw[Q0,i2]at c b;have i:Px mask hs=a5 owner:=by
  unfold Px;rw[<-Array.foldl_toList];rw[c];rfl
 have k:((ko (mask+1)).filterMap λj=>owner.getD j b6)=vals owner.toList:=by
  rw[<-pV,i2,g];congr 1
  funext j
  simp only[Array.getD_eq_getD_getElem?,UE,uk]
 have d:(((ko (mask+1)).filterMap λj=>(owner.getD j b6).map (j,·)).map (·.2))=vals owner.toList:=by
  rw[<-k,List.map_filterMap];congr 1
  funext j
  cases owner.getD j b6<;>rfl
 have hl:((ko (mask+1)).filterMap λj=>(owner.getD j b6).map (j,·)).length=hs.size:=by
  have:=Zv Lz d;rw[ei,b.length_eq,G9]at this;exact this
 refine⟨_,_,by unfold Rf;rw[i];rfl,?_,rfl,rfl,rfl,rfl,?_⟩
 ·unfold Pz S_;simp only[hQ,ei,hl];simp;exact f
 ·show(((ko (mask+1)).filterMap λj=>(owner.getD j b6).map (j,·)).map (·.2)).Perm _;rw[d];exact b
end L2
namespace L2
open PySem PySem.Spec PyProof.Rows
noncomputable def BU(P:D3)(w:H_)(p:Str×Tok):Int×et:=((sK P w).hash p.1,wh p.1 p.2)
section
theorem aJ.perm(b:aJ prog w h a led D)(p:D.Perm c):aJ prog w h a led c :=
 let ⟨L,es,ep,t,d,e,f,g,i⟩:=b;⟨L,es,ep,t,d,e,f.trans p,p.nodup_iff.mp g,i⟩
theorem aJ.at(b:aJ prog w h a led D)(k:∀o,h.get? a=a5 o->h'.get? a=a5 o):aJ prog w h' a led D :=
 let ⟨L,es,ep,t,c,d⟩:=b;⟨L,es,ep,t,k _ c,d⟩
theorem aJ.sz{h:Ju}{a:hH}{led:Bool}{D:List Str}{L:List (Str×Tok)}{es:Array (Int×et)}(b:es.toList=L.map (λp=>((sK prog w).hash p.1,wh p.1 p.2)))(c:(L.map (·.1)).Perm D):es.size=D.length:=by
 rw[<-i2,b,ei,<-c.length_eq,ei]
theorem aJ.of(g:aJ prog w h a led D):h.SetOf (sK prog w) a (λx=>d6 (x∈D)) D.length:=by
 obtain⟨L,es,ep,t,ho,b,d,l,i,j,m,n⟩:=g;refine⟨_,es,ep,t,ho,⟨rfl,rfl,rfl⟩,rfl,by rw[b];exact jL,λx=>?_,j,i,aJ.sz (h:=h) (a:=a) (led:=led) b d⟩;rw[Zp,b,<-d.mem_iff,my];constructor
 ·rintro⟨p,c,e⟩;exact⟨_,my.mpr ⟨p,c,rfl⟩,by rw[fV];simp[e]⟩
 ·rintro⟨e,k,f⟩;obtain⟨p,c,rfl⟩:=my.mp k;rw[fV,Zp]at f;exact⟨p,c,f.symm⟩
theorem oE(b:aJ prog w s.heap a led D)(h:∀r:Option Nat,r.isSome=d6 (x∈D)->Q r s):
  eH (gs prog w) A (setFind a (.str x c) ((sK prog w).hash x)) Q E s :=
 wpAny_setFind_of (knd:=sK prog w) (by rw[fV];simp) rfl b.of h
theorem eB{L':List (Str×Tok)}(ho:s.heap.get? a=a5 {cls:=.type "set",dict:=b6,data:=.set es ep t})(f:b.toList=L'.map (λp=>((sK prog w).hash p.1,wh p.1 p.2)))(g:(L'.map (·.1)).Perm c)(i:c.Nodup)
  (j:t'.fits b.size=b8) (d:b.size<HU) (hl:t'.led=led) (k:b.size=0\/t'.plain=cc) (h:∀h',t4 a s.heap h'->h'.get? a=a5 {cls:=.type "set",dict:=b6,data:=.set b (ep+1) t' }->aJ prog w h' a led c->Q () {s with heap:=h' }) :
  eH (gs prog w) A (storeSet a b t') Q E s:=by
 refine Tf ho rfl ?_ (TF d);have e:(s.heap.update a (NT b t')).get? a=a5 {cls:=.type "set",dict:=b6,data:=.set b (ep+1) t' }:=DD (NT b t') ho rfl;exact h _ (KG s.heap a (NT b t')) e ⟨L',b,ep+1,t',e,f,g,i,j,d,hl,k⟩
theorem eS(xs:Array α)(i:Nat):(NX xs i).toList=xs.toList.eraseIdx i:=by
 unfold NX;rw[Array.toList_append,Wq,Wq,Od];simp[List.extract];rw[LL (by simp)]
theorem tR{t:Nn}(h:t.fits n=b8)(e:i<n):(t.drop i).fits (n - 1)=b8:=by
 simp only[Pz,cb,beq_iff_eq,Zp]at h;obtain⟨f,b⟩:=h;have a:i<t.place.size:=by lia
 have c:(NX t.place i).size=t.place.size - 1:=by
  rw[<-i2,eS,WL,Zq (by simpa using a),i2]
 have d:∀p x,(SetTable.insertAt t.dummies p x).size=t.dummies.size+1:=λp x=>by
  have:=(SetTable.insertAt_perm t.dummies p x).length_eq;rw[i2,i2,Array.size_push]at this;exact this
 unfold Xk;rw[Nf a];simp only[Pz,S_,cb,beq_iff_eq,Zp,c,d]at b ⊢;constructor<;>lia
theorem vN(t:Nn)(i:Nat):(t.drop i).led=t.led/\(t.drop i).plain=t.plain:=by
 unfold Xk;split<;>exact⟨rfl,rfl⟩
theorem erase_filter:∀{l:List Str}{j:Nat}{x:Str},l.Nodup->l[j]?=a5 x->l.eraseIdx j=l.filter λy=>d6 (y≠x)
 |[],j,x,_,h=>by simp at h
 |y::l,0,x,a,h=>by
  obtain⟨b,c⟩:=td.mp a;have:y=x:=by simpa using h
  subst this;rw[List.eraseIdx_cons_zero,List.filter_cons_of_neg (by simp)];exact(RZ.mpr λz hz=>by
   have:z≠y:=λe=>b (e▸hz);simpa using this).symm
 |y::l,j+1,x,a,h=>by
  obtain⟨b,c⟩:=td.mp a;have d:l[j]?=a5 x:=by simpa using h
  have:y≠x:=λe=>b (e▸HC d);rw[QF,erase_filter c d,List.filter_cons_of_pos (by simpa using this)]
theorem fh(f:α->β):∀(l:List α) (j:Nat),(l.map f).eraseIdx j=(l.eraseIdx j).map f
 |[],_=>rfl
 |x::l,0=>rfl
 |x::l,j+1=>by
  show f x::(l.map f).eraseIdx j=f x::(l.eraseIdx j).map f;rw[fh f l j]
theorem oF{a:hH}{led:Bool}{D:List Str}{x:Str}{k:Tok}{Q:Bool->gj->Prop}(l:aJ prog w s.heap a led D)(h:∀b h',t4 a s.heap h'->aJ prog w h' a led (D.filter λy=>d6 (y≠x))->Q b {s with heap:=h' }):
  eH (gs prog w) A (YP a (.str x k) ((sK prog w).hash x)) Q E s:=by
 have u:=l;obtain⟨L,es,ep,t,ho,c,d,m,f,v,B,C⟩:=l;have G:(sK prog w).is x (.str x k)=b8:=by rw[fV];simp
 have n:ElemsOf (sK prog w) es.toList:=by rw[c];exact jL
 have hsz:=aJ.sz (h:=s.heap) (a:=a) (led:=led) c d;unfold YP setFind setFindIn;refine bD (bD (nC ho rfl f ?_))
 dsimp only
 rw[byScan_of (knd:=sK prog w) rfl v n];simp only[↓reduceIte];refine bD (NZ ?_);refine bD (YJ (knd:=sK prog w) G ho rfl f n ?_);cases o:Vf (λe=>(sK prog w).is x e.2) es.toList with
 |none =>
  dsimp only
  refine c4 (c4 ?_);have g:x∉D:=λg=>by
   rw[<-d.mem_iff,my]at g;obtain⟨p,H,e⟩:=g;have I:((sK prog w).hash p.1,wh p.1 p.2)∈es.toList:=by rw[c];exact my.mpr ⟨p,H,rfl⟩
   have:=U7.mp o _ I;rw[fV,decide_eq_false_iff_not]at this;exact this e.symm
  have e:D.filter (λy=>d6 (y≠x))=D:=RZ.mpr λz hz=>by
   have:z≠x:=λe=>g (e▸hz);simpa using this
  have J:s={s with heap:=s.heap}:=by cases s;rfl
  rw[J];exact h cc s.heap (IV a s.heap) (by rw[e];exact u)
 |some j =>
  dsimp only
  obtain⟨i,q,_⟩:=Sb.mp o;rw[Q0];refine c4 ?_
  dsimp only
  refine bD (nC ho rfl f ?_)
  dsimp only
  have N:j<L.length:=by rw[c,ei]at i;exact i
  have O:j<es.size:=by simpa using i
  have T:L[j].1=x:=by
   have e:es.toList[j]=((sK prog w).hash L[j].1,wh L[j].1 L[j].2):=by simp[c]
   rw[e,fV,Zp]at q;exact q.symm
  have Y:(L.map (·.1)).Nodup:=d.nodup_iff.mpr m;have UI:(L.eraseIdx j).map (·.1)=(L.map (·.1)).filter λy=>d6 (y≠x):=by
   rw[<-erase_filter Y (j:=j) (by simp[N,T]),fh]
  have Qg:(NX es j).toList=(L.eraseIdx j).map (λp=>((sK prog w).hash p.1,wh p.1 p.2)):=by
   rw[eS,c,fh]
  have r:(NX es j).size=es.size - 1:=by rw[<-i2,eS,WL,Zq i,i2]
  obtain⟨d1,d2⟩:=vN t j;refine bD (eB (t':=t.drop j) (led:=led) ho Qg (by rw[UI];exact d.filter _) (List.Nodup.sublist List.filter_sublist m) (by rw[r];exact tR f O) (by rw[r];lia) (d1.trans B) (.inr (d2.trans (C.resolve_left ⋯))) λh' sb hg IH=>?_);refine bD (wpAny_point ?_);exact c4 (h b8 h' sb IH)
end
theorem yW:Full 256=b8:=by decide +kernel
section
theorem gR{es:Array (Int×et)}{a:Array Nat}(h:a.toList.Perm (ko es.size)):(a.filterMap (es[·]?)).toList.Perm es.toList:=by
 rw[Array.toList_filterMap];exact(h.filterMap _).trans (by rw[filterMap_getElem?_range])
theorem lM{L:List (Str×Tok)}(ho:s.heap.get? a=a5 {cls:=.type "set",dict:=b6,data:=.set es ep t})(n:es.toList=L.map (λp=>((sK prog w).hash p.1,wh p.1 p.2)))(o:(L.map (·.1)).Perm D)(q:D.Nodup)
  (r:t.fits es.size=b8) (u:es.size<HU) (i:t.led=led) (v:es.size=0\/t.plain=cc) (j:Ka c=m+1) (x:Full (m+1)=b8) (y:es.size<=m) (Y:m<1000)
  (h:∀h' (d:Array (Int×et)) (t':Nn) (z:Nat),t4 a s.heap h'->h'.get? a=a5 {cls:=.type "set",dict:=b6,data:=.set d z t' }->aJ prog w h' a led D->t'.fits d.size=b8->t'.mask=m->t'.dummies=#[]->t'.led=led->d.size=es.size->Q () {s with heap:=h' }) :
  eH (gs prog w) A (setRelay a c) Q E s:=by
 have B:(2000:Nat)<=dV:=by decide
 obtain⟨t',b,C,f,k,G,H,I,l⟩:=rG (mask:=m) (finger:=t.finger) (moves:=t.movedTo m) (led:=t.led) (plain:=t.plain) (hs:=es.map (·.1)) x (by rw[Py];exact y);rw[Py]at f l;have e:t.relaid (es.map (·.1)) c=a5 (t',b):=by
  unfold Sm;rw[j,Nat.add_sub_cancel];exact C
 unfold setRelay;refine bD (nC ho rfl r ?_)
 dsimp only
 rw[Zr (by rw[j];lia)];refine bD ?_;rw[e];show eH (gs prog w) A (if ((b.filterMap (es[·]?)).size != es.size)=b8 then((U' "internal:set-table-lost-an-element":Sem Unit) >>= λ_=>pure (b.filterMap (es[·]?),t')) else pure (b.filterMap (es[·]?),t')) _ E s;have g:=gR l;have hsz:(b.filterMap (es[·]?)).size=es.size:=by rw[<-i2,g.length_eq,i2]
 rw[Zr (by rw[hsz];simp)];refine c4 ?_;rw[n]at g;obtain⟨L',J,N⟩:=cT g;exact eB (led:=led) ho J ((N.map _).trans o) q (by rw[hsz];exact f) (by rw[hsz];exact u) (k.trans i) (by rw[hsz,G];exact v) λh' O T hs=>h h' _ t' _ O T hs (by rw[hsz];exact f) H I (k.trans i) hsz
theorem vO(b:5<=n)(a:n<64):∃m,Ka (2 * n)=m+1/\Full (m+1)=b8/\n<=m/\m<1000:=by
 have:∀n:_root_.Fin 64,Ka (2 * n.val)=(if n.val<4 then 8 else if n.val<8 then 16 else if n.val<16 then 32 else if n.val<32 then 64 else 128):=by decide +kernel
 have e:=this ⟨n,a⟩
 dsimp only at e
 rw[e,Zr ⋯];split
 ·exact⟨15,rfl,vJ,⋯,⋯⟩
 ·split
  ·exact⟨31,rfl,vK,⋯,⋯⟩
  ·split
   ·exact⟨63,rfl,vL,⋯,⋯⟩
   ·exact⟨127,rfl,rF,⋯,⋯⟩
theorem tS(a:n<64):∃m,Ka (L9 n)=m+1/\Full (m+1)=b8/\n<=m/\m<1000:=by
 have:∀n:_root_.Fin 64,Ka (L9 n.val)=(if n.val<2 then 8 else if n.val<4 then 16 else if n.val<8 then 32 else if n.val<16 then 64 else if n.val<32 then 128 else 256):=by decide +kernel
 have e:=this ⟨n,a⟩
 dsimp only at e
 rw[e];split
 ·exact⟨7,rfl,AE,⋯,⋯⟩
 ·split
  ·exact⟨15,rfl,vJ,⋯,⋯⟩
  ·split
   ·exact⟨31,rfl,vK,⋯,⋯⟩
   ·split
    ·exact⟨63,rfl,vL,⋯,⋯⟩
    ·split
     ·exact⟨127,rfl,rF,⋯,⋯⟩
     ·exact⟨255,rfl,yW,⋯,⋯⟩
theorem vP{a:hH}{led:Bool}{D:List Str}{Q:Unit->gj->Prop}(b:aJ prog w s.heap a led D)(r:D.length<64)(h:∀h',t4 a s.heap h'->aJ prog w h' a led D->Q () {s with heap:=h' }):
  eH (gs prog w) A (setTidy a) Q E s:=by
 have f:=b;obtain⟨L,es,ep,t,ho,c,d,g,e,i,j,k⟩:=b;have hsz:=aJ.sz (h:=s.heap) (a:=a) (led:=led) c d;unfold setTidy;refine bD (nC ho rfl e ?_)
 dsimp only
 split
 ·obtain⟨m,m1,m2,l,o⟩:=tS (n:=es.size) ⋯;exact lM ho c d g e i j k m1 m2 l o λh' _ _ _ p _ hs _ _ _ _ _=>h h' p hs
 ·have q:s={s with heap:=s.heap}:=by cases s;rfl
  refine c4 ?_;rw[q];exact h s.heap (IV a s.heap) f
theorem tT{a b:hH}{es:Array (Int×et)}{D:List Str}{Q:Unit->gj->Prop}(v:a≠b)(ho:s.heap.get? a=a5 {cls:=.type "set",dict:=b6,data:=.set #[] 0 (.fresh 0 0 (aC w))})(x:aJ prog w s.heap b (aC w) D)(IG:D.length<64)
  (h:∀h',t4 a s.heap h'->aJ prog w h' a (aC w) D->Q () {s with heap:=h' }):eH (gs prog w) A (setMerge a b) Q E s:=by
 have Mr:=x;obtain⟨L,d,UK,f,y,l,n,B,C,G,Nb,Qh⟩:=x;have hsz:=aJ.sz (h:=s.heap) (a:=b) (led:=aC w) l n;have o:(W' 0 0 (aC w)).fits (#[]:Array (Int×et)).size=b8:=rfl;unfold setMerge;rw[Zr (by simpa using v)];refine bD (nC y rfl C ?_)
 dsimp only
 split
 ·rename_i Qi;have hD:D=[]:=by
   have:d.size=0:=by simpa using Qi
   exact List.eq_nil_of_length_eq_zero ⋯
  subst hD;have p:s={s with heap:=s.heap}:=by cases s;rfl
  refine c4 ?_;rw[p];exact h s.heap (IV a s.heap) (gp ho)
 ·rename_i Hu;have Qj:d.size≠0:=λz=>Hu (by simpa using z);refine bD ?_;unfold setRoomFor;refine bD (nC ho rfl o ?_)
  dsimp only
  refine nc (Q:=λ_ s1=>∃(g:Ju) (ts:Nn) (H:Nat) (k:Array (Int×et)),s1={s with heap:=g}/\k.size=0/\t4 a s.heap g/\g.get? a=a5 {cls:=.type "set",dict:=b6,data:=.set k H ts}/\ts.fits k.size=b8/\Full (ts.mask+1)=b8/\d.size<=ts.mask/\ts.dummies=#[]/\ts.led=aC w) ?_ (λ_ s1 ⟨g,ts,H,k,e,z,i,j,I,hF,q,Qk,hl⟩=>?_) λ_ _ e=>e
  ·unfold SetTable.roomFor;by_cases h5:5<=d.size
   ·rw[Zq (by show(0+d.size) * 5 >= 7 * 3;lia)]
    dsimp only
    obtain⟨m,m1,m2,m3,m4⟩:=vO h5 ⋯;have ew:((W' 0 0 (aC w)).place.size+d.size) * 2=2 * d.size:=by show(0+d.size) * 2=_;lia
    rw[ew];exact lM (L:=[]) (D:=[]) (led:=aC w) ho rfl (L7 _) .nil o (by decide) rfl (.inl rfl) m1 m2 (by show 0<=m;lia) m4 λh' Gu t' Lk i j _ P0 J hd hl hz=>⟨h',t',Lk,Gu,rfl,hz,i,j,P0,by rw[J];exact m2,by rw[J];exact m3,hd,hl⟩
   ·rw[Zr (by show ¬(0+d.size) * 5 >= 7 * 3;lia)]
    dsimp only
    have p:s={s with heap:=s.heap}:=by cases s;rfl
    exact c4 ⟨s.heap,_,0,#[],p,rfl,IV a s.heap,ho,o,AE,by show d.size<=7;lia,rfl,rfl⟩
  ·subst e;refine bD (nC j rfl I ?_)
   dsimp only
   have Ql:ts.place.size=0:=by
    simp only[Pz,cb,beq_iff_eq]at I;lia
   have Nd:ts.road f=if ts.mask==f.mask&&f.dummies.isEmpty then .slotForSlot else .clean:=by
    unfold SetTable.road S_;rw[Ql,Qk];rfl
   have UL:g.get? b=a5 {cls:=.type "set",dict:=b6,data:=.set d UK f}:=(i.2 b (uv v)).trans y;have N:(ts.plain&&f.plain)=cc:=by rw[Qh.resolve_left Qj,Rn]
   have O:(ts.led&&f.led)=aC w:=by rw[hl,Nb,Ys]
   rw[Nd];by_cases T:(ts.mask==f.mask&&f.dummies.isEmpty)=b8
   ·rw[Zq T]
    dsimp only
    exact eB (s:={s with heap:=g}) (led:=aC w) (L':=L) (t':={f with finger:=ts.finger,led:=ts.led&&f.led,moves:=ts.moves,plain:=ts.plain&&f.plain}) j l n B C G O (.inr N) λh' r _ hs=>h h' (i.trans r) hs
   ·rw[Zr T]
    dsimp only
    obtain⟨t',c,q1,Y,q3,q4,q5,q6,q7⟩:=rG (mask:=ts.mask) (finger:=ts.finger) (moves:=ts.moves) (led:=ts.led&&f.led) (plain:=ts.plain&&f.plain) (hs:=d.map (·.1)) hF (by rw[Py];exact q);rw[Py]at Y q7;refine bD ?_;rw[q1];show eH (gs prog w) A (if ((c.filterMap (d[·]?)).size != d.size)=b8 then((U' "internal:set-table-lost-an-element":Sem Unit) >>= λ_=>pure (c.filterMap (d[·]?),t')) else pure (c.filterMap (d[·]?),t')) _ E _;have t:=gR q7;have u:(c.filterMap (d[·]?)).size=d.size:=by rw[<-i2,t.length_eq,i2]
    rw[Zr (by rw[u];simp)];refine c4 ?_;rw[l]at t;obtain⟨L',e',p'⟩:=cT t;exact eB (s:={s with heap:=g}) (led:=aC w) j e' ((p'.map _).trans n) B (by rw[u];exact Y) (by rw[u];exact G) (q3.trans O) (.inr (q4.trans N)) λh' r _ hs=>h h' (i.trans r) hs
end
section
theorem gv:∀{l:List α},(∀x∈l,∀Q':ForInStep β->gj->Prop,Q' (.yield b) s->eH M A (body x b) Q' E s)->Q b s->eH M A (Zo l b body) Q E s
 |[],_,h=>by rw[UG];exact c4 h
 |x::l,a,h=>by
  rw[Tb];exact bD (a x (by simp) _ (gv (λy c=>a y (by simp[c])) h))
theorem tU(hs:∀b∈sets,∃led D,aJ prog w s.heap b led D)(h:Q b8 s):eH (gs prog w) A (setsQuiet sets) Q E s:=by
 unfold setsQuiet;refine bD (gv (λb c Q' d=>?_) (c4 h));obtain⟨led,D,L,es,ep,t,f,g,k,l,i,m,n,o⟩:=hs b c;refine bD (Qb f rfl i ?_);rw[<-R5];refine bD (gv (λe a q j=>?_) (c4 d));rw[g]at a;obtain⟨p,_,rfl⟩:=my.mp a;exact c4 j
theorem oG(l:aJ prog w s.heap a (aC w) D)(ho:∀b∈others,∃led B,aJ prog w s.heap b led B)(m:∀r,f=a5 r->aJ prog w s.heap r (aC w) [])
  (h:∀(es:Array (Int×et)) (L:List (Str×Tok)) (h':Ju),es.toList=L.map (BU prog w)->(L.map (·.1)).Perm D->(f=b6->h'=s.heap)->(∀r,f=a5 r->t4 r s.heap h'/\aJ prog w h' r (aC w) [])->Q es {s with heap:=h' }) :
  eH (gs prog w) A (setWalkUnseen a others f) Q E s:=by
 have C:=l;obtain⟨L,es,ep,t,j,n,o,GQ,k,hb,G,H⟩:=l;have I:s={s with heap:=s.heap}:=by cases s;rfl
 have c:∀(d:Array (Int×et)),d.toList.Perm es.toList->Q d s:=λd p=>by
  rw[n]at p;obtain⟨L',J,N⟩:=cT p;rw[I];exact h d L' s.heap J ((N.map _).trans o) (λ_=>rfl) λr e=>⟨IV r s.heap,m r e⟩
 unfold setWalkUnseen;refine bD (nC j rfl k ?_)
 dsimp only
 refine bD (cq ?_);cases g:w.params.followText "set-order" with
 |true =>
  rw[Zq (by show(w.params.followText "set-order"||t.led&&t.plain||decide (es.size<=1))=b8;rw[g];rfl)];unfold setWalk;refine bD (nC j rfl k ?_)
  dsimp only
  refine bD (cq ?_);rw[Zq (by exact g)];refine bD (O9 ?_);exact c4 (c _ (dC _ _))
 |false =>
  by_cases q:es.size<=1
  ·rw[Zq (by rw[Zt q];simp)];unfold setWalk;refine bD (nC j rfl k ?_)
   dsimp only
   refine bD (cq ?_);rw[Zr (by show ¬w.params.followText "set-order"=b8;rw[g];simp)];show eH _ _ (if (!t.plain&&d6 (es.size>1))=b8 then _ else _) _ _ s;rw[Zr (by rw[Zs (show ¬es.size>1 by lia)];simp)];show eH _ _ ((if (!t.led&&d6 (es.size>1))=b8 then _ else _) >>= _) _ _ s;rw[Zr (by rw[Zs (show ¬es.size>1 by lia)];simp)];exact bD (c4 (c4 (c es (L7 _))))
  ·have O:t.plain=cc:=H.resolve_left ⋯;rw[Zr (by show ¬(w.params.followText "set-order"||t.led&&t.plain||decide (es.size<=1))=b8;rw[g,O,Zs q];simp)];refine bD (tU (λb Iw=>by
    rcases hU.mp Iw with rfl|Iw
    ·exact⟨_,_,C⟩
    ·exact ho b Iw) ?_)
   rw[Zr (by simp)];refine bD (NZ ?_);cases f with
   |none=>exact c4 (c es (L7 _))
   |some r =>
    dsimp only
    obtain⟨Lr,T,WC,i,u,v,x,Y,y,UM,Ng,UN⟩:=m r rfl;refine bD (nC u rfl y ?_)
    dsimp only
    have Ot:T.size=0:=by
     have:=aJ.sz (h:=s.heap) (a:=r) (led:=aC w) v x;simpa using this
    split
    ·refine bD (eB (t':={i with led:=i.led&&t.led,plain:=i.plain&&t.plain}) (led:=aC w) u v x Y y UM (by show(i.led&&t.led)=_;rw[Ng,G,Ys]) (.inl Ot) λh' sb _ hs=>?_);exact c4 (h es L h' n o (λz=>nomatch z) λr' e=>by cases e;exact⟨sb,hs⟩)
    ·exact c4 (c es (L7 _))
end
section
variable{prog:D3}{w:H_}{A:M0}{E:et->gj->Prop}{s:gj}
theorem iB(J:List (Str×Tok)->gj->Prop)(a:∀d p r s,d++p::r=L->J d s->∀Q':ForInStep PUnit->gj->Prop,(∀s',J (d++[p]) s'->Q' (.yield ⟨⟩) s')->eH M A (body (BU prog w p) ⟨⟩) Q' E s)(b:∀s',J L s'->Q ⟨⟩ s'):
  ∀(r d:List (Str×Tok)) (s:gj),d++r=L->J d s->eH M A (Zo (r.map (BU prog w)) ⟨⟩ body) Q E s
 |[],d,s,e,h=>by
  rw[y1]at e;subst e;rw[LS,UG];exact c4 (b s h)
 |p::r,d,s,e,h=>by
  rw[hW,Tb];exact bD (a d p r s e h _ λs' h'=>iB J a b r (d++[p]) s' (by rw[<-e];simp) h')
theorem aJ.ty(h:aJ prog w s.heap a led D):s.TypeIs (.ref a) "set":=let ⟨_,_,_,_,ho,_⟩:=h;⟨_,ho,rfl⟩
theorem fI(b:aJ prog w s.heap a led D)(h:Q b8 s):eH (gs prog w) A (Jn (.ref a)) Q E s:=by
 unfold Jn;refine bD (O5 b.ty Tq ?_);exact c4 h
theorem gS{a:hH}{led:Bool}{D:List Str}{Q:Nat->gj->Prop}(b:aJ prog w s.heap a led D)(h:Q D.length s):eH (gs prog w) A (Oe a) Q E s:=by
 obtain⟨L,es,ep,t,ho,c,d,f,e,_⟩:=b;unfold Oe;refine bD (Qb ho rfl e (c4 ?_));rw[aJ.sz (h:=s.heap) (a:=a) (led:=led) c d];exact h
theorem oH(b:aJ prog w s.heap a led D)(h:Q (.type "set") s):eH (gs prog w) A (Rx a) Q E s:=by
 unfold Rx;refine bD (O5 b.ty Tq ?_);exact c4 h
theorem rH(h:Q (.ref s.heap.objs.size) {s with heap:=s.heap.push {cls:=.type "set",dict:=b6,data:=.set #[] 0 (.fresh 0 0 (aC w))}}):eH (gs prog w) A (newSet (.type "set")) Q E s:=by
 unfold newSet Yf;refine bD (bD (O9 (c4 ?_)))
 dsimp only
 simp only[newObj];exact bD (wpAny_alloc (c4 h))
theorem vQ{a:hH}{D:List Str}{Q:et->gj->Prop}(b:aJ prog w s.heap a (aC w) D)(c:D.length<64)(h:∀h',t4 s.heap.objs.size (s.heap.push {cls:=.type "set",dict:=b6,data:=.set #[] 0 (.fresh 0 0 (aC w))}) h'->aJ prog w h' s.heap.objs.size (aC w) D->Q (.ref s.heap.objs.size) {s with heap:=h' }):
  eH (gs prog w) A (Rw a) Q E s:=by
 unfold Rw;refine bD (oH b (bD (rH ?_)));refine bD (c4 ?_);have d:s.heap.objs.size≠a:=λe=>by obtain⟨_,_,_,_,ho,_⟩:=b;exact C0 _ (e▸hV ho)
 refine bD (tT (es:=#[]) (s:={s with heap:=s.heap.push {cls:=.type "set",dict:=b6,data:=.set #[] 0 (.fresh 0 0 (aC w))}}) d (hY _ rfl) (b.at λo e=>df _ e) c λh' f hs=>?_);exact c4 (h h' f hs)
theorem jR{id:String}(ho:s.heap.get? a=a5 {cls:=.type "set",dict:=b6,data:=.set es ep t})(b:t.fits es.size=b8)(h:Q () s):eH (gs prog w) A (Ra id a ep) Q E s:=by
 unfold Ra;refine bD (Th ho rfl b ?_);rw[Zr (by simp)];exact c4 h
theorem vR{id:String}(v:a≠b)(o:aJ prog w s.heap a (aC w) g)(j:aJ prog w s.heap b (aC w) q)(B:g.length<64)(i:q.length<=g.length)
  (h:∀h',t4 a s.heap h'->aJ prog w h' a (aC w) (g.filter λx=>d6 (x∉q))->Q () {s with heap:=h' }):eH (gs prog w) A (Qp id a (.ref b)) Q E s:=by
 unfold Qp;rw[Zr (by simpa using uv v)];refine bD (fI j ?_);rw[Zq rfl];refine bD (c4 ?_);refine bD (gS j (bD (gS o ?_)));rw[Zr ⋯];obtain⟨L2,I,J,N,y,O,T,Y,z,RH,R6,UP⟩:=_root_.id j;refine bD (Th y rfl z ?_);refine bD (vl ?_);refine bD (oG j (others:=[a]) (f:=b6) (λc C=>by rw[kr.mp C];exact⟨_,_,o⟩) (λr e=>nomatch e) λes L h0 D G t _=>?_);have t:=t rfl;subst t;rw[<-R5,D];refine bD (iB (prog:=prog) (w:=w) (L:=L) (λd s'=>∃h',s'={s with heap:=h' }/\t4 a s.heap h'/\aJ prog w h' a (aC w) (g.filter λx=>d6 (x∉d.map (·.1)))) (λd p r s' ed ⟨h',u,k,l⟩ Q' H=>?_) (λs' ⟨h',u,k,l⟩=>?_) L [] _ rfl ⟨s.heap,by cases s;rfl,IV a s.heap,by rw[RZ.mpr λx _=>by simp];exact o⟩)
 ·subst u;refine bD (vl (oF (s:={s with heap:=h' }) l λb' i m n=>?_));refine bD (jR (s:={s with heap:=i}) (((k.trans m).2 b (uv v)).trans y) z ?_);refine c4 (H _ ⟨i,rfl,k.trans m,?_⟩);rw[List.filter_filter]at n;have e:(g.filter λx=>d6 (x≠p.1)&&d6 (x∉d.map (·.1)))=g.filter λx=>d6 (x∉(d++[p]).map (·.1)):=by
   refine Xv λx _=>?_;rw[L5];simp[not_or,and_comm]
  rw[<-e];exact n
 ·subst u;refine c4 ?_;have e:(g.filter λx=>d6 (x∉L.map (·.1)))=g.filter λx=>d6 (x∉q):=by
   refine Xv λx _=>?_;rw[L5];simp only[Zp];rw[G.mem_iff]
  rw[e]at l;exact vP (s:={s with heap:=h' }) l (Xs (L_ _ _) B) λi m n=>h i (k.trans m) n
theorem vS{id:String}(JY:a≠b)(l:aJ prog w s.heap a (aC w) m)(j:aJ prog w s.heap b (aC w) g)(D:m.length<64)(k:g.length<64)
  (h:∀h',(∀c o,s.heap.get? c=a5 o->h'.get? c=a5 o)->aJ prog w h' s.heap.objs.size (aC w) (m.filter λx=>d6 (x∉g))->Q (.ref s.heap.objs.size) {s with heap:=h' }):eH (gs prog w) A (ND id a (.ref b)) Q E s:=by
 have keep:∀h',t4 s.heap.objs.size (s.heap.push {cls:=.type "set",dict:=b6,data:=.set #[] 0 (.fresh 0 0 (aC w))}) h'->∀c o,s.heap.get? c=a5 o->h'.get? c=a5 o:=λh' i c o e =>
  (i.2 c (kj (hV e))).trans (df _ e)
 have G:a<s.heap.objs.size:=by obtain⟨_,_,_,_,ho,_⟩:=l;exact hV ho
 have v:b<s.heap.objs.size:=by obtain⟨_,_,_,_,ho,_⟩:=j;exact hV ho
 unfold ND
 dsimp only
 refine bD (fI j ?_);rw[Zr (by simp)];refine bD (c4 ?_);rw[Zr (by simp),Zq rfl];refine bD (gS j (bD (gS l ?_)));by_cases H:m.length / 4>g.length
 ·rw[Zq H];refine bD (NZ ?_);refine bD (vQ l D λh' i hs=>?_);refine bD (c4 ?_);refine bD (vl (vR (s:={s with heap:=h' }) (KX v) hs (j.at λo e=>keep h' i b o e) D ⋯ λk n t=>?_));exact c4 (h k (keep k (i.trans n)) t)
 ·rw[Zr H];refine bD (oH l (bD (rH ?_)));refine bD (c4 ?_);have I:=l.at (h':=s.heap.push {cls:=.type "set",dict:=b6,data:=.set #[] 0 (.fresh 0 0 (aC w))}) λo e=>df _ e;have RV:=j.at (h':=s.heap.push {cls:=.type "set",dict:=b6,data:=.set #[] 0 (.fresh 0 0 (aC w))}) λo e=>df _ e;have J:aJ prog w (s.heap.push {cls:=.type "set",dict:=b6,data:=.set #[] 0 (.fresh 0 0 (aC w))}) s.heap.objs.size (aC w) []:=gp (hY _ rfl);obtain⟨La,ea,UQ,ta,N,LJ,WH,Qo,y,WI,R9,UR⟩:=_root_.id I;refine bD (Th N rfl y ?_);refine bD (vl ?_);rw[Zq rfl];refine bD (oG (s:={s with heap:=s.heap.push {cls:=.type "set",dict:=b6,data:=.set #[] 0 (.fresh 0 0 (aC w))}}) I (others:=[b,s.heap.objs.size]) (f:=a5 s.heap.objs.size) (λc hc=>by
   rcases hU.mp hc with rfl|hc
   ·exact⟨_,_,RV⟩
   ·rw[kr.mp hc];exact⟨_,_,J⟩) (λr e=>by cases e;exact J) λes L h0 he B _ e0=>?_)
  obtain⟨US,UT⟩:=e0 _ rfl;rw[<-R5,he];have UU:L.length=m.length:=by rw[<-B.length_eq,ei]
  refine bD (iB (prog:=prog) (w:=w) (L:=L) (λd s'=>∃h',s'={s with heap:=h' }/\t4 s.heap.objs.size (s.heap.push {cls:=.type "set",dict:=b6,data:=.set #[] 0 (.fresh 0 0 (aC w))}) h'/\aJ prog w h' s.heap.objs.size (aC w) ((d.map (·.1)).filter λx=>d6 (x∉g))) (λd p r s' O ⟨h',C,i,u⟩ Q' T=>?_) (λs' ⟨h',C,i,u⟩=>?_) L [] _ rfl ⟨h0,rfl,US,UT⟩)
  ·subst C;have Y:(L.map (·.1)).Nodup:=B.nodup_iff.mpr Qo;have UW:p.1∉d.map (·.1):=λz=>by
    rw[<-O,qs,JJ]at Y;exact Y.2.2 p.1 z p.1 (by simp) rfl
   have UX:aJ prog w h' b (aC w) g:=j.at λo e=>keep h' i b o e;have R_:h'.get? a=a5 {cls:=.type "set",dict:=b6,data:=.set ea UQ ta}:=(i.2 a (kj G)).trans N;have Ov:d.length<64:=by have:=Zv Lz O;simp at this;lia
   refine bD (vl ?_);rw[Zq rfl];refine bD (oE (s:={s with heap:=h' }) UX λr hr=>?_);refine bD (c4 ?_);have em:((d++[p]).map (·.1)).filter (λx=>d6 (x∉g))=(d.map (·.1)).filter (λx=>d6 (x∉g))++if p.1∈g then [] else [p.1]:=by
    rw[qs,Xb];congr 1
    by_cases z:p.1∈g<;>simp[z]
   by_cases z:p.1∈g
   ·rw[Zr (by rw[hr,Zt z];simp)];refine c4 ?_;refine bD (jR (s:={s with heap:=h' }) R_ y ?_);refine c4 (T _ ⟨h',rfl,i,?_⟩);rw[em,Zq z,y1];exact u
   ·rw[Zq (by rw[hr,Zs z];rfl)];refine bD (jN (s:={s with heap:=h' }) u (by
     have:((d.map (·.1)).filter λx=>d6 (x∉g)).length<=d.length:=Jq (L_ _ _) (by simp);have JT:HU=4096:=rfl;lia) λk n t=>?_)
    refine c4 ?_;refine bD (jR (s:={s with heap:=k}) ((n.2 a (kj G)).trans R_) y ?_);refine c4 (T _ ⟨k,rfl,i.trans n,?_⟩);rw[em,Zr z];rw[Zr (λq=>UW (NS.mp q).1)]at t;exact t
  ·subst C;refine c4 ?_;refine c4 (h h' (keep h' i) (u.perm ?_));exact B.filter _
end
theorem la:XT table "set.__sub__"=a5 MF.«frozenset.__sub__» :=
 We (id':="frozenset.__sub__") (by kernel_rfl) rfl (by decide +kernel) (by kernel_rfl)
section
theorem jq(n:a≠b)(g:aJ prog w s.heap a (aC w) j)(i:aJ prog w s.heap b (aC w) k)(p:j.length<64)(q:k.length<64)
  (h:∀h',(∀c o,s.heap.get? c=a5 o->h'.get? c=a5 o)->aJ prog w h' s.heap.objs.size (aC w) (j.filter λx=>d6 (x∉k))->Q (.ref s.heap.objs.size) {s with heap:=h' }):eH (gs prog w) A (Nm .Sub (.ref a) (.ref b)) Q E s:=by
 refine wpAny_binaryOp_same (T:="set") g.ty i.ty PySem.F.fills_set_sub PySem.F.slot_set_sub (Nw PySem.F.slot_set_sub g.ty la ?_ (PySem.F.args_set_sub_2 _ _));unfold MF.«frozenset.__sub__»;show eH (gs prog w) _ (do
  let x <-RX "__sub__" ⟨[.ref a,.ref b],[]⟩
  match x with
  |(self,f) =>
   match if cc=b8 then(f,self) else(self,f) with
   |(l,r)=>do
    let c <-Jn l <&&> Jn r
    if (!c)=b8 then do
      YR (Rc "frozenset."++Rc "__sub__"++Rc ".declined")
      ret Value.notImplemented
     else do
      let d <-Ry l
      let e <-ND (Rc "frozenset."++Rc "__sub__") d r
      ret e) _ _ _
 refine bD (m:=RX "__sub__" ⟨[.ref a,.ref b],[]⟩) (c4 (a:=(ri a,ri b)) ?_)
 dsimp only
 refine bD (bD (fI g ?_));show eH _ _ (Jn (.ref b)) _ _ _;refine fI i ?_;rw[Zr (by simp)];refine bD (c4 ?_);refine bD (vS n g i p q λh' hk hs=>?_);exact c4 ⟨_,rfl,(λz=>by cases z),h h' hk hs⟩
end
section
theorem pW(m:X.calm=b8)(I:Inv X a σ H s)(hq:GY X.K H p (ys.map V.str)\/Hh X.K H p (ys.map V.str))(i:ys.length+1<HU)
  (h:∀(S:hH) (o:Obj) (s1:gj),s.heap.objs.size<=S->s1.heap.get? S=a5 o->aJ X.prog X.w s1.heap S (aC X.w) (aE ys)->Inv X ((S,o)::a) σ H s1->Q (.ref S) s1) :
  eH (gs X.prog X.w) X.A (Mj (.type "set") [.ref p]) Q X.xe s:=by
 have j:X.A.handled=b6:=I.ok.hd m;have f:∀(h':Ju) (c:Nat),aJ X.prog X.w h' s.heap.objs.size (aC X.w) (aE ys)->(∀b o,b<s.heap.objs.size->s.heap.get? b=a5 o->h'.get? b=a5 o)->Q (.ref s.heap.objs.size) {s with heap:=h',toks:=c}:=λh' c d k=>by
  obtain⟨L,es,ep,t,ho,r⟩:=_root_.id d;have l:Inv X a σ H {s with heap:=h',toks:=c}:=I.kept λb o e=>k b o (hV e) e;refine h _ _ _ (i3 _) ho d (l.dP λq hq=>?_);rcases hU.mp hq with rfl|hq
  ·exact⟨ho,I.Gz.fresh (i3 _),KX I.lt,I.Be (i3 _),λv z=>nomatch z⟩
  ·exact l.pin q (ro _ hq)
 rcases hq with hq|hq
 ·obtain⟨n,rv,g,hz⟩:=I.list hq;exact fg j g.isList (cp rv) i λh' c d k=>f h' c d k
 ·obtain⟨n,rv,g,hz⟩:=I.tuple hq;exact fW j g (cp rv) i λh' c d k=>f h' c d k
end
theorem pX:Pa (.type "list_reverseiterator") "__len__"=pure b6:=by rw[PQ,MV];kernel_rfl
theorem vT:Pa (.type "list_reverseiterator") "__length_hint__"=pure (a5 (.builtin "list_reverseiterator.__length_hint__")):=by rw[PQ,MV];kernel_rfl
theorem nj:MS (.type "list_reverseiterator") (.type "list_reverseiterator")=pure b8:=by rw[Im];kernel_rfl
section
variable{I:hH}{fp wr:List hH}{G:Array Wj->Array Wj->Prop}{n:Nat}{P:Nat->et->Prop}{St:Nat->gj->Prop}
theorem pY(W:Yh prog w A.in1 I fp wr G n P St)(c:∀i s,St i s->s.TypeIs (.ref I) "list_reverseiterator")(S:hH)(res:et)(j:Nat)(a:St 0 s)(h:S∉fp)(k:I∈fp)
  (l:s.heap.get? S=a5 {cls:=.type "list",data:=.seq #[] j})
  (m:∀s' d b,Moved (S::wr) G s s'->s'.heap.get? S=a5 {cls:=.type "list",dict:=b6,data:=.seq d b,slots:=#[]}->YD P d n->R (.ok (.ret res)) s') (o:n<=dV) :
  eH (gs prog w) A.in1 (u5 (.ref S) (.ref I) res)
   (λg s'=>match g with|.done f=>R (.ok f) s'|.again b=>b.quiet=b8/\OU (gs prog w) A b R s') (λe s'=>R (.error e) s') s:=by
 have p:S≠I:=λe=>h (e▸k);unfold u5;refine bD (Te (c 0 _ a) ?_);have q:MG (.ref S) (.ref I)=cc:=by simp[MG,p]
 have r:(x2 "list_reverseiterator"==x2 "list")=cc:=by decide
 have t:(x2 "list_reverseiterator"==x2 "tuple")=cc:=by decide
 simp only[q,r,t,Vg,Ji,if_false];refine bD (W.self 0 _ _ _ a ?_);refine bD (vl ?_);unfold R0;refine bD (RI (c 0 _ a) pX ?_);show eH _ A.in1 (specialOf (ri I) (Wh "__length_hint__") >>= _) _ _ _;refine bD (RI (c 0 _ a) vT ?_);have u:splitId "list_reverseiterator.__length_hint__"=a5 ("list_reverseiterator","__length_hint__"):=by decide +kernel
 dsimp only
 rw[u]
 dsimp only
 refine bD (O5 (c 0 _ a) nj ?_);rw[Zr (by decide)];rw[Zq (by decide +kernel)];rw[Zr (by decide +kernel)];refine c4 ?_;rw[Zr (by decide +kernel)];refine c4 ⟨QR PySem.F.plain_extend_loop _,XU W o _ h _ n 0 _ _ _ rfl (oT _) a l (X8 P) λs' d b v x y=>?_⟩;exact m s' d b v x y
theorem lb(W:Yh prog w A.in1 I fp wr G n P St)(p:∀i s,St i s->s.TypeIs (.ref I) "list_reverseiterator")(S:hH)(q:St 0 s)(l:S∉fp)(r:I∈fp)
  (g:s.heap.get? S=a5 {cls:=.type "list",data:=.seq #[]})
  (t:∀s' d a,Moved (S::wr) G s s'->s'.heap.get? S=a5 {cls:=.type "list",dict:=b6,data:=.seq d a,slots:=#[]}->YD P d n->R (.ok (.ret .none)) s') (u:n<=dV) :
  eH (gs prog w) A.in1 (MF.«list.__init__» ⟨[.ref S,.ref I],[]⟩)
   (λj s'=>match j with|.done f=>R (.ok f) s'|.again a=>a.quiet=b8/\OU (gs prog w) A a R s') (λe s'=>R (.error e) s') s:=by
 show eH _ A.in1 (do let k <-SH (.ref S);Y2 (.ref S) (λ_=>#[]);letGo k.toList.reverse;u5 (.ref S) (.ref I) .none) _ _ s;refine bD ?_;unfold SH;refine bD (Y6 g rfl (c4 ?_));show eH _ A.in1 (YN S (λ_=>#[]) >>= λ_=>letGo (#[]:Array et).toList.reverse >>= λ_=>u5 (.ref S) (.ref I) .none) _ _ s;refine bD (PM g rfl ?_);have v:=DD (tA (λ_=>(#[]:Array et))) g rfl;have m:∀b o,b≠S->s.heap.get? b=a5 o->(s.heap.update S (tA (λ_=>(#[]:Array et)))).get? b=a5 o :=
  λb o c e=>(LI _ _ (uv c)).trans e
 refine bD (wpAny_letGo ?_);refine pY W p S .none _ (W.frame 0 s _ s.toks q (i3 _) λb c o e=>m b o (λh=>l (h▸c)) e) l r v (λs' d a x y z=>?_) u;exact t s' d a (YC W.gtrans ((Moved.refl W.grefl).then_heap (i3 _) λb o c e=>m b o (λh=>c (h▸r6)) e) x) y z
theorem oI(W:Yh prog w A.in1.in1 I fp wr G n P St)(h:∀i s,St i s->s.TypeIs (.ref I) "list_reverseiterator")(j:St 0 s)(k:∀b∈fp,b<s.heap.objs.size)(l:I∈fp)
  (m:∀s' a c,Moved (s.heap.objs.size::wr) G {s with heap:=s.heap.push {cls:=.type "list",data:=.seq #[]}} s' ->
   s'.heap.get? s.heap.objs.size=a5 {cls:=.type "list",dict:=b6,data:=.seq a c,slots:=#[]}->YD P a n->Q (.ref s.heap.objs.size) s') (p:n<=dV) :
  eH (gs prog w) A (Mj (.type "list") [.ref I]) Q E s:=by
 have q:s.heap.objs.size∉fp:=λd=>C0 _ (k _ d);refine callType_codes (Q₁:=λobj f=>obj=.ref s.heap.objs.size/\f={s with heap:=s.heap.push {cls:=.type "list",data:=.seq #[]}}) PySem.F.called_list (PySem.F.typeCall_list_1 _) PySem.F.entry_list_init
  (code_list_new _ ⟨rfl,rfl⟩) λobj f r=>?_
 obtain⟨rfl,rfl⟩:=r;have g:(s.heap.push {cls:=.type "list",data:=.seq #[]}).get? s.heap.objs.size=a5 {cls:=.type "list",data:=.seq #[]}:=hY _ rfl;refine⟨⟨_,g,rfl⟩,PySem.F.args_list_init_2 _ _,lb W h _ (W.frame 0 s _ s.toks j (i3 _) λb _ o e=>df _ e) q l g (λs' a c d t u=>?_) p⟩;exact⟨rfl,m s' a c d t u⟩
open AutoSeq1 (wpAny_loadPart') in
end
theorem yX{a:List et}(h:YD (λi v=>a.toArray[a.toArray.size - 1 - i]?=a5 v) acc a.toArray.size):acc.toList=a.reverse:=by
 apply Xw;intro i;have hs:acc.size=a.length:=by have:=h.1;simpa using this
 by_cases c:i<a.length
 ·have b:i<acc.size:=by lia
  have:=h.2 i (acc[i]'b) (by simp[b]);rw[uk,Nf b,List.getElem?_reverse c];simpa using this.symm
 ·rw[Rb (by rw[i2];lia),Rb (by rw[RY];lia)]
section
theorem vU(j:X.calm=b8)(I:Inv X f σ H s)(k:GY X.K H a xs)
  (h:∀c,Vals xs c->xs.length<=dV->∀(R:hH) (d:Ju),R=s.heap.objs.size->d.objs.size=s.heap.objs.size+1->(∀b o,s.heap.get? b=a5 o->d.get? b=a5 o)->(∀B:M0,B.handled=X.A.handled ->
   Walks X.prog X.w B R [R,a] [R] c.toArray.size (λi v=>c.toArray[c.toArray.size - 1 - i]?=a5 v) (λi h=>i<=c.toArray.size/\h.IsRevIter R a ((c.toArray.size:Int) - 1 - (i:Int))/\h.IsList a c.toArray)) ->
   d.IsRevIter R a ((c.toArray.size:Int) - 1 - ((0:Nat):Int))->d.IsList a c.toArray->a<s.heap.objs.size->Q (.ref R) {s with heap:=d}):eH (gs X.prog X.w) X.A (Mj (.type "reversed") [.ref a]) Q X.xe s:=by
 obtain⟨c,rv,p,hz⟩:=I.list k;have g:a<s.heap.objs.size:=let ⟨o,ho,_⟩:=p.isList;hV ho;refine call_reversed_list p.isList (h c rv hz _ _ rfl (by rw[Lu]) (λb o e=>df _ e) (λB l=>Walks.listRev (by rw[l];exact I.ok.hd j) _ a (kj g) c.toArray) ?_ (p.isList.push _) g);refine⟨_,hY _ rfl,rfl,?_⟩;show WD _=WD _;congr 3
 simp
theorem vV(p:X.calm=b8)(I:Inv X c σ H s)(r:GY X.K H a xs)(q:∀l,H l=b6->Q (.ref l) (upd H l (.lst xs.reverse))):
  eH (gs X.prog X.w) X.A (Mj (.type "reversed") [.ref a]) (λv s1=>eH (gs X.prog X.w) X.A (Mj (.type "list") [v]) (EP X c σ Q) X.xe s1) X.xe s:=by
 refine vU p I r λh rv hz R d j hsz hk t u hl x=>?_;have Y:h.length=xs.length:=rv.length.symm;refine oI (s:={s with heap:=d}) (t X.A.in1.in1 rfl).toS (λi s st=>st.2.1.typeIs) ⟨oT _,u,hl⟩ (λb f=>?_) (by simp) (λs' acc k g y B=>?_) (by simp;lia)
 ·show b<d.objs.size;rw[hsz];rcases hU.mp f with z|z
  ·rw[z,j];exact Nh _
  ·rw[kr.mp z];exact Qv x
 ·obtain⟨m,C,D,G,o2⟩:=s';have J:C=s.gens:=g.gens;have L:D=s.drawn:=g.drawn;have N:o2=s.os:=g.os;subst J L N;have k2:∀b o,s.heap.get? b=a5 o->m.get? b=a5 o:=λb o e=>g.heap b o (λz=>by
   have f:=hV e;rcases hU.mp z with z|z
   ·rw[z]at f;have n:d.objs.size<s.heap.objs.size:=f;rw[hsz]at n;exact absurd n (X3 (Nh _))
   ·rw[kr.mp z,j]at e;exact absurd (hV e) (C0 _)) (df _ (hk b o e))
  have O:=yX B;refine⟨.ref d.objs.size,_,I.laid (t':=G) (o:=.lst xs.reverse) k2 (by rw[hsz];exact M7 _) ⟨by rw[RY];exact hz,h.reverse,k,rv.reverse,?_⟩,rfl,q _ (I.Gz.fresh (by rw[hsz];exact M7 _))⟩;have T:m.get? d.objs.size=a5 {cls:=.type "list",dict:=b6,data:=.seq acc k,slots:=#[]}:=y;rw[T,<-O,Wr]
end
theorem tV(l:hH)(a:Array et)(n:Nat)(b:hH)(c:Array et)(e:Nat)(dd:Option hH)(f:Array (Option et))(o:¬(!a.isEmpty&&Ko (a.size+c.size))=b8)(i:a.size<=dV)(j:a.size+c.size<=dV+1):
  Meets (MF.«list.extend» ⟨[.ref l,.ref b],[]⟩) (λ_ R s=>s.heap.get? l=a5 {cls:=.type "list",dict:=b6,data:=.seq a n,slots:=#[]}/\s.heap.get? b=a5 {cls:=.type "list",dict:=dd,data:=.seq c e,slots:=f}/\R (.ok (.ret u3)) {s with heap:=s.heap.update l (tA λx=>x++c),toks:=s.toks}) :=
 .of_wp λprog w A R s h=>by
  obtain⟨p,g,d,q,os⟩:=s;obtain⟨hl,k,h⟩:=h;have r:=WE;have t:=Ta;have u:=UD;have v:=Ub;have y:=Ui;
  have m:(a++c).size<=dV+1:=by rw[Sg];exact j
  wp_walk using(PM hl rfl (hz:=i) (_hz':=m)),Na hl,Na k;exact⟨_,rfl,h⟩
theorem tW(l:hH)(a:Array et)(n:Nat)(b:hH)(c:Array et)(e:Nat)(dd:Option hH)(f:Array (Option et))(o:¬(!a.isEmpty&&Ko (a.size+c.size))=b8)(i:a.size<=dV)(j:a.size+c.size<=dV+1):
  Meets (MF.«list.extend» ⟨[.ref l,.ref b],[]⟩) (λ_ R s=>s.heap.get? l=a5 {cls:=.type "list",dict:=b6,data:=.seq a n,slots:=#[]}/\s.heap.get? b=a5 {cls:=.type "tuple",dict:=dd,data:=.seq c e,slots:=f}/\R (.ok (.ret u3)) {s with heap:=s.heap.update l (tA λx=>x++c),toks:=s.toks}) :=
 .of_wp λprog w A R s h=>by
  obtain⟨p,g,d,q,os⟩:=s;obtain⟨hl,k,h⟩:=h;have r:=WE;have t:=Ta;have u:=UD;have v:=Ub;have y:=Ui;
  have m:(a++c).size<=dV+1:=by rw[Sg];exact j
  wp_walk using(PM hl rfl (hz:=i) (_hz':=m)),Na hl,Na k;exact⟨_,rfl,h⟩
section
theorem pZ:Lv X "list.extend" (λx vs H Q=>∃l b xs c,x=.ref l/\vs=[.ref b]/\H l=a5 (.lst xs)/\(GY X.K H b c\/Hh X.K H b c)/\xs.length+c.length<=dV/\Q .Gv (upd H l (.lst (xs++c)))):=by
 intro g s σ H x vs v us Q I B rv h;obtain⟨l,b,xs,c,rfl,rfl,y,hB,hz,q⟩:=h;cases B;obtain⟨u,rfl,C⟩:=rv.one;cases C;obtain⟨z,f,n,r,hl,e⟩:=I.pO y;have i:∀a:List et,Vals c a->EP X g σ Q u3 {s with heap:=s.heap.update l (tA λx=>x++a.toArray),toks:=s.toks}:=λa d=>by
  refine⟨.Gv,_,I.jH (its':=f++a) y e (by simp) (r.append d) ?_,rfl,q⟩;rw[l'];lia
 have o:∀a:List et,c.length=a.length->f.toArray.size+a.toArray.size<=dV:=λa h=>by rw[hQ,hQ];lia
 have A:∀a:List et,c.length=a.length->¬(!f.toArray.isEmpty&&Ko (f.toArray.size+a.toArray.size))=b8:=λa h=>by
  rw[vh (o a h),Rn];exact mu
 rcases hB with hB|hB
 ·obtain⟨a,d,p,_⟩:=I.list hB;obtain⟨⟨cls,dd,data,t⟩,ho,j,w,k⟩:=p.isList;simp only at j k;subst j k;have m:=d.length;have D:=o a m;exact Pb XY ⟨_,e,rfl⟩ XB (Xm _ _) (tV l f.toArray n b a.toArray w dd t (A a m) ⋯ ⋯) ⟨e,ho,i a d⟩
 ·obtain⟨a,d,p,_⟩:=I.tuple hB;obtain⟨⟨cls,dd,data,t⟩,ho,j,w,k⟩:=p;simp only at j k;subst j k;have m:=d.length;have D:=o a m;exact Pb XY ⟨_,e,rfl⟩ XB (Xm _ _) (tW l f.toArray n b a.toArray w dd t (A a m) ⋯ ⋯) ⟨e,ho,i a d⟩
end
end L2
namespace L2
open PySem PySem.W PyProof.Rows
section
theorem tX{vs:List (Key×et)}(hk:vs.map (·.1)=ks.map sx)(hl:acc.length=vs.length)(h:∀(j:Nat) (v:et),acc[j]?=a5 v->∃k x,vs[j]?=a5 (k,x)/\(aY P w).is k v=b8):OW acc ks:=by
 induction acc generalizing ks vs with
 |nil =>
  cases vs with
  |nil=>cases ks with
   |nil=>exact .nil
   |cons _ _=>cases hk
  |cons _ _=>cases hl
 |cons v acc b =>
  cases vs with
  |nil=>cases hl
  |cons p vs =>
   cases ks with
   |nil=>cases hk
   |cons k ks =>
    simp only[hW,Oq]at hk;obtain⟨k',x,a,c⟩:=h 0 v rfl;simp only[List.getElem?_cons_zero,Rk]at a;subst a;have d:k'=sx k:=hk.1;subst d;rcases bh (show jy (sx k) v=b8 from c) with⟨i,t,e,rfl⟩|⟨y,t,e,rfl⟩
    ·cases e
    ·cases e;exact .cons _ _ (b hk.2 (by simpa using hl) λj u f=>h (j+1) u (by simpa using f))
theorem iC:X.calm=b8->gI X (.builtin "sorted") (λxs H Q=>∃(d:hH) (kvs:List (Key×V)) (ks:List Str),xs=[.ref d]/\H d=a5 (.dK kvs)/\kvs.map (·.1)=ks.map sx/\ks.length<64/\∀q,H q=b6->Q (.ref q) (upd H q (.lst ((aL ks).map V.str)))):=by
 intro l a s σ H xs us Q I rs h;obtain⟨d,kvs,ks,rfl,e,hk,D,q⟩:=h;obtain⟨u,rfl,r⟩:=vals1 rs;cases r;obtain⟨hz,lo,vs,kv,dd⟩:=vn I.Gz e;have b:vs.length=kvs.length:=(Paired.length kv).symm;have m:kvs.length=ks.length:=by rw[<-ei (f:=(·.1)),hk,ei]
 have n:vs.map (·.1)=ks.map sx:=by
  rw[<-hk];clear dd b hk m e q hz;induction kv with
  |nil=>rfl
  |cons r _ p=>rw[hW,hW,p,r.1]
 obtain⟨o,es,ep,t⟩:=id dd;have x:(64:Nat)<=dV:=by decide
 refine eQ (kdu_collect (A:=X.A.in1) (kdl_dict (knd:=aY X.prog X.w) (kvs:=vs) (ep:=ep) lo) (I.ok.hd l) ⟨o,es,t⟩ ⋯ λh' c acc y g=>⟨ks,tX n (by rw[i2];exact g.1) (λj v z=>g.2 j v (by rw[<-uk];exact z)),by rw[i2,g.1];lia,λG B C k2 i s2=>?_⟩);have k:Inv X a σ H {s with heap:=h',toks:=c}:=I.kept (t':=c) y;exact⟨.ref h'.objs.size,_,k.laid (t':=c) (o:=.lst ((aL ks).map V.str)) k2 (i3 _) ⟨by rw[ei,cI];lia,B,C,dn s2,i⟩,rfl,q _ (k.Gz.fresh (i3 _))⟩
end
noncomputable def gw{α:Type}(lt:Nat->Nat->Bool):KasT α->α
 |.ret x=>x
 |.ask i j k=>gw lt (k (lt i j))
def HB{α:Type}(n:Nat)(P:α->Prop):KasT α->Prop
 |.ret x=>P x
 |.ask i j k=>i<n/\j<n/\∀b,HB n P (k b)
theorem HB.Ms{P:α->Prop}{Q:β->Prop}{f:α->KasT β}(a:∀x,P x->HB n Q (f x)):∀{t:KasT α},HB n P t->HB n Q (t.bind f)
 |.ret x,h=>a x h
 |.ask i j k,h=>⟨h.1,h.2.1,λb=>HB.Ms a (h.2.2 b)⟩
theorem HB.got:∀{t:KasT α},HB n P t->P (gw lt t)
 |.ret _,h=>h
 |.ask i j k,h=>HB.got (t:=k (lt i j)) (h.2.2 _)
theorem HB.wp(b:∀i j,i<n->j<n->∀C:Bool->gj->Prop,C (lt i j) s->a i j C s):
  ∀{t:KasT α},HB n P t->Q (gw lt t) s->t.kasWp a Q s
 |.ret _,_,q=>q
 |.ask i j k,h,q=>b i j h.1 h.2.1 _ (HB.wp b (t:=k (lt i j)) (h.2.2 _) q)
def Pm(n:Nat)(p:Array Nat):Prop:=p.toList.Perm (ko n)
section
variable{n:Nat}(hn:0<n)
include hn
theorem Pm.at(h:Pm n p)(i:Nat):p.getD i 0<n:=by
 by_cases a:i<p.size
 ·have:p.getD i 0=p[i]:=by simp[R4,a]
  rw[this];have b:p[i]∈p.toList:=by simp
  exact HW.mp (h.mem_iff.mp b)
 ·have:p.getD i 0=0:=by simp[R4,a]
  rw[this];exact hn
omit hn in
theorem Pm.rev(h:Pm n p)(i j:Nat):Pm n (kas_rev p i j):=(mirror_perm p i j _).toList.trans h
omit hn in
theorem Pm.U1(h:Pm n p)(i j:Nat):Pm n (bubble p i j):=(bubble_perm p i j).toList.trans h
theorem p_(h:Pm n p):∀(f m:Nat),HB n (λ_=>True) (kas_asc p f m)
 |0,m=>trivial
 |f+1,m=>⟨h.at hn _,h.at hn _,λb=>by
  cases b
  ·exact p_ h f (m+1)
  ·exact trivial⟩
theorem jr:∀(f:Nat) (p:Array Nat) (m q:Nat),Pm n p->HB n (λr=>Pm n r.1) (kas_desc f p m q)
 |0,p,m,q,h=>h
 |f+1,p,m,q,h=>⟨h.at hn _,h.at hn _,λb=>by
  cases b
  ·exact⟨h.at hn _,h.at hn _,λb=>by
    cases b
    ·exact jr f p (m+1) (q+1) h
    ·exact h⟩
  ·show HB n _ (if q>0 then _ else _);split
   ·exact jr f _ _ _ (h.rev _ _)
   ·exact jr f _ _ _ h⟩
theorem rJ(h:Pm n p)(m r:Nat):HB n (λx=>Pm n x.2) (kas_tail3 m r p):=by
 unfold kas_tail3;refine HB.Ms (λx _=>?_) (p_ hn (h.rev _ _) _ _);exact h.rev _ _
theorem rK(h:Pm n p)(m r:Nat):HB n (λx=>Pm n x.2) (kas_descPart m r p):=by
 unfold kas_descPart;refine HB.Ms (λx a=>?_) (jr hn _ _ _ _ h);split
 ·exact rJ hn (a.rev _ _) _ _
 ·exact rJ hn a _ _
theorem vW(h:Pm n p)(r:Nat):HB n (λx=>Pm n x.2) (kas_count r p):=by
 unfold kas_count;refine HB.Ms (λm _=>?_) (p_ hn h _ _);split
 ·exact h
 ·split
  ·exact⟨h.at hn _,h.at hn _,λb=>by
    cases b
    ·exact rK hn (h.rev _ _) _ _
    ·exact h⟩
  ·exact rK hn h _ _
theorem jS(h:Pm n p)(k:Nat):∀(f l r:Nat),HB n (λ_=>True) (kas_place p k f l r)
 |0,l,r=>trivial
 |f+1,l,r=>by
  unfold kas_place;split
  ·exact trivial
  ·exact⟨h.at hn _,h.at hn _,λb=>by
    cases b
    ·exact jS h k f _ _
    ·exact jS h k f _ _⟩
theorem vX:∀(f:Nat) (p:Array Nat) (k:Nat),Pm n p->HB n (Pm n) (kas_bin f p k)
 |0,p,k,h=>h
 |f+1,p,k,h=>HB.Ms (λl _=>vX f _ _ (h.U1 _ _)) (jS hn h _ _ _ _)
theorem rL:HB n (Pm n) (MM n):=by
 unfold MM;refine HB.Ms (λx a=>?_) (vW hn (p:=List.toArray (ko n)) (by unfold Pm;simp) n);split
 ·exact vX hn _ _ _ a
 ·exact a
end
theorem jT(lt:Nat->Nat->Bool)(n:Nat):(gw lt (MM n)).toList.Perm (ko n):=by
 cases n with
 |zero=>exact L7 _
 |succ n=>exact(rL (Wm n)).got
section
theorem tY(ho:s.heap.get? a=a5 (Hq "list" vs.toArray n))(l:vs.length<64)
  (m:2<=vs.length->∀s1:gj,(∀b o,b≠a->s.heap.get? b=a5 o->s1.heap.get? b=a5 o)->eH (gs prog w) A (keyKind' vs.toArray) (λκ s'=>s'=s1/\∀i j,i<vs.length->j<vs.length->∀C:Bool->gj->Prop,C (lt i j) s1->Yy prog w A κ vs i j C s1) (λ_ _=>False) s1)
  (h:P (.done (.ret .none)) {s with heap:=Yl s.heap a vs (((gw lt (MM vs.length)).toList.map λi=>vs.getD i u3).toArray)}) :
  eH (gs prog w) A (MF.«list.sort» ⟨[.ref a],[]⟩) P E s:=by
 have N:a<s.heap.objs.size:=hV ho;have u:(64:Nat)<=dV:=by decide
 rw[list_sort_plain];refine bD (Xp ho rfl (bD (S0 ho rfl ?_ (by rw[hQ];lia) (oT _))));obtain⟨k,q⟩:∃k,(s.heap.update a (tA λ_=>(#[]:Array et))).get? a=a5 (Hq "list" #[] k):=⟨_,Y3 ho λ_=>#[]⟩
 refine bD (X2 q rfl (bD (wpAny_newTuple (bD (WV (vl ?_) (oT _))) (by show vs.length<=_;lia))));have d:(((s.heap.update a (tA λ_=>(#[]:Array et))).push (Hq "tuple" vs.toArray 0)).push (Hq "list" #[] 0)).get? a=a5 (Hq "list" #[] k):=df _ (df _ q);have f:∀b o,b≠a->s.heap.get? b=a5 o->(((s.heap.update a (tA λ_=>(#[]:Array et))).push (Hq "tuple" vs.toArray 0)).push (Hq "list" #[] 0)).get? b=a5 o:=λb o y e =>
  df _ (df _ (by rw[Nk _ _ _ _ y];exact e))
 show eH (gs prog w) A _ P E {s with heap:=((s.heap.update a (tA λ_=>(#[]:Array et))).push (Hq "tuple" vs.toArray 0)).push (Hq "list" #[] 0)}
 dsimp only
 have r:((gw lt (MM vs.length)).toList.map λi=>vs.getD i u3).length=vs.length:=by rw[ei,(jT lt _).length_eq,G9]
 by_cases c:vs.toArray.size<2
 ·rw[Zq c,Zq c];refine bD (c4 ?_);rw[StateT.run_pure];refine bD (c4 ?_);have z:((gw lt (MM vs.length)).toList.map λi=>vs.getD i u3).toArray=(vs.toArray.zip vs.toArray).map (·.2):=by
   have g:=jT lt vs.length;clear h m r f d ho l
   match vs,c,g with
   |[],_,g=>rw[show(gw lt (MM ([]:List et).length)).toList=[] from List.perm_nil.mp g];simp
   |[v],_,g=>rw[show(gw lt (MM [v].length)).toList=[0] from List.perm_singleton.mp g];simp
   |_::_::_,c,_=>simp at c;lia
  rw[z]at h
  dsimp only
  refine bD (X2 d rfl (bD (S0 d rfl ?_ (oT _) (by rw[Py];show(pairsOf vs).size<=_;rw[pairsOf_size];lia))));simp only[bne_self_eq_false,Ji,if_false];exact c4 h
 ·rw[Zr c,Zr c];have t:2<=vs.length:=by rw[hQ]at c;lia
  refine bD (nc (m t _ f) (λκ O hk=>?_) λ_ _ x=>x.elim);obtain⟨rfl,hk⟩:=hk;refine bD (nc (kat_run (κ:=κ) (ks:=vs) (vs:=vs) (G:=λp s'=>p=gw lt (MM vs.length)/\s'={s with heap:=((s.heap.update a (tA λ_=>(#[]:Array et))).push (Hq "tuple" vs.toArray 0)).push (Hq "list" #[] 0)})
   (Q:=λst' s'=>∃p:Array Nat,arrOf st'=p.map (kas_item (vs.toArray.zip vs.toArray))/\failedOf st'=b6/\p=gw lt (MM vs.length)/\s'={s with heap:=((s.heap.update a (tA λ_=>(#[]:Array et))).push (Hq "tuple" vs.toArray 0)).push (Hq "list" #[] 0)})
   rfl t l (λp st' s' T B D H=>⟨p,B,D,H⟩) (HB.wp hk (rL ⋯) ⟨rfl,rfl⟩)) ?_ λ_ _ e=>e)
  rintro⟨⟨⟩,st'⟩ s' ⟨p,I,J,rfl,rfl⟩
  dsimp only
  have L:=kat_snds rfl I;rw[L,J];refine bD (X2 d rfl (bD (S0 d rfl ?_ (oT _) (by rw[hQ,r];lia))));simp only[bne_self_eq_false,Ji,if_false];exact c4 h
end
abbrev yY:=Str×Int
noncomputable def K1(ks:List Str)(i j:Nat):Bool:=d6 ((ks.getD i zy).cps.toList<(ks.getD j zy).cps.toList)
noncomputable def jU(ks:List Str):List Nat:=(gw (K1 ks) (MM ks.length)).toList
theorem iD(ks:List Str):(jU ks).Perm (ko ks.length):=jT _ _
noncomputable def DZ(x:Str)(n:Int)(t u:Tok):Obj:={cls:=.type "tuple",data:=.seq #[.str x t,.int n u]}
def eX(h:Ju)(as:List hH)(b:List yY):Prop:=as.length=b.length/\∀(j:Nat) (a:hH),as[j]?=a5 a->∃p t u,b[j]?=a5 p/\h.get? a=a5 (DZ p.1 p.2 t u)
theorem eX.keeps(x:eX h as c)(k:∀b o,b∈as->h.get? b=a5 o->h'.get? b=a5 o):eX h' as c :=
 ⟨x.1,λj a e=>let ⟨p,t,u,d,f⟩:=x.2 j a e;⟨p,t,u,d,k a _ (HC e) f⟩⟩
theorem eX.tail(x:eX h (a::as) (p::c)):eX h as c :=
 ⟨by have:=x.1;simpa using this,λj b e=>by
  obtain⟨q,t,u,d,f⟩:=x.2 (j+1) b (by simpa using e);exact⟨q,t,u,by simpa using d,f⟩⟩
theorem eX.fi:∀{as:List hH}{c:List yY},eX h as c->∃b:List et,KatTups h (as.map ri) b/\b.length=as.length/\∀v∈b,∃x t,v=wh x t
 |[],_,_=>⟨[],KatTups.nil,rfl,by simp⟩
 |a::as,[],x=>by have:=x.1;simp at this
 |a::as,p::c,x=>by
  obtain⟨b,d,e,f⟩:=eX.fi x.tail;obtain⟨q,t,u,i,g⟩:=x.2 0 a rfl;refine⟨.str q.1 t::b,KatTups.cons g rfl rfl rfl d,by simp[e],λv hv=>?_⟩;rcases hU.mp hv with rfl|hv
  ·exact⟨_,_,rfl⟩
  ·exact f v hv
theorem lN:∀{l:List α}{m:List β}{i:Nat}{x:α},Paired F l m->l[i]?=a5 x->∃y,m[i]?=a5 y/\F x y
 |_,_,_,_,.nil,e=>by simp at e
 |_,_,0,_,.cons r _,e=>by simp at e;subst e;exact⟨_,rfl,r⟩
 |_,_,i+1,x,.cons _ t,e=>by
  obtain⟨u,a,b⟩:=lN (i:=i) (x:=x) t (by simpa using e);exact⟨u,by simpa using a,b⟩
section
theorem BV(x:eX s.heap as a)(k:(a.map (·.1)).Nodup)(f:i<as.length)(g:j<as.length)(q:C (K1 (a.map (·.1)) i j) s):
  Yy prog w A (tuples' b8) (as.map ri) i j C s:=by
 obtain⟨p,t,u,e,l⟩:=x.2 i as[i] (by simp[f]);obtain⟨c,t',u',d,m⟩:=x.2 j as[j] (by simp[g]);have hl:=x.1;have n:i<a.length:=by lia
 have o:j<a.length:=by lia
 have r:(as.map ri).getD i u3=.ref as[i]:=by simp[Ou,f]
 have v:(as.map ri).getD j u3=.ref as[j]:=by simp[Ou,g]
 have y:(a.map (·.1)).getD i zy=p.1:=by simp[Ou,e]
 have z:(a.map (·.1)).getD j zy=c.1:=by simp[Ou,d]
 unfold Yy;rw[r,v];refine kat_lt (b:=b8) l rfl m rfl ?_;unfold K1 at q;rw[y,z]at q;show KatLex prog w A b8 (d6 (2<2)) C [(.str p.1 t,.str c.1 t'),(.int p.2 u,.int c.2 u')] 0 s;refine kat_cons (YK ?_);by_cases h:p.1=c.1
 ·have B:i=j:=by
   have D:(a.map (·.1))[i]'(by simpa using n)=(a.map (·.1))[j]'(by simpa using o):=by
    obtain⟨_,G⟩:=ez.mp e;obtain⟨_,H⟩:=ez.mp d;simp[G,H,h]
   exact(XH k).mp D
  subst B;rw[e]at d;cases d;rw[Zt rfl];refine kat_yes (kat_cons (YL ?_));rw[show(p.2==p.2)=b8 by simp];refine kat_yes (kat_nil ?_);have:d6 (p.1.cps.toList<p.1.cps.toList)=cc:=Zs (List.lt_irrefl _);rw[this]at q;exact q
 ·rw[Zs h];exact kat_no (oneLt_str q)
theorem BW(x:eX s.heap as a)(d:(a.map (·.1)).Nodup)(h:2<=as.length):
  eH (gs prog w) A (keyKind' (as.map ri).toArray) (λκ s'=>s'=s/\∀i j,i<(as.map ri).length->j<(as.map ri).length->∀C:Bool->gj->Prop,C (K1 (a.map (·.1)) i j) s->Yy prog w A κ (as.map ri) i j C s) (λ_ _=>False) s:=by
 obtain⟨k,e,l,f⟩:=x.fi;refine kat_kind (T:=.type "str") e ⋯ (λv g=>?_) rfl ⟨rfl,λi j b c C q=>?_⟩
 ·obtain⟨y,t,rfl⟩:=f v g;exact Looks.of_pure rfl
 ·rw[ei]at b c;exact BV x d b c q
end
noncomputable def jg(H:Hp):List (hH×List V)->Hp
 |[]=>H
 |(a,vs)::r=>upd (jg H r) a (.tup vs)
theorem jV:∀{l:List (hH×List V)}{b:hH}{o:HO},jg H l b=a5 o->(∃vs,(b,vs)∈l/\o=.tup vs)\/H b=a5 o
 |[],b,o,h=>.inr h
 |(a,vs)::r,b,o,h=>by
  by_cases c:b=a
  ·subst c;rw[jg,aw]at h;cases h;exact .inl ⟨vs,by simp,rfl⟩
  ·rw[jg,au c]at h;rcases jV h with⟨ws,d,e⟩|q
   ·exact .inl ⟨ws,by simp[d],e⟩
   ·exact .inr q
theorem jW:∀{l:List (hH×List V)}{b:hH},(∀p∈l,p.1≠b)->jg H l b=H b
 |[],b,_=>rfl
 |(a,vs)::r,b,h=>by
  rw[jg,au (uv (h _ r6))];exact jW λp c=>h p (by simp[c])
theorem rM:∀{l:List (hH×List V)}{b:hH}{vs:List V},(l.map (·.1)).Nodup->(b,vs)∈l->jg H l b=a5 (.tup vs)
 |(a,ws)::r,b,vs,d,h=>by
  have c:a∉r.map (·.1)/\(r.map (·.1)).Nodup:=by simpa using d
  rcases hU.mp h with h|h
  ·cases h;exact aw
  ·have:b≠a:=λz=>c.1 (by rw[<-z];exact my.mpr ⟨_,h,rfl⟩);rw[jg,au this];exact rM c.2 h
section
theorem Inv.many(I:Inv X a σ H s)(k:∀b u,s.heap.get? b=a5 u->h'.get? b=a5 u)(d:∀b o,H b=a5 o->H' b=a5 o)
  (f:∀b o,H' b=a5 o->H b=a5 o\/(s.heap.objs.size<=b/\bN X.prog X.w H' h' b o)):Inv X a σ H' {s with heap:=h',toks:=t' }:=by
 refine I.un ⟨λb u q _ _ _=>k b u q,λb u q _ _ _=>⟨u.slots,k b u q⟩,λb u q n _=>?_,λb u q _=>⟨u,k b u q⟩,λb xs q=>d b _ q,λb u xs q=>d b _ q,λb g q=>⟨#[],by rw[d b _ q];simp⟩⟩ λb o e=>?_
 ·cases e:H' b with
  |none=>rfl
  |some o =>
   rcases f b o e with z|⟨z,_⟩
   ·rw[n]at z;cases z
   ·exact absurd (lg (hV q) z) (C0 _)
 ·rcases f b o e with z|⟨_,z⟩
  ·exact(I.Gz b o z).gh (λc v _ q=>k c v q) (λc q=>d c _ q) λc xs q=>d c _ q
  ·exact z
noncomputable def Kf(p:yY):List V:=[.str p.1,.int p.2]
theorem nq{c:List yY}(hc:X.calm=b8)(I:Inv X n σ H s)(e:H d=a5 (.dK (c.map λp=>((sx p.1:Key),V.int p.2))))(GQ:(c.map (·.1)).Nodup)(IG:c.length<64)
  (q:∀(as:List hH) (L:hH),as.length=c.length->as.Nodup->(∀a∈L::as,H a=b6)->L∉as->Q (.ref L) (upd (jg H (as.zip (c.map Kf))) L (.lst ((jU (c.map (·.1))).map λi=>V.ref (as.getD i 0))))) :
  eH (gs X.prog X.w) X.A (Mj (.builtin "dict.items") [.ref d]) (λv s1=>eH (gs X.prog X.w) X.A (Mj (.builtin "sorted") [v]) (EP X n σ Q) X.xe s1) X.xe s:=by
 have ab:(64:Nat)<=dV:=by decide
 obtain⟨hz,lo,vs,kv,dd⟩:=vn I.Gz e;have D:vs.length=c.length:=by
  have:=Paired.length kv;simpa using this.symm
 obtain⟨o,es,ep,B⟩:=id dd;refine Xg PySem.F.slot_dict_items (show s.TypeIs (.ref d) "dict" from⟨o,B.1,B.2.1.1⟩) PySem.F.entry_dict_items (PySem.F.args_dict_items_1 _) (meets_dict_items (aY X.prog X.w) d lo) ⟨⟨vs,dd⟩,?_⟩;show eH (gs X.prog X.w) X.A (Mj (.builtin "sorted") [.ref s.heap.objs.size]) (EP X n σ Q) X.xe {s with heap:=s.heap.push {cls:=.type "dict_items",data:=.fields #[.ref d]}};have k1:∀b u,s.heap.get? b=a5 u->(s.heap.push {cls:=.type "dict_items",data:=.fields #[.ref d]}).get? b=a5 u:=λb u z=>df _ z;have WJ:(s.heap.push {cls:=.type "dict_items",data:=.fields #[.ref d]}).DictOf (aY X.prog X.w) d vs:=⟨o,es,ep,k1 _ _ B.1,B.2⟩
 have JG:(s.heap.push {cls:=.type "dict_items",data:=.fields #[.ref d]}).DictAt (aY X.prog X.w) d vs ep:=⟨o,es,k1 _ _ B.1,B.2⟩
 refine UC kind_sorted plain_sorted entry_sorted (args_sorted1 _) ?_;unfold MF.«sorted»;refine bD (m:=checkCount "sorted" 1 1 _) (c4 ?_);refine bD (kdx_collect (A:=X.A.in1) (knd:=aY X.prog X.w) (kvs:=vs) (ep:=ep) (I.ok.hd hc) ⟨_,hY _ rfl,rfl,rfl⟩ JG ⋯ λf tk as hk hl G=>?_);have J:as.length=c.length:=hl.trans D;have g:∀a∈as,s.heap.objs.size<=a:=λa ha=>by
  have:=G.above a ha;have z:(s.heap.push {cls:=.type "dict_items",data:=.fields #[.ref d]}).objs.size=s.heap.objs.size+1:=Lu ..;have Sd:(s.heap.push {cls:=.type "dict_items",data:=.fields #[.ref d]}).objs.size<a:=this;lia
 have pa:eX f as c:=⟨J,λj a ea=>by
  obtain⟨key,k,x,O,T,e3⟩:=G.pairs j a ea;have C:j<c.length:=by rw[<-J];exact(ez.mp ea).1
  obtain⟨y,ey,r1,r2⟩:=lN kv (i:=j) (x:=((sx c[j].1:Key),V.int c[j].2)) (by simp[C]);rw[O]at ey;cases ey;obtain⟨tx,rfl⟩:∃t,x=.int c[j].2 t:=r2;have U4:k=sx c[j].1:=r1.symm;subst U4;obtain⟨t,rfl⟩:=Wu (x:=c[j].1) (v:=key) T;exact⟨c[j],t,tx,by simp[C],e3⟩⟩
 have nd:as.Nodup:=G.rise.imp λh=>kj h;refine bD (WV ?_ (by rw[ei];lia));have Y:(f.push (Hq "list" (as.map ri).toArray 0)).get? f.objs.size=a5 (Hq "list" (as.map ri).toArray 0):=hY _ rfl;show eH _ _ _ _ _ {s with heap:=f.push (Hq "list" (as.map ri).toArray 0),toks:=tk};have Se:∀a∈as,a<f.objs.size:=λa ha=>G.there ha;refine bD (vl (Nw Zk ⟨_,Y,rfl⟩ Y4 (tY (lt:=K1 (c.map (·.1))) Y (by rw[ei];lia) (λh2 s1 ks=>?_) ⟨_,rfl,?_⟩) (Zm _)))
 ·refine BW (pa.keeps λb o N z=>ks b o (kj (Se b N)) (df _ z)) GQ (by rw[ei]at h2;exact h2)
 ·obtain⟨ee,he⟩:=sortedHeap_at (out:=((gw (K1 (c.map (·.1))) (MM (as.map ri).length)).toList.map λi=>(as.map ri).getD i u3).toArray) Y;have r:∀b o,f.get? b=a5 o->(Yl (f.push (Hq "list" (as.map ri).toArray 0)) f.objs.size (as.map ri) ((gw (K1 (c.map (·.1))) (MM (as.map ri).length)).toList.map λi=>(as.map ri).getD i u3).toArray).get? b=a5 o:=λb o z=>by
   have GW:b<f.objs.size:=hV z;rw[Zj (kj GW) (by rw[Lu];exact Qv GW)];exact df _ z
  have LB:s.heap.objs.size<=f.objs.size:=Ni (hV (hk _ _ (hY _ rfl)));have eP:((gw (K1 (c.map (·.1))) (MM (as.map ri).length)).toList)=jU (c.map (·.1)):=by
   unfold jU;rw[ei,ei,J]
  have Mt:H f.objs.size=b6:=I.Gz.fresh LB;have U5:f.objs.size∉as:=λz=>C0 _ (Se _ z);have Sf:∀a∈as,H a=b6:=λa ha=>I.Gz.fresh (g a ha);have Qr:∀{b:hH} {ws:List V},(b,ws)∈as.zip (c.map Kf)->b∈as:=λz=>(O3 z).1;refine c4 ⟨_,rfl,.ref f.objs.size,upd (jg H (as.zip (c.map Kf))) f.objs.size (.lst ((jU (c.map (·.1))).map λi=>V.ref (as.getD i 0))),?_,rfl,q as _ J nd (λa ha=>?_) U5⟩
  ·refine I.many (λb u z=>r b u (hk b u (k1 b u z))) (λb o z=>?_) λb o z=>?_
   ·have n1:b≠f.objs.size:=λy=>by rw[y,Mt]at z;cases z
    rw[au n1,jW λp hp y=>?_]
    ·exact z
    ·have:=Sf p.1 (Qr (b:=p.1) (ws:=p.2) hp);rw[y,z]at this;cases this
   ·by_cases N:b=f.objs.size
    ·subst N;rw[aw]at z;cases z;refine .inr ⟨LB,by rw[ei,(iD _).length_eq,G9,ei];lia,(jU (c.map (·.1))).map λi=>(as.map ri).getD i u3,ee,?_,?_⟩
     ·have IU:∀i∈jU (c.map (·.1)),i<as.length:=λi hi=>by
       have:=HW.mp ((iD _).mem_iff.mp hi);rw[ei]at this;lia
      generalize jU (c.map (·.1))=l at IU;induction l with
      |nil=>exact .nil
      |cons i l ih =>
       refine .cons ?_ (ih λj C=>IU j (by simp[C]));have hi:=IU i (by simp);show RelV (.ref (as.getD i 0)) ((as.map ri).getD i u3);have:(as.map ri).getD i u3=.ref (as.getD i 0):=by simp[Ou,hi]
       rw[this];rfl
     ·rw[<-eP];exact he
    ·rw[au N]at z;rcases jV z with⟨ws,z1,rfl⟩|z1
     ·obtain⟨j,C,ej⟩:=WG.mp z1;have Qs:j<as.length:=by simp at C;lia
      have Qq:j<c.length:=by lia
      have U6:as[j]=b/\Kf c[j]=ws:=by simpa using ej
      obtain⟨rfl,rfl⟩:=U6;obtain⟨p,t,u,O,T⟩:=pa.2 j as[j] (by simp[Qs]);have:p=c[j]:=by simpa[Qq] using O.symm
      subst this;exact .inr ⟨g _ (by simp),by show 2<=dV;lia,[.str c[j].1 t,.int c[j].2 u],.cons ⟨t,rfl⟩ (.cons ⟨u,rfl⟩ .nil),_,r _ _ T,rfl,0,rfl⟩
     ·exact .inl z1
  ·rcases hU.mp ha with rfl|ha
   ·exact Mt
   ·exact Sf a ha
end
end L2
namespace L2
open PySem PySem.Spec PyProof.Rows
theorem nu:∀{bs:List Bool}{us:List et},Vals (bs.map V.bl) us->us=bs.map MR
 |[],_,.nil=>rfl
 |_::_,_,.cons r t=>by rw[show _=MR _ from r,nu t];rfl
noncomputable def vY(b:Bool):et->Bool
 |.bool c=>c==b
 |_=>cc
section
def BX:V->List V->Hp->VK->Prop:=λx vs H Q=>∃(l:hH) (bs:List Bool) (b:Bool),x=.ref l/\vs=[.bl b]/\H l=a5 (.lst (bs.map V.bl))/\Q (.int (bs.count b:Nat)) H
theorem vZ:Lv X "list.count" BX:=by
 intro a s σ H x vs v us Q I d rv h;obtain⟨l,bs,b,rfl,rfl,f,q⟩:=h;cases d;obtain⟨u,rfl,g⟩:=rv.one;cases g;obtain⟨z,j,n,r,hl,e⟩:=I.pO f;obtain rfl:=nu r;refine Pb F.slot_list_count ⟨_,e,rfl⟩ F.entry_list_count (F.args_list_count_2 _ _) (SeqAt.list_countAt l _ n b6 #[] (.bool b) (vY b)) ⟨e,λy i=>?_,?_⟩
 ·obtain⟨c,_,rfl⟩:=my.mp (XC.mp i);exact Uv c b
 ·have:(bs.map MR).countP (vY b)=bs.count b:=by rw[List.countP_map];rfl
  exact⟨.int (bs.count b:Nat),H,I.tok _,⟨s.toks,by rw[<-this]⟩,q⟩
def BY:V->List V->Hp->VK->Prop:=λx vs H Q=>∃(l:hH) (bs:List Bool) (b:Bool) (j:Nat),x=.ref l/\vs=[.bl b]/\H l=a5 (.lst (bs.map V.bl))/\bs[j]?=a5 b/\(∀m,m<j->bs[m]?≠a5 b)/\Q (.int j) H
theorem v3:Lv X "list.index" BY:=by
 intro a s σ H x vs v us Q I d rv h;obtain⟨l,bs,b,j,rfl,rfl,f,g,i,q⟩:=h;cases d;obtain⟨u,rfl,k⟩:=rv.one;cases k;obtain⟨z,C,n,r,hl,e⟩:=I.pO f;obtain rfl:=nu r;obtain⟨o,p⟩:=ez.mp g;have hz:dV<2 ^ 62:=by decide
 rw[ei]at z;refine Pb F.slot_list_index ⟨_,e,rfl⟩ F.entry_list_index (F.args_list_index_2 _ _) (SeqAt.list_indexAt l _ n b6 #[] (.bool b) (vY b) j (by simpa using o) ⋯ (by simp[vY,p]) (λm t w=>?_)) ⟨e,λy A=>?_,?_⟩
 ·have B:m<bs.length:=by simpa using t
  have:=i m w;rw[ve B]at this;simp only[List.getElem_toArray,XG,vY];rw[Zw];exact λz=>this (by rw[z])
 ·obtain⟨c,_,rfl⟩:=my.mp (XC.mp A);exact Uv c b
 ·exact⟨.int j,H,I.tok _,⟨_,rfl⟩,q⟩
end
end L2
namespace L2
open PySem PyProof.Rows PySem.W
def F9(h:Ju)(e C:hH)(a0:et)(T:Option hH)(c:et):Prop:=∃a vs,h.get? e=a5 a/\a.cls=.ref C/\a.data=.fields vs/\vs[0]?=a5 a0/\match T with
 |none=>vs[1]?=a5 .none
 |some T=>T≠e/\vs[1]?=a5 (.ref T)/\∃b ts,h.get? T=a5 b/\b.data=.fields ts/\ts[3]?=a5 c
structure bA(P:D3)(w:H_)(stack:List Env)(H:Hp)(s:gj)(e C:hH)(T:Option hH)(fl:et)(H':Hp)(s':gj):Prop where
 os:s'.os=s.os
 bare:QQ s'.gens
 un:Un (G3 stack) [] H H' s.heap s'.heap
 Gz:Ho P w H' s'.heap
 new:s.heap.get? e=b6
 he:H' e=b6
 exc:∃a0,F9 s'.heap e C a0 T fl
 hT:∀a,T=a5 a->s.heap.get? a=b6/\H' a=b6
noncomputable def K2(P:D3)(w:H_):Lq:=λouter H s E v s'=>∃e C T H',v=.ref e/\bA P w outer H s e C (a5 T) .none H' s'/\E (.ref C) b6 H'
theorem bN.there(x:bN P w H h a o):∃u,h.get? a=a5 u:=by
 cases o with
 |lst xs=>obtain⟨_,_,_,_,e⟩:=x;exact⟨_,e⟩
 |tup xs=>obtain⟨_,_,_,_,e,_⟩:=x;exact⟨_,e⟩
 |set S n=>obtain⟨o,_,_,_,e,_⟩:=x;exact⟨_,e⟩
 |ins C c b=>obtain⟨_,_,_,e,_⟩:=x;exact⟨_,e⟩
 |own y=>exact x
 |xd b=>obtain⟨_,⟨_,_,_,e,_⟩,_⟩:=x;exact⟨_,e⟩
 |N6 lo d=>obtain⟨_,_,_,e⟩:=x;exact⟨_,e⟩
 |Ia g u=>exact⟨_,x.1⟩
 |KH i=>exact⟨_,x⟩
 |met f y=>exact⟨_,x⟩
 |ext φ=>exact x.2.1
 |_=>obtain⟨_,_,_,_,o,_,_,e,_⟩:=x;exact⟨_,e⟩
section
variable{P:D3}{w:H_}{stack outer:List Env}{H H':Hp}{s s':gj}{e C L:hH}{T:Option hH}{fl:et}{base:Ju}{env:Env}{M:Model}{A:M0}{E:et->gj->Prop}{Q:Unit->gj->Prop}
theorem rN(u:Un (G3 stack) [] H H' s.heap s'.heap)(a:∀b∈G3 stack,H b=b6):∀l:List Env,(∀b∈G3 l,b∈G3 stack)->s.heap.FunFrames base l->s'.heap.FunFrames base l
 |[],_,_=>trivial
 |env::l,hs,⟨hk,⟨L,o,c,d,ho,f⟩,g⟩=>by
  have h:G3 (env::l)=L::G3 l:=by unfold G3;rw[H8,c]
  rw[h]at hs;obtain⟨j,q⟩:=u.any ho (a L (hs L r6)) λz=>nomatch z
  exact⟨hk,⟨L,_,c,d,q,f⟩,rN u a l (λb i=>hs b (mA _ i)) g⟩
theorem bA.next(F:bA P w stack H s e C T fl H' s')(l:s.heap.FunFrames base stack)(m:∀b∈G3 stack,H b=b6)(I:B=hideAll s'.heap (e::(T.toList++G3 stack))):
  B.StaysIn s'.heap/\s'.heap.FunFrames B stack/\B.get? e=b6/\(∀a,T=a5 a->B.get? a=b6) /\
   ∀h' i,B.StaysIn h'->h'.FunFrames B stack->h'.TracedAtW B e (.ref C) a0 i->s'.heap.UpToSlots h'->∃c,bA P w stack H s e C (a5 c) i H' {s' with heap:=h' }:=by
 have p:=rN F.un m _ (λ_ z=>z) l;subst I;refine⟨λb o q=>of_hideAll _ q,funFrames_hide p λJ N a O=>mA _ (ro _ (Kr.mpr ⟨J,N,O⟩)),hideAll_none _ r6,λa z=>hideAll_none _ (mA _ (O0 _ (by simp[z]))),λh' i k1 k2 ⟨Y,Hj,c,U8,JI,b1,⟨b2,b0⟩,b3,b4,b5,r,t,v,b9⟩ k4=>?_⟩;have U9:∀a,a∈e::(T.toList++G3 stack)->H' a=b6:=λa ha=>by
  rcases hU.mp ha with rfl|ha
  ·exact F.he
  rcases qd.mp ha with ha|ha
  ·exact(F.hT a (by simpa using ha)).2
  ·obtain⟨_,o,ho,_⟩:=l.mem ha;exact F.un.free a o ho (m a ha) λz=>nomatch z
 have keep:∀b o,b∉e::(T.toList++G3 stack)->s'.heap.get? b=a5 o->h'.get? b=a5 o:=λb o hb q=>k1 b o (hideAll_get _ q hb);have slot:∀b o,b∈G3 stack->s'.heap.get? b=a5 o->∃x,h'.get? b=a5 {o with slots:=x}:=λb o hb q=>by
  obtain⟨_,j,d,k⟩:=p.mem hb;rw[q]at d;cases d;exact k4 b o q k
 have y:∀b o,s.heap.get? b=a5 o->b∉G3 stack->b∉e::(T.toList++G3 stack):=λb o q hb z=>by
  rcases hU.mp z with z|z
  ·rw[z,F.new]at q;cases q
  rcases qd.mp z with z|z
  ·rw[(F.hT b (by simpa using z)).1]at q;cases q
  ·exact hb z
 have tn:s.heap.get? c=b6/\H' c=b6:=by
  by_cases z:c∈e::(T.toList++G3 stack)
  ·rcases hU.mp z with z|z
   ·exact absurd z r
   rcases qd.mp z with z|z
   ·exact F.hT c (by simpa using z)
   ·obtain⟨_,j,d,k⟩:=k2.mem z;rw[t]at d;cases d;exact absurd v (k _)
  ·have q:s'.heap.get? c=b6:=by
    cases q:s'.heap.get? c with
    |none=>rfl
    |some o=>have:=hideAll_get _ q z;rw[b5]at this;cases this
   refine⟨?_,?_⟩
   ·cases f:s.heap.get? c with
    |none=>rfl
    |some o=>obtain⟨j,D⟩:=F.un.there _ o f λz=>nomatch z;rw[q]at D;cases D
   ·cases f:H' c with
    |none=>rfl
    |some u =>
     obtain⟨o,z⟩:=(F.Gz c u f).there;rw[q]at z;cases z
 refine⟨c,F.os,F.bare,⟨λb o q n hb g=>keep b o (y b o q hb) (F.un.keep b o q n hb g),λb o q n hb g=>?_,F.un.free,λb o q g=>?_,F.un.fi,F.un.Hm,F.un.Hr⟩,λa u q=>(F.Gz a u q).gh (λb o hb d=>?_) (λ_ z=>z) λ_ _ z=>z,F.new,F.he,⟨_,Y,Hj,b1,b2,b3,b0,r,b4,U8,JI,t,v,b9⟩,λa z=>by cases z;exact tn⟩
 ·obtain⟨x,h⟩:=F.un.slot b o q n hb g;obtain⟨G,f⟩:=slot b _ hb h;exact⟨G,f⟩
 ·obtain⟨j,h⟩:=F.un.there b o q g;by_cases hb:b∈G3 stack
  ·obtain⟨G,f⟩:=slot b _ hb h;exact⟨_,f⟩
  ·exact⟨_,keep b _ (y b o q hb) h⟩
 ·refine keep b o (λz=>?_) d;have:=U9 b z;rcases hb with rfl|hb
  ·rw[q]at this;cases this
  ·rw[hb]at this;cases this
theorem bA.leave(F:bA P w (env::outer) H s e C T .none H' s')(c:A.frames=a5 (env::outer))(d:env.frame=a5 L)(q:s.heap.FunFrames base (env::outer))(r:∀b∈G3 (env::outer),H b=b6)
  (h:∀f g,bA P w (env::outer) H s e C (a5 f) .none H' g->Q () g):eH M A (leaving env (.ref e)) Q E s':=by
 obtain⟨a0,t,vs,i,j,k,l,m⟩:=F.exc;obtain⟨B,u⟩:∃B,B=hideAll s'.heap (e::(T.toList++G3 (env::outer))):=⟨_,rfl⟩
 obtain⟨n,o,p,v,x⟩:=F.next (a0:=a0) q r u;have a:∀h',Heap.LeftW B (env::outer) e (.ref C) a0 s'.heap h'->Q () {s' with heap:=h' }:=λh' y=>by
  obtain⟨k1,k2,k3,D⟩:=y;obtain⟨f,z⟩:=x h' .none k1 k2 k3 D;exact h _ _ z
 cases T with
 |none=>exact wpAny_leaving_firstW c o d i n p k m l λh' z=>a h' (j▸z)
 |some T =>
  obtain⟨G,I,J,ts,N,O,Y⟩:=m;exact wpAny_leaving_nextW c o d ⟨t,vs,T,J,ts,i,⟨j,l⟩,k,I,v T rfl,G,N,O,Y⟩ n p a
theorem bA.note{T:hH}(F:bA P w (env::outer) H s e C (a5 T) .none H' s')(d:A.frames=a5 (env::outer))(f:env.frame=a5 L)(g:s.heap.FunFrames base (env::outer))(i:∀b∈G3 (env::outer),H b=b6)
  (h:∀a c,bA P w (env::outer) H s e C (a5 a) (G2 L) H' c->Q () c):eH M A (noteFrame (.ref e) env) Q E s':=by
 obtain⟨a0,j,vs,k,l,m,n,o,p,q,ts,r,t,u⟩:=F.exc;obtain⟨v,x,y,B,D⟩:=F.next (a0:=a0) g i rfl;refine wpAny_noteFrame_onW d x f ⟨j,vs,T,q,ts,k,⟨l,n⟩,m,p,B T rfl,o,r,t,u⟩ v y λh' G=>?_;obtain⟨k1,k2,k3,I⟩:=G;obtain⟨a,z⟩:=D h' _ k1 k2 k3 I;exact h _ _ z
theorem bA.land{T:hH}(F:bA P w stack H s e C (a5 T) fl H' s')(d:s.heap.FunFrames base stack)(f:∀b∈G3 stack,H b=b6)
  (h:∀a c,bA P w stack H s e C (a5 a) .none H' c->Q () c):eH M A (setFlight (.ref e) b6) Q E s':=by
 obtain⟨a0,g,vs,i,j,k,l,m,p,r,ts,t,u,v⟩:=F.exc;obtain⟨x,y,I,B,D⟩:=F.next (a0:=a0) d f rfl;refine wpAny_setFlight_noneW x y ⟨g,vs,T,r,ts,i,⟨j,l⟩,k,p,B T rfl,m,t,u,v⟩ λh' k1 k2 k3 G=>?_;obtain⟨a,z⟩:=D h' _ k1 k2 k3 λb o q n=>⟨o.slots,G b o q n⟩
 exact h _ _ z
end
section
theorem bA.down(I:Inv X j σ H s)(l:X.ex=[])(hs:X.stack=X.env::X.outer)(m:X.env.frame=a5 X.env.locals)(F:bA X.prog X.w X.stack H s e C T p H' s'):bA X.prog X.w X.outer X.H₀ X.s₀ e C T p H' s':=by
 have nx:∀b:hH,b∉X.ex:=λb z=>by rw[l]at z;cases z
 have k:G3 X.stack=X.env.locals::G3 X.outer:=by rw[hs];unfold G3;rw[H8,m]
 have c:∀b,s.heap.get? b=b6->X.s₀.heap.get? b=b6:=λb q=>by
  cases z:X.s₀.heap.get? b with
  |none=>rfl
  |some o=>obtain⟨g,z⟩:=I.base.there b o z (nx b);rw[q]at z;cases z
 have hl:∀b o,X.s₀.heap.get? b=a5 o->b≠X.env.locals:=λb o q=>kj (lg (hV q) I.ok.above);have h:∀b:hH,b∉([]:List hH):=λb z=>nomatch z
 refine⟨F.os.trans I.os,F.bare,⟨λb o q n f _=>?_,λb o q n f _=>?_,λb o q n _=>?_,λb o q _=>?_,λb xs q=>F.un.fi b xs (I.base.fi b xs q),λb o u q=>F.un.Hm b o u (I.base.Hm b o u q),λb r q=>?_⟩,F.Gz,c _ F.new,F.he,F.exc,λa z=>⟨c _ (F.hT a z).1,(F.hT a z).2⟩⟩
 ·exact F.un.keep b o (I.base.keep b o q n f (nx b)) (I.base.free b o q n (nx b)) (λz=>by rw[k]at z;exact(hU.mp z).elim (hl b o q) f) (h b)
 ·obtain⟨v,d⟩:=I.base.slot b o q n f (nx b);obtain⟨t,i⟩:=F.un.slot b _ d (I.base.free b o q n (nx b)) (by rw[k];exact mA _ f) (h b);exact⟨t,i⟩
 ·obtain⟨g,d⟩:=I.base.there b o q (nx b);exact F.un.free b g d (I.base.free b o q n (nx b)) (h b)
 ·obtain⟨g,d⟩:=I.base.there b o q (nx b);exact F.un.there b g d (h b)
 ·obtain⟨m1,d⟩:=I.base.Hr b r q;obtain⟨m2,i⟩:=F.un.Hr b _ d;exact⟨m1++m2,by rw[i,W6]⟩
theorem bA.made(I:Inv X c σ H s)(b:Heap.MadeExcOf s.heap h' e (.ref C) vs):bA X.prog X.w X.stack H s e C b6 .none H {s with heap:=h' }:=by
 obtain⟨t,d,_⟩:=b.there;refine⟨rfl,I.bare,Un.kept b.keeps,I.Gz.kept b.keeps,b.new,?_,⟨_,_,_,d,rfl,rfl,rfl,rfl⟩,λa z=>nomatch z⟩;cases z:H e with
 |none=>rfl
 |some u=>obtain⟨o,q⟩:=(I.Gz e u z).there;rw[b.new]at q;cases q
noncomputable def Mu:List et:=[.type "ValueError",.type "Exception",.type "BaseException",.type "object"]
theorem BZ{K:Frag}(b:K.In h)(q:excIn K C Mu a=b8):∃c N nm d bs hdct sn sub ab col dd k0 k1 k2 k3 k5 f,h.get? C=a5 (excClassObj nm d C N bs c hdct sn sub ab col dd k0 k1 k2 k3 k5 a)/\h.Ns N f/\f "__init__"=b6/\OwnTail h Mu c:=by
 unfold excIn at q;split at q
 ·rename_i dd k m ho;split at q
  ·rename_i s c k0 k1 k2 k3 n k5 g hs;simp only[cb,beq_iff_eq,va]at q;obtain⟨⟨⟨⟨⟨rfl,rfl⟩,i⟩,o⟩,e⟩,j⟩:=q;obtain⟨nm,bs,mro,ns,d,p,sn,sub,ab,col,r⟩:=k
   dsimp only at g i e j
   subst g i;obtain⟨l⟩:=m;obtain rfl:l=_:=hs;exact⟨c,ns,nm,d,bs,p,sn,sub,ab,col,dd,k0,k1,k2,k3,k5,_,b _ _ ho,.of_isNs (isNs_of_in b e),nsMap_none_of_in b e j,tail_of_in b o⟩
  ·cases q
 ·cases q
theorem v5(i:X.calm=b8)(j:Gl X x)(f:X.mg x=a5 (.ref C))(k:(x==("__debug__":Str))=cc)(l:excIn X.K C Mu "ValueError.__new__"=b8)(m:PE X a n)
  (g:ke [a] X.env=[(cc,GV a X.env)]) :
  PS X (.Raise (a5 (.Call (.Name x p) [a] [] A)) b6 pos) (λD σ H=>n σ H λv d=>∀b s e s',Inv X b σ d s->bA X.prog X.w X.stack d s e C b6 .none d s'->X.xe (.ref e) s'):=by
 intro b s σ H D I h;obtain⟨B,N,nm,o,bs,hdct,sn,sub,ab,col,dd,k0,k1,k2,k3,k5,G,r,t,y,T⟩:=BZ I.mod.Li l;refine wpAny_Raise_call_subT (nm:=nm) (q:=o) (N:=N) (bs:=bs) (hdct:=hdct) (sn:=sn) (sub:=sub) (ab:=ab) (col:=col) (dd:=dd) (k0:=k0) (k1:=k1) (k2:=k2) (k3:=k3) (k5:=k5) Xl (T.hasType Xl.hasBase) (I.ok.hd i) (by rw[g];rfl) y (dk I j f ⟨rfl,?_⟩ k);rw[g];refine KN (Lx (GC (m b s σ H _ I h) λu s1 ⟨v,d,c,J,z⟩=>NW ⟨rfl,?_,c.bk _ _ r,t.keeps c.bk,T.keeps c.bk,λh' e f=>z b s1 e _ c (.made c f)⟩));exact(by decide:1<=dV)
theorem D0:Passes (K2 X.prog X.w) X E0:=λ_ _ _ _ _ _ _ ⟨_,_,_,_,_,_,h⟩=>h.elim
theorem jt(F:gJ X.prog X.w X.K X.mg X.base CX k f g c sp)(i:eM k X.A)(j:Binds X.K g c [])(I:Inv X a σ H s)(r:Vals vs us)(h:sp vs H Q E)
  (l:∀e s',CX X.stack H s E e s'->EE e s'):eH (gs X.prog X.w) X.A (Mj (.ref f) us) (EP X a σ Q) EE s:=by
 have hl:us.length=c.length:=by rw[<-r.length];exact F.len _ _ _ _ h
 have d:=j s us I.Jh (by rw[y1];exact hl);rw[y1]at d;refine Yd (Qm (F.run X.A X.stack s H ⟨us,[]⟩ us vs Q E i I.DP d r h) λr s' b=>?_);cases r with
 |error e=>exact l e s' b
 |ok m =>
  cases m with
  |ret u=>exact I.after b
  |_=>exact LF b
end
theorem B0{K:Frag}(b:K.In s.heap)(c:s.heap.get? e=a5 f)(i:f.cls=.ref C)(hk:(kitCls K (.ref C) (.ref D)==a5 b8&&C != D)=b8)(h:Q (.bool b8) s):
  eH (gs prog w) A (Mj (.builtin "isinstance") [.ref e,.ref D]) Q E s:=by
 refine P7 (S:=λ_ R s=>(K.In s.heap/\s.heap.get? e=a5 f)/\R (.ok (.ret (.bool b8))) s) (λprog w A R s hs=>isinstance_outer ?_ λz=>nomatch z) ⟨⟨b,c⟩,h⟩;obtain⟨j,g,d,o,os⟩:=s;obtain⟨⟨b,c⟩,a⟩:=hs;rw[cb,beq_iff_eq,bne_iff_ne]at hk;obtain⟨hk,k⟩:=hk;have LT:W_ (gs prog w) j (UJ (.ref e)) (.ref C):=by
  refine(Wg c).andThen ?_;rw[i];exact .now
 obtain⟨l,m,n⟩:=kit_cls (M:=gs prog w) b hk;unfold MF.«isinstance.nested»;refine bD (LT.at ?_);rw[Zr (by simp;exact k)];refine bD (l.at ?_);rw[Zq (by decide)]
 k_delta "plainIsInstance"
 refine bD (bD (m.at ?_));simp only[VD,Ji,if_false];refine bD ((LT.andThen n).at ?_)
 first
  |exact c4 (c4 a)
  |(simp only[if_true];first|exact c4 (c4 a)|exact c4 a|exact bD (c4 (c4 a)))
abbrev Cx.H0(X:Cx)(e:hH)(a:Obj)(E:et->gj->Prop):Cx:={X with A:=X.A.mark (a5 (.ref e)),calm:=cc,pn:=(e,a)::X.pn,xe:=E}
section
theorem Inv.H0(I:Inv X a σ H s)(c:s.heap.get? e=a5 b)(d:H e=b6)(f:e≠X.env.locals)(g:e∉X.fs)(h:∀v,b.data≠.cell v):Inv (X.H0 e b E) a σ H s :=
 ⟨⟨I.ok.mod,I.ok.kind,I.ok.glob,I.ok.blt,I.ok.above,I.ok.inj,I.ok.has,I.ok.Mc,λz=>(nomatch z),I.ok.frames,I.ok.MK,I.ok.OY,I.ok.bs,I.ok.Kl,I.ok.Js,I.ok.JM,I.ok.je,I.ok.Lj⟩,I.os,I.bare,I.base,I.loc,I.cell,I.free,I.GP,
  λp i=>(hU.mp (show p∈(e,b)::(X.pn++a) from i)).elim (λz=>by subst z;exact⟨c,d,f,g,h⟩) λz=>I.pin p z,I.Gz,I.len⟩
theorem Inv.D4(b:X.Ok)(I:Inv (X.H0 e d E) a σ H s):Inv X a σ H s :=
 ⟨b,I.os,I.bare,I.base,I.loc,I.cell,I.free,I.GP,λp c=>I.pin p (mA _ c),I.Gz,I.len⟩
theorem Inv.gone(I:Inv X f σ H s)(D:X.N.Nodup)(w:X.N[j]?=a5 n)(hl:X.env.scope.names.lookup n=a5 .local)
  (h:∀s',Inv X f (σ.set j b6) H s'->Q () s'):eH M A (do bindName X.env n .none;unbindBehindTheSuite X.env n pos) Q E s:=by
 obtain⟨m,G,J⟩:=id I.loc;have L:(X.env.scope.kind==.class||(X.env.scope.kind==.module&&X.env.locals != X.env.globals))=cc:=by rw[I.ok.kind];rfl
 refine wpAny_nameGoes_keeps hl G L λh' v O hs=>h _ ?_;have x:=I.JN;have T:j < σ.length:=by rw[I.len];exact(ez.mp w).1
 have ne:∀b o,X.s₀.heap.get? b=a5 o->b≠X.env.locals:=λb o q=>kj (lg (hV q) I.ok.above);refine⟨I.ok,I.os,I.bare,⟨λb o e n t g=>(hs.2 b (ne b o e)).trans (I.base.keep b o e n t g),λb o e n t g=>?_,I.base.free,λb o e g=>?_,I.base.fi,I.base.Hm,I.base.Hr⟩,⟨_,O,λi y u B k Y=>?_⟩,λy c e=>?_,I.free,I.GP,λp hp=>?_,λb ob e=>(I.Gz b ob e).gh (λc w' hc q=>(hs.2 c ?_).trans q) (λ_ q=>q) λ_ _ q=>q,by simpa using I.len⟩
 ·obtain⟨sl,q⟩:=I.base.slot b o e n t g;exact⟨sl,(hs.2 b (ne b o e)).trans q⟩
 ·obtain⟨o',q⟩:=I.base.there b o e g;exact⟨o',(hs.2 b (ne b o e)).trans q⟩
 ·have C:i≠j:=λz=>by subst z;rw[fx T]at k;cases k
  rw[i0 (uv C)]at k;obtain⟨u',r,l⟩:=J i y u B k Y;refine⟨u',r,l.imp (λ⟨a,b⟩=>⟨a,?_⟩) λ⟨a,c,b,d⟩=>⟨a,c,b,d.sameBut hs (x y c b)⟩⟩;show(if y=n then v else m y)=a5 u';rw[Zr λ(z:y=n)=>C (gG D B (by rw[z];exact w))];exact b
 ·obtain⟨u,z⟩:=I.cell y c e;exact⟨u,z.sameBut hs (x y c e)⟩
 ·obtain⟨a,b,c,d⟩:=I.pin p hp;exact⟨(hs.2 p.1 c).trans a,b,c,d⟩
 ·rintro rfl;rcases hc with hc|hc
  ·rw[<-hc,I.free]at e;cases e
  ·rw[I.free]at hc;cases hc
end
section
variable{prog:D3}{w:H_}{A:M0}{E:et->gj->Prop}{h:Ju}{g:Array Wj}{d:Drawn}{t:Nat}{os:OsState}{a C:hH}{o:Obj}{K:Frag}
theorem oJ(e:K.In h)(hs:Zd K (.ref C) (.type "object")=a5 b8)(b:h.get? a=a5 o)(c:o.cls=.ref C)(j:R (.ok (.ret (.ref C))) ⟨h,g,d,t,os⟩):
  OU (gs prog w) A (.call (.builtin "getset_descriptor.__get__") ⟨[.builtin "object.__class__",.ref a,.ref C],[]⟩) R ⟨h,g,d,t,os⟩:=by
 have f:(⟨h,g,d,t,os⟩:gj).TypeIs (.builtin "object.__class__") "getset_descriptor":=Rv;have i:W_ (gs prog w) h (MS (.ref C) (.type (".".intercalate ("object.__class__".cutAt '.').dropLast))) b8:=by rw[F.owner_object_class];exact looks_subIn e hs
 refine Sa Wk.plain F.entry_gs_get (Wk.check _ _ _ _ _ _ _ _ f (F.args_gs_get _ _ _) ?_)
 repeat (any_goals (first|assumption|(with_reducible refine OM b ?_;rw[c])|with_reducible refine i.at ?_|wp_step))
 refine⟨R7 _ (by decide +kernel),Kb F.entry_object_class ?_⟩
 repeat (any_goals (first|assumption|(with_reducible refine OM b ?_;rw[c])|wp_step))
theorem lh(b:K.In h)(hs:Zd K (.ref C) (.type "object")=a5 b8)(f:Zf K (.ref C) "__class__"=a5 (a5 (.builtin "object.__class__")))(c:h.get? a=a5 o)(e:o.cls=.ref C)(j:Q (.done (.ret (.ref C))) ⟨h,g,d,t,os⟩):
  eH (gs prog w) A (MF.«object.__getattribute__» ⟨[.ref a,.str "__class__" k],[]⟩) Q E ⟨h,g,d,t,os⟩:=by
 have l:(⟨h,g,d,t,os⟩:gj).TypeIs (.builtin "object.__class__") "getset_descriptor":=Rv;have i:W_ (gs prog w) h (Pa (.ref C) "__class__") (a5 (.builtin "object.__class__")):=Xh b f;have m:=Rv;have n:=Wk.lookup;have p:=F.slot_gs_set.lookup
 repeat (any_goals (first|assumption|(with_reducible refine OM c ?_;rw[e])|with_reducible refine i.at ?_|wp_step))
 refine oJ b hs c e ?_
 repeat (any_goals (first|assumption|wp_step))
theorem qa(b:K.In h)(hs:Zd K (.ref C) (.type "BaseException")=a5 b8)(c:h.get? a=a5 o)(e:o.cls=.ref C)(f:Q () ⟨h,g,d,t,os⟩):eH M A (U0 "BaseException.__getattribute__" ⟨[.ref a,i],[]⟩) Q E ⟨h,g,d,t,os⟩:=by
 have hk:builtinKind "BaseException.__getattribute__"=a5 .slot:=by decide +kernel
 have j:splitId "BaseException.__getattribute__"=a5 ("BaseException","__getattribute__"):=by decide +kernel
 have k:W_ M h (MS (.ref C) (.type "BaseException")) b8:=looks_subIn b hs;have l:=F.args_bexc_ga (.ref a) i;simp only[U0,hk,j];refine bD ?_
 ·unfold isInstance
  repeat (first|(with_reducible refine OM c ?_;rw[e])|with_reducible refine k.at ?_|wp_step)
  exact f
noncomputable def fj(K:Frag)(C:hH):Bool:=Zd K (.ref C) (.type "object")==a5 b8&&Zd K (.ref C) (.type "BaseException")==a5 b8&&Zf K (.ref C) "__class__"==a5 (a5 (.builtin "object.__class__"))&&Zf K (.ref C) "__getattribute__"==a5 (a5 (.builtin "BaseException.__getattribute__"))&&Zf K (.ref C) "__getattr__"==a5 b6&&(clsIn K C).isSome
theorem qb(b:K.In h)(f:fj K C=b8)(c:h.get? a=a5 o)(e:o.cls=.ref C)(k:Q (.ref C) ⟨h,g,d,t,os⟩):eH (gs prog w) A (getAttrBy (.ref a) (.str "__class__" l) cc) Q E ⟨h,g,d,t,os⟩:=by
 simp only[fj,cb,beq_iff_eq]at f;obtain⟨⟨⟨⟨⟨o1,o2⟩,o3⟩,o4⟩,o5⟩,_⟩:=f;have m:=X9.ga.bind (.ref a);have n:(cc&&onTheHeap (Qn "BaseException.__getattribute__"))=cc:=rfl;have i:(Qn "BaseException.__getattribute__"==Qn "object.__getattribute__")=cc:=by decide +kernel
 have p:(onTheHeap (ri C)&&Qn "BaseException.__getattribute__"==Qn "object.__getattribute__")=cc:=by rw[i];rfl
 have j:W_ (gs prog w) h (Pa (.ref C) "__getattribute__") (a5 (.builtin "BaseException.__getattribute__")):=Xh b o4;have L2:W_ (gs prog w) h (Pa (.ref C) "__getattr__") b6:=Xh b o5
 repeat (any_goals (first|assumption|(with_reducible refine OM c ?_;rw[e])|with_reducible refine j.at ?_|with_reducible refine L2.at ?_|wp_step))
 refine Sa X9.ga.plain F.entry_bexc_ga (qa b o2 c e (lh b o1 o3 c e ?_))
 repeat (any_goals (first|assumption|wp_step))
theorem nv(b:K.In h)(c:fj K C=b8)(e:h.get? a=a5 o)(f:o.cls=.ref C)(i:Q (a5 (.ref C)) ⟨h,g,d,t+1,os⟩):eH (gs prog w) A (getAttr? (.ref a) "__class__") Q E ⟨h,g,d,t,os⟩:=by
 unfold getAttr? getAttrBy?
 repeat (any_goals (first|assumption|with_reducible apply qb b c e f|wp_step))
end
theorem v7{K:Frag}(b:fj K C=b8):KitX K (.ref a) (.ref C) (λh=>∃o,h.get? a=a5 o/\o.cls=.ref C) where
 ty:=λM h _ j=>by
  obtain⟨o,f,i⟩:=j;refine(Wg f).andThen ?_;rw[i];exact .now
 it:=λM h c _ A Q E s k q=>by
  simp only[fj,cb]at b;have z:=b.2;unfold clsIn at z;split at z
  ·rename_i ho;unfold isType loadHead;exact bD (wpAny_loadPart (k _ _ (c _ _ ho)) (c4 q))
  ·cases z
 ne:=λh l dd m n p c e=>by
  simp only[fj,cb]at b;have z:=b.2;unfold clsIn at z;split at z
  ·rename_i ho;rw[Zw];intro q;cases q;have:=c _ _ ho;rw[e]at this;cases this
  ·cases z
 ca:=λ{_ _ _ _ _ s} c ⟨o,f,i⟩ q=>by
  obtain⟨h,g,d,t,os⟩:=s;exact nv c b f i q
theorem Inv.D5(I:Inv X d σ H s)(f:s.heap.get? e=a5 g)(i:H e=b6)(j:X.s₀.heap.get? e=b6)(k:e≠X.env.locals)(l:∀x c,X.env.cells.lookup x=a5 c->c≠e)(r:∀p∈X.pn++d,p.1≠e):
  Inv X d σ (upd H e (.Ia g (.ext λ_=>True))) s:=by
 have ne:∀b o,H b=a5 o->b≠e:=λb o q=>a9 q i;refine⟨I.ok,I.os,I.bare,⟨I.base.keep,I.base.slot,λb o q n t=>?_,I.base.there,λb xs q=>?_,λb o u q=>?_,λb v q=>?_⟩,I.loc,I.cell,?_,λx c q=>?_,λp h=>?_,λb u q=>?_,I.len⟩
 ·rw[au (λz=>by rw[z,j]at q;cases q)];exact I.base.free b o q n t
 ·have:=I.base.fi b xs q;rw[au (ne b _ this)];exact this
 ·have:=I.base.Hm b o u q;rw[au (ne b _ this)];exact this
 ·obtain⟨m,q⟩:=I.base.Hr b v q;exact⟨m,by rw[au (ne b _ q)];exact q⟩
 ·rw[au (uv k)];exact I.free
 ·rw[au (l x c q)];exact I.GP x c q
 ·obtain⟨a,b,c⟩:=I.pin p h;exact⟨a,by rw[au (r p h)];exact b,c⟩
 ·by_cases z:b=e
  ·subst z;rw[aw]at q;cases q;exact⟨f,trivial,⟨g,f⟩,λ_ _ _ _=>trivial⟩
  ·rw[au z]at q;exact(I.Gz b u q).gh (λ_ _ _ q=>q) (λc q=>by rw[au (ne c _ q)];exact q) λc xs q=>by rw[au (ne c _ q)];exact q
end L2
namespace TM
open PySem L2
inductive U where
 |Gv|bl (b:Bool)|int (i:Int)|str (x:Str)
 |tup (xs:List U)|lst (xs:List U)
 |GD (ks:List Str) (vs:List U)
 |exc (c:Str)
mutual
noncomputable def G5:U->Bool
 |.tup xs=>cG xs
 |.lst _=>cc
 |.GD _ _=>cc
 |.exc _=>b8
 |.Gv=>b8|.bl _=>b8|.int _=>b8|.str _=>b8
noncomputable def cG:List U->Bool
 |[]=>b8
 |u::us=>G5 u&&cG us
end
inductive Kd where|own|io|loc|any|bor (j:Nat)|Gq
deriving DecidableEq
noncomputable def Kd.root:Kd->Bool
 |.own=>b8
 |.io=>b8
 |_=>cc
abbrev ax:=List (Option (Kd×U))
structure Ct where
 P:D3
 w:H_
 K:PySem.W.Frag
 H₀:Hp
 IY:hH->Prop
 IO:hH->Prop
 xw:U->Hp->Prop
def KL(K:PySem.W.Frag)(a:hH)(xs:List V):Prop :=
 ∃(o:Obj) (b:Array et) (n:Nat),K.lookup a=a5 o/\o.cls=.type "list"/\o.dict=b6/\o.data=.seq b n/\b.size<=dV/\Vals xs b.toList
def Nq(K:PySem.W.Frag)(S:hH->Prop)(H:Hp)(a:hH)(vs:List V):Prop:=(S a/\Rd H a (.lst vs))\/KL K a vs
theorem Nq.sq(h:Nq K S H a vs):GY K H a vs:=h.elim (λz=>.inl z.2) .inr
def K3(H:Hp)(R:List V->Prop)(a:hH)(ks:List Str):Prop:=∃kvs:List (Key×V),H a=a5 (.dK kvs)/\kvs.map (·.1)=ks.map sx/\R (kvs.map (·.2))
def F_(K:PySem.W.Frag)(H:Hp)(a:hH)(c:Str):Prop:=∃o C,H a=a5 (.Ia o (.ext λ_=>True))/\o.cls=.ref C/\PySem.W.nsIn K l0 c=a5 (a5 (.ref C))
section
variable(C:Ct)(S:hH->Prop)(H:Hp)
mutual
def Rep:U->V->Prop
 |.Gv,v=>v=.Gv
 |.bl b,v=>v=.bl b
 |.int i,v=>v=.int i
 |.str x,v=>v=.str x
 |.tup us,v=>∃a vs,v=.ref a/\Hh C.K H a vs/\aq us vs
 |.lst us,v=>∃a vs,v=.ref a/\Nq C.K S H a vs/\aq us vs
 |.GD ks us,v=>∃a,v=.ref a/\S a/\K3 H (aq us) a ks
 |.exc c,v=>∃a,v=.ref a/\F_ C.K H a c
def aq:List U->List V->Prop
 |[],vs=>vs=[]
 |u::us,vs=>∃v r,vs=v::r/\Rep u v/\aq us r
end
end
def Tp:HO->Prop
 |.tup _=>True
 |.Ia _ (.tup _)=>True
 |.Ia _ (.ext _)=>True
 |_=>False
structure Mv(S:hH->Prop)(H:Hp)(S':hH->Prop)(H':Hp):Prop where
 sub:∀a,S a->S' a
 Mw:∀a o,H a=a5 o->Tp o->H' a=a5 o
 Qw:∀a o,S a->H a=a5 o->H' a=a5 o
theorem Mv.Va(m:Mv S H S' H')(h:Hh K H a vs):Hh K H' a vs:=by
 rcases h with(h|⟨o,h⟩)|h
 ·exact .inl (.inl (m.Mw a _ h trivial))
 ·exact .inl (.inr ⟨o,m.Mw a _ h trivial⟩)
 ·exact .inr h
theorem Mv.Vb(m:Mv S H S' H')(h:Nq K S H a vs):Nq K S' H' a vs:=by
 rcases h with⟨s,h|⟨o,h⟩⟩|h
 ·exact .inl ⟨m.sub a s,.inl (m.Qw a _ s h)⟩
 ·exact .inl ⟨m.sub a s,.inr ⟨o,m.Qw a _ s h⟩⟩
 ·exact .inr h
theorem K3.mv(b:∀o,H a=a5 o->H' a=a5 o)(c:∀vs,R vs->d vs)(h:K3 H R a ks):K3 H' d a ks :=
 let ⟨kvs,e,f,g⟩:=h;⟨kvs,b _ e,f,c _ g⟩
section
mutual
theorem Rep.K4(m:Mv S H S' H'):∀(u:U) (v:V),Rep C S H u v->Rep C S' H' u v
 |.Gv,_,h=>h
 |.bl _,_,h=>h
 |.int _,_,h=>h
 |.str _,_,h=>h
 |.tup us,v,h=>by
  obtain⟨a,vs,e,b,d⟩:=h;exact⟨a,vs,e,m.Va b,aq.K4 m us vs d⟩
 |.lst us,v,h=>by
  obtain⟨a,vs,e,b,d⟩:=h;exact⟨a,vs,e,m.Vb b,aq.K4 m us vs d⟩
 |.GD ks us,v,h=>by
  obtain⟨a,e,b,d⟩:=h;exact⟨a,e,m.sub a b,d.mv (λo q=>m.Qw a o b q) λvs q=>aq.K4 m us vs q⟩
 |.exc c,v,h=>let ⟨a,e,o,f,b,d⟩:=h;⟨a,e,o,f,m.Mw a _ b trivial,d⟩
theorem aq.K4(m:Mv S H S' H'):∀(us:List U) (vs:List V),aq C S H us vs->aq C S' H' us vs
 |[],_,h=>h
 |u::us,vs,h=>by
  obtain⟨v,r,e,a,b⟩:=h;exact⟨v,r,e,Rep.K4 m u v a,aq.K4 m us r b⟩
end
mutual
theorem Rep.tZ:∀(u:U) (v:V),G5 u=b8->Rep C S H u v->Rep C S' H u v
 |.Gv,_,_,h=>h
 |.bl _,_,_,h=>h
 |.int _,_,_,h=>h
 |.str _,_,_,h=>h
 |.tup us,v,i,h=>by
  obtain⟨a,vs,e,b,c⟩:=h;exact⟨a,vs,e,b,aq.tZ us vs (by simpa[TM.G5] using i) c⟩
 |.lst us,v,i,h=>by simp[TM.G5]at i
 |.GD ks us,v,i,h=>by simp[TM.G5]at i
 |.exc _,_,_,h=>h
theorem aq.tZ:∀(us:List U) (vs:List V),cG us=b8->aq C S H us vs->aq C S' H us vs
 |[],_,_,h=>h
 |u::us,vs,i,h=>by
  obtain⟨v,r,e,b,c⟩:=h;have a:TM.G5 u=b8/\cG us=b8:=by simpa[cG] using i
  exact⟨v,r,e,Rep.tZ u v a.1 b,aq.tZ us r a.2 c⟩
end
theorem Rep.mv(m:Mv S H S' H')(h:Rep C S H u v):Rep C S' H' u v:=Rep.K4 m u v h
theorem aq.mv(m:Mv S H S' H')(h:aq C S H us vs):aq C S' H' us vs:=aq.K4 m us vs h
theorem Rep.G5(i:TM.G5 u=b8)(h:Rep C S H u v):Rep C S' H u v:=Rep.tZ u v i h
theorem aq.G5(i:cG us=b8)(h:aq C S H us vs):aq C S' H us vs:=aq.tZ us vs i h
theorem Mv.up(sub:∀a,S a->S' a):Mv S H S' H:=⟨sub,λ_ _ h _=>h,λ_ _ _ h=>h⟩
theorem aq.len:∀{us:List U}{vs:List V},aq C S H us vs->us.length=vs.length
 |[],_,h=>by cases h;rfl
 |u::us,vs,h=>by
  obtain⟨v,r,rfl,_,a⟩:=h;rw[rz,rz,aq.len a]
theorem aq.get:∀{us:List U}{vs:List V}{i:Nat}{u:U},aq C S H us vs->us[i]?=a5 u->∃v,vs[i]?=a5 v/\Rep C S H u v
 |[],_,_,_,_,e=>by simp at e
 |u::us,vs,0,w,h,e=>by
  obtain⟨v,r,rfl,a,_⟩:=h;simp at e;subst e;exact⟨v,rfl,a⟩
 |u::us,vs,i+1,w,h,e=>by
  obtain⟨v,r,rfl,_,b⟩:=h;obtain⟨c,d,h'⟩:=aq.get (i:=i) (u:=w) b (by simpa using e);exact⟨c,by simpa using d,h'⟩
theorem aq.append:∀{us ws:List U}{vs ys:List V},aq C S H us vs->aq C S H ws ys->aq C S H (us++ws) (vs++ys)
 |[],_,_,_,h,h'=>by cases h;exact h'
 |u::us,ws,vs,ys,h,h'=>by
  obtain⟨v,r,rfl,a,b⟩:=h;exact⟨v,r++ys,rfl,a,b.append h'⟩
theorem aq.take:∀{us:List U}{vs:List V} (n:Nat),aq C S H us vs->aq C S H (us.take n) (vs.take n)
 |_,_,0,_=>by simp[aq]
 |[],_,n+1,h=>by cases h;simp[aq]
 |u::us,vs,n+1,h=>by
  obtain⟨v,r,rfl,a,b⟩:=h;exact⟨v,r.take n,rfl,a,b.take n⟩
theorem aq.drop:∀{us:List U}{vs:List V} (n:Nat),aq C S H us vs->aq C S H (us.drop n) (vs.drop n)
 |_,_,0,h=>h
 |[],_,n+1,h=>by cases h;simp[aq]
 |u::us,vs,n+1,h=>by
  obtain⟨v,r,rfl,b,a⟩:=h;exact a.drop n
theorem aq.set:∀{us:List U}{vs:List V} (n:Nat) {u:U}{v:V},aq C S H us vs->Rep C S H u v->aq C S H (us.set n u) (vs.set n v)
 |[],_,n,_,_,h,_=>by cases h;simp[aq]
 |u::us,vs,0,_,_,h,h'=>by
  obtain⟨v,r,rfl,b,a⟩:=h;exact⟨_,r,rfl,h',a⟩
 |u::us,vs,n+1,_,_,h,h'=>by
  obtain⟨v,r,rfl,b,a⟩:=h;exact⟨v,_,rfl,b,a.set n h'⟩
theorem aq.snoc(h:aq C S H us vs)(h':Rep C S H u v):aq C S H (us++[u]) (vs++[v]):=h.append ⟨v,[],rfl,h',rfl⟩
theorem aq.strs:∀{xs:List Str}{vs:List V},aq C S H (xs.map .str) vs↔vs=xs.map V.str
 |[],vs=>by simp[aq]
 |x::xs,vs=>by
  constructor
  ·rintro⟨v,r,rfl,a,b⟩;rw[aq.strs.mp b];have:v=.str x:=a;rw[this];rfl
  ·rintro rfl;exact⟨_,_,rfl,rfl,aq.strs.mpr rfl⟩
end
structure Ct.Eqv(C C':Ct):Prop where
 P:C.P=C'.P
 w:C.w=C'.w
 K:C.K=C'.K
section
mutual
theorem Rep.K5(q:C.Eqv f):∀(u:U) (v:V),Rep C S H u v->Rep f S H u v
 |.Gv,_,h=>h
 |.bl _,_,h=>h
 |.int _,_,h=>h
 |.str _,_,h=>h
 |.tup us,v,h=>by
  obtain⟨a,vs,e,b,d⟩:=h;exact⟨a,vs,e,q.K▸b,aq.K5 q us vs d⟩
 |.lst us,v,h=>by
  obtain⟨a,vs,e,b,d⟩:=h;exact⟨a,vs,e,q.K▸b,aq.K5 q us vs d⟩
 |.GD ks us,v,h=>by
  obtain⟨a,e,b,d⟩:=h;exact⟨a,e,b,d.mv (λ_ q=>q) λvs z=>aq.K5 q us vs z⟩
 |.exc c,v,h=>by
  obtain⟨a,e,h⟩:=h;exact⟨a,e,q.K▸h⟩
theorem aq.K5(q:C.Eqv a):∀(us:List U) (vs:List V),aq C S H us vs->aq a S H us vs
 |[],_,h=>h
 |u::us,vs,h=>by
  obtain⟨v,r,e,b,c⟩:=h;exact⟨v,r,e,Rep.K5 q u v b,aq.K5 q us r c⟩
end
theorem Rep.cg(q:C.Eqv a)(h:Rep C S H u v):Rep a S H u v:=Rep.K5 q u v h
theorem aq.cg(q:C.Eqv a)(h:aq C S H us vs):aq a S H us vs:=aq.K5 q us vs h
end
def cJ(C:Ct)(S:hH->Prop)(H:Hp)(r:hH):U->Prop
 |.lst us=>∃vs,H r=a5 (.lst vs)/\aq C S H us vs
 |.GD ks us=>K3 H (aq C S H us) r ks
 |_=>False
theorem cJ.mv(m:Mv S H S' H')(a:∀o,H r=a5 o->H' r=a5 o)(h:cJ C S H r u):cJ C S' H' r u:=by
 cases u with
 |lst us=>obtain⟨vs,b,c⟩:=h;exact⟨vs,a _ b,c.mv m⟩
 |GD ks us=>exact K3.mv a (λvs q=>q.mv m) h
 |_=>exact h
theorem cJ.rep(hs:∀a,S a->S' a)(b:S' r)(h:cJ C S H r u):Rep C S' H u (.ref r):=by
 cases u with
 |lst us=>obtain⟨vs,c,d⟩:=h;exact⟨r,vs,rfl,.inl ⟨b,.inl c⟩,d.mv (.up hs)⟩
 |GD ks us=>exact⟨r,rfl,b,K3.mv (λ_ q=>q) (λvs q=>q.mv (.up hs)) h⟩
 |_=>exact h.elim
theorem cJ.cg(q:C.Eqv a)(h:cJ C S H r u):cJ a S H r u:=by
 cases u with
 |lst us=>obtain⟨vs,b,c⟩:=h;exact⟨vs,b,c.cg q⟩
 |GD ks us=>exact K3.mv (λ_ q=>q) (λvs z=>z.cg q) h
 |_=>exact h
theorem cJ.some(h:cJ C S H r u):∃o,H r=a5 o/\¬Tp o:=by
 cases u with
 |lst us=>obtain⟨vs,a,_⟩:=h;exact⟨_,a,λz=>z⟩
 |GD ks us=>obtain⟨kvs,a,_⟩:=h;exact⟨_,a,λz=>z⟩
 |_=>exact h.elim
structure Cf where
 S:hH->Prop
 H:Hp
 σ:St
 st:ax
 kid:Nat->List hH
def Cf.R1(c:Cf)(a:hH):Prop:=∃(j:Nat) (k:Kd) (u:U),k.root=b8/\c.st[j]?=a5 (a5 (k,u))/\c.σ[j]?=a5 (a5 (.ref a))
def Cf.RD(c:Cf)(j:Nat)(a:hH):Prop:=∃(u:U) (r:hH),c.st[j]?=a5 (a5 (.Gq,u))/\c.σ[j]?=a5 (a5 (.ref r))/\(a=r\/a∈c.kid j)
def Cf.R(c:Cf)(a:hH):Prop:=c.R1 a\/∃j,c.RD j a
def PS(C:Ct)(S:hH->Prop):hH->Prop:=λa=>C.IY a\/S a
def fk(C:Ct)(S:hH->Prop)(H:Hp):Kd->U->V->Prop
 |.own,u,v=>∃r,v=.ref r/\¬S r/\¬C.IY r/\C.H₀ r=b6/\cJ C S H r u
 |.io,u,v=>∃r,v=.ref r/\¬S r/\¬C.IY r/\C.IO r/\cJ C S H r u
 |.loc,u,v=>Rep C S H u v
 |.any,u,v=>Rep C (PS C S) H u v
 |.bor _,_,_=>False
 |.Gq,_,v=>∃r,v=.ref r
def de(C:Ct)(S:hH->Prop)(H:Hp):List U->List hH->Prop
 |[],as=>as=[]
 |u::us,as=>∃a as' ys vs,as=a::as'/\u=.lst ys/\H a=a5 (.lst vs)/\aq C S H ys vs/\de C S H us as'
def bZ(C:Ct)(S:hH->Prop)(H:Hp)(r:hH)(as:List hH):U->Prop
 |.GD ks us=>∃kvs:List (Key×V),H r=a5 (.dK kvs)/\kvs.map (·.1)=ks.map sx/\kvs.map (·.2)=as.map V.ref/\(r::as).Nodup/\(∀a∈r::as,¬S a/\¬C.IY a/\C.H₀ a=b6)/\de C S H us as
 |_=>False
structure Jy(C:Ct)(c:Cf):Prop where
 kd:∀(j:Nat) (u:U) (r:hH),c.st[j]?=a5 (a5 (.Gq,u))->c.σ[j]?=a5 (a5 (.ref r))->bZ C c.S c.H r (c.kid j) u
 dj:∀(i j:Nat) (a:hH),c.RD i a->c.RD j a->i=j
 d1:∀(j:Nat) (a:hH),c.RD j a->¬c.R1 a
structure Ok(C:Ct)(c:Cf):Prop where
 same:∀a o,C.H₀ a=a5 o->¬C.IO a->c.H a=a5 o
 Iu:∀a,c.S a->C.H₀ a=b6/\∃o,c.H a=a5 o
 par:∀a,C.IY a->(∃o,C.H₀ a=a5 o)/\¬C.IO a
 io:∀a,C.IO a->(∃o,C.H₀ a=a5 o)/\∃o,c.H a=a5 o
 len:c.st.length=c.σ.length
 sl:∀(i:Nat) (k:Kd) (u:U),c.st[i]?=a5 (a5 (k,u))->∃v,c.σ[i]?=a5 (a5 v)/\fk C c.S c.H k u v
 inj:∀(i j:Nat) (k k':Kd) (u u':U) (r:hH),k.root=b8->k'.root=b8->c.st[i]?=a5 (a5 (k,u))->c.st[j]?=a5 (a5 (k',u'))->c.σ[i]?=a5 (a5 (.ref r))->c.σ[j]?=a5 (a5 (.ref r))->i=j
 dd:Jy C c
structure Ns(c c':Cf):Prop where
 keep:∀a o,c.H a=a5 o->¬c.R a->c'.H a=a5 o
 there:∀a o,c.H a=a5 o->∃o',c'.H a=a5 o'
 roots:∀a,c'.R a->c.R a\/c.H a=b6
 sub:∀a,c.S a->c'.S a
 new:∀a,c'.S a->c.S a\/c.R a\/c.H a=b6
section
theorem Ns.refl(c:Cf):Ns c c:=⟨λ_ _ h _=>h,λ_ o h=>⟨o,h⟩,λ_ h=>.inl h,λ_ h=>h,λ_ h=>.inl h⟩
theorem Ns.none(n:Ns c b)(h:b.H a=.none):c.H a=.none:=by
 cases e:c.H a with
 |none=>rfl
 |some o=>obtain⟨d,q⟩:=n.there a o e;rw[h]at q;cases q
theorem Ns.trans(m:Ns c d)(n:Ns d e):Ns c e where
 keep:=λa o h b=>by
  refine n.keep a o (m.keep a o h b) λz=>?_;rcases m.roots a z with z|z
  ·exact b z
  ·rw[h]at z;cases z
 there:=λa o h=>let ⟨f,h'⟩:=m.there a o h;n.there a f h'
 roots:=λa h=>by
  rcases n.roots a h with z|z
  ·exact m.roots a z
  ·exact .inr (m.none z)
 sub:=λa h=>n.sub a (m.sub a h)
 new:=λa h=>by
  rcases n.new a h with z|z|z
  ·exact m.new a z
  ·rcases m.roots a z with z|z
   ·exact .inr (.inl z)
   ·exact .inr (.inr z)
  ·exact .inr (.inr (m.none z))
theorem fk.rt(hk:k.root=b8)(h:fk C S H k u v):∃r,v=.ref r/\¬S r/\¬C.IY r/\(C.H₀ r=b6\/C.IO r)/\cJ C S H r u:=by
 cases k with
 |own=>obtain⟨r,a,b,c,d,e⟩:=h;exact⟨r,a,b,c,.inl d,e⟩
 |io=>obtain⟨r,a,b,c,d,e⟩:=h;exact⟨r,a,b,c,.inr d,e⟩
 |_=>cases hk
theorem de.mem:∀{us:List U}{as:List hH}{a:hH},de C S H us as->a∈as->∃vs,H a=a5 (.lst vs)
 |[],as,a,h,ha=>by cases h;cases ha
 |u::us,as,a,h,ha=>by
  obtain⟨d,as',ys,vs,rfl,_,b,_,c⟩:=h;rcases hU.mp ha with rfl|ha
  ·exact⟨vs,b⟩
  ·exact de.mem c ha
theorem de.mv(m:Mv S H S' H'):∀{us:List U}{as:List hH},(∀a∈as,∀o,H a=a5 o->H' a=a5 o)->de C S H us as->de C S' H' us as
 |[],as,_,h=>h
 |u::us,as,b,h=>by
  obtain⟨a,as',ys,vs,rfl,e,c,d,f⟩:=h;exact⟨a,as',ys,vs,rfl,e,b a (by simp) _ c,d.mv m,de.mv m (λa g=>b a (by simp[g])) f⟩
theorem bZ.fr(h:bZ C S H r as u):∀a∈r::as,¬S a/\¬C.IY a/\C.H₀ a=b6:=by
 cases u<;>first|exact h.elim|(obtain⟨kvs,_,_,_,_,b,_⟩:=h;exact b)
theorem bZ.there(h:bZ C S H r as u):∀a∈r::as,∃o,H a=a5 o/\¬Tp o:=by
 cases u<;>first|exact h.elim|skip
 obtain⟨kvs,b,_,_,_,_,c⟩:=h;intro a ha;rcases hU.mp ha with rfl|ha
 ·exact⟨_,b,λz=>z⟩
 ·obtain⟨vs,e⟩:=c.mem ha;exact⟨_,e,λz=>z⟩
theorem bZ.mv(m:Mv S H S' H')(c:∀a∈r::as,¬S' a/\∀o,H a=a5 o->H' a=a5 o)(h:bZ C S H r as u):bZ C S' H' r as u:=by
 cases u<;>first|exact h.elim|skip
 obtain⟨kvs,d,e,f,g,i,j⟩:=h;exact⟨kvs,(c r (by simp)).2 _ d,e,f,g,λa b=>⟨(c a b).1,(i a b).2⟩,j.mv m λa b=>(c a (by simp[b])).2⟩
theorem Jy.of(d:Jy C c)(hk:e.kid=c.kid)(p:∀(j:Nat) (u:U),e.st[j]?=a5 (a5 (.Gq,u))->c.st[j]?=a5 (a5 (.Gq,u))/\e.σ[j]?=c.σ[j]?)(s:∀a,e.R1 a->c.R1 a\/∀j,¬c.RD j a)
  (m:Mv c.S c.H e.S e.H) (t:∀j a,c.RD j a->¬e.S a/\∀o,c.H a=a5 o->e.H a=a5 o):Jy C e:=by
 have b:∀j a,e.RD j a->c.RD j a:=λj a v=>by
  obtain⟨u,r,k,f,q⟩:=v;obtain⟨g,l⟩:=p j u k;rw[l]at f;rw[hk]at q;exact⟨u,r,g,f,q⟩
 refine⟨λj u r k f=>?_,λi j a h n=>d.dj i j a (b i a h) (b j a n),λj a h n=>?_⟩
 ·obtain⟨g,l⟩:=p j u k;rw[l]at f;rw[hk];exact bZ.mv m (λa w=>t j a ⟨u,r,g,f,hU.mp w⟩) (d.kd j u r g f)
 ·rcases s a n with z|z
  ·exact d.d1 j a (b j a h) z
  ·exact z j (b j a h)
theorem Jy.hs(d:Jy C c)(m:Mv c.S c.H S' H')(b:∀j a,c.RD j a->¬S' a/\∀o,c.H a=a5 o->H' a=a5 o):Jy C {c with H:=H',S:=S' } :=
 d.of rfl (λ_ _ e=>⟨e,rfl⟩) (λ_ z=>.inl z) m b
theorem Ok.root(f:Ok C c)(h:c.R r):¬c.S r/\¬C.IY r/\(C.H₀ r=b6\/C.IO r)/\∃o,c.H r=a5 o/\¬Tp o:=by
 rcases h with⟨j,k,u,hk,b,d⟩|⟨j,u,g,b,d,a⟩
 ·obtain⟨v,e,hs⟩:=f.sl j _ _ b;obtain⟨g,ev,a,l,m,n⟩:=hs.rt hk;rw[d]at e;cases e;cases ev;exact⟨a,l,m,n.some⟩
 ·have i:=f.dd.kd j u g b d;obtain⟨p,q,s⟩:=bZ.fr i r (hU.mpr a);exact⟨p,q,.inl s,bZ.there i r (hU.mpr a)⟩
theorem Ok.mv(b:Ok C c)(n:Ns c d):Mv c.S c.H d.S d.H:=⟨n.sub,λa o h t=>n.keep a o h λz=>by
  obtain⟨_,_,_,f,h',e⟩:=b.root z;rw[h]at h';cases h';exact e t,λa o s h=>n.keep a o h λz=>(b.root z).1 s⟩
theorem Ok.K6(b:Ok C c)(n:Ns c d):Mv (PS C c.S) c.H (PS C d.S) d.H:=⟨λa h=>h.imp id (n.sub a),(b.mv n).Mw,λa o s h=>n.keep a o h λz=>by
  rcases s with s|s
  ·exact(b.root z).2.1 s
  ·exact(b.root z).1 s⟩
theorem Ok.jX(a:Ok C c)(h:c.H p=b6):C.H₀ p=b6/\¬c.S p/\¬C.IY p/\¬C.IO p/\¬c.R p:=by
 have b:¬C.IO p:=λz=>by obtain⟨_,o,q⟩:=a.io p z;rw[h]at q;cases q
 have d:C.H₀ p=b6:=by
  cases e:C.H₀ p with
  |none=>rfl
  |some o=>have:=a.same p o e b;rw[h]at this;cases this
 refine⟨d,λz=>?_,λz=>?_,b,λz=>?_⟩
 ·obtain⟨_,o,q⟩:=a.Iu p z;rw[h]at q;cases q
 ·obtain⟨⟨o,q⟩,_⟩:=a.par p z;rw[d]at q;cases q
 ·obtain⟨_,_,_,o,q,_⟩:=a.root z;rw[h]at q;cases q
theorem fk.mv(m:Mv S H S' H')(i:Mv (PS C S) H (PS C S') H')(g:k.root=b8->∀r,v=.ref r->¬S' r/\∀o,H r=a5 o->H' r=a5 o)(h:fk C S H k u v):fk C S' H' k u v:=by
 cases k with
 |own =>
  obtain⟨r,e,l,a,b,c⟩:=h;obtain⟨d,f⟩:=g rfl r e;exact⟨r,e,d,a,b,c.mv m f⟩
 |io =>
  obtain⟨r,e,l,a,b,c⟩:=h;obtain⟨d,f⟩:=g rfl r e;exact⟨r,e,d,a,b,c.mv m f⟩
 |loc=>exact Rep.mv m h
 |any=>exact Rep.mv i h
 |bor j=>exact h.elim
 |Gq=>exact h
structure Nx(c c':Cf):Prop extends Ns c c' where
instance {c a:Cf}:Coe (Nx c a) (Ns c a):=⟨Nx.toNs⟩
theorem Nx.refl(c:Cf):Nx c c:=⟨.refl c⟩
theorem Nx.trans(m:Nx c a)(n:Nx a b):Nx c b:=⟨m.toNs.trans n.toNs⟩
theorem Nx.none(n:Nx c b)(h:b.H a=.none):c.H a=.none:=n.toNs.none h
theorem Ok.lay(d:Ok C c)(h:c.H p=b6):Ok C {c with H:=upd c.H p o}/\Nx c {c with H:=upd c.H p o}:=by
 have ne:∀{a:hH} {b:HO},c.H a=a5 b->a≠p:=λe z=>by subst z;rw[h]at e;cases e
 have f:∀a b,c.H a=a5 b->(upd c.H p o) a=a5 b:=λa b e=>by rw[au (ne e)];exact e
 have nx:Nx c {c with H:=upd c.H p o}:=⟨⟨λa b e _=>f a b e,λa b e=>⟨b,f a b e⟩,λa z=>.inl z,λ_ z=>z,λ_ z=>.inl z⟩⟩
 refine⟨⟨λa b e z=>f a b (d.same a b e z),λa z=>⟨(d.Iu a z).1,let ⟨b,q⟩:=(d.Iu a z).2;⟨b,f a b q⟩⟩,d.par,λa z=>⟨(d.io a z).1,let ⟨b,q⟩:=(d.io a z).2;⟨b,f a b q⟩⟩,d.len,λi k u e=>?_,d.inj,d.dd.hs (d.mv nx.toNs) λj a z=>⟨(d.root (.inr ⟨j,z⟩)).1,λb e=>f a b e⟩⟩,nx⟩;obtain⟨v,m,g⟩:=d.sl i k u e;refine⟨v,m,g.mv (d.mv nx.toNs) (d.K6 nx.toNs) λhk r n=>?_⟩;obtain⟨t,l,s,_⟩:=g.rt hk;rw[n]at l;cases l;exact⟨s,λb e=>f r b e⟩
theorem Ok.grow(d:Ok C c)(hs:cS c.H H')(h:∀a,S' a->c.S a\/(c.H a=b6/\∃o,H' a=a5 o))(s:∀a,c.S a->S' a):Ok C {c with H:=H',S:=S' }/\Nx c {c with H:=H',S:=S' }:=by
 have nx:Nx c {c with H:=H',S:=S' }:=⟨⟨λa b e _=>hs a b e,λa b e=>⟨b,hs a b e⟩,λa z=>.inl z,s,λa z=>(h a z).imp id λq=>.inr q.1⟩⟩
 refine⟨⟨λa b e z=>hs a b (d.same a b e z),λa z=>?_,d.par,λa z=>⟨(d.io a z).1,let ⟨b,q⟩:=(d.io a z).2;⟨b,hs a b q⟩⟩,d.len,λi k u e=>?_,d.inj,d.dd.hs (d.mv nx.toNs) λj a z=>⟨λf=>?_,λb e=>hs a b e⟩⟩,nx⟩
 rotate_left 2
 ·obtain⟨g,_,_,o,l,_⟩:=d.root (.inr ⟨j,z⟩);rcases h a f with f|⟨f,_⟩
  ·exact g f
  ·rw[l]at f;cases f
 ·rcases h a z with q|⟨g,m⟩
  ·exact⟨(d.Iu a q).1,let ⟨b,q⟩:=(d.Iu a q).2;⟨b,hs a b q⟩⟩
  ·exact⟨(d.jX g).1,m⟩
 ·obtain⟨v,t,n⟩:=d.sl i k u e;refine⟨v,t,n.mv (d.mv nx.toNs) (d.K6 nx.toNs) λhk r w=>?_⟩;obtain⟨x,p,g,m,y,l⟩:=n.rt hk;rw[w]at p;cases p;obtain⟨o,ho,_⟩:=l.some;refine⟨λz=>?_,λb e=>hs r b e⟩;rcases h r z with z|⟨z,_⟩
  ·exact g z
  ·rw[z]at ho;cases ho
def aP(C:Ct)(a c:Cf):Kd->U->V->Prop
 |.own,u,v=>∃r,v=.ref r/\a.H r=b6/\¬c.S r/\¬c.R r/\cJ C c.S c.H r u
 |.loc,u,v=>Rep C c.S c.H u v
 |.any,u,v=>Rep C (PS C c.S) c.H u v
 |.bor j,u,v=>(∃k:Kd,k.root=b8/\c.st[j]?=a5 (a5 (k,u)))/\c.σ[j]?=a5 (a5 v)
 |.io,_,_=>False
 |.Gq,_,_=>False
def fm(C:Ct)(a c:Cf):Kd->U->V->Prop
 |.own,u,v=>∃r,v=.ref r/\a.H r=b6/\¬c.S r/\¬c.R r/\cJ C c.S c.H r u
 |.loc,u,v=>Rep C c.S c.H u v
 |.any,u,v=>Rep C (PS C c.S) c.H u v
 |.bor j,u,v=>c.σ[j]?=a5 (a5 v)
 |.io,_,_=>False
 |.Gq,_,_=>False
theorem aP.w(h:aP C a c k u v):fm C a c k u v:=by
 cases k with
 |bor j=>exact h.2
 |_=>exact h
theorem fm.Sj(a:Ok C c)(n:Ns c b)(g:∀j,k=.bor j->b.σ[j]?=c.σ[j]?)(h:fm C i c k u v):fm C i b k u v:=by
 cases k with
 |own =>
  obtain⟨r,e,l,m,d,f⟩:=h;obtain⟨o,ho,_⟩:=f.some;refine⟨r,e,l,λz=>?_,λz=>?_,f.mv (a.mv n) λo q=>n.keep r o q d⟩
  ·rcases n.new r z with z|z|z
   ·exact m z
   ·exact d z
   ·rw[z]at ho;cases ho
  ·rcases n.roots r z with z|z
   ·exact d z
   ·rw[z]at ho;cases ho
 |loc=>exact Rep.mv (a.mv n) h
 |any=>exact Rep.mv (a.K6 n) h
 |bor j=>show b.σ[j]?=_;rw[g j rfl];exact h
 |_=>exact h
theorem fm.on(b:Ok C c)(n:Ns c a)(d:a.σ=c.σ)(h:fm C e c k u v):fm C e a k u v:=h.Sj b n λj _=>by rw[d]
theorem fm.from(n:Ns a b)(h:fm C b c k u v):fm C a c k u v:=by
 cases k with
 |own=>obtain⟨r,e,d,f⟩:=h;exact⟨r,e,n.none d,f⟩
 |_=>exact h
theorem aP.from(n:Ns a b)(h:aP C b c k u v):aP C a c k u v:=by
 cases k with
 |own=>obtain⟨r,e,d,f⟩:=h;exact⟨r,e,n.none d,f⟩
 |_=>exact h
def SK(C:Ct)(c:Cf):Kd->hH->Prop
 |.any=>PS C c.S
 |_=>c.S
noncomputable def kE:Kd->Kd
 |.any=>.any
 |_=>.loc
theorem Ok.rootOf(b:Ok C c){j:Nat}(h:∃k:Kd,k.root=b8/\c.st[j]?=a5 (a5 (k,u)))(e:c.σ[j]?=a5 (a5 v)):∃r,v=.ref r/\¬c.S r/\¬C.IY r/\(C.H₀ r=b6\/C.IO r)/\cJ C c.S c.H r u:=by
 obtain⟨k,hk,h⟩:=h;obtain⟨f,a,d⟩:=b.sl j _ _ h;rw[e]at a;cases a;exact d.rt hk
theorem aP.list(f:Ok C c)(h:aP C g c k (.lst us) v):∃a vs,v=.ref a/\GY C.K c.H a vs/\aq C (SK C c k) c.H us vs:=by
 cases k with
 |own=>obtain⟨r,e,_,_,_,vs,b,d⟩:=h;exact⟨r,vs,e,GY.of b,d⟩
 |bor j=>obtain⟨r,e,_,_,_,vs,b,d⟩:=f.rootOf h.1 h.2;exact⟨r,vs,e,GY.of b,d⟩
 |io=>exact h.elim
 |Gq=>exact h.elim
 |_=>obtain⟨a,vs,e,b,d⟩:=h;exact⟨a,vs,e,b.sq,d⟩
theorem aP.tuple(b:Ok C c)(h:aP C g c k (.tup us) v):∃a vs,v=.ref a/\Hh C.K c.H a vs/\aq C (SK C c k) c.H us vs:=by
 cases k with
 |own=>obtain⟨r,e,_,_,_,h⟩:=h;exact h.elim
 |bor j=>obtain⟨r,e,_,_,_,h⟩:=b.rootOf h.1 h.2;exact h.elim
 |io=>exact h.elim
 |Gq=>exact h.elim
 |_=>obtain⟨a,vs,e,d,f⟩:=h;exact⟨a,vs,e,d,f⟩
theorem aP.flat(b:Ok C c)(a:G5 u=b8)(h:aP C d c k u v):Rep C c.S c.H u v:=by
 cases k with
 |own=>obtain⟨r,e,_,_,_,h⟩:=h;cases u<;>simp[G5]at a<;>exact h.elim
 |loc=>exact h
 |any=>exact Rep.G5 a h
 |bor j=>obtain⟨r,e,_,_,_,h⟩:=b.rootOf h.1 h.2;cases u<;>simp[G5]at a<;>exact h.elim
 |_=>exact h.elim
theorem aP.int(a:Ok C c)(h:aP C b c k (.int i) v):v=.int i:=h.flat a rfl
theorem aP.str(a:Ok C c)(h:aP C b c k (.str x) v):v=.str x:=h.flat a rfl
theorem aP.bl(a:Ok C c)(h:aP C d c k (.bl b) v):v=.bl b:=h.flat a rfl
theorem aP.Gv(a:Ok C c)(h:aP C b c k .Gv v):v=.Gv:=h.flat a rfl
theorem aP.item(h:Rep C (SK C c k) c.H u v):aP C a c (kE k) u v:=by
 cases k<;>exact h
def HN(H:Hp):hH->Prop:=λa=>∃o,H a=a5 o
theorem Ok.v8(b:Ok C c):∀a,c.S a->HN c.H a:=λa h=>(b.Iu a h).2
theorem Ok.D6(b:Ok C c):∀a,PS C c.S a->HN c.H a:=λa h=>by
 rcases h with h|h
 ·obtain⟨⟨o,e⟩,n⟩:=b.par a h;exact⟨o,b.same a o e n⟩
 ·exact b.v8 a h
theorem aP.read(a:Ok C c)(h:aP C d c k u v):Rep C (HN c.H) c.H u v:=by
 cases k with
 |own =>
  obtain⟨r,e,_,_,_,b⟩:=h;rw[e];obtain⟨o,ho,_⟩:=b.some;exact b.rep a.v8 ⟨o,ho⟩
 |loc=>exact Rep.mv (.up a.v8) h
 |any=>exact Rep.mv (.up a.D6) h
 |bor j =>
  obtain⟨r,e,_,_,_,b⟩:=a.rootOf h.1 h.2;rw[e];obtain⟨o,ho,_⟩:=b.some;exact b.rep a.v8 ⟨o,ho⟩
 |_=>exact h.elim
theorem Ok.newList(a:Ok C c)(n:Nx b c)(h:c.H p=b6)(e:aq C c.S c.H us vs):
  Ok C {c with H:=upd c.H p (.lst vs)}/\Nx b {c with H:=upd c.H p (.lst vs)}/\aP C b {c with H:=upd c.H p (.lst vs)} .own (.lst us) (.ref p):=by
 obtain⟨f,d⟩:=a.lay (o:=.lst vs) h;obtain⟨j,g,k,l,i⟩:=a.jX h;exact⟨f,n.trans d,p,rfl,n.none h,g,i,vs,aw,e.mv (a.mv d.toNs)⟩
theorem Ok.B1(a:Ok C c)(n:Nx b c)(h:c.H p=b6)(e:aq C c.S c.H us vs):
  Ok C {c with H:=upd c.H p (.tup vs)}/\Nx b {c with H:=upd c.H p (.tup vs)}/\aP C b {c with H:=upd c.H p (.tup vs)} .loc (.tup us) (.ref p):=by
 obtain⟨f,d⟩:=a.lay (o:=.tup vs) h;exact⟨f,n.trans d,p,vs,rfl,Hh.of aw,e.mv (a.mv d.toNs)⟩
end
inductive Ex(α:Type) where|ok (a:α)|exc (c:Str)
noncomputable def M(α:Type):=ax->Option (Ex α×ax)
namespace M
noncomputable def pure(a:α):M α:=λst=>a5 (.ok a,st)
noncomputable def fail:M α:=λ_=>b6
noncomputable def bind(m:M α)(f:α->M β):M β:=λst=>match m st with
 |none=>b6
 |some (.ok a,st')=>f a st'
 |some (.exc c,st')=>a5 (.exc c,st')
noncomputable def GJ(o:Option α):M α:=λst=>match o with
 |none=>b6
 |some a=>a5 (.ok a,st)
end M
noncomputable instance:Monad M:={pure:=M.pure,bind:=M.bind}
def W{α:Type}(m:M α)(st:ax)(Q:α->ax->Prop):Prop:=∃a st',m st=a5 (.ok a,st')/\Q a st'
section
theorem ao:W (pure a) st Q↔Q a st:=by
 constructor
 ·rintro⟨b,st',e,h⟩;cases e;exact h
 ·intro h;exact⟨a,st,rfl,h⟩
theorem ah:W (m >>= f) st Q↔W m st λa st'=>W (f a) st' Q:=by
 constructor
 ·rintro⟨b,st',e,h⟩;have d:M.bind m f st=a5 (.ok b,st'):=e;unfold M.bind at d;cases q:m st with
  |none=>rw[q]at d;cases d
  |some r =>
   obtain⟨r,s1⟩:=r;rw[q]at d;cases r with
   |ok a=>exact⟨a,s1,q,b,st',d,h⟩
   |exc c=>cases d
 ·rintro⟨a,s1,q,b,st',e,h⟩;refine⟨b,st',?_,h⟩;show M.bind m f st=_;unfold M.bind;rw[q];exact e
theorem bG:W (M.GJ o) st Q↔∃a,o=a5 a/\Q a st:=by
 cases o with
 |none=>exact⟨λ⟨_,_,e,_⟩=>(by cases e),λ⟨_,e,_⟩=>(by cases e)⟩
 |some a=>exact⟨λ⟨_,_,e,h⟩=>(by cases e;exact⟨a,rfl,h⟩),λ⟨_,e,h⟩=>(by cases e;exact⟨a,st,rfl,h⟩)⟩
theorem bb:W (M.fail:M α) st Q↔False:=⟨λ⟨_,_,e,_⟩=>(by cases e),LF⟩
theorem W.mono(h:W m st Q)(i:∀a s,Q a s->Q' a s):W m st Q':=let ⟨a,s,e,q⟩:=h;⟨a,s,e,i a s q⟩
end
inductive Ow where|add|sub|mul|LM|mod|pow
deriving DecidableEq
inductive Nr where|eq|ne|lt|le|gt|ge|isin|G0|is|LN
deriving DecidableEq
inductive Bf where|len|sorted|list|tuple|str|int|repr|max|min|all|any
deriving DecidableEq
inductive B2 where|JZ|Iz|sset|jH
deriving DecidableEq
inductive Mf where|split|join|partition|endswith
deriving DecidableEq
inductive IA where|str|list|tuple|int|bool
deriving DecidableEq
inductive Ik where|seq|Hk|Vc|WM|zip|rev
deriving DecidableEq
inductive E where
 |var (i:Nat)
 |cst (u:U)
 |Ox (x:Str) (u:U)
 |bin (op:Ow) (a b:E)
 |cmp (op:Nr) (a b:E)
 |J0 (o1 o2:Nr) (a b c:E)
 |and (es:List E)|or (es:List E)|not (a:E)
 |ite (c a b:E)
 |tup (es:List E)|lst (es:List E)|IB (r:Bool)
 |idx (a b:E)
 |Kv (a:E) (lo hi:List E)
 |bi (f:Bf) (es:List E)
 |K7 (f:B2) (es:List E)
 |K8 (m:Mf) (a:E) (es:List E)
 |call (f:Str) (es:List E)
 |comp (k:Nat) (t:Bool) (ik:Ik) (src:List E) (cond:List E) (e:E)
 |neg (a:E)|bad|IZ (a:E) (T:IA)|fst (es:List E)|inD (neg:Bool) (a:E) (i:Nat)|Mx (i:Nat)|IC (i:Nat) (k d:E)|Oy (i:Nat)|LO (ln:Bool) (a b:E)
 |Gy (f:Str) (es:List E) (is:List Nat)
 |pop (i:Nat)|I0 (i:Nat) (e:E)
 |HD (a:E) (D:Str) (tb:List (Str×Bool))|Kw (ix:Bool) (i:Nat) (b:Bool)
inductive S where
 |set (i:Nat) (e:E)
 |Kx (is:List Nat) (e:E)
 |put (i:Nat) (k v:E)
 |app (i:Nat) (e:E)|ext (i:Nat) (e:E)|bad|newD (i:Nat)|putD (i:Nat) (k v:E)|I_ (i:Nat) (k v:E)|aug (sub:Bool) (i:Nat) (k v:E)|Oz (i:Nat)
 |exp (e:E)
 |ret (e:E)|Jz
 |ite (c:E) (a b:List S)
 |G1 (t:Bool) (is:List Nat) (ik:Ik) (src:List E) (body:List S)
 |K9 (c:E) (body:List S)
 |brk|cnt|OA
 |JK (is:List Nat)
 |My (i:Nat)
 |Ky (c:Str) (e:E)|tr (i:Nat) (f:Str) (es:List E) (c D:Str) (j:Nat) (k:Str)
 |JL (f:Str) (es:List E)|Kg (i:Nat) (c:List E) (f:Str) (es:List E) (g:Str) (HY:List E) (x:Str) (cs:List Str) (j k:Nat)
noncomputable def isAny:Kd->Bool
 |.any=>b8
 |_=>cc
noncomputable def dZ(k:Kd)(xs:List U):Bool:=!isAny k||cG xs
noncomputable def kT(k k':Kd):Kd:=if isAny k||isAny k' then .any else .loc
noncomputable def cut{α:Type}(xs:List α)(lo a:Option Int):List α:=(xs.drop (HT.Io xs.length 0 lo)).take (HT.Io xs.length xs.length a - HT.Io xs.length 0 lo)
noncomputable def v9:Kd×U->Kd×U->Option (Kd×U)
 |(_,.int i),(_,.int j)=>a5 (.loc,.int (i+j))
 |(_,.str x),(_,.str y)=>if x.length+y.length<=dV then a5 (.loc,.str (x++y)) else b6
 |(k,.lst xs),(k',.lst ys)=>if xs.length+ys.length<=dV/\dZ k xs=b8/\dZ k' ys=b8 then a5 (.own,.lst (xs++ys)) else b6
 |(k,.tup xs),(k',.tup ys)=>if xs.length+ys.length<=dV then a5 (kT k k',.tup (xs++ys)) else b6
 |_,_=>b6
noncomputable def qc(f:Int->Int->Option Int):U->U->Option (Kd×U)
 |.int i,.int j=>(f i j).map λn=>(.loc,.int n)
 |_,_=>b6
noncomputable def yZ(i j:Int):Option Int:=if ((-(2 ^ 64)<i/\i<2 ^ 64)\/(-(2 ^ 64)<j/\j<2 ^ 64)) then a5 (i * j) else b6
noncomputable def y0(i j:Int):Option Int:=if 0<j/\j<1073741824 then a5 (i / j) else b6
noncomputable def y4(i j:Int):Option Int:=if 0<j then a5 (i % j) else b6
noncomputable def y6(i j:Int):Option Int:=if 0<=j/\j<=1000000/\i.natAbs<2 ^ 64 then a5 (i ^ j.toNat) else b6
noncomputable def JA(a:Ow)(x y:Kd×U):Option (Kd×U):=match a with
 |.add=>v9 x y
 |.sub=>qc (λi j=>a5 (i - j)) x.2 y.2
 |.mul=>qc yZ x.2 y.2
 |.LM=>qc y0 x.2 y.2
 |.mod=>qc y4 x.2 y.2
 |.pow=>qc y6 x.2 y.2
mutual
noncomputable def ID:Nat->U->Bool
 |_,.GD _ _=>cc
 |_,.exc _=>cc
 |0,.tup _=>cc
 |0,.lst _=>cc
 |n+1,.tup xs=>jY n xs
 |n+1,.lst xs=>jY n xs
 |_,.Gv=>b8|_,.bl _=>b8|_,.int _=>b8|_,.str _=>b8
noncomputable def jY:Nat->List U->Bool
 |_,[]=>b8
 |n,u::us=>ID n u&&jY n us
end
mutual
noncomputable def cu:U->U->Bool
 |.Gv,.Gv=>b8
 |.bl a,.bl b=>a==b
 |.bl a,.int b=>(if a then 1 else 0)==b
 |.int a,.bl b=>a==(if b then 1 else 0)
 |.int a,.int b=>a==b
 |.str a,.str b=>a==b
 |.tup xs,.tup ys=>cP xs ys
 |.lst xs,.lst ys=>cP xs ys
 |_,_=>cc
noncomputable def cP:List U->List U->Bool
 |[],[]=>b8
 |u::us,w::ws=>cu u w&&cP us ws
 |_,_=>cc
end
noncomputable def LP(x:U)(ys:List U):Option Bool:=if ID 50 x=b8/\jY 50 ys=b8 then a5 (ys.any λy=>cu y x) else b6
noncomputable def strsOf:List U->Option (List Str)
 |[]=>a5 []
 |.str x::us=>(strsOf us).map (x::·)
 |_::_=>b6
noncomputable def y7:U->U->Option Bool
 |x,.lst ys=>LP x ys
 |x,.tup ys=>LP x ys
 |.str x,.GD ks _=>a5 (d6 (x∈ks))
 |_,_=>b6
noncomputable def dN:List Str->List U->Str->Option U
 |y::ks,u::us,x=>if y=x then a5 u else dN ks us x
 |_,_,_=>b6
noncomputable def dput(ks:List Str)(us:List U)(x:Str)(u:U):List Str×List U :=
 if x∈ks then(ks,(ks.zip us).map λp=>if p.1=x then u else p.2) else(ks++[x],us++[u])
noncomputable def lO:U->Bool
 |.Gv=>b8
 |_=>cc
noncomputable def cK:Nr->U->U->Option Bool
 |.eq,a,b=>if ID 50 a=b8/\ID 50 b=b8 then a5 (cu a b) else b6
 |.ne,a,b=>if ID 50 a=b8/\ID 50 b=b8 then a5 (!cu a b) else b6
 |.lt,.int i,.int j=>a5 (d6 (i<j))
 |.gt,.int i,.int j=>a5 (d6 (j<i))
 |.ge,.int i,.int j=>a5 (d6 (j<=i))
 |.isin,x,y=>y7 x y
 |.G0,x,y=>(y7 x y).map (!·)
 |.is,x,.Gv=>a5 (lO x)
 |.LN,x,.Gv=>a5 (!lO x)
 |.is,.bl x,.bl y=>a5 (x==y)
 |.LN,.bl x,.bl y=>a5 (!(x==y))
 |_,_,_=>b6
noncomputable def fZ:List U->Option (List Bool)
 |[]=>a5 []
 |.bl x::us=>(fZ us).map (x::·)
 |_::_=>b6
noncomputable def gT:Kd×U->U->Option (Kd×U)
 |(k,.lst xs),.int i=>(Hs xs i).map λu=>(kE k,u)
 |(k,.tup xs),.int i=>(Hs xs i).map λu=>(kE k,u)
 |(_,.str x),.int i=>if x.length<=dV then(Hs x.cps.toList i).map λc=>(.loc,.str ⟨#[c]⟩) else b6
 |_,_=>b6
noncomputable def oK:Kd×U->Option Int->Option Int->Option (Kd×U)
 |(k,.lst xs),lo,a=>if dZ k xs=b8 then a5 (.own,.lst (cut xs lo a)) else b6
 |(_,.str x),lo,a=>if x.length<=dV then a5 (.loc,.str (PySem.StrLaws.sliceText x lo a)) else b6
 |_,_,_=>b6
noncomputable def B3:U->Option Nat
 |.lst xs=>a5 xs.length
 |.tup xs=>a5 xs.length
 |.str x=>if x.length<=dV then a5 x.length else b6
 |_=>b6
noncomputable def iE{β:Type}(f:Kd×U->Option β):List (Kd×U)->Option β
 |[x]=>f x
 |_=>b6
noncomputable def intsOf:List U->Option (List Int)
 |[]=>a5 []
 |.int x::us=>(intsOf us).map (x::·)
 |_::_=>b6
noncomputable def B4:Kd×U->Option (Kd×U)
 |(_,.lst xs)=>(strsOf xs).bind λss=>if ss.length<64 then a5 (.own,.lst ((aL ss).map .str)) else b6
 |(_,.GD ks _)=>if ks.length<64 then a5 (.own,.lst ((aL ks).map .str)) else b6
 |(_,.tup xs)=>(strsOf xs).bind λss=>if ss.length<64 then a5 (.own,.lst ((aL ss).map .str)) else b6
 |_=>b6
noncomputable def B5:Kd×U->Option (Kd×U)
 |(k,.lst xs)=>if dZ k xs=b8 then a5 (.own,.lst xs) else b6
 |(k,.tup xs)=>if dZ k xs=b8 then a5 (.own,.lst xs) else b6
 |_=>b6
noncomputable def B6:Kd×U->Option (Kd×U)
 |(k,.lst xs)=>a5 (kE k,.tup xs)
 |(k,.tup xs)=>a5 (kE k,.tup xs)
 |_=>b6
noncomputable def y8:Kd×U->Option (Kd×U)
 |(_,.int i)=>if i.natAbs.log2<1920 then a5 (.loc,.str (Rc i)) else b6
 |_=>b6
noncomputable def B7:Kd×U->Option (Kd×U)
 |(_,.lst xs)=>(fZ xs).map λbs=>(.loc,.bl (bs.all id))
 |_=>b6
noncomputable def JB(f:Bf)(rs:List (Kd×U)):Option (Kd×U):=match f with
 |.len=>iE (λx=>(B3 x.2).map λ(n:Nat)=>(Kd.loc,U.int (n:Int))) rs
 |.sorted=>iE B4 rs
 |.list=>iE B5 rs
 |.tuple=>iE B6 rs
 |.str=>iE y8 rs
 |.all=>iE B7 rs
 |_=>b6
noncomputable def gU:U->Option (List Str)
 |.lst xs=>(strsOf xs).bind λss=>if ss.length+1<HU then a5 (aE ss) else b6
 |.tup xs=>(strsOf xs).bind λss=>if ss.length+1<HU then a5 (aE ss) else b6
 |_=>b6
noncomputable def B8:Kd×U->Option (Kd×U)
 |(k,.lst xs)=>if dZ k xs=b8 then a5 (.own,.lst xs.reverse) else b6
 |_=>b6
noncomputable def qe(f:B2)(rs:List (Kd×U)):Option (Kd×U):=match f with
 |.JZ=>b6
 |.Iz=>iE B8 rs
 |.sset=>iE (λx=>(gU x.2).bind λss=>if ss.length<64 then a5 (.own,.lst ((aL ss).map .str)) else b6) rs
 |.jH=>b6
noncomputable def lj:Mf->U->List (Kd×U)->Option (Kd×U)
 |.join,.str a,[(_,.lst xs)]=>(strsOf xs).bind λss=>if Yj a ss=b8 then a5 (.loc,.str (Ru a ss)) else b6
 |_,_,_=>b6
noncomputable def Ga:Kd×U->Option (List (Kd×U))
 |(k,.lst xs)=>a5 (xs.map λu=>(kE k,u))
 |(k,.tup xs)=>a5 (xs.map λu=>(kE k,u))
 |_=>b6
noncomputable def v_:Kd×U->Option (List (Kd×U))
 |(_,.int n)=>if n<2 ^ 62/\-(2 ^ 62)<n then a5 ((ko n.toNat).map λi:Nat=>(Kd.loc,U.int (0+(i:Int)))) else b6
 |_=>b6
noncomputable def Ja(ik:Ik)(rs:List (Kd×U)):Option (List (Kd×U)):=match ik with
 |.seq=>iE Ga rs
 |.Hk=>iE v_ rs
 |_=>b6
noncomputable def B9(a:List (Str×Int)):List (Str×Int):=(jU (a.map (·.1))).map λi=>a.getD i (zy,0)
noncomputable def B_(p:Str×Int):U:=.tup [.str p.1,.int p.2]
noncomputable def Ca:U->Option (Kd×U)
 |.GD ks us=>(intsOf us).bind λns=>if ks.length<64/\ks.Nodup/\ks.length=ns.length then a5 (.own,.lst ((B9 (ks.zip ns)).map B_)) else b6
 |_=>b6
noncomputable def t5(ln:Bool)(a b:List Str):Option (Kd×U):=if a.length<64/\b.length<64 then a5 (if ln=b8 then(.loc,.int ((a.filter λx=>d6 (x∉b)).length:Nat)) else(.own,.lst ((aL (a.filter λx=>d6 (x∉b))).map .str))) else b6
noncomputable def t6:U->Option Bool
 |.bl b=>a5 b
 |.lst xs=>a5 !xs.isEmpty
 |.tup xs=>a5 !xs.isEmpty
 |.str x=>if x.length<=dV then a5 ((x.length:Int) != 0) else b6
 |_=>b6
noncomputable def lift:Kd×U->M U
 |(.own,u)=>pure u
 |(.loc,u)=>pure u
 |(.any,u)=>if G5 u=b8 then pure u else M.fail
 |(.bor j,_)=>λst=>match st[j]? with
  |some (a5 (.own,u))=>a5 (.ok u,st.set j (a5 (.loc,u)))
  |_=>b6
 |(.io,_)=>M.fail
 |(.Gq,_)=>M.fail
noncomputable def cL:List (Kd×U)->M (List U)
 |[]=>pure []
 |r::rs=>do let u <-lift r;let us <-cL rs;pure (u::us)
noncomputable def dr(i:Nat):Kd×U->M Unit
 |(.bor j,_)=>λst=>match st[j]? with
  |some (a5 (.own,u))=>a5 (.ok (),(st.set j (a5 (.loc,u))).set i (a5 (.loc,u)))
  |_=>b6
 |(.io,_)=>M.fail
 |(.Gq,_)=>M.fail
 |(k,u)=>λst=>a5 (.ok (),st.set i (a5 (k,u)))
def bo:List (Kd×U)->ax->Prop
 |[],_=>True
 |(.bor j,u)::rs,st=>(∃k:Kd,k.root=b8/\st[j]?=a5 (a5 (k,u)))/\bo rs st
 |_::rs,st=>bo rs st
open Classical in
noncomputable def aB(rs:List (Kd×U)):M Unit:=λst=>if bo rs st then a5 (.ok (),st) else b6
abbrev Tab:=Str->List U->Option (Ex (Kd×U))
noncomputable def jZ(Γ:Tab)(f:Str)(us:List U):M (Kd×U):=λst=>match Γ f us with
 |some (.ok (.any,_))=>b6
 |none=>b6
 |some r=>a5 (r,st)
noncomputable def gy(rs:List (Kd×U))(p:Nat):Option Nat:=match rs[p]? with
 |some (.bor j,.lst us)=>if cG us=b8 then a5 j else b6
 |_=>b6
noncomputable def rO(a:List (Option Nat)):Kd×U->Bool
 |(.bor j,_)=>d6 (a5 j∉a)
 |_=>b8
noncomputable def oM(rs:List (Kd×U))(is:List Nat):Bool:=is.all (λp=>(gy rs p).isSome)&&d6 ((is.map (gy rs)).Nodup)&&(ko rs.length).all λq=>d6 (q∈is)||rO (is.map (gy rs)) (rs.getD q (.loc,.Gv))
noncomputable def f9(rs:List (Kd×U)):List Nat->List U->ax->Option ax
 |[],[],st=>a5 st
 |p::is,w::ws,st=>match gy rs p with
  |some j=>match w,st[j]? with
   |.lst us,a5 (a5 (k,_))=>f9 rs is ws (st.set j (a5 (k,.lst us)))
   |_,_=>b6
  |none=>b6
 |_,_,_=>b6
noncomputable def Qx:Kd×U->Option (Kd×U×List U)
 |(.own,.tup (u::ws))=>a5 (.own,u,ws)
 |(.loc,.tup (u::ws))=>a5 (.loc,u,ws)
 |_=>b6
noncomputable def dO(st:ax):Kd×U->Kd×U
 |(.bor j,u)=>(.bor j,match st[j]? with|some (a5 (k,u'))=>if k.root=b8 then u' else u|_=>u)
 |r=>r
noncomputable def y9(rs:List (Kd×U)):M (List (Kd×U)):=λst=>a5 (.ok (rs.map (dO st)),st)
noncomputable def oN(Γ:Tab)(f:Str)(rs:List (Kd×U))(is:List Nat):M (Kd×U):=λst=>match Γ f (rs.map (·.2)) with
 |some (.ok r)=>match Qx r with
  |some (k,u,ws)=>if oM rs is=b8 then(match f9 rs is ws st with|some st'=>a5 (.ok (k,u),st')|none=>b6) else b6
  |none=>b6
 |_=>b6
noncomputable def wa(i:Nat):M (Kd×U):=λst=>match st[i]? with
 |some (a5 (k,.lst us))=>if k.root=b8 then(match us[us.length - 1]? with|some u=>a5 (.ok (.loc,u),st.set i (a5 (k,.lst us.dropLast)))|none=>b6) else b6
 |_=>b6
noncomputable def t7(i:Nat):U->M (Kd×U)
 |.int j=>λst=>match st[i]? with
  |some (a5 (k,.lst us))=>if k.root=b8/\0<=j/\j<1000000 then(match us[j.toNat]? with|some u=>a5 (.ok (.loc,u),st.set i (a5 (k,.lst (us.eraseIdx j.toNat))))|none=>b6) else b6
  |_=>b6
 |_=>M.fail
noncomputable def c8(i:Nat):M (Kd×U):=λst=>match st[i]? with
 |some (a5 (.Gq,_))=>b6
 |some (a5 (k,u))=>a5 (.ok (if k.root=b8 then .bor i else k,u),st)
 |_=>b6
noncomputable def gV(i:Nat):M (List Str×List U):=λst=>match st[i]? with
 |some (a5 (.Gq,.GD ks us))=>a5 (.ok (ks,us),st)
 |_=>b6
noncomputable def jh(x:Kd×U):M Str:=match x.2 with
 |.str y=>pure y
 |_=>M.fail
noncomputable def Qy(neg:Bool)(y:Str)(ks:List Str):Bool:=if neg=b8 then !d6 (y∈ks) else d6 (y∈ks)
noncomputable def wb(i:Nat):M (Kd×U):=λst=>match st[i]? with
 |some (a5 (.Gq,u))=>a5 (.ok (.bor i,u),st.set i (a5 (.own,u)))
 |_=>c8 i st
noncomputable def AF(i:Nat):M Unit:=λst=>a5 (.ok (),st.set i (a5 (.Gq,.GD [] [])))
noncomputable def j3(i:Nat)(y:Str):Kd×U->M Unit
 |(.own,.lst us)=>λst=>match st[i]? with
  |some (a5 (.Gq,.GD ks vs))=>if y∉ks/\ks.length<dV then a5 (.ok (),st.set i (a5 (.Gq,.GD (ks++[y]) (vs++[.lst us])))) else b6
  |_=>b6
 |_=>M.fail
noncomputable def ji:List Str->List U->Str->U->List U
 |k::ks,v::vs,y,u=>if k=y then u::vs else v::ji ks vs y u
 |_,vs,_,_=>vs
noncomputable def j4(i:Nat)(y:Str)(u:U):M Unit:=λst=>match st[i]? with
 |some (a5 (.Gq,.GD ks vs))=>match dN ks vs y with
  |some (.lst xs)=>if xs.length<dV then a5 (.ok (),st.set i (a5 (.Gq,.GD ks (ji ks vs y (.lst (xs++[u])))))) else b6
  |_=>b6
 |_=>b6
noncomputable def Qz:U->M Unit
 |.GD _ _=>pure ()
 |_=>M.fail
noncomputable def y_(x:Kd×U)(y:Str)(u:U):Option (Kd×U):=match x with
 |(k,.GD ks us)=>a5 (match dN ks us y with|some v=>(kE k,v)|none=>(.loc,u))
 |_=>b6
noncomputable def t8(i:Nat):M (List U):=λst=>match st[i]? with
 |some (a5 (k,.lst us))=>if k.root=b8 then a5 (.ok us,st) else b6
 |_=>b6
noncomputable def t9(x:Kd×U):M Int:=match x.2 with
 |.int j=>pure j
 |_=>M.fail
noncomputable def wc(us:List U)(j:Int):Option Int:=if 0<=j then(match us[j.toNat]? with|some (.int o)=>a5 o|_=>b6) else b6
noncomputable def wd(sub:Bool)(o w:Int):Int:=if sub=b8 then o - w else o+w
noncomputable def Gb:U->Option U
 |.lst us=>a5 (.lst us.reverse)
 |_=>b6
noncomputable def sets:List Nat->List (Kd×U)->M Unit
 |[],[]=>pure ()
 |i::is,r::rs=>do dr i r;sets is rs
 |_,_=>M.fail
noncomputable def eC(t:Bool)(is:List Nat)(r:Kd×U):M Unit:=match t,is,r with
 |false,[i],r=>dr i r
 |true,is,(k,.tup xs)=>sets is (xs.map λu=>(kE k,u))
 |_,_,_=>M.fail
noncomputable def inScope{α:Type}(k:Nat)(m:M α):M α:=λst=>match m (mh k b6++st) with
 |none=>b6
 |some (r,st')=>a5 (r,st'.drop k)
noncomputable def bO(k:Nat)(t:Bool)(cond:M Bool)(elt:M (Kd×U))(src:List (Kd×U)):List (Kd×U)->List U->M (List U)
 |[],acc=>do aB src;pure acc
 |x::xs,acc=>do
  aB src
  let r <-inScope k (eC t (ko k) x >>= λ_=>cond >>= λb=>if b=b8 then(elt >>= λr=>lift r >>= λu=>pure (a5 u)) else pure b6)
  match r with
  |some u=>if acc.length<dV then bO k t cond elt src xs (acc++[u]) else M.fail
  |none=>bO k t cond elt src xs acc
noncomputable def ny:U->IA->Option Bool
 |.str _,T=>a5 (d6 (T=.str))
 |.int _,T=>a5 (d6 (T=.int))
 |.bl _,.bool=>a5 b8
 |.bl _,.int=>a5 b8
 |.lst _,T=>a5 (d6 (T=.list))
 |.tup _,T=>a5 (d6 (T=.tuple))
 |_,_=>b6
noncomputable def Ge:Kd×U->Option (Kd×U)
 |(_,.int i)=>a5 (.loc,.int (-i))
 |_=>b6
noncomputable def Cb(x:Kd×U):M (Option Int):=match x.2 with
 |.int i=>pure (a5 i)
 |_=>M.fail
noncomputable def Kz:U->M Unit
 |.lst _=>pure ()
 |_=>M.fail
section
variable(Γ:Tab)
noncomputable def we(a:Bool)(i:Nat)(b:Bool):M (Kd×U):=λst=>match st[i]? with
 |some (a5 (k,.lst us))=>if k.root=b8 then(match fZ us with
  |some bs=>if a=b8 then(if b∈bs then a5 (.ok (.loc,.int (bs.idxOf b:Nat)),st) else b6) else a5 (.ok (.loc,.int (bs.count b:Nat)),st)
  |none=>b6) else b6
 |_=>b6
noncomputable def j5(a:List (Str×Bool)):U->Option Bool
 |.exc c=>a.lookup c
 |_=>b6
mutual
noncomputable def ev:E->M (Kd×U)
 |.var i=>c8 i
 |.cst u=>pure (.loc,u)
 |.Ox _ u=>pure (.loc,u)
 |.bin g a b=>do
  let x <-ev a
  let y <-ev b
  aB [x,y]
  M.GJ (JA g x y)
 |.cmp g a b=>do
  let x <-ev a
  let y <-ev b
  aB [x,y]
  let c <-M.GJ (cK g x.2 y.2)
  pure (.loc,.bl c)
 |.J0 _ _ _ _ _=>M.fail
 |.and es=>gW es
 |.or _=>M.fail
 |.not a=>do
  let x <-ev a
  match x.2 with
  |.bl c=>pure (.loc,.bl !c)
  |_=>M.fail
 |.ite c a b=>do
  let p <-GN c
  if p=b8 then ev a else ev b
 |.tup es=>do
  let rs <-bc es
  aB rs
  let us <-cL rs
  if us.length<=dV then pure (.loc,.tup us) else M.fail
 |.lst es=>do
  let rs <-bc es
  aB rs
  let us <-cL rs
  if us.length<=dV then pure (.own,.lst us) else M.fail
 |.IB r=>pure (.own,.GD [] [])
 |.idx a b=>do
  let x <-ev a
  let y <-ev b
  aB [x,y]
  M.GJ (gT x y.2)
 |.Kv a lo j=>do
  let x <-ev a
  let l <-LQ lo
  let h <-LQ j
  aB [x]
  M.GJ (oK x l h)
 |.bi f es=>do
  let rs <-bc es
  aB rs
  M.GJ (JB f rs)
 |.K7 f es=>do
  let rs <-bc es
  aB rs
  M.GJ (qe f rs)
 |.K8 m a es=>do
  let x <-ev a
  let rs <-bc es
  aB (x::rs)
  M.GJ (lj m x.2 rs)
 |.call f es=>do
  let rs <-bc es
  aB rs
  jZ Γ f (rs.map (·.2))
 |.comp k t ik src cond e=>do
  let rs <-bc src
  aB rs
  let xs <-M.GJ (Ja ik rs)
  let us <-bO k t (bq cond) (ev e) rs xs []
  pure (.own,.lst us)
 |.neg a=>do
  let x <-ev a
  M.GJ (Ge x)
 |.bad=>M.fail
 |.inD _ _ _=>M.fail
 |.Mx i=>wb i
 |.IC i k d=>do
  let x <-c8 i
  Qz x.2
  let y <-ev k
  let y <-jh y
  let z <-ev d
  let u <-lift z
  let x <-c8 i
  M.GJ (y_ x y u)
 |.Oy i=>do
  let x <-c8 i
  M.GJ (Ca x.2)
 |.Gy f es is=>do
  let rs <-(bc es >>= y9)
  aB rs
  oN Γ f rs is
 |.HD a _ n=>do
  let x <-ev a
  let b <-M.GJ (j5 n x.2)
  pure (.loc,.bl b)
 |.Kw o i b=>we o i b
 |.pop i=>wa i
 |.I0 i e=>do
  let x <-c8 i
  Kz x.2
  let y <-ev e
  t7 i y.2
 |.LO ln a b=>do
  let x <-ev a
  let q <-M.GJ (gU x.2)
  let y <-ev b
  let s <-M.GJ (gU y.2)
  M.GJ (t5 ln q s)
 |.fst es=>M.fail
 |.IZ a T=>do
  let x <-ev a
  let b <-M.GJ (ny x.2 T)
  pure (.loc,.bl b)
noncomputable def bc:List E->M (List (Kd×U))
 |[]=>pure []
 |e::es=>do let r <-ev e;let rs <-bc es;pure (r::rs)
noncomputable def LQ:List E->M (Option Int)
 |[]=>pure b6
 |[e]=>do let x <-ev e;Cb x
 |_=>M.fail
noncomputable def gW:List E->M (Kd×U)
 |[]=>M.fail
 |[e]=>ev e
 |e::es=>do
  let x <-ev e
  match x.2 with
  |.bl b8=>gW es
  |.bl cc=>pure (.loc,.bl cc)
  |_=>M.fail
noncomputable def GN:E->M Bool
 |.and es=>bq es
 |.or es=>fq es
 |.not a=>do let b <-GN a;pure !b
 |.cmp e a b=>do
  let x <-ev a
  let y <-ev b
  aB [x,y]
  M.GJ (cK e x.2 y.2)
 |.var i=>do let x <-c8 i;M.GJ (t6 x.2)
 |.bi f es=>do
  let rs <-bc es
  aB rs
  let r <-M.GJ (JB f rs)
  M.GJ (t6 r.2)
 |.call f es=>do
  let rs <-bc es
  aB rs
  let r <-jZ Γ f (rs.map (·.2))
  M.GJ (t6 r.2)
 |.J0 o1 o2 a b c=>do
  let x <-ev a
  let y <-ev b
  aB [x,y]
  let p <-M.GJ (cK o1 x.2 y.2)
  if p=b8 then do
   let z <-ev c
   aB [y,z]
   M.GJ (cK o2 y.2 z.2)
  else pure cc
 |.inD neg a i=>do
  let x <-ev a
  let y <-jh x
  let d <-gV i
  pure (Qy neg y d.1)
 |.IZ a T=>do
  let x <-ev a
  M.GJ (ny x.2 T)
 |.HD a _ g=>do
  let x <-ev a
  M.GJ (j5 g x.2)
 |_=>M.fail
noncomputable def bq:List E->M Bool
 |[]=>pure b8
 |[e]=>GN e
 |e::es=>do let b <-GN e;if b=b8 then bq es else pure cc
noncomputable def fq:List E->M Bool
 |[]=>pure cc
 |[e]=>GN e
 |e::es=>do let b <-GN e;if b=b8 then pure b8 else fq es
end
inductive Fl where|nx|rt (k:Kd) (u:U)|bk|ct
noncomputable def retS:Kd×U->M Fl
 |(.own,u)=>pure (.rt .own u)
 |(.loc,u)=>pure (.rt .loc u)
 |(.any,u)=>if G5 u=b8 then pure (.rt .loc u) else pure (.rt .any u)
 |(.bor j,_)=>λst=>match st[j]? with
  |some (a5 (.own,u))=>a5 (.ok (.rt .own u),st.set j b6)
  |_=>b6
 |(.io,_)=>M.fail
 |(.Gq,_)=>M.fail
noncomputable def forM(t:Bool)(is:List Nat)(body:M Fl)(src:List (Kd×U)):List (Kd×U)->M Fl
 |[]=>do aB src;pure .nx
 |x::xs=>do
  aB src
  eC t is x
  let f <-body
  match f with
  |.nx=>forM t is body src xs
  |.ct=>forM t is body src xs
  |.bk=>pure .nx
  |.rt k u=>pure (.rt k u)
noncomputable def fS(c:M Bool)(body:M Fl):Nat->M Fl
 |0=>M.fail
 |n+1=>do
  let b <-c
  if b=b8 then do
   let f <-body
   match f with
   |.nx=>fS c body n
   |.ct=>fS c body n
   |.bk=>pure .nx
   |.rt k u=>pure (.rt k u)
  else pure .nx
noncomputable def wg(Γ:Tab)(f:Str)(us:List U)(c:Str):M (Option (Kd×U)):=λst=>match Γ f us with
 |some (.ok (.own,u))=>a5 (.ok (a5 (.own,u)),st)
 |some (.ok (.loc,u))=>a5 (.ok (a5 (.loc,u)),st)
 |some (.exc a)=>if a=c then a5 (.ok b6,st) else b6
 |_=>b6
noncomputable def t_(i j:Nat)(k:Str):Option (Kd×U)->M Fl
 |some r=>do dr i r;pure .nx
 |none=>λst=>match st[j]? with
  |some b6=>if i≠j then(dr i (.loc,.tup [.str k,.bl b8]) >>= λ_=>pure .nx) st else b6
  |_=>b6
noncomputable def cy(Γ:Tab)(f:Str)(us:List U):M (Sum (Kd×U) Str):=λst=>match Γ f us with
 |some (.ok (.own,u))=>a5 (.ok (.inl (.own,u)),st)
 |some (.ok (.loc,u))=>a5 (.ok (.inl (.loc,u)),st)
 |some (.exc c)=>a5 (.ok (.inr c),st)
 |_=>b6
noncomputable def za:Sum (Kd×U) Str->M Fl
 |.inl _=>pure .nx
 |.inr c=>pure (.rt .io (.str c))
noncomputable def jj(a:List Str)(i j k:Nat):Sum (Kd×U) Str->M Fl
 |.inl r=>do dr i r;pure .nx
 |.inr c=>λst=>match st[j]? with
  |some b6=>if k≠j/\c∈a then(dr k (.loc,.exc c) >>= λ_=>pure .nx) st else b6
  |_=>b6
noncomputable def modS(i:Nat)(f:U->Option U):M Unit:=λst=>match st[i]? with
 |some (a5 (k,u))=>if k.root=b8 then match f u with
   |some u'=>a5 (.ok (),st.set i (a5 (k,u')))
   |none=>b6
  else b6
 |_=>b6
noncomputable def wj(u:U):U->Option U
 |.lst xs=>if xs.length<dV then a5 (.lst (xs++[u])) else b6
 |_=>b6
noncomputable def iF:Kd×U->U->Option U
 |(k,.lst ys),.lst xs=>if xs.length+ys.length<=dV/\dZ k ys=b8 then a5 (.lst (xs++ys)) else b6
 |(k,.tup ys),.lst xs=>if xs.length+ys.length<=dV/\dZ k ys=b8 then a5 (.lst (xs++ys)) else b6
 |_,_=>b6
noncomputable def eT(x u:U):U->Option U
 |.GD ks vs=>match x with
  |.str y=>if ks.length<dV then a5 (.GD (dput ks vs y u).1 (dput ks vs y u).2) else b6
  |_=>b6
 |.lst xs=>match x with
  |.int i=>(Kn xs.length i).map λj=>.lst (xs.set j u)
  |_=>b6
 |_=>b6
noncomputable def Ce:U->Option U
 |.lst _=>a5 (.lst [])
 |_=>b6
noncomputable def rP:List U->U->Option U
 |[u,x]=>eT x u
 |_=>λ_=>b6
noncomputable def fuel:Nat:=1000000000000
mutual
noncomputable def Jb:S->Nat->Bool
 |.set i _,j=>d6 (j≠i)
 |.Kx is _,j=>d6 (j∉is)
 |.ite _ a b,j=>Jc a j&&Jc b j
 |.G1 _ is _ _ body,j=>d6 (j∉is)&&Jc body j
 |.K9 _ body,j=>Jc body j
 |.put _ _ _,_=>b8
 |.app _ _,_=>b8
 |.ext _ _,_=>b8
 |.bad,_=>b8
 |.newD i,j=>d6 (j≠i)
 |.putD _ _ _,_=>b8
 |.I_ _ _ _,_=>b8
 |.aug _ _ _ _,_=>b8
 |.Oz _,_=>b8
 |.exp _,_=>b8
 |.ret _,_=>b8
 |.Jz,_=>b8
 |.brk,_=>b8
 |.cnt,_=>b8
 |.OA,_=>b8
 |.JK _,_=>b8
 |.My _,_=>b8
 |.Ky _ _,_=>b8
 |.tr i _ _ _ _ j _,n=>d6 (n≠i)&&d6 (n≠j)
 |.JL _ _,_=>b8
 |.Kg i _ _ _ _ _ _ _ j k,n=>d6 (n≠i)&&d6 (n≠k)&&d6 (n≠j)
noncomputable def Jc:List S->Nat->Bool
 |[],_=>b8
 |s::ss,j=>Jb s j&&Jc ss j
end
noncomputable def rQ(rs:List (Kd×U))(is:List Nat)(body:List S):Bool:=rs.all λr=>match r.1 with
 |.bor j=>d6 (j∉is)&&Jc body j
 |_=>b8
mutual
noncomputable def exec:S->M Fl
 |.set i e=>do let r <-ev Γ e;dr i r;pure .nx
 |.Kx is e=>do let r <-ev Γ e;eC b8 is r;pure .nx
 |.put i k v=>do
  let r <-ev Γ v
  let _ <-c8 i
  let x <-ev Γ k
  let us <-cL [r,x]
  modS i (rP us)
  pure .nx
 |.app i e=>do
  let x <-c8 i
  Kz x.2
  let r <-ev Γ e
  let u <-lift r
  modS i (wj u)
  pure .nx
 |.ext i e=>do
  let x <-c8 i
  Kz x.2
  let r <-ev Γ e
  modS i (iF r)
  pure .nx
 |.bad=>M.fail
 |.newD i=>do AF i;pure .nx
 |.putD i k v=>do
  let r <-ev Γ v
  let d <-gV i
  let x <-ev Γ k
  let y <-jh x
  j3 i y r
  pure .nx
 |.I_ i k v=>do
  let _ <-gV i
  let x <-ev Γ k
  let y <-jh x
  let d <-gV i
  if y∈d.1 then do
   let r <-ev Γ v
   let u <-lift r
   j4 i y u
   pure .nx
  else M.fail
 |.aug sub i k v=>do
  let _ <-t8 i
  let y <-ev Γ k
  let j <-t9 y
  let us <-t8 i
  let o <-M.GJ (wc us j)
  let z <-ev Γ v
  let w <-t9 z
  modS i (eT (.int j) (.int (wd sub o w)))
  pure .nx
 |.Oz i=>do
  modS i Gb
  pure .nx
 |.exp e=>do let _ <-ev Γ e;pure .nx
 |.ret e=>do let r <-ev Γ e;retS r
 |.Jz=>pure (.rt .loc .Gv)
 |.ite c a b=>do let p <-GN Γ c;if p=b8 then execs a else execs b
 |.G1 t is ik src body=>do
  let rs <-bc Γ src
  aB rs
  let xs <-M.GJ (Ja ik rs)
  if rQ rs is body=b8 then forM t is (execs body) rs xs else M.fail
 |.K9 c body=>fS (GN Γ c) (execs body) fuel
 |.brk=>pure .bk
 |.cnt=>pure .ct
 |.OA=>pure .nx
 |.JK _=>M.fail
 |.My i=>do
  modS i Ce
  pure .nx
 |.Ky c e=>do let _ <-ev Γ e;pure (.rt .io (.str c))
 |.tr i f es c _ j k=>do
  let rs <-bc Γ es
  aB rs
  let r <-wg Γ f (rs.map (·.2)) c
  t_ i j k r
 |.JL f es=>do
  let r <-(bc Γ es >>= λrs=>aB rs >>= λ_=>cy Γ f (rs.map (·.2)))
  za r
 |.Kg i c f es g h _ l j k=>do
  let r <-(match c with
   |[c]=>GN Γ c >>= λp=>if p=b8 then(bc Γ es >>= λrs=>aB rs >>= λ_=>cy Γ f (rs.map (·.2))) else(bc Γ h >>= λrs=>aB rs >>= λ_=>cy Γ g (rs.map (·.2)))
   |_=>bc Γ es >>= λrs=>aB rs >>= λ_=>cy Γ f (rs.map (·.2)))
  jj l i j k r
noncomputable def execs:List S->M Fl
 |[]=>pure .nx
 |s::ss=>do
  let f <-exec s
  match f with
  |.nx=>execs ss
  |f=>pure f
end
end
structure Fn where
 name:Str
 np:Nat
 ns:Nat
 body:List S
noncomputable def start(us:List U)(n:Nat):ax:=us.map (λu=>a5 (if G5 u=b8 then Kd.loc else Kd.any,u))++mh (n - us.length) b6
noncomputable def dt(Γ:Tab)(fn:Fn)(us:List U):Option (Ex (Kd×U)):=if us.length=fn.np then match execs Γ fn.body (start us fn.ns) with
  |some (.ok (.rt .own u),_)=>a5 (.ok (.own,u))
  |some (.ok (.rt .loc u),_)=>a5 (.ok (.loc,u))
  |some (.ok (.rt .any u),_)=>a5 (.ok (.any,u))
  |some (.ok .nx,_)=>a5 (.ok (.loc,.Gv))
  |some (.ok (.rt .io (.str c)),_)=>a5 (.exc c)
  |_=>b6
 else b6
noncomputable def cM(is:List Nat)(us:List U)(n:Nat):ax:=(us.zipIdx.map λp=>a5 (if p.2∈is then Kd.io else if G5 p.1=b8 then Kd.loc else Kd.any,p.1))++mh (n - us.length) b6
noncomputable def LR:List Nat->ax->Option (List U)
 |[],_=>a5 []
 |i::is,st=>match st[i]? with
  |some (a5 (.io,u))=>(LR is st).map (u::·)
  |_=>b6
noncomputable def OB:Fl->Option (Kd×U)
 |.rt .own u=>a5 (.own,u)
 |.rt .loc u=>a5 (.loc,u)
 |.nx=>a5 (.loc,.Gv)
 |_=>b6
noncomputable def fT(Γ:Tab)(fn:Fn)(is:List Nat)(body:List S)(us:List U):Option (Ex (Kd×U)):=if us.length=fn.np then match execs Γ body (cM is us fn.ns) with
  |some (.ok f,st)=>(OB f).bind λr=>(LR is st).map λws=>.ok (r.1,.tup (r.2::ws))
  |_=>b6
 else b6
noncomputable def Fn.io(fn:Fn):Option (List Nat×List S):=match fn.body with
 |.JK is::body=>a5 (is,body)
 |_=>b6
noncomputable def iG(Γ:Tab)(fn:Fn)(us:List U):Option (Ex (Kd×U)):=match fn.io with
 |some (is,body)=>fT Γ fn is body us
 |none=>dt Γ fn us
noncomputable def GG(P:List Fn):Nat->Tab
 |0=>λ_ _=>b6
 |d+1=>λf us=>match P.find? λfn=>d6 (fn.name=f) with
  |some fn=>iG (GG P d) fn us
  |none=>b6
end TM
namespace TM
open PySem L2
section
variable{X:Cx}{pins:List (hH×Obj)}{σ:St}{H:Hp}{s:gj}{C:Ct}{S:hH->Prop}
theorem rR(I:Inv X pins σ H s)(h:GY X.K H a vs):∃b:List et,Vals vs b/\s.heap.IsList a b.toArray/\vs.length<=dV:=by
 obtain⟨b,r,p,z⟩:=I.list h;exact⟨b,r,p.isList,z⟩
inductive G6(s:gj):Nat->U->et->Prop where
 |Gv {n:Nat}:G6 s n .Gv .none
 |bl {n:Nat} {b:Bool}:G6 s n (.bl b) (.bool b)
 |int {n:Nat} {i:Int} {t:Tok}:G6 s n (.int i) (.int i t)
 |str {n:Nat} {y:Str} {t:Tok}:G6 s n (.str y) (.str y t)
 |tup {n:Nat} {us:List U} {A':List et} {a:hH}:us.length=A'.length->(∀j (hj:j<A'.length),G6 s n (us.getD j .Gv) A'[j])->cP us us=b8->s.heap.IsTuple a A'.toArray->G6 s (n+1) (.tup us) (.ref a)
 |lst {n:Nat} {us:List U} {A':List et} {a:hH}:us.length=A'.length->(∀j (hj:j<A'.length),G6 s n (us.getD j .Gv) A'[j])->cP us us=b8->s.heap.IsList a A'.toArray->G6 s (n+1) (.lst us) (.ref a)
theorem G6.self(h:G6 s n u x):cu u u=b8:=by
 cases h<;>first|assumption|simp[cu]
theorem G6.ua(f:∀u v x,ID n u=b8->Rep C S H u v->RelV v x->G6 s n u x):∀{us:List U}{vs:List V}{a:List et},jY n us=b8->aq C S H us vs->Vals vs a->us.length=a.length/\(∀j (b:j<a.length),G6 s n (us.getD j .Gv) a[j])/\cP us us=b8
 |[],_,_,_,h,r=>by cases h;cases r;exact⟨rfl,λj b=>(nomatch b),rfl⟩
 |u::us,_,_,e,h,r=>by
  obtain⟨v,vs,rfl,c,g⟩:=h;simp only[jY,cb]at e;cases r with
  |cons d i =>
   obtain⟨l,k,y⟩:=G6.ua f e.2 g i;refine⟨by simp[l],λj b=>?_,by rw[cP,(f _ _ _ e.1 c d).self,y];rfl⟩;cases j with
   |zero=>exact f _ _ _ e.1 c d
   |succ j=>exact k j (by simpa using b)
theorem G6.of(I:Inv X pins σ H s)(d:C.K=X.K):∀(n:Nat) (u:U) (v:V) (x:et),ID n u=b8->Rep C S H u v->RelV v x->G6 s n u x:=by
 intro n;induction n with
 |zero=>intro u v x e h r;cases u<;>first|(simp[ID]at e;done)|(simp only[Rep]at h;subst h;first|(cases r;constructor)|(obtain⟨t,rfl⟩:=r;constructor))
 |succ n f =>
  intro u v x e h r;cases u with
  |tup us =>
   obtain⟨a,vs,rfl,b,c⟩:=h;cases r;obtain⟨g,rv,p,_⟩:=I.tuple (d▸b);obtain⟨l,k,y⟩:=G6.ua f (by simpa[ID] using e) c rv;exact .tup l k y p
  |lst us =>
   obtain⟨a,vs,rfl,b,c⟩:=h;cases r;obtain⟨g,rv,p,_⟩:=rR I (d▸b.sq);obtain⟨l,k,y⟩:=G6.ua f (by simpa[ID] using e) c rv;exact .lst l k y p
  |_=>first|(simp[ID]at e;done)|(simp only[Rep]at h;subst h;first|(cases r;constructor)|(obtain⟨t,rfl⟩:=r;constructor))
theorem G6.inj:∀{n:Nat}{u w:U}{x:et},G6 s n u x->G6 s n w x->u=w:=by
 intro n;induction n with
 |zero=>intro u w x h h';cases h<;>cases h'<;>rfl
 |succ n t =>
  have go:∀{us ws:List U} {c its':List et} {a:hH} {o i:Obj} {m q:Nat},us.length=c.length->(∀j (v:j<c.length),G6 s n (us.getD j .Gv) c[j])->ws.length=its'.length->(∀j (v:j<its'.length),G6 s n (ws.getD j .Gv) its'[j])->s.heap.get? a=a5 o->o.data=.seq c.toArray m->s.heap.get? a=a5 i->i.data=.seq its'.toArray q->us=ws:=by
   intro us ws c its' a o i m q l k f k' e d g d';rw[e]at g;cases g;rw[d]at d';injection d' with z _
   have:c=its':=by simpa using Zv V1 z
   subst this;refine S6 ⋯ λj A B=>?_;have:=t (k j ⋯) (k' j ⋯);simpa[A,B] using this
  intro u w x h h';cases h with
  |tup l k y p =>
   cases h' with
   |tup f k' r b=>obtain⟨o,e,_,m,d⟩:=p;obtain⟨i,g,_,q,d'⟩:=b;rw[go l k f k' e d g d']
   |lst f k' r b=>exact absurd rfl (VE b p)
  |lst l k y p =>
   cases h' with
   |lst f k' r b=>obtain⟨o,e,_,m,d⟩:=p;obtain⟨i,g,_,q,d'⟩:=b;rw[go l k f k' e d g d']
   |tup f k' r b=>exact absurd rfl (VE p b)
  |_=>cases h';rfl
theorem iH:∀{us ws:List U},us.length≠ws.length->cP us ws=cc
 |[],[],h=>absurd rfl h
 |[],_::_,_=>rfl
 |_::_,[],_=>rfl
 |u::us,w::ws,h=>by
  rw[cP,iH (us:=us) (ws:=ws) (λe=>h (by simp[e])),Rn]
theorem ft:∀{us ws:List U},us.length=ws.length->cP us ws=(ko us.length).all λj=>cu (us.getD j .Gv) (ws.getD j .Gv)
 |[],[],_=>rfl
 |[],_::_,h=>by simp at h
 |_::_,[],h=>by simp at h
 |u::us,w::ws,h=>by
  have h':us.length=ws.length:=by simpa using h
  rw[cP,ft h',rz,List.range_succ_eq_map,Yq,YH];rfl
theorem D7{a its':List et}(c:us.length=a.length)(d:ws.length=its'.length):cP us ws=((ko (min a.toArray.size its'.toArray.size)).all (λj=>cu (us.getD j .Gv) (ws.getD j .Gv))&&a.toArray.size==its'.toArray.size):=by
 simp only[hQ];by_cases b:us.length=ws.length
 ·rw[ft b,show min a.length its'.length=us.length by lia,show(a.length==its'.length)=b8 by simp;lia,Yr]
 ·rw[iH b,show(a.length==its'.length)=cc by simp;lia,Rn]
theorem rS(b:G6 s n u y)(h:WY A s y x k)(hs:y=x->k=b8):QM A s y x k:=λprog w E Q a=>by
 unfold eqBool;refine vl ?_;refine wpAny_ite_split (λc=>?_) (λ_=>?_)
 ·rw[hs (eq_of_beq c)]at a;exact bD (NZ (c4 a))
 ·cases b<;>exact bD (h prog w E _ (Lg a))
theorem QA(r:∀m,m+1=n->∀{u w:U}{x f:et}{A:M0},G6 s m u x->G6 s m w f->A.units+m<KJ->QM A s x f (cu u w))(h:G6 s n u x)(h':G6 s n w f)(v:A.units+n<KJ):WY A s x f (cu u w)/\Yi A s x f (!cu u w):=by
 have a:A.units<KJ:=by lia
 have go:∀{m:Nat} {us ws:List U} {g its':List et},m+1=n->(∀j (t:j<g.length),G6 s m (us.getD j .Gv) g[j])->(∀j (t:j<its'.length),G6 s m (ws.getD j .Gv) its'[j])->∀j (i:j<g.toArray.size) (o:j<its'.toArray.size),QM A.in1 s g.toArray[j] its'.toArray[j] (cu (us.getD j .Gv) (ws.getD j .Gv)):=λ{m us ws g its'} e k k' j i o=>r m e (k j i) (k' j o) (by show A.units+1+m < _;lia);cases h with
 |Gv =>
  cases h' with
  |Gv=>exact⟨.none_none,.none_none⟩
  |bl=>exact⟨.none_bool _,.none_bool _⟩
  |int=>exact⟨.none_int _ _,.none_int _ _⟩
  |str=>exact⟨.none_str _ _,.none_str _ _⟩
  |tup c k' d b=>exact⟨.none_tuple b a,.none_tuple b a⟩
  |lst c k' d b=>exact⟨.none_list b a,.none_list b a⟩
 |bl =>
  cases h' with
  |Gv=>exact⟨.bool_none _,.bool_none _⟩
  |bl=>exact⟨.bool_bool _ _,.bool_bool _ _⟩
  |int=>exact⟨.bool_int _ _ _,.bool_int _ _ _⟩
  |str=>exact⟨.bool_str _ _ _,.bool_str _ _ _⟩
  |tup c k' d b=>exact⟨.bool_tuple _ b a,.bool_tuple _ b a⟩
  |lst c k' d b=>exact⟨.bool_list _ b a,.bool_list _ b a⟩
 |int =>
  cases h' with
  |Gv=>exact⟨.int_none _ _,.int_none _ _⟩
  |bl=>exact⟨.int_bool _ _ _,.int_bool _ _ _⟩
  |int=>exact⟨.int_int _ _ _ _,.int_int _ _ _ _⟩
  |str=>exact⟨.int_str _ _ _ _,.int_str _ _ _ _⟩
  |tup c k' d b=>exact⟨.int_tuple _ _ b a,.int_tuple _ _ b a⟩
  |lst c k' d b=>exact⟨.int_list _ _ b a,.int_list _ _ b a⟩
 |str =>
  cases h' with
  |Gv=>exact⟨.str_none _ _,.str_none _ _⟩
  |bl=>exact⟨.str_bool _ _ _,.str_bool _ _ _⟩
  |int=>exact⟨.str_int _ _ _ _,.str_int _ _ _ _⟩
  |str=>exact⟨.str_str _ _ _ _,.str_str _ _ _ _⟩
  |tup c k' d b=>exact⟨.str_tuple _ _ b a,.str_tuple _ _ b a⟩
  |lst c k' d b=>exact⟨.str_list _ _ b a,.str_list _ _ b a⟩
 |tup l k y p =>
  cases h' with
  |Gv=>exact⟨.tuple_none p a,.tuple_none p a⟩
  |bl=>exact⟨.tuple_bool _ p a,.tuple_bool _ p a⟩
  |int=>exact⟨.tuple_int _ _ p a,.tuple_int _ _ p a⟩
  |str=>exact⟨.tuple_str _ _ p a,.tuple_str _ _ p a⟩
  |tup c k' d b=>rw[show cu (.tup _) (.tup _)=_ from D7 l c];exact⟨.tuples p b a (go rfl k k'),.tuples p b a (go rfl k k')⟩
  |lst c k' d b=>exact⟨.tuple_list p b a,.tuple_list p b a⟩
 |lst l k y p =>
  cases h' with
  |Gv=>exact⟨.list_none p a,.list_none p a⟩
  |bl=>exact⟨.list_bool _ p a,.list_bool _ p a⟩
  |int=>exact⟨.list_int _ _ p a,.list_int _ _ p a⟩
  |str=>exact⟨.list_str _ _ p a,.list_str _ _ p a⟩
  |tup c k' d b=>exact⟨.list_tuple p b a,.list_tuple p b a⟩
  |lst c k' d b =>
   rename_i us _ _ ws _ _;by_cases q:us.length=ws.length
   ·rw[show cu (.lst us) (.lst ws)=_ from ft q,l,<-hQ];exact⟨.lists p b (by simp;lia) a (go rfl k k'),.lists p b (by simp;lia) a (go rfl k k')⟩
   ·rw[show cu (.lst us) (.lst ws)=cc from iH q];exact⟨.lists_lengths p b (by simp;lia) a,.lists_lengths p b (by simp;lia) a⟩
theorem D8:∀{n:Nat}{u w:U}{x a:et}{A:M0},G6 s n u x->G6 s n w a->A.units+n<KJ->QM A s x a (cu u w):=by
 intro n;induction n with
 |zero=>intro u w x a A h h' b;exact rS h (QA (λm e=>by cases e) h h' b).1 λe=>by subst e;rw[h.inj h'];exact h'.self
 |succ n c=>intro u w x a A h h' b;exact rS h (QA (λm e=>by cases e;exact c) h h' b).1 λe=>by subst e;rw[h.inj h'];exact h'.self
theorem D9(h:G6 s n u x)(h':G6 s n w a)(b:A.units+n<KJ):WY A s x a (cu u w)/\Yi A s x a (!cu u w):=QA (λm e=>by cases e;exact D8) h h' b
end
end TM
namespace TM
open PySem L2 PyProof.Rows
def GB(C:Ct)(m:M (Kd×U)):TE:=λσ H Q=>∃a:Cf,a.σ=σ/\a.H=H/\Ok C a/\W m a.st λr st'=>∀c v,c.σ=σ->c.st=st'->Ok C c->Nx a c->aP C a c r.1 r.2 v->Q v c.H
def HE(C:Ct)(m:M Bool):TT:=λσ H Q=>∃a:Cf,a.σ=σ/\a.H=H/\Ok C a/\W m a.st λb st'=>∀c,c.σ=σ->c.st=st'->Ok C c->Nx a c->Q b c.H
def cz(C:Ct)(a c:Cf):List (Kd×U)->List V->Prop
 |[],vs=>vs=[]
 |r::rs,vs=>∃v t,vs=v::t/\fm C a c r.1 r.2 v/\cz C a c rs t/\(r.1=.own->∀(i:Nat) b d,rs[i]?=a5 b->t[i]?=a5 d->b.1=.own->d≠v)
def HH(C:Ct)(m:M (List (Kd×U))):TA:=λσ H Q=>∃a:Cf,a.σ=σ/\a.H=H/\Ok C a/\W m a.st λrs st'=>∀c vs,c.σ=σ->c.st=st'->Ok C c->Nx a c->cz C a c rs vs->Q vs c.H
section
theorem PE.weak(h:PE X e t)(i:∀σ H Q,t' σ H Q->t σ H Q):PE X e t':=λa s σ H Q I q=>h a s σ H Q I (i σ H Q q)
theorem PT.weak(h:PT X e t)(i:∀σ H Q,t' σ H Q->t σ H Q):PT X e t':=λa s σ H Q I q=>h a s σ H Q I (i σ H Q q)
theorem cn{st:ax}:W (aB rs) st Q↔bo rs st/\Q () st:=by
 constructor
 ·rintro⟨a,st',e,h⟩;unfold aB at e;split at e
  ·cases e;exact⟨by assumption,h⟩
  ·cases e
 ·rintro⟨b,c⟩;exact⟨(),st,by unfold aB;rw[Zq b],c⟩
theorem fJ{st:ax}:bo (r::rs) st↔bo [r] st/\bo rs st:=by
 obtain⟨k,u⟩:=r;cases k<;>simp[bo]
theorem fm.t(h:fm C a c k u v)(s:bo [(k,u)] c.st):aP C a c k u v:=by
 cases k with
 |bor j=>exact⟨s.1,h⟩
 |_=>exact h
structure Nt(C:Ct)(c0 c:Cf)(x y:Kd×U)(vx vy:V):Prop where
 hσ:c.σ=c0.σ
 ok:Ok C c
 nx:Nx c0 c
 rx:aP C c0 c x.1 x.2 vx
 ry:aP C c0 c y.1 y.2 vy
 ne:x.1=.own->y.1=.own->vy≠vx
theorem nz(h:fm C j b k u v)(h':fm C b c k' u' d):k=.own->k'=.own->d≠v:=by
 rintro rfl rfl e;obtain⟨r,f,_,_,_,g⟩:=h;obtain⟨l,i,a,_⟩:=h';obtain⟨o,ho,_⟩:=g.some;subst f;rw[i]at e;cases e;rw[ho]at a;cases a
theorem two{k:Kd×U->Kd×U->M β}{Post:β->ax->Prop}{f:et->et->Sem α}{Q':et->et->α->gj->Prop}(O:PE X a (GB C Q))(T:PE X b (GB C B))(I:Inv X e d.σ d.H s)(Y:Ok C d)
  (h:W (Q >>= λx=>B >>= λy=>aB [x,y] >>= λ_=>k x y) d.st Post)
  (hf:∀x y c i l v u s2,Nt C d c x y i l->Inv X e c.σ c.H s2->RelV i v->RelV l u->W (k x y) c.st Post->eH (gs X.prog X.w) X.A (f v u) (Q' v u) X.xe s2) :
  eH (gs X.prog X.w) X.A (GV a X.env) (λv s₁=>eH (gs X.prog X.w) X.A (GV b X.env) (λu s₂=>eH (gs X.prog X.w) X.A (f v u) (Q' v u) X.xe s₂) X.xe s₁) X.xe s:=by
 rw[ah]at h;refine GC (O e s d.σ d.H (λi D=>∃x g,g.H=D/\g.σ=d.σ/\Ok C g/\Nx d g/\aP C d g x.1 x.2 i/\W (B >>= λy=>aB [x,y] >>= λ_=>k x y) g.st Post) I ⟨d,rfl,rfl,Y,h.mono λx st1 o g i p e2 q r z=>⟨x,g,rfl,p,q,r,z,by rw[e2];exact o⟩⟩) ?_;rintro v s1 ⟨i,D,I1,rv,x,g,rfl,p,q,r,z,o⟩;rw[ah]at o;refine GC (T e s1 d.σ g.H (λl G=>∃y j,j.H=G/\Nt C d j x y i l/\W (k x y) j.st Post) I1 ⟨g,p,rfl,q,o.mono λy st2 m j l J e4 GK L N=>?_⟩) ?_
 ·rw[ah,cn]at m;subst e4;rw[fJ]at m;exact⟨y,j,rfl,⟨J,GK,r.trans L,(z.w.on q L (J.trans p.symm)).t m.1.1,(N.from r),nz z.w N.w⟩,m.2⟩
 ·rintro u s2 ⟨l,G,I2,ru,y,j,rfl,n,m⟩;have hs:j.σ=d.σ:=n.hσ;exact hf x y j i l v u s2 n (by rw[hs];exact I2) rv ru m
structure Jo(C:Ct)(c0 c:Cf)(x:Kd×U)(vx:V):Prop where
 hσ:c.σ=c0.σ
 ok:Ok C c
 nx:Nx c0 c
 rx:aP C c0 c x.1 x.2 vx
theorem one{k:Kd×U->M β}{Post:β->ax->Prop}{f:et->Sem α}{Q':α->gj->Prop}(m:PE X a (GB C n))(I:Inv X b d.σ d.H s)(o:Ok C d)
  (h:W (n >>= λx=>k x) d.st Post)
  (p:∀x c e v s2,Jo C d c x e->Inv X b c.σ c.H s2->RelV e v->W (k x) c.st Post->eH (gs X.prog X.w) X.A (f v) Q' X.xe s2) :
  eH (gs X.prog X.w) X.A (GV a X.env) (λv q=>eH (gs X.prog X.w) X.A (f v) Q' X.xe q) X.xe s:=by
 rw[ah]at h;refine GC (m b s d.σ d.H (λe j=>∃x g,g.H=j/\Jo C d g x e/\W (k x) g.st Post) I ⟨d,rfl,rfl,o,h.mono λx st1 i g e r t u y z=>⟨x,g,rfl,⟨r,u,y,z⟩,by rw[t];exact i⟩⟩) ?_;rintro v s1 ⟨e,j,B,rv,x,g,rfl,l,i⟩;exact p x g e v s1 l (by rw[l.hσ];exact B) rv i
def bQ(C:Ct)(a:Cf)(Q:VK)(r:Kd×U)(st':ax):Prop:=∀c v,c.σ=a.σ->c.st=st'->Ok C c->Nx a c->aP C a c r.1 r.2 v->Q v c.H
section
theorem bQ.flat(h:bQ C a Q (.loc,u) c.st)(b:c.σ=a.σ)(d:Ok C c)(n:Nx a c)(r:Rep C c.S c.H u v):Q v c.H:=h c v b rfl d n r
theorem bQ.list(h:bQ C a Q (.own,.lst us) c.st)(b:c.σ=a.σ)(d:Ok C c)(n:Nx a c)(r:aq C c.S c.H us vs)(p:hH)(e:c.H p=b6):Q (.ref p) (upd c.H p (.lst vs)):=by
 obtain⟨f,g,i⟩:=d.newList n e r;exact h {c with H:=upd c.H p (.lst vs)} _ b rfl f g i
theorem bQ.tup(h:bQ C a Q (.loc,.tup us) c.st)(b:c.σ=a.σ)(d:Ok C c)(n:Nx a c)(r:aq C c.S c.H us vs)(p:hH)(e:c.H p=b6):Q (.ref p) (upd c.H p (.tup vs)):=by
 obtain⟨f,g,i⟩:=d.B1 n e r;exact h {c with H:=upd c.H p (.tup vs)} _ b rfl f g i
theorem bQ.tupK(h:bQ C d Q (kE k,.tup us) c.st)(e:c.σ=d.σ)(a:Ok C c)(n:Nx d c)(r:aq C (SK C c k) c.H us vs)(p:hH)(f:c.H p=b6):Q (.ref p) (upd c.H p (.tup vs)):=by
 obtain⟨g,b⟩:=a.lay (o:=.tup vs) f;refine h {c with H:=upd c.H p (.tup vs)} _ e rfl g (n.trans b) (aP.item ?_);cases k<;>exact⟨p,vs,rfl,Hh.of aw,by first|exact r.mv (a.K6 b)|exact r.mv (a.mv b)⟩
theorem c9(h:dZ k us=b8)(r:aq C (SK C c k) c.H us vs):aq C c.S c.H us vs:=by
 cases k with
 |any=>exact r.G5 (by simpa[dZ,isAny] using h)
 |_=>exact r
end
theorem Cg(k k':Kd):∀a,SK C c k a->SK C c (kT k k') a:=by
 intro a h;cases k<;>cases k'<;>first|exact h|exact .inr h
theorem zb(k k':Kd):∀a,SK C c k' a->SK C c (kT k k') a:=by
 intro a h;cases k<;>cases k'<;>first|exact h|exact .inr h
theorem D_(k k':Kd):kE (kT k k')=kT k k':=by cases k<;>cases k'<;>rfl
theorem zc:HS X (Nm .Add) (λx y H Q=>∃l b xs c,x=.ref l/\y=.ref b/\GY X.K H l xs/\GY X.K H b c/\xs.length+c.length<=dV/\∀p,H p=b6->Q (.ref p) (upd H p (.lst (xs++c)))):=by
 intro f s σ H x y v u Q I o t h;obtain⟨l,b,xs,c,rfl,rfl,w,A,hz,q⟩:=h;cases o;cases t;obtain⟨d,r,B,z⟩:=I.list w;obtain⟨e,g,C,O⟩:=I.list A;have hl:=r.length;have T:=g.length;obtain⟨⟨cls,dd,data,D⟩,ho,i,n,j⟩:=B.isList;obtain⟨⟨Y,G,data2,J⟩,k,m,L,a⟩:=C.isList;simp only at i j m a;subst i j m a;refine TH ⟨_,ho,rfl⟩ ⟨_,k,rfl⟩ noFill_list_add seq_list_add PySem.F.slot_list_add PySem.F.entry_list_add (PySem.F.args_list_add_2 _ _)
   (list_addW l b d.toArray e.toArray n L dd G D J (by rw[hQ,hQ];lia)) ⟨ho,k,?_⟩
 have N:d.toArray++e.toArray=(d++e).toArray:=by simp
 rw[N];exact⟨.ref _,_,I.F5 (t':=s.toks) (r.append g) (by rw[l'];lia),rfl,q _ I.fresh⟩
end
section
variable{X:Cx}{C:Ct}{pins:List (hH×Obj)}{s:gj}{c0 c:Cf}{Q:VK}
theorem wm:HS X (Nm .Add) (λx y H Q=>∃a b ys,x=.ref a/\y=.ref b/\Hh X.K H a []/\Hh X.K H b ys/\Q (.ref b) H):=by
 intro pins s σ H x y v u Q I j k h;obtain⟨a,b,ys,rfl,rfl,l,m,q⟩:=h;cases j;cases k;obtain⟨B,o,p,_⟩:=I.tuple l;obtain⟨r,D,p2,_⟩:=I.tuple m;cases o;obtain⟨⟨cls,dd,data,t⟩,ho,e,n,f⟩:=id p;obtain⟨⟨G,w,data2,z⟩,g,i,A,d⟩:=id p2;simp only at e f i d;subst e f i d;exact TH ⟨_,ho,rfl⟩ ⟨_,g,rfl⟩ UZ WX PySem.F.slot_tuple_add PySem.F.entry_tuple_add (PySem.F.args_tuple_add_2 _ _)
   (tuple_addW0 a b _ r.toArray n A dd w t z (by rfl)) ⟨ho,g,.ref b,H,I,rfl,q⟩
noncomputable def Ow.op:Ow->XX
 |.add=>.Add|.sub=>.Sub|.mul=>.Mult|.LM=>.FloorDiv|.mod=>.Mod|.pow=>.Pow
theorem eD(h:qc f a b=a5 r):∃i j o,a=.int i/\b=.int j/\f i j=a5 o/\r=(.loc,.int o):=by
 unfold qc at h;split at h
 ·rw[i1]at h;obtain⟨o,e,rfl⟩:=h;exact⟨_,_,o,rfl,rfl,e,rfl⟩
 ·cases h
theorem Ci(T:C.K=X.K)(t:Nt C c0 c x y g l)(I:Inv X pins c.σ c.H s)(z:RelV g v)(B:RelV l u)(h:JA op x y=a5 r)(q:bQ C c0 Q r c.st):
  eH (gs X.prog X.w) X.A (Nm op.op v u) (EP X pins c.σ Q) X.xe s:=by
 obtain⟨m,d,n,D,ty,_⟩:=t;cases op with
 |add =>
  have h:v9 x y=a5 r:=h;unfold v9 at h;split at h
  ·have ex:=D.int d;have e:=ty.int d;cases h;exact b_ pins s c.σ c.H g l v u Q I z B ⟨_,_,ex,e,q.flat m d n rfl⟩
  ·have ex:=D.str d;have e:=ty.str d;split at h
   ·cases h;exact pL pins s c.σ c.H g l v u Q I z B ⟨_,_,ex,e,by assumption,q.flat m d n rfl⟩
   ·cases h
  ·obtain⟨a,vs,ex,N,G⟩:=D.list d;obtain⟨b,ws,e,O,J⟩:=ty.list d;split at h
   ·rename_i L;cases h;exact zc pins s c.σ c.H g l v u Q I z B ⟨a,b,vs,ws,ex,e,T▸N,T▸O,by rw[<-G.len,<-J.len];exact L.1,λp Y=>q.list m d n ((c9 L.2.1 G).append (c9 L.2.2 J)) p Y⟩
   ·cases h
  ·rename_i k xs k' ys _ _;obtain⟨a,vs,ex,N,G⟩:=D.tuple d;obtain⟨b,ws,e,O,J⟩:=ty.tuple d;have JC:=N;have Mm:=O;rw[T]at JC Mm;split at h
   ·rename_i L;cases h;have m1:aq C (SK C c (kT k k')) c.H xs vs:=G.mv (.up (Cg k k'));have m2:aq C (SK C c (kT k k')) c.H ys ws:=J.mv (.up (zb k k'));have q':bQ C c0 Q (kE (kT k k'),.tup (xs++ys)) c.st:=by rw[D_];exact q
    by_cases e1:vs=[]
    ·subst e1;refine wm pins s c.σ c.H g l v u Q I z B ⟨a,b,ws,ex,e,JC,Mm,?_⟩;refine q' c (.ref b) m rfl d n (aP.item ⟨b,ws,rfl,O,?_⟩);have:xs=[]:=by have:=m1.len;simpa using this
     rw[this];exact m2
    ·refine yJ pins s c.σ c.H g l v u Q I z B ⟨a,b,vs,ws,ex,e,JC,Mm,e1,by rw[<-G.len,<-J.len];exact L,λe2=>?_,λ_ p Y=>q'.tupK m d n (m1.append m2) p Y⟩;subst e2;refine q' c (.ref a) m rfl d n (aP.item ⟨a,vs,rfl,N,?_⟩);have:ys=[]:=by have:=m2.len;simpa using this
     rw[this,y1];exact m1
   ·cases h
  ·cases h
 |sub =>
  obtain⟨i,j,o,ex,e,f,rfl⟩:=eD h;have ex:=(ex▸D).int d;have e:=(e▸ty).int d;cases f;exact pJ pins s c.σ c.H g l v u Q I z B ⟨_,_,ex,e,q.flat m d n rfl⟩
 |mul =>
  obtain⟨i,j,o,ex,e,f,rfl⟩:=eD h;have ex:=(ex▸D).int d;have e:=(e▸ty).int d;unfold yZ at f;split at f
  ·cases f;exact jE pins s c.σ c.H g l v u Q I z B ⟨_,_,ex,e,by assumption,q.flat m d n rfl⟩
  ·cases f
 |LM =>
  obtain⟨i,j,o,ex,e,f,rfl⟩:=eD h;have ex:=(ex▸D).int d;have e:=(e▸ty).int d;unfold y0 at f;split at f
  ·cases f;exact yC pins s c.σ c.H g l v u Q I z B ⟨_,_,ex,e,by assumption,q.flat m d n rfl⟩
  ·cases f
 |mod =>
  obtain⟨i,j,o,ex,e,f,rfl⟩:=eD h;have ex:=(ex▸D).int d;have e:=(e▸ty).int d;unfold y4 at f;split at f
  ·cases f;exact dW pins s c.σ c.H g l v u Q I z B ⟨_,_,ex,e,by assumption,q.flat m d n rfl⟩
  ·cases f
 |pow =>
  obtain⟨i,j,o,ex,e,f,rfl⟩:=eD h;have ex:=(ex▸D).int d;have e:=(e▸ty).int d;unfold y6 at f;split at f
  ·cases f;exact mM pins s c.σ c.H g l v u Q I z B ⟨_,_,ex,e,by assumption,q.flat m d n rfl⟩
  ·cases f
theorem zd(d:C.K=X.K)(f:PE X a (GB C g))(i:PE X b (GB C j)):PE X (.BinOp a k.op b pos) (GB C (g >>= λx=>j >>= λy=>aB [x,y] >>= λ_=>M.GJ (JA k x y))):=by
 rintro pins s σ H Q I ⟨c0,rfl,rfl,l,h⟩;refine wpAny_BinOp (two f i I l h λx y c p A v u s2 t m n o w=>?_);obtain⟨r,e,q⟩:=bG.mp w;exact GC (Ci d t m n o e q) λ_ _ z=>by rw[t.hσ]at z;exact z
noncomputable def Nr.op:Nr->CmpOp
 |.eq=>.Eq|.ne=>.NotEq|.lt=>.Lt|.le=>.LtE|.gt=>.Gt|.ge=>.GtE|.isin=>.In|.G0=>.NotIn|.is=>.Is|.LN=>.IsNot
theorem Ea{neg:Bool}(I:Inv X pins c.σ c.H s)(i:C.K=X.K)(L:X.A.units+60<KJ){S:hH->Prop}(n:Rep C S c.H x m)(o:RelV m v)(r:aq C S c.H ys vs)
  (ha:GY C.K c.H a vs\/Hh C.K c.H a vs) (t:ID 50 x=b8) (u:jY 50 ys=b8) {Q:et->gj->Prop} (q:Q (.bool (if neg then !(ys.any λy=>cu y x) else ys.any λy=>cu y x)) s) :
  eH (gs X.prog X.w) X.A (Le (if neg then .NotIn else .In) v (.ref a)) Q X.xe s:=by
 have z:=G6.of I i 50 x m v t n o;have go:∀d:List et,Vals vs d->∃e:et->Bool,(∀y,y∈d.toArray->QM X.A.in1 s y v (e y))/\d.toArray.any e=ys.any λy=>cu y x:=by
  intro d rv;obtain⟨l,k,_⟩:=G6.ua (G6.of I i 50) u r rv
  classical
  have q:∀j (b:j<d.length),d6 (∃w,G6 s 50 w d[j]/\cu w x=b8)=cu (ys.getD j .Gv) x:=λj b=>by
   rw[L5,decide_eq_true_iff];exact⟨λ⟨w,f,g⟩=>by rw[<-f.inj (k j b)];exact g,λh=>⟨_,k j b,h⟩⟩
  refine⟨λy=>d6 (∃w,G6 s 50 w y/\cu w x=b8),λy B=>?_,?_⟩
  ·obtain⟨j,b,e⟩:=Pn (show y∈d by simpa using B);subst e;show QM _ _ _ _ (decide _);rw[q j b];exact D8 (k j b) z (by show X.A.units+1+50 < _;lia)
  ·rw[L5];simp only[List.any_toArray,QK];constructor
   ·rintro⟨y,D,h⟩;obtain⟨j,b,rfl⟩:=Pn D;rw[q j b]at h;exact⟨_,Ki (l▸b),by simpa[l▸b] using h⟩
   ·rintro⟨w,G,J⟩;obtain⟨j,b,rfl⟩:=Pn G;exact⟨_,Ki (l▸b),by rw[q j (l▸b)];simpa[b] using J⟩
 rcases ha with ha|ha
 ·obtain⟨d,rv,p,_⟩:=rR I (i▸ha);obtain⟨e,f,g⟩:=go d rv;cases neg with
  |false=>exact SeqAt.in_listAt e p f (by rw[g];exact q)
  |true=>exact SeqAt.notIn_listAt e p f (by rw[g];exact q)
 ·rw[i]at ha;obtain⟨d,rv,p,_⟩:=I.tuple ha;obtain⟨e,f,g⟩:=go d rv;cases neg with
  |false=>exact SeqAt.in_tupleAt e p f (by rw[g];exact q)
  |true=>exact SeqAt.notIn_tupleAt e p f (by rw[g];exact q)
end
section
theorem cA:∀{us:List U}{ss:List Str},strsOf us=a5 ss->us=ss.map .str
 |[],ss,h=>by cases h;rfl
 |.str x::us,ss,h=>by
  simp only[strsOf,i1]at h;obtain⟨t,a,rfl⟩:=h;rw[cA a];rfl
 |.Gv::_,_,h=>by cases h
 |.bl _::_,_,h=>by cases h
 |.int _::_,_,h=>by cases h
 |.tup _::_,_,h=>by cases h
 |.lst _::_,_,h=>by cases h
 |.GD _ _::_,_,h=>by cases h
theorem iZ:∀{us:List U}{ns:List Int},intsOf us=a5 ns->us=ns.map .int
 |[],ns,h=>by cases h;rfl
 |u::us,ns,h=>by
  cases u<;>first|(cases h;done)|skip
  rename_i x;have h':(intsOf us).map (x::·)=a5 ns:=h;rw[i1]at h';obtain⟨ms,e,rfl⟩:=h';rw[iZ e];rfl
theorem aq.ints{S:hH->Prop}:∀{ns:List Int}{vs:List V},aq C S H (ns.map .int) vs->vs=ns.map V.int
 |[],vs,h=>h
 |n::ns,vs,h=>by
  obtain⟨v,r,rfl,a,b⟩:=h;rw[aq.ints b];have:v=.int n:=a;rw[this];rfl
theorem j6:∀{us:List U}{ss:List Bool},fZ us=a5 ss->us=ss.map .bl
 |[],ss,h=>by cases h;rfl
 |.bl x::us,ss,h=>by
  simp only[fZ,i1]at h;obtain⟨t,a,rfl⟩:=h;rw[j6 a];rfl
 |.Gv::_,_,h=>by cases h
 |.str _::_,_,h=>by cases h
 |.int _::_,_,h=>by cases h
 |.tup _::_,_,h=>by cases h
 |.lst _::_,_,h=>by cases h
 |.GD _ _::_,_,h=>by cases h
theorem aq.Sl{S:hH->Prop}:∀{xs:List Bool}{vs:List V},aq C S H (xs.map .bl) vs->vs=xs.map V.bl
 |[],vs,h=>h
 |x::xs,vs,h=>by
  obtain⟨v,r,rfl,a,b⟩:=h;rw[aq.Sl b];have:v=.bl x:=a;rw[this];rfl
def Cj(X:Cx)(a:List (hH×Obj))(c:Cf)(b:Bool)(v:et)(s':gj):Prop:=v=.bool b/\Inv X a c.σ c.H s'
theorem eU(o:HS X f r)(I:Inv X a c.σ c.H s)(g:RelV d v)(i:RelV e u)(h:r d e c.H λx H'=>x=.bl b/\H'=c.H):
  eH (gs X.prog X.w) X.A (f v u) (Cj X a c b) X.xe s :=
 GC (o a s c.σ c.H d e v u _ I g i h) λw s' j=>by
  obtain⟨z,H',k,r,l,m⟩:=j;subst l m;exact⟨r,k⟩
theorem aP.dict(g:Ok C c)(h:aP C i c k (.GD ks us) v):∃a kvs,v=.ref a/\c.H a=a5 (.dK kvs)/\kvs.map (·.1)=ks.map sx/\aq C (SK C c k) c.H us (kvs.map (·.2)):=by
 cases k with
 |own=>obtain⟨r,e,_,_,_,kvs,b,d,f⟩:=h;exact⟨r,kvs,e,b,d,f⟩
 |bor j=>obtain⟨r,e,_,_,_,kvs,b,d,f⟩:=g.rootOf h.1 h.2;exact⟨r,kvs,e,b,d,f⟩
 |io=>exact h.elim
 |Gq=>exact h.elim
 |_=>obtain⟨a,e,_,kvs,b,d,f⟩:=h;exact⟨a,kvs,e,b,d,f⟩
theorem dy{S:hH->Prop}:∀{ks:List Str}{us:List U}{kvs:List (Key×V)},kvs.map (·.1)=ks.map sx->aq C S H us (kvs.map (·.2)) ->
  (∀u,dN ks us x=a5 u->∃v,dm kvs (sx x)=a5 v/\Rep C S H u v)/\(dm kvs (sx x)).isSome=d6 (x∈ks)
 |[],us,kvs,a,b=>by
  have:kvs=[]:=by simpa using a
  subst this;exact⟨λu h=>by cases us<;>simp[dN]at h,by simp[dm]⟩
 |k::ks,us,[],a,b=>by simp at a
 |k::ks,[],p::kvs,a,b=>by simp[aq]at b
 |k::ks,j::us,p::kvs,a,b=>by
  obtain⟨v,r,e,d,f⟩:=b;rw[hW]at e;cases e;rw[hW,hW,Oq]at a;obtain⟨g,i⟩:=dy (x:=x) a.2 f;by_cases hk:k=x
  ·subst hk;refine⟨λu h=>?_,?_⟩
   ·simp[dN]at h;subst h;exact⟨p.2,d9 a.1,d⟩
   ·rw[d9 a.1];simp
  ·have c:¬p.1=sx x:=by rw[a.1];intro z;exact hk (Sh z)
   refine⟨λu h=>?_,?_⟩
   ·simp[dN,hk]at h;obtain⟨v,e,q⟩:=g u h;exact⟨v,by rw[d_ c];exact e,q⟩
   ·rw[d_ c,i];simp[uv hk]
theorem Rep.lO{S:hH->Prop}(h:Rep C S H u v):d6 (v=.Gv)=lO u:=by
 cases u with
 |Gv=>have:v=.Gv:=h;subst this;rfl
 |bl b=>have:v=.bl b:=h;subst this;rfl
 |int b=>have:v=.int b:=h;subst this;rfl
 |str b=>have:v=.str b:=h;subst this;rfl
 |GD ks us=>obtain⟨a,rfl,_⟩:=h;rfl
 |exc c=>obtain⟨a,rfl,_⟩:=h;rfl
 |_=>obtain⟨a,vs,rfl,_⟩:=h;rfl
theorem wo:HS X (Le .Is) (λx y H Q=>∃i j,x=.bl i/\y=.bl j/\Q (.bl (i==j)) H):=by
 intro a s σ H x y v u Q I b c h;obtain⟨i,j,rfl,rfl,q⟩:=h;cases b;cases c;cases i<;>cases j<;>exact c4 (mO I q rfl)
theorem qf:HS X (Le .IsNot) (λx y H Q=>∃i j,x=.bl i/\y=.bl j/\Q (.bl (!(i==j))) H):=by
 intro a s σ H x y v u Q I b c h;obtain⟨i,j,rfl,rfl,q⟩:=h;cases b;cases c;cases i<;>cases j<;>exact c4 (mO I q rfl)
theorem wq(hP:C.P=X.prog)(hw:C.w=X.w)(o:C.K=X.K)(G:X.A.units+60<KJ)(t:Nt C c0 c x y J N)(I:Inv X l c.σ c.H s)(f:RelV J v)(g:RelV N u)(h:cK O x.2 y.2=a5 b):
  eH (gs X.prog X.w) X.A (Le O.op v u) (Cj X l c b) X.xe s:=by
 obtain⟨hσ,d,n,i,ty,_⟩:=t;obtain⟨kx,Q⟩:=x;obtain⟨ky,T⟩:=y
 dsimp only at h i ty
 have q:∀neg:Bool,∀p,y7 Q T=a5 p->eH (gs X.prog X.w) X.A (Le (if neg then .NotIn else .In) v u) (Cj X l c (if neg then !p else p)) X.xe s:=by
  intro neg p h;have B:=i.read d;have L:=ty.read d;unfold y7 at h;split at h
  ·obtain⟨a,vs,rfl,m,r⟩:=L;cases g;unfold LP at h;split at h
   ·rename_i j;cases h;exact Ea I o G B f r (.inl m.sq) j.1 j.2 ⟨by cases neg<;>rfl,I⟩
   ·cases h
  ·obtain⟨a,vs,rfl,m,r⟩:=L;cases g;unfold LP at h;split at h
   ·rename_i j;cases h;exact Ea I o G B f r (.inr m) j.1 j.2 ⟨by cases neg<;>rfl,I⟩
   ·cases h
  ·cases h;have ex:J=_:=B;obtain⟨a,kvs,rfl,m,r,Y⟩:=ty.dict d;cases g;subst ex;have hs:=λz:Str=>(dy (x:=z) r Y).2;cases neg with
   |false=>exact DW ⋯ I (eN.k (k:=sx _) m) f λs' D=>⟨by rw[hs];rfl,D⟩
   |true=>exact rm ⋯ I (eN.k (k:=sx _) m) f λs' D=>⟨by rw[hs];rfl,D⟩
  ·cases h
 unfold cK at h;split at h
 ·split at h
  ·rename_i j;cases h;exact(D9 (n:=50) (.of I o _ _ _ _ j.1 (i.read d) f) (.of I o _ _ _ _ j.2 (ty.read d) g) ⋯).1 _ _ _ _ ⟨rfl,I⟩
  ·cases h
 ·split at h
  ·rename_i j;cases h;exact(D9 (n:=50) (.of I o _ _ _ _ j.1 (i.read d) f) (.of I o _ _ _ _ j.2 (ty.read d) g) ⋯).2 _ _ _ _ ⟨rfl,I⟩
  ·cases h
 ·cases h;exact eU DK I f g ⟨_,_,i.int d,ty.int d,rfl,rfl⟩
 ·cases h;exact eU DL I f g ⟨_,_,i.int d,ty.int d,rfl,rfl⟩
 ·cases h;exact eU DM I f g ⟨_,_,i.int d,ty.int d,rfl,rfl⟩
 ·exact q cc b h
 ·rw[i1]at h;obtain⟨p,m,rfl⟩:=h;exact q b8 p m
 ·cases h;have e:=ty.Gv d;exact eU Bz I f g ⟨e,by rw[(i.read d).lO],rfl⟩
 ·cases h;have e:=ty.Gv d;exact eU yD I f g ⟨e,by rw[(i.read d).lO],rfl⟩
 ·cases h;exact eU wo I f g ⟨_,_,i.bl d,ty.bl d,rfl,rfl⟩
 ·cases h;exact eU qf I f g ⟨_,_,i.bl d,ty.bl d,rfl,rfl⟩
 ·cases h
theorem ze(g:C.P=X.prog)(i:C.w=X.w)(j:C.K=X.K)(k:X.A.units+60<KJ)(l:PE X a (GB C m))(n:PE X b (GB C o))(p:Pq d.op b=cc):
  PE X (.Compare a [d.op] [b] pos) (GB C (m >>= λx=>o >>= λy=>aB [x,y] >>= λ_=>M.GJ (cK d x.2 y.2) >>= λc=>pure (.loc,.bl c))):=by
 rintro f s σ H Q I ⟨O,rfl,rfl,B,h⟩;refine wpAny_Compare1 (two l n I B h λx y c T Y v u s2 t D G J w=>?_) p;rw[ah]at w;obtain⟨r,e,q⟩:=bG.mp w;rw[ao]at q;refine GC (wq g i j k t D G J e) λz s' L=>?_;obtain⟨e,N⟩:=L;subst e;exact⟨.bl r,c.H,by rw[<-t.hσ];exact N,rfl,q c (.bl r) t.hσ rfl t.ok t.nx rfl⟩
theorem zf(i:C.P=X.prog)(j:C.w=X.w)(k:C.K=X.K)(l:X.A.units+60<KJ)(m:PE X a (GB C n))(o:PE X b (GB C p))(B:Pq g.op b=cc):
  PT X (.Compare a [g.op] [b] pos) (HE C (n >>= λx=>p >>= λy=>aB [x,y] >>= λ_=>M.GJ (cK g x.2 y.2))):=by
 rintro d s σ H Q I ⟨D,rfl,rfl,G,h⟩;refine Xx (two (f:=λv u=>Le g.op v u) (Q':=λ_ _ c s=>eH (gs X.prog X.w) X.A (Y8 c) (TP X d D.σ Q) X.xe s) m o I G h λx y c Y vy v u s2 t J L N w=>?_) B;obtain⟨r,e,q⟩:=bG.mp w;refine GC (wq i j k l t J L N e) λz s' O=>?_;obtain⟨e,T⟩:=O;subst e;exact Lg ⟨c.H,by rw[<-t.hσ];exact T,q c t.hσ rfl t.ok t.nx⟩
end
section
def Eb(C:Ct)(a:Cf)(Q:Bool->Hp->Prop)(b:Bool)(st':ax):Prop:=∀c,c.σ=a.σ->c.st=st'->Ok C c->Nx a c->Q b c.H
theorem qg(c:a.σ=b.σ)(d:Ok C a)(n:Nx b a)(h:W m a.st (bQ C b Q)):GB C m b.σ a.H Q :=
 ⟨a,c,rfl,d,h.mono λr st e f v g i j k l=>e f v g i j (n.trans k) (l.from n)⟩
theorem wu(c:a.σ=b.σ)(d:Ok C a)(n:Nx b a)(h:W m a.st (Eb C b Q)):HE C m b.σ a.H Q :=
 ⟨a,c,rfl,d,h.mono λr st e f g i j k=>e f g i j (n.trans k)⟩
theorem aM(b:Ok C a)(h:W (d >>= k) a.st Post)
  (hz:∀x c v,Jo C a c x v->W (k x) c.st Post->Z v c.H):GB C d a.σ a.H Z:=by
 rw[ah]at h;exact⟨a,rfl,rfl,b,h.mono λx st1 e f g i j l m n=>hz x f g ⟨i,l,m,n⟩ (by rw[j];exact e)⟩
theorem dF(d:Ok C a)(h:W (e >>= k) a.st Post)
  (hz:∀b c,c.σ=a.σ->Ok C c->Nx a c->W (k b) c.st Post->Z b c.H):HE C e a.σ a.H Z:=by
 rw[ah]at h;exact⟨a,rfl,rfl,d,h.mono λx st1 f g i j l m=>hz x g i l m (by rw[j];exact f)⟩
noncomputable def Ec(m:M (Kd×U))(x:Kd×U):M (Kd×U):=match x.2 with
 |.bl b8=>m
 |.bl cc=>pure (.loc,.bl cc)
 |_=>M.fail
noncomputable def Ed(x:Kd×U):M (Kd×U):=match x.2 with
 |.bl c=>pure (.loc,.bl !c)
 |_=>M.fail
theorem snd_and(g:PE X a (GB C i))(j:PE X (.BoolOp .And (b::rest) pos) (GB C l)):PE X (.BoolOp .And (a::b::rest) pos) (GB C (i >>= Ec l)):=by
 refine PE.weak (Bk g j) ?_;rintro σ H Q ⟨o,rfl,rfl,m,h⟩;refine aM m h λx c v t w=>?_;obtain⟨k,u⟩:=x;obtain⟨f,d,n,r⟩:=t;unfold Ec at w;split at w
 ·rename_i e
  dsimp only at e r
  subst e;exact⟨b8,r.bl d,by rw[Zq rfl];exact qg f d n w⟩
 ·rename_i e
  dsimp only at e r
  subst e;rw[ao]at w;exact⟨cc,r.bl d,by rw[Zr mu];exact w c (.bl cc) f rfl d n rfl⟩
 ·exact(bb.mp w).elim
theorem zg(d:PE X a (GB C f)):PE X (.UnaryOp .Not a pos) (GB C (f >>= Ed)):=by
 refine PE.weak (Bl d) ?_;rintro σ H Q ⟨j,rfl,rfl,g,h⟩;refine aM g h λx c v t w=>?_;obtain⟨k,u⟩:=x;obtain⟨i,b,n,r⟩:=t;unfold Ed at w;split at w
 ·rename_i e
  dsimp only at e r
  subst e;rw[ao]at w;exact⟨_,r.bl b,w c (.bl _) i rfl b n rfl⟩
 ·exact(bb.mp w).elim
theorem zh(g:PT X d (HE C i))(j:PE X a (GB C k))(l:PE X b (GB C m)):PE X (.IfExp d a b pos) (GB C (i >>= λp=>if p=b8 then k else m)):=by
 refine PE.weak (uW g j l) ?_;rintro σ H Q ⟨q,rfl,rfl,o,h⟩;refine dF o h λp c e f n w=>?_;cases p with
 |true=>rw[Zq rfl]at w ⊢;exact qg e f n w
 |false=>rw[Zr mu]at w ⊢;exact qg e f n w
theorem zi(d:PT X a (HE C e)):PT X (.UnaryOp .Not a pos) (HE C (e >>= λb=>pure !b)):=by
 refine PT.weak (Bi d) ?_;rintro σ H Q ⟨j,rfl,rfl,f,h⟩;refine dF f h λp c g i n w=>?_;rw[ao]at w;exact w c g rfl i n
theorem zj(i:PT X a (HE C j))(k:PW X (.BoolOp .And (b::rest) pos) (HE C l)):PW X (.BoolOp .And (a::b::rest) pos) (HE C (j >>= λp=>if p=b8 then l else pure cc)):=by
 have m:=Bh i k;rintro o d s σ H Q I ⟨e,rfl,rfl,q,h⟩;refine m o d s e.σ e.H Q I (dF q h λp c f g n w=>?_);cases p with
 |true=>rw[Zq rfl]at w ⊢;exact wu f g n w
 |false=>rw[Zr mu]at w ⊢;rw[ao]at w;exact w c f rfl g n
theorem Cm(i:PT X a (HE C j))(k:PW X (.BoolOp .Or (b::rest) pos) (HE C l)):PW X (.BoolOp .Or (a::b::rest) pos) (HE C (j >>= λp=>if p=b8 then pure b8 else l)):=by
 have m:=Dw i k;rintro o d s σ H Q I ⟨e,rfl,rfl,q,h⟩;refine m o d s e.σ e.H Q I (dF q h λp c f g n w=>?_);cases p with
 |true=>rw[Zq rfl]at w ⊢;rw[ao]at w;exact w c f rfl g n
 |false=>rw[Zr mu]at w ⊢;exact wu f g n w
theorem rT{us:List α}{vs:List β}(h:us.length=vs.length):(!us.isEmpty)=!vs.isEmpty:=by
 cases us<;>cases vs<;>simp_all
theorem gZ(j:PE X a (GB C l))(i:C.K=X.K)(m:∀b,isTrue a X.env b=(do let v <-b;V2 a.pos;LG [v] (Y8 v))):PT X a (HE C (l >>= λx=>M.GJ (t6 x.2))):=by
 refine PT.weak (vc j m) ?_;rintro σ H Q ⟨y,rfl,rfl,o,h⟩;refine aM o h λx c v t w=>?_;obtain⟨k,u⟩:=x;obtain⟨s,d,n,r⟩:=t;obtain⟨p,e,q⟩:=bG.mp w
 dsimp only at e r
 refine⟨p,?_,q c s rfl d n⟩;unfold t6 at e;split at e
 ·cases e;rw[r.bl d];rfl
 ·cases e;obtain⟨a,vs,rfl,f,g⟩:=r.list d;exact .inl ⟨vs,i▸f,rT g.len⟩
 ·cases e;obtain⟨a,vs,rfl,f,g⟩:=r.tuple d;rw[i]at f;exact .inr (.inl ⟨vs,f,rT g.len⟩)
 ·split at e
  ·cases e;rw[r.str d];exact⟨by assumption,rfl⟩
  ·cases e
 ·cases e
end
section
theorem cz.from(n:Nx a b):cz C b c rs vs->cz C a c rs vs:=by
 intro h;induction rs generalizing vs with
 |nil=>exact h
 |cons r rs d=>obtain⟨v,t,e,f,g,i⟩:=h;exact⟨v,t,e,f.from n,d g,i⟩
theorem cz.get{i:Nat}(h:cz C b c rs vs)(e:rs[i]?=a5 r)(a:vs[i]?=a5 v):fm C b c r.1 r.2 v:=by
 induction rs generalizing vs i with
 |nil=>simp at e
 |cons j rs d =>
  obtain⟨k,t,rfl,f,g,l⟩:=h;cases i with
  |zero=>simp at e a;subst e a;exact f
  |succ i=>exact d g (by simpa using e) (by simpa using a)
theorem zk:PA X [] (HH C (pure [])):=by
 rintro pos a s σ H Q I ⟨b,rfl,rfl,c,h⟩;rw[ao]at h;exact dB pos a s b.σ b.H Q I (h b [] rfl rfl c (Nx.refl b) rfl)
theorem wx(j:PE X e (GB C m))(k:PA X es (HH C ms))(hs:ke (e::es) X.env=(cc,GV e X.env)::ke es X.env):PA X (e::es) (HH C (m >>= λr=>ms >>= λrs=>pure (r::rs))):=by
 rintro pos a s σ H Q I ⟨b,rfl,rfl,l,h⟩;refine bH j k hs pos a s b.σ b.H Q I (aM l h λr n v t w=>?_);rw[ah]at w;refine⟨n,t.hσ,rfl,t.ok,w.mono λrs st2 c o vs d p q f g=>?_⟩;rw[ao]at c;refine c o (v::vs) d p q (t.nx.trans f) ⟨v,vs,rfl,t.rx.w.on t.ok f (d.trans t.hσ.symm),g.from t.nx,λhk i z A u x y=>?_⟩;exact nz t.rx.w (g.get u x) hk y
structure Jd(C:Ct)(c0 c:Cf)(rs:List (Kd×U))(vs:List V):Prop where
 hσ:c.σ=c0.σ
 ok:Ok C c
 nx:Nx c0 c
 rep:cz C c0 c rs vs
 Nu:bo rs c.st
theorem args{k:List (Kd×U)->M β}{Post:β->ax->Prop}(g:PA X es (HH C ms))(I:Inv X a b.σ b.H s)(i:Ok C b)(h:W (ms >>= λrs=>aB rs >>= λ_=>k rs) b.st Post)(pos:Pos):
  eH (gs X.prog X.w) X.A (Yv (HR pos (ke es X.env))) (λus s1=>∃rs c vs,Jd C b c rs vs/\Inv X a c.σ c.H s1/\Vals vs us/\W (k rs) c.st Post) X.xe s:=by
 rw[ah]at h;refine GC (g pos a s b.σ b.H (λvs f=>∃rs c,c.H=f/\Jd C b c rs vs/\W (k rs) c.st Post) I ⟨b,rfl,rfl,i,h.mono λrs st1 d e vs j l m n o=>?_⟩) ?_
 ·rw[ah,cn]at d;subst l;exact⟨rs,e,rfl,⟨j,m,n,o,d.1⟩,d.2⟩
 ·rintro us s1 ⟨vs,f,p,rv,rs,e,rfl,t,w⟩;exact⟨rs,e,vs,t,by rw[t.hσ];exact p,rv,w⟩
theorem Jd.one(t:Jd C a c [r] vs):∃v,vs=[v]/\aP C a c r.1 r.2 v:=by
 obtain⟨v,t',rfl,b,d,_⟩:=t.rep;cases d;exact⟨v,rfl,b.t t.Nu⟩
theorem Ok.share(b:Ok C c)(g:C.H₀ r=b6)(h:∃o,c.H r=a5 o)(hl:st'.length=c.st.length)
  (d:∀(i:Nat) k u,st'[i]?=a5 (a5 (k,u))->(∃v,c.σ[i]?=a5 (a5 v)/\fk C (λa=>c.S a\/a=r) c.H k u v)/\(k.root=b8->c.st[i]?=a5 (a5 (k,u)))) (l:Jy C {c with S:=λa=>c.S a\/a=r,st:=st' }) :
  Ok C {c with S:=λa=>c.S a\/a=r,st:=st' }:=by
 refine⟨b.same,λa z=>?_,b.par,b.io,by rw[show({c with S:=λa=>c.S a\/a=r,st:=st' }:Cf).st.length=st'.length from rfl,hl];exact b.len,λi k u e=>(d i k u e).1,λi j k k' u u' m hk f n p q s=>?_,l⟩
 ·rcases z with z|rfl
  ·exact b.Iu a z
  ·exact⟨g,h⟩
 ·exact b.inj i j k k' u u' m hk f ((d i k u n).2 hk) ((d j k' u' p).2 f) q s
theorem Ok.Cn(s:Ok C d)(b:Ok C c)(n:Nx d c)(f:d.H r=b6)(g:¬c.R r)(t:cJ C c.S c.H r u):
  Ok C {c with S:=λa=>c.S a\/a=r}/\Nx d {c with S:=λa=>c.S a\/a=r}:=by
 obtain⟨o,ho,_⟩:=t.some;refine⟨b.share (st':=c.st) (s.jX f).1 ⟨o,ho⟩ rfl (λi k u e=>⟨?_,λ_=>e⟩) (b.dd.hs (.up λa=>.inl) λj a z=>⟨λq=>q.elim (b.root (.inr ⟨j,z⟩)).1 λe=>g (.inr ⟨j,e▸z⟩),λo q=>q⟩),⟨⟨n.keep,n.there,n.roots,λa z=>.inl (n.sub a z),λa z=>?_⟩⟩⟩
 ·obtain⟨v,h,l⟩:=b.sl i k u e;have w:Mv c.S c.H (λa=>c.S a\/a=r) c.H:=.up λa=>.inl;refine⟨v,h,l.mv w (.up λa z=>z.imp id .inl) λhk y m=>⟨?_,λo q=>q⟩⟩;obtain⟨A,p,x,_⟩:=l.rt hk;rw[m]at p;cases p;rintro(z|rfl)
  ·exact x z
  ·exact g (.inl ⟨i,k,u,hk,e,by rw[h,m]⟩)
 ·rcases z with z|rfl
  ·exact n.new a z
  ·exact .inr (.inr f)
theorem Ok.wy(d:Ok C c)(n:Nx G c)(g:c.st[j]?=a5 (a5 (.own,u)))(h:c.σ[j]?=a5 (a5 (.ref r))):
  Ok C {c with S:=λa=>c.S a\/a=r,st:=c.st.set j (a5 (.loc,u))}/\Nx G {c with S:=λa=>c.S a\/a=r,st:=c.st.set j (a5 (.loc,u))}/\Rep C (λa=>c.S a\/a=r) c.H u (.ref r):=by
 obtain⟨Y,f,l,m,q1,q2,I,x⟩:=d.sl j _ _ g;rw[h]at f;cases f;cases m;have y:Rep C (λa=>c.S a\/a=r) c.H u (.ref r):=x.rep (λa=>.inl) (.inr rfl);obtain⟨o,ho,_⟩:=x.some;have s:j<c.st.length:=(ez.mp g).1;have t:∀(i:Nat) k u',(c.st.set j (a5 (.loc,u)))[i]?=a5 (a5 (k,u'))->i≠j->c.st[i]?=a5 (a5 (k,u')):=λi k u' e ne=>by rw[i0 (uv ne)]at e;exact e
 have J:c.R1 r:=⟨j,.own,u,rfl,g,h⟩
 have A:∀(i:Nat) (u':U),(c.st.set j (a5 (.loc,u)))[i]?=a5 (a5 (.Gq,u'))->c.st[i]?=a5 (a5 (.Gq,u')):=λi u' e=>by
  by_cases b:i=j
  ·subst b;rw[fx s]at e;cases e
  ·exact t i .Gq u' e b
 have B:∀a,({c with S:=λa=>c.S a\/a=r,st:=c.st.set j (a5 (.loc,u))}:Cf).R1 a->c.R1 a:=λa L=>by
  obtain⟨i,k,u',hk,e,N⟩:=L;by_cases b:i=j
  ·subst b;rw[fx s]at e;cases e;cases hk
  ·exact⟨i,k,u',hk,t i k u' e b,N⟩
 have O:Jy C {c with S:=λa=>c.S a\/a=r,st:=c.st.set j (a5 (.loc,u))}:=d.dd.of rfl (λi u' e=>⟨A i u' e,rfl⟩) (λa z=>.inl (B a z)) (.up λa=>.inl) λi a z=>⟨λq=>q.elim (d.root (.inr ⟨i,z⟩)).1 λe=>d.dd.d1 i a z (e▸J),λo q=>q⟩
 refine⟨d.share (st':=c.st.set j (a5 (.loc,u))) I ⟨o,ho⟩ (by simp) (λi k u' e=>?_) O,⟨⟨n.keep,n.there,λa z=>?_,λa z=>.inl (n.sub a z),λa z=>?_⟩⟩,y⟩
 ·by_cases b:i=j
  ·subst b;rw[fx s]at e;cases e;exact⟨⟨.ref r,h,y⟩,λz=>nomatch z⟩
  ·have w:=t i k u' e b;obtain⟨v,f,p⟩:=d.sl i k u' w;refine⟨⟨v,f,p.mv (.up λa=>.inl) (.up λa z=>z.imp id .inl) λhk l m=>⟨?_,λo q=>q⟩⟩,λ_=>w⟩;obtain⟨OC,D,Q,_⟩:=p.rt hk;rw[m]at D;cases D;rintro(z|rfl)
   ·exact Q z
   ·exact b (d.inj i j k .own u' u l hk rfl w g (by rw[f,m]) h)
 ·rcases z with z|⟨i,u',l,f,p,T⟩
  ·exact n.roots a (.inl (B a z))
  ·exact n.roots a (.inr ⟨i,u',l,A i u' f,p,T⟩)
 ·rcases z with z|rfl
  ·exact n.new a z
  ·rcases n.roots a (.inl ⟨j,.own,u,rfl,g,h⟩) with z|z
   ·exact .inr (.inl z)
   ·exact .inr (.inr z)
theorem g9(B:Ok C l)(b:Ok C c)(n:Nx l c)(d:fm C l c r.1 r.2 v)(h:W (lift r) c.st Post):
  ∃(S':hH->Prop) (st':ax) (u:U),(∀a,c.S a->S' a)/\Ok C {c with S:=S',st:=st' }/\Nx l {c with S:=S',st:=st' }/\Rep C S' c.H u v/\Post u st' /\
   (∀a,S' a->c.S a\/v=.ref a/\(r.1=.own\/c.R a))/\∀a,({c with S:=S',st:=st' }:Cf).R a->c.R a:=by
 obtain⟨k,u⟩:=r;cases k with
 |own =>
  rw[show lift (.own,u)=pure u from rfl,ao]at h;obtain⟨r,e,D,O,G,y⟩:=d;obtain⟨m,o⟩:=Ok.Cn B b n D G y;refine⟨_,c.st,u,λa=>.inl,m,o,by rw[e];exact y.rep (λa=>.inl) (.inr rfl),h,λa z=>?_,λa z=>z⟩;rcases z with z|rfl
  ·exact .inl z
  ·exact .inr ⟨e,.inl rfl⟩
 |loc =>
  rw[show lift (.loc,u)=pure u from rfl,ao]at h;exact⟨c.S,c.st,u,λa=>id,b,n,d,h,λa z=>.inl z,λa z=>z⟩
 |any =>
  rw[show lift (.any,u)=if G5 u=b8 then pure u else M.fail from rfl]at h;split at h
  ·rw[ao]at h;exact⟨c.S,c.st,u,λa=>id,b,n,Rep.G5 (by assumption) d,h,λa z=>.inl z,λa z=>z⟩
  ·exact(bb.mp h).elim
 |bor j =>
  obtain⟨x,st',e,I⟩:=h;rw[show lift (.bor j,u) c.st=match c.st[j]? with|some (a5 (.own,u))=>a5 (Ex.ok u,c.st.set j (a5 (.loc,u)))|_=>b6 from rfl]at e;split at e
  ·rename_i w f;cases e;obtain⟨Q,A,r,J,_⟩:=b.sl j _ _ f;have p:c.σ[j]?=a5 (a5 v):=d;rw[p]at A;cases A;subst J;obtain⟨m,o,q⟩:=b.wy n f p;refine⟨_,_,_,λa=>.inl,m,o,q,I,λa z=>?_,λa z=>?_⟩
   ·rcases z with z|rfl
    ·exact .inl z
    ·exact .inr ⟨rfl,.inr (.inl ⟨j,.own,_,rfl,f,p⟩)⟩
   ·rcases z with⟨i,k,u',hk,e,s⟩|⟨i,u',L,e,s,N⟩
    rotate_left 1
    ·by_cases g:i=j
     ·subst g;have t:i<c.st.length:=(ez.mp f).1;rw[fx t]at e;cases e
     ·rw[i0 (uv g)]at e;exact .inr ⟨i,u',L,e,s,N⟩
    by_cases g:i=j
    ·subst g;have t:i<c.st.length:=(ez.mp f).1;rw[fx t]at e;cases e;cases hk
    ·rw[i0 (uv g)]at e;exact .inl ⟨i,k,u',hk,e,s⟩
  ·cases e
 |_=>exact d.elim
theorem g_:∀{rs:List (Kd×U)}{vs:List V}{c:Cf}{Post:List U->ax->Prop},Ok C b->Ok C c->Nx b c->cz C b c rs vs->W (cL rs) c.st Post ->
  ∃(S':hH->Prop) (st':ax) (us:List U),(∀a,c.S a->S' a)/\Ok C {c with S:=S',st:=st' }/\Nx b {c with S:=S',st:=st' }/\aq C S' c.H us vs/\Post us st'
 |[],vs,c,Post,m,p,n,s,h=>by
  rw[show cL []=pure [] from rfl,ao]at h;exact⟨c.S,c.st,[],λa=>id,p,n,s,h⟩
 |r::rs,vs,c,Post,m,p,n,s,h=>by
  obtain⟨v,t,rfl,J,L,N⟩:=s;rw[show cL (r::rs)=lift r >>= λu=>cL rs >>= λus=>pure (u::us) from rfl,ah]at h;obtain⟨S1,st1,u,s1,O,Q,d,x,T,Y⟩:=g9 m p n J h;rw[ah]at x;have Nv:cz C b {c with S:=S1,st:=st1} rs t:=by
   clear h x;have y:∀(l:List (Kd×U)) (w:List V),cz C b c l w->(r.1=.own->∀(i:Nat) g j,l[i]?=a5 g->w[i]?=a5 j->g.1=.own->j≠v)->cz C b {c with S:=S1,st:=st1} l w:=by
    intro l;induction l with
    |nil=>intro w q _;exact q
    |cons r2 l ih =>
     intro w q A;obtain⟨B,D,rfl,k,q2,q3⟩:=q;refine⟨B,D,rfl,?_,ih D q2 (λhk i g j e1 e2 GS=>A hk (i+1) g j (by simpa using e1) (by simpa using e2) GS),q3⟩;obtain⟨k2,u2⟩:=r2;cases k2 with
     |own =>
      obtain⟨a,e,p1,p2,G,p4⟩:=k;refine⟨a,e,p1,λz=>?_,λz=>G (Y a z),p4.mv (.up s1) λo q=>q⟩;rcases T a z with z|⟨z,z'|z'⟩
      ·exact p2 z
      ·exact A z' 0 _ B rfl rfl rfl (e.trans z.symm)
      ·exact G z'
     |loc=>exact Rep.mv (.up s1) k
     |any=>exact Rep.mv (.up λa z=>z.imp id (s1 a)) k
     |_=>exact k
   exact y rs t L N
  obtain⟨S2,st2,us,s2,GK,n2,f,I⟩:=g_ (c:={c with S:=S1,st:=st1}) m O Q Nv x;rw[ao]at I;exact⟨S2,st2,u::us,λa z=>s2 a (s1 a z),GK,n2,⟨v,t,rfl,d.mv (.up s2),f⟩,I⟩
theorem zl(j:PA X es (HH C ms)):PE X (.Tuple es x1 pos) (GB C (ms >>= λrs=>aB rs >>= λ_=>cL rs >>= λus=>if us.length<=dV then pure (.loc,.tup us) else M.fail)):=by
 rintro a s σ H Q I ⟨k,rfl,rfl,g,h⟩;refine X7 (GC (args j I g h pos) λus s1 l=>?_);obtain⟨rs,c,vs,t,i,rv,w⟩:=l;rw[ah]at w;obtain⟨S',st',ws,q,m,n,d,f⟩:=g_ g t.ok t.nx t.rep w;split at f
 ·rename_i hz;rw[ao]at f;have hl:vs.length<=dV:=by rw[<-d.len];exact hz
  refine⟨by rw[<-rv.length];exact hl,?_⟩;have o:c.H s1.heap.objs.size=b6:=i.Gz.fresh (i3 _);have p:Inv X a k.σ c.H s1:=by rw[<-t.hσ];exact i
  refine⟨.ref s1.heap.objs.size,upd c.H s1.heap.objs.size (.tup vs),p.laid (t':=s1.toks) (λb u e=>df _ e) (i3 _) ⟨hl,us,rv,Xq _ _⟩,rfl,?_⟩;exact bQ.tup (c:={c with S:=S',st:=st' }) f t.hσ m n d _ o
 ·exact(bb.mp f).elim
theorem zm(j:PA X es (HH C ms)):PE X (.List es pos) (GB C (ms >>= λrs=>aB rs >>= λ_=>cL rs >>= λus=>if us.length<=dV then pure (.own,.lst us) else M.fail)):=by
 rintro a s σ H Q I ⟨k,rfl,rfl,g,h⟩;refine wpAny_List_spliced (GC (args j I g h pos) λus s1 l=>?_);obtain⟨rs,c,vs,t,i,rv,w⟩:=l;rw[ah]at w;obtain⟨S',st',ws,q,m,n,d,f⟩:=g_ g t.ok t.nx t.rep w;split at f
 ·rename_i hz;rw[ao]at f;have hl:vs.length<=dV:=by rw[<-d.len];exact hz
  refine⟨by rw[<-rv.length];exact hl,?_⟩;have o:c.H s1.heap.objs.size=b6:=i.Gz.fresh (i3 _);have p:Inv X a k.σ c.H s1:=by rw[<-t.hσ];exact i
  refine⟨.ref s1.heap.objs.size,upd c.H s1.heap.objs.size (.lst vs),p.laid (t':=s1.toks) (λb u e=>df _ e) (i3 _) ⟨hl,us,0,rv,hY _ rfl⟩,rfl,?_⟩;exact bQ.list (c:={c with S:=S',st:=st' }) f t.hσ m n d _ o
 ·exact(bb.mp f).elim
end
section
theorem nA(f:X.N[i]?=a5 x)(g:Ib X.env.scope x)(l:(x==("__debug__":Str))=cc)(m:(x==("__classdict__":Str))=cc):PE X (.Name x pos) (GB C (c8 i)):=by
 refine PE.weak (bE f g l m) ?_;rintro σ H Q ⟨b,rfl,rfl,c,r,st',e,h⟩;unfold c8 at e;split at e
 ·cases e
 ·rename_i k u n hs;cases e;obtain⟨v,d,a⟩:=c.sl i k u hs;refine⟨v,d,h b v rfl rfl c (Nx.refl b) ?_⟩;by_cases hk:k.root=b8
  ·rw[Zq hk];exact⟨⟨k,hk,hs⟩,d⟩
  ·rw[Zr hk];cases k with
   |loc=>exact a
   |any=>exact a
   |bor j=>exact a.elim
   |Gq=>exact(n rfl).elim
   |_=>exact absurd rfl hk
 ·cases e
theorem ju(h:PE X e (tC v))(r:∀S H,Rep C S H u v):PE X e (GB C (pure (.loc,u))):=by
 refine PE.weak h ?_;rintro σ H Q ⟨a,rfl,rfl,b,h⟩;rw[ao]at h;exact h a v rfl rfl b (Nx.refl a) (r _ _)
theorem bQ.root(h:bQ C b Q (.own,u) c.st)(e:c.σ=b.σ)(d:Ok C c)(n:Nx b c)(p:hH)(a:c.H p=b6)(r:cJ C c.S (upd c.H p o) p u):Q (.ref p) (upd c.H p o):=by
 obtain⟨f,g⟩:=d.lay (o:=o) a;obtain⟨k,i,l,m,j⟩:=d.jX a;exact h {c with H:=upd c.H p o} _ e rfl f (n.trans g) ⟨p,rfl,n.none a,i,j,r⟩
theorem wz(d:C.P=X.prog)(e:C.w=X.w)(r:Bool):PE X (.Dict [] [] pos) (GB C (pure (.own,.GD [] []))):=by
 refine PE.weak oi ?_;rintro σ H Q ⟨a,rfl,rfl,b,h⟩ p c;rw[ao]at h;exact bQ.root h rfl b (Nx.refl a) p c ⟨[],aw,rfl,rfl⟩
theorem aq.Hs{S:hH->Prop}(h:aq C S H us vs)(e:Hs us i=a5 u):∃v,L2.Hs vs i=a5 v/\Rep C S H u v:=by
 unfold L2.Hs at e ⊢;rw[h.len]at e;cases q:Kn vs.length i with
 |none=>rw[q]at e;cases e
 |some j =>
  rw[q]at e;exact h.get e
theorem Co(L:C.K=X.K)(O:X.A.units+60<KJ)(hs:mS b)(t:Nt C N c x y g j)(I:Inv X d c.σ c.H s)(m:RelV g v)(o:RelV j u)(h:gT x y.2=a5 r)(q:bQ C N Q r c.st):
  eH (gs X.prog X.w) X.A (SR a b v u) (EP X d c.σ Q) X.xe s:=by
 obtain⟨p,f,n,z,ty,-⟩:=t;obtain⟨T,Y⟩:=y
 dsimp only at h ty
 unfold gT at h;split at h
 ·rename_i k xs i;rw[i1]at h;obtain⟨w,e,rfl⟩:=h;obtain⟨B,vs,ex,l,D⟩:=z.list f;obtain⟨vw,G,J⟩:=D.Hs e;exact yK a b d s c.σ c.H g j v u Q I m o ⟨B,vs,i,vw,ex,ty.int f,L▸l,G,q c vw p rfl f n (aP.item J)⟩ (hs _ _)
 ·rename_i k xs i;rw[i1]at h;obtain⟨w,e,rfl⟩:=h;obtain⟨B,vs,ex,l,D⟩:=z.tuple f;obtain⟨vw,G,J⟩:=D.Hs e;rw[L]at l;exact mT a b d s c.σ c.H g j v u Q I m o ⟨B,vs,i,vw,ex,ty.int f,l,G,q c vw p rfl f n (aP.item J)⟩ (hs _ _)
 ·split at h
  ·rw[i1]at h;obtain⟨w,e,rfl⟩:=h;exact mU a b d s c.σ c.H g j v u Q I m o ⟨_,_,w,z.str f,ty.int f,by assumption,e,q c _ p rfl f n rfl⟩ (hs _ _)
  ·cases h
 ·cases h
theorem zo(f:C.K=X.K)(g:X.A.units+60<KJ)(hs:mS b)(i:PE X a (GB C j))(k:PE X b (GB C l)):PE X (.Subscript a b pos) (GB C (j >>= λx=>l >>= λy=>aB [x,y] >>= λ_=>M.GJ (gT x y.2))):=by
 rintro d s σ H Q I ⟨B,rfl,rfl,m,h⟩;refine Ym (two i k I m h λx y c D G v u s2 t n o p w=>?_);obtain⟨r,e,q⟩:=bG.mp w;exact GC (Co f g hs t n o p e q) λ_ _ z=>by rw[t.hσ]at z;exact z
theorem aq.cut{S:hH->Prop}(h:aq C S H us vs)(lo a:Option Int):aq C S H (TM.cut us lo a) (tE vs lo a):=by
 unfold TM.cut tE;rw[h.len];exact(h.drop _).take _
end
section
end
section
variable{X:Cx}{C:Ct}{pins:List (hH×Obj)}{s:gj}{c0 c c1:Cf}
variable{a b d e:rr}{es:List rr}{m ma mb md:M (Kd×U)}{ms:M (List (Kd×U))}{ta tb:M Bool}{pos p p2:Pos}
def tO(C:Ct)(m:M (Option Int)):TO:=λσ H Q=>∃c0:Cf,c0.σ=σ/\c0.H=H/\Ok C c0/\W m c0.st λi st'=>∀c,c.σ=σ->c.st=st'->Ok C c->Nx c0 c->Q i c.H
theorem ub:PO X b6 (tO C (pure b6)):=by
 rintro pins s σ H Q I ⟨c0,rfl,rfl,f,h⟩;rw[ao]at h;exact yH pins s c0.σ c0.H Q I (h c0 rfl rfl f (Nx.refl c0))
theorem uc(f:PE X a (GB C ma)):PO X (a5 a) (tO C (ma >>= Cb)):=by
 rintro pins s σ H Q I ⟨c0,rfl,rfl,g,h⟩;refine yI f pins s c0.σ c0.H Q I (aM g h λx c v t w=>?_);obtain⟨k,u⟩:=x;unfold Cb at w;split at w
 ·rename_i i e
  dsimp only at e
  subst e;rw[ao]at w;exact⟨i,t.rx.int t.ok,w c t.hσ rfl t.ok t.nx⟩
 ·exact(bb.mp w).elim
theorem Cp{lo f:Option Int}(l:C.K=X.K)(i:c.σ=c0.σ)(g:Ok C c)(n:Nx c0 c)(j:aP C c0 c x.1 x.2 k)(h:oK x lo f=a5 r)(q:bQ C c0 Q r c.st):
  DT X.K k lo f c.H Q\/DY k lo f c.H Q:=by
 unfold oK at h;split at h
 ·split at h
  ·rename_i o;cases h;obtain⟨t,vs,ex,u,v⟩:=j.list g;exact .inl ⟨t,vs,ex,l▸u,λp w=>q.list i g n ((c9 o v).cut lo f) p w⟩
  ·cases h
 ·split at h
  ·cases h;exact .inr ⟨_,j.str g,by assumption,q.flat i g n rfl⟩
  ·cases h
 ·cases h
theorem zp{lo g:Option rr}(n:C.K=X.K)(o:PE X a (GB C ma))(hl:PO X lo (tO C ml))(u:PO X g (tO C y)):
  PE X (.Subscript a (.Slice lo g b6 p2) pos) (GB C (ma >>= λx=>ml >>= λl=>y >>= λh=>aB [x] >>= λ_=>M.GJ (oK x l h))):=by
 refine PE.weak (vf (KR.or yL BQ) o hl u) ?_;rintro σ H Q ⟨c0,rfl,rfl,z,h⟩;refine aM z h λx c v t w=>?_;rw[ah]at w;refine⟨c,t.hσ,rfl,t.ok,w.mono λl st2 i A B D G I=>?_⟩;subst D;rw[ah]at i;refine⟨A,B,rfl,G,i.mono λT Y f J j L N O=>?_⟩;subst L;rw[ah,cn]at f;obtain⟨r,e,q⟩:=bG.mp f.2;have k:Nx c J:=I.trans O;exact Cp n j N (t.nx.trans k) ((t.rx.w.on t.ok k (j.trans t.hσ.symm)).t f.1) e q
end
section
variable{X:Cx}{C:Ct}{pins:List (hH×Obj)}{s:gj}{c0 c c1:Cf}
variable{a b d e:rr}{es:List rr}{m ma mb md:M (Kd×U)}{ms:M (List (Kd×U))}{ta tb:M Bool}{pos p p2:Pos}
noncomputable def Bf.val:Bf->et
 |.len=>.builtin "len"|.sorted=>.builtin "sorted"|.repr=>.builtin "repr"|.max=>.builtin "max"|.min=>.builtin "min"|.all=>.builtin "all"|.any=>.builtin "any"
 |.list=>.type "list"|.tuple=>.type "tuple"|.str=>.type "str"|.int=>.type "int"
noncomputable def Bf.name:Bf->Str
 |.len=>"len"|.sorted=>"sorted"|.repr=>"repr"|.max=>"max"|.min=>"min"|.all=>"all"|.any=>"any"
 |.list=>"list"|.tuple=>"tuple"|.str=>"str"|.int=>"int"
theorem call_of(g:gI X f r)(I:Inv X pins c.σ c.H s)(rv:Vals vs us)(h:r vs c.H Q):eH (gs X.prog X.w) X.A (Mj f us) (EP X pins c.σ Q) X.xe s:=g pins s c.σ c.H vs us Q I rv h
theorem bX(h:iE f rs=a5 r):∃x,rs=[x]/\f x=a5 r:=by
 unfold iE at h;split at h
 ·exact⟨_,rfl,h⟩
 ·cases h
theorem AG(J:X.calm=b8)(B:C.K=X.K)(N:X.A.guards=a5 [])(O:X.A.units+60<KJ)(t:Jd C c0 c rs vs)(I:Inv X pins c.σ c.H s)(rv:Vals vs us)(h:JB f rs=a5 r)(q:bQ C c0 Q r c.st):
  eH (gs X.prog X.w) X.A (Mj f.val us) (EP X pins c.σ Q) X.xe s:=by
 have u:=t.hσ;have g:=t.ok;have n:=t.nx;cases f with
 |len =>
  obtain⟨x,rfl,hz⟩:=bX (f:=λx=>(B3 x.2).map λ(n:Nat)=>(Kd.loc,U.int (n:Int))) h;clear h;have h:=hz;clear hz;rw[i1]at h;obtain⟨k,e,rfl⟩:=h;obtain⟨v,rfl,o⟩:=t.one;obtain⟨T,G⟩:=x;unfold B3 at e;split at e
  ·rename_i xs y;have y:G=.lst xs:=y;subst y;cases e;obtain⟨j,ws,ex,i,l⟩:=o.list g;rw[l.len]at q;exact call_of gK I rv ⟨j,ws,by rw[ex],.inl (B▸i),q.flat u g n rfl⟩
  ·rename_i xs y;have y:G=.tup xs:=y;subst y;cases e;obtain⟨j,ws,ex,i,l⟩:=o.tuple g;rw[B]at i;rw[l.len]at q;exact call_of gK I rv ⟨j,ws,by rw[ex],.inr i,q.flat u g n rfl⟩
  ·rename_i xs y;have y:G=.str xs:=y;subst y;split at e
   ·cases e;exact call_of mW I rv ⟨_,by rw[o.str g],by assumption,q.flat u g n rfl⟩
   ·cases e
  ·cases e
 |sorted =>
  obtain⟨x,rfl,hz⟩:=bX (f:=B4) h;clear h;have h:=hz;clear hz;obtain⟨v,rfl,o⟩:=t.one;unfold B4 at h;split at h
  ·rw[vr]at h;obtain⟨ss,e,h⟩:=h;have D:=cA e;subst D;obtain⟨j,ws,ex,i,l⟩:=o.list g;rw[aq.strs]at l;subst l;split at h
   ·cases h;exact call_of iX I rv ⟨j,ss,by rw[ex],.inl (B▸i),by assumption,λp z=>q.list u g n (aq.strs.mpr rfl) p z⟩
   ·cases h
  ·obtain⟨j,kvs,ex,i,l,_⟩:=o.dict g;split at h
   ·cases h;exact call_of (iC J) I rv ⟨j,kvs,_,by rw[ex],i,l,by assumption,λp z=>q.list u g n (aq.strs.mpr rfl) p z⟩
   ·cases h
  ·rw[vr]at h;obtain⟨ss,e,h⟩:=h;have D:=cA e;subst D;obtain⟨j,ws,ex,i,l⟩:=o.tuple g;rw[B]at i;rw[aq.strs]at l;subst l;split at h
   ·cases h;exact call_of iX I rv ⟨j,ss,by rw[ex],.inr i,by assumption,λp z=>q.list u g n (aq.strs.mpr rfl) p z⟩
   ·cases h
  ·cases h
 |list =>
  obtain⟨x,rfl,hz⟩:=bX (f:=B5) h;clear h;have h:=hz;clear hz;obtain⟨v,rfl,o⟩:=t.one;unfold B5 at h;split at h
  ·obtain⟨j,ws,ex,i,l⟩:=o.list g;split at h
   ·cases h;exact call_of gL I rv ⟨j,ws,by rw[ex],.inl (B▸i),λp z=>q.list u g n (c9 (by assumption) l) p z⟩
   ·cases h
  ·obtain⟨j,ws,ex,i,l⟩:=o.tuple g;rw[B]at i;split at h
   ·cases h;exact call_of gL I rv ⟨j,ws,by rw[ex],.inr i,λp z=>q.list u g n (c9 (by assumption) l) p z⟩
   ·cases h
  ·cases h
 |tuple =>
  obtain⟨x,rfl,hz⟩:=bX (f:=B6) h;clear h;have h:=hz;clear hz;obtain⟨v,rfl,o⟩:=t.one;unfold B6 at h;split at h
  ·obtain⟨j,ws,ex,i,l⟩:=o.list g;cases h;exact call_of fU I rv ⟨j,ws,by rw[ex],.inl ⟨B▸i,λp z=>q.tupK u g n l p z⟩⟩
  ·obtain⟨j,ws,ex,i,l⟩:=o.tuple g;have L:=i;rw[B]at L;cases h;exact call_of fU I rv ⟨j,ws,by rw[ex],.inr ⟨L,q c (.ref j) u rfl g n (aP.item ⟨j,ws,rfl,i,l⟩)⟩⟩
  ·cases h
 |str =>
  obtain⟨x,rfl,hz⟩:=bX (f:=y8) h;clear h;have h:=hz;clear hz;obtain⟨v,rfl,o⟩:=t.one;unfold y8 at h;split at h
  ·split at h
   ·cases h;exact call_of mP I rv ⟨_,by rw[o.int g],by assumption,q.flat u g n rfl⟩
   ·cases h
  ·cases h
 |all =>
  obtain⟨x,rfl,hz⟩:=bX (f:=B7) h;clear h;have h:=hz;clear hz;obtain⟨v,rfl,o⟩:=t.one;unfold B7 at h;split at h
  ·rw[i1]at h;obtain⟨bs,e,rfl⟩:=h;have D:=j6 e;subst D;obtain⟨j,ws,ex,i,l⟩:=o.list g;have:=l.Sl;subst this;exact call_of (vC J) I rv ⟨j,bs,by rw[ex],B▸i,q.flat u g n rfl⟩
  ·cases h
 |_=>cases h
theorem zq{id:String}(g:X.calm=b8)(i:C.K=X.K)(j:X.A.guards=a5 [])(k:X.A.units+60<KJ)(l:f.val=.builtin id)(n:Gl X x)(o:X.mg x=b6)(u:w6 x=a5 (.builtin id))(v:x≠"__name__")(y:(x==("__debug__":Str))=cc)
  (B:PA X (e::es) (HH C ms)) (D:ke (e::es) X.env=(cc,GV e X.env)::ke es X.env) (G:(HR pos (ke es X.env)).any (·.1)=cc) :
  PE X (.Call (.Name x p) (e::es) [] pos) (GB C (ms >>= λrs=>aB rs >>= λ_=>M.GJ (JB f rs))):=by
 rintro pins s σ H Q I ⟨c0,rfl,rfl,J,h⟩;refine ti (cR I n o u ?_ v y);refine KI (GC (args B I J h pos) λus s1 ⟨rs,c,vs,t,L,rv,w⟩=>?_) D G;obtain⟨r,e,q⟩:=bG.mp w;have z:=AG g i j k t L rv e q;rw[l,t.hσ]at z;exact z
theorem zr(g:X.calm=b8)(i:C.K=X.K)(j:X.A.guards=a5 [])(k:X.A.units+60<KJ)(l:f.val=.type T)(n:Gl X x)(o:X.mg x=b6)(u:w6 x=a5 (.type T))(v:x≠"__name__")(y:(x==("__debug__":Str))=cc)
  (B:PA X (e::es) (HH C ms)) (D:ke (e::es) X.env=(cc,GV e X.env)::ke es X.env) (G:(HR pos (ke es X.env)).any (·.1)=cc) :
  PE X (.Call (.Name x p) (e::es) [] pos) (GB C (ms >>= λrs=>aB rs >>= λ_=>M.GJ (JB f rs))):=by
 rintro pins s σ H Q I ⟨c0,rfl,rfl,J,h⟩;refine ti (cR I n o u ?_ v y);refine N8 (GC (args B I J h pos) λus s1 ⟨rs,c,vs,t,L,rv,w⟩=>?_) D G;obtain⟨r,e,q⟩:=bG.mp w;have z:=AG g i j k t L rv e q;rw[l,t.hσ]at z;exact z
noncomputable def IA.name:IA->Str
 |.str=>"str"|.list=>"list"|.tuple=>"tuple"|.int=>"int"|.bool=>"bool"
noncomputable def IA.nm:IA->String
 |.str=>"str"|.list=>"list"|.tuple=>"tuple"|.int=>"int"|.bool=>"bool"
theorem zt(T:IA):w6 T.name=a5 (.type T.nm)/\T.name≠"__name__"/\(T.name==("__debug__":Str))=cc:=by
 cases T<;>exact⟨by decide +kernel,by decide +kernel,by decide +kernel⟩
theorem hJ(T:IA):UJ (.type T.nm)=pure (.type "type"):=by cases T<;>kernel_rfl
theorem jq(T:IA):MS (.type "str") (.type T.nm)=pure (d6 (T=.str)):=by cases T<;>(rw[Im];kernel_rfl)
theorem sub_int(T:IA):MS (.type "int") (.type T.nm)=pure (d6 (T=.int)):=by cases T<;>(rw[Im];kernel_rfl)
theorem ne_str{T:IA}(h:¬T=.str):(x2 "str"==x2 T.nm)=cc:=by cases T<;>first|exact absurd rfl h|decide
theorem ne_int{T:IA}(h:¬T=.int):(x2 "int"==x2 T.nm)=cc:=by cases T<;>first|exact absurd rfl h|decide
theorem oO(T:IA):MS (.type "list") (.type T.nm)=pure (d6 (T=.list)):=by cases T<;>(rw[Im];kernel_rfl)
theorem rU(T:IA):MS (.type "tuple") (.type T.nm)=pure (d6 (T=.tuple)):=by cases T<;>(rw[Im];kernel_rfl)
theorem zu{T:IA}(h:¬T=.list):(x2 "list"==x2 T.nm)=cc:=by cases T<;>first|exact absurd rfl h|decide
theorem Cq{T:IA}(h:¬T=.tuple):(x2 "tuple"==x2 T.nm)=cc:=by cases T<;>first|exact absurd rfl h|decide
theorem Cr{b:Bool}(z:C.K=X.K)(t:Jo C c0 c x v)(I:Inv X pins c.σ c.H s)(rv:RelV v val)(h:ny x.2 T=a5 b)(q:∀j,Q (.bool b) {s with toks:=j}):
  eH (gs X.prog X.w) X.A (Mj (.builtin "isinstance") [val,.type T.nm]) Q X.xe s:=by
 obtain⟨k,u⟩:=x;obtain⟨Y,i,n,r⟩:=t;have D:Q (.bool b) s:=q s.toks
 dsimp only at h r
 have g:∀{B:String},b=b8->s.TypeIs val B->MS (.type B) (.type T.nm)=pure b8->eH (gs X.prog X.w) X.A (Mj (.builtin "isinstance") [val,.type T.nm]) Q X.xe s:=λe G hs=>by
  subst e;exact Y5 G (hJ T) hs D
 unfold ny at h;split at h
 ·cases h;have e:v=_:=r.str i;subst e;obtain⟨j,rfl⟩:=rv;by_cases f:T=.str
  ·subst f;exact g (by simp) (Wb s _ j) (jq .str)
  ·rw[Zs f]at q;exact P7 (isinstance_false_str (ne_str f) (hJ T) (by rw[jq,Zs f])) (q _)
 ·cases h;have e:v=_:=r.int i;subst e;obtain⟨j,rfl⟩:=rv;by_cases f:T=.int
  ·subst f;exact g (by simp) (typeIs_int s _ j) (sub_int .int)
  ·rw[Zs f]at q;exact P7 (isinstance_false_int (ne_int f) (hJ T) (by rw[sub_int,Zs f])) (q _)
 ·cases h;have e:v=_:=r.bl i;subst e;cases rv;exact g rfl (PySem.typeIs_bool s _) (by rw[Im];kernel_rfl)
 ·cases h;have e:v=_:=r.bl i;subst e;cases rv;exact g rfl (PySem.typeIs_bool s _) (by rw[Im];kernel_rfl)
 ·cases h;obtain⟨J,ws,rfl,l,L⟩:=r.list i;cases rv;rw[z]at l;obtain⟨N,_,O,_⟩:=I.list l;obtain⟨o,ho,y,_⟩:=O.isList;by_cases f:T=.list
  ·subst f;exact g (by simp) ⟨o,ho,y⟩ (oO .list)
  ·rw[Zs f]at q;exact P7 (isinstance_false_list (zu f) (hJ T) (by rw[oO,Zs f])) ⟨⟨o,ho,y⟩,q _⟩
 ·cases h;obtain⟨J,ws,rfl,l,L⟩:=r.tuple i;cases rv;rw[z]at l;obtain⟨N,_,⟨o,ho,y,_⟩,_⟩:=I.tuple l;by_cases f:T=.tuple
  ·subst f;exact g (by simp) ⟨o,ho,y⟩ (rU .tuple)
  ·rw[Zs f]at q;exact P7 (isinstance_false_tuple (Cq f) (hJ T) (by rw[rU,Zs f])) ⟨⟨o,ho,y⟩,q _⟩
 ·cases h
theorem rV(g:C.K=X.K)(i:Gl X "isinstance")(j:X.mg "isinstance"=b6)(k:Gl X T.name)(l:X.mg T.name=b6)(n:PE X a (GB C ma))(hs:ke [a,.Name T.name p2] X.env=(cc,GV a X.env)::ke [.Name T.name p2] X.env):
  PE X (.Call (.Name "isinstance" p) [a,.Name T.name p2] [] pos) (GB C (ma >>= λx=>M.GJ (ny x.2 T) >>= λb=>pure (.loc,.bl b))):=by
 rintro pins s σ H Q I ⟨c0,rfl,rfl,o,h⟩;obtain⟨q,r,u⟩:=zt T;refine ti (cR I i j (show w6 "isinstance"=a5 (.builtin "isinstance") by decide +kernel) ?_ (by decide +kernel) (by decide +kernel));refine KI (GC (bH n (bH (rf (v:=.ty T.nm) k l q rfl r u) dB) hs pos pins s c0.σ c0.H (λvs H'=>∃x c v b,Jo C c0 c x v/\c.H=H'/\vs=[v,.ty T.nm]/\ny x.2 T=a5 b/\bQ C c0 Q (.loc,.bl b) c.st) I ?_) λus s1 ⟨vs,N,f,y,x,c,v,b,t,e,A,B,w⟩=>?_) hs (by rfl)
 ·refine aM o h λx c v t w=>?_;rw[ah]at w;obtain⟨b,e,w⟩:=bG.mp w;rw[ao]at w;exact⟨x,c,v,b,t,rfl,rfl,e,w⟩
 ·subst e A;obtain⟨O,u2,rfl,D,G⟩:=vals2 y;cases G;have J:Inv X pins c.σ c.H s1:=by rw[t.hσ];exact f
  have z:=Cr (Q:=EP X pins c0.σ Q) g t J D B λL=>⟨.bl b,c.H,f.tok L,rfl,w c (.bl b) t.hσ rfl t.ok t.nx rfl⟩
  exact z
abbrev J2(P:D3)(w:H_)(K:PySem.W.Frag)(H:Hp)(f:hH->Prop):Ct:=⟨P,w,K,H,f,λ_=>False,λ_ _=>False⟩
structure Back(C:Ct)(H H':Hp)(S':hH->Prop)(k:Kd)(u:U)(v:V):Prop where
 same:cS H H'
 new:∀a,S' a->H a=b6/\∃o,H' a=a5 o
 own:k=.own->∃r,v=.ref r/\H r=b6/\¬S' r/\cJ C S' H' r u
 loc:k=.loc->Rep C S' H' u v
 any:k=.any->Rep C (PS C S') H' u v
def spT(P:D3)(w:H_)(K:PySem.W.Frag)(F:List U->Option (Ex (Kd×U)))(g:Nat):Sp:=λvs H Q E=>vs.length=g/\∃us r f,F us=a5 r/\(∀a,f a->HN H a)/\aq (J2 P w K H f) f H us vs/\match r with
 |.ok (k,u)=>(k=.own\/k=.loc\/k=.any)/\∀v H' S',Back (J2 P w K H f) H H' S' k u v->Q v H'
 |.exc c=>∀C H',PySem.W.nsIn K l0 c=a5 (a5 (.ref C))->cS H H'->E (.ref C) b6 H'
theorem Jd.read(t:Jd C c0 c rs vs):aq C (HN c.H) c.H (rs.map (·.2)) vs:=by
 have f:∀(l:List (Kd×U)) (w:List V),cz C c0 c l w->bo l c.st->aq C (HN c.H) c.H (l.map (·.2)) w:=by
  intro l;induction l with
  |nil=>intro w h _;exact h
  |cons r l g =>
   intro w h hs;obtain⟨v,t',rfl,i,j,_⟩:=h;rw[fJ]at hs;exact⟨v,t',rfl,(i.t hs.1).read t.ok,g t' j hs.2⟩
 exact f rs vs t.rep t.Nu
theorem Back.here(hk:k=.own\/k=.loc)(i:c.σ=c0.σ)(f:Ok C c)(n:Nx c0 c)(q:j.Eqv C)(h:Back j c.H H' S' k u v)(w:bQ C c0 Q (k,u) c.st):Q v H':=by
 obtain⟨l,t⟩:=f.grow (S':=λa=>c.S a\/S' a) h.same (λa z=>z.imp id λz=>h.new a z) λa=>.inl;have x:=n.trans t;refine w {c with H:=H',S:=λa=>c.S a\/S' a} v i rfl l x ?_;rcases hk with rfl|rfl
 ·obtain⟨r,e,g,y,A⟩:=h.own rfl;obtain⟨G,B,I,J,D⟩:=f.jX g;refine⟨r,e,n.none g,λz=>z.elim B y,D,(A.cg q).mv (.up λa=>.inr) λo q=>q⟩
 ·exact((h.loc rfl).cg q).mv (.up λa=>.inr)
theorem wA(o:C.P=X.prog)(x:C.w=X.w)(y:C.K=X.K)(L:Γ f=F)(hk:∀us k u,F us=a5 (.ok (k,u))->(k=.own\/k=.loc\/k=.any)/\us.length=B)
  (G:gJ X.prog X.w X.K X.mg X.base (K2 X.prog X.w) k fa N O (spT X.prog X.w X.K F B)) (T:eM k X.A) (Y:Gl X f) (hm:X.mg f=a5 (.ref fa)) (LU:PySem.W.keepIn X.K (.ref fa)=b8) (j:Binds X.K N O [])
  (IX:(f==("__debug__":Str))=cc) (ha:PA X (e::es) (HH C ms)) (he:ke (e::es) X.env=(cc,GV e X.env)::ke es X.env) (Ha:(HR pos (ke es X.env)).any (·.1)=cc) :
  PE X (.Call (.Name f p) (e::es) [] pos) (GB C (ms >>= λrs=>aB rs >>= λ_=>jZ Γ f (rs.map (·.2)))):=by
 rintro pins s σ H Q I ⟨c0,rfl,rfl,ok,h⟩;refine ti (dk I Y hm ?_ IX);refine PySem.W.callWith_K (h₀:=X.base) I.ok.mod.Li LU (GC (args ha I ok h pos) λus s1 ⟨rs,c,vs,t,D,rv,w⟩=>⟨D.Jh,?_⟩) he Ha;obtain⟨r,st',g,q⟩:=w;unfold jZ at g;rw[L]at g;cases i:F (rs.map (·.2)) with
 |none=>rw[i]at g;cases g
 |some r' =>
  rw[i]at g;split at g
  ·cases g
  ·rename_i z;cases z
  rename_i Vh e3;cases e3;cases g;obtain⟨l,u⟩:=r;obtain⟨k0,k2⟩:=hk _ _ _ i;have k1:l=.own\/l=.loc:=by
   rcases k0 with z|z|z
   ·exact .inl z
   ·exact .inr z
   ·subst z;exact(Vh u rfl).elim
  have n:C.Eqv (J2 X.prog X.w X.K c.H (HN c.H)):=⟨o,x,y⟩
  have Ii:(J2 X.prog X.w X.K c.H (HN c.H)).Eqv C:=⟨o.symm,x.symm,y.symm⟩
  have J:=t.read;have HK:spT X.prog X.w X.K F B vs c.H (λv H'=>Q v H') E0:=⟨by rw[<-J.len];exact k2,rs.map (·.2),.ok (l,u),HN c.H,i,λ_ z=>z,J.cg n,k0,λv H' S' j=>j.here k1 t.hσ t.ok t.nx Ii q⟩
  have z:=vd (Q:=Q) G T j .nil D0 D rv (by rw[y1];exact HK);rw[t.hσ]at z;exact z
end
section
noncomputable def Mf.id:Mf->String
 |.split=>"str.split"|.join=>"str.join"|.partition=>"str.partition"|.endswith=>"str.endswith"
noncomputable def Mf.name:Mf->Str
 |.split=>"split"|.join=>"join"|.partition=>"partition"|.endswith=>"endswith"
theorem wB(h:lj f u rs=a5 r):∃x,u=.str x:=by
 unfold lj at h;split at h
 ·exact⟨_,rfl⟩
 ·cases h
theorem Cs(l:C.K=X.K)(t:Jd C b c (x::rs) (d::vs))(I:Inv X a c.σ c.H s)(m:RelV d v)(rv:Vals vs us)(h:lj f x.2 rs=a5 r)(q:bQ C b Q r c.st):
  eH (gs X.prog X.w) X.A (Mj (.builtin f.id) (v::us)) (EP X a c.σ Q) X.xe s:=by
 have o:=t.hσ;have g:=t.ok;have n:=t.nx;obtain⟨p,u⟩:=x;have hs:=fJ.mp t.Nu;obtain⟨J,L,y,i,j,-⟩:=t.rep;cases y;have z:aP C b c p u d:=i.t hs.1;have one:∀{r:Kd×U},cz C b c [r] vs->bo [r] c.st->∃v,vs=[v]/\aP C b c r.1 r.2 v:=λ{r} h s=>by
  obtain⟨v,t',rfl,i,j,_⟩:=h;cases j;exact⟨v,rfl,i.t s⟩
 dsimp only at h
 unfold lj at h;split at h
 ·rw[vr]at h;obtain⟨ss,e,h⟩:=h;have B:=cA e;subst B;obtain⟨w,rfl,ty⟩:=one j hs.2;obtain⟨D,ws,ex,G,k⟩:=ty.list g;rw[aq.strs]at k;subst k;split at h
  ·cases h;exact yT a s c.σ c.H d [w] v us Q I m rv ⟨_,D,ss,z.str g,by rw[ex],l▸G,by assumption,q.flat o g n rfl⟩
  ·cases h
 ·cases h
theorem zv(O:C.K=X.K)(slot:Slot "str" name f.id)(T:UJ (.builtin f.id)=pure (.type "method_descriptor"))(ho:PE X o (GB C m))(Y:PA X (e::es) (HH C ms))
  (Iv:QU o name X.env (GV o X.env)=GV o X.env)
  (HQ:((HR g (ke (e::es) X.env)).all (λx=>!x.1)&&(OV g (Lh [] X.env)).all (λx=>x.1.isSome)
   && d6 ((e::es).length+([]:List M').length+(if ([]:List M').isEmpty then 0 else 1)<30))=b8)
  (GH:(k.endLine==g.line)=b8) (hs:ke (e::es) X.env=(cc,GV e X.env)::ke es X.env) (Hn:(HR g (ke es X.env)).any (·.1)=cc) :
  PE X (.Call (.Attribute o name k) (e::es) [] g) (GB C (m >>= λx=>ms >>= λrs=>aB (x::rs) >>= λ_=>M.GJ (lj f x.2 rs))):=by
 rintro a s σ H Q I ⟨b,rfl,rfl,ok,h⟩;refine Xd Iv HQ GH rfl (GC (ho a s b.σ b.H (λl y=>∃x d,d.H=y/\Jo C b d x l/\W (ms >>= λrs=>aB (x::rs) >>= λ_=>M.GJ (lj f x.2 rs)) d.st (bQ C b Q)) I (aM ok h λx c v t w=>⟨x,c,rfl,t,w⟩)) ?_);rintro v s1 ⟨l,y,A,B,x,d,rfl,t,w⟩;have LV:∃z,x.2=.str z:=by
  rw[ah]at w;obtain⟨rs,st2,_,w⟩:=w;rw[ah]at w;obtain⟨_,G8,_,w⟩:=w;obtain⟨r,e,_⟩:=bG.mp w;exact wB e
 obtain⟨z,hz⟩:=LV;have D:=t.rx;rw[hz]at D;have ev:=D.str t.ok;have ty:Oc X.K "str" l d.H:=by rw[ev];rfl
 obtain⟨h1,h2⟩:=mX A B ty;refine⟨"str",f.id,PySem.F.plainAttrs_str,slot,T,h1,h2,?_⟩;rw[ah]at w;have G:=Y g a s1 b.σ d.H (λvs J=>∃rs j,j.H=J/\Jd C b j (x::rs) (l::vs)/\W (M.GJ (lj f x.2 rs)) j.st (bQ C b Q)) A ⟨d,t.hσ,rfl,t.ok,w.mono λrs st2 p j vs L e4 GK N n=>by
  rw[ah,cn]at p;subst e4;exact⟨rs,j,rfl,⟨L,GK,t.nx.trans N,⟨l,vs,rfl,t.rx.w.on t.ok N (L.trans t.hσ.symm),n.from t.nx,λhk i r' v' e5 e6 GS=>nz t.rx.w (n.get e5 e6) hk GS⟩,p.1⟩,p.2⟩⟩
 rw[hs]at G ⊢;refine JV (by show(cc||(HR g (ke es X.env)).any (·.1))=cc;rw[Hn]<;>rfl) (KN ?_);refine GC G ?_;rintro us s2 ⟨vs,J,I2,n,rs,j,rfl,u,w2⟩;obtain⟨r,e,q⟩:=bG.mp w2;have z:=Cs O u (by rw[u.hσ];exact I2) B n e q;rw[u.hσ]at z;exact z
end
section
variable{X:Cx}{C:Ct}{pins:List (hH×Obj)}{s:gj}{c0 c c1:Cf}
variable{e:rr}{es:List rr}{ms:M (List (Kd×U))}{pos p p2 pos2:Pos}
noncomputable def B2.out:B2->et
 |.JZ=>.type "tuple"|.Iz=>.type "list"|.sset=>.builtin "sorted"|.jH=>.builtin "len"
noncomputable def B2.OE:B2->et
 |.JZ=>.type "reversed"|.Iz=>.type "reversed"|.sset=>.type "set"|.jH=>.type "set"
noncomputable def B2.nB:B2->Str
 |.JZ=>"tuple"|.Iz=>"list"|.sset=>"sorted"|.jH=>"len"
noncomputable def B2.hZ:B2->Str
 |.JZ=>"reversed"|.Iz=>"reversed"|.sset=>"set"|.jH=>"set"
theorem aq.rev{S:hH->Prop}:∀{us:List U}{vs:List V},aq C S H us vs->aq C S H us.reverse vs.reverse
 |[],vs,h=>by cases h;exact rfl
 |u::us,vs,h=>by
  obtain⟨v,r,rfl,a,b⟩:=h;rw[Qt,Qt];exact(aq.rev b).append ⟨v,[],rfl,a,rfl⟩
theorem lP(i:C.K=X.K)(j:Ok C c)(l:aP C c0 c k u v)(h:gU u=a5 ss):∃a ys,v=.ref a/\(GY X.K c.H a (ys.map V.str)\/Hh X.K c.H a (ys.map V.str))/\ys.length+1<HU/\ss=aE ys:=by
 unfold gU at h;split at h
 ·rw[vr]at h;obtain⟨ys,e,h⟩:=h;have f:=cA e;subst f;obtain⟨g,ws,ex,d,b⟩:=l.list j;rw[aq.strs]at b;subst b;split at h
  ·cases h;exact⟨g,ys,ex,.inl (i▸d),by assumption,rfl⟩
  ·cases h
 ·rw[vr]at h;obtain⟨ys,e,h⟩:=h;have f:=cA e;subst f;obtain⟨g,ws,ex,d,b⟩:=l.tuple j;rw[aq.strs]at b;subst b;rw[i]at d;split at h
  ·cases h;exact⟨g,ys,ex,.inr d,by assumption,rfl⟩
  ·cases h
 ·cases h
theorem Cu(d:X.calm=b8)(k:C.K=X.K)(t:Jd C c0 c rs vs)(I:Inv X pins c.σ c.H s)(rv:Vals vs us)(h:qe f rs=a5 r)(q:bQ C c0 Q r c.st):
  eH (gs X.prog X.w) X.A (Mj f.OE us) (λv s1=>eH (gs X.prog X.w) X.A (Mj f.out [v]) (EP X pins c.σ Q) X.xe s1) X.xe s:=by
 have m:=t.hσ;have a:=t.ok;have n:=t.nx;cases f with
 |Iz =>
  obtain⟨x,rfl,hz⟩:=bX (f:=B8) h;clear h;have h:=hz;clear hz;obtain⟨v,rfl,g⟩:=t.one;unfold B8 at h;split at h
  ·obtain⟨o,ws,ex,b,i⟩:=g.list a;rw[k]at b;subst ex;obtain⟨u,rfl,j⟩:=vals1 rv;cases j;split at h
   ·cases h;exact vV d I b λl hl=>q.list m a n (c9 (by assumption) i).rev l hl
   ·cases h
  ·cases h
 |sset =>
  obtain⟨x,rfl,hz⟩:=bX (f:=λx=>(gU x.2).bind λss=>if ss.length<64 then a5 (Kd.own,U.lst ((aL ss).map .str)) else b6) h;clear h;have h:=hz;clear hz;obtain⟨ss,e,h⟩:=vr.mp h;obtain⟨v,rfl,g⟩:=t.one;obtain⟨o,ys,rfl,b,i,rfl⟩:=lP k a g e;obtain⟨u,rfl,j⟩:=vals1 rv;cases j;split at h
  ·cases h;exact ni d I b i λS h' B y z=>fY d z y (by assumption) λl hl=>q.list m a n (aq.strs.mpr rfl) l hl
  ·cases h
 |_=>cases h
theorem rW:∀f:B2,w6 f.nB=a5 f.out/\w6 f.hZ=a5 f.OE/\f.nB≠"__name__"/\f.hZ≠"__name__"/\(f.nB==("__debug__":Str))=cc/\(f.hZ==("__debug__":Str))=cc:=by
 intro f;cases f<;>exact⟨by decide +kernel,by decide +kernel,by decide +kernel,by decide +kernel,by decide +kernel,by decide +kernel⟩
theorem Cv(f:B2):∃T,f.OE=.type T:=by cases f<;>exact⟨_,rfl⟩
theorem Cw(f:B2):(∃T,f.out=.type T)\/∃T,f.out=.builtin T:=by cases f<;>first|exact .inl ⟨_,rfl⟩|exact .inr ⟨_,rfl⟩
theorem rX{M:Model}{E:et->gj->Prop}(h:eH M A t (λv a=>eH M A (Mj (.type T) [v]) Q E a) E s):eH M A (callWith pos (.type T) [] [(cc,t)] []) Q E s :=
 PySem.callWith_type rfl (KN (Lx (nc h (λ_ _ b=>NW b) λ_ _ e=>e)))
theorem nE{M:Model}{E:et->gj->Prop}(h:eH M A t (λv a=>eH M A (Mj (.builtin T) [v]) Q E a) E s):eH M A (callWith pos (.builtin T) [] [(cc,t)] []) Q E s :=
 JV rfl (KN (Lx (nc h (λ_ _ b=>NW b) λ_ _ e=>e)))
theorem wC(b:X.calm=b8)(d:C.K=X.K)(g:Gl X f.hZ)(i:X.mg f.hZ=b6)
  (j:PA X (e::es) (HH C ms)) (k:ke (e::es) X.env=(cc,GV e X.env)::ke es X.env) (l:(HR pos2 (ke es X.env)).any (·.1)=cc)
  (I:Inv X pins c0.σ c0.H s) (m:Ok C c0) (h:W (ms >>= λrs=>aB rs >>= λ_=>M.GJ (qe f rs)) c0.st (bQ C c0 Q)) :
  eH (gs X.prog X.w) X.A (GV (.Call (.Name f.hZ p2) (e::es) [] pos2) X.env) (λv s1=>eH (gs X.prog X.w) X.A (Mj f.out [v]) (EP X pins c0.σ Q) X.xe s1) X.xe s:=by
 obtain⟨D,n,G,o,J,u⟩:=rW f;refine ti (cR I g i n ?_ o u);have a:eH (gs X.prog X.w) X.A (Yv (HR pos2 (ke (e::es) X.env))) (λus s1=>eH (gs X.prog X.w) X.A (Mj f.OE us) (λv s1=>eH (gs X.prog X.w) X.A (Mj f.out [v]) (EP X pins c0.σ Q) X.xe s1) X.xe s1) X.xe s :=
  GC (args j I m h pos2) λus s1 x=>by
   obtain⟨rs,c,vs,t,y,rv,w⟩:=x;obtain⟨r,e,q⟩:=bG.mp w;have z:=Cu b d t y rv e q;rw[t.hσ]at z;exact z
 obtain⟨T,B⟩:=Cv f;rw[B]at a ⊢;exact N8 a k l
theorem zw(d:X.calm=b8)(g:C.K=X.K)(i:Gl X f.nB)(j:X.mg f.nB=b6)(k:Gl X f.hZ)(l:X.mg f.hZ=b6)
  (m:PA X (e::es) (HH C ms)) (n:ke (e::es) X.env=(cc,GV e X.env)::ke es X.env) (o:(HR pos2 (ke es X.env)).any (·.1)=cc) :
  PE X (.Call (.Name f.nB p) [.Call (.Name f.hZ p2) (e::es) [] pos2] [] pos) (GB C (ms >>= λrs=>aB rs >>= λ_=>M.GJ (qe f rs))):=by
 rintro pins s σ H Q I ⟨c0,rfl,rfl,q,h⟩;obtain⟨r,x,t,y,u,z⟩:=rW f;refine ti (cR I i j r ?_ t u);have a:=wC (p2:=p2) (pos2:=pos2) d g k l m n o I q h;have v:HR pos (ke [.Call (.Name f.hZ p2) (e::es) [] pos2] X.env)=[(cc,GV (.Call (.Name f.hZ p2) (e::es) [] pos2) X.env)]:=rfl;have w:OV pos (Lh [] X.env)=[]:=rfl;rw[v,w];rcases Cw f with⟨T,b⟩|⟨T,b⟩
 ·rw[b]at a ⊢;exact rX a
 ·rw[b]at a ⊢;exact nE a
end
section
variable{X:Cx}{C:Ct}{pins:List (hH×Obj)}{s:gj}{c0 c c1:Cf}
variable{a b d e o tg:rr}{es:List rr}{m ma mb md:M (Kd×U)}{ms:M (List (Kd×U))}{ta tb:M Bool}{pos p p2 apos B':Pos}
def lQ(rs:List (Kd×U))(c f:Cf):Prop:=∀j u,(Kd.bor j,u)∈rs->f.σ[j]?=c.σ[j]?
def Walk(C:Ct)(c:Cf)(rs:List (Kd×U))(xs:List (Kd×U))(J:It):Prop:=∀f,Ok C f->Ns c f->lQ rs c f->bo rs f.st ->
 (∀(i:Nat) r,xs[i]?=a5 r->(r.1=.loc\/r.1=.any)/\J.go i f.H/\∀x H',J.N_ i f.H x H'->∃g:Cf,g.H=H'/\g.σ=f.σ/\g.st=f.st/\Ok C g/\Nx f g/\aP C f g r.1 r.2 x) /\
 ∀i:Nat,xs.length<=i->J.stop i f.H
def KC(C:Ct)(ik:Ik)(ms:M (List (Kd×U))):TI:=λσ H R=>∃c0:Cf,c0.σ=σ/\c0.H=H/\Ok C c0/\W (ms >>= λrs=>aB rs >>= λ_=>M.GJ (Ja ik rs) >>= λxs=>pure (rs,xs)) c0.st λq st' =>
 ∀c J,c.σ=σ->c.st=st'->Ok C c->Nx c0 c->bo q.1 c.st->Walk C c q.1 q.2 J->R J c.H
theorem aP.walk(g:Ok C c)(n:Ns c f)(i:lQ [r] c f)(hs:bo [r] f.st)(h:aP C c0 c r.1 r.2 v):aP C c0 f r.1 r.2 v :=
 (h.w.Sj g n λj e=>i j r.2 (by rw[<-e];simp)).t hs
theorem AH(k:Kd):kE k=.loc\/kE k=.any:=by cases k<;>simp[kE]
theorem ud(z:C.K=X.K)(A:Ok C c)(h:aP C c0 c k (.lst us) (.ref B)):Walk C c [(k,.lst us)] (us.map λu=>(kE k,u)) (O_ X.K B):=by
 intro l q n D hs;have h':=aP.walk (r:=(k,.lst us)) A n D hs h;obtain⟨I,vs,e,f,t⟩:=h'.list q;cases e;rw[z]at f;refine⟨λi r w=>?_,λi G=>⟨vs,f,by rw[<-t.len];simpa using G⟩⟩;rw[mN,i1]at w;obtain⟨u,H,rfl⟩:=w;obtain⟨v,y,g⟩:=t.get H;refine⟨AH k,⟨vs,v,f,y⟩,λx H' j=>?_⟩;obtain⟨e,j⟩:=j;subst e;have:=j vs f;rw[y]at this;cases this;exact⟨l,rfl,rfl,rfl,q,Nx.refl l,aP.item g⟩
theorem qh(z:C.K=X.K)(A:Ok C c)(h:aP C c0 c k (.tup us) (.ref B)):Walk C c [(k,.tup us)] (us.map λu=>(kE k,u)) (O' X.K B):=by
 intro l q n D hs;have h':=aP.walk (r:=(k,.tup us)) A n D hs h;obtain⟨I,vs,e,f,t⟩:=h'.tuple q;cases e;rw[z]at f;refine⟨λi r w=>?_,λi G=>⟨vs,f,by rw[<-t.len];simpa using G⟩⟩;rw[mN,i1]at w;obtain⟨u,H,rfl⟩:=w;obtain⟨v,y,g⟩:=t.get H;refine⟨AH k,⟨vs,v,f,y⟩,λx H' j=>?_⟩;obtain⟨e,j⟩:=j;subst e;have:=j vs f;rw[y]at this;cases this;exact⟨l,rfl,rfl,rfl,q,Nx.refl l,aP.item g⟩
theorem qi{lo:Int}:Walk C c rs ((ko n).map λi:Nat=>(Kd.loc,U.int (lo+(i:Int)))) (Oa lo n):=by
 intro h l nx t hs;refine⟨λi r k=>?_,λi f=>by show n<=i;simpa using f⟩;rw[mN,i1]at k;obtain⟨j,g,rfl⟩:=k;have f:i<n:=by simpa using(ez.mp g).1
 rw[List.getElem?_range f]at g;cases g;refine⟨.inl rfl,f,λy H' q=>?_⟩;obtain⟨e,rfl⟩:=q;subst e;exact⟨h,rfl,rfl,rfl,l,Nx.refl h,rfl⟩
theorem Cy(i:C.K=X.K)(w:PE X a (GB C ma)):PI X tg a (KC C .seq (ma >>= λr=>pure [] >>= λrs=>pure (r::rs))):=by
 rintro pins s σ H R I ⟨c0,rfl,rfl,x,h⟩;rw[ah,ah]at h;obtain⟨r,st1,y,h⟩:=h;rw[ah,ao,ao,ah,cn,ah]at h;obtain⟨z,h⟩:=h;obtain⟨xs,j,h⟩:=bG.mp h;rw[ao]at h;obtain⟨k,u⟩:=r;cases u with
 |lst us =>
  cases j;refine yB w pins s c0.σ c0.H R I ⟨c0,rfl,rfl,x,_,st1,y,λc v l hs g n f=>?_⟩;obtain⟨q,vs,rfl,t,B⟩:=f.list g;subst hs;exact⟨q,rfl,⟨vs,i▸t⟩,h c _ l rfl g n z (ud i g f)⟩
 |tup us =>
  cases j;refine Bv w pins s c0.σ c0.H R I ⟨c0,rfl,rfl,x,_,st1,y,λc v l hs g n f=>?_⟩;obtain⟨q,vs,rfl,t,B⟩:=f.tuple g;subst hs;have A:=t;rw[i]at A;exact⟨q,rfl,⟨vs,A⟩,h c _ l rfl g n z (qh i g f)⟩
 |_=>cases j
theorem Cz{k:List (Kd×U)->M β}{Post:β->ax->Prop}(g:Ok C c0)(h:W (ms >>= λrs=>aB rs >>= λ_=>k rs) c0.st Post)
  (hz:∀rs c vs,Jd C c0 c rs vs->W (k rs) c.st Post->Z vs c.H):HH C ms c0.σ c0.H Z:=by
 rw[ah]at h;refine⟨c0,rfl,rfl,g,h.mono λrs st1 f c1 vs i j l n q=>?_⟩;rw[ah,cn]at f;subst j;exact hz rs c1 vs ⟨i,l,n,q,f.1⟩ f.2
theorem zx(i:Gl X "range")(j:X.mg "range"=b6)(hs:ke [a] X.env=[(cc,GV a X.env)])(k:PA X [a] (HH C ms)):PI X tg (.Call (.Name "range" p) [a] [] pos) (KC C .Hk ms):=by
 rintro pins s σ H R I ⟨c0,rfl,rfl,l,h⟩;refine tv i j k hs pins s c0.σ c0.H R I (Cz l h λrs c vs t w=>?_);rw[ah]at w;obtain⟨xs,g,w⟩:=bG.mp w;rw[ao]at w;obtain⟨x,rfl,hz⟩:=bX (f:=v_) g;clear g;have g:=hz;clear hz;obtain⟨v,rfl,n⟩:=t.one;unfold v_ at g;split at g
 ·split at g
  ·rename_i q;cases g;exact⟨_,by rw[n.int t.ok],⋯,⋯,w c _ t.hσ rfl t.ok t.nx t.Nu qi⟩
  ·cases g
 ·cases g
theorem Ok.put(t:Ok C c)(n:Nx c0 c)(Y:i<c.σ.length)(hk:k=.own\/k=.loc\/k=.any)(HF:Ok C c0)(h:aP C c0 c k u v):
  Ok C {c with σ:=c.σ.set i (a5 v),st:=c.st.set i (a5 (k,u))}/\Nx c0 {c with σ:=c.σ.set i (a5 v),st:=c.st.set i (a5 (k,u))}:=by
 have Ih:i<c.st.length:=by rw[t.len];exact Y
 have GU:∀(j:Nat) k' u',(c.st.set i (a5 (k,u)))[j]?=a5 (a5 (k',u'))->j≠i->c.st[j]?=a5 (a5 (k',u')):=λj k' u' e ne=>by rw[i0 (uv ne)]at e;exact e
 have IE:∀(j:Nat) G,(c.σ.set i (a5 v))[j]?=a5 (a5 G)->j≠i->c.σ[j]?=a5 (a5 G):=λj G e ne=>by rw[i0 (uv ne)]at e;exact e
 have sl:fk C c.S c.H k u v:=by
  rcases hk with rfl|rfl|rfl
  ·obtain⟨r,e,I,N,y,O⟩:=h;obtain⟨z0,z1,Q,z3,z4⟩:=HF.jX I;exact⟨r,e,N,Q,z0,O⟩
  ·exact h
  ·exact h
 have LW:∀(j:Nat) k' u' r,k'.root=b8->(c.st.set i (a5 (k,u)))[j]?=a5 (a5 (k',u'))->(c.σ.set i (a5 v))[j]?=a5 (a5 (.ref r))->j=i/\k=.own/\v=.ref r\/j≠i/\c.st[j]?=a5 (a5 (k',u'))/\c.σ[j]?=a5 (a5 (.ref r)):=λj k' u' r J g l=>by
  by_cases f:j=i
  ·subst f;rw[fx Ih]at g;rw[fx Y]at l;cases g;cases l;rcases hk with rfl|rfl|rfl
   ·exact .inl ⟨rfl,rfl,rfl⟩
   ·cases J
   ·cases J
  ·exact .inr ⟨f,GU j k' u' g f,IE j _ l f⟩
 have dD:∀(j:Nat) (u':U),(c.st.set i (a5 (k,u)))[j]?=a5 (a5 (.Gq,u'))->c.st[j]?=a5 (a5 (.Gq,u'))/\(c.σ.set i (a5 v))[j]?=c.σ[j]?:=λj u' e=>by
  by_cases f:j=i
  ·subst f;rw[fx Ih]at e;cases e;rcases hk with hk|hk|hk<;>cases hk
  ·exact⟨GU j .Gq u' e f,i0 (uv f)⟩
 have A:∀a,({c with σ:=c.σ.set i (a5 v),st:=c.st.set i (a5 (k,u))}:Cf).R1 a->c.R1 a\/k=.own/\v=.ref a:=λa G'=>by
  obtain⟨j,k',u',J,g,l⟩:=G';rcases LW j k' u' a J g l with⟨T,w,x⟩|⟨T,w,x⟩
  ·exact .inr ⟨w,x⟩
  ·exact .inl ⟨j,k',u',J,w,x⟩
 have KA:Jy C {c with σ:=c.σ.set i (a5 v),st:=c.st.set i (a5 (k,u))}:=t.dd.of rfl dD (λa z=>(A a z).imp id λ⟨q1,q2⟩ j z'=>by
  subst q1;obtain⟨L,e,_,_,y,_⟩:=h;rw[q2]at e;cases e;exact y (.inr ⟨j,z'⟩)) (.up λ_ z=>z) λj a z=>⟨(t.root (.inr ⟨j,z⟩)).1,λo q=>q⟩
 refine⟨⟨t.same,t.Iu,t.par,t.io,by simp[t.len],λj k' u' e=>?_,λj1 j2 k1 k2 u1 u2 r QG Nv g l e3 e4=>?_,KA⟩,⟨⟨n.keep,n.there,λa z=>?_,n.sub,n.new⟩⟩⟩
 ·by_cases f:j=i
  ·subst f;rw[fx Ih]at e;cases e;exact⟨v,by rw[fx Y],sl⟩
  ·obtain⟨G,g,l⟩:=t.sl j k' u' (GU j k' u' e f);exact⟨G,by rw[i0 (uv f)];exact g,l⟩
 ·have z1:=LW j1 k1 u1 r QG g e3;have Q:=LW j2 k2 u2 r Nv l e4;rcases z1 with⟨T,w,x⟩|⟨T,w,x⟩
  ·rcases Q with⟨A,B,D⟩|⟨A,B,D⟩
   ·exact T.trans A.symm
   ·subst w;obtain⟨L,e,I,N,y,O⟩:=h;rw[x]at e;cases e;exact(y (.inl ⟨j2,k2,u2,Nv,B,D⟩)).elim
  ·rcases Q with⟨A,B,D⟩|⟨A,B,D⟩
   ·subst B;obtain⟨L,e,I,N,y,O⟩:=h;rw[D]at e;cases e;exact(y (.inl ⟨j1,k1,u1,QG,w,x⟩)).elim
   ·exact t.inj j1 j2 k1 k2 u1 u2 r QG Nv w B x D
 ·rcases z with z|⟨j,u',L,g,l,e3⟩
  ·rcases A a z with z|⟨w,x⟩
   ·exact n.roots a (.inl z)
   ·subst w;obtain⟨L,e,I,N,y,O⟩:=h;rw[x]at e;cases e;exact .inr I
  ·obtain⟨q1,q2⟩:=dD j u' g;exact n.roots a (.inr ⟨j,u',L,q1,q2▸l,e3⟩)
theorem jv(z:Ok C c0)(q:Ok C c)(n:Nx c0 c)(A:i<c.σ.length)(t:aP C c0 c r.1 r.2 v)(h:W (dr i r) c.st Post):
  ∃y,y.σ=c.σ.set i (a5 v)/\y.H=c.H/\Ok C y/\Nx c0 y/\Post () y.st:=by
 obtain⟨k,u⟩:=r;cases k with
 |own =>
  obtain⟨x,st',e,f⟩:=h;cases e;obtain⟨g,l⟩:=q.put n A (.inl rfl) z t;exact⟨{c with σ:=c.σ.set i (a5 v),st:=c.st.set i (a5 (.own,u))},rfl,rfl,g,l,f⟩
 |loc =>
  obtain⟨x,st',e,f⟩:=h;cases e;obtain⟨g,l⟩:=q.put n A (.inr (.inl rfl)) z t;exact⟨{c with σ:=c.σ.set i (a5 v),st:=c.st.set i (a5 (.loc,u))},rfl,rfl,g,l,f⟩
 |any =>
  obtain⟨x,st',e,f⟩:=h;cases e;obtain⟨g,l⟩:=q.put n A (.inr (.inr rfl)) z t;exact⟨{c with σ:=c.σ.set i (a5 v),st:=c.st.set i (a5 (.any,u))},rfl,rfl,g,l,f⟩
 |bor j =>
  obtain⟨x,st',e,f⟩:=h;rw[show dr i (.bor j,u) c.st=match c.st[j]? with|some (a5 (.own,u))=>a5 (Ex.ok (),(c.st.set j (a5 (.loc,u))).set i (a5 (.loc,u)))|_=>b6 from rfl]at e;split at e
  ·rename_i w D;cases e;obtain⟨O,G,r,J,_⟩:=q.sl j _ _ D;have I:c.σ[j]?=a5 (a5 v):=t.2;rw[I]at G;cases G;subst J;obtain⟨L,N,B⟩:=q.wy n D I;obtain⟨g,l⟩:=Ok.put (c:={c with S:=λa=>c.S a\/a=r,st:=c.st.set j (a5 (.loc,w))}) L N (k:=.loc) (u:=w) (v:=.ref r) A (.inr (.inl rfl)) z B;exact⟨{S:=λa=>c.S a\/a=r,H:=c.H,σ:=c.σ.set i (a5 (.ref r)),st:=(c.st.set j (a5 (.loc,w))).set i (a5 (.loc,w)),kid:=c.kid},rfl,rfl,g,l,f⟩
  ·cases e
 |_=>exact t.elim
end
section
def tG(C:Ct)(t:Bool)(is:List Nat):TG:=λv σ H Q=>∃b c r,c.σ=σ/\c.H=H/\Ok C b/\Ok C c/\Nx b c/\aP C b c r.1 r.2 v/\W (eC t is r) c.st λ_ st' =>
 ∀a,a.st=st'->Ok C a->Nx b a->(∀j,j∉is->a.σ[j]?=c.σ[j]?)->a.σ.length=c.σ.length->Q a.σ a.H
structure qj(X:Cx)(e:rr)(i:Nat):Prop where
 is:∃x pos,e=.Name x pos/\X.N[i]?=a5 x/\Loc X.env.scope x/\(X.fn x=b8\/X.env.scope.names.lookup x=a5 .local)
theorem CA(g:X.N.Nodup)(h:qj X e i):PG X e (tG C cc [i]):=by
 obtain⟨x,pos,rfl,f,k,l⟩:=h.is;rintro a s σ H v u Q I rv ⟨G,c,r,rfl,rfl,m,o,n,b,w⟩;have p:i<c.σ.length:=by rw[I.len];exact(ez.mp f).1
 obtain⟨t,d,y,A,B,q⟩:=jv (r:=r) m o n p b w;refine rh g f k l a s c.σ c.H v u Q I rv ?_;have z:=q t rfl A B (λj D=>by rw[d,i0 (by intro z;exact D (by simp[z]))]) (by rw[d];simp);rw[d,y]at z;exact z
noncomputable def QH:List Nat->Mh
 |[]=>DE
 |i::is=>AA (rg i) (QH is)
inductive eV(X:Cx):List rr->List Nat->Prop where
 |nil:eV X [] []
 |cons {e:rr} {es:List rr} {i:Nat} {is:List Nat} (h:qj X e i) (t:eV X es is):eV X (e::es) (i::is)
theorem ue(a:X.N.Nodup)(h:eV X es is):MN X es (QH is):=by
 induction h with
 |nil=>exact yz
 |cons h t b =>
  obtain⟨x,pos,rfl,c,d,e⟩:=h.is;exact uY (rh a c d e) b rfl
theorem qk(h:eV X es is):(N2 es X.env).length=is.length/\(N2 es X.env).findIdx? (·.1)=b6:=by
 induction h with
 |nil=>exact⟨rfl,rfl⟩
 |cons h t a =>
  obtain⟨x,pos,rfl,b,c,d⟩:=h.is;refine⟨?_,?_⟩
  ·show(_::_).length=_;simp[a.1]
  ·show Vf _ (_::_)=b6;rw[List.findIdx?_cons,Zr (by simp),a.2];rfl
theorem rY(hk:kE k=k)(h:Ok C g):∀{is:List Nat}{us:List U}{vs:List V}{c:Cf}{Post:Unit->ax->Prop}{Q:L2.St->Hp->Prop},Ok C c->Nx g c->(∀i∈is,i<c.σ.length)->aq C (SK C c k) c.H us vs->W (sets is (us.map λu=>(k,u))) c.st Post ->
  (∀b,Post () b.st->Ok C b->Nx g b->(∀j,j∉is->b.σ[j]?=c.σ[j]?)->b.σ.length=c.σ.length->Q b.σ b.H)->QH is vs c.σ c.H Q
 |[],[],vs,c,Post,Q,ok,n,d,a,w,q=>by
  rw[show sets [] (List.map (λu=>(k,u)) [])=pure () from rfl,ao]at w;exact⟨a,q c w ok n (λ_ _=>rfl) rfl⟩
 |[],u::us,vs,c,Post,Q,ok,n,d,a,w,q=>(bb.mp w).elim
 |i::is,[],vs,c,Post,Q,ok,n,d,a,w,q=>(bb.mp w).elim
 |i::is,u::us,vs,c,Post,Q,ok,n,d,a,w,q=>by
  rw[show sets (i::is) (List.map (λu=>(k,u)) (u::us))=dr i (k,u) >>= λ_=>sets is (us.map λu=>(k,u)) from rfl,ah]at w;obtain⟨v,r,rfl,l,m⟩:=a;have o:k=.own\/k=.loc\/k=.any:=by cases k<;>simp[kE]at hk<;>simp
  have D:k≠.own:=by cases k<;>simp[kE]at hk<;>simp
  have rt:aP C g c k u v:=by rw[<-hk];exact aP.item l
  obtain⟨s,t⟩:=ok.put n (d i (by simp)) o h rt;have es:dr i (k,u)=λst=>a5 (.ok (),st.set i (a5 (k,u))):=by cases k<;>simp[kE]at hk<;>rfl
  obtain⟨_,st',e,x⟩:=w;rw[es]at e;cases e;refine⟨v,r,rfl,rY (c:={c with σ:=c.σ.set i (a5 v),st:=c.st.set i (a5 (k,u))}) hk h s t (λj f=>by simpa using d j (by simp[f])) (by cases k<;>exact m) x λb p y A B hl=>?_⟩;refine q b p y A (λj f=>?_) (by rw[hl];simp);rw[B j (λz=>f (by simp[z])),i0 (λz=>f (by simp[z]))]
theorem Ee(m:X.calm=b8)(o:C.K=X.K)(q:X.N.Nodup)(h:eV X es is)(hl:∀i∈is,i<X.N.length):PG X (.Tuple es kk pos) (tG C b8 is):=by
 rintro a s σ H v u Q I rv ⟨c0,c,r,rfl,rfl,t,f,n,d,w⟩;obtain⟨y,z⟩:=qk h;refine Bo m (ue q h) y z a s c.σ c.H v u Q I rv ?_;obtain⟨k,A⟩:=r;cases A with
 |tup us =>
  rw[show eC b8 is (k,.tup us)=sets is (us.map λu=>(kE k,u)) from by cases is<;>rfl]at w;obtain⟨B,vs,rfl,g,j⟩:=d.tuple f;rw[o]at g;have b:us.length=is.length:=by
   have e:∀(is:List Nat) (l:List (Kd×U)) (st:ax) (P:Unit->ax->Prop),W (sets is l) st P->l.length=is.length:=by
    intro is;induction is with
    |nil=>intro l st P w;cases l with
     |nil=>rfl
     |cons _ _=>exact(bb.mp w).elim
    |cons i is D=>intro l st P w;cases l with
     |nil=>exact(bb.mp w).elim
     |cons x l =>
      rw[show sets (i::is) (x::l)=dr i x >>= λ_=>sets is l from rfl,ah]at w;obtain⟨_,_,_,w⟩:=w;rw[rz,rz,D l _ _ w]
   simpa using e _ _ _ _ w
  refine⟨B,vs,rfl,g,by rw[<-j.len,b],?_⟩;refine rY (k:=kE k) (by cases k<;>rfl) t f n (λi G=>by rw[I.len];exact hl i G) (by cases k<;>exact j) w λJ p L O T Y=>p J rfl L O T Y
 |_=>cases is<;>exact(bb.mp w).elim
end
section
variable{X:Cx}{C:Ct}{pins:List (hH×Obj)}{s:gj}{c0 c c1:Cf}
variable{a b d e o tg iter elt:rr}{es ifs:List rr}{m ma mb md me:M (Kd×U)}{ms:M (List (Kd×U))}{ta tb tc:M Bool}{pos p p2 apos B':Pos}
theorem uf{m:M α}{st:ax}{Q:α->ax->Prop}:W (inScope k m) st Q↔W m (mh k b6++st) λa st'=>Q a (st'.drop k):=by
 constructor
 ·rintro⟨a,st',e,h⟩;unfold inScope at e;cases q:m (mh k b6++st) with
  |none=>rw[q]at e;cases e
  |some r=>obtain⟨g,f⟩:=r;rw[q]at e;cases e;exact⟨a,f,q,h⟩
 ·rintro⟨a,st',e,h⟩;exact⟨a,st'.drop k,by unfold inScope;rw[e],h⟩
noncomputable def Cf.ext(k:Nat)(c:Cf):Cf:={c with σ:=mh k b6++c.σ,st:=mh k b6++c.st,kid:=λj=>c.kid (j - k)}
noncomputable def Cf.cut(k:Nat)(c:Cf):Cf:={c with σ:=c.σ.drop k,st:=c.st.drop k,kid:=λj=>c.kid (k+j)}
theorem fK(h:(mh k b6++l)[j]?=a5 (a5 x)):∃i,j=k+i/\l[i]?=a5 (a5 x):=by
 by_cases f:j<k
 ·rw[x3 (by simpa using f)]at h;rw[JO]at h;rw[Zq f]at h;cases h
 ·refine⟨j - k,⋯,?_⟩;rw[tj (by simp;lia)]at h;simpa using h
theorem eW:(mh k b6++l)[k+i]?=l[i]?:=by
 rw[tj (by simp)];simp
theorem wD:(c.ext k).R1 r↔c.R1 r:=by
 constructor
 ·rintro⟨j,g,u,h,l,f⟩;obtain⟨i,rfl,e⟩:=fK l;rw[Cf.ext,eW]at f;exact⟨i,g,u,h,e,f⟩
 ·rintro⟨i,g,u,h,l,f⟩;exact⟨k+i,g,u,h,by rw[Cf.ext,eW];exact l,by rw[Cf.ext,eW];exact f⟩
theorem nF{a:hH}(h:(c.ext k).RD j a):∃i,j=k+i/\c.RD i a:=by
 obtain⟨u,r,l,f,g⟩:=h;obtain⟨i,rfl,e⟩:=fK l;rw[Cf.ext,eW]at f;refine⟨i,rfl,u,r,e,f,?_⟩;have:(c.ext k).kid (k+i)=c.kid i:=by show c.kid (k+i - k)=_;rw[V']
 rw[this]at g;exact g
theorem Ef(h:(c.ext k).R r):c.R r:=by
 rcases h with h|⟨j,h⟩
 ·exact .inl (wD.mp h)
 ·obtain⟨i,_,h⟩:=nF h;exact .inr ⟨i,h⟩
theorem Ok.ext(k:Nat)(f:Ok C c):Ok C (c.ext k)/\Nx c (c.ext k):=by
 refine⟨⟨f.same,f.Iu,f.par,f.io,by simp[Cf.ext,f.len],λj A u e=>?_,λi j k1 k2 u u' r B D l g y z=>?_,⟨λj u r l g=>?_,λi j a n q=>?_,λj a n q=>?_⟩⟩,⟨⟨λ_ _ h _=>h,λ_ o h=>⟨o,h⟩,λa h=>.inl (Ef h),λ_ h=>h,λ_ h=>.inl h⟩⟩⟩
 ·obtain⟨i,rfl,G⟩:=fK e;obtain⟨v,l,g⟩:=f.sl i A u G;exact⟨v,by rw[Cf.ext,eW];exact l,g⟩
 ·obtain⟨t,rfl,H⟩:=fK l;obtain⟨w,rfl,I⟩:=fK g;rw[Cf.ext,eW]at y z;rw[f.inj t w k1 k2 u u' r B D H I y z]
 ·obtain⟨i,rfl,e⟩:=fK l;rw[Cf.ext,eW]at g;have:(c.ext k).kid (k+i)=c.kid i:=by show c.kid (k+i - k)=_;rw[V']
  rw[this];exact f.dd.kd i u r e g
 ·obtain⟨t,rfl,x⟩:=nF n;obtain⟨w,rfl,J⟩:=nF q;rw[f.dd.dj t w a x J]
 ·obtain⟨i,rfl,x⟩:=nF n;exact f.dd.d1 i a x (wD.mp q)
theorem wF{a:hH}(h:(c.cut k).R1 a):c.R1 a:=by
 obtain⟨j,i,u,l,f,g⟩:=h;rw[Cf.cut,Ku]at f g;exact⟨k+j,i,u,l,f,g⟩
theorem nG{a:hH}(h:(c.cut k).RD j a):c.RD (k+j) a:=by
 obtain⟨u,r,f,g,i⟩:=h;rw[Cf.cut,Ku]at f g;exact⟨u,r,f,g,i⟩
theorem Ok.cut(k:Nat)(f:Ok C c):Ok C (c.cut k)/\Nx c (c.cut k):=by
 refine⟨⟨f.same,f.Iu,f.par,f.io,by simp[Cf.cut,f.len],λj x u e=>?_,λi j k1 k2 u u' r y A g l t w=>?_,⟨λj u r g l=>?_,λi j a n q=>?_,λj a n q=>f.dd.d1 _ a (nG n) (wF q)⟩⟩,⟨⟨λ_ _ h _=>h,λ_ o h=>⟨o,h⟩,λa h=>.inl (h.elim (λz=>.inl (wF z)) λ⟨j,z⟩=>.inr ⟨k+j,nG z⟩),λ_ h=>h,λ_ h=>.inl h⟩⟩⟩
 ·rw[Cf.cut,Ku]at e;obtain⟨v,g,l⟩:=f.sl _ x u e;exact⟨v,by rw[Cf.cut,Ku];exact g,l⟩
 ·rw[Cf.cut,Ku]at g l t w;have:=f.inj _ _ k1 k2 u u' r y A g l t w;lia
 ·rw[Cf.cut,Ku]at g l;exact f.dd.kd _ u r g l
 ·have:=f.dd.dj _ _ a (nG n) (nG q);lia
theorem zA(h:∀j,j∉ko k->g[j]?=(mh k b6++σ)[j]?)(hl:g.length=(mh k (b6:Option V)++σ).length):∃f:L2.St,f.length=k/\g=f++σ:=by
 refine⟨g.take k,by rw[HJ,hl];simp,?_⟩;apply Xw;intro j;by_cases i:j<k
 ·rw[x3 (by rw[HJ,hl];simp;lia),List.getElem?_take,Zq i]
 ·rw[h j (by simpa using i),tj (by simp;lia),tj (by rw[HJ,hl];simp;lia)];congr 1
  rw[HJ,hl];simp
theorem ug(e1:c1.σ=c0.σ)(GA:Ok C c1)(n1:Nx c0 c1)(hw:Walk C c1 rs xs J)(h3:W (bO k t tc me rs xs []) c1.st λus st'=>W (pure (Kd.own,U.lst us)) st' (bQ C c0 Q)):
  rA k J (tG C t (ko k)) (HE C tc) (GB C me) Q c0.σ c1.H:=by
 refine⟨λi m ys H=>∃c acc,c.H=H/\c.σ=c0.σ/\Ok C c/\Nx c1 c/\m=xs.length - i/\i<=xs.length/\aq C c.S c.H acc ys/\acc.length<=dV/\W (bO k t tc me rs (xs.drop i) acc) c.st λus st'=>W (pure (Kd.own,U.lst us)) st' (bQ C c0 Q),⟨xs.length,c1,[],rfl,e1,GA,Nx.refl c1,by simp,oT _,rfl,oT _,by simpa using h3⟩,?_⟩;rintro i m ys H ⟨c,acc,rfl,D,q,y,rfl,hi,g,h,w⟩;refine⟨by rw[<-g.len];exact h,?_⟩;have f:lQ rs c1 c:=λj u _=>by rw[D,e1]
 by_cases G:i<xs.length
 ·right
  rw[U_ G]at w;rw[show bO k t tc me rs (xs[i]::xs.drop (i+1)) acc=aB rs >>= λ_=>inScope k (eC t (ko k) xs[i] >>= λ_=>tc >>= λb=>if b=b8 then(me >>= λr=>lift r >>= λu=>pure (a5 u)) else pure b6) >>= λr=>match r with|some u=>if acc.length<dV then bO k t tc me rs (xs.drop (i+1)) (acc++[u]) else M.fail|none=>bO k t tc me rs (xs.drop (i+1)) acc from rfl,ah,cn]at w;obtain⟨J3,w⟩:=w;obtain⟨I,_⟩:=hw c q y f J3;obtain⟨QI,MB,QJ⟩:=I i xs[i] (by simp[G]);refine⟨MB,λIe H'=>∃c acc,c.H=H'/\c.σ=c0.σ/\Ok C c/\Nx c1 c/\aq C c.S c.H acc Ie/\acc.length<=dV/\W (bO k t tc me rs (xs.drop (i+1)) acc) c.st λus st'=>W (pure (Kd.own,U.lst us)) st' (bQ C c0 Q),λIe H' ⟨c',Hf,z1,z2,z3,z4,z5,z6,z7⟩=>⟨xs.length - (i+1),⋯,c',Hf,z1,z2,z3,z4,rfl,G,z5,z6,z7⟩,λx H' hy=>?_⟩;obtain⟨l,rfl,e4,e5,GK,n2,rt⟩:=QJ x H' hy;rw[ah,uf,ah]at w;obtain⟨OF,nx⟩:=GK.ext k;have Vi:aP C (l.ext k) (l.ext k) xs[i].1 xs[i].2 x:=by
   rcases QI with z|z
   ·rw[z]at rt ⊢;exact rt
   ·rw[z]at rt ⊢;exact rt
  have eσ:(l.ext k).σ=mh k b6++c0.σ:=by rw[Cf.ext];show mh k b6++l.σ=_;rw[e4,D]
  refine⟨l.ext k,l.ext k,xs[i],eσ,rfl,OF,OF,Nx.refl _,Vi,?_⟩;have Vj:(l.ext k).st=mh k b6++c.st:=by rw[Cf.ext];show mh k b6++l.st=_;rw[e5]
  rw[Vj];refine w.mono λ_ G8 w3 c3 e6 Je n3 NB OG=>?_;subst e6;rw[eσ]at NB OG;obtain⟨L,N,O⟩:=zA NB OG;refine⟨L,N,O,?_⟩;have Sn:Nx c c3:=(n2.trans nx).trans n3;rw[ah]at w3;refine⟨c3,rfl,rfl,Je,w3.mono λb Mn n B e7 e8 T n4=>?_⟩;subst e8;cases b with
  |false =>
   rw[Zr mu]at n ⊢;rw[ao]at n;obtain⟨Y,nk⟩:=T.cut k;have nn:Nx c (B.cut k):=(Sn.trans n4).trans nk;refine⟨B.cut k,acc,rfl,?_,Y,y.trans nn,g.mv (q.mv nn),h,n⟩;show B.σ.drop k=_;rw[e7,O,Td N]
  |true =>
   rw[Zq rfl]at n ⊢;rw[ah]at n;refine⟨B,e7,rfl,T,n.mono λr KO w5 c5 v e9 Vk Vl n5 Vm=>?_⟩;subst Vk;rw[ah]at w5;obtain⟨S',st',u,sS,Vn,n6,QL,A,_,_⟩:=g9 T Vl n5 Vm.w w5;rw[ao]at A
   dsimp only at A
   split at A
   ·rename_i hz;obtain⟨Y,nk⟩:=Vn.cut k;have nn:Nx c (Cf.cut k {c5 with S:=S',st:=st' }):=((Sn.trans n4).trans n6).trans nk;refine⟨Cf.cut k {c5 with S:=S',st:=st' },acc++[u],rfl,?_,Y,y.trans nn,(g.mv (q.mv nn)).snoc QL,by rw[l'];exact hz,A⟩;show c5.σ.drop k=_;rw[e9,O,Td N]
   ·exact(bb.mp A).elim
 ·left
  have Ih:i=xs.length:=by lia
  subst Ih;rw[XI,show bO k t tc me rs [] acc=aB rs >>= λ_=>pure acc from rfl,ah,cn,ao,ao]at w;obtain⟨_,I⟩:=hw c q y f w.1;exact⟨I _ (i3 _),λp hp=>bQ.list w.2 D q (n1.trans y) g p hp⟩
theorem lR(l:Ok C c0)
  (h:W (ms >>= λrs=>aB rs >>= λ_=>M.GJ (Ja ik rs) >>= λxs=>bO k t tc me rs xs [] >>= λus=>pure (Kd.own,U.lst us)) c0.st (bQ C c0 Q)) :
  vA k (KC C ik ms) (tG C t (ko k)) (HE C tc) (GB C me) c0.σ c0.H Q:=by
 rw[ah]at h;refine⟨c0,rfl,rfl,l,?_⟩;rw[ah];refine h.mono λrs st1 f=>?_;rw[ah,cn]at f ⊢;refine⟨f.1,?_⟩;have g:=f.2;rw[ah]at g ⊢;refine g.mono λxs st2 i=>?_;rw[ao];intro c1 J n q r u v j;rw[ah]at i;subst q
 dsimp only at v j
 exact ug n r u j i
theorem wG(S:dY X N own scope)(f:X.calm=b8)(g:PI X tg iter (KC C ik ms))
  (i:∀D s H ex,PG (Ht X N scope D s H ex) tg (tG C t (ko own.length))) (j:∀D s H ex,Kp (Ht X N scope D s H ex) ifs (HE C tc)) (k:∀D s H ex,PE (Ht X N scope D s H ex) elt (GB C me))
  (hs:∀x,Lm iter X.env x=pure x) :
  PE X (.ListComp elt [⟨tg,iter,ifs,0⟩] scope pos) (GB C (ms >>= λrs=>aB rs >>= λ_=>M.GJ (Ja ik rs) >>= λxs=>bO own.length t tc me rs xs [] >>= λus=>pure (.own,.lst us))):=by
 refine PE.weak (yR S f g i j k hs) ?_;rintro σ H Q ⟨c0,rfl,rfl,l,h⟩;exact lR l h
end
section
variable{a b d e o tg iter elt:rr}{es ifs:List rr}{m ma mb md me:M (Kd×U)}{ms:M (List (Kd×U))}{ta tb tc:M Bool}{pos p p2 apos B':Pos}{st:Lo}{rest body:List Lo}{f g mm:M Fl}{ns HA:Nat->Bool}
def CB(C:Ct)(c:Cf):Kd->U->V->Prop
 |.own,u,v=>∃r,v=.ref r/\C.H₀ r=b6/\¬c.S r/\¬c.R r/\cJ C c.S c.H r u
 |.loc,u,v=>Rep C c.S c.H u v
 |.any,u,v=>Rep C (PS C c.S) c.H u v
 |_,_,_=>False
def Gf(C:Ct)(Q:VK)(c:Cf):Kd->U->Prop
 |.io,u=>C.xw u c.H
 |k,u=>∀v,CB C c k u v->Q v c.H
def Fin(C:Ct)(D:Ends)(f:Fl)(c:Cf):Prop:=match f with
 |.nx=>D.nx c.σ c.H
 |.bk=>D.bk c.σ c.H
 |.ct=>D.ct c.σ c.H
 |.rt k u=>Gf C D.rt c k u
def Kept(ns:Nat->Bool)(c h:Cf):Prop:=(∀j,ns j=b8->h.σ[j]?=c.σ[j]?)/\h.σ.length=c.σ.length
theorem Kept.refl:Kept ns c c:=⟨λ_ _=>rfl,rfl⟩
theorem Kept.trans(h:Kept ns c i)(h':Kept ns i k):Kept ns c k:=⟨λj z=>(h'.1 j z).trans (h.1 j z),h'.2.trans h.2⟩
theorem Kept.le(i:∀j,HA j=b8->ns j=b8)(h:Kept ns c k):Kept HA c k:=⟨λj z=>h.1 j (i j z),h.2⟩
theorem Kept.of(h:i.σ=c.σ):Kept ns c i:=⟨λj z=>by rw[h],by rw[h]⟩
def dh(C:Ct)(h:Cf)(ns:Nat->Bool)(D:Ends)(f:Fl)(st':ax):Prop:=∀c,c.st=st'->Ok C c->Ns h c->Kept ns h c->Fin C D f c
def G7(C:Ct)(ns:Nat->Bool)(m:M Fl):TS:=λD σ H=>∃c:Cf,c.σ=σ/\c.H=H/\Ok C c/\W m c.st (dh C c ns D)
theorem ql(j:Ok C c)(n:Ns i c)(k:Kept ns i c)(h:W mm c.st (dh C i ns D)):G7 C ns mm D c.σ c.H :=
 ⟨c,rfl,rfl,j,h.mono λf st l q e r s k2=>l q e r (n.trans s) (k.trans k2)⟩
theorem PS.weak(h:L2.PS X st t)(i:∀D σ H,t' D σ H->t D σ H):L2.PS X st t':=λc s σ H D I q=>h c s σ H D I (i D σ H q)
theorem Hy.weak(h:Hy X rest t)(i:∀D σ H,t' D σ H->t D σ H):Hy X rest t':=λc s σ H D I q=>h c s σ H D I (i D σ H q)
theorem nH(i:∀j,HA j=b8->ns j=b8)(h:G7 C HA mm D σ H):G7 C ns mm D σ H :=
 let ⟨c,k,l,n,w⟩:=h;⟨c,k,l,n,w.mono λf st q r e s t k2=>q r e s t (k2.le i)⟩
theorem Eg:Hy X [] (G7 C ns (pure .nx)):=by
 refine Hy.weak mJ ?_;rintro D σ H ⟨c,rfl,rfl,i,h⟩;rw[ao]at h;exact h c rfl i (Ns.refl c) Kept.refl
noncomputable def zB(m:M Fl)(f:Fl):M Fl:=match f with
 |.nx=>m
 |f=>pure f
theorem CC(l:L2.PS X st (G7 C ns f))(n:Hy X rest (G7 C ns g)):Hy X (st::rest) (G7 C ns (f >>= zB g)):=by
 refine Hy.weak (jA l n) ?_;rintro D σ H ⟨q,rfl,rfl,r,h⟩;rw[ah]at h;refine⟨q,rfl,rfl,r,h.mono λs st1 w j e c i k1=>?_⟩;subst e;cases s with
 |nx=>exact ql c i k1 w
 |bk=>rw[show zB g .bk=pure .bk from rfl,ao]at w;exact w j rfl c i k1
 |ct=>rw[show zB g .ct=pure .ct from rfl,ao]at w;exact w j rfl c i k1
 |rt k u=>rw[show zB g (.rt k u)=pure (.rt k u) from rfl,ao]at w;exact w j rfl c i k1
theorem Eh(i:PE X a (GB C ma))(hs:Ny a b6 pos.line X.env=pure cc):L2.PS X (.Expr a pos) (G7 C ns (ma >>= λ_=>pure .nx)):=by
 refine PS.weak (gH i hs) ?_;rintro D σ H ⟨k,rfl,rfl,j,h⟩;refine aM j h λx c v t w=>?_;rw[ao]at w;have:=w c rfl t.ok t.nx (Kept.of t.hσ);rw[<-t.hσ];exact this
theorem CD:L2.PS X (.Return b6 pos) (G7 C ns (pure (.rt .loc .Gv))):=by
 refine PS.weak yy ?_;rintro D σ H ⟨c,rfl,rfl,i,h⟩;rw[ao]at h;exact h c rfl i (Ns.refl c) Kept.refl .Gv rfl
theorem Ei(ha:PE X a (GB C ma)):L2.PS X (.Return (a5 a) pos) (G7 C ns (ma >>= retS)):=by
 refine PS.weak (Bm ha) ?_;rintro D σ H ⟨c0,rfl,rfl,Q,h⟩;refine aM Q h λx c v t w=>?_;obtain⟨k,u⟩:=x;obtain⟨G,l,n,r⟩:=t;cases k with
 |own =>
  rw[show retS (.own,u)=pure (.rt .own u) from rfl,ao]at w;obtain⟨B,e,h1,h2,h3,h4⟩:=r;exact w c rfl l n (Kept.of G) v ⟨B,e,(Q.jX h1).1,h2,h3,h4⟩
 |loc =>
  rw[show retS (.loc,u)=pure (.rt .loc u) from rfl,ao]at w;exact w c rfl l n (Kept.of G) v r
 |any =>
  rw[show retS (.any,u)=if G5 u=b8 then pure (.rt .loc u) else pure (.rt .any u) from rfl]at w;split at w
  ·rw[ao]at w;exact w c rfl l n (Kept.of G) v (Rep.G5 (by assumption) r)
  ·rw[ao]at w;exact w c rfl l n (Kept.of G) v r
 |bor j =>
  obtain⟨fl,st',e,w⟩:=w;rw[show retS (.bor j,u) c.st=match c.st[j]? with|some (a5 (.own,u))=>a5 (Ex.ok (Fl.rt .own u),c.st.set j b6)|_=>b6 from rfl]at e;split at e
  ·rename_i u' J;cases e;have J1:j<c.st.length:=(ez.mp J).1;have A:∀(i:Nat) k u',(c.st.set j b6)[i]?=a5 (a5 (k,u'))->i≠j/\c.st[i]?=a5 (a5 (k,u')):=λi k u' e=>by
    by_cases L:i=j
    ·subst L;rw[fx J1]at e;cases e
    ·rw[i0 (uv L)]at e;exact⟨L,e⟩
   obtain⟨v',s,B,er,q1,q2,q3,q4⟩:=l.sl j _ _ J;have N:c.σ[j]?=a5 (a5 v):=r.2;rw[N]at s;cases s;subst er;have T:∀a,({c with st:=c.st.set j b6}:Cf).R1 a->c.R1 a:=λa ⟨i,k,u2,hk,s,y⟩=>⟨i,k,u2,hk,(A i k u2 s).2,y⟩
   have hR:∀a,({c with st:=c.st.set j b6}:Cf).R a->c.R a:=λa z=>z.elim (λz=>.inl (T a z)) λ⟨i,u2,O,s,y,I⟩=>.inr ⟨i,u2,O,(A i .Gq u2 s).2,y,I⟩;have KA:Jy C {c with st:=c.st.set j b6}:=l.dd.of rfl (λi u2 e=>⟨(A i .Gq u2 e).2,rfl⟩) (λa z=>.inl (T a z)) (.up λ_ z=>z) λi a z=>⟨(l.root (.inr ⟨i,z⟩)).1,λo q=>q⟩
   have Vo:Ok C {c with st:=c.st.set j b6}:=⟨l.same,l.Iu,l.par,l.io,by simp[l.len],λi k u2 e=>l.sl i k u2 (A i k u2 e).2,λi Y k k' u1 u2 r hk GS s y I e4=>l.inj i Y k k' u1 u2 r hk GS (A i k u1 s).2 (A Y k' u2 y).2 I e4,KA⟩
   have nn:Ns c0 {c with st:=c.st.set j b6}:=⟨n.keep,n.there,λa z=>n.roots a (hR a z),n.sub,n.new⟩
   refine w {c with st:=c.st.set j b6} rfl Vo nn (Kept.of G) (.ref B) ⟨B,rfl,q3,q1,λz=>?_,q4⟩
   ·rcases z with⟨i,k,u2,hk,s,y⟩|⟨i,u2,O,s,y,I⟩
    ·obtain⟨ne,Hv⟩:=A i k u2 s;exact ne (l.inj i j k .own u2 _ B hk rfl Hv J y N)
    ·exact l.dd.d1 i B ⟨u2,O,(A i .Gq u2 s).2,y,I⟩ ⟨j,.own,_,rfl,J,N⟩
  ·cases e
 |_=>exact r.elim
end
section
theorem h_(f:∀j,ns j=b8->j≠i)(g:Ok C a)(t:Jo C a c r v)(h:i<c.σ.length)(w:W (dr i r >>= λ_=>(pure .nx:M Fl)) c.st (dh C a ns D)):D.nx (a.σ.set i (a5 v)) c.H:=by
 rw[ah]at w;obtain⟨b,d,k,l,m,q⟩:=jv (r:=r) g t.ok t.nx h t.rx w;rw[ao]at q;have z:=q b rfl l m ⟨λj n=>by rw[d,t.hσ,i0 (uv (f j n))],by rw[d,t.hσ];simp⟩;have e:D.nx b.σ b.H:=z;rw[d,k,t.hσ]at e;exact e
theorem AI(g:∀j,ns j=b8->j≠i)(k:X.N.Nodup)(e:X.N[i]?=a5 x)(l:Loc X.env.scope x)(m:X.fn x=b8\/X.env.scope.names.lookup x=a5 .local)(n:PE X a (GB C o))
  (hs:Ny a (a5 (.Name x pos')) pos.line X.env=pure cc):L2.PS X (.Assign [.Name x pos'] a pos) (G7 C ns (o >>= λr=>dr i r >>= λ_=>pure .nx)):=by
 rintro b s σ H D I ⟨d,rfl,rfl,f,h⟩;have p:i<d.σ.length:=by rw[I.len];exact(ez.mp e).1
 exact mL k e l n hs m b s d.σ d.H D I (aM f h λr c v t w=>h_ g f t (by rw[t.hσ];exact p) w)
theorem CF(m:∀j,ns j=b8->j≠i)(S:dY X N own scope)(o:X.calm=b8)(p:X.N.Nodup)(g:X.N[i]?=a5 y)(q:X.env.scope.names.lookup y=a5 .local)
  (u:PI X e a (KC C ik ms)) (z:∀D s H ex,PG (Ht X N scope D s H ex) e (tG C t (ko own.length))) (A:∀D s H ex,Kp (Ht X N scope D s H ex) b (HE C B)) (G:∀D s H ex,PE (Ht X N scope D s H ex) elt (GB C J))
  (L:Ny (.ListComp elt [⟨e,a,b,0⟩] scope pos) (a5 (.Name y O)) Q.line X.env=pure b8) (hs:∀x,Lm a X.env x=pure x) :
  L2.PS X (.Assign [.Name y O] (.ListComp elt [⟨e,a,b,0⟩] scope pos) Q)
   (G7 C ns ((ms >>= λrs=>aB rs >>= λ_=>M.GJ (Ja ik rs) >>= λxs=>bO own.length t B J rs xs [] >>= λus=>pure (.own,.lst us)) >>= λr=>dr i r >>= λ_=>pure .nx)):=by
 rintro d s σ H D I ⟨f,rfl,rfl,k,h⟩;have T:i<f.σ.length:=by rw[I.len];exact(ez.mp g).1
 refine yS S o p g q u z A G L hs d s f.σ f.H D I ?_;rw[ah]at h;refine lR k (h.mono λr st1 w c v l Y GO n rt=>?_);subst Y;exact h_ m k ⟨l,GO,n,rt⟩ (by rw[l];exact T) w
theorem CG(g:∀j,ns j=b8->j∉is)(i:PE X a (GB C k))(l:PG X b (tG C b8 is))(hs:Pp [b] a pos.line X.env=pure cc)(m:SG [b] a X.env=pure b6)(n:(N2 [b] X.env).map (·.2)=[QB b X.env]):
  L2.PS X (.Assign [b] a pos) (G7 C ns (k >>= λr=>eC b8 is r >>= λ_=>pure .nx)):=by
 refine PS.weak (pG i l hs m n) ?_;rintro D σ H ⟨o,rfl,rfl,d,h⟩;refine aM d h λr c v t w=>?_;rw[ah]at w;refine⟨o,c,r,t.hσ,rfl,d,t.ok,t.nx,t.rx,w.mono λ_ st1 f p e q s u hl=>?_⟩;subst e;rw[ao]at f;exact f p rfl q s ⟨λj x=>by rw[u j (g j x),t.hσ],by rw[hl,t.hσ]⟩
theorem Ej(i:PT X a (HE C j))(k:Hy X ca (G7 C ns f))(l:Hy X m (G7 C ns g)):L2.PS X (.If a ca m pos) (G7 C ns (j >>= λp=>if p=b8 then f else g)):=by
 refine PS.weak (DC i k l) ?_;rintro D σ H ⟨o,rfl,rfl,q,h⟩;refine dF q h λp c b d n w=>?_;have e:o.σ=c.σ:=b.symm;rw[e];cases p with
 |true=>rw[Zq rfl]at w ⊢;exact ql d n (Kept.of b) w
 |false=>rw[Zr mu]at w ⊢;exact ql d n (Kept.of b) w
theorem Ek(L:U2 (gs X.prog X.w) X.A X.env X.xe)(N:PT X a (HE C g))(O:Hy X body (G7 C ns f)):L2.PS X (.While a body [] pos) (G7 C ns (fS g f n)):=by
 refine PS.weak (u9 L N O) ?_;rintro D σ H ⟨d,rfl,rfl,Q,h⟩;refine⟨λm t H'=>∃c,c.H=H'/\c.σ=t/\Ok C c/\Ns d c/\Kept ns d c/\W (fS g f m) c.st (dh C d ns D),⟨n,d,rfl,rfl,Q,Ns.refl d,Kept.refl,h⟩,?_⟩;rintro m t H' ⟨c,rfl,rfl,T,v,x,w⟩;cases m with
 |zero=>exact(bb.mp w).elim
 |succ m =>
  rw[show fS g f (m+1)=g >>= λb=>if b=b8 then(f >>= λf'=>match f' with|.nx=>fS g f m|.ct=>fS g f m|.bk=>pure .nx|.rt k u=>pure (.rt k u)) else pure .nx from rfl]at w;refine dF T w λp l y B G i=>?_;have k2:Kept ns c l:=Kept.of y;rw[<-y];cases p with
  |false =>
   rw[Zr mu]at i ⊢;rw[ao]at i;exact i l rfl B (v.trans G) (x.trans k2)
  |true =>
   rw[Zq rfl]at i ⊢;refine⟨λI J=>∃c,c.H=J/\c.σ=I/\Ok C c/\Ns d c/\Kept ns d c/\W (fS g f m) c.st (dh C d ns D),λI J z=>⟨m,Nh m,z⟩,?_⟩;rw[ah]at i;refine⟨l,rfl,rfl,B,i.mono λY G8 j o e q n3 k3=>?_⟩;subst e;have r:=(v.trans G).trans n3;have s:=(x.trans k2).trans k3;cases Y with
   |nx=>exact⟨o,rfl,rfl,q,r,s,j⟩
   |ct=>exact⟨o,rfl,rfl,q,r,s,j⟩
   |_=>rw[ao]at j;exact j o rfl q r s
theorem El(hp:U2 (gs X.prog X.w) X.A X.env X.xe)(hc:X.calm=b8)(hi:PI X tg a (KC C ik ms))(hg:PG X tg (tG C t is))(hb:Hy X body (G7 C (Jc s) f))(hs:∀x,Lm a X.env x=pure x)
  (Hb:∀j,ns j=b8->j∉is/\Jc s j=b8) :
  L2.PS X (.For tg a body [] pos) (G7 C ns (ms >>= λrs=>aB rs >>= λ_=>M.GJ (Ja ik rs) >>= λxs=>if rQ rs is s=b8 then forM t is f rs xs else M.fail)):=by
 refine PS.weak (Bw hp hc hi hg hb hs) ?_;rintro D σ H ⟨d,rfl,rfl,ok,h⟩;rw[ah]at h;refine⟨d,rfl,rfl,ok,?_⟩;rw[ah];refine h.mono λrs st1 v=>?_;rw[ah,cn]at v ⊢;refine⟨v.1,?_⟩;have h2:=v.2;rw[ah]at h2 ⊢;refine h2.mono λxs st2 y=>?_;rw[ao];intro b J e1 e2 GA n1 GF B;subst e2
 dsimp only at GF B
 split at y
 ·rename_i QO;have QP:∀j u,(Kd.bor j,u)∈rs->j∉is/\Jc s j=b8:=λj u o=>by
   have:=mx.mp QO _ o;simpa using this
  refine⟨λi m l H'=>∃c,c.H=H'/\c.σ=l/\Ok C c/\Ns b c/\Kept ns d c/\lQ rs b c/\m=xs.length - i/\i<=xs.length/\W (forM t is f rs (xs.drop i)) c.st (dh C d ns D),
   ⟨xs.length,b,rfl,e1,GA,Ns.refl b,Kept.of e1,λ_ _ _=>rfl,by simp,oT _,by simpa using y⟩,?_⟩
  rintro i m l H' ⟨c,rfl,rfl,G,p,kc,I,rfl,Ih,w⟩;by_cases L:i<xs.length
  ·right
   rw[U_ L,show forM t is f rs (xs[i]::xs.drop (i+1))=aB rs >>= λ_=>eC t is xs[i] >>= λ_=>f >>= λf'=>match f' with|.nx=>forM t is f rs (xs.drop (i+1))|.ct=>forM t is f rs (xs.drop (i+1))|.bk=>pure .nx|.rt k u=>pure (.rt k u) from rfl,ah,cn]at w;obtain⟨J3,w⟩:=w;obtain⟨N,_⟩:=B c G p I J3;obtain⟨QI,MB,QJ⟩:=N i xs[i] (by simp[L]);refine⟨MB,λl H'=>∃c,c.H=H'/\c.σ=l/\Ok C c/\Ns b c/\Kept ns d c/\lQ rs b c/\W (forM t is f rs (xs.drop (i+1))) c.st (dh C d ns D),λl H' ⟨c',z1,z2,z3,z4,z5,z6,z7⟩=>⟨xs.length - (i+1),⋯,c',z1,z2,z3,z4,z5,z6,rfl,L,z7⟩,λx H' hy=>?_⟩;obtain⟨n,rfl,q,e5,GK,n2,rt⟩:=QJ x H' hy;rw[ah]at w;have Vp:aP C n n xs[i].1 xs[i].2 x:=by
    rcases QI with z|z
    ·rw[z]at rt ⊢;exact rt
    ·rw[z]at rt ⊢;exact rt
   refine⟨n,n,xs[i],q,rfl,GK,GK,Nx.refl n,Vp,?_⟩;rw[e5];refine w.mono λ_ G8 w3 c3 e6 Je n3 Sr OG=>?_;subst e6;rw[ah]at w3;refine⟨c3,rfl,rfl,Je,w3.mono λfl Mn r g e O n4 Q=>?_⟩;subst e;have T:Ns b g:=((p.trans n2.toNs).trans n3.toNs).trans n4;have Y:Kept ns d g:=by
    refine kc.trans ⟨λj hj=>?_,by rw[Q.2,OG,q]⟩;obtain⟨j1,j2⟩:=Hb j hj;rw[Q.1 j j2,Sr j j1,q]
   have Ss:lQ rs b g:=λj u o=>by
    obtain⟨j1,j2⟩:=QP j u o;rw[Q.1 j j2,Sr j j1,q];exact I j u o
   cases fl with
   |nx=>exact⟨g,rfl,rfl,O,T,Y,Ss,r⟩
   |ct=>exact⟨g,rfl,rfl,O,T,Y,Ss,r⟩
   |_=>rw[ao]at r;exact r g rfl O (n1.toNs.trans T) Y
  ·left
   have Vq:i=xs.length:=by lia
   subst Vq;rw[XI,show forM t is f rs []=aB rs >>= λ_=>pure .nx from rfl,ah,cn,ao]at w;obtain⟨_,N⟩:=B c G p I w.1;exact⟨N _ (i3 _),w.2 c rfl G (n1.toNs.trans p) kc⟩
 ·exact(bb.mp y).elim
end
section
theorem Ok.mod(d:Ok C c)(n:Ns c0 c)(hk:k.root=b8)(A:c.st[i]?=a5 (a5 (k,u)))(G:c.σ[i]?=a5 (a5 (.ref r)))(Hu:∀a,a≠r->H' a=c.H a)(hr:∃o,H' r=a5 o)
  (new:Mv c.S c.H c.S H'->cJ C c.S H' r u'):Ok C {c with H:=H',st:=c.st.set i (a5 (k,u'))}/\Ns c0 {c with H:=H',st:=c.st.set i (a5 (k,u'))}:=by
 have IW:c.R1 r:=⟨i,k,u,hk,A,G⟩
 have hR:c.R r:=.inl IW;obtain⟨J,q2,q3,o,ho,LY⟩:=d.root hR;have L:i<c.st.length:=(ez.mp A).1;have p:∀{a:hH} {b:HO},a≠r->c.H a=a5 b->H' a=a5 b:=λne e=>by rw[Hu _ ne];exact e
 have I:Mv c.S c.H c.S H':=⟨λ_ z=>z,λa b e t=>p (λz=>by subst z;rw[ho]at e;cases e;exact LY t) e,λa b z e=>p (λf=>J (f▸z)) e⟩
 have K6:Mv (PS C c.S) c.H (PS C c.S) H':=⟨λ_ z=>z,I.Mw,λa b z e=>p (λf=>by subst f;exact z.elim q2 J) e⟩
 have N:∀(j:Nat) k' w,(c.st.set i (a5 (k,u')))[j]?=a5 (a5 (k',w))->j≠i->c.st[j]?=a5 (a5 (k',w)):=λj k' w e ne=>by rw[i0 (uv ne)]at e;exact e
 have g:∀(j:Nat) k' w,k'.root=b8->(c.st.set i (a5 (k,u')))[j]?=a5 (a5 (k',w))->∃O,c.st[j]?=a5 (a5 (k',O)):=λj k' w _ e=>by
  by_cases q:j=i
  ·subst q;rw[fx L]at e;cases e;exact⟨u,A⟩
  ·exact⟨w,N j k' w e q⟩
 have b1:∀a,({c with H:=H',st:=c.st.set i (a5 (k,u'))}:Cf).R1 a->c.R1 a:=λa G'=>by
  obtain⟨j,k',w,h,l,m⟩:=G';obtain⟨O,Q⟩:=g j k' w h l;exact⟨j,k',O,h,Q,m⟩
 have dD:∀(j:Nat) (w:U),(c.st.set i (a5 (k,u')))[j]?=a5 (a5 (.Gq,w))->c.st[j]?=a5 (a5 (.Gq,w)):=λj w e=>by
  by_cases q:j=i
  ·subst q;rw[fx L]at e;cases e;cases hk
  ·exact N j .Gq w e q
 have KA:Jy C {c with H:=H',st:=c.st.set i (a5 (k,u'))}:=d.dd.of rfl (λj w e=>⟨dD j w e,rfl⟩) (λa z=>.inl (b1 a z)) I λj a z=>⟨(d.root (.inr ⟨j,z⟩)).1,λb e=>p (λf=>d.dd.d1 j a z (f▸IW)) e⟩
 refine⟨⟨λa b e z=>?_,λa z=>?_,d.par,λa z=>?_,by simp[d.len],λj k' w e=>?_,λj1 j2 k1 k2 w1 w2 s h x l m T e4=>?_,KA⟩,n.trans ⟨λa b e z=>p (λf=>z (f▸hR)) e,λa b e=>?_,λa z=>?_,λ_ z=>z,λ_ z=>.inl z⟩⟩
 ·have h:=d.same a b e z;refine p (λf=>?_) h;subst f;rcases q3 with q3|q3
  ·rw[e]at q3;cases q3
  ·exact z q3
 ·obtain⟨h,b,x⟩:=d.Iu a z;exact⟨h,b,p (λf=>J (f▸z)) x⟩
 ·obtain⟨h,b,x⟩:=d.io a z;refine⟨h,?_⟩;by_cases B:a=r
  ·subst B;exact hr
  ·exact⟨b,p B x⟩
 ·by_cases q:j=i
  ·subst q;rw[fx L]at e;cases e;obtain⟨v,l,m⟩:=d.sl j _ _ A;rw[G]at l;cases l;refine⟨.ref r,G,?_⟩;have nr:=new I;cases k with
   |own=>obtain⟨s,y,D,Y,z3,_⟩:=m;cases y;exact⟨r,rfl,D,Y,z3,nr⟩
   |io=>obtain⟨s,y,D,Y,z3,_⟩:=m;cases y;exact⟨r,rfl,D,Y,z3,nr⟩
   |_=>cases hk
  ·have e0:=N j k' w e q;obtain⟨v,l,m⟩:=d.sl j k' w e0;refine⟨v,l,m.mv I K6 λGS s y=>?_⟩;obtain⟨OC,H9,D,_⟩:=m.rt GS;rw[y]at H9;cases H9;refine⟨D,λb e=>p (λz=>?_) e⟩;subst z;exact q (d.inj j i k' k w u s GS hk e0 A (by rw[l,y]) G)
 ·obtain⟨OH,Q⟩:=g j1 k1 w1 h l;obtain⟨Su,a2⟩:=g j2 k2 w2 x m;exact d.inj j1 j2 k1 k2 OH Su s h x Q a2 T e4
 ·by_cases B:a=r
  ·subst B;exact hr
  ·exact⟨b,p B e⟩
 ·rcases z with z|⟨j,w,s,l,m,T⟩
  ·exact .inl (.inl (b1 a z))
  ·exact .inl (.inr ⟨j,w,s,dD j w l,m,T⟩)
theorem eE{f:U->Option U}{st:ax}(h:W (modS i f) st Q):∃k u u',k.root=b8/\st[i]?=a5 (a5 (k,u))/\f u=a5 u'/\Q () (st.set i (a5 (k,u'))):=by
 obtain⟨_,st',e,q⟩:=h;unfold modS at e;split at e
 ·rename_i k u hs;split at e
  ·rename_i hk;cases a:f u with
   |none=>rw[a]at e;cases e
   |some u'=>rw[a]at e;cases e;exact⟨k,u,u',hk,hs,a,q⟩
  ·cases e
 ·cases e
theorem cV{st:ax}(h:W (c8 i) st Q):∃k u,k≠.Gq/\st[i]?=a5 (a5 (k,u))/\Q (if k.root=b8 then .bor i else k,u) st:=by
 obtain⟨r,st',e,q⟩:=h;unfold c8 at e;split at e
 ·cases e
 ·rename_i k u a hs;cases e;exact⟨k,u,λz=>a z,hs,q⟩
 ·cases e
theorem Em(T:C.K=X.K)(Y:X.N[i]?=a5 x)(hv:Ib X.env.scope x)(hd:(x==("__debug__":Str))=cc)(GX:(x==("__classdict__":Str))=cc)(ha:PE X a (GB C ma))
  (HQ:((HR g (ke [a] X.env)).all (λx=>!x.1)&&(OV g (Lh [] X.env)).all (λx=>x.1.isSome)
   && d6 ([a].length+([]:List M').length+(if ([]:List M').isEmpty then 0 else 1)<30))=b8)
  (GH:(b.endLine==g.line)=b8) (o:ke [a] X.env=[(cc,GV a X.env)]) :
  L2.PS X (.Expr (.Call (.Attribute (.Name x px) "append" b) [a] [] g) pos) (G7 C ns (c8 i >>= λx=>Kz x.2 >>= λ_=>ma >>= λr=>lift r >>= λu=>modS i (wj u) >>= λ_=>pure .nx)):=by
 refine PS.weak (gH (ly PySem.F.plainAttrs_list PySem.F.slot_list_append PySem.F.type_list_append lA (bE Y hv hd GX) (bH ha dB o) rfl HQ GH o rfl)) ?_;rintro D σ H ⟨p,rfl,rfl,f,h⟩;rw[ah]at h;obtain⟨k0,s,JD,y,h⟩:=cV h;obtain⟨A,l,m⟩:=f.sl i k0 s y;refine⟨A,l,?_⟩;cases s with
 |lst B =>
  rw[ah,show Kz (U.lst B)=pure () from rfl,ao]at h;have NC:aP C p p (if k0.root=b8 then .bor i else k0) (.lst B) A:=by
   by_cases hk:k0.root=b8
   ·rw[Zq hk];exact⟨⟨k0,hk,y⟩,l⟩
   ·rw[Zr hk];cases k0 with
    |loc=>exact m
    |any=>exact m
    |bor j=>exact m.elim
    |Gq=>exact(JD rfl).elim
    |_=>exact absurd rfl hk
  obtain⟨a0,MA,n,Mk,_⟩:=NC.list f;refine⟨by rw[n];exact .inl ⟨rfl,MA,T▸Mk⟩,?_⟩;refine aM f h λr c v t w=>?_;rw[ah]at w;obtain⟨S',st',u,sS,G,n1,d,I,_,_⟩:=g9 f t.ok t.nx t.rx.w w;rw[ah]at I;obtain⟨k,u1,u2,hk,hs,e,q⟩:=eE I;have J:c.σ[i]?=a5 (a5 (.ref a0)):=by rw[t.hσ,l,n]
  cases u1 with
  |lst ys =>
   simp only[wj]at e;split at e
   ·rename_i hz;cases e;obtain⟨v',e1,e2⟩:=G.sl i k (.lst ys) hs;have L:c.σ[i]?=a5 (a5 v'):=e1;rw[J]at L;cases L;obtain⟨r',er,_,_,_,ws,hw,O⟩:=e2.rt hk;cases er;have OI:c.H a0=a5 (.lst ws):=hw;refine⟨a0,ws,v,n,rfl,OI,by rw[<-O.len];exact hz,?_⟩;rw[ao]at q;obtain⟨GK,n2⟩:=Ok.mod (c:={c with S:=S',st:=st' }) (H':=upd c.H a0 (.lst (ws++[v]))) (u':=.lst (ys++[u])) G n1.toNs hk hs J (λa ne=>au ne) ⟨_,aw⟩ λQ=>⟨ws++[v],aw,(O.mv Q).snoc (d.mv Q)⟩
    have z:=q _ rfl GK n2 (Kept.of t.hσ);rw[<-t.hσ];exact z
   ·cases e
  |_=>cases e
 |_=>rw[ah]at h;exact(bb.mp h).elim
theorem En(y:C.K=X.K)(hN:X.N[i]?=a5 x)(hv:Ib X.env.scope x)(hd:(x==("__debug__":Str))=cc)(GX:(x==("__classdict__":Str))=cc)(ha:PE X a (GB C ma))
  (HQ:((HR g (ke [a] X.env)).all (λx=>!x.1)&&(OV g (Lh [] X.env)).all (λx=>x.1.isSome)
   && d6 ([a].length+([]:List M').length+(if ([]:List M').isEmpty then 0 else 1)<30))=b8)
  (GH:(f.endLine==g.line)=b8) (A:ke [a] X.env=[(cc,GV a X.env)]) :
  L2.PS X (.Expr (.Call (.Attribute (.Name x px) "extend" f) [a] [] g) pos) (G7 C ns (c8 i >>= λx=>Kz x.2 >>= λ_=>ma >>= λr=>modS i (iF r) >>= λ_=>pure .nx)):=by
 refine PS.weak (gH (ly PySem.F.plainAttrs_list PySem.F.slot_list_extend PySem.F.type_list_extend pZ (bE hN hv hd GX) (bH ha dB A) rfl HQ GH A rfl)) ?_;rintro D σ H ⟨B,rfl,rfl,l,h⟩;rw[ah]at h;obtain⟨k0,G,JD,I,h⟩:=cV h;obtain⟨J,m,n⟩:=l.sl i k0 G I;refine⟨J,m,?_⟩;cases G with
 |lst L =>
  rw[ah,show Kz (U.lst L)=pure () from rfl,ao]at h;have NC:aP C B B (if k0.root=b8 then .bor i else k0) (.lst L) J:=by
   by_cases hk:k0.root=b8
   ·rw[Zq hk];exact⟨⟨k0,hk,I⟩,m⟩
   ·rw[Zr hk];cases k0 with
    |loc=>exact n
    |any=>exact n
    |bor j=>exact n.elim
    |Gq=>exact(JD rfl).elim
    |_=>exact absurd rfl hk
  obtain⟨a0,MA,o,Mk,_⟩:=NC.list l;refine⟨by rw[o];exact .inl ⟨rfl,MA,y▸Mk⟩,?_⟩;refine aM l h λr c v t w=>?_;rw[ah]at w;obtain⟨k,p,u2,hk,hs,d,q⟩:=eE w;have O:c.σ[i]?=a5 (a5 (.ref a0)):=by rw[t.hσ,m,o]
  obtain⟨rk,ru⟩:=r;have key:∃ys e b vs,p=.lst ys/\v=.ref b/\(GY C.K c.H b vs\/Hh C.K c.H b vs)/\aq C c.S c.H e vs/\ys.length+e.length<=dV/\u2=.lst (ys++e):=by
   cases ru with
   |lst e =>
    cases p with
    |lst ys =>
     simp only[iF]at d;split at d
     ·rename_i hz;cases d;obtain⟨b,vs,ev,s,u⟩:=t.rx.list t.ok;exact⟨_,_,b,vs,rfl,ev,.inl s,c9 hz.2 u,hz.1,rfl⟩
     ·cases d
    |_=>simp[iF]at d
   |tup e =>
    cases p with
    |lst ys =>
     simp only[iF]at d;split at d
     ·rename_i hz;cases d;obtain⟨b,vs,ev,s,u⟩:=t.rx.tuple t.ok;exact⟨_,_,b,vs,rfl,ev,.inr s,c9 hz.2 u,hz.1,rfl⟩
     ·cases d
    |_=>simp[iF]at d
   |_=>simp[iF]at d
  obtain⟨ys,e,b,vs,rfl,rfl,hB,hz,hl,rfl⟩:=key;obtain⟨v',Q,e2⟩:=t.ok.sl i k (.lst ys) hs;rw[O]at Q;cases Q;obtain⟨r',er,_,_,_,ws,hw,T⟩:=e2.rt hk;cases er;refine⟨a0,b,ws,vs,o,rfl,hw,y▸hB,by rw[<-T.len,<-hz.len];exact hl,?_⟩;rw[ao]at q;obtain⟨GK,n2⟩:=Ok.mod (c:=c) (H':=upd c.H a0 (.lst (ws++vs))) (u':=.lst (ys++e)) t.ok t.nx.toNs hk hs O (λa ne=>au ne) ⟨_,aw⟩ λY=>⟨ws++vs,aw,(T.mv Y).append (hz.mv Y)⟩
  have z:=q _ rfl GK n2 (Kept.of t.hσ);rw[<-t.hσ];exact z
 |_=>rw[ah]at h;exact(bb.mp h).elim
theorem mK.or(h:mK X t)(h':mK X t'):mK X (λo i v H Q=>t o i v H Q\/t' o i v H Q):=λa s σ H o i v b c u Q I d e f q =>
 q.elim (h a s σ H o i v b c u Q I d e f) (h' a s σ H o i v b c u Q I d e f)
theorem set_dict(c:X.A.units+1<KJ):mK X (λo i v H Q=>∃a H',o=.ref a/\tI H a i v H'/\Q H'):=by
 rintro b s σ H o i v h j u Q I d e rv ⟨a,H',rfl,g,q⟩;cases d;exact tK c I g e rv λs' f=>⟨H',f,q⟩
theorem wH{S:hH->Prop}{kvs:List (Key×V)}(a:kvs.map (·.1)=ks.map sx)(c:aq C S H us (kvs.map (·.2)))(d:Rep C S H u v):
  (putK kvs (sx y) v).map (·.1)=(dput ks us y u).1.map sx/\aq C S H (dput ks us y u).2 ((putK kvs (sx y) v).map (·.2)):=by
 have e:(kvs.any λkv=>d6 (kv.1=(sx y:Key)))=d6 (y∈ks):=by
  rw[gM];exact(dy (x:=y) a c).2
 unfold putK dput;rw[e];by_cases b:y∈ks
 ·rw[Zq (by simpa using b),Zq b];constructor
  ·rw[vu];rw[<-a];apply Nl;intro p _;show(if p.1=sx y then(p.1,v) else p).1=p.1;split<;>rfl
  ·clear e b;induction kvs generalizing ks us with
   |nil =>
    have:ks=[]:=by simpa using a.symm
    subst this;simp[aq]
   |cons p kvs g =>
    cases ks with
    |nil=>simp at a
    |cons k ks =>
     cases us with
     |nil=>simp[aq]at c
     |cons j us =>
      rw[hW,hW,Oq]at a;obtain⟨l,m,f,h,i⟩:=c;rw[hW]at f;cases f;rw[hW,PD,hW,hW];refine⟨_,_,rfl,?_,g a.2 i⟩;by_cases hk:k=y
      ·rw[Zq (by exact hk),Zq (by rw[a.1,hk])];exact d
      ·rw[Zr (by exact hk),Zr (by rw[a.1];intro z;exact hk (Sh z))];exact h
 ·rw[Zr (by simpa using b),Zr b];exact⟨by rw[qs,a,qs];rfl,by rw[qs];exact c.snoc d⟩
theorem Eo(hP:C.P=X.prog)(hw:C.w=X.w)(hK:C.K=X.K)(hu:X.A.units+60<KJ)(hN:X.N[i]?=a5 x)(hv:Ib X.env.scope x)(hd:(x==("__debug__":Str))=cc)(GX:(x==("__classdict__":Str))=cc)
  (ha:PE X a (GB C ma)) (hb:PE X b (GB C mb)) (hs:Pp [.Subscript (.Name x B) b p] a pos.line X.env=pure cc) (QS:SG [.Subscript (.Name x B) b p] a X.env=pure b6)
  (O:∀v,QB (.Subscript (.Name x B) b p) X.env v=(do
   let G <-LG [v] (GV (.Name x B) X.env)
   let Q <-LG [v,G] (GV b X.env)
   V2 p
   LG [v,G,Q] (Rp G Q v)
   Tt [v,G,Q] [])) :
  L2.PS X (.Assign [.Subscript (.Name x B) b p] a pos) (G7 C ns (ma >>= λr=>c8 i >>= λ_=>mb >>= λx=>cL [r,x] >>= λus=>modS i (rP us) >>= λ_=>pure .nx)):=by
 refine PS.weak (pG ha (uZ (bE hN hv hd GX) hb (mK.or set_list (set_dict (X:=X) ⋯)) O) hs QS rfl) ?_;rintro D σ H ⟨c0,rfl,rfl,ok,h⟩;refine aM ok h λr c v t w=>?_;rw[ah]at w;obtain⟨k0,u0,JD,HV,w⟩:=cV w;obtain⟨v0,e0,Jp⟩:=t.ok.sl i k0 u0 HV;refine⟨v0,by rw[<-t.hσ];exact e0,?_⟩;rw[ah]at w;refine⟨c,t.hσ,rfl,t.ok,w.mono λy st2 w2 f m I e4 GK n2 r2=>?_⟩;subst e4;rw[ah]at w2;have QT:=t.nx.trans n2;have T:cz C c0 f [r,y] [v,m]:=⟨v,[m],rfl,t.rx.w.on t.ok n2 (I.trans t.hσ.symm),⟨m,[],rfl,(r2.w).from t.nx,rfl,λ_ i r' Y e _=>by simp at e⟩,λhk i r' Y e5 e6 GS=>by
  cases i with
  |zero=>simp at e5 e6;subst e5 e6;exact nz t.rx.w r2.w hk GS
  |succ i=>simp at e5⟩
 obtain⟨S',st',us,sS,GA,n1,g,w1⟩:=g_ ok GK QT T w2;rw[ah]at w1;obtain⟨k,J,u2,hk,Ig,d,q⟩:=eE w1;rw[ao]at q;have hσ:f.σ[i]?=a5 (a5 v0):=by rw[I,<-t.hσ];exact e0
 obtain⟨Y,e1,e2⟩:=GA.sl i k J Ig;have Hv:f.σ[i]?=a5 (a5 Y):=e1;rw[hσ]at Hv;cases Hv;obtain⟨a0,er,z1,z2,z3,l⟩:=e2.rt hk;subst er;have Vr:({f with S:=S',st:=st' }:Cf).σ[i]?=a5 (a5 (.ref a0)):=hσ;obtain⟨OH,ws,ew,Sv,Su,WN,WO,Sw,Vs⟩:∃u ws,us=[u,ws]/\Rep C S' f.H u v/\∃(_:Unit) (_:Unit),True/\Rep C S' f.H ws m/\True:=by
  cases us with
  |nil=>simp[aq]at g
  |cons u us =>
   obtain⟨_,_,e,q1,q2⟩:=g;cases e;cases us with
   |nil=>simp[aq]at q2
   |cons u' us =>
    obtain⟨_,_,e,q3,q4⟩:=q2;cases e;cases us with
    |nil=>exact⟨u,u',rfl,q1,(),(),trivial,q3,trivial⟩
    |cons _ _=>obtain⟨_,_,e,_⟩:=q4;cases e
 subst ew;rw[show rP [OH,ws] J=eT ws OH J from rfl]at d;have n:∀{H':Hp} ,(∀a,a≠a0->H' a=f.H a)->(∃o,H' a0=a5 o)->(Mv S' f.H S' H'->cJ C S' H' a0 u2)->D.nx c0.σ H':=λ{H'} Hu hr new=>by
  obtain⟨Je,n3⟩:=Ok.mod (c:={f with S:=S',st:=st' }) (H':=H') (u':=u2) GA n1.toNs hk Ig Vr Hu hr new;have z:=q _ rfl Je n3 (Kept.of I);rw[<-I];exact z
 cases J with
 |lst xs =>
  cases ws with
  |int j =>
   simp only[eT,i1]at d;obtain⟨j',hj,rfl⟩:=d;obtain⟨vs,h1,s⟩:=l;have ey:m=.int j:=Sw;refine .inl ⟨a0,vs,j,j',rfl,ey,h1,by rw[<-s.len];exact hj,?_⟩;exact n (λa ne=>au ne) ⟨_,aw⟩ λL=>⟨vs.set j' v,aw,(s.mv L).set j' (Sv.mv L)⟩
  |_=>simp[eT]at d
 |GD ks vs =>
  cases ws with
  |str y' =>
   simp only[eT]at d;split at d
   ·rename_i hz;cases d;obtain⟨kvs,h1,s,h3⟩:=l;have ey:m=.str y':=Sw;subst ey;have hl:kvs.length=ks.length:=by have:=Zv Lz s;simpa using this
    refine .inr ⟨a0,_,rfl,tI.k (k:=sx y') h1 (by rw[hl];exact hz),?_⟩;refine n (λa ne=>au ne) ⟨_,aw⟩ λL=>?_;obtain⟨g1,g2⟩:=wH (y:=y') s h3 Sv;exact⟨_,aw,g1,g2.mv L⟩
   ·cases d
  |_=>simp[eT]at d
 |_=>simp[eT]at d
theorem Ok.slot(d:Ok C c)(e:k≠.Gq)(hs:c.st[i]?=a5 (a5 (k,u))):∃v,c.σ[i]?=a5 (a5 v)/\aP C c c (if k.root=b8 then .bor i else k) u v:=by
 obtain⟨f,b,a⟩:=d.sl i k u hs;refine⟨f,b,?_⟩;by_cases hk:k.root=b8
 ·rw[Zq hk];exact⟨⟨k,hk,hs⟩,b⟩
 ·rw[Zr hk];cases k with
  |loc=>exact a
  |any=>exact a
  |bor j=>exact a.elim
  |Gq=>exact(e rfl).elim
  |_=>exact absurd rfl hk
end
end TM
namespace TM
open PySem L2 PyProof.Rows PySem.W
section
theorem Ep(d:X.calm=b8)(f:Gl X x)(g:X.mg x=a5 (.ref c))(i:(x==("__debug__":Str))=cc)(j:excIn X.K c Mu "ValueError.__new__"=b8)(k:PE X a (GB C l))(m:ke [a] X.env=[(cc,GV a X.env)])
  (n:∀H',C.xw (.str x) H'->∀b σ s e s',Inv X b σ H' s->bA X.prog X.w X.stack H' s e c b6 .none H' s'->X.xe (.ref e) s'):L2.PS X (.Raise (a5 (.Call (.Name x p) [a] [] r)) b6 pos) (G7 C ns (l >>= λ_=>pure (.rt .io (.str x)))):=by
 refine PS.weak (v5 d f g i j k m) ?_;rintro D σ H ⟨u,rfl,rfl,o,h⟩;refine aM o h λx q v t w=>?_;rw[ao]at w;exact λb s e s' I F=>n _ (w q rfl t.ok t.nx (Kept.of t.hσ)) b _ s e s' I F
theorem Ok.kill(b:Ok C c)(n:c.st[j]?=a5 b6):Ok C {c with σ:=c.σ.set j b6}/\Nx c {c with σ:=c.σ.set j b6}:=by
 have ne:∀(i:Nat) (r:Kd×U),c.st[i]?=a5 (a5 r)->(c.σ.set j b6)[i]?=c.σ[i]?:=λi r e=>i0 λz=>by subst z;rw[n]at e;cases e
 have l:∀a,({c with σ:=c.σ.set j b6}:Cf).R1 a->c.R1 a:=λa ⟨i,k,u,hk,d,f⟩=>⟨i,k,u,hk,d,(ne i _ d)▸f⟩
 have p:Jy C {c with σ:=c.σ.set j b6}:=b.dd.of rfl (λi u e=>⟨e,ne i _ e⟩) (λa z=>.inl (l a z)) (.up λ_ z=>z) λi a z=>⟨(b.root (.inr ⟨i,z⟩)).1,λo q=>q⟩
 refine⟨⟨b.same,b.Iu,b.par,b.io,by simp[b.len],λi k u e=>?_,λi m k k' u u' r hk s d f g t=>?_,p⟩,⟨λ_ _ h _=>h,λ_ o h=>⟨o,h⟩,λa z=>.inl ?_,λ_ h=>h,λ_ h=>.inl h⟩⟩
 ·obtain⟨v,q,z⟩:=b.sl i k u e;exact⟨v,(ne i _ e).trans q,z⟩
 ·exact b.inj i m k k' u u' r hk s d f ((ne i _ d)▸g) ((ne m _ f)▸t)
 ·exact z.imp (l a) λ⟨i,u,r,d,f,g⟩=>⟨i,u,r,d,(ne i _ d)▸f,g⟩
theorem wI(h:∀m,ns m=b8->m≠i/\m≠j)(u:Ok C b)(x:Ok C c)(n:Nx b c)(d:c.σ=b.σ)(y:i<c.σ.length)(hs:cS c.H H')(l:H' p=b6)(v:V)
  (w:W (t_ i j k b6) c.st (dh C b ns D)):D.nx (((b.σ.set j (a5 v)).set i (a5 (.ref p))).set j b6) (upd H' p (.tup [.str k,.bl b8])):=by
 obtain⟨r,st',e,q⟩:=w;unfold t_ at e
 dsimp only at e
 split at e
 ·rename_i A;split at e
  case isFalse=>cases e
  rename_i B;have s:c.st[j]?=a5 b6/\i≠j:=⟨A,B⟩
  have G:c.H p=b6:=by
   cases z:c.H p with
   |none=>rfl
   |some o=>rw[hs p o z]at l;cases l
  obtain⟨I,J⟩:=x.kill s.1;obtain⟨L,N⟩:=I.grow (H':=upd H' p (.tup [.str k,.bl b8])) (S':=c.S) (λa o z=>by
   rw[au (a9 z G)];exact hs a o z) (λa z=>.inl z) λa z=>z
  obtain⟨f,g,O,Q,T,Y⟩:=jv (r:=(.loc,.tup [.str k,.bl b8])) (v:=.ref p) (i:=i) u L ((n.trans J).trans N) (by simpa using y)
   (show Rep C c.S _ _ _ from⟨p,[.str k,.bl b8],rfl,.inl (.inl aw),_,_,rfl,rfl,_,_,rfl,rfl,rfl⟩) (Post:=λ_ LZ=>dh C b ns D .nx LZ) (by
    have z:W (dr i (.loc,.tup [.str k,.bl b8]) >>= λ_=>(pure .nx:M Fl)) c.st (dh C b ns D):=⟨r,st',e,q⟩
    rw[ah]at z;exact z.mono λ_ st z=>ao.mp z)
  have es:(((b.σ.set j (a5 v)).set i (a5 (.ref p))).set j b6)=(b.σ.set j b6).set i (a5 (.ref p)):=by
   rw[Yn _ _ s.2,YG]
  have z:D.nx f.σ f.H:=Y f rfl Q T ⟨λm t=>by
   rw[g];show((c.σ.set j b6).set i _)[m]?=_;rw[i0 (uv (h m t).1),i0 (uv (h m t).2),d],by rw[g];simp[d]⟩
  rw[g,O]at z;rw[es];rw[<-d];exact z
 ·cases e
theorem Er
  (Hb:∀m,ns m=b8->m≠i/\m≠j) (hN:X.N.Nodup) (hi:X.N[i]?=a5 y) (hy:Loc X.env.scope y) (OJ:X.fn y=b8) (hj:X.N[j]?=a5 n) (hn:X.env.scope.names.lookup n=a5 .local)
  (hP:C.P=X.prog) (hw:C.w=X.w) (hK:C.K=X.K) (hF:Γ f=F) (hk:∀us k u,F us=a5 (.ok (k,u))->(k=.own\/k=.loc\/k=.any)/\us.length=np) (GS:∀us c,F us=a5 (.exc c)->us.length=np)
  (G:gJ X.prog X.w X.K X.mg X.base (K2 X.prog X.w) kd fa fd ps (spT X.prog X.w X.K F np)) (hr:eM kd X.A) (hg:Gl X f) (hm:X.mg f=a5 (.ref fa)) (LU:PySem.W.keepIn X.K (.ref fa)=b8) (hb:Binds X.K fd ps []) (IX:(f==("__debug__":Str))=cc)
  (ha:PA X.Ic (e::es) (HH C ms)) (he:ke (e::es) X.env=(cc,GV e X.env)::ke es X.env) (Ha:(HR p3 (ke es X.env)).any (·.1)=cc)
  (GF:X.stack=X.env::X.outer/\X.env.frame=a5 X.env.locals) (QV:Gl X x) (QW:X.mg x=a5 (.ref l)) (Vt:Ze X.K l0 x=a5 (a5 (.ref l))) (QX:(x==("__debug__":Str))=cc) (ac:exmOne X.K (.ref l) (.ref l)=a5 b8)
  (Vu:Gl X D) (Vv:X.mg D=a5 (.ref Cd)) (Vw:(D==("__debug__":Str))=cc) (Vx:(kitCls X.K (.ref l) (.ref Cd)==a5 b8&&l != Cd)=b8) (Vy:Gl X "isinstance") (Vz:X.mg "isinstance"=b6)
  (GQ:(n==("__debug__":Str))=cc) (QY:(n==("__classdict__":Str))=cc) :
  L2.PS X (.Try [.Assign [.Name y p1] (.Call (.Name f p2) (e::es) [] p3) p4] [.ExceptHandler (a5 (.Name x p5)) (a5 n) [.Assign [.Name y p6] (.Tuple [.Constant (.str k) q p7,.Call (.Name "isinstance" p8) [.Name n p9,.Name D NF] [] MC] kx OK) NG] QZ] [] [] pos)
   (G7 C ns (ms >>= λrs=>aB rs >>= λ_=>wg Γ f (rs.map (·.2)) x >>= t_ i j k)):=by
 rintro a s σ H D' I ⟨B,rfl,rfl,ok,h⟩;have Hl:i<B.σ.length:=by rw[I.len];exact(ez.mp hi).1
 let EE:et->gj->Prop:=λv s'=>∃(c:Cf) (s1:gj) (d T:hH) (H':Hp),v=.ref d/\c.σ=B.σ/\Ok C c/\Nx B c/\Inv X a B.σ c.H s1/\bA X.prog X.w X.stack c.H s1 d l (a5 T) .none H' s'/\cS c.H H'/\W (t_ i j k b6) c.st (dh C B ns D');refine YM (nc (Q:=λf s1=>f=XA/\SP X a D' .next s1) (E:=EE) ?_ (λf s1 z=>?_) λv s1 z=>?_)
 ·refine UH (Tj (ti (dk I hg hm ?_ IX)) rfl);refine PySem.W.callWith_K (h₀:=X.base) I.ok.mod.Li LU (nc (args (X:=X.Ic) ha (I.iw _) ok h p3) (λus s1 z=>?_) λ_ _ z=>z.elim) he Ha;obtain⟨rs,c,vs,t,g,rv,w⟩:=z;have g:=g.eJ;refine⟨g.Jh,?_⟩;have ab:C.Eqv (J2 X.prog X.w X.K c.H (HN c.H)):=⟨hP,hw,hK⟩
  have Ii:(J2 X.prog X.w X.K c.H (HN c.H)).Eqv C:=⟨hP.symm,hw.symm,hK.symm⟩
  have rd:=t.read;have Y:∀(k1:Kd) (u:U),F (rs.map (·.2))=a5 (.ok (k1,u))->k1=.own\/k1=.loc->W (t_ i j k (a5 (k1,u))) c.st (dh C B ns D') ->
    eH (gs X.prog X.w) X.A (Mj (.ref fa) us) (λv s2=>eH (gs X.prog X.w) X.A (YO X.env y v) (λ_ s3=>eH (gs X.prog X.w) X.A (PySem.execs [] X.env) (λf s4=>f=XA/\SP X a D' .next s4) EE s3) EE s2) EE s1:=λk1 u L LK q=>by
   obtain⟨k0,k2⟩:=hk _ _ _ L;have HK:spT X.prog X.w X.K F np vs c.H (λv H'=>D'.nx (B.σ.set i (a5 v)) H') E0:=⟨by rw[<-rd.len];exact k2,rs.map (·.2),.ok (k1,u),HN c.H,L,λ_ z=>z,rd.cg ab,k0,λv H' S' hb=>hb.here (Q:=λv H'=>D'.nx (B.σ.set i (a5 v)) H') LK t.hσ t.ok t.nx Ii λc2 v2 e3 e4 GK n2 r2=>h_ (λm z=>(Hb m z).1) ok ⟨e3,GK,n2,r2⟩ (by rw[e3];exact Hl) (e4▸q)⟩
   refine nc (jt (EE:=EE) G hr hb g rv HK λ_ _ ⟨_,_,_,_,_,_,z⟩=>z.elim) (λv s2 ⟨v',H2,I2,r2,q2⟩=>?_) λ_ _ z=>z;rw[t.hσ]at I2;exact d0 I2 hN hi hy r2 (λs3 I3=>ML ⟨rfl,_,H2,I3,q2⟩) (.inl OJ)
  rw[ah]at w;obtain⟨r,st',J,q⟩:=w;unfold wg at J;rw[hF]at J;split at J
  ·rename_i u L;cases J;exact Y _ u L (.inl rfl) q
  ·rename_i u L;cases J;exact Y _ u L (.inr rfl) q
  ·rename_i c' L;split at J
   case isFalse=>cases J
   rename_i VA;subst VA;cases J;have HK:spT X.prog X.w X.K F np vs c.H (λ_ _=>False) (λv _ H'=>v=.ref l/\cS c.H H'):=⟨by rw[<-rd.len];exact GS _ _ L,rs.map (·.2),.exc _,HN c.H,L,λ_ z=>z,rd.cg ab,λC1 H1 O h2=>by rw[Vt]at O;cases O;exact⟨rfl,h2⟩⟩
   refine nc (jt (EE:=EE) G hr hb g rv HK λv s' ⟨d,C1,T,H',e3,F',e4,e5⟩=>?_) (λv s2 ⟨_,_,_,_,z⟩=>z.elim) λ_ _ z=>z;cases e4;exact⟨c,s1,d,T,H',e3,t.hσ,t.ok,t.nx,by rw[<-t.hσ];exact g,F',e5,q⟩
  ·cases J
 ·obtain⟨rfl,z⟩:=z;exact ML z
 ·obtain⟨c,s0,d,T,H',rfl,hσ,GO,n0,g,F1,hs,w⟩:=z;have Ir:s0.heap.FunFrames X.base (X.env::X.outer):=by rw[<-GF.1];exact g.stack
  have Ip:∀b∈G3 (X.env::X.outer),c.H b=b6:=by rw[<-GF.1];exact g.gF
  have hA:X.A.frames=a5 (X.env::X.outer):=by rw[<-GF.1];exact g.ok.frames
  rw[GF.1]at F1;refine F1.note hA GF.2 Ir Ip λT2 s2 F2=>F2.land Ir Ip λT3 s3 F3=>?_;have ag:∀{T:Option hH} {fl:et} {s':gj},bA X.prog X.w (X.env::X.outer) c.H s0 d l T fl H' s'->Inv X a B.σ H' s':=λ{T fl s'} F=>g.uS (ch:=[]) F.os (by rw[GF.1];exact F.un) F.Gz F.bare λb z=>nomatch z
  have LJ:d≠X.env.locals/\d∉X.fs:=by
   obtain⟨m,⟨o,_,_,ho,_⟩,_⟩:=g.loc;refine⟨λz=>?_,λz=>?_⟩
   ·rw[<-z,F1.new]at ho;cases ho
   ·obtain⟨_,o,q,_⟩:=Ir.mem (Kr.mpr (by
     obtain⟨env,O,h2⟩:=Kr.mp z;exact⟨env,mA _ O,h2⟩))
    rw[F1.new]at q;cases q
  have H0:∀{T:Option hH} {fl:et} {s':gj} (E:et->gj->Prop),bA X.prog X.w (X.env::X.outer) c.H s0 d l T fl H' s'->∃oe,s'.heap.get? d=a5 oe/\oe.cls=.ref l/\Inv (X.H0 d oe E) a B.σ H' s':=λ{T fl s'} E F=>by
   obtain⟨a0,oe,vs,O,h2,h3,_⟩:=F.exc;exact⟨oe,O,h2,(ag F).H0 O F.he LJ.1 LJ.2 λv z=>by rw[h3]at z;cases z⟩
  refine X6 (Xy ?_) λz=>nomatch z
  obtain⟨VB,g1,g2,I3⟩:=H0 (QN (gs X.prog X.w) (X.A.mark (a5 (.ref d))) X.env λx s'=>cameBackBy (gs X.prog X.w) X.A X.env X.xe x s') F3;refine dk I3 QV QW ?_ QX;have LT:W_ (gs X.prog X.w) s3.heap (UJ (.ref d)) (.ref l):=by
   refine(Wg g1).andThen ?_;rw[g2];exact .now
  refine(exm_one I3.Jh LT ac).here (Wt ?_);refine F3.land Ir Ip λT4 s4 F4=>?_;obtain⟨Kh,g3,g4,I4⟩:=H0 (λ_ _=>False) F4;refine d0 (X:=X.H0 d Kh λ_ _=>False) I4 hN hj (.inl hn) (v:=.ref d) rfl (λs5 I5=>?_) (.inr hn);have pi:PE (X.H0 d Kh λ_ _=>False) (.Call (.Name "isinstance" p8) [.Name n p9,.Name D NF] [] MC) (λσ H Q=>σ[j]?=a5 (a5 (.ref d))/\Q (.bl b8) H):=by
   rintro a s σ H Q I ⟨O,h2⟩;refine ti (cR I Vy Vz (show w6 "isinstance"=a5 (.builtin "isinstance") by decide +kernel) ?_ (by decide +kernel) (by decide +kernel));refine KI (GC (bH (X:=X.H0 d Kh λ_ _=>False) (bE hj (.inl hn) GQ QY) (bH (te:=λσ H Q=>Q (.ref Cd) H) (λa s σ H Q I h=>dk I Vu Vv ⟨.ref Cd,H,I,rfl,h⟩ Vw) dB) rfl MC a s σ H (λvs H'=>vs=[.ref d,.ref Cd]/\Q (.bl b8) H') I ⟨_,O,rfl,h2⟩) λus s1 ⟨vs,H1,g,r1,J,q1⟩=>?_) rfl rfl;subst J;obtain⟨u1,u2,rfl,Nz,NA⟩:=vals2 r1;cases Nz;cases NA;exact B0 g.Jh (g.pin (d,Kh) r6).1 g4 Vx ⟨.bl b8,H1,g,rfl,q1⟩
  have pt:=mL (X:=X.H0 d Kh λ_ _=>False) (pos:=NG) (pos':=p6) hN hi hy (BB (x1:=kx) (pos:=OK) (bH (pF (x:=k) (j:=q) (pos:=p7)) (bH pi dB rfl) rfl)) rfl (.inl OJ);refine nc ((jA pt mJ) a s5 _ H' {nx:=λσ H=>∃p,H' p=b6/\σ=(B.σ.set j (a5 (.ref d))).set i (a5 (.ref p))/\H=upd H' p (.tup [.str k,.bl b8]),rt:=λ_ _=>False} I5 ?_) (λfl s6 z=>?_) λ_ _ z=>z.elim
  ·refine⟨fx (by rw[I.len];exact(ez.mp hj).1),(by decide:2<=dV),λp hp=>⟨p,hp,rfl,rfl⟩⟩
  ·cases fl with
   |next =>
    obtain⟨_,_,I6,p,hp,rfl,rfl⟩:=z;exact Inv.gone (I6.D4 I.ok) hN hj hn λs7 I7=>⟨_,_,I7,wI Hb ok GO n0 hσ (by rw[hσ];exact Hl) hs hp _ w⟩
   |ret v=>obtain⟨_,_,_,_,_,z⟩:=z;exact z.elim
   |_=>obtain⟨_,_,_,z⟩:=z;exact z.elim
end
end TM
namespace TM
open PySem L2 PyProof.Rows
section
theorem Ok.Es(d:Ok C c)(n:Ns Q c)(T:c.st[i]?=a5 (a5 (.Gq,u)))(B:c.σ[i]?=a5 (a5 (.ref r)))(Hu:∀a,¬c.RD i a->H' a=c.H a)(Y:∀a o,c.H a=a5 o->∃N,H' a=a5 N)
  (new:Mv c.S c.H c.S H'->bZ C c.S H' r as' u') (ab:∀a∈as',a∈c.kid i\/(¬c.R a/\Q.H a=b6)) :
  Ok C {c with H:=H',st:=c.st.set i (a5 (.Gq,u')),kid:=λj=>if j=i then as' else c.kid j}/\Ns Q {c with H:=H',st:=c.st.set i (a5 (.Gq,u')),kid:=λj=>if j=i then as' else c.kid j}:=by
 have Hl:i<c.st.length:=(ez.mp T).1;have rt:∀{a},c.RD i a->¬c.S a/\¬C.IY a/\(C.H₀ a=b6\/C.IO a)/\∃o,c.H a=a5 o/\¬Tp o:=λz=>d.root (.inr ⟨i,z⟩);have h0:∀{a},c.RD i a->C.H₀ a=b6:=λ⟨u1,r1,g,b,e3⟩=>(bZ.fr (d.dd.kd i u1 r1 g b) _ (hU.mpr e3)).2.2;have q:∀{a:hH} {o:HO},¬c.RD i a->c.H a=a5 o->H' a=a5 o:=λz e=>by rw[Hu _ z];exact e
 have O:Mv c.S c.H c.S H':=⟨λ_ z=>z,λa o e t=>q (λz=>by
  obtain⟨_,_,_,N,l,nt⟩:=rt z;rw[e]at l;cases l;exact nt t) e,λa o z e=>q (λm=>(rt m).1 z) e⟩
 have K6:Mv (PS C c.S) c.H (PS C c.S) H':=⟨λ_ z=>z,O.Mw,λa o z e=>q (λm=>z.elim (rt m).2.1 (rt m).1) e⟩
 have D:∀(j:Nat) k w,(c.st.set i (a5 (.Gq,u')))[j]?=a5 (a5 (k,w))->j≠i->c.st[j]?=a5 (a5 (k,w)):=λj k w e ne=>by rw[i0 (uv ne)]at e;exact e
 have L0:∀(j:Nat) k w,k.root=b8->(c.st.set i (a5 (.Gq,u')))[j]?=a5 (a5 (k,w))->c.st[j]?=a5 (a5 (k,w)):=λj k w hk e=>by
  by_cases f:j=i
  ·subst f;rw[fx Hl]at e;cases e;cases hk
  ·exact D j k w e f
 have b1:∀a,({c with H:=H',st:=c.st.set i (a5 (.Gq,u')),kid:=λj=>if j=i then as' else c.kid j}:Cf).R1 a->c.R1 a:=λa ⟨j,k,w,hk,g,b⟩=>⟨j,k,w,hk,L0 j k w hk g,b⟩
 have G:∀j a,({c with H:=H',st:=c.st.set i (a5 (.Gq,u')),kid:=λj=>if j=i then as' else c.kid j}:Cf).RD j a->c.RD j a\/(j=i/\¬c.R a/\Q.H a=b6):=λj a G'=>by
  obtain⟨w,h,g,b,e3⟩:=G';by_cases f:j=i
  ·subst f;have I:c.σ[j]?=a5 (a5 (.ref h)):=b;rw[B]at I;cases I;rcases e3 with rfl|e3
   ·exact .inl ⟨u,_,T,B,.inl rfl⟩
   ·have K_:a∈as':=by simpa using e3
    rcases ab a K_ with z|z
    ·exact .inl ⟨u,_,T,B,.inr z⟩
    ·exact .inr ⟨rfl,z⟩
  ·have K_:a=h\/a∈c.kid j:=by simpa[f] using e3
   exact .inl ⟨w,h,D j _ w g f,b,K_⟩
 refine⟨⟨λa o e z=>q (λm=>by rw[h0 m]at e;cases e) (d.same a o e z),λa z=>?_,d.par,λa z=>?_,by simp[d.len],λj k w e=>?_,λx s k1 k2 w1 w2 h h1 h2 g b e3 e4=>d.inj x s k1 k2 w1 w2 h h1 h2 (L0 x k1 w1 h1 g) (L0 s k2 w2 h2 b) e3 e4,⟨λj w h g b=>?_,λx s a J L=>?_,λj a J L=>?_⟩⟩,⟨λa o e z=>?_,λa o e=>?_,λa z=>?_,n.sub,n.new⟩⟩
 ·obtain⟨q1,o,q2⟩:=d.Iu a z;exact⟨q1,Y a o q2⟩
 ·obtain⟨q1,o,q2⟩:=d.io a z;exact⟨q1,Y a o q2⟩
 ·by_cases f:j=i
  ·subst f;rw[fx Hl]at e;cases e;exact⟨.ref r,B,r,rfl⟩
  ·obtain⟨v,g,b⟩:=d.sl j k w (D j k w e f);refine⟨v,g,b.mv O K6 λhk h er=>?_⟩;obtain⟨OC,H9,J,_⟩:=b.rt hk;rw[er]at H9;cases H9;exact⟨J,λo l=>q (λz=>d.dd.d1 i h z ⟨j,k,w,hk,D j k w e f,by rw[g,er]⟩) l⟩
 ·by_cases f:j=i
  ·subst f;rw[fx Hl]at g;cases g;have I:c.σ[j]?=a5 (a5 (.ref h)):=b;rw[B]at I;cases I;have z:=new O;simpa using z
  ·have Hv:=D j _ w g f;have GS:(if j=i then as' else c.kid j)=c.kid j:=Zr f;show bZ C c.S H' h (if j=i then as' else c.kid j) w;rw[GS];exact bZ.mv O (λa ha=>⟨(d.root (.inr ⟨j,w,h,Hv,b,hU.mp ha⟩)).1,λo l=>q (λz=>f (d.dd.dj j i a ⟨w,h,Hv,b,hU.mp ha⟩ z)) l⟩) (d.dd.kd j w h Hv b)
 ·rcases G x a J with p|⟨rfl,p,_⟩
  ·rcases G s a L with A|⟨rfl,A,_⟩
   ·exact d.dd.dj x s a p A
   ·exact(A (.inr ⟨x,p⟩)).elim
  ·rcases G s a L with A|⟨rfl,A,_⟩
   ·exact(p (.inr ⟨s,A⟩)).elim
   ·rfl
 ·rcases G j a J with p|⟨rfl,p,_⟩
  ·exact d.dd.d1 j a p (b1 a L)
  ·exact p (.inl (b1 a L))
 ·exact q (λm=>by
   rcases n.roots a (.inr ⟨i,m⟩) with y|y
   ·exact z y
   ·rw[e]at y;cases y) (n.keep a o e z)
 ·obtain⟨N,l⟩:=n.there a o e;exact Y a N l
 ·rcases z with z|⟨j,z⟩
  ·exact n.roots a (.inl (b1 a z))
  ·rcases G j a z with y|⟨_,_,y⟩
   ·exact n.roots a (.inr ⟨j,y⟩)
   ·exact .inr y
theorem Ok.newD(l:Ok C c)(B:c.H p=b6)(u:i<c.σ.length):
  Ok C {c with H:=upd c.H p (.dK []),σ:=c.σ.set i (a5 (.ref p)),st:=c.st.set i (a5 (.Gq,.GD [] [])),kid:=λj=>if j=i then [] else c.kid j}/\Ns c {c with H:=upd c.H p (.dK []),σ:=c.σ.set i (a5 (.ref p)),st:=c.st.set i (a5 (.Gq,.GD [] [])),kid:=λj=>if j=i then [] else c.kid j}:=by
 obtain⟨n,T⟩:=l.lay (o:=.dK []) B;obtain⟨q1,q2,q3,q4,D⟩:=l.jX B;have G:i<c.st.length:=by rw[l.len];exact u
 have x:∀(j:Nat) k w,(c.st.set i (a5 (.Gq,.GD [] [])))[j]?=a5 (a5 (k,w))->j≠i->c.st[j]?=a5 (a5 (k,w)):=λj k w e ne=>by rw[i0 (uv ne)]at e;exact e
 have q:∀(j:Nat),j≠i->(c.σ.set i (a5 (.ref p)))[j]?=c.σ[j]?:=λj ne=>i0 (uv ne);have I:∀(j:Nat) k w,k.root=b8->(c.st.set i (a5 (.Gq,.GD [] [])))[j]?=a5 (a5 (k,w))->j≠i/\c.st[j]?=a5 (a5 (k,w)):=λj k w hk e=>by
  by_cases b:j=i
  ·subst b;rw[fx G]at e;cases e;cases hk
  ·exact⟨b,x j k w e b⟩
 have J:∀a,({c with H:=upd c.H p (.dK []),σ:=c.σ.set i (a5 (.ref p)),st:=c.st.set i (a5 (.Gq,.GD [] [])),kid:=λj=>if j=i then [] else c.kid j}:Cf).R1 a->c.R1 a:=λa L=>by
  obtain⟨j,k,w,hk,d,f⟩:=L;obtain⟨b,N⟩:=I j k w hk d;exact⟨j,k,w,hk,N,by rw[<-q j b];exact f⟩
 have r:∀j a,({c with H:=upd c.H p (.dK []),σ:=c.σ.set i (a5 (.ref p)),st:=c.st.set i (a5 (.Gq,.GD [] [])),kid:=λj=>if j=i then [] else c.kid j}:Cf).RD j a->(j≠i/\c.RD j a)\/(j=i/\a=p):=λj a L=>by
  obtain⟨w,g,d,f,e3⟩:=L;by_cases b:j=i
  ·subst b;have s:(c.σ.set j (a5 (.ref p)))[j]?=a5 (a5 (.ref g)):=f;rw[fx u]at s;cases s;rcases e3 with rfl|e3
   ·exact .inr ⟨rfl,rfl⟩
   ·simp at e3
  ·have K_:a=g\/a∈c.kid j:=by simpa[b] using e3
   exact .inl ⟨b,w,g,x j _ w d b,by rw[<-q j b];exact f,K_⟩
 refine⟨⟨n.same,n.Iu,n.par,n.io,by simp[l.len],λj k w e=>?_,λm h k1 k2 Y w2 g h1 h2 d f e3 e4=>?_,⟨λj w g d f=>?_,λm h a O t=>?_,λj a O t=>?_⟩⟩,⟨T.keep,T.there,λa z=>?_,λ_ z=>z,λ_ z=>.inl z⟩⟩
 ·by_cases b:j=i
  ·subst b;rw[fx G]at e;cases e;exact⟨.ref p,fx u,p,rfl⟩
  ·obtain⟨v,d,f⟩:=n.sl j k w (x j k w e b);exact⟨v,(q j b).trans d,f⟩
 ·obtain⟨JH,a1⟩:=I m k1 Y h1 d;obtain⟨Jx,a2⟩:=I h k2 w2 h2 f;exact l.inj m h k1 k2 Y w2 g h1 h2 a1 a2 ((q m JH).symm.trans e3) ((q h Jx).symm.trans e4)
 ·by_cases b:j=i
  ·subst b;rw[fx G]at d;cases d;have s:(c.σ.set j (a5 (.ref p)))[j]?=a5 (a5 (.ref g)):=f;rw[fx u]at s;cases s;show bZ C c.S (upd c.H p (.dK [])) p (if j=j then [] else c.kid j) (.GD [] []);rw[Zq rfl];exact⟨[],aw,rfl,rfl,by simp,λa ha=>by rw[kr.mp ha];exact⟨q2,q3,q1⟩,rfl⟩
  ·have N:=x j _ w d b;have z:=n.dd.kd j w g N ((q j b).symm.trans f);show bZ C c.S (upd c.H p (.dK [])) g (if j=i then [] else c.kid j) w;rw[Zr b];exact z
 ·rcases r m a O with⟨_,A⟩|⟨rfl,rfl⟩
  ·rcases r h a t with⟨_,Q⟩|⟨rfl,rfl⟩
   ·exact l.dd.dj m h a A Q
   ·exact(D (.inr ⟨m,A⟩)).elim
  ·rcases r h a t with⟨_,Q⟩|⟨rfl,_⟩
   ·exact(D (.inr ⟨h,Q⟩)).elim
   ·rfl
 ·rcases r j a O with⟨_,A⟩|⟨rfl,rfl⟩
  ·exact l.dd.d1 j a A (J a t)
  ·exact D (.inl (J a t))
 ·rcases z with z|⟨j,z⟩
  ·exact .inl (.inl (J a z))
  ·rcases r j a z with⟨_,y⟩|⟨_,rfl⟩
   ·exact .inl (.inr ⟨j,y⟩)
   ·exact .inr B
end
section
theorem de.rep{S S':hH->Prop}(hs:∀a,S a->S' a):∀{us:List U}{as:List hH},(∀a∈as,S' a)->de C S H us as->aq C S' H us (as.map V.ref)
 |[],as,_,h=>by cases h;exact rfl
 |u::us,as,c,h=>by
  obtain⟨a,as',ys,vs,rfl,rfl,d,e,f⟩:=h;exact⟨.ref a,as'.map V.ref,rfl,⟨a,vs,rfl,.inl ⟨c a (by simp),.inl d⟩,e.mv (.up hs)⟩,de.rep hs (λb g=>c b (by simp[g])) f⟩
theorem Ok.Gg(b:Ok C c)(n:Nx c0 c)(Q:c.st[i]?=a5 (a5 (.Gq,u)))(s:c.σ[i]?=a5 (a5 (.ref r))):
  Ok C {c with S:=λa=>c.S a\/a∈c.kid i,st:=c.st.set i (a5 (.own,u))}/\Nx c0 {c with S:=λa=>c.S a\/a∈c.kid i,st:=c.st.set i (a5 (.own,u))}:=by
 have T:i<c.st.length:=(ez.mp Q).1;have B:=b.dd.kd i u r Q s;have fr:=bZ.fr B;have mem:∀a,(a=r\/a∈c.kid i)->c.RD i a:=λa z=>⟨u,r,Q,s,z⟩
 have up:Mv c.S c.H (λa=>c.S a\/a∈c.kid i) c.H:=.up λa=>.inl;have VC:Mv (PS C c.S) c.H (PS C λa=>c.S a\/a∈c.kid i) c.H:=.up λa z=>z.imp id .inl;have OL:r∉c.kid i/\cJ C (λa=>c.S a\/a∈c.kid i) c.H r u:=by
  cases u<;>first|exact B.elim|skip
  obtain⟨kvs,D,G,h3,h4,h5,h6⟩:=B;refine⟨(td.mp h4).1,kvs,D,G,?_⟩;rw[h3];exact h6.rep (λa=>.inl) λa I=>.inr I
 have p:∀(j:Nat) k w,(c.st.set i (a5 (.own,u)))[j]?=a5 (a5 (k,w))->j≠i->c.st[j]?=a5 (a5 (k,w)):=λj k w e ne=>by rw[i0 (uv ne)]at e;exact e
 have b1:∀a,({c with S:=λa=>c.S a\/a∈c.kid i,st:=c.st.set i (a5 (.own,u))}:Cf).R1 a->c.R1 a\/a=r:=λa Y=>by
  obtain⟨j,k,w,hk,f,g⟩:=Y;by_cases d:j=i
  ·subst d;have Iq:c.σ[j]?=a5 (a5 (.ref a)):=g;rw[s]at Iq;cases Iq;exact .inr rfl
  ·exact .inl ⟨j,k,w,hk,p j k w f d,g⟩
 have J:∀j a,({c with S:=λa=>c.S a\/a∈c.kid i,st:=c.st.set i (a5 (.own,u))}:Cf).RD j a->j≠i/\c.RD j a:=λj a Y=>by
  obtain⟨w,h,f,g,t⟩:=Y;by_cases d:j=i
  ·subst d;rw[fx T]at f;cases f
  ·exact⟨d,w,h,p j _ w f d,g,t⟩
 refine⟨⟨b.same,λa z=>?_,b.par,b.io,by simp[b.len],λj k w e=>?_,λm l k1 k2 L N h D G f g t e4=>?_,⟨λj w h f g=>?_,λm l a x z2=>b.dd.dj m l a (J m a x).2 (J l a z2).2,λj a x z2=>?_⟩⟩,⟨⟨n.keep,n.there,λa z=>?_,λa z=>.inl (n.sub a z),λa z=>?_⟩⟩⟩
 ·rcases z with z|z
  ·exact b.Iu a z
  ·obtain⟨o,ho,_⟩:=bZ.there B a (mA _ z);exact⟨(fr a (mA _ z)).2.2,o,ho⟩
 ·by_cases d:j=i
  ·subst d;rw[fx T]at e;cases e;obtain⟨q1,q2,q3⟩:=fr r (r6 ..);exact⟨.ref r,s,r,rfl,λz=>z.elim q1 OL.1,q2,q3,OL.2⟩
  ·obtain⟨v,f,g⟩:=b.sl j k w (p j k w e d);refine⟨v,f,g.mv up VC λhk h er=>?_⟩;obtain⟨OC,H9,x,_⟩:=g.rt hk;rw[er]at H9;cases H9;exact⟨λz=>z.elim x λz=>b.dd.d1 i h (mem h (.inr z)) ⟨j,k,w,hk,p j k w e d,by rw[f,er]⟩,λo q=>q⟩
 ·by_cases O:m=i
  ·by_cases A:l=i
   ·rw[O,A]
   ·subst O;have K_:c.σ[m]?=a5 (a5 (.ref h)):=t;rw[s]at K_;cases K_;exact(b.dd.d1 m r (mem r (.inl rfl)) ⟨l,k2,N,G,p l k2 N g A,e4⟩).elim
  ·by_cases A:l=i
   ·subst A;have Sx:c.σ[l]?=a5 (a5 (.ref h)):=e4;rw[s]at Sx;cases Sx;exact(b.dd.d1 l r (mem r (.inl rfl)) ⟨m,k1,L,D,p m k1 L f O,t⟩).elim
   ·exact b.inj m l k1 k2 L N h D G (p m k1 L f O) (p l k2 N g A) t e4
 ·by_cases d:j=i
  ·subst d;rw[fx T]at f;cases f
  ·have Hv:=p j _ w f d;exact bZ.mv up (λa I=>⟨λz=>z.elim (b.root (.inr ⟨j,w,h,Hv,g,hU.mp I⟩)).1 λz=>d (b.dd.dj j i a ⟨w,h,Hv,g,hU.mp I⟩ (mem a (.inr z))),λo q=>q⟩) (b.dd.kd j w h Hv g)
 ·obtain⟨d,y⟩:=J j a x;rcases b1 a z2 with z|z
  ·exact b.dd.d1 j a y z
  ·subst z;exact d (b.dd.dj j i a y (mem a (.inl rfl)))
 ·rcases z with z|⟨j,z⟩
  ·rcases b1 a z with z|rfl
   ·exact n.roots a (.inl z)
   ·exact n.roots a (.inr ⟨i,mem a (.inl rfl)⟩)
  ·exact n.roots a (.inr ⟨j,(J j a z).2⟩)
 ·rcases z with z|z
  ·exact n.new a z
  ·rcases n.roots a (.inr ⟨i,mem a (.inr z)⟩) with y|y
   ·exact .inr (.inl y)
   ·exact .inr (.inr y)
theorem zC(g:X.N[i]?=a5 x)(j:Ib X.env.scope x)(k:(x==("__debug__":Str))=cc)(l:(x==("__classdict__":Str))=cc):PE X (.Name x pos) (GB C (wb i)):=by
 have n:=nA (C:=C) (pos:=pos) g j k l;rintro c s σ H Q I ⟨b,rfl,rfl,d,r,st',e,h⟩;unfold wb at e;split at e
 ·rename_i u hs;cases e;obtain⟨v,f,m,rfl⟩:=d.sl i _ _ hs;obtain⟨o,p⟩:=d.Gg (Nx.refl b) hs f;have q:i<b.st.length:=(ez.mp hs).1;exact bE g j k l c s b.σ b.H Q I ⟨.ref m,f,h {b with S:=λa=>b.S a\/a∈b.kid i,st:=b.st.set i (a5 (.own,u))} (.ref m) rfl rfl o p ⟨⟨.own,rfl,fx q⟩,f⟩⟩
 ·exact n c s b.σ b.H Q I ⟨b,rfl,rfl,d,r,st',e,h⟩
end
section
theorem fL{st:ax}(h:W (gV i) st Q):∃ks us,st[i]?=a5 (a5 (.Gq,.GD ks us))/\Q (ks,us) st:=by
 obtain⟨r,st',e,q⟩:=h;unfold gV at e;split at e
 ·rename_i ks us hs;cases e;exact⟨ks,us,hs,q⟩
 ·cases e
theorem fM{st:ax}(h:W (jh x) st Q):∃y,x.2=.str y/\Q y st:=by
 unfold jh at h;split at h
 ·rename_i y e;rw[ao]at h;exact⟨y,e,h⟩
 ·exact(bb.mp h).elim
theorem Ok.GD(d:Ok C c)(f:c.st[i]?=a5 (a5 (.Gq,.GD ks us))):∃(r:hH) (kvs:List (Key×V)),c.σ[i]?=a5 (a5 (.ref r))/\c.H r=a5 (.dK kvs)/\kvs.map (·.1)=ks.map sx/\kvs.map (·.2)=(c.kid i).map V.ref /\
  (r::c.kid i).Nodup/\de C c.S c.H us (c.kid i)/\(∀y:Str,(dm kvs (sx y)).isSome=d6 (y∈ks))/\∀(y:Str) (u:U),dN ks us y=a5 u->∃v,dm kvs (sx y)=a5 v/\Rep C (λa=>c.S a\/a∈c.kid i) c.H u v:=by
 obtain⟨v,e,r,rfl⟩:=d.sl i _ _ f;obtain⟨kvs,k,b,g,l,n,h⟩:=d.dd.kd i _ r f e;have j:aq C (λa=>c.S a\/a∈c.kid i) c.H us (kvs.map (·.2)):=by rw[g];exact h.rep (λa=>.inl) λa m=>.inr m
 exact⟨r,kvs,e,k,b,g,l,h,λy=>(dy (x:=y) b j).2,λy=>(dy (x:=y) b j).1⟩
theorem oP{k:Str->List Str×List U->M β}{Post:β->ax->Prop}{Z:V->V->Hp->Prop}(m:Ok C a)(h:W (o >>= λx=>jh x >>= λy=>gV i >>= λd=>k y d) a.st Post)
  (hz:∀(c:Cf) (y:Str) (ks:List Str) (us:List U) (r:hH) (kvs:List (Key×V)),c.σ=a.σ->Ok C c->Nx a c->c.H r=a5 (.dK kvs)->(dm kvs (sx y)).isSome=d6 (y∈ks)->W (k y (ks,us)) c.st Post->Z (.str y) (.ref r) c.H) :
  GB C o a.σ a.H λv p=>∃f,a.σ[i]?=a5 (a5 f)/\Z v f p:=by
 refine⟨a,rfl,rfl,m,?_⟩;rw[ah]at h;refine W.mono h λx st' w c v g hs b n r=>?_;subst hs;obtain⟨u,z⟩:=x;rw[ah]at w;obtain⟨y,e,j⟩:=fM w;clear w
 dsimp only at e r
 subst e;have ev:v=.str y:=r.str b;subst ev;rw[ah]at j;obtain⟨ks,us,hs,w⟩:=fL j;obtain⟨l,kvs,q,s,_,_,_,_,t,_⟩:=b.GD hs;exact⟨.ref l,by rw[<-g];exact q,hz c y ks us l kvs g b n s (t y) w⟩
noncomputable def CH(neg:Bool):CmpOp:=if neg=b8 then .NotIn else .In
theorem CI(d:∀j,ns j=b8->j≠i)(f:X.N.Nodup)(c:X.N[i]?=a5 x)(g:Loc X.env.scope x)(k:X.fn x=b8\/X.env.scope.names.lookup x=a5 .local)
  (hs:Ny (.Dict [] [] p) (a5 (.Name x pos')) pos.line X.env=pure cc):L2.PS X (.Assign [.Name x pos'] (.Dict [] [] p) pos) (G7 C ns (AF i >>= λ_=>pure .nx)):=by
 rintro a s σ H D I ⟨b,rfl,rfl,l,h⟩;have m:i<b.σ.length:=by rw[I.len];exact(ez.mp c).1
 refine mL f c g oi hs k a s b.σ b.H D I λq n=>?_;obtain⟨o,r⟩:=l.newD n m;rw[ah]at h;obtain⟨_,st',e,w⟩:=h;cases e;rw[ao]at w;exact w _ rfl o r ⟨λj t=>i0 (uv (d j t)),by simp⟩
end
section
theorem zD(J:X.A.units+60<KJ)(q:X.N[i]?=a5 x)(t:Ib X.env.scope x)(u:(x==("__debug__":Str))=cc)(v:(x==("__classdict__":Str))=cc)(z:PE X a (GB C G))(B:Pq (CH neg) (.Name x p2)=cc):
  PT X (.Compare a [CH neg] [.Name x p2] pos) (HE C (G >>= λx=>jh x >>= λy=>gV i >>= λd=>pure (Qy neg y d.1))):=by
 rintro e s σ H Q I ⟨g,rfl,rfl,D,h⟩;cases neg with
 |false =>
  refine uV (BL ⋯ z (bE q t u v)) B e s g.σ g.H Q I (oP (Z:=λy x f=>∃a o,x=V.ref a/\eN f a y o/\∃b,V.bl o.isSome=.bl b/\Q b f) D h λc y ks us r kvs j l n m p w=>?_);rw[ao]at w;refine⟨r,_,rfl,eN.k (k:=sx y) m,?_⟩;rw[p];exact⟨_,rfl,w c j rfl l n⟩
 |true =>
  refine uV (tL ⋯ z (bE q t u v)) B e s g.σ g.H Q I (oP (Z:=λy x f=>∃a o,x=V.ref a/\eN f a y o/\∃b,V.bl (!o.isSome)=.bl b/\Q b f) D h λc y ks us r kvs j l n m p w=>?_);rw[ao]at w;refine⟨r,_,rfl,eN.k (k:=sx y) m,?_⟩;rw[p];exact⟨_,rfl,w c j rfl l n⟩
theorem de.snoc{S:hH->Prop}{a:hH}(b:H a=a5 (.lst vs))(c:aq C S H ys vs):∀{us:List U}{as:List hH},de C S H us as->de C S H (us++[.lst ys]) (as++[a])
 |[],as,h=>by cases h;exact⟨a,[],ys,vs,rfl,rfl,b,c,rfl⟩
 |u::us,as,h=>by
  obtain⟨d,as',f,g,rfl,e,i,j,k⟩:=h;exact⟨d,as'++[a],f,g,rfl,e,i,j,de.snoc b c k⟩
theorem qm{st:ax}(h:W (j3 i y r) st Q):∃us ks vs,r=(.own,.lst us)/\st[i]?=a5 (a5 (.Gq,.GD ks vs))/\y∉ks/\ks.length<dV/\Q () (st.set i (a5 (.Gq,.GD (ks++[y]) (vs++[.lst us])))):=by
 obtain⟨k,u⟩:=r;cases k<;>cases u<;>first|exact(bb.mp h).elim|skip
 rename_i us;obtain⟨_,st',e,q⟩:=h;unfold j3 at e
 dsimp only at e
 split at e
 ·rename_i ks vs hs;split at e
  ·rename_i hz;cases e;exact⟨us,ks,vs,rfl,hs,hz.1,hz.2,q⟩
  ·cases e
 ·cases e
theorem CJ{i:Nat}{x:Str}{j:Pos}(hu:X.A.units+60<KJ)(hN:X.N[i]?=a5 x)(hv:Ib X.env.scope x)(hd:(x==("__debug__":Str))=cc)(GX:(x==("__classdict__":Str))=cc)
  (ha:PE X a (GB C ma)) (B:PE X b (GB C mb)) (hs:Pp [.Subscript (.Name x j) b p] a pos.line X.env=pure cc) (QS:SG [.Subscript (.Name x j) b p] a X.env=pure b6)
  (G:∀v,QB (.Subscript (.Name x j) b p) X.env v=(do
   let n <-LG [v] (GV (.Name x j) X.env)
   let I <-LG [v,n] (GV b X.env)
   V2 p
   LG [v,n,I] (Rp n I v)
   Tt [v,n,I] [])) :
  L2.PS X (.Assign [.Subscript (.Name x j) b p] a pos) (G7 C ns (ma >>= λr=>gV i >>= λ_=>mb >>= λx=>jh x >>= λy=>j3 i y r >>= λ_=>pure .nx)):=by
 refine PS.weak (pG ha (uZ (bE hN hv hd GX) B (set_dict (X:=X) ⋯) G) hs QS rfl) ?_;rintro D σ H ⟨c0,rfl,rfl,O,h⟩;refine aM O h λr c v t w=>?_;rw[ah]at w;obtain⟨Sy,us0,HV,w⟩:=fL w;obtain⟨Q,L3,T,g0,_⟩:=t.ok.GD HV;refine⟨.ref Q,by rw[<-t.hσ];exact T,?_⟩;rw[ah]at w;refine⟨c,t.hσ,rfl,t.ok,w.mono λy st2 Y J vy s e4 u n2 r2=>?_⟩;subst e4;rw[ah]at Y;obtain⟨ky,uy⟩:=y;obtain⟨y,ey,w3⟩:=fM Y
 dsimp only at ey r2
 subst ey;have ev:vy=.str y:=r2.str u;subst ev;rw[ah]at w3;obtain⟨us,ks,vs,L,g,Om,l,q⟩:=qm w3;subst L;rw[ao]at q;obtain⟨m,kvs,d,g1,g2,g3,g4,g5,g6,_⟩:=u.GD g;have L:m=Q:=by rw[s,<-t.hσ,T]at d;cases d;rfl
 subst L;obtain⟨f,rfl,k1,k2,k3,Hj,k4,k5⟩:=t.rx.w.on t.ok n2.toNs (s.trans t.hσ.symm);have QT:=t.nx.trans n2;have hl:kvs.length=ks.length:=by have:=Zv Lz g2;simpa using this
 have J5:dm kvs (sx y)=b6:=by
  have:=g6 y;rw[Zs Om]at this;cases hq:dm kvs (sx y) with
  |none=>rfl
  |some _=>rw[hq]at this;cases this
 refine⟨m,_,rfl,tI.k (k:=sx y) g1 (by rw[hl];exact l),?_⟩;rw[vm _ J5];have OL:f∉J.kid i:=λz=>k3 (.inr ⟨i,_,_,g,d,.inr z⟩);have Sz:f≠m:=λz=>k3 (.inr ⟨i,_,_,g,d,.inl z⟩);have rd:=u.dd.kd i _ _ g d;have fr:=bZ.fr rd;obtain⟨Je,n3⟩:=Ok.Es (H':=upd J.H m (.dK (kvs++[(sx y,.ref f)]))) (u':=.GD (ks++[y]) (vs++[.lst us])) (as':=J.kid i++[f]) u QT.toNs g d
  (λa ne=>au λz=>ne ⟨_,_,g,d,.inl z⟩) (λa o e=>by
   by_cases hz:a=m
   ·subst hz;exact⟨_,aw⟩
   ·rw[au hz];exact⟨o,e⟩)
  (λmv=>by
   refine⟨_,aw,by rw[qs,g2,qs];rfl,by rw[qs,g3,qs];rfl,?_,λa ha=>?_,?_⟩
   ·rw[<-XJ,JJ];exact⟨g4,by simp,λa ha b B=>by
     have:b=f:=by simpa using B
     subst this;rintro rfl;rcases hU.mp ha with z|z
     ·exact Sz z
     ·exact OL z⟩
   ·rw[<-XJ]at ha;rcases qd.mp ha with ha|ha
    ·exact fr a ha
    ·have:a=f:=by simpa using ha
     subst this;obtain⟨z1,_,z3,_⟩:=O.jX k1;exact⟨k2,z3,z1⟩
   ·exact de.snoc (by rw[au Sz];exact k4) (k5.mv mv) (de.mv mv (λa ha o e=>by
     rw[au (λz=>(td.mp g4).1 (by rw[<-z];exact ha))];exact e) g5))
  (λa ha=>by
   rcases qd.mp ha with ha|ha
   ·exact .inl ha
   ·have:a=f:=by simpa using ha
    subst this;exact .inr ⟨k3,k1⟩)
 have z:=q _ rfl Je n3 (Kept.of s);rw[<-s];exact z
theorem de.at{S:hH->Prop}:∀{ks:List Str}{us:List U}{as:List hH}{kvs:List (Key×V)}{u:U},kvs.map (·.1)=ks.map sx->kvs.map (·.2)=as.map V.ref->as.Nodup->de C S H us as->dN ks us y=a5 u ->
  ∃a ws ys,dm kvs (sx y)=a5 (.ref a)/\a∈as/\u=.lst ys/\H a=a5 (.lst ws)/\aq C S H ys ws/\∀(H':Hp) (c:List U) (d:List V),Mv S H S H'->H' a=a5 (.lst d)->aq C S H' c d->(∀b∈as,b≠a->H' b=H b)->de C S H' (ji ks us y (.lst c)) as
 |[],us,as,kvs,u,_,_,_,_,h=>by cases us<;>cases h
 |k::ks,[],as,kvs,u,_,_,_,_,h=>by cases h
 |k::ks,O::us,as,kvs,u,f,n,g,hk,h=>by
  obtain⟨a,as',ys,ws,rfl,rfl,s,t,v⟩:=hk;cases kvs with
  |nil=>simp at f
  |cons p kvs =>
   rw[hW,hW,Oq]at f n;rw[td]at g;by_cases i:k=y
   ·subst i;simp only[dN,if_true]at h;cases h;refine⟨a,ws,ys,by rw[d9 f.1,n.1],by simp,rfl,s,t,λH' c d j q r l=>?_⟩;simp only[ji,if_true];exact⟨a,as',c,d,rfl,rfl,q,r,de.mv j (λb m o e=>by rw[l b (by simp[m]) (λz=>g.1 (z▸m))];exact e) v⟩
   ·simp only[dN,Zr i]at h;obtain⟨w,A,B,D,x,G,I,J,L⟩:=de.at f.2 n.2 g.2 v h;refine⟨w,A,B,?_,by simp[x],G,I,J,λH' c d j q r l=>?_⟩
    ·rw[d_ (by rw[f.1];intro z;exact i (Sh z))];exact D
    ·simp only[ji,Zr i];have N:a≠w:=λz=>g.1 (z▸x);exact⟨a,as',ys,ws,rfl,rfl,by rw[l a (by simp) N];exact s,t.mv j,L H' c d j q r λb m=>l b (by simp[m])⟩
theorem qo{st:ax}(h:W (j4 i y u) st Q):∃ks vs xs,st[i]?=a5 (a5 (.Gq,.GD ks vs))/\dN ks vs y=a5 (.lst xs)/\xs.length<dV/\Q () (st.set i (a5 (.Gq,.GD ks (ji ks vs y (.lst (xs++[u])))))):=by
 obtain⟨_,st',e,q⟩:=h;unfold j4 at e;split at e
 ·rename_i ks vs hs;split at e
  ·rename_i xs a;split at e
   ·rename_i hz;cases e;exact⟨ks,vs,xs,hs,a,hz,q⟩
   ·cases e
  ·cases e
 ·cases e
def uh(C:Ct)(m:M (Kd×U)):TE:=λσ H Q=>∃b:Cf,b.σ=σ/\b.H=H/\Ok C b/\W m b.st λr st'=>∀c v,c.σ=σ->c.st=st'->Ok C c->Nx b c->(∀a o,b.H a=a5 o->c.H a=a5 o)->aP C b c r.1 r.2 v->Q v c.H
theorem lS(d:Ok C b)(h:W (e >>= k) b.st Post)
  (hz:∀x c v,Jo C b c x v->(∀a o,b.H a=a5 o->c.H a=a5 o)->W (k x) c.st Post->Z v c.H):uh C e b.σ b.H Z:=by
 rw[ah]at h;exact⟨b,rfl,rfl,d,h.mono λx st1 f g i j l m n p q=>hz x g i ⟨j,m,n,q⟩ p (by rw[l];exact f)⟩
theorem wJ(f:X.N[i]?=a5 x)(g:Ib X.env.scope x)(l:(x==("__debug__":Str))=cc)(m:(x==("__classdict__":Str))=cc):PE X (.Name x pos) (uh C (c8 i)):=by
 refine PE.weak (bE f g l m) ?_;rintro σ H Q ⟨b,rfl,rfl,c,r,st',e,h⟩;unfold c8 at e;split at e
 ·cases e
 ·rename_i k u n hs;cases e;obtain⟨v,d,a⟩:=c.sl i k u hs;refine⟨v,d,h b v rfl rfl c (Nx.refl b) (λ_ _ z=>z) ?_⟩;by_cases hk:k.root=b8
  ·rw[Zq hk];exact⟨⟨k,hk,hs⟩,d⟩
  ·rw[Zr hk];cases k with
   |loc=>exact a
   |any=>exact a
   |bor j=>exact a.elim
   |Gq=>exact(n rfl).elim
   |_=>exact absurd rfl hk
 ·cases e
theorem ia(h:PE X e (tC v))(r:∀S H,Rep C S H u v):PE X e (uh C (pure (.loc,u))):=by
 refine PE.weak h ?_;rintro σ H Q ⟨a,rfl,rfl,b,h⟩;rw[ao]at h;exact h a v rfl rfl b (Nx.refl a) (λ_ _ z=>z) (r _ _)
theorem CK(hK:C.K=X.K)(hu:X.A.units+60<KJ)(hN:X.N[i]?=a5 x)(hv:Ib X.env.scope x)(hd:(x==("__debug__":Str))=cc)(GX:(x==("__classdict__":Str))=cc)(G:PE X a (uh C ma))(hb:PE X b (GB C mb))(SA:BK b)
  (HQ:((HR I (ke [a] X.env)).all (λx=>!x.1)&&(OV I (Lh [] X.env)).all (λx=>x.1.isSome)
   && d6 ([a].length+([]:List M').length+(if ([]:List M').isEmpty then 0 else 1)<30))=b8)
  (GH:(j.endLine==I.line)=b8) (GF:ke [a] X.env=[(cc,GV a X.env)]) :
  L2.PS X (.Expr (.Call (.Attribute (.Subscript (.Name x px) b p) "append" j) [a] [] I) pos) (G7 C ns (gV i >>= λ_=>mb >>= λx=>jh x >>= λy=>gV i >>= λd=>if y∈d.1 then(ma >>= λr=>lift r >>= λu=>j4 i y u >>= λ_=>pure .nx) else M.fail)):=by
 refine PS.weak (gH (ly PySem.F.plainAttrs_list PySem.F.slot_list_append PySem.F.type_list_append lA (yQ ⋯ (bE hN hv hd GX) hb SA) (bH G dB GF) rfl HQ GH GF rfl)) ?_;rintro D σ H ⟨c0,rfl,rfl,ok,h⟩;rw[ah]at h;obtain⟨Sy,us0,HV,h⟩:=fL h;obtain⟨r0,L3,J,g0,_⟩:=ok.GD HV;refine⟨.ref r0,J,?_⟩;refine aM ok h λry c vy t w=>?_;rw[ah]at w;obtain⟨ky,uy⟩:=ry;obtain⟨y,ey,w1⟩:=fM w
 dsimp only at ey
 subst ey;have ev:vy=.str y:=t.rx.str t.ok;subst ev;rw[ah]at w1;obtain⟨ks,us,hs,l⟩:=fL w1
 dsimp only at l
 by_cases L:y∈ks
 case neg=>rw[Zr L]at l;exact(bb.mp l).elim
 rw[Zq L]at l;obtain⟨O,kvs,f1,g1,g2,g3,g4,g5,g6,_⟩:=t.ok.GD hs;have Q:O=r0:=by rw[t.hσ,J]at f1;cases f1;rfl
 subst Q;have Lb:=g6 y;rw[Zt L]at Lb;obtain⟨v0,n⟩:=Qf.mp Lb;have IQ:v0∈(c.kid i).map V.ref:=by
  rw[<-g3];unfold dm at n;obtain⟨q,hq,rfl⟩:=i1.mp n;exact Pk (List.mem_of_find?_eq_some hq)
 obtain⟨f,VF,rfl⟩:=my.mp IQ;obtain⟨VG,Q3⟩:=g5.mem VF;refine⟨O,.ref f,rfl,by rw[<-n];exact eN.k (k:=sx y) g1,Or.inl ⟨rfl,VG,.inl (.inl Q3)⟩,?_⟩;rw[<-t.hσ];refine lS t.ok l λr g v t' ua w3=>?_;rw[ah]at w3;obtain⟨S',st',u,sS,T,n1,m,w4,_,_⟩:=g9 t.ok t'.ok t'.nx t'.rx.w w3;rw[ah]at w4;obtain⟨GR,Hj,xs,s,hx,hz,q⟩:=qo w4;rw[ao]at q;obtain⟨B,Y,k1,k2,k3,k4,k5,k6,_,_⟩:=T.GD s;have SD:g.σ[i]?=a5 (a5 (.ref B)):=k1;have Q:B=O:=by rw[t'.hσ,t.hσ,J]at SD;cases SD;rfl
 subst Q;have VH:g.H B=a5 (.dK Y):=k2;have Q4:Y=kvs:=by have:=ua _ _ g1;rw[VH]at this;cases this;rfl
 subst Q4;have nd:=(td.mp k5).2;obtain⟨a2,ws,ys,l1,l2,l3,l4,l5,l6⟩:=de.at k3 k4 nd k6 hx;cases l3;rw[n]at l1;cases l1;have VI:g.H f=a5 (.lst ws):=l4;refine⟨f,ws,v,rfl,rfl,VI,by rw[<-l5.len];exact hz,?_⟩;have Hu:f≠B:=λz=>(td.mp k5).1 (z▸l2);obtain⟨GK,n2⟩:=Ok.Es (c:={g with S:=S',st:=st' }) (H':=upd g.H f (.lst (ws++[v]))) (u':=.GD GR (ji GR Hj y (.lst (xs++[u])))) (as':=g.kid i) T (t.nx.trans n1).toNs s k1
  (λa ne=>au λz=>ne ⟨_,_,s,k1,.inr (z▸l2)⟩) (λa o e=>by
   by_cases hz:a=f
   ·subst hz;exact⟨_,aw⟩
   ·rw[au hz];exact⟨o,e⟩)
  (λmv=>⟨Y,by rw[au (uv Hu)];exact k2,k3,k4,k5,bZ.fr (T.dd.kd i _ _ s k1),l6 _ _ _ mv aw ((l5.mv mv).snoc (m.mv mv)) λb _ ne=>au ne⟩)
  (λa G=>.inl G)
 have z:=q _ rfl GK n2 (Kept.of (t'.hσ.trans t.hσ));rw[<-t'.hσ];exact z
end
section
theorem wK{st:ax}(h:W (Qz u) st Q):∃ks us,u=.GD ks us/\Q () st:=by
 cases u<;>first|exact(bb.mp h).elim|skip
 exact⟨_,_,rfl,ao.mp h⟩
theorem lT{st:ax}(h:W (t9 x) st Q):∃j,x.2=.int j/\Q j st:=by
 unfold t9 at h;split at h
 ·rename_i y e;rw[ao]at h;exact⟨y,e,h⟩
 ·exact(bb.mp h).elim
theorem lU{st:ax}(h:W (t8 i) st Q):∃k us,k.root=b8/\st[i]?=a5 (a5 (k,.lst us))/\Q us st:=by
 obtain⟨r,st',e,q⟩:=h;unfold t8 at e;split at e
 ·rename_i k us hs;split at e
  ·rename_i hk;cases e;exact⟨k,_,hk,hs,q⟩
  ·cases e
 ·cases e
theorem oQ:∀{ks:List Str}{us:List U},y∈ks->ks.length=us.length->dN ks us y=b6->False
 |[],us,h,_,_=>by cases h
 |k::ks,[],_,h,_=>by simp at h
 |k::ks,u::us,h,hl,e=>by
  by_cases hk:k=y
  ·simp[dN,hk]at e
  ·simp only[dN,Zr hk]at e;rcases hU.mp h with h|h
   ·exact hk h.symm
   ·exact oQ h (by simpa using hl) e
theorem wL{i:Nat}{x:Str}{G:Pos}(hu:X.A.units+60<KJ)(hN:X.N[i]?=a5 x)(hv:Ib X.env.scope x)(hd:(x==("__debug__":Str))=cc)(GX:(x==("__classdict__":Str))=cc)
  (ha:PE X a (GB C ma)) (hb:PE X b (GB C mb)) (hm:M2 X (.Name x G) "get" e a b B') :
  PE X (.Call (.Attribute (.Name x G) "get" e) [a,b] [] B') (GB C (c8 i >>= λx=>Qz x.2 >>= λ_=>ma >>= λy=>jh y >>= λy=>mb >>= λz=>lift z >>= λu=>c8 i >>= λx=>M.GJ (y_ x y u))):=by
 rintro f s σ H Q I ⟨p,rfl,rfl,B,h⟩;refine vq ⋯ (bE hN hv hd GX) ha hb hm f s p.σ p.H Q I ?_;rw[ah]at h;obtain⟨k0,u0,Q5,HV,h⟩:=cV h;obtain⟨v0,J,t0⟩:=B.slot Q5 HV;rw[ah]at h;obtain⟨Sy,us0,L,h'⟩:=wK h
 dsimp only at L
 subst L;obtain⟨a0,L3,rfl,g0,_⟩:=t0.dict B;refine⟨.ref a0,J,a0,rfl,.inl ⟨L3,.inl g0⟩,?_⟩;refine aM B h' λry c vy t w=>?_;rw[ah]at w;obtain⟨ky,uy⟩:=ry;obtain⟨y,O,w1⟩:=fM w
 dsimp only at O
 subst O;have ev:vy=.str y:=t.rx.str t.ok;subst ev;rw[<-t.hσ];refine aM t.ok w1 λz g vz j T=>?_;rw[ah]at T;obtain⟨S',st',u,sS,D,n1,l,Y,_,_⟩:=g9 t.ok j.ok j.nx j.rx.w T;rw[ah]at Y;obtain⟨k,u1,VJ,Ig,w5⟩:=cV Y;obtain⟨r,d,q⟩:=bG.mp w5;obtain⟨v1,e1,t1⟩:=D.slot VJ Ig;have Hv:g.σ[i]?=a5 (a5 v1):=e1;rw[j.hσ,t.hσ,J]at Hv;cases Hv;cases u1<;>first|(simp only[y_]at d;cases d;done)|skip
 rename_i ks us;obtain⟨a1,kvs,ea,g1,g2,g3⟩:=t1.dict D;cases ea;have ON:g.H a0=a5 (.dK kvs):=g1;refine⟨_,eN.k (k:=sx y) ON,?_⟩;simp only[y_]at d;obtain⟨l1,l2⟩:=dy (x:=y) g2 g3;have m:∀v:V,aP C p {g with S:=S',st:=st' } r.1 r.2 v->Q v g.H:=λv z=>q {g with S:=S',st:=st' } v (j.hσ.trans t.hσ) rfl D (t.nx.trans n1) z;cases o:dN ks us y with
 |some w =>
  rw[o]at d;cases d;obtain⟨v,ev,rv⟩:=l1 w o;rw[ev];refine m v ?_;exact aP.item (k:=if k.root=b8 then .bor i else k) rv
 |none =>
  rw[o]at d;cases d;have J5:dm kvs (sx y)=b6:=by
   cases hq:dm kvs (sx y) with
   |none=>rfl
   |some v =>
    exfalso
    rw[hq]at l2;have hy:y∈ks:=by simpa using l2.symm
    have n:ks.length=us.length:=by have h1:=Zv Lz g2;have h2:=g3.len;simp at h1 h2;lia
    exact oQ hy n o
  rw[J5];exact m vz l
theorem wM:DG X (λo i H Q=>∃p xs j v,o=.ref p/\i=.int j/\H p=a5 (.lst xs)/\0<=j/\xs[j.toNat]?=a5 v/\Q v H):=by
 rintro a s σ H o i l m Q I c d ⟨p,xs,j,v,rfl,rfl,e,f,b,q⟩;cases c;obtain⟨t,rfl⟩:=d;obtain⟨n,r,g,hz⟩:=I.list (.inl (.inl e));obtain⟨w,h,k⟩:=r.get b;have hl:=r.length;have u:=fc;have x:=(ez.mp b).1;exact wpAny_getItem_list g.isList f ⋯ (by simpa using h) ⟨v,H,I,k,q⟩
theorem zE:N9 X (if sub=b8 then .Sub else .Add) (O8 (wd sub)):=by
 cases sub with
 |true=>exact Bs
 |false=>exact Br
theorem Et(hN:X.N[i]?=a5 x)(hv:Ib X.env.scope x)(hd:(x==("__debug__":Str))=cc)(GX:(x==("__classdict__":Str))=cc)
  (ha:PE X a (uh C ma)) (hb:PE X b (GB C mb))
  (m:∀e f new,Za b e f new=(do LG [new,e,f] (Rp e f new);Tt [new,e,f] [];pure .next)) :
  L2.PS X (.AugAssign (.Subscript (.Name x px) b p) (if sub=b8 then .Sub else .Add) a pos) (G7 C ns (t8 i >>= λ_=>mb >>= λy=>t9 y >>= λj=>t8 i >>= λus=>M.GJ (wc us j) >>= λo=>ma >>= λz=>t9 z >>= λw=>modS i (eT (.int j) (.int (wd sub o w))) >>= λ_=>pure .nx)):=by
 refine PS.weak (yA (bE hN hv hd GX) hb wM ha zE set_list m) ?_;rintro D σ H ⟨c0,rfl,rfl,u,h⟩;rw[ah]at h;obtain⟨k0,us0,HI,HV,h⟩:=lU h;obtain⟨v0,n,Jp⟩:=u.sl i _ _ HV;obtain⟨a0,rfl,_,_,_,_⟩:=Jp.rt HI;refine⟨.ref a0,n,?_⟩;refine aM u h λry c vy t w=>?_;rw[ah]at w;obtain⟨ky,uy⟩:=ry;obtain⟨j,v,A⟩:=lT w
 dsimp only at v
 subst v;have ev:vy=.int j:=t.rx.int t.ok;subst ev;rw[ah]at A;obtain⟨k1,NH,LK,Ig,B⟩:=lU A;rw[ah]at B;obtain⟨o,ho,w3⟩:=bG.mp B;obtain⟨v1,G,VL⟩:=t.ok.sl i _ _ Ig;obtain⟨a1,rfl,_,_,_,NI⟩:=VL.rt LK;rw[t.hσ,n]at G;cases G;obtain⟨vs,I,g2⟩:=NI;unfold wc at ho;split at ho
 case isFalse=>cases ho
 rename_i M_;split at ho
 case h_2=>cases ho
 rename_i o' Q6;cases ho;obtain⟨vo,VM,VN⟩:=g2.get Q6;have VO:vo=.int o:=VN;subst VO;refine⟨a0,vs,j,_,rfl,rfl,I,M_,VM,?_⟩;rw[<-t.hσ];refine lS t.ok w3 λz r vz d all2 J=>?_;rw[ah]at J;obtain⟨kz,uz⟩:=z;obtain⟨w,L,O⟩:=lT J
 dsimp only at L
 subst L;have ev:vz=.int w:=d.rx.int d.ok;subst ev;refine⟨o,w,rfl,rfl,?_⟩;rw[ah]at O;obtain⟨k,u1,u2,hk,Q,g,q⟩:=eE O;rw[ao]at q;obtain⟨v2,s,KP⟩:=d.ok.sl i _ _ Q;obtain⟨a2,rfl,_,_,_,NJ⟩:=KP.rt hk;have VP:=s;rw[d.hσ,t.hσ,n]at s;cases s;have T:r.H a0=a5 (.lst vs):=all2 _ _ I;cases u1 with
 |lst xs =>
  simp only[eT,i1]at g;obtain⟨l,Jj,rfl⟩:=g;obtain⟨WQ,Y,l2⟩:=NJ;rw[T]at Y;cases Y;refine⟨a0,vs,j,l,rfl,rfl,T,by rw[<-l2.len];exact Jj,?_⟩;obtain⟨Je,n3⟩:=Ok.mod (c:=r) (H':=upd r.H a0 (.lst (vs.set l (.int (wd sub o w))))) (u':=.lst (xs.set l (.int (wd sub o w)))) d.ok (t.nx.trans d.nx).toNs hk Q VP (λa ne=>au ne) ⟨_,aw⟩ λmv=>⟨_,aw,(l2.mv mv).set l rfl⟩
  have z:=q _ rfl Je n3 (Kept.of (d.hσ.trans t.hσ));rw[<-d.hσ];exact z
 |GD ks vs=>simp[eT]at g
 |_=>simp[eT]at g
end
section
theorem zF{ks:List Str}(c:kvs.map (·.1)=ks.map sx)(d:kvs.map (·.2)=ns.map V.int):kvs=(ks.zip ns).map λp=>((sx p.1:Key),V.int p.2):=by
 induction kvs generalizing ks ns with
 |nil =>
  cases ks with
  |nil=>rfl
  |cons _ _=>cases c
 |cons kv kvs e =>
  cases ks with
  |nil=>cases c
  |cons k ks =>
   cases ns with
   |nil=>cases d
   |cons n ns =>
    obtain⟨a,b⟩:=kv;simp only[hW,Oq]at c d;obtain⟨rfl,c⟩:=c;obtain⟨rfl,d⟩:=d;rw[e c d];rfl
theorem aq.of_map{S:hH->Prop}{f:α->U}{g:α->V}:∀{l:List α},(∀x∈l,Rep C S H (f x) (g x))->aq C S H (l.map f) (l.map g)
 |[],_=>rfl
 |x::l,h=>⟨g x,l.map g,rfl,h x (by simp),aq.of_map λy a=>h y (by simp[a])⟩
theorem zG(hc:X.calm=b8)(hK:C.K=X.K)(hg:Gl X "sorted")(hm:X.mg "sorted"=b6)(hN:X.N[i]?=a5 x)(hv:Ib X.env.scope x)(hd:(x==("__debug__":Str))=cc)(GX:(x==("__classdict__":Str))=cc)(GH:(b.endLine==m.line)=b8):
  PE X (.Call (.Name "sorted" p) [.Call (.Attribute (.Name x q) "items" b) [] [] m] [] pos) (GB C (c8 i >>= λx=>M.GJ (Ca x.2))):=by
 rintro g s σ H Q I ⟨c,rfl,rfl,n,h⟩;refine ti (cR I hg hm (show w6 "sorted"=a5 (.builtin "sorted") by decide +kernel) ?_ (by decide +kernel) (by decide +kernel));rw[ah]at h;obtain⟨k0,u0,Q5,HV,h⟩:=cV h;obtain⟨v0,e0,t0⟩:=n.slot Q5 HV;obtain⟨r,f,l⟩:=bG.mp h
 dsimp only at f
 unfold Ca at f;split at f
 rotate_left
 ·cases f
 rename_i ks us;rw[vr]at f;obtain⟨ns,en,f⟩:=f;split at f
 rotate_left
 ·cases f
 rename_i Q7;cases f;obtain⟨IG,GQ,B⟩:=Q7;obtain⟨d,kvs,rfl,D,HI,G⟩:=t0.dict n;rw[iZ en]at G;have Q4:=zF HI (aq.ints G);subst Q4;have ek:((ks.zip ns).map (·.1))=ks:=XE ⋯;have k:eH (gs X.prog X.w) X.A (GV (.Call (.Attribute (.Name x q) "items" b) [] [] m) X.env) (λv s1=>eH (gs X.prog X.w) X.A (Mj (.builtin "sorted") [v]) (EP X g c.σ Q) X.xe s1) X.xe s:=by
  refine W7 rfl GH (GC (bE hN hv hd GX g s c.σ c.H (λv J=>v=.ref d/\J=c.H) I ⟨_,e0,rfl,rfl⟩) λv s1 Q8=>?_);obtain⟨x1,J,O,r1,z1,z2⟩:=Q8;subst z1 z2;cases(show v=ri d from r1);obtain⟨h1,h2⟩:=mX (T:="dict") O (x:=.ref d) rfl (.inr (.inr (.inl ⟨rfl,.inl ⟨_,D⟩⟩)));refine⟨"dict","dict.items",PySem.F.plainAttrs_dict,PySem.F.slot_dict_items,PySem.F.type_dict_items,h1,h2,JV rfl (PySem.evalArgs_none (nq hc O D (by rw[ek];exact GQ) (by rw[X4];lia) λas L hl nd Y hL=>?_))⟩;have t:c.H L=b6:=Y L (by simp);have VQ:(as.zip ((ks.zip ns).map Kf)).map (·.1)=as:=XE (by rw[ei];lia);have VR:∀p∈as.zip ((ks.zip ns).map Kf),p.1∈as:=λp u=>(O3 u).1;have same:cS c.H (upd (jg c.H (as.zip ((ks.zip ns).map Kf))) L (.lst ((jU ((ks.zip ns).map (·.1))).map λi=>V.ref (as.getD i 0)))):=λa o e=>by
   have n1:a≠L:=λy=>by rw[y,t]at e;cases e
   rw[au n1,jW λp u y=>?_]
   ·exact e
   ·have:=Y p.1 (by simp[VR p u]);rw[y,e]at this;cases this
  obtain⟨GL,n'⟩:=n.grow (S':=c.S) same (λa z=>.inl z) λa z=>z;obtain⟨q1,q2,q3,q4,q5⟩:=n.jX t;refine l {c with H:=upd (jg c.H (as.zip ((ks.zip ns).map Kf))) L (.lst ((jU ((ks.zip ns).map (·.1))).map λi=>V.ref (as.getD i 0))),S:=c.S} _ rfl rfl GL n' ⟨L,rfl,t,q2,q5,_,aw,?_⟩;show aq C c.S _ ((B9 (ks.zip ns)).map B_) _;unfold B9;rw[vu];refine aq.of_map λj hj=>?_;have Jj:j<(ks.zip ns).length:=by
   have:=HW.mp ((iD _).mem_iff.mp hj);rw[ei]at this;exact this
  have Qs:j<as.length:=by lia
  have e1:(ks.zip ns).getD j (zy,0)=(ks.zip ns)[j]:=(List.getElem_eq_getD _).symm;have e2:as.getD j 0=as[j]:=by simp[Ou,Qs]
  show Rep C c.S _ (B_ ((ks.zip ns).getD j (zy,0))) (V.ref (as.getD j 0));rw[e1,e2];refine⟨as[j],Kf (ks.zip ns)[j],rfl,Hh.of ?_,⟨_,_,rfl,rfl,_,_,rfl,rfl,rfl⟩⟩;have Hu:as[j]≠L:=λy=>hL (by rw[<-y];simp);refine(au Hu).trans (rM (by rw[VQ];exact nd) (vs:=Kf (ks.zip ns)[j]) ?_);refine WG.mpr ⟨j,by rw[X4,ei];lia,?_⟩;rw[List.getElem_zip,XG]
 have eb:HR pos (ke [.Call (.Attribute (.Name x q) "items" b) [] [] m] X.env)=[(cc,GV (.Call (.Attribute (.Name x q) "items" b) [] [] m) X.env)]:=rfl;have VS:OV pos (Lh [] X.env)=[]:=rfl;rw[eb,VS];exact nE k
end
section
theorem rZ(g:X.calm=b8)(i:C.K=X.K)(j:Gl X "set")(m:X.mg "set"=b6)(n:PE X a (GB C r))(hs:ke [a] X.env=[(cc,GV a X.env)])(I:Inv X b d.σ d.H s)(u:Ok C d)
  (h:W (r >>= λx=>M.GJ (gU x.2) >>= k) d.st Post)
  (y:∀(S:hH) (o:Obj) (s1:gj) (D:List Str) (c:Cf),c.σ=d.σ->Ok C c->Nx d c->s1.heap.get? S=a5 o->aJ X.prog X.w s1.heap S (aC X.w) D->Inv X ((S,o)::b) c.σ c.H s1->W (k D) c.st Post->(∀q∈b,q.1≠S)->Q (.ref S) s1) :
  eH (gs X.prog X.w) X.A (GV (.Call (.Name "set" p) [a] [] pos) X.env) Q X.xe s:=by
 refine ti (cR I j m (show w6 "set"=a5 (.type "set") by decide +kernel) ?_ (by decide +kernel) (by decide +kernel));have B:HR pos (ke [a] X.env)=[(cc,GV a X.env)]:=by rw[hs];rfl
 have G:OV pos (Lh [] X.env)=[]:=rfl;rw[B,G];refine rX (one n I u h λx c vx v s2 t f rv w=>?_);rw[ah]at w;obtain⟨D,e,w⟩:=bG.mp w;obtain⟨l,ys,rfl,J,L,rfl⟩:=lP i t.ok t.rx e;cases rv;exact pW g f J L λS o s1 hsz N O T=>y S o s1 _ c t.hσ t.ok t.nx N O T w λq Y z=>by
  have:=hV (f.pin q (ro _ Y)).1;rw[z]at this;exact absurd (lg this hsz) (C0 _)
theorem zH(n:X.calm=b8)(G:C.K=X.K)(J:Gl X (if ln=b8 then "len" else "sorted"))(L:X.mg (if ln=b8 then "len" else "sorted")=b6)(N:Gl X "set")(O:X.mg "set"=b6)(ha:PE X a (GB C ma))(hb:PE X b (GB C mb))(VT:ke [a] X.env=[(cc,GV a X.env)])(JT:ke [b] X.env=[(cc,GV b X.env)]):
  PE X (.Call (.Name (if ln=b8 then "len" else "sorted") p) [.BinOp (.Call (.Name "set" t) [a] [] u) .Sub (.Call (.Name "set" p2) [b] [] pos2) d] [] pos)
   (GB C (ma >>= λx=>M.GJ (gU x.2) >>= λd1=>mb >>= λy=>M.GJ (gU y.2) >>= λd2=>M.GJ (t5 ln d1 d2))):=by
 rintro f s σ H Q I ⟨z,rfl,rfl,ok,h⟩;have g:eH (gs X.prog X.w) X.A (GV (.BinOp (.Call (.Name "set" t) [a] [] u) .Sub (.Call (.Name "set" p2) [b] [] pos2) d) X.env) (λv s1=>eH (gs X.prog X.w) X.A (Mj (.builtin (if ln=b8 then "len" else "sorted")) [v]) (EP X f z.σ Q) X.xe s1) X.xe s:=by
  refine wpAny_BinOp (rZ n G N O ha VT I ok h λS1 o1 s1 D1 c1 VU GA VV Ke JW I1 w1 Mo=>?_);refine rZ n G N O hb JT I1 GA w1 λS2 o2 s2 D2 j VW T VX KZ Mq B w2 Ml=>?_;obtain⟨r,m,k⟩:=bG.mp w2;have Q9:=(B.pin (S1,o1) (ro _ (by simp))).1;have Q_:aJ X.prog X.w s2.heap S1 (aC X.w) D1:=JW.at λo e=>by rw[Ke]at e;cases e;exact Q9
  have Hu:S1≠S2:=Ml (S1,o1) (by simp);have nx:Nx z j:=VV.trans VX;have D:j.σ=z.σ:=VW.trans VU;have I3:Inv X f j.σ j.H s2:=B.dP λq hq=>B.pin q (ro _ (by simp[hq]));unfold t5 at m;split at m
  rotate_left
  ·cases m
  rename_i i;refine L2.jq Hu Q_ Mq i.1 i.2 λh' hk Y=>?_;have I4:Inv X f j.σ j.H {s2 with heap:=h' }:=I3.kept (t':=s2.toks) hk;rw[<-D];cases ln with
  |true =>
   cases m;exact pU I4 Y (bQ.flat (c:=j) k D T nx rfl)
  |false =>
   cases m;exact fY n I4 Y (Xs (L_ _ _) i.1) λl hl=>bQ.list (c:=j) k D T nx (aq.strs.mpr rfl) l hl
 have eb:HR pos (ke [.BinOp (.Call (.Name "set" t) [a] [] u) .Sub (.Call (.Name "set" p2) [b] [] pos2) d] X.env)=[(cc,GV (.BinOp (.Call (.Name "set" t) [a] [] u) .Sub (.Call (.Name "set" p2) [b] [] pos2) d) X.env)]:=rfl;have ek:OV pos (Lh [] X.env)=[]:=rfl;cases ln with
 |true =>
  refine ti (cR I J L (show w6 "len"=a5 (.builtin "len") by decide +kernel) ?_ (by decide +kernel) (by decide +kernel));rw[eb,ek];exact nE g
 |false =>
  refine ti (cR I J L (show w6 "sorted"=a5 (.builtin "sorted") by decide +kernel) ?_ (by decide +kernel) (by decide +kernel));rw[eb,ek];exact nE g
end
section
theorem Eu(j:C.K=X.K)(l:X.N[i]?=a5 x)(m:Ib X.env.scope x)(n:(x==("__debug__":Str))=cc)(o:(x==("__classdict__":Str))=cc)(p:(b.endLine==s.line)=b8):
  L2.PS X (.Expr (.Call (.Attribute (.Name x z) "clear" b) [] [] s) pos) (G7 C ns (modS i Ce >>= λ_=>pure .nx)):=by
 refine PS.weak (gH (vg PySem.F.plainAttrs_list PySem.F.slot_list_clear PySem.F.type_list_clear vj (bE l m n o) rfl p)) ?_;rintro D σ H ⟨c,rfl,rfl,d,h⟩;rw[ah]at h;obtain⟨k,t,u2,hk,hs,e,q⟩:=eE h;cases t with
 |lst us =>
  cases e;obtain⟨v,f,u⟩:=d.sl i k _ hs;obtain⟨r,rfl,_,_,_,vs,g,A⟩:=u.rt hk;refine⟨_,f,.inl ⟨rfl,vs,j▸GY.of g⟩,r,vs,rfl,rfl,g,?_⟩;rw[ao]at q;obtain⟨w,y⟩:=d.mod (H':=upd c.H r (.lst [])) (u':=.lst []) (Ns.refl c) hk hs f (λa ne=>au ne) ⟨_,aw⟩ λB=>⟨[],aw,rfl⟩
  exact q _ rfl w y Kept.refl
 |_=>cases e
end
section
variable{X:Cx}{C:Ct}{a:rr}{ma:M (Kd×U)}{apos B':Pos}{i:Nat}{x:Str}{px:Pos}
theorem Ok.wN(b:Ok C c)(hk:k.root=b8)(hs:c.st[i]?=a5 (a5 (k,.lst us))):∃a vs,c.σ[i]?=a5 (a5 (.ref a))/\c.H a=a5 (.lst vs)/\aq C c.S c.H us vs:=by
 obtain⟨v,d,e⟩:=b.sl i k _ hs;obtain⟨r,rfl,_,_,_,vs,f,g⟩:=e.rt hk;exact⟨r,vs,d,f,g⟩
theorem aq.eraseIdx{S:hH->Prop}:∀{us:List U}{vs:List V} (n:Nat),aq C S H us vs->aq C S H (us.eraseIdx n) (vs.eraseIdx n)
 |[],_,n,h=>by cases h;simp[aq]
 |u::us,vs,0,h=>by
  obtain⟨v,r,rfl,c,b⟩:=h;exact b
 |u::us,vs,n+1,h=>by
  obtain⟨v,r,rfl,c,b⟩:=h;exact⟨v,_,rfl,c,b.eraseIdx n⟩
theorem Ok.out(f:Ok C c)(n:Nx g c)(l:c.σ=g.σ)(hk:k.root=b8)(hs:c.st[i]?=a5 (a5 (k,.lst us)))(h:c.σ[i]?=a5 (a5 (.ref r)))(m:aq C c.S c.H d b)(p:Rep C c.S c.H u v)(w:bQ C g Q (.loc,u) (c.st.set i (a5 (k,.lst d)))):Q v (upd c.H r (.lst b)):=by
 have q:Mv c.S c.H c.S (upd c.H r (.lst b)):=by
  obtain⟨O,j,s⟩:=f.sl i k _ hs;rw[h]at j;cases j;obtain⟨T,y,A,_,_,B⟩:=s.rt hk;cases y;obtain⟨o,ho,D⟩:=B.some;exact⟨λ_ z=>z,λa G e t=>by rw[au (λz=>by subst z;rw[ho]at e;cases e;exact D t)];exact e,λa G z e=>by rw[au (λI=>by subst I;exact A z)];exact e⟩
 obtain⟨J,L⟩:=f.mod (H':=upd c.H r (.lst b)) (u':=.lst d) n.toNs hk hs h (λa ne=>au ne) ⟨_,aw⟩ λN=>⟨b,aw,m.mv N⟩
 exact w {c with H:=upd c.H r (.lst b),st:=c.st.set i (a5 (k,.lst d))} v l rfl J ⟨L⟩ (p.mv q)
theorem zI(g:X.N[i]?=a5 x)(j:Ib X.env.scope x)(l:(x==("__debug__":Str))=cc)(m:(x==("__classdict__":Str))=cc)(n:(apos.endLine==B'.line)=b8)(o:C.K=X.K):
  PE X (.Call (.Attribute (.Name x px) "pop" apos) [] [] B') (GB C (wa i)):=by
 refine PE.weak (vg PySem.F.plainAttrs_list PySem.F.slot_list_pop PySem.F.type_list_pop BD (bE g j l m) rfl n) ?_;rintro σ H Q ⟨q,rfl,rfl,c,h⟩;obtain⟨r,st',e,w⟩:=h;unfold wa at e;split at e
 ·rename_i k us hs;split at e
  ·rename_i hk;split at e
   ·rename_i u s;cases e;obtain⟨p,vs,d,f,b⟩:=c.wN hk hs;obtain⟨v,t,y⟩:=b.get s;have hl:=b.len;refine⟨_,d,.inl ⟨rfl,vs,o▸GY.of f⟩,p,vs,v,rfl,rfl,f,by rw[<-hl];exact t,?_⟩;refine c.out (Nx.refl q) rfl hk hs d ?_ y w;rw[Wo,Wo,hl];exact b.take _
   ·cases e
  ·cases e
 ·cases e
theorem Ew(b:0<=j)(h:j.toNat<n):UO j n=a5 j.toNat:=by
 simp only[UO];rw[Zr (show ¬j<0 by lia),Zq (by rw[cb,Zp,Zp];lia)]
theorem ui{st:ax}(h:W (t7 i u) st Q):∃(j:Int) (k:Kd) (us:List U) (y:U),u=.int j/\k.root=b8/\0<=j/\j<1000000/\st[i]?=a5 (a5 (k,.lst us))/\us[j.toNat]?=a5 y/\Q (.loc,y) (st.set i (a5 (k,.lst (us.eraseIdx j.toNat)))):=by
 obtain⟨r,st',e,w⟩:=h;cases u with
 |int j =>
  unfold t7 at e
  dsimp only at e
  split at e
  ·rename_i k us hs;split at e
   ·rename_i hk;split at e
    ·rename_i y b;cases e;exact⟨j,k,us,y,rfl,hk.1,hk.2.1,hk.2.2,hs,b,w⟩
    ·cases e
   ·cases e
  ·cases e
 |_=>cases e
theorem wO(o:C.K=X.K)(q:X.N[i]?=a5 x)(s:Ib X.env.scope x)(u:(x==("__debug__":Str))=cc)(A:(x==("__classdict__":Str))=cc)(B:PE X a (GB C ma))
  (D:((HR B' (ke [a] X.env)).all (λx=>!x.1)&&(OV B' (Lh [] X.env)).all (λx=>x.1.isSome)
   && d6 ([a].length+([]:List M').length+(if ([]:List M').isEmpty then 0 else 1)<30))=b8)
  (G:(apos.endLine==B'.line)=b8) (e:ke [a] X.env=[(cc,GV a X.env)]) :
  PE X (.Call (.Attribute (.Name x px) "pop" apos) [a] [] B') (GB C (c8 i >>= λx=>Kz x.2 >>= λ_=>ma >>= λy=>t7 i y.2)):=by
 refine PE.weak (ly PySem.F.plainAttrs_list PySem.F.slot_list_pop PySem.F.type_list_pop vi (bE q s u A) (bH B dB e) rfl D G e rfl) ?_;rintro σ H Q ⟨c0,rfl,rfl,b,h⟩;rw[ah]at h;obtain⟨k0,I,J,L,h⟩:=cV h;obtain⟨O,f,T⟩:=b.slot J L;refine⟨O,f,?_⟩;cases I with
 |lst Y =>
  rw[ah,show Kz (U.lst Y)=pure () from rfl,ao]at h;obtain⟨a0,MA,d,Mk,_⟩:=T.list b;refine⟨by rw[d];exact .inl ⟨rfl,MA,o▸Mk⟩,?_⟩;refine aM b h λr c v t w=>?_;obtain⟨j,k,us,y,ej,hk,j0,j1,hs,hu,w⟩:=ui w;obtain⟨p,vs,g,h2,l⟩:=t.ok.wN hk hs;have hp:p=a0:=by
   have:=g;rw[t.hσ,f,d]at this;cases this;rfl
  subst hp;obtain⟨z,m,g2⟩:=l.get hu;have J1:j.toNat<vs.length:=(ez.mp m).1;have n:=t.rx;rw[ej]at n;have ev:=n.int t.ok;exact⟨p,vs,j,j.toNat,z,d,by rw[ev],h2,YZ (by decide) j0,Int.lt_trans j1 (by decide),Ew j0 J1,m,t.ok.out t.nx t.hσ hk hs g (l.eraseIdx _) g2 w⟩
 |_=>rw[ah]at h;exact(bb.mp h).elim
end
end TM
namespace TM
open PySem L2 PyProof.Rows PySem.W
section
variable{X:Cx}{C:Ct}{pins:List (hH×Obj)}{s:gj}{c0 c c1:Cf}
variable{a b tt:rr}{e:rr}{es:List rr}{ms:M (List (Kd×U))}{ns:Nat->Bool}
def MD(X:Cx)(C:Ct)(pins:List (hH×Obj))(c0:Cf)(Post:Str->ax->Prop)(v:et)(s':gj):Prop :=
 ∃(c:Cf) (s1:gj) (d T f:hH) (H':Hp) (cl:Str),v=.ref d/\c.σ=c0.σ/\Ok C c/\Nx c0 c/\Inv X pins c0.σ c.H s1/\bA X.prog X.w X.stack c.H s1 d f (a5 T) .none H' s'/\cS c.H H'/\Ze X.K l0 cl=a5 (a5 (.ref f))/\Post cl c.st
def PR(X:Cx)(C:Ct)(e:rr)(m:M (Sum (Kd×U) Str)):Prop:=∀(pins:List (hH×Obj)) (s:gj) (c0:Cf) (Post:Sum (Kd×U) Str->ax->Prop),Inv X pins c0.σ c0.H s->Ok C c0->W m c0.st Post ->
 eH (gs X.prog X.w) X.A (GV e X.env) (λu s2=>∃r c v,Jo C c0 c r v/\Inv X pins c0.σ c.H s2/\RelV v u/\Post (.inl r) c.st) (MD X C pins c0 λcl st=>Post (.inr cl) st) s
theorem CL
  (Y:C.P=X.prog) (hw:C.w=X.w) (hK:C.K=X.K) (hF:Γ f=F) (hk:∀us k u,F us=a5 (.ok (k,u))->(k=.own\/k=.loc\/k=.any)/\us.length=n) (GS:∀us c,F us=a5 (.exc c)->us.length=n)
  (G:gJ X.prog X.w X.K X.mg X.base (K2 X.prog X.w) kd fa fd ps (spT X.prog X.w X.K F n)) (hr:eM kd X.A) (hg:Gl X f) (hm:X.mg f=a5 (.ref fa)) (LU:PySem.W.keepIn X.K (.ref fa)=b8) (o:Binds X.K fd ps []) (IX:(f==("__debug__":Str))=cc)
  (ha:PA X.Ic (e::es) (HH C ms)) (he:ke (e::es) X.env=(cc,GV e X.env)::ke es X.env) (Ha:(HR p3 (ke es X.env)).any (·.1)=cc) :
  PR X C (.Call (.Name f p2) (e::es) [] p3) (ms >>= λrs=>aB rs >>= λ_=>cy Γ f (rs.map (·.2))):=by
 intro pins s c0 Post I ok h;refine ti (dk I hg hm ?_ IX);refine PySem.W.callWith_K (h₀:=X.base) I.ok.mod.Li LU (nc (args (X:=X.Ic) ha (I.iw _) ok h p3) (λus s1 z=>?_) λ_ _ z=>z.elim) he Ha;obtain⟨rs,c,vs,t,l,rv,w⟩:=z;have l:=l.eJ;refine⟨l.Jh,?_⟩;have m:C.Eqv (J2 X.prog X.w X.K c.H (HN c.H)):=⟨Y,hw,hK⟩
 have Ii:(J2 X.prog X.w X.K c.H (HN c.H)).Eqv C:=⟨Y.symm,hw.symm,hK.symm⟩
 have p:=t.read;have i:∀(k1:Kd) (u:U),F (rs.map (·.2))=a5 (.ok (k1,u))->k1=.own\/k1=.loc->Post (.inl (k1,u)) c.st ->
   eH (gs X.prog X.w) X.A (Mj (.ref fa) us) (λu s2=>∃r c v,Jo C c0 c r v/\Inv X pins c0.σ c.H s2/\RelV v u/\Post (.inl r) c.st) (MD X C pins c0 λcl st=>Post (.inr cl) st) s1:=λk1 u g LK q=>by
  obtain⟨k0,k2⟩:=hk _ _ _ g;have x:spT X.prog X.w X.K F n vs c.H (λv H'=>∃d,Jo C c0 d (k1,u) v/\d.H=H'/\d.st=c.st) E0:=⟨by rw[<-p.len];exact k2,rs.map (·.2),.ok (k1,u),HN c.H,g,λ_ z=>z,p.cg m,k0,λv H' S' o=>o.here (Q:=λv H'=>∃d,Jo C c0 d (k1,u) v/\d.H=H'/\d.st=c.st) LK t.hσ t.ok t.nx Ii λd v2 y B GK n2 D=>⟨d,⟨y,GK,n2,D⟩,rfl,B⟩⟩
  refine nc (jt (EE:=MD X C pins c0 λcl st=>Post (.inr cl) st) G hr o l rv x λ_ _ ⟨_,_,_,_,_,_,z⟩=>z.elim) (λv s2 ⟨v',H2,I2,D,d,t2,J,L⟩=>?_) λ_ _ z=>z;rw[t.hσ]at I2;subst J;exact⟨_,d,v',t2,I2,D,L▸q⟩
 obtain⟨r,st',j,q⟩:∃r st',cy Γ f (rs.map (·.2)) c.st=a5 (.ok r,st')/\Post r st':=w;unfold cy at j;rw[hF]at j;split at j
 ·rename_i u g;cases j;exact i _ u g (.inl rfl) q
 ·rename_i u g;cases j;exact i _ u g (.inr rfl) q
 ·rename_i cl g;cases j;have x:spT X.prog X.w X.K F n vs c.H (λ_ _=>False) (λv _ H'=>(∃N,v=.ref N/\Ze X.K l0 cl=a5 (a5 (.ref N)))/\cS c.H H'):=⟨by rw[<-p.len];exact GS _ _ g,rs.map (·.2),.exc _,HN c.H,g,λ_ z=>z,p.cg m,λO H1 h1 h2=>⟨⟨O,rfl,h1⟩,h2⟩⟩
  refine nc (jt (EE:=MD X C pins c0 λcl st=>Post (.inr cl) st) G hr o l rv x λv s' ⟨ea,O,T,H',y,F',⟨N,B,J⟩,L⟩=>?_) (λv s2 ⟨_,_,_,_,z⟩=>z.elim) λ_ _ z=>z;cases B;exact⟨c,s1,ea,T,O,H',cl,y,t.hσ,t.ok,t.nx,by rw[<-t.hσ];exact l,F',L,J,q⟩
 ·cases j
theorem Ey(x:PT X.Ic tt (HE C y))(B:PR X C a k)(D:PR X C b l):PR X C (.IfExp tt a b pos) (y >>= λp=>if p=b8 then k else l):=by
 intro pins s c0 Post I G h;refine wpAny_IfExp (nc (x pins s c0.σ c0.H (λp o=>∃c,c.H=o/\c.σ=c0.σ/\Ok C c/\Nx c0 c/\W (if p=b8 then k else l) c.st Post) (I.iw _) (dF G h λp c e i n w=>⟨c,rfl,e,i,n,w⟩)) (λp s1 ⟨o,g,c,J,d,i,n,w⟩=>?_) λ_ _ z=>z.elim);subst J;have g:=g.eJ;rw[<-d]at g;have f:∀{e:rr} {m:M (Sum (Kd×U) Str)},PR X C e m->W m c.st Post->eH (gs X.prog X.w) X.A (GV e X.env) (λu s2=>∃r c v,Jo C c0 c r v/\Inv X pins c0.σ c.H s2/\RelV v u/\Post (.inl r) c.st) (MD X C pins c0 λcl st=>Post (.inr cl) st) s1:=λ{e m} L w=>by
  refine nc (L pins s1 c Post g i w) (λu s2 ⟨r,j,v,t,N,rv,q⟩=>?_) λv s2 z=>?_
  ·exact⟨r,j,v,⟨t.hσ.trans d,t.ok,n.trans t.nx,t.rx.from n⟩,by rw[<-d];exact N,rv,q⟩
  ·obtain⟨j,s3,O,T,Q,H',cl,Y,hσ,GO,n0,I3,F,hs,hn,q⟩:=z;exact⟨j,s3,O,T,Q,H',cl,Y,hσ.trans d,GO,n.trans n0,by rw[<-d];exact I3,F,hs,hn,q⟩
 cases p with
 |true=>rw[Zq rfl]at w;exact f B w
 |false=>rw[Zr mu]at w;exact f D w
theorem Ez(f:PR X C a m)(hs:Ny a b6 pos.line X.env=pure cc)
  (g:∀c H',C.xw (.str c) H'->∀d T H pins σ s e s',Ze X.K l0 c=a5 (a5 (.ref d))->Inv X pins σ H s->bA X.prog X.w X.stack H s e d T .none H' s'->X.xe (.ref e) s'):L2.PS X (.Expr a pos) (G7 C ns (m >>= za)):=by
 rintro pins s σ H D I ⟨c0,rfl,rfl,i,h⟩;rw[ah]at h;refine Y7 (nc (f pins s c0 _ I i h) (λu s2 ⟨r,c,v,t,j,rv,q⟩=>?_) λv s2 z=>?_) I.quiet hs
 ·rw[show za (.inl r)=pure .nx from rfl,ao]at q;have z:D.nx c.σ c.H:=q c rfl t.ok t.nx (Kept.of t.hσ);rw[t.hσ]at z;exact⟨c0.σ,c.H,j,z⟩
 ·obtain⟨c,s1,k,T,l,H',cl,rfl,n,o,p,x,F,hs,y,q⟩:=z;rw[show za (.inr cl)=pure (.rt .io (.str cl)) from rfl,ao]at q;obtain⟨A,B⟩:=o.grow (H':=H') (S':=c.S) hs (λa z=>.inl z) λa z=>z;exact g cl H' (q {c with H:=H' } rfl A (p.trans B) (Kept.of n)) l _ c.H pins _ s1 k s2 y x F
theorem wQ(p:∀m,ns m=b8->m≠k/\m≠j)(y:C.K=X.K)(A:Ok C c0)(B:Ok C c)(n:Nx c0 c)(f:c.σ=c0.σ)(G:k<c.σ.length)(hs:cS c.H H')(t:H' d=b6)(I:g.cls=.ref u)(J:Ze X.K l0 cl=a5 (a5 (.ref u)))(v:V)
  (w:W (jj cs i j k (.inr cl)) c.st (dh C c0 ns D)):D.nx (((c0.σ.set j (a5 v)).set k (a5 (.ref d))).set j b6) (upd H' d (.Ia g (.ext λ_=>True))):=by
 obtain⟨r,st',e,q⟩:=w;unfold jj at e
 dsimp only at e
 split at e
 ·rename_i L;split at e
  case isFalse=>cases e
  rename_i N;have O:c.H d=b6:=by
   cases z:c.H d with
   |none=>rfl
   |some o=>rw[hs d o z]at t;cases t
  obtain⟨Q,T⟩:=B.kill L;obtain⟨Y,n2⟩:=Q.grow (H':=upd H' d (.Ia g (.ext λ_=>True))) (S':=c.S) (λa o z=>by
   rw[au (a9 z O)];exact hs a o z) (λa z=>.inl z) λa z=>z
  obtain⟨h,l,e2,GL,n',w'⟩:=jv (r:=(.loc,.exc cl)) (v:=.ref d) (i:=k) A Y ((n.trans T).trans n2) (by simpa using G)
   (show Rep C c.S _ _ _ from⟨d,rfl,g,u,aw,I,y▸J⟩) (Post:=λ_ LZ=>dh C c0 ns D .nx LZ) (by
    have z:W (dr k (.loc,.exc cl) >>= λ_=>(pure .nx:M Fl)) c.st (dh C c0 ns D):=⟨r,st',e,q⟩
    rw[ah]at z;exact z.mono λ_ st z=>ao.mp z)
  have es:(((c0.σ.set j (a5 v)).set k (a5 (.ref d))).set j b6)=(c0.σ.set j b6).set k (a5 (.ref d)):=by
   rw[Yn _ _ N.1,YG]
  have z:D.nx h.σ h.H:=w' h rfl GL n' ⟨λm x=>by
   rw[l];show((c.σ.set j b6).set k _)[m]?=_;rw[i0 (uv (p m x).1),i0 (uv (p m x).2),f],by rw[l];simp[f]⟩
  rw[l,e2]at z;rw[es,<-f];exact z
 ·cases e
theorem EA(Hb:∀m,ns m=b8->m≠i/\m≠k/\m≠j)(L:X.N.Nodup)(hi:X.N[i]?=a5 y)(hy:Loc X.env.scope y)(OJ:X.fn y=b8)(O:X.N[j]?=a5 n)(Y:X.env.scope.names.lookup n=a5 .local)
  (hk:X.N[k]?=a5 z) (hz:Loc X.env.scope z) (VZ:X.fn z=b8) (hK:C.K=X.K) (hr:PR X C a m) (Kc:Ny a (a5 (.Name y p1)) p4.line X.env=pure cc) (G:X.stack=X.env::X.outer/\X.env.frame=a5 X.env.locals) (hx:X.ex=[]) (QV:Gl X x) (QW:X.mg x=a5 (.ref Dc)) (QX:(x==("__debug__":Str))=cc)
  (V0:∀cl∈cs,∀l,Ze X.K l0 cl=a5 (a5 (.ref l))->exmOne X.K (.ref l) (.ref Dc)=a5 b8) (GQ:(n==("__debug__":Str))=cc) (QY:(n==("__classdict__":Str))=cc) :
  L2.PS X (.Try [.Assign [.Name y p1] a p4] [.ExceptHandler (a5 (.Name x p5)) (a5 n) [.Assign [.Name z p6] (.Name n p9) NG] QZ] [] [] pos) (G7 C ns (m >>= jj cs i j k)):=by
 rintro pins s σ H D' I ⟨c0,rfl,rfl,ok,h⟩;have Hl:i<c0.σ.length:=by rw[I.len];exact(ez.mp hi).1
 have Nj:k<c0.σ.length:=by rw[I.len];exact(ez.mp hk).1
 rw[ah]at h;refine YM (nc (Q:=λf s1=>f=XA/\SP X pins D' .next s1) (E:=MD X C pins c0 λcl st=>W (jj cs i j k (.inr cl)) st (dh C c0 ns D')) ?_ (λf s1 z=>?_) λv s1 z=>?_)
 ·refine UH (Tj (nc (hr pins s c0 _ I ok h) (λu s2 ⟨r,c,v,t,I2,rv,q⟩=>?_) λ_ _ z=>z) Kc);exact d0 I2 L hi hy rv (λs3 I3=>ML ⟨rfl,_,c.H,I3,h_ (λm z=>(Hb m z).1) ok t (by rw[t.hσ];exact Hl) q⟩) (.inl OJ)
 ·obtain⟨rfl,z⟩:=z;exact ML z
 ·obtain⟨c,s0,d,T,l,H',cl,rfl,hσ,GO,n0,B,F1,hs,Kt,w⟩:=z;have IQ:cl∈cs:=by
   obtain⟨r,st',e,_⟩:=w;unfold jj at e
   dsimp only at e
   split at e
   ·split at e
    case isFalse=>cases e
    rename_i q;exact q.2
   ·cases e
  have ab:=V0 cl IQ l Kt;have Ir:s0.heap.FunFrames X.base (X.env::X.outer):=by rw[<-G.1];exact B.stack
  have Ip:∀b∈G3 (X.env::X.outer),c.H b=b6:=by rw[<-G.1];exact B.gF
  have hA:X.A.frames=a5 (X.env::X.outer):=by rw[<-G.1];exact B.ok.frames
  rw[G.1]at F1;refine F1.note hA G.2 Ir Ip λT2 s2 F2=>F2.land Ir Ip λT3 s3 F3=>?_;have ac:∀{T:Option hH} {D:et} {s':gj},bA X.prog X.w (X.env::X.outer) c.H s0 d l T D H' s'->Inv X pins c0.σ H' s':=λ{T D s'} F=>B.uS (ch:=[]) F.os (by rw[G.1];exact F.un) F.Gz F.bare λb z=>nomatch z
  have g:∀b o,s0.heap.get? b=a5 o->b≠d:=λb o q z=>by rw[z,F1.new]at q;cases q
  have LJ:d≠X.env.locals/\d∉X.fs:=by
   obtain⟨m,⟨o,_,_,ho,_⟩,_⟩:=B.loc;refine⟨uv (g _ o ho),λz=>?_⟩;obtain⟨_,o,q,_⟩:=Ir.mem (Kr.mpr (by
    obtain⟨env,h1,h2⟩:=Kr.mp z;exact⟨env,mA _ h1,h2⟩))
   exact g _ o q rfl
  have H0:∀{T:Option hH} {D:et} {s':gj} (E:et->gj->Prop),bA X.prog X.w (X.env::X.outer) c.H s0 d l T D H' s'->∃J,s'.heap.get? d=a5 J/\J.cls=.ref l/\Inv (X.H0 d J E) pins c0.σ H' s':=λ{T D s'} E F=>by
   obtain⟨a0,J,vs,h1,h2,h3,_⟩:=F.exc;exact⟨J,h1,h2,(ac F).H0 h1 F.he LJ.1 LJ.2 λv z=>by rw[h3]at z;cases z⟩
  refine X6 (Xy ?_) λz=>nomatch z
  obtain⟨VB,g1,g2,I3⟩:=H0 (QN (gs X.prog X.w) (X.A.mark (a5 (.ref d))) X.env λx s'=>cameBackBy (gs X.prog X.w) X.A X.env X.xe x s') F3;refine dk I3 QV QW ?_ QX;have LT:W_ (gs X.prog X.w) s3.heap (UJ (.ref d)) (.ref l):=by
   refine(Wg g1).andThen ?_;rw[g2];exact .now
  refine(exm_one I3.Jh LT ab).here (Wt ?_);refine F3.land Ir Ip λT4 s4 F4=>?_;obtain⟨Kh,g3,g4,I4⟩:=H0 (λ_ _=>False) F4;refine d0 (X:=X.H0 d Kh λ_ _=>False) I4 L O (.inl Y) (v:=.ref d) rfl (λs5 I5=>?_) (.inr Y);have pt:=mL (X:=X.H0 d Kh λ_ _=>False) (pos:=NG) (pos':=p6) L hk hz (bE (pos:=p9) O (.inl Y) GQ QY) rfl (.inl VZ);refine nc ((jA pt mJ) pins s5 _ H' {nx:=λσ H=>σ=(c0.σ.set j (a5 (.ref d))).set k (a5 (.ref d))/\H=H',rt:=λ_ _=>False} I5 ?_) (λD s6 z=>?_) λ_ _ z=>z.elim
  ·exact⟨.ref d,fx (by rw[I.len];exact(ez.mp O).1),rfl,rfl⟩
  ·cases D with
   |next =>
    obtain⟨_,_,I6,rfl,rfl⟩:=z;refine Inv.gone (X:=X.H0 d Kh λ_ _=>False) I6 L O Y λs7 I7=>?_;have g7:=(I7.pin (d,Kh) r6).1;refine⟨_,_,(I7.D4 I.ok).D5 g7 F4.he ?_ LJ.1 (λx c q=>?_) (λp hp=>?_),wQ (X:=X) (λm z=>(Hb m z).2) hK ok GO n0 hσ (by rw[hσ];exact Nj) hs F4.he g4 Kt _ w⟩
    ·cases q:X.s₀.heap.get? d with
     |none=>rfl
     |some o =>
      obtain⟨o',q'⟩:=B.base.there d o q (by rw[hx];exact λz=>nomatch z);exact absurd rfl (g d o' q')
    ·obtain⟨v,o,q,_⟩:=B.cell x c q;exact g c o q
    ·exact g p.1 p.2 (B.pin p hp).1
   |ret v=>obtain⟨_,_,_,_,_,z⟩:=z;exact z.elim
   |_=>obtain⟨_,_,_,z⟩:=z;exact z.elim
theorem r9(n:C.K=X.K)(r:Gl X "isinstance")(y:X.mg "isinstance"=b6)(A:PE X a (GB C B))(G:PE X D (tC vD))(J:∀u,RelV vD u->u=dv)(hs:ke [a,D] X.env=(cc,GV a X.env)::ke [D] X.env)(L:ke [D] X.env=(cc,GV D X.env)::ke [] X.env)(N:(HR j (ke [D] X.env)).any (·.1)=cc)
  (O:∀q∈g,∀d,Ze X.K l0 q.1=a5 (a5 (.ref d))->fj X.K d=b8/\kitOne X.K (.ref d) dv=a5 q.2) :
  PE X (.Call (.Name "isinstance" p) [a,D] [] j) (GB C (B >>= λx=>M.GJ (j5 g x.2) >>= λb=>pure (.loc,.bl b))):=by
 rintro pins s σ H Q I ⟨c0,rfl,rfl,T,h⟩;refine ti (cR I r y (show w6 "isinstance"=a5 (.builtin "isinstance") by decide +kernel) ?_ (by decide +kernel) (by decide +kernel));refine KI (GC (bH A (bH G dB L) hs j pins s c0.σ c0.H (λvs H'=>∃x c v b,Jo C c0 c x v/\c.H=H'/\vs=[v,vD]/\j5 g x.2=a5 b/\bQ C c0 Q (.loc,.bl b) c.st) I ?_) λus s1 ⟨vs,H1,i,Y,x,c,v,b,t,e,e2,f,w⟩=>?_) hs N
 ·refine aM T h λx c v t w=>?_;rw[ah]at w;obtain⟨b,e,w⟩:=bG.mp w;rw[ao]at w;exact⟨x,c,v,b,t,rfl,rfl,e,w⟩
 ·subst e e2;obtain⟨u1,u2,rfl,Nz,NA⟩:=vals2 Y;obtain rfl:=J _ NA;obtain⟨kx,ux⟩:=x;unfold j5 at f;split at f
  ·rename_i cl k
   dsimp only at k
   subst k;obtain⟨a,ea,o,d,h1,h2,l⟩:=t.rx.read t.ok;subst ea;cases Nz;rw[n]at l;obtain⟨q,hq,m⟩:∃q∈g,q=(cl,b):=⟨_,PySem.mem_of_lookup f,rfl⟩
   obtain⟨k1,k2⟩:=O _ hq d (by rw[m];exact l);rw[m]at k2;refine kia_one (v7 k1) i.Jh ⟨o,(i.Gz a _ h1).1,h2⟩ k2 (λz=>nomatch z) λtk=>?_;exact⟨.bl b,c.H,i.tok tk,rfl,w c (.bl b) t.hσ rfl t.ok t.nx rfl⟩
  ·cases f
theorem oR{S:hH->Prop}:∀{us:List U}{vs:List V}{bs:List Bool},aq C S H us vs->fZ us=a5 bs->vs=bs.map V.bl
 |[],vs,bs,h,e=>by cases e;exact h
 |.bl b::us,vs,bs,h,e=>by
  obtain⟨v,r,rfl,d,f⟩:=h;rw[fZ,i1]at e;obtain⟨g,e,rfl⟩:=e;rw[show v=V.bl b from d,oR f e];rfl
 |.Gv::_,_,_,_,e=>nomatch e
 |.int _::_,_,_,_,e=>nomatch e
 |.str _::_,_,_,_,e=>nomatch e
 |.tup _::_,_,_,_,e=>nomatch e
 |.lst _::_,_,_,_,e=>nomatch e
 |.GD _ _::_,_,_,_,e=>nomatch e
 |.exc _::_,_,_,_,e=>nomatch e
noncomputable def EB:Bool->Str
 |true=>"index"
 |false=>"count"
theorem zJ{d b:Bool}(D:C.K=X.K)(u:X.N[i]?=a5 x)(v:Ib X.env.scope x)(y:(x==("__debug__":Str))=cc)(z:(x==("__classdict__":Str))=cc)(A:(g.endLine==G.line)=b8):
  PE X (.Call (.Attribute (.Name x px) (EB d) g) [.Constant (.bool b) q p2] [] G) (GB C (we d i b)):=by
 have go:∀(σ:L2.St) (H:Hp) (Q:VK),GB C (we d i b) σ H Q->∃(p:hH) (bs:List Bool),σ[i]?=a5 (a5 (.ref p))/\GY X.K H p (bs.map V.bl)/\H p=a5 (.lst (bs.map V.bl))/\(d=b8->b∈bs/\Q (.int (bs.idxOf b:Nat)) H)/\(d=cc->Q (.int (bs.count b:Nat)) H):=by
  rintro σ H Q ⟨c0,rfl,rfl,n,h⟩;obtain⟨r,st',e,w⟩:=h;unfold we at e;split at e
  ·rename_i k us hs;split at e
   ·rename_i hk;split at e
    ·rename_i bs I;obtain⟨p,vs,j,f,l⟩:=n.wN hk hs;have J:=oR l I;subst J;refine⟨p,bs,j,D▸GY.of f,f,λo=>?_,λo=>?_⟩
     ·subst o;rw[Zq rfl]at e;split at e
      ·rename_i t;cases e;exact⟨t,w c0 _ rfl rfl n (Nx.refl c0) rfl⟩
      ·cases e
     ·subst o;rw[Zr mu]at e;cases e;exact w c0 _ rfl rfl n (Nx.refl c0) rfl
    ·cases e
   ·cases e
  ·cases e
 cases d with
 |false =>
  refine PE.weak (ly PySem.F.plainAttrs_list PySem.F.slot_list_count PySem.F.type_list_count vZ (bE u v y z) (bH (rb (b:=b)) dB rfl) rfl rfl A rfl rfl) ?_;intro σ H Q h;obtain⟨p,bs,j,f,l,_,L⟩:=go σ H Q h;exact⟨_,j,.inl ⟨rfl,_,f⟩,p,bs,b,rfl,rfl,l,L rfl⟩
 |true =>
  refine PE.weak (ly PySem.F.plainAttrs_list PySem.F.slot_list_index PySem.F.type_list_index v3 (bE u v y z) (bH (rb (b:=b)) dB rfl) rfl rfl A rfl rfl) ?_;intro σ H Q h;obtain⟨p,bs,j,f,l,O,_⟩:=go σ H Q h;obtain⟨t,T⟩:=O rfl;have B:=List.idxOf_lt_length_of_mem t;refine⟨_,j,.inl ⟨rfl,_,f⟩,p,bs,b,bs.idxOf b,rfl,rfl,l,?_,λm Y hh=>?_,T⟩
  ·rw[ve B,List.getElem_idxOf B]
  ·have:=List.not_of_lt_findIdx (p:=(·==b)) (xs:=bs) Y;obtain⟨h6,h7⟩:=ez.mp hh;rw[h7]at this;simp at this
end
end TM
namespace TM
open PySem L2 PyProof.Rows
abbrev J6(P:D3)(w:H_)(K:PySem.W.Frag)(H:Hp)(a IO:hH->Prop):Ct:=⟨P,w,K,H,a,IO,λ_ _=>False⟩
structure AJ(C:Ct)(H H':Hp)(S':hH->Prop)(is:List Nat)(vs:List V)(ws:List U)(k:Kd)(u:U)(v:V):Prop where
 same:∀a o,H a=a5 o->¬C.IO a->H' a=a5 o
 new:∀a,S' a->H a=b6/\∃o,H' a=a5 o
 own:k=.own->∃r,v=.ref r/\H r=b6/\¬S' r/\cJ C S' H' r u
 loc:k=.loc->Rep C S' H' u v
 len:ws.length=is.length
 Ij:∀(n i:Nat) (r:hH) (w:U),is[n]?=a5 i->vs[i]?=a5 (.ref r)->ws[n]?=a5 w->cJ C S' H' r w
structure CM(C:Ct)(H:Hp)(is:List Nat)(us:List U)(vs:List V):Prop where
 len:us.length=vs.length
 par:∀a,C.IY a->HN H a/\¬C.IO a
 SJ:∀a,C.IO a->HN H a
 io:∀(i:Nat) (u:U),i∈is->us[i]?=a5 u->∃r,vs[i]?=a5 (.ref r)/\C.IO r/\cJ C (λ_=>False) H r u
 any:∀(i:Nat) (u:U),i∉is->us[i]?=a5 u->∃v,vs[i]?=a5 v/\Rep C C.IY H u v
 inj:∀(i j:Nat) (r:hH),i∈is->j∈is->vs[i]?=a5 (.ref r)->vs[j]?=a5 (.ref r)->i=j
 Ij:∀a,C.IO a->∃i∈is,vs[i]?=a5 (.ref a)
def OO(P:D3)(w:H_)(K:PySem.W.Frag)(F:List U->Option (Ex (Kd×U)))(b:Nat)(is:List Nat):Sp:=λvs H Q _=>vs.length=b/\∃us k u ws a IO,F us=a5 (.ok (k,.tup (u::ws)))/\(k=.own\/k=.loc)/\CM (J6 P w K H a IO) H is us vs /\
 ∀v H' S',AJ (J6 P w K H a IO) H H' S' is vs ws k u v->Q v H'
theorem map_inj:∀{l:List α},(l.map f).Nodup->∀x∈l,∀y∈l,f x=f y->x=y
 |[],_,_,h,_,_,_=>by cases h
 |a::l,h,x,g,y,c,e=>by
  rw[hW,td]at h;rcases hU.mp g with d|h1
  ·rcases hU.mp c with b|h2
   ·rw[d,b]
   ·exact absurd (my.mpr ⟨y,h2,by rw[<-e,d]⟩) h.1
  ·rcases hU.mp c with b|h2
   ·exact absurd (my.mpr ⟨x,h1,by rw[e,b]⟩) h.1
   ·exact map_inj h.2 x h1 y h2 e
section
theorem uj(h:gy rs p=a5 j):∃us,rs[p]?=a5 (.bor j,.lst us)/\cG us=b8:=by
 unfold gy at h;split at h
 ·split at h
  ·cases h;exact⟨_,by assumption,by assumption⟩
  ·cases h
 ·cases h
theorem Jd.SM(t:Jd C d c rs vs){i:Nat}(h:rs[i]?=a5 r):∃v,vs[i]?=a5 v/\aP C d c r.1 r.2 v:=by
 have f:∀(l:List (Kd×U)) (w:List V),cz C d c l w->bo l c.st->∀(i:Nat) (r:Kd×U),l[i]?=a5 r->∃v,w[i]?=a5 v/\aP C d c r.1 r.2 v:=by
  intro l;induction l with
  |nil=>intro w _ _ i r e;simp at e
  |cons x l g =>
   intro w h hs i r e;obtain⟨v,t',rfl,j,k,_⟩:=h;rw[fJ]at hs;cases i with
   |zero=>simp at e;subst e;exact⟨v,rfl,j.t hs.1⟩
   |succ i=>obtain⟨m,a,b⟩:=g t' k hs.2 i r (by simpa using e);exact⟨m,by simpa using a,b⟩
 exact f rs vs t.rep t.Nu i r h
theorem Jd.len(t:Jd C a c rs vs):rs.length=vs.length:=by
 have:=t.read.len;rw[ei]at this;exact this
theorem r_(q:C'.Eqv C){vs:List V}(hs:∀a,S' a->S1 a){IO:hH->Prop}(Q:∀a,S' a->¬IO a)(A:∀a o,IO a->H' a=a5 o->¬Tp o):
  ∀(g:List Nat) (ws:List U) (c:Cf) (st':ax),Ok C c->Ns c1 c->c.S=S1->f9 rs g ws c.st=a5 st'->(g.map (gy rs)).Nodup->(∀p∈g,∀a,vs[p]?=a5 (.ref a)->IO a) ->
  (∀p∈g,∀j,gy rs p=a5 j->∃k u r,k.root=b8/\c.st[j]?=a5 (a5 (k,u))/\c.σ[j]?=a5 (a5 (.ref r))/\vs[p]?=a5 (.ref r)) ->
  (∀(n p:Nat) (r:hH) (w:U),g[n]?=a5 p->vs[p]?=a5 (.ref r)->ws[n]?=a5 w->cJ C' S' H' r w)->(∀a,(∀p∈g,vs[p]?≠a5 (.ref a))->c.H a=H' a)->(∀a,¬IO a->c.H a=H' a) ->
  ∃l:Cf,Ok C l/\Ns c1 l/\l.σ=c.σ/\l.S=S1/\l.st=st'/\l.H=H'/\l.kid=c.kid/\∀(j:Nat) (k:Kd) (u:U),l.st[j]?=a5 (a5 (k,u))->∃B,c.st[j]?=a5 (a5 (k,B))
 |[],ws,c,st',D,n,y,e,_,_,_,_,G,_=>by
  cases ws with
  |nil=>cases e;exact⟨c,D,n,rfl,y,rfl,funext λa=>G a λp hp=>(by cases hp),rfl,λj k u e=>⟨u,e⟩⟩
  |cons _ _=>cases e
 |p::g,ws,c,st',D,n,y,e,I,T,Y,rt,G,J=>by
  cases ws with
  |nil=>cases e
  |cons w ws =>
   simp only[f9]at e;split at e
   ·rename_i j hj;split at e
    ·rename_i us k0 WS GF;obtain⟨k,u,r,hk,t,e2,L⟩:=Y p (by simp) j hj;rw[GF]at t;cases t;have t:=GF;have hr:=rt 0 p r _ rfl L rfl;obtain⟨xs,g1,g2⟩:=hr;have N:IO r:=T p (by simp) r L;rw[hW,td]at I;obtain⟨GL,n'⟩:=D.mod (H':=upd c.H r (.lst xs)) (u':=.lst us) n hk t e2 (λa ne=>au ne) ⟨_,aw⟩ (λ_=>⟨xs,aw,by
      refine(g2.cg q).mv ⟨λa z=>by rw[y];exact hs a z,λa o h tp=>?_,λa o z h=>?_⟩
      ·by_cases s:a=r
       ·subst s;exact absurd tp (A a o N h)
       ·rw[au s];by_cases x:IO a
        ·exact absurd tp (A a o x h)
        ·rw[J a x];exact h
      ·have x:=Q a z;have s:a≠r:=λe=>x (e▸N);rw[au s,J a x];exact h⟩)
     have Hl:j<c.st.length:=(ez.mp t).1;have A1:∀f∈g,∀v,gy rs f=a5 v->∃k u r,Kd.root k=b8/\(c.st.set j (a5 (k0,.lst us)))[v]?=a5 (a5 (k,u))/\c.σ[v]?=a5 (a5 (.ref r))/\vs[f]?=a5 (.ref r):=λf hp v Jj=>by
      obtain⟨k',u',O,a1,a2,a3,a4⟩:=Y f (by simp[hp]) v Jj;have ne:j≠v:=λz=>I.1 (my.mpr ⟨f,hp,by rw[Jj,hj,z]⟩);exact⟨k',u',O,a1,by rw[i0 ne];exact a2,a3,a4⟩
     have A2:∀a,(∀f∈g,vs[f]?≠a5 (.ref a))->upd c.H r (.lst xs) a=H' a:=λa s=>by
      by_cases h:a=r
      ·subst h;rw[aw,g1]
      ·rw[au h];refine G a λf hp z=>?_;rcases hU.mp hp with rfl|hp
       ·rw[L]at z;cases z;exact h rfl
       ·exact s f hp z
     have A3:∀a,¬IO a->upd c.H r (.lst xs) a=H' a:=λa s=>by
      have ne:a≠r:=λz=>s (by rw[z];exact N);rw[au ne];exact J a s
     obtain⟨l,f1,f2,f3,f4,f5,f6,f7,f8⟩:=r_ q hs Q A g ws {c with H:=upd c.H r (.lst xs),st:=c.st.set j (a5 (k0,.lst us))} st' GL n' y e I.2 (λf hp=>T f (by simp[hp])) A1 (λm f O w' a b d=>rt (m+1) f O w' (by simpa using a) b (by simpa using d)) A2 A3;refine⟨l,f1,f2,f3,f4,f5,f6,f7,λi k' u' z=>?_⟩;obtain⟨B,z⟩:=f8 i k' u' z;by_cases hi:i=j
     ·subst hi;have z:(c.st.set i (a5 (k0,.lst us)))[i]?=_:=z;rw[fx Hl]at z;cases z;exact⟨_,t⟩
     ·have z:(c.st.set j (a5 (k0,.lst us)))[i]?=_:=z;rw[i0 (uv hi)]at z;exact⟨B,z⟩
    ·cases e
   ·cases e
end
section
theorem zK(st:ax)(r:Kd×U):(dO st r).1=r.1:=by
 unfold dO;split<;>rfl
theorem cz.SN{st:ax}:∀{rs:List (Kd×U)}{vs:List V},cz C d c rs vs->cz C d c (rs.map (dO st)) vs
 |[],_,h=>h
 |r::rs,vs,h=>by
  obtain⟨v,t,rfl,e,f,g⟩:=h;refine⟨v,t,rfl,?_,cz.SN f,λhk i n j a l b=>?_⟩
  ·obtain⟨k,u⟩:=r;cases k<;>exact e
  ·rw[mN,i1]at a;obtain⟨m,a,rfl⟩:=a;rw[zK]at hk b;exact g hk i m j a l b
theorem zL(h:PA X es (HH C ms)):PA X es (HH C (ms >>= y9)):=by
 rintro pos a s σ H Q I ⟨b,rfl,rfl,d,w⟩;refine h pos a s b.σ b.H Q I ⟨b,rfl,rfl,d,?_⟩;rw[ah]at w;refine w.mono λrs st f c vs g i j n r=>?_;obtain⟨k,st',e,q⟩:=f;cases e;exact q c vs g i j n r.SN
theorem wR(h:Qx r=a5 (k,u,ws)):r=(k,.tup (u::ws))/\(k=.own\/k=.loc):=by
 unfold Qx at h;split at h
 ·cases h;exact⟨rfl,.inl rfl⟩
 ·cases h;exact⟨rfl,.inr rfl⟩
 ·cases h
theorem wU(hP:C.P=X.prog)(hw:C.w=X.w)(hK:C.K=X.K)(hF:Γ f=F)(hk:∀us r,F us=a5 (.ok r)->us.length=np)
  (G:gJ X.prog X.w X.K X.mg X.base Ly k fa fd ps (OO X.prog X.w X.K F np is)) (hr:eM k X.A) (hg:Gl X f) (hm:X.mg f=a5 (.ref fa)) (LU:PySem.W.keepIn X.K (.ref fa)=b8) (B:Binds X.K fd ps [])
  (IX:(f==("__debug__":Str))=cc) (ha:PA X (e::es) (HH C ms)) (he:ke (e::es) X.env=(cc,GV e X.env)::ke es X.env) (Ha:(HR pos (ke es X.env)).any (·.1)=cc) :
  PE X (.Call (.Name f p) (e::es) [] pos) (GB C (ms >>= λrs=>aB rs >>= λ_=>oN Γ f rs is)):=by
 rintro ag s σ H Q I ⟨c0,rfl,rfl,ok,h⟩;refine ti (dk I hg hm ?_ IX);refine PySem.W.callWith_K (h₀:=X.base) I.ok.mod.Li LU (GC (args ha I ok h pos) λus s1 ⟨rs,c,vs,t,I1,rv,w⟩=>⟨I1.Jh,?_⟩) he Ha;obtain⟨r,st',D,q⟩:=w;unfold oN at D;rw[hF]at D;split at D
 ·rename_i r0 e2;split at D
  ·rename_i kd u ws eu;split at D
   ·rename_i Hw;split at D
    ·rename_i st2 Rg;cases D;obtain⟨rfl,k1⟩:=wR eu;have k2:=hk _ _ e2;unfold oM at Hw;simp only[cb,mx,Zp,KQ,HW]at Hw;obtain⟨⟨h1,h2⟩,h3⟩:=Hw;have Y:∀p∈is,∃j xs k r,gy rs p=a5 j/\rs[p]?=a5 (.bor j,.lst xs)/\cG xs=b8/\Kd.root k=b8/\c.st[j]?=a5 (a5 (k,.lst xs))/\c.σ[j]?=a5 (a5 (.ref r))/\vs[p]?=a5 (.ref r)/\¬c.S r/\¬C.IY r/\cJ C c.S c.H r (.lst xs):=λp L=>by
      obtain⟨j,T⟩:=Qf.mp (h1 p L);obtain⟨xs,a1,a2⟩:=uj T;obtain⟨v,b1,l⟩:=t.SM a1;obtain⟨r,rfl,d1,d2,_,N⟩:=t.ok.rootOf l.1 l.2;obtain⟨k,m,x⟩:=l.1;exact⟨j,xs,k,r,T,a1,a2,m,x,l.2,b1,d1,d2,N⟩
     let IO:hH->Prop:=λa=>∃p∈is,vs[p]?=a5 (.ref a);have NM:∀a,IO a->c.R a/\¬c.S a/\¬C.IY a/\HN c.H a:=λa G'=>by
      obtain⟨p,L,e⟩:=G';obtain⟨j,xs,k,r,_,_,_,m,x,y,J,g5,g6,g7⟩:=Y p L;rw[e]at J;cases J;obtain⟨o,ho,_⟩:=g7.some;exact⟨.inl ⟨j,k,_,m,x,y⟩,g5,g6,o,ho⟩
     let Pr:hH->Prop:=λa=>HN c.H a/\¬IO a;have ab:C.Eqv (J6 X.prog X.w X.K c.H Pr IO):=⟨hP,hw,hK⟩
     have Ii:(J6 X.prog X.w X.K c.H Pr IO).Eqv C:=⟨hP.symm,hw.symm,hK.symm⟩
     have sP:∀a,c.S a->Pr a:=λa z=>⟨t.ok.v8 a z,λz'=>(NM a z').2.1 z⟩
     have gi:∀{i:Nat} {u:U},(rs.map (·.2))[i]?=a5 u->∃k,rs[i]?=a5 (k,u):=λ{i u} e=>by
      rw[mN,i1]at e;obtain⟨⟨k,u'⟩,e,rfl⟩:=e;exact⟨k,e⟩
     have ac:CM (J6 X.prog X.w X.K c.H Pr IO) c.H is (rs.map (·.2)) vs:=by
      refine⟨by rw[ei];exact t.len,λa z=>z,λa z=>(NM a z).2.2.2,λi u O e=>?_,λi u O e=>?_,λi j r O T e3 e4=>?_,λa z=>z⟩
      ·obtain⟨j,xs,k,r,_,g0,gm,m,x,y,J,g5,g6,zs,g7,g8⟩:=Y i O;obtain⟨k',e⟩:=gi e;rw[g0]at e;cases e;exact⟨r,J,⟨i,O,J⟩,zs,g7,(aq.G5 gm g8).cg ab⟩
      ·obtain⟨k',e⟩:=gi e;obtain⟨v,b1,l⟩:=t.SM e;refine⟨v,b1,?_⟩;have Hl:i<rs.length:=(ez.mp e).1;have OP:=(h3 i Hl).resolve_left O;rw[UE,e]at OP;refine Rep.cg ab (u:=u) ?_;cases k' with
       |own =>
        obtain⟨r,rfl,_,d1,d2,N⟩:=l;obtain⟨o,ho,_⟩:=N.some;exact N.rep sP ⟨⟨o,ho⟩,λz=>d2 (NM r z).1⟩
       |loc=>exact Rep.mv (.up sP) l
       |any=>exact Rep.mv (.up λa z=>z.elim (λz=>⟨t.ok.D6 a (.inl z),λz'=>(NM a z').2.2.1 z⟩) (sP a)) l
       |bor j =>
        obtain⟨r,rfl,d1,d2,_,N⟩:=t.ok.rootOf l.1 l.2;obtain⟨o,ho,_⟩:=N.some;refine N.rep sP ⟨⟨o,ho⟩,λ⟨p',SO,e'⟩=>?_⟩;obtain⟨j',xs,k2,r2,g,_,_,m,x,y,J,_⟩:=Y p' SO;rw[e']at J;cases J;obtain⟨k3,z1,z2⟩:=l.1;have:=t.ok.inj j j' k3 k2 _ _ r z1 m z2 x l.2 y;subst this;have:a5 j∉is.map (gy rs):=by simpa[rO] using OP
        exact this (my.mpr ⟨p',SO,g⟩)
       |_=>exact l.elim
      ·obtain⟨j1,_,k1,r1,a0,_,_,a1,a2,a3,a4,_⟩:=Y i O;obtain⟨j2,_,k2,r2,b0,_,_,b1,l,b3,b4,_⟩:=Y j T;rw[e3]at a4;cases a4;rw[e4]at b4;cases b4;have:=t.ok.inj j1 j2 k1 k2 _ _ r a1 b1 a2 l a3 b3;subst this;exact map_inj h2 i O j T (by rw[a0,b0])
     have HK:OO X.prog X.w X.K F np is vs c.H (λv H'=>Q v H') E0:=⟨by rw[<-t.len,<-k2,ei],rs.map (·.2),kd,u,ws,Pr,IO,e2,k1,ac,λv H' S' B=>by
      classical
      let H1:Hp:=λa=>if IO a then c.H a else H' a
      have OQ:∀a,¬IO a->H1 a=H' a:=λa z=>Zr z;have NK:∀a,S' a->¬IO a:=λa z z'=>by
       obtain⟨o,ho⟩:=(NM a z').2.2.2;rw[(B.new a z).1]at ho;cases ho
      have NO:cS c.H H1:=λa o e=>by
       by_cases z:IO a
       ·show(if IO a then _ else _)=_;rw[Zq z];exact e
       ·rw[OQ a z];exact B.same a o e z
      obtain⟨GA,n1⟩:=t.ok.grow (H':=H1) (S':=λa=>c.S a\/S' a) NO (λa z=>z.imp id λz=>⟨(B.new a z).1,by rw[OQ a (NK a z)];exact(B.new a z).2⟩) λa=>.inl;have NP:∀(n i:Nat) (r:hH),is[n]?=a5 i->vs[i]?=a5 (.ref r)->∃w,ws[n]?=a5 w/\cJ (J6 X.prog X.w X.K c.H Pr IO) S' H' r w:=λn i r a b=>by
       have hn:n<ws.length:=by rw[B.len];exact(ez.mp a).1
       exact⟨_,ve hn,B.Ij n i r _ a b (ve hn)⟩
      obtain⟨cf,f1,f2,f3,f4,f5,f6,f7,f8⟩:=r_ (C:=C) Ii (rs:=rs) (vs:=vs) (H':=H') (S':=S') (S1:=λa=>c.S a\/S' a) (λa=>.inr) (IO:=IO) NK (λa o ⟨i,O,z⟩ e=>by
        obtain⟨n,hn⟩:=List.getElem?_of_mem O;obtain⟨w,_,g⟩:=NP n i a hn z;obtain⟨o',m,x⟩:=g.some;rw[e]at m;cases m;exact x) is ws {c with H:=H1,S:=λa=>c.S a\/S' a} st' GA n1.toNs rfl Rg h2 (λp L a z=>⟨p,L,z⟩) (λp L j T=>by
        obtain⟨j',xs,k,r,g0,_,_,m,x,y,J,_⟩:=Y p L;rw[T]at g0;cases g0;exact⟨k,_,r,m,x,y,J⟩) (λn i r w a b d=>B.Ij n i r w a b d) (λa ha=>OQ a λ⟨p,L,z⟩=>ha p L z) OQ
      subst f6;have V3:∀a,cf.R a->c.R a:=λa z=>by
       rcases z with⟨j,k,u,m,x,y⟩|⟨j,u,r,m,x,y⟩
       ·obtain⟨u0,g⟩:=f8 j k u x;rw[f3]at y;exact .inl ⟨j,k,u0,m,g,y⟩
       ·obtain⟨u0,g⟩:=f8 j .Gq u m;rw[f3]at x;rw[f7]at y;exact .inr ⟨j,u0,r,g,x,y⟩
      refine q cf v (f3.trans t.hσ) f5 f1 ⟨t.nx.toNs.trans f2⟩ ?_;rcases k1 with rfl|rfl
      ·obtain⟨r,rfl,d1,d2,N⟩:=B.own rfl;obtain⟨_,z1,_,_,z4⟩:=t.ok.jX d1;exact⟨r,rfl,t.nx.none d1,by rw[f4];exact λz=>z.elim z1 d2,λz=>z4 (V3 r z),(N.cg Ii).mv (.up λa z=>by rw[f4];exact .inr z) λo q=>q⟩
      ·exact((B.loc rfl).cg Ii).mv (.up λa z=>by rw[f4];exact .inr z)⟩
     have z:=vd (Q:=Q) G hr B .nil DU I1 rv (by rw[y1];exact HK);rw[t.hσ]at z;exact z
    ·cases D
   ·cases D
  ·cases D
 ·cases D
end
structure Ck where
 fns:List Str
 gl:List (Str×U)
 Ij:List (Str×List Nat)
 xc:List Str
 xd:List (Str×Str)
 xi:List (Str×Str×Bool)
 xe:List (Str×Str)
noncomputable def qp:U->U->Bool
 |.int i,.int j=>d6 (i=j)
 |.str x,.str y=>d6 (x=y)
 |.bl a,.bl b=>a==b
 |.Gv,.Gv=>b8
 |_,_=>cc
theorem cB(h:qp u v=b8):u=v:=by
 cases u<;>cases v<;>simp[qp]at h<;>subst_vars<;>rfl
noncomputable def noStar:rr->Bool
 |.Starred _ _=>cc
 |_=>b8
noncomputable def dR:rr->Bool
 |.Slice _ _ _ _=>cc
 |_=>b8
noncomputable def qq:rr->Bool
 |.Set _ _ _=>cc
 |_=>b8
noncomputable def nI:rr->Bool
 |.Call (.Name _ _) [] [] _=>cc
 |_=>b8
noncomputable def cN:rr->Bool
 |.ListComp _ _ _ _=>cc
 |.SetComp _ _ _ _=>cc
 |.DictComp _ _ _ _ _=>cc
 |_=>b8
noncomputable def CN:rr->Bool
 |.Tuple _ _ _=>cc
 |_=>b8
noncomputable def Hx(a:Ln)(x:Str):Bool:=d6 (a.names.lookup x=a5 .globalImplicit)
noncomputable def fu(a:Ln)(x:Str):Bool:=d6 (a.names.lookup x=a5 .local)||decide (a.names.lookup x=a5 .cell)||decide (a.names.lookup x=a5 .free)
noncomputable def jk(a:Ln)(x:Str):Bool:=d6 (a.names.lookup x=a5 .local)||decide (a.names.lookup x=a5 .cell)
noncomputable def EC(a:Ln)(x:Str):Bool:=d6 (a.names.lookup x=a5 .local)
noncomputable def aS(x:Str):Bool:=!(x==("__debug__":Str))&&!(x==("__classdict__":Str))
noncomputable def sd(N:List Str)(a:Ln)(fa:Bool)(i:Nat):rr->Bool
 |.Name x _=>d6 (N[i]?=a5 x)&&jk a x&&(fa||EC a x)
 |_=>cc
noncomputable def nJ(N:List Str)(a:Ln)(fa:Bool):List Nat->List rr->Bool
 |[],[]=>b8
 |i::is,e::es=>sd N a fa i e&&nJ N a fa is es
 |_,_=>cc
noncomputable def f_:rr->List Str
 |.Name x _=>[x]
 |.Tuple es _ _=>es.filterMap fun|.Name x _=>a5 x|_=>b6
 |_=>[]
noncomputable def hide(a N:List Str):List Str:=match a.filter λx=>d6 (x∈N) with
 |[]=>N
 |[x]=>N.set (N.idxOf x) "."
 |x::y::_=>(N.set (N.idxOf x) ".").set (N.idxOf y) ".."
noncomputable def ME(t:Bool)(N:List Str)(a:Ln)(fa:Bool)(is:List Nat):rr->Bool
 |.Name x p=>!t&&(match is with|[i]=>sd N a fa i (.Name x p)|_=>cc)
 |.Tuple es _ _=>t&&nJ N a fa is es&&is.all λi=>d6 (i<N.length)
 |_=>cc
noncomputable def qr(e:rr):Option (Str×List rr):=match e with
 |.Call f as kw _=>match f with
  |.Name x _=>if kw.isEmpty=b8 then a5 (x,as) else b6
  |_=>b6
 |_=>b6
theorem oS(h:qr e=a5 (x,as)):∃p q,e=.Call (.Name x p) as [] q:=by
 unfold qr at h;split at h
 ·split at h
  ·split at h
   ·rename_i hk;rw[HM]at hk;cases h;subst hk;exact⟨_,_,rfl⟩
   ·cases h
  ·cases h
 ·cases h
noncomputable def fw(a:Ln)(b:rr)(ik:Ik)(e:rr):Option (List rr):=match ik with
 |.seq=>a5 [e]
 |.Hk=>(qr e).bind λp=>if p.1="range"/\Hx a p.1=b8/\p.2.length=1 then a5 p.2 else b6
 |_=>b6
noncomputable def simple:Bf->Bool:=λ_=>b8
noncomputable def CO(scope a:Ln):Ln:={scope with names:=scope.names.map λ(n,k)=>if (k==Lw&&a.kind==.function&&a.names.lookup n==a5 .cell)=b8 then(n,.cell) else(n,k)}
noncomputable def aT(e:rr)(k:Str->Bool):Bool:=match e with|.Name x _=>k x|_=>cc
theorem aj(h:aT e k=b8):∃x p,e=.Name x p/\k x=b8:=by
 unfold aT at h;split at h
 ·exact⟨_,_,rfl,h⟩
 ·cases h
noncomputable def cC{α:Type}(l:List α)(k:α->Bool):Bool:=match l with|[a]=>k a|_=>cc
theorem aF(h:cC l k=b8):∃a,l=[a]/\k a=b8:=by
 unfold cC at h;split at h
 ·exact⟨_,rfl,h⟩
 ·cases h
noncomputable def cO(e:rr)(k:rr->List rr->Pos->Bool):Bool:=match e with|.Call f as kw p=>kw.isEmpty&&k f as p|_=>cc
theorem aN(h:cO e k=b8):∃f as p,e=.Call f as [] p/\k f as p=b8:=by
 unfold cO at h;split at h
 ·rename_i f as kw p;rw[cb,HM]at h;obtain⟨rfl,h⟩:=h;exact⟨_,_,_,rfl,h⟩
 ·cases h
noncomputable def qt(e:rr)(k:rr->Str->Pos->Bool):Bool:=match e with|.Attribute o m p=>k o m p|_=>cc
theorem oU(h:qt e k=b8):∃o m p,e=.Attribute o m p/\k o m p=b8:=by
 unfold qt at h;split at h
 ·exact⟨_,_,_,rfl,h⟩
 ·cases h
noncomputable def se(e:rr)(k:rr->XX->rr->Bool):Bool:=match e with|.BinOp a c b _=>k a c b|_=>cc
theorem j7(h:se e k=b8):∃a c b p,e=.BinOp a c b p/\k a c b=b8:=by
 unfold se at h;split at h
 ·exact⟨_,_,_,_,rfl,h⟩
 ·cases h
noncomputable def sf(e:rr)(k:rr->CmpOp->rr->Bool):Bool:=match e with|.Compare a ops bs _=>cC ops λc=>cC bs λb=>k a c b|_=>cc
theorem gz(h:sf e k=b8):∃a c b p,e=.Compare a [c] [b] p/\k a c b=b8:=by
 unfold sf at h;split at h
 ·obtain⟨c,rfl,d⟩:=aF h;obtain⟨b,rfl,f⟩:=aF d;exact⟨_,_,_,_,rfl,f⟩
 ·cases h
noncomputable def dG(e:rr)(k:rr->Str->Pos->List rr->Pos->Bool):Bool:=cO e λf as b=>qt f λo m a=>k o m a as b
theorem bj(h:dG e k=b8):∃o m a as b,e=.Call (.Attribute o m a) as [] b/\k o m a as b=b8:=by
 obtain⟨f,as,p,rfl,h⟩:=aN h;obtain⟨o,m,q,rfl,h⟩:=oU h;exact⟨_,_,_,_,_,rfl,h⟩
noncomputable def i5(e:rr)(k:rr->rr->Bool):Bool:=match e with|.Subscript a b _=>k a b|_=>cc
theorem cW(h:i5 e k=b8):∃a b p,e=.Subscript a b p/\k a b=b8:=by
 unfold i5 at h;split at h
 ·exact⟨_,_,_,rfl,h⟩
 ·cases h
noncomputable def Rh:E->Bool
 |.var _=>b8
 |.cst _=>b8
 |_=>cc
noncomputable def j8{α:Type}(l:List α)(k:α->α->Bool):Bool:=match l with|[a,b]=>k a b|_=>cc
theorem cv(h:j8 l k=b8):∃a b,l=[a,b]/\k a b=b8:=by
 unfold j8 at h;split at h
 ·exact⟨_,_,rfl,h⟩
 ·cases h
noncomputable def sg(e:rr)(k:Const->Bool):Bool:=match e with|.Constant c _ _=>k c|_=>cc
theorem gA(h:sg e k=b8):∃c q p,e=.Constant c q p/\k c=b8:=by
 unfold sg at h;split at h
 ·exact⟨_,_,_,rfl,h⟩
 ·cases h
noncomputable def Gh:Const->Option U
 |.int j=>a5 (.int j)
 |.str y=>a5 (.str y)
 |.bool y=>a5 (.bl y)
 |.none=>a5 .Gv
 |_=>b6
noncomputable def Gi(u:U)(c:Const):Bool:=match Gh c with|some v=>qp u v|none=>cc
noncomputable def zM(e:rr)(a:BoolOp)(k:List rr->Bool):Bool:=match e with|.BoolOp o es _=>d6 (o=a)&&k es|_=>cc
theorem iI(h:zM e a k=b8):∃es p,e=.BoolOp a es p/\k es=b8:=by
 unfold zM at h;split at h
 ·rw[cb,Zp]at h;obtain⟨rfl,h⟩:=h;exact⟨_,_,rfl,h⟩
 ·cases h
noncomputable def CP(e:rr)(b:UnaryOp)(k:rr->Bool):Bool:=match e with|.UnaryOp o a _=>d6 (o=b)&&k a|_=>cc
theorem lV(h:CP e b k=b8):∃a p,e=.UnaryOp b a p/\k a=b8:=by
 unfold CP at h;split at h
 ·rw[cb,Zp]at h;obtain⟨rfl,h⟩:=h;exact⟨_,_,rfl,h⟩
 ·cases h
noncomputable def zN(e:rr)(k:rr->rr->rr->Bool):Bool:=match e with|.IfExp c a b _=>k c a b|_=>cc
theorem lW(h:zN e k=b8):∃c a b p,e=.IfExp c a b p/\k c a b=b8:=by
 unfold zN at h;split at h
 ·exact⟨_,_,_,_,rfl,h⟩
 ·cases h
noncomputable def si(e:rr)(k:List rr->Bool):Bool:=match e with|.Tuple l _ _=>k l|_=>cc
theorem j9(h:si e k=b8):∃l q p,e=.Tuple l q p/\k l=b8:=by
 unfold si at h;split at h
 ·exact⟨_,_,_,rfl,h⟩
 ·cases h
noncomputable def wV(e:rr)(k:List rr->Bool):Bool:=match e with|.List l _=>k l|_=>cc
theorem qu(h:wV e k=b8):∃l p,e=.List l p/\k l=b8:=by
 unfold wV at h;split at h
 ·exact⟨_,_,rfl,h⟩
 ·cases h
noncomputable def zO(e:rr):Bool:=match e with|.Dict a b _=>a.isEmpty&&b.isEmpty|_=>cc
theorem lX(h:zO e=b8):∃p,e=.Dict [] [] p:=by
 unfold zO at h;split at h
 ·rw[cb,HM,HM]at h;obtain⟨rfl,rfl⟩:=h;exact⟨_,rfl⟩
 ·cases h
noncomputable def wW(e:rr)(k:Option rr->Option rr->Bool):Bool:=match e with|.Slice a b c _=>c.isNone&&k a b|_=>cc
theorem qv(h:wW e k=b8):∃a b p,e=.Slice a b b6 p/\k a b=b8:=by
 unfold wW at h;split at h
 ·rw[cb,PB]at h;obtain⟨rfl,h⟩:=h;exact⟨_,_,_,rfl,h⟩
 ·cases h
noncomputable def CQ(e:rr)(k:rr->rr->rr->List rr->Ln->Bool):Bool:=match e with|.ListComp elt a b _=>cC a λg=>d6 (g.is_async=0)&&k elt g.target g.iter g.ifs b|_=>cc
theorem iJ(h:CQ e k=b8):∃elt d a b f p,e=.ListComp elt [⟨d,a,b,0⟩] f p/\k elt d a b f=b8:=by
 unfold CQ at h;split at h
 ·obtain⟨⟨d,a,b,z⟩,rfl,c⟩:=aF h;rw[cb,Zp]at c;obtain⟨rfl,c⟩:=c;exact⟨_,_,_,_,_,_,rfl,c⟩
 ·cases h
noncomputable def isNm(e:rr)(n:Str):Bool:=aT e λx=>d6 (x=n)
theorem cX(h:isNm e n=b8):∃p,e=.Name n p:=by
 obtain⟨x,p,e,z⟩:=aj h;exact⟨p,Zu z▸e⟩
noncomputable def um(v:rr)(f:Str)(k:List rr->Bool):Bool:=cO v λg as _=>isNm g f&&k as
theorem dz(h:um v f k=b8):∃as p q,v=.Call (.Name f p) as [] q/\k as=b8:=by
 obtain⟨g,as,q,rfl,z⟩:=aN h;rw[cb]at z;obtain⟨p,rfl⟩:=cX z.1;exact⟨as,p,q,rfl,z.2⟩
mutual
noncomputable def bf(k:Ck):E->List Str->Ln->rr->Bool
 |.var i,N,g,h=>aT h λx=>d6 (N[i]?=a5 x)&&fu g x&&aS x
 |.cst u,N,g,h=>sg h λc=>Gi u c
 |.Ox _ _,_,_,_=>cc
 |.bin C a b,N,g,h=>se h λq B s=>d6 (C.op=B)&&bf k a N g q&&bf k b N g s
 |.cmp C a b,N,g,h=>sf h λq B s=>d6 (C.op=B)&&!Pq B s&&bf k a N g q&&bf k b N g s
 |.J0 _ _ _ _ _,_,_,_=>cc
 |.and es,N,g,h=>zM h .And λv=>aQ k es N g v
 |.or es,N,g,h=>zM h .Or λv=>aQ k es N g v
 |.not a,N,g,h=>CP h .Not λq=>bf k a N g q
 |.ite c a b,N,g,h=>zN h λH q s=>bf k c N g H&&bf k a N g q&&bf k b N g s
 |.neg _,_,_,_=>cc
 |.bad,_,_,_=>b8
 |.HD a D I,N,g,h=>um h "isinstance" λas=>j8 as λq s=>isNm s D&&noStar q&&Hx g "isinstance"&&Hx g D&&aS D&&(k.xi.any λp=>d6 (p.2.1=D))&&I.all (λp=>d6 ((p.1,D,p.2)∈k.xi))&&bf k a N g q
 |.Kw J i b,N,g,h=>dG h λo m j as z=>aT o λx=>cC as λq=>sg q λc=>d6 (c=.bool b)&&d6 (m=EB J)&&d6 (N[i]?=a5 x)&&fu g x&&aS x&&(j.endLine==z.line)
 |.pop i,N,g,h=>dG h λo m j as z=>aT o λx=>as.isEmpty&&d6 (m="pop")&&d6 (N[i]?=a5 x)&&fu g x&&aS x&&(j.endLine==z.line)
 |.I0 i a,N,g,h=>dG h λo m j as z=>aT o λx=>cC as λq=>d6 (m="pop")&&d6 (N[i]?=a5 x)&&fu g x&&aS x&&(j.endLine==z.line)&&noStar q&&bf k a N g q
 |.Gy f es is,N,g,h=>cO h λf' v _=>aT f' λx=>d6 (x=f)&&d6 ((f,is)∈k.Ij)&&Hx g x&&aS x&&!v.isEmpty&&aQ k es N g v
 |.inD neg a i,N,g,h=>sf h λq B s=>aT s λx=>d6 (CH neg=B)&&!Pq B s&&d6 (N[i]?=a5 x)&&fu g x&&aS x&&bf k a N g q
 |.Mx i,N,g,h=>aT h λx=>d6 (N[i]?=a5 x)&&fu g x&&aS x
 |.IC i a b,N,g,h=>dG h λo m j as z=>aT o λx=>j8 as λq s=>d6 (m="get")&&d6 (N[i]?=a5 x)&&fu g x&&aS x&&(j.endLine==z.line)&&noStar q&&noStar s&&bf k a N g q&&bf k b N g s
 |.Oy i,N,g,h=>cO h λf' as _=>aT f' λf=>cC as λc=>dG c λo m j bs z=>aT o λx=>bs.isEmpty&&d6 (f="sorted")&&Hx g f&&d6 (m="items")&&d6 (N[i]?=a5 x)&&fu g x&&aS x&&(j.endLine==z.line)
 |.LO ln a b,N,g,h=>cO h λf' as _=>aT f' λf=>cC as λd=>se d λl C r=>cO l λL O _=>aT L λQ=>cC O λq=>cO r λY ar _=>aT Y λg2=>cC ar λs =>
  d6 (f=(if ln=b8 then("len":Str) else "sorted"))&&d6 (Q="set")&&d6 (g2="set")&&d6 (C=.Sub)&&Hx g f&&Hx g "set"&&noStar q&&noStar s&&bf k a N g q&&bf k b N g s
 |.fst es,N,g,h=>cc
 |.IZ a T,N,g,h=>cO h λf' as _=>aT f' λx=>j8 as λq s=>aT s λy=>d6 (x="isinstance")&&d6 (y=T.name)&&Hx g x&&Hx g y&&noStar q&&bf k a N g q
 |.tup es,N,g,h=>si h λv=>aQ k es N g v
 |.lst es,N,g,h=>wV h λv=>aQ k es N g v
 |.IB _,N,g,h=>zO h
 |.idx a b,N,g,h=>i5 h λq s=>dR s&&bf k a N g q&&bf k b N g s
 |.Kv a lo hi,N,g,h=>i5 h λq s=>wW s λSQ Ih=>bf k a N g q&&qw k lo N g SQ&&qw k hi N g Ih
 |.bi f es,N,g,h=>cO h λf' v _=>aT f' λx=>d6 (x=f.name)&&simple f&&Hx g x&&!v.isEmpty&&aQ k es N g v
 |.K7 f es,N,g,h=>cO h λf' as _=>aT f' λx=>cC as λc=>cO c λg' v _=>aT g' λy=>d6 (x=f.nB)&&d6 (y=f.hZ)&&Hx g x&&Hx g y&&!v.isEmpty&&aQ k es N g v
 |.K8 m a es,N,g,h=>dG h λo name j v z=>d6 (name=m.name)&&nI o&&(j.endLine==z.line)&&!v.isEmpty&&d6 (v.length<20)&&bf k a N g o&&aQ k es N g v
 |.call f es,N,g,h=>cO h λf' v _=>aT f' λx=>d6 (x=f)&&d6 (f∈k.fns)&&Hx g x&&aS x&&!v.isEmpty&&aQ k es N g v
 |.comp n t ik src cond e,N,g,h=>CQ h λelt w A G scope =>
   d6 ((f_ w).length=n)&&BR (f_ w++hide (f_ w) N) (f_ w) scope g.names&&ME t (f_ w++hide (f_ w) N) (CO scope g) cc (ko n) w&&qq A &&
   (match fw g w ik A with
    |some as=>aQ k src N g as
    |none=>cc) &&
   d6 (G.length<=1)&&aQ k cond (f_ w++hide (f_ w) N) (CO scope g) G&&bf k e (f_ w++hide (f_ w) N) (CO scope g) elt
noncomputable def aQ(k:Ck):List E->List Str->Ln->List rr->Bool
 |[],_,_,a=>a.isEmpty
 |e::es,N,b,a=>match a with
  |e'::a=>noStar e'&&bf k e N b e'&&aQ k es N b a
  |[]=>cc
noncomputable def qw(k:Ck):List E->List Str->Ln->Option rr->Bool
 |[],_,_,o=>o.isNone
 |[e],N,a,o=>match o with
  |some b=>bf k e N a b
  |none=>cc
 |_::_::_,_,_,_=>cc
end
noncomputable def bK:List Str:=["len","sorted","repr","max","min","all","any","list","tuple","str","int","range","enumerate","zip","reversed","set","dict","sum","isinstance","bool"]
structure L6(ck:Ck)(K:PySem.W.Frag)(mg:Str->Option et):Prop where
 xc:∀x∈ck.xc,∃C,mg x=a5 (.ref C)/\PySem.W.nsIn K l0 x=a5 (a5 (.ref C))/\PySem.W.excIn K C Mu "ValueError.__new__"=b8
 xd:∀p∈ck.xd,∃C D,mg p.1=a5 (.ref C)/\PySem.W.nsIn K l0 p.1=a5 (a5 (.ref C))/\mg p.2=a5 (.ref D)/\PySem.W.exmOne K (.ref C) (.ref C)=a5 b8/\(PySem.W.kitCls K (.ref C) (.ref D)==a5 b8&&C != D)=b8
 xi:∀D,(∃p∈ck.xi,p.2.1=D)->∃dv,((∃D',dv=.ref D'/\mg D=a5 (.ref D'))\/(D="ValueError"/\dv=.type "ValueError"/\mg D=b6))/\∀p∈ck.xi,p.2.1=D->∀C,PySem.W.nsIn K l0 p.1=a5 (a5 (.ref C))->fj K C=b8/\PySem.W.kitOne K (.ref C) dv=a5 p.2.2
 xe:∀x,(∃p∈ck.xe,p.2=x)->∃D,mg x=a5 (.ref D)/\∀cl,(cl,x)∈ck.xe->∀C,PySem.W.nsIn K l0 cl=a5 (a5 (.ref C))->PySem.W.exmOne K (.ref C) (.ref D)=a5 b8
structure zP(P:D3)(w:H_)(K:PySem.W.Frag)(mg:Str->Option et)(base:Ju)(d:Nat)(F:List U->Option (Ex (Kd×U)))(f:Str):Prop where
 ex:∃(np:Nat) (fa:hH) (fd:QC) (ps:List Str),gJ P w K mg base (K2 P w) d fa fd ps (spT P w K F np)/\mg f=a5 (.ref fa)/\PySem.W.keepIn K (.ref fa)=b8/\Binds K fd ps []/\(∀us k u,F us=a5 (.ok (k,u))->(k=.own\/k=.loc\/k=.any)/\us.length=np)/\∀us c,F us=a5 (.exc c)->us.length=np
structure zQ(P:D3)(w:H_)(K:PySem.W.Frag)(mg:Str->Option et)(base:Ju)(d:Nat)(F:List U->Option (Ex (Kd×U)))(f:Str)(is:List Nat):Prop where
 ex:∃(np:Nat) (fa:hH) (fd:QC) (ps:List Str),gJ P w K mg base Ly d fa fd ps (OO P w K F np is)/\mg f=a5 (.ref fa)/\PySem.W.keepIn K (.ref fa)=b8/\Binds K fd ps []/\∀us r,F us=a5 (.ok r)->us.length=np
structure Gd(ck:Ck)(Γ:Tab)(C:Ct)(d:Nat)(X:Cx):Prop where
 P:C.P=X.prog
 w:C.w=X.w
 K:C.K=X.K
 u:X.A.units+60<KJ
 calm:X.calm=b8
 room:eM d X.A
 blt:∀x∈bK,X.mg x=b6
 fns:∀f∈ck.fns,zP X.prog X.w X.K X.mg X.base d (Γ f) f
 JE:∀p∈ck.gl,∃val v,X.mg p.1=a5 val/\RelV v val/\∀S H,Rep C S H p.2 v
 Ij:∀p∈ck.Ij,zQ X.prog X.w X.K X.mg X.base d (Γ p.1) p.1 p.2
 J4:L6 ck X.K X.mg
theorem Gd.cx(g:Gd ck Γ C d X)(N:List Str)(a:Ln)(D:hH)(s:gj)(H:Hp)(ex:List hH):Gd ck Γ C d (Ht X N a D s H ex) :=
 ⟨g.P,g.w,g.K,g.u,g.calm,g.room,g.blt,g.fns,g.JE,g.Ij,g.J4⟩
theorem bR(h:fu a x=b8):Ib a x:=by
 unfold fu at h;simp only[KQ,Zp]at h;rcases h with(h|h)|h
 ·exact .inl h
 ·exact .inr (.inl h)
 ·exact .inr (.inr h)
theorem av(h:aS x=b8):(x==("__debug__":Str))=cc/\(x==("__classdict__":Str))=cc:=by
 unfold aS at h;simpa using h
theorem aZ(h:noStar e=b8):ke (e::es) env=(cc,GV e env)::ke es env:=by
 cases e<;>first|rfl|cases h
theorem oV(h:dR e=b8):mS e:=by
 intro o i;cases e<;>first|rfl|cases h
theorem qx(h:qq e=b8):∀x,Lm e env x=pure x:=by
 intro x;cases e<;>first|rfl|cases h
theorem jw(h:nI o=b8):QU o name env a=a:=by
 cases o with
 |Call f as ks p =>
  cases f with
  |Name x q=>cases as with
   |nil=>cases ks with
    |nil=>cases h
    |cons _ _=>rfl
   |cons _ _=>rfl
  |_=>rfl
 |_=>rfl
theorem a_(h:∀e∈es,noStar e=b8):(HR pos (ke es env)).any (·.1)=cc/\(HR pos (ke es env)).all (λx=>!x.1)=b8:=by
 induction es with
 |nil=>exact⟨rfl,rfl⟩
 |cons e es a =>
  rw[aZ (h e (by simp))];have:=a λb c=>h b (by simp[c]);constructor
  ·show(cc||(HR pos (ke es env)).any (·.1))=cc;rw[this.1];rfl
  ·show(!cc&&(HR pos (ke es env)).all (λx=>!x.1))=b8;rw[this.2];rfl
theorem bY(h:aQ k es N c a=b8):∀e∈a,noStar e=b8:=by
 induction es generalizing a with
 |nil =>
  cases a with
  |nil=>intro e he;cases he
  |cons _ _=>simp[aQ]at h
 |cons x es b =>
  cases a with
  |nil=>intro e he;cases he
  |cons d a =>
   simp only[aQ,cb]at h;intro e he;rcases hU.mp he with rfl|he
   ·exact h.1.1
   ·exact b h.2 e he
theorem lY(a:fa=b8->∀x,X.fn x=b8)(h:sd X.N X.env.scope fa i e=b8):qj X e i:=by
 cases e with
 |Name x p =>
  simp only[sd,cb,Zp,jk,KQ,EC]at h;refine⟨x,p,rfl,h.1.1,?_,?_⟩
  ·rcases h.1.2 with z|z
   ·exact .inl z
   ·exact .inr z
  ·rcases h.2 with z|z
   ·exact .inl (a z x)
   ·exact .inr z
 |_=>cases h
theorem j_(a:fa=b8->∀x,X.fn x=b8):∀{is:List Nat}{es:List rr},nJ X.N X.env.scope fa is es=b8->eV X es is
 |[],[],_=>.nil
 |[],_::_,h=>by cases h
 |_::_,[],h=>by cases h
 |i::is,e::es,h=>by
  simp only[nJ,cb]at h;exact .cons (lY a h.1) (j_ a h.2)
theorem sj(d:X.calm=b8)(e:C.K=X.K)(a:X.N.Nodup)(b:fa=b8->∀x,X.fn x=b8)(h:ME t X.N X.env.scope fa is c=b8):PG X c (tG C t is):=by
 cases c with
 |Name x p =>
  simp only[ME,cb,va]at h;obtain⟨rfl,h⟩:=h;cases is with
  |nil=>cases h
  |cons i is=>cases is with
   |nil=>exact CA a (lY b h)
   |cons _ _=>cases h
 |Tuple es k p =>
  simp only[ME,cb,mx,Zp]at h;obtain⟨⟨rfl,f⟩,g⟩:=h;exact Ee d e a (j_ b f) g
 |_=>cases h
theorem lZ(a N:List Str):dX ((a++hide a N).drop a.length) N:=by
 rw[Td rfl];unfold hide;split
 ·exact .refl N
 ·exact(dX.refl N).set _ (.inl rfl)
 ·exact((dX.refl N).set _ (.inl rfl)).set _ (.inr rfl)
noncomputable def Bf.WT:Bf->Bool
 |.len=>b8|.sorted=>b8|.repr=>b8|.max=>b8|.min=>b8|.all=>b8|.any=>b8|_=>cc
noncomputable def Bf.id:Bf->String
 |.len=>"len"|.sorted=>"sorted"|.repr=>"repr"|.max=>"max"|.min=>"min"|.all=>"all"|.any=>"any"
 |.list=>"list"|.tuple=>"tuple"|.str=>"str"|.int=>"int"
theorem zR:∀f:Bf,simple f=b8->w6 f.name=a5 f.val/\f.name∈bK/\f.name≠"__name__"/\(f.name==("__debug__":Str))=cc:=by
 intro f h;cases f<;>first|exact⟨by decide +kernel,by decide +kernel,by decide +kernel,by decide +kernel⟩|(cases h;done)
theorem CS:∀f:Bf,simple f=b8->(f.val=.builtin f.id\/f.val=.type f.id):=by
 intro f h;cases f<;>first|exact .inl rfl|exact .inr rfl|(cases h;done)
theorem CT:∀f:B2,f.nB∈bK/\f.hZ∈bK:=by
 intro f;cases f<;>exact⟨by decide +kernel,by decide +kernel⟩
theorem zS:∀f:Mf,Slot "str" f.name f.id/\UJ (.builtin f.id)=pure (.type "method_descriptor"):=by
 intro f;cases f with
 |split=>exact⟨PySem.F.slot_str_split,PySem.F.type_str_split⟩
 |join=>exact⟨PySem.F.slot_str_join,PySem.F.type_str_join⟩
 |partition=>exact⟨PySem.F.slot_str_partition,PySem.F.type_str_partition⟩
 |endswith=>exact⟨PySem.F.slot_str_endswith,PySem.F.type_str_endswith⟩
section
theorem bL(h:Hx X.env.scope x=b8):Gl X x:=by
 unfold Hx at h;show X.env.kindOf x=a5 .globalImplicit;exact Zu h
theorem fy:("isinstance":Str)∈bK:=by decide +kernel
theorem wX(T:IA):T.name∈bK:=by cases T<;>decide +kernel
theorem zT:("range":Str)∈bK:=by decide +kernel
theorem AK(g:Gd ck Γ C d X)(h:fw X.env.scope j ik c=a5 as)(k:PA X as (HH C (bc Γ src)))(l:∀a,as=[a]->∃e,src=[e]/\PE X a (GB C (ev Γ e)))(m:∀e∈as,noStar e=b8):PI X j c (KC C ik (bc Γ src)):=by
 unfold fw at h;split at h
 ·cases h;obtain⟨e,rfl,n⟩:=l _ rfl;exact Cy g.K n
 ·rw[vr]at h;obtain⟨⟨x,bs⟩,o,h⟩:=h;split at h
  ·rename_i r;cases h;obtain⟨f,i,hl⟩:=r
   dsimp only at f i hl
   subst f;obtain⟨p,q,rfl⟩:=oS o;obtain⟨b,rfl⟩:=List.length_eq_one_iff.mp hl;exact zx (bL i) (g.blt _ zT) (aZ (m _ (by simp))) k
  ·cases h
 ·cases h
theorem Gd.Ic(g:Gd ck Γ C d X):Gd ck Γ C d X.Ic :=
 ⟨g.P,g.w,g.K,g.u,g.calm,g.room,g.blt,g.fns,g.JE,g.Ij,g.J4⟩
theorem AL(g:Gd ck Γ C d X)(f:PE X h (GB C (ev Γ a)))(n:isNm o D=b8)(r:noStar h=b8)(i:Hx X.env.scope "isinstance"=b8)(j:Hx X.env.scope D=b8)(t:aS D=b8)(v:(ck.xi.any λp=>d6 (p.2.1=D))=b8)(w:k.all (λp=>d6 ((p.1,D,p.2)∈ck.xi))=b8):
  PE X (.Call (.Name "isinstance" p) [h,o] [] q) (GB C (ev Γ (.HD a D k))):=by
 obtain⟨p2,rfl⟩:=cX n;obtain⟨x,y,A⟩:=QK.mp v;obtain⟨dv,B,G⟩:=g.J4.xi D ⟨x,y,Zu A⟩;have l:∀q∈k,∀b,PySem.W.nsIn X.K l0 q.1=a5 (a5 (.ref b))->fj X.K b=b8/\PySem.W.kitOne X.K (.ref b) dv=a5 q.2:=λq J b L=>G _ (Zu (mx.mp w q J)) rfl b L;have st:=aZ (env:=X.env) (es:=[.Name D p2]) r;rcases B with⟨c,rfl,e⟩|⟨rfl,rfl,e⟩
 ·have N:PE X (.Name D p2) (tC (.ref c)):=λm s σ H Q I z=>dk I (bL j) e ⟨.ref c,H,I,rfl,z⟩ (av t).1;exact r9 g.K (bL i) (g.blt _ fy) f N (dv:=.ref c) (λu z=>z) st rfl rfl l
 ·exact r9 g.K (bL i) (g.blt _ fy) f (vD:=.ty "ValueError") (dv:=.type "ValueError") (rf (bL j) e (show w6 "ValueError"=a5 (.type "ValueError") by decide +kernel) rfl (by decide +kernel) (by decide +kernel)) (λu z=>z) st rfl rfl l
theorem AM{a:M α}{b:α->M β}{c:α->M γ}{g:γ->M δ}{st:ax}{Q:δ->ax->Prop}(w:W (a >>= λx=>b x >>= λ_=>c x >>= g) st Q):W ((a >>= λx=>b x >>= λ_=>c x) >>= g) st Q:=by
 simp only[ah]at w ⊢;exact w
theorem br:PT X e (HE C M.fail):=λa s σ H Q I ⟨_,_,_,_,w⟩=>(bb.mp w).elim
theorem ka:PE X e (GB C M.fail):=λa s σ H Q I ⟨_,_,_,_,w⟩=>(bb.mp w).elim
theorem PT.eqv(h:PT X e (HE C m))(i:∀st Q,W a st Q->W m st Q):PT X e (HE C a):=PT.weak h λσ H Q ⟨b,c,d,f,w⟩=>⟨b,c,d,f,i _ _ w⟩
theorem ED(g:Gd ck Γ C d X)(b:PA X a (HH C (bc Γ es)))
  (h:(d6 (x=f.name)&&simple f&&Hx X.env.scope x&&!a.isEmpty&&aQ ck es X.N X.env.scope a)=b8):PE X (.Call (.Name x p) a [] pos) (GB C (ev Γ (.bi f es))):=by
 simp only[cb,Zp,va]at h;obtain⟨⟨⟨⟨rfl,c⟩,i⟩,q⟩,r⟩:=h;obtain⟨j,k,l,m⟩:=zR f c;have n:=bY r;cases a with
 |nil=>cases q
 |cons s o =>
  have st:=aZ (env:=X.env) (es:=o) (n s (by simp));have sn:=(a_ (pos:=pos) (env:=X.env) (es:=o) λe t=>n e (by simp[t])).1;rcases CS f c with hv|hv
  ·exact zq g.calm g.K g.room.gd g.u hv (bL i) (g.blt _ k) (by rw[j,hv]) l m b st sn
  ·exact zr g.calm g.K g.room.gd g.u hv (bL i) (g.blt _ k) (by rw[j,hv]) l m b st sn
theorem EF(g:Gd ck Γ C d X)(i:PA X a (HH C (bc Γ es)))
  (h:(d6 (x=f.nB)&&d6 (y=f.hZ)&&Hx X.env.scope x&&Hx X.env.scope y&&!a.isEmpty&&aQ ck es X.N X.env.scope a)=b8):PE X (.Call (.Name x p) [.Call (.Name y p2) a [] pos2] [] pos) (GB C (ev Γ (.K7 f es))):=by
 simp only[cb,Zp,va]at h;obtain⟨⟨⟨⟨⟨rfl,rfl⟩,j⟩,k⟩,l⟩,m⟩:=h;obtain⟨n,o⟩:=CT f;have b:=bY m;cases a with
 |nil=>cases l
 |cons q c =>
  have st:=aZ (env:=X.env) (es:=c) (b q (by simp));have sn:=(a_ (pos:=pos2) (env:=X.env) (es:=c) λe r=>b e (by simp[r])).1;exact zw g.calm g.K (bL j) (g.blt _ n) (bL k) (g.blt _ o) i st sn
theorem EG(g:Gd ck Γ C d X)(l:PE X o (GB C (ev Γ a)))(n:PA X b (HH C (bc Γ es)))
  (h:(d6 (name=m.name)&&nI o&&(c.endLine==i.line)&&!b.isEmpty&&d6 (b.length<20)&&bf ck a X.N X.env.scope o&&aQ ck es X.N X.env.scope b)=b8):PE X (.Call (.Attribute o name c) b [] i) (GB C (ev Γ (.K8 m a es))):=by
 simp only[cb,Zp,va]at h;obtain⟨⟨⟨⟨⟨⟨rfl,p⟩,q⟩,r⟩,s⟩,w⟩,t⟩:=h;have j:=bY t;obtain⟨s1,s2⟩:=zS m;cases b with
 |nil=>cases r
 |cons k f =>
  have st:=aZ (env:=X.env) (es:=f) (j k (by simp));have sn:=(a_ (pos:=i) (env:=X.env) (es:=f) λe u=>j e (by simp[u])).1;have v:=(a_ (pos:=i) (env:=X.env) (es:=k::f) j).2;refine zv g.K s1 s2 l n (jw p) ?_ q st sn;rw[v];have:(k::f).length+([]:List M').length+(if ([]:List M').isEmpty=b8 then 0 else 1)<30:=by simp at s ⊢;lia
  simp only[Zt this];rfl
theorem wY(g:Gd ck Γ C d X)(i:PA X a (HH C (bc Γ es)))
  (h:(d6 (x=f)&&d6 (f∈ck.fns)&&Hx X.env.scope x&&aS x&&!a.isEmpty&&aQ ck es X.N X.env.scope a)=b8):PE X (.Call (.Name x p) a [] pos) (GB C (ev Γ (.call f es))):=by
 simp only[cb,Zp,va]at h;obtain⟨⟨⟨⟨⟨rfl,j⟩,k⟩,l⟩,m⟩,n⟩:=h;have b:=bY n;obtain⟨y,fa,z,A,o,q,r,s,t,_⟩:=(g.fns _ j).ex;cases a with
 |nil=>cases m
 |cons u c =>
  have st:=aZ (env:=X.env) (es:=c) (b u (by simp));have sn:=(a_ (pos:=pos) (env:=X.env) (es:=c) λe v=>b e (by simp[v])).1;exact wA g.P g.w g.K rfl t o g.room (bL k) q r s (av l).1 i st sn
theorem CU(g:Gd ck Γ C d X)(i:PA X a (HH C (bc Γ es)))
  (h:(d6 (x=f)&&d6 ((f,is)∈ck.Ij)&&Hx X.env.scope x&&aS x&&!a.isEmpty&&aQ ck es X.N X.env.scope a)=b8):PE X (.Call (.Name x p) a [] pos) (GB C (ev Γ (.Gy f es is))):=by
 simp only[cb,Zp,va]at h;obtain⟨⟨⟨⟨⟨rfl,j⟩,k⟩,l⟩,m⟩,n⟩:=h;have b:=bY n;obtain⟨y,fa,z,A,o,q,r,s,t⟩:=(g.Ij _ j).ex;cases a with
 |nil=>cases m
 |cons u c =>
  have st:=aZ (env:=X.env) (es:=c) (b u (by simp));have sn:=(a_ (pos:=pos) (env:=X.env) (es:=c) λe v=>b e (by simp[v])).1;exact wU g.P g.w g.K rfl t o g.room (bL k) q r s (av l).1 (zL i) st sn
theorem dH(h:(b&&aQ k es N a c)=b8):aQ k es N a c=b8:=(KS.mp h).2
mutual
theorem bw:∀(e:E) (X:Cx) (k:rr),Gd ck Γ C d X->bf ck e X.N X.env.scope k=b8->PE X k (GB C (ev Γ e))
 |.var i,X,k,g,h=>by
  obtain⟨x,p0,rfl,A⟩:=aj h;clear h;have h:=A;simp only[cb,Zp]at h;obtain⟨G,J⟩:=av h.2;exact nA h.1.1 (bR h.1.2) G J
 |.cst u,X,k,g,h=>by
  obtain⟨c,q0,p0,rfl,A⟩:=gA h;cases c with
  |int j=>have:=cB A;subst this;exact ju uT λ_ _=>rfl
  |str y=>have:=cB A;subst this;exact ju pF λ_ _=>rfl
  |bool y=>have:=cB A;subst this;exact ju rb λ_ _=>rfl
  |none=>have:=cB A;subst this;exact ju uU λ_ _=>rfl
  |_=>cases A
 |.Ox x u,X,k,g,h=>absurd (show cc=b8 from h) mu
 |.bin op a b,X,k,g,h=>by
  obtain⟨a',J7,b',p0,rfl,A⟩:=j7 h;clear h;have h:=A;simp only[cb,Zp]at h;obtain⟨⟨rfl,L⟩,Y⟩:=h;exact zd g.K (bw a X _ g L) (bw b X _ g Y)
 |.cmp op a b,X,k,g,h=>by
  obtain⟨a',J7,b',p0,rfl,v⟩:=gz h;have h:=v;simp only[cb,Zp,va]at h;obtain⟨⟨⟨rfl,h0⟩,L⟩,Y⟩:=h;exact ze g.P g.w g.K g.u (bw a X _ g L) (bw b X _ g Y) h0
 |.J0 o1 o2 a b c,X,k,g,h=>absurd (show cc=b8 from h) mu
 |.and es,X,k,g,h=>by
  obtain⟨Gu,p0,rfl,A⟩:=iI h;clear h;have h:=A;exact wZ es X _ g h
 |.or es,X,k,g,h=>ka
 |.not a,X,k,g,h=>by
  obtain⟨a',p0,rfl,A⟩:=lV h;clear h;have h:=A;exact zg (bw a X _ g h)
 |.neg a,X,k,g,h=>absurd (show cc=b8 from h) mu
 |.bad,X,k,g,h=>ka
 |.HD a D tb,X,k,g,h=>by
  obtain⟨as,p,q,rfl,v⟩:=dz h;obtain⟨a',b',rfl,B⟩:=cv v;clear h v;simp only[cb]at B;obtain⟨⟨⟨⟨⟨⟨⟨L,Y⟩,G⟩,J⟩,O⟩,h6⟩,h7⟩,h8⟩:=B;exact AL g (bw a X _ g h8) L Y G J O h6 h7
 |.Kw ix i b,X,k,g,h=>by
  obtain⟨o,m,ab,as,B',rfl,v⟩:=bj h;obtain⟨x,px,rfl,B⟩:=aj v;obtain⟨a',rfl,z3⟩:=aF B;obtain⟨c,q,p,rfl,z4⟩:=gA z3;clear h v B z3;simp only[cb,Zp]at z4;obtain⟨⟨⟨⟨⟨rfl,rfl⟩,L⟩,Y⟩,G⟩,J⟩:=z4;exact zJ g.K L (bR Y) (av G).1 (av G).2 J
 |.pop i,X,k,g,h=>by
  obtain⟨o,m,ab,as,B',rfl,v⟩:=bj h;obtain⟨x,px,rfl,B⟩:=aj v;simp only[cb,Zp,HM]at B;obtain⟨⟨⟨⟨⟨rfl,rfl⟩,L⟩,Y⟩,G⟩,J⟩:=B;obtain⟨q1,q2⟩:=av G;exact zI L (bR Y) q1 q2 J g.K
 |.I0 i a,X,k,g,h=>by
  obtain⟨o,m,ab,as,B',rfl,v⟩:=bj h;obtain⟨x,px,rfl,B⟩:=aj v;obtain⟨a',rfl,z3⟩:=aF B;simp only[cb,Zp]at z3;obtain⟨⟨⟨⟨⟨⟨rfl,L⟩,Y⟩,G⟩,J⟩,O⟩,h6⟩:=z3;obtain⟨q1,q2⟩:=av G;have sa:=a_ (pos:=B') (env:=X.env) (es:=[a']) λe he=>by rw[kr.mp he];exact O
  exact wO g.K L (bR Y) q1 q2 (bw a X _ g h6) (by rw[sa.2];rfl) J (aZ O)
 |.Gy f es is,X,k,g,h=>by
  obtain⟨f',as,p0,rfl,v⟩:=aN h;obtain⟨x,p1,rfl,B⟩:=aj v;exact CU g (ib es X _ g (dH B)) B
 |.inD neg a i,X,k,g,h=>ka
 |.Mx i,X,k,g,h=>by
  obtain⟨x,p0,rfl,A⟩:=aj h;clear h;have h:=A;simp only[cb,Zp]at h;obtain⟨G,J⟩:=av h.2;exact zC h.1.1 (bR h.1.2) G J
 |.IC i a b,X,k,g,h=>by
  obtain⟨o,m,ab,as,B',rfl,v⟩:=bj h;obtain⟨x,px,rfl,B⟩:=aj v;obtain⟨a',b',rfl,z3⟩:=cv B;clear h v;have B:=z3;simp only[cb,Zp]at B;obtain⟨⟨⟨⟨⟨⟨⟨⟨rfl,L⟩,Y⟩,G⟩,J⟩,O⟩,h6⟩,h7⟩,h8⟩:=B;obtain⟨q1,q2⟩:=av G;have sa:=a_ (pos:=B') (env:=X.env) (es:=[a',b']) λe he=>by
   rcases hU.mp he with rfl|he
   ·exact O
   ·simp at he;subst he;exact h6
  exact wL g.u L (bR Y) q1 q2 (bw a X _ g h7) (bw b X _ g h8) ⟨rfl,by rw[sa.2];rfl,J,by rw[aZ O,aZ h6];rfl⟩
 |.Oy i,X,k,g,h=>by
  obtain⟨f',as,_,rfl,v⟩:=aN h;obtain⟨f,_,rfl,B⟩:=aj v;obtain⟨c,rfl,z3⟩:=aF B;obtain⟨o,m,ab,bs,B',rfl,z4⟩:=bj z3;obtain⟨x,px,rfl,z5⟩:=aj z4;simp only[cb,Zp,HM]at z5;obtain⟨⟨⟨⟨⟨⟨⟨rfl,rfl⟩,L⟩,rfl⟩,G⟩,J⟩,O⟩,h6⟩:=z5;obtain⟨q1,q2⟩:=av O;exact zG g.calm g.K (bL L) (g.blt _ (by decide +kernel)) G (bR J) q1 q2 h6
 |.LO ln a b,X,k,g,h=>by
  obtain⟨_,_,_,rfl,A⟩:=aN h;obtain⟨_,_,rfl,v⟩:=aj A;obtain⟨_,rfl,B⟩:=aF v;obtain⟨_,_,_,_,rfl,z3⟩:=j7 B;obtain⟨_,_,_,rfl,z4⟩:=aN z3;obtain⟨_,_,rfl,z5⟩:=aj z4;obtain⟨_,rfl,z6⟩:=aF z5;obtain⟨_,_,_,rfl,z7⟩:=aN z6;obtain⟨_,_,rfl,z8⟩:=aj z7;obtain⟨_,rfl,z9⟩:=aF z8;simp only[cb,Zp]at z9;obtain⟨⟨⟨⟨⟨⟨⟨⟨⟨rfl,rfl⟩,rfl⟩,rfl⟩,L⟩,Y⟩,G⟩,J⟩,O⟩,h6⟩:=z9;exact zH (ln:=ln) g.calm g.K (bL L) (g.blt _ (by cases ln<;>decide +kernel)) (bL Y) (g.blt _ (by decide +kernel)) (bw a X _ g O) (bw b X _ g h6) (aZ G) (aZ J)
 |.fst es,X,k,g,h=>ka
 |.IZ a T,X,k,g,h=>by
  obtain⟨f',as,p0,rfl,v⟩:=aN h;obtain⟨x,p1,rfl,B⟩:=aj v;clear h v;obtain⟨a',b',rfl,z4⟩:=cv B;obtain⟨y,p2,rfl,z3⟩:=aj z4;have h:=z3;simp only[cb,Zp]at h;obtain⟨⟨⟨⟨⟨rfl,rfl⟩,L⟩,Y⟩,G⟩,J⟩:=h;exact rV g.K (bL L) (g.blt _ fy) (bL Y) (g.blt _ (wX T)) (bw a X _ g J) (aZ G)
 |.ite c a b,X,k,g,h=>by
  obtain⟨c',a',b',p0,rfl,A⟩:=lW h;clear h;have h:=A;simp only[cb]at h;exact zh (kb c X _ g h.1.1) (bw a X _ g h.1.2) (bw b X _ g h.2)
 |.tup es,X,k,g,h=>by
  obtain⟨l,q0,p0,rfl,A⟩:=j9 h;clear h;have h:=A;exact zl (ib es X _ g h)
 |.lst es,X,k,g,h=>by
  obtain⟨l,p0,rfl,A⟩:=qu h;clear h;have h:=A;exact zm (ib es X _ g h)
 |.IB r,X,k,g,h=>by
  obtain⟨p0,rfl⟩:=lX h;exact wz g.P g.w r
 |.idx a b,X,k,g,h=>by
  obtain⟨a',b',p0,rfl,A⟩:=cW h;clear h;have h:=A;simp only[cb]at h;exact zo g.K g.u (oV h.1.1) (bw a X _ g h.1.2) (bw b X _ g h.2)
 |.Kv a lo hi,X,k,g,h=>by
  obtain⟨a',b',p0,rfl,v⟩:=cW h;obtain⟨SQ,Ih,p1,rfl,A⟩:=qv v;clear h v;simp only[cb]at A;exact zp g.K (bw a X _ g A.1.1) (EH lo X _ g A.1.2) (EH hi X _ g A.2)
 |.bi f es,X,k,g,h=>by
  obtain⟨f',as,p0,rfl,v⟩:=aN h;obtain⟨x,p1,rfl,B⟩:=aj v;have h:=B;exact ED g (ib es X _ g (dH h)) h
 |.K7 f es,X,k,g,h=>by
  obtain⟨f',as,p0,rfl,v⟩:=aN h;obtain⟨x,p1,rfl,B⟩:=aj v;obtain⟨c,rfl,z3⟩:=aF B;obtain⟨g',as',p2,rfl,z4⟩:=aN z3;obtain⟨y,p3,rfl,z5⟩:=aj z4;have h:=z5;exact EF g (ib es X _ g (dH h)) h
 |.K8 m a es,X,k,g,h=>by
  obtain⟨o,name,ab,as,B',rfl,v⟩:=bj h;have h:=v;have h':=h;simp only[cb]at h';exact EG g (bw a X _ g h'.1.2) (ib es X _ g (dH h)) h
 |.call f es,X,k,g,h=>by
  obtain⟨f',as,p0,rfl,v⟩:=aN h;obtain⟨x,p1,rfl,B⟩:=aj v;have h:=B;exact wY g (ib es X _ g (dH h)) h
 |.comp n t ik src cond e,X,k,g,h=>by
  obtain⟨elt,tg,ac,al,scope,p0,rfl,A⟩:=iJ h;clear h;have h:=A;simp only[cb,Zp]at h;obtain⟨⟨⟨⟨⟨⟨⟨L,Y⟩,G⟩,J⟩,O⟩,h6⟩,h7⟩,h8⟩:=h;subst L;have S:=vE (X:=X) rfl (lZ _ _) Y;split at O
  ·rename_i as am;have GF:=bY O;have hI:PI X tg ac (KC C ik (bc Γ src)):=AK g am (ib src X _ g O) (λa e=>by
    subst e;cases src with
    |nil=>simp[aQ]at O
    |cons e1 G4 =>
     cases G4 with
     |nil =>
      simp only[aQ,cb]at O;exact⟨e1,rfl,bw e1 X _ g O.1.2⟩
     |cons _ _=>simp[aQ]at O) GF
   exact wG S g.calm hI (λD s H ex=>sj (fa:=cc) g.calm g.K S.nd (λz=>nomatch z) G)
    (λD s H ex=>by
     cases al with
     |nil =>
      cases cond with
      |nil=>exact λag s σ H Q I ⟨c0,e1,e2,ok,w⟩=>rp ag s σ H Q I (by subst e1 e2;rw[show bq Γ []=pure b8 from rfl,ao]at w;exact w c0 rfl rfl ok (Nx.refl c0))
      |cons _ _=>simp[aQ]at h7
     |cons c1 cs =>
      cases cs with
      |nil =>
       cases cond with
       |nil=>simp[aQ]at h7
       |cons e1 G4 =>
        cases G4 with
        |nil =>
         simp only[aQ,cb]at h7;exact rq (kb e1 (Ht X _ scope D s H ex) c1 (g.cx _ _ _ _ _ _) h7.1.2)
        |cons _ _=>simp[aQ]at h7
      |cons _ _=>simp at h6)
    (λD s H ex=>bw e (Ht X _ scope D s H ex) elt (g.cx _ _ _ _ _ _) h8) (qx J)
  ·cases O
theorem ib:∀(es:List E) (X:Cx) (a:List rr),Gd ck Γ C d X->aQ ck es X.N X.env.scope a=b8->PA X a (HH C (bc Γ es))
 |[],X,a,g,h=>by
  cases a with
  |nil=>exact zk
  |cons _ _=>simp[aQ]at h
 |e::es,X,a,g,h=>by
  cases a with
  |nil=>simp[aQ]at h
  |cons b a =>
   simp only[aQ,cb]at h;exact wx (bw e X b g h.1.2) (ib es X a g h.2) (aZ h.1.1)
theorem EH:∀(es:List E) (X:Cx) (o:Option rr),Gd ck Γ C d X->qw ck es X.N X.env.scope o=b8->PO X o (tO C (LQ Γ es))
 |[],X,o,g,h=>by
  cases o with
  |none=>exact ub
  |some _=>simp[qw]at h
 |[e],X,o,g,h=>by
  cases o with
  |none=>simp[qw]at h
  |some a=>simp only[qw]at h;exact uc (bw e X a g h)
 |_::_::_,X,o,g,h=>by simp[qw]at h
theorem wZ:∀(es:List E) (X:Cx) (a:List rr),Gd ck Γ C d X->aQ ck es X.N X.env.scope a=b8->∀{pos},PE X (.BoolOp .And a pos) (GB C (gW Γ es))
 |[],X,a,g,h,pos=>ka
 |[e],X,a,g,h,pos=>by
  cases a with
  |nil=>simp[aQ]at h
  |cons b a =>
   cases a with
   |nil=>simp only[aQ,cb]at h;exact Bj (bw e X b g h.1.2)
   |cons _ _=>simp[aQ]at h
 |e::c::es,X,a,g,h,pos=>by
  cases a with
  |nil=>simp[aQ]at h
  |cons b a =>
   have h':noStar b=b8/\bf ck e X.N X.env.scope b=b8/\aQ ck (c::es) X.N X.env.scope a=b8:=by
    rw[aQ]at h;simp only[cb]at h;exact⟨h.1.1,h.1.2,h.2⟩
   cases a with
   |nil=>have:=h'.2.2;simp[aQ]at this
   |cons f i=>exact snd_and (bw e X b g h'.2.1) (wZ (c::es) X _ g h'.2.2)
theorem kb:∀(e:E) (X:Cx) (j:rr),Gd ck Γ C d X->bf ck e X.N X.env.scope j=b8->PT X j (HE C (GN Γ e))
 |.and es,X,j,g,h=>by
  obtain⟨Gu,s,rfl,l⟩:=iI h;clear h;have h:=l;exact(so es X _ g h).pt
 |.or es,X,j,g,h=>by
  obtain⟨Gu,s,rfl,l⟩:=iI h;clear h;have h:=l;exact(w9 es X _ g h).pt
 |.not a,X,j,g,h=>by
  obtain⟨G,s,rfl,l⟩:=lV h;clear h;have h:=l;exact zi (kb a X _ g h)
 |.cmp op a b,X,j,g,h=>by
  obtain⟨G,J7,H,s,rfl,k⟩:=gz h;have h:=k;simp only[cb,Zp,va]at h;obtain⟨⟨⟨rfl,I⟩,v⟩,z⟩:=h;exact zf g.P g.w g.K g.u (bw a X _ g v) (bw b X _ g z) I
 |.J0 o1 o2 a b c,X,j,g,h=>absurd (show cc=b8 from h) mu
 |.var i,X,j,g,h=>by
  obtain⟨x,s,rfl,l⟩:=aj h;simp only[cb,Zp]at l;obtain⟨A,B⟩:=av l.2;exact gZ (nA l.1.1 (bR l.1.2) A B) g.K λ_=>rfl
 |.idx a b,X,j,g,h=>br
 |.bi f es,X,j,g,h=>by
  obtain⟨f',as,s,rfl,k⟩:=aN h;obtain⟨x,J,rfl,o⟩:=aj k;have h:=o;refine PT.eqv (gZ (ED g (ib es X _ g (dH h)) h) g.K λ_=>rfl) λst Q w=>AM w
 |.K7 f es,X,j,g,h=>br
 |.K8 m a es,X,j,g,h=>br
 |.call f es,X,j,g,h=>by
  obtain⟨f',as,s,rfl,k⟩:=aN h;obtain⟨x,J,rfl,o⟩:=aj k;have h:=o;refine PT.eqv (gZ (wY g (ib es X _ g (dH h)) h) g.K λ_=>rfl) λst Q w=>AM w
 |.cst u,X,j,g,h=>br
 |.fst es,X,j,g,h=>br
 |.Ox x u,X,j,g,h=>br
 |.neg a,X,j,g,h=>br
 |.IZ a T,X,j,g,h=>by
  obtain⟨f',as,s,rfl,k⟩:=aN h;obtain⟨x,J,rfl,o⟩:=aj k;clear h k;obtain⟨G,H,rfl,z4⟩:=cv o;obtain⟨y,p2,rfl,z3⟩:=aj z4;have h:=z3;simp only[cb,Zp]at h;obtain⟨⟨⟨⟨⟨rfl,rfl⟩,v⟩,z⟩,A⟩,B⟩:=h;refine PT.eqv (gZ (rV g.K (bL v) (g.blt _ fy) (bL z) (g.blt _ (wX T)) (bw a X _ g B) (aZ A)) g.K λ_=>rfl) λst Q w=>?_;have w:W (ev Γ a >>= λx=>M.GJ (ny x.2 T)) st Q:=w;simp only[ah]at w ⊢;refine W.mono w λx s1 L=>?_;obtain⟨b,e,O⟩:=bG.mp L;exact bG.mpr ⟨b,e,ao.mpr (bG.mpr ⟨b,rfl,O⟩)⟩
 |.bad,X,j,g,h=>br
 |.HD a D Y,X,j,g,h=>by
  obtain⟨as,p,q,rfl,k⟩:=dz h;obtain⟨G,H,rfl,o⟩:=cv k;clear h k;simp only[cb]at o;obtain⟨⟨⟨⟨⟨⟨⟨v,z⟩,A⟩,B⟩,h5⟩,h6⟩,h7⟩,h8⟩:=o;refine PT.eqv (gZ (AL g (bw a X _ g h8) v z A B h5 h6 h7) g.K λ_=>rfl) λst Q w=>?_;have w:W (ev Γ a >>= λx=>M.GJ (j5 Y x.2)) st Q:=w;have e:ev Γ (.HD a D Y)=(ev Γ a >>= λx=>M.GJ (j5 Y x.2) >>= λb=>pure (.loc,.bl b)):=rfl;rw[e];simp only[ah]at w ⊢;refine W.mono w λx s1 L=>?_;obtain⟨b,e,O⟩:=bG.mp L;exact bG.mpr ⟨b,e,ao.mpr (bG.mpr ⟨b,rfl,O⟩)⟩
 |.Kw ix i b,X,j,g,h=>br
 |.pop i,X,j,g,h=>br
 |.I0 i a,X,j,g,h=>br
 |.Gy f es is,X,j,g,h=>br
 |.inD neg a i,X,j,g,h=>by
  obtain⟨G,J7,H,s,rfl,k⟩:=gz h;obtain⟨x,J,rfl,o⟩:=aj k;have h:=o;simp only[cb,Zp,va]at h;obtain⟨⟨⟨⟨⟨rfl,I⟩,v⟩,z⟩,A⟩,B⟩:=h;obtain⟨q1,q2⟩:=av A;exact zD g.u v (bR z) q1 q2 (bw a X _ g B) I
 |.Mx i,X,j,g,h=>br
 |.LO ln a b,X,j,g,h=>br
 |.Oy i,X,j,g,h=>br
 |.IC i a b,X,j,g,h=>br
 |.bin op a b,X,j,g,h=>br
 |.ite c a b,X,j,g,h=>br
 |.tup es,X,j,g,h=>br
 |.lst es,X,j,g,h=>br
 |.IB r,X,j,g,h=>br
 |.Kv a lo hi,X,j,g,h=>br
 |.comp n t ik src cond e,X,j,g,h=>br
theorem so:∀(es:List E) (X:Cx) (a:List rr),Gd ck Γ C d X->aQ ck es X.N X.env.scope a=b8->∀{pos},PW X (.BoolOp .And a pos) (HE C (bq Γ es))
 |[],X,a,g,h,pos=>by
  cases a with
  |nil =>
   rintro k f s σ H Q I ⟨c,rfl,rfl,j,w⟩;rw[show bq Γ []=pure b8 from rfl,ao]at w;exact Zl ⟨c.H,I,w c rfl rfl j (Nx.refl c)⟩
  |cons _ _=>simp[aQ]at h
 |[e],X,a,g,h,pos=>by
  cases a with
  |nil=>simp[aQ]at h
  |cons b a =>
   cases a with
   |nil=>simp only[aQ,cb]at h;exact yx (kb e X b g h.1.2)
   |cons _ _=>simp[aQ]at h
 |e::i::es,X,a,g,h,pos=>by
  cases a with
  |nil=>simp[aQ]at h
  |cons b a =>
   have h':noStar b=b8/\bf ck e X.N X.env.scope b=b8/\aQ ck (i::es) X.N X.env.scope a=b8:=by
    rw[aQ]at h;simp only[cb]at h;exact⟨h.1.1,h.1.2,h.2⟩
   cases a with
   |nil=>have:=h'.2.2;simp[aQ]at this
   |cons l m=>exact zj (kb e X b g h'.2.1) (so (i::es) X _ g h'.2.2)
theorem w9:∀(es:List E) (X:Cx) (a:List rr),Gd ck Γ C d X->aQ ck es X.N X.env.scope a=b8->∀{pos},PW X (.BoolOp .Or a pos) (HE C (fq Γ es))
 |[],X,a,g,h,pos=>by
  cases a with
  |nil =>
   rintro k f s σ H Q I ⟨c,rfl,rfl,j,w⟩;rw[show fq Γ []=pure cc from rfl,ao]at w;exact isTrue_or_nil ⟨c.H,I,w c rfl rfl j (Nx.refl c)⟩
  |cons _ _=>simp[aQ]at h
 |[e],X,a,g,h,pos=>by
  cases a with
  |nil=>simp[aQ]at h
  |cons b a =>
   cases a with
   |nil=>simp only[aQ,cb]at h;exact Bg (kb e X b g h.1.2)
   |cons _ _=>simp[aQ]at h
 |e::i::es,X,a,g,h,pos=>by
  cases a with
  |nil=>simp[aQ]at h
  |cons b a =>
   have h':noStar b=b8/\bf ck e X.N X.env.scope b=b8/\aQ ck (i::es) X.N X.env.scope a=b8:=by
    rw[aQ]at h;simp only[cb]at h;exact⟨h.1.1,h.1.2,h.2⟩
   cases a with
   |nil=>have:=h'.2.2;simp[aQ]at this
   |cons l m=>exact Cm (kb e X b g h'.2.1) (w9 (i::es) X _ g h'.2.2)
end
theorem EI(g:Gd ck Γ C d X)(b:Rh e=b8)(h:bf ck e X.N X.env.scope f=b8):PE X f (uh C (ev Γ e)):=by
 cases e with
 |var i =>
  obtain⟨x,k,rfl,a⟩:=aj h;simp only[cb,Zp]at a;obtain⟨l,m⟩:=av a.2;exact wJ a.1.1 (bR a.1.2) l m
 |cst u =>
  obtain⟨c,n,k,rfl,a⟩:=gA h;cases c with
  |int j=>have:=cB a;subst this;exact ia uT λ_ _=>rfl
  |str y=>have:=cB a;subst this;exact ia pF λ_ _=>rfl
  |bool y=>have:=cB a;subst this;exact ia rb λ_ _=>rfl
  |none=>have:=cB a;subst this;exact ia uU λ_ _=>rfl
  |_=>cases a
 |_=>cases b
end
noncomputable def NQ(b:Ln)(x:Str)(a:Nat):rr->Bool
 |.ListComp elt gens s pos=>d6 (b.names.lookup x=a5 .local)&&(a==pos.line)&&!(s.names.any λ(n,k)=>n==x&&(k==.local||k==.cell))
 |_=>cc
noncomputable def i6(s:Lo)(k:rr->Bool):Bool:=match s with|.Expr e _=>k e|_=>cc
theorem cY(h:i6 s k=b8):∃e p,s=.Expr e p/\k e=b8:=by
 unfold i6 at h;split at h
 ·exact⟨_,_,rfl,h⟩
 ·cases h
noncomputable def i7(s:Lo)(k:rr->rr->Bool):Bool:=match s with|.Assign ts v _=>cC ts λt=>k t v|_=>cc
theorem cZ(h:i7 s k=b8):∃t v p,s=.Assign [t] v p/\k t v=b8:=by
 unfold i7 at h;split at h
 ·obtain⟨t,rfl,a⟩:=aF h;exact⟨_,_,_,rfl,h⟩
 ·cases h
noncomputable def w_(s:Lo)(k:rr->Bool):Bool:=match s with|.Raise (a5 e) b6 _=>k e|_=>cc
theorem qy(h:w_ s k=b8):∃e p,s=.Raise (a5 e) b6 p/\k e=b8:=by
 unfold w_ at h;split at h
 ·exact⟨_,_,rfl,h⟩
 ·cases h
noncomputable def sr(s:Lo)(k:Lo->ExceptHandler->Bool):Bool:=match s with|.Try b hs [] [] _=>cC b λb=>cC hs λh=>k b h|_=>cc
theorem kf(h:sr s k=b8):∃b a p,s=.Try [b] [a] [] [] p/\k b a=b8:=by
 unfold sr at h;split at h
 ·obtain⟨b,rfl,c⟩:=aF h;obtain⟨a,rfl,d⟩:=aF c;exact⟨_,_,_,rfl,d⟩
 ·cases h
noncomputable def su(s:ExceptHandler)(k:rr->Str->Lo->Bool):Bool:=match s with|.ExceptHandler (a5 t) (a5 n) b _=>cC b λb=>k t n b|_=>cc
theorem kg(h:su s k=b8):∃t n b p,s=.ExceptHandler (a5 t) (a5 n) [b] p/\k t n b=b8:=by
 unfold su at h;split at h
 ·obtain⟨b,rfl,a⟩:=aF h;exact⟨_,_,_,_,rfl,a⟩
 ·cases h
noncomputable def xb(s:Lo)(k:Str->rr->Bool):Bool:=i7 s λt v=>aT t λy=>k y v
theorem fN(h:xb s k=b8):∃y p v a,s=.Assign [.Name y p] v a/\k y v=b8:=by
 obtain⟨t,v,a,rfl,z⟩:=cZ h;obtain⟨y,p,rfl,z⟩:=aj z;exact⟨y,p,v,a,rfl,z⟩
noncomputable def CV(v:rr)(k n D:Str):Bool:=match v with|.Tuple l _ _=>j8 l λa b=>(match a with|.Constant (.str c) _ _=>d6 (c=k)|_=>cc)&&um b "isinstance" λas=>j8 as λx y=>isNm x n&&isNm y D|_=>cc
theorem uo(h:CV v k n D=b8):∃q j e f g i l m,v=.Tuple [.Constant (.str k) q j,.Call (.Name "isinstance" e) [.Name n f,.Name D g] [] i] l m:=by
 unfold CV at h;split at h
 ·obtain⟨a,b,rfl,c⟩:=cv h;rw[cb]at c;obtain⟨c,o⟩:=c;obtain⟨as,e,i,rfl,p⟩:=dz o;obtain⟨x,y,rfl,d⟩:=cv p;rw[cb]at d;obtain⟨f,rfl⟩:=cX d.1;obtain⟨g,rfl⟩:=cX d.2;split at c
  ·rw[Zu c];exact⟨_,_,_,_,_,_,_,_,rfl⟩
  ·cases c
 ·cases h
noncomputable def CW(e:rr)(k:Str->Pos->Bool):Bool:=match e with|.Name x p=>k x p|_=>cc
theorem uq(h:CW e k=b8):∃x p,e=.Name x p/\k x p=b8:=by
 unfold CW at h;split at h
 ·exact⟨_,_,rfl,h⟩
 ·cases h
noncomputable def xf(s:Lo)(k:rr->XX->rr->Bool):Bool:=match s with|.AugAssign t a b _=>k t a b|_=>cc
theorem qz(h:xf s k=b8):∃t a b p,s=.AugAssign t a b p/\k t a b=b8:=by
 unfold xf at h;split at h
 ·exact⟨_,_,_,_,rfl,h⟩
 ·cases h
noncomputable def sv(s:Lo)(k:Option rr->Bool):Bool:=match s with|.Return v _=>k v|_=>cc
theorem kh(h:sv s k=b8):∃v p,s=.Return v p/\k v=b8:=by
 unfold sv at h;split at h
 ·exact⟨_,_,rfl,h⟩
 ·cases h
noncomputable def EJ(v:Option rr)(k:rr->Bool):Bool:=match v with|some e=>k e|none=>cc
theorem ur(h:EJ v k=b8):∃e,v=a5 e/\k e=b8:=by
 cases v with
 |none=>cases h
 |some e=>exact⟨e,rfl,h⟩
noncomputable def xg(s:Lo)(k:rr->List Lo->List Lo->Bool):Bool:=match s with|.If c a b _=>k c a b|_=>cc
theorem qA(h:xg s k=b8):∃c a b p,s=.If c a b p/\k c a b=b8:=by
 unfold xg at h;split at h
 ·exact⟨_,_,_,_,rfl,h⟩
 ·cases h
noncomputable def xh(s:Lo)(k:rr->rr->List Lo->Bool):Bool:=match s with|.For t i b o _=>o.isEmpty&&k t i b|_=>cc
theorem qB(h:xh s k=b8):∃t i b p,s=.For t i b [] p/\k t i b=b8:=by
 unfold xh at h;split at h
 ·rw[cb,HM]at h;obtain⟨rfl,h⟩:=h;exact⟨_,_,_,_,rfl,h⟩
 ·cases h
noncomputable def CY(s:Lo)(k:rr->List Lo->Bool):Bool:=match s with|.While c b o _=>o.isEmpty&&k c b|_=>cc
theorem uu(h:CY s k=b8):∃c b p,s=.While c b [] p/\k c b=b8:=by
 unfold CY at h;split at h
 ·rw[cb,HM]at h;obtain⟨rfl,h⟩:=h;exact⟨_,_,_,rfl,h⟩
 ·cases h
noncomputable def SS(k:Ck)(f c D:Str)(a:Ln):Bool:=d6 (f∈k.fns)&&Hx a f&&aS f&&d6 ((c,D)∈k.xd)&&Hx a c&&aS c&&Hx a D&&aS D&&Hx a "isinstance"
noncomputable def NR(k:Ck)(f:Str)(es:List E)(N:List Str)(a:Ln)(v:rr):Bool:=um v f λas=>d6 (f∈k.fns)&&Hx a f&&aS f&&!as.isEmpty&&aQ k es N a as
noncomputable def V4(k:Ck)(c:List E)(f:Str)(es:List E)(g:Str)(b:List E)(N:List Str)(a:Ln)(v:rr):Bool:=match c with
 |[]=>NR k f es N a v
 |[c]=>zN v λd e h=>bf k c N a d&&NR k f es N a e&&NR k g b N a h
 |_=>cc
mutual
noncomputable def uw(k:Ck):S->List Str->Ln->Lo->Bool
 |.set i e,N,d,s=>i7 s λt v=>CW t λx p=>d6 (N[i]?=a5 x)&&jk d x&&d6 (d.kind=.function)&&bf k e N d v&&(cN v||NQ d x p.line v||(match v with|.ListComp _ _ _ _=>b8|_=>cc))&&(match e with|.comp _ _ _ _ _ _=>b8|_=>cN v)
 |.Kx is e,N,d,s=>i7 s λt v=>si t λ_=>ME b8 N d b8 is t&&cN v&&CN v&&bf k e N d v
 |.put i a b,N,d,s=>i7 s λt u=>i5 t λo l=>aT o λx=>d6 (N[i]?=a5 x)&&fu d x&&aS x&&cN u&&dR l&&bf k a N d l&&bf k b N d u
 |.app i e,N,d,s=>i6 s λc=>dG c λo m h as w=>aT o λx=>cC as λa=>d6 (m="append")&&d6 (N[i]?=a5 x)&&fu d x&&aS x&&(h.endLine==w.line)&&noStar a&&bf k e N d a
 |.ext i e,N,d,s=>i6 s λc=>dG c λo m h as w=>aT o λx=>cC as λa=>d6 (m="extend")&&d6 (N[i]?=a5 x)&&fu d x&&aS x&&(h.endLine==w.line)&&noStar a&&bf k e N d a
 |.bad,_,_,_=>b8
 |.newD i,N,d,s=>i7 s λt v=>aT t λx=>zO v&&d6 (N[i]?=a5 x)&&jk d x
 |.putD i a b,N,d,s=>i7 s λt u=>i5 t λo l=>aT o λx=>d6 (N[i]?=a5 x)&&fu d x&&aS x&&cN u&&dR l&&bf k a N d l&&bf k b N d u
 |.I_ i a e,N,d,s=>i6 s λc=>dG c λo m h as w=>i5 o λL l=>aT L λx=>cC as λb=>d6 (m="append")&&d6 (N[i]?=a5 x)&&fu d x&&aS x&&dR l&&(h.endLine==w.line)&&noStar b&&bf k a N d l&&bf k e N d b&&Rh e
 |.aug sub i a e,N,d,s=>xf s λt O b=>i5 t λo l=>aT o λx=>d6 (O=if sub=b8 then .Sub else .Add)&&d6 (N[i]?=a5 x)&&fu d x&&aS x&&dR l&&bf k a N d l&&bf k e N d b&&Rh e
 |.Oz _,_,_,_=>cc
 |.exp e,N,d,s=>i6 s λA=>cN A&&bf k e N d A
 |.ret e,N,d,s=>sv s λv=>EJ v λA=>bf k e N d A
 |.Jz,N,d,s=>sv s λv=>v.isNone
 |.ite c a b,N,d,s=>xg s λB l u=>bf k c N d B&&dI k a N d l&&dI k b N d u
 |.G1 t is ik src body,N,d,s=>xh s λJ q C=>ME t N d b8 is J&&qq q&&(match fw d J ik q with
    |some as=>aQ k src N d as
    |none=>cc)&&dI k body N d C
 |.K9 c body,N,d,s=>CY s λB C=>bf k c N d B&&dI k body N d C
 |.brk,_,_,_=>cc
 |.cnt,_,_,_=>cc
 |.My i,N,d,s=>i6 s λe=>dG e λo m h as w=>aT o λx=>as.isEmpty&&d6 (m="clear")&&d6 (N[i]?=a5 x)&&fu d x&&aS x&&(h.endLine==w.line)
 |.JK _,_,_,_=>cc
 |.JL f es,N,d,s=>i6 s λv=>NR k f es N d v
 |.Kg i c f es g Q x T j m,N,d,s=>sr s λb G=>su G λt n H=>xb b λy v=>xb H λz I=>(isNm t x&&isNm I n&&cN v&&V4 k c f es g Q N d v)&&(T.all λcl=>d6 ((cl,x)∈k.xe))&&(d6 (k.xe.any λp=>d6 (p.2=x))&&Hx d x&&aS x)&&(d6 (N[i]?=a5 y)&&jk d y&&d6 (N[j]?=a5 n)&&d6 (d.names.lookup n=a5 .local)&&aS n&&d6 (N[m]?=a5 z)&&jk d z)
 |.Ky c e,N,d,s=>w_ s λr=>um r c λas=>cC as λa=>d6 (c∈k.xc)&&Hx d c&&aS c&&noStar a&&bf k e N d a
 |.tr i f es c D j Y,N,d,s=>sr s λb G=>su G λt n H=>xb b λy v=>xb H λy' I=>(isNm t c&&d6 (y'=y)&&CV I Y n D&&um v f λas=>!as.isEmpty&&aQ k es N d as)&&SS k f c D d&&(d6 (N[i]?=a5 y)&&jk d y&&d6 (N[j]?=a5 n)&&d6 (d.names.lookup n=a5 .local)&&aS n)
 |.OA,_,_,_=>cc
noncomputable def dI(k:Ck):List S->List Str->Ln->List Lo->Bool
 |[],_,_,a=>a.isEmpty
 |s::ss,N,b,a=>match a with
  |s'::a=>uw k s N b s'&&dI k ss N b a
  |[]=>cc
end
section
variable{ck:Ck}{Γ:Tab}{C:Ct}{d:Nat}{X:Cx}
theorem iK(h:jk a x=b8):Loc a x:=by
 unfold jk at h;simp only[KQ,Zp]at h;exact h
theorem eF(h:cN v=b8):Ny v t a env=pure cc:=by
 cases v<;>first|rfl|cases h
theorem nK(h:cN v=b8):Pp [t] v a env=pure cc:=by
 rw[Pp];exact eF h
theorem zU(h:dR i=b8):∀a b new,Za i a b new=(do LG [new,a,b] (Rp a b new);Tt [new,a,b] [];pure .next):=by
 intro a b new;cases i<;>first|rfl|cases h
theorem sy(h:dR i=b8):∀v,QB (.Subscript o i p) env v=(do
   let a <-LG [v] (GV o env)
   let b <-LG [v,a] (GV i env)
   V2 p
   LG [v,a,b] (Rp a b v)
   Tt [v,a,b] []):=by
 intro v;cases i<;>first|rfl|cases h
structure Gs(ck:Ck)(Γ:Tab)(C:Ct)(d:Nat)(X:Cx):Prop where
 gd:Gd ck Γ C d X
 nd:X.N.Nodup
 fn:∀x,X.fn x=b8
 po:U2 (gs X.prog X.w) X.A X.env X.xe
 kd:X.env.scope.kind=.function
 xs:L6 ck X.K X.mg
 xl:∀c H',C.xw (.str c) H'->∀C' T H pins σ s e s',PySem.W.nsIn X.K l0 c=a5 (a5 (.ref C'))->Inv X pins σ H s->bA X.prog X.w X.stack H s e C' T .none H' s'->X.xe (.ref e) s'
 sk:X.stack=X.env::X.outer/\X.env.frame=a5 X.env.locals
 ex:X.ex=[]
theorem sA(g:Gd ck Γ C d X)(h:(match fw X.env.scope i ik b with|some as=>aQ ck src X.N X.env.scope as|none=>cc)=b8):PI X i b (KC C ik (bc Γ src)):=by
 split at h
 ·rename_i as c;exact AK g c (ib src X _ g h) (λa e=>by
   subst e;cases src with
   |nil=>simp[aQ]at h
   |cons f j =>
    cases j with
    |nil =>
     simp only[aQ,cb]at h;exact⟨f,rfl,bw f X _ g h.1.2⟩
    |cons _ _=>simp[aQ]at h) (bY h)
 ·cases h
theorem kl{pos p a:Pos}(hk:X.env.scope.kind=.function):Ny (.ListComp elt gens s pos) (a5 (.Name x p)) a.line X.env=pure (NQ X.env.scope x p.line (.ListComp elt gens s pos)):=by
 have b:X.env.blockKind=.function:=by
  unfold Env.blockKind;rw[hk];rfl
 show(pure (X.env.blockKind==.function&&X.env.kindOf x==a5 .local&&p.line==pos.line&&!(s.names.any λ(n,k)=>n==x&&(k==.local||k==.cell))):Sem Bool)=_;rw[b];unfold NQ;congr 1
 have:(X.env.kindOf x==a5 NameKind.local)=d6 (X.env.scope.names.lookup x=a5 .local):=by
  unfold Env.kindOf;rw[L5];simp
 rw[this];rfl
theorem CZ{src cond:List E}(G:Gs ck Γ C d X)(m:X.N[i]?=a5 x)(A:jk X.env.scope x=b8)
  (h:bf ck (.comp n t ik src cond e) X.N X.env.scope (.ListComp elt [⟨o,a,b,0⟩] scope pos)=b8) (ns:Nat->Bool) (q:∀j,ns j=b8->j≠i) :
  L2.PS X (.Assign [.Name x p] (.ListComp elt [⟨o,a,b,0⟩] scope pos) Jt) (G7 C ns (ev Γ (.comp n t ik src cond e) >>= λr=>dr i r >>= λ_=>pure .nx)):=by
 have g:=G.gd;have u:=bw (.comp n t ik src cond e) X _ g h;cases k:NQ X.env.scope x p.line (.ListComp elt [⟨o,a,b,0⟩] scope pos) with
 |false=>exact AI q G.nd m (iK A) (.inl (G.fn x)) u (by rw[kl G.kd,k])
 |true =>
  have hl:X.env.scope.names.lookup x=a5 .local:=by
   simp only[NQ,cb,Zp]at k;exact k.1.1
  obtain⟨V5,WU,SU,V6,Ri,p',B,v⟩:=iJ h;cases B;clear h u;simp only[cb,Zp]at v;obtain⟨⟨⟨⟨⟨⟨⟨J,L⟩,O⟩,T⟩,Y⟩,h6⟩,c⟩,h8⟩:=v;subst J;have S:=vE (X:=X) rfl (lZ _ _) L;exact CF q S g.calm G.nd m hl (sA g Y) (λD s H ex=>sj (fa:=cc) g.calm g.K S.nd (λz=>nomatch z) O)
   (λD s H ex=>by
    cases b with
    |nil =>
     cases cond with
     |nil=>exact λf s σ H Q I ⟨y,l,e2,ok,w⟩=>rp f s σ H Q I (by subst l e2;rw[show bq Γ []=pure b8 from rfl,ao]at w;exact w y rfl rfl ok (Nx.refl y))
     |cons _ _=>simp[aQ]at c
    |cons c1 cs =>
     cases cs with
     |nil =>
      cases cond with
      |nil=>simp[aQ]at c
      |cons l G4 =>
       cases G4 with
       |nil =>
        simp only[aQ,cb]at c;exact rq (kb l (Ht X _ scope D s H ex) c1 (g.cx _ _ _ _ _ _) c.1.2)
       |cons _ _=>simp[aQ]at c
     |cons _ _=>simp at h6)
   (λD s H ex=>bw e (Ht X _ scope D s H ex) elt (g.cx _ _ _ _ _ _) h8) (by rw[kl G.kd,k]) (qx T)
theorem sC(G:Gs ck Γ C d X)(h:NR ck f es X.N X.env.scope v=b8):PR X C v (bc Γ es >>= λrs=>aB rs >>= λ_=>cy Γ f (rs.map (·.2)))/\cN v=b8:=by
 obtain⟨as,p2,g,rfl,z⟩:=dz h;simp only[cb,Zp,va]at z;obtain⟨⟨⟨⟨i,j⟩,k⟩,l⟩,a⟩:=z;have b:=bY a;obtain⟨u,fa,x,y,m,n,o,p,q,r⟩:=(G.gd.fns _ i).ex;cases as with
 |nil=>cases l
 |cons s c =>
  have st:=aZ (env:=X.env) (es:=c) (b s (by simp));have sn:=(a_ (pos:=g) (env:=X.env) (es:=c) λe t=>b e (by simp[t])).1;exact⟨CL G.gd.P G.gd.w G.gd.K rfl q r m G.gd.room (bL j) n o p (av k).1 (ib es X.Ic _ (Gd.Ic G.gd) a) st sn,rfl⟩
theorem zV(G:Gs ck Γ C d X)(h:uw ck (.JL f es) X.N X.env.scope s'=b8):L2.PS X s' (G7 C (Jb (.JL f es)) (exec Γ (.JL f es))):=by
 obtain⟨v,p,rfl,z⟩:=cY h;obtain⟨a,b⟩:=sC G z;exact Ez a (eF b) G.xl
theorem zW(G:Gs ck Γ C d X)(h:uw ck (.Kg i c f es g k x e j m) X.N X.env.scope s'=b8):L2.PS X s' (G7 C (Jb (.Kg i c f es g k x e j m)) (exec Γ (.Kg i c f es g k x e j m))):=by
 obtain⟨b,hd,p,rfl,q⟩:=kf h;obtain⟨t0,n,r,QZ,rfl,s⟩:=kg q;obtain⟨y,p1,v,p4,rfl,t⟩:=fN s;obtain⟨z,p6,v2,NG,rfl,u⟩:=fN t;clear h q s t;simp only[cb,Zp]at u;obtain⟨⟨⟨⟨⟨⟨B,D⟩,H⟩,a⟩,I⟩,⟨⟨r,J⟩,L⟩⟩,⟨⟨⟨⟨⟨⟨O,Q⟩,T⟩,Y⟩,A⟩,d7⟩,d8⟩⟩:=u;obtain⟨p5,rfl⟩:=cX B;obtain⟨p9,rfl⟩:=cX D;obtain⟨q0,V7,e0⟩:=QK.mp r;obtain⟨Dc,r1,r2⟩:=G.xs.xe x ⟨q0,V7,Zu e0⟩;have l:∃o,PR X C v o/\exec Γ (.Kg i c f es g k x e j m)=o >>= jj e i j m:=by
  match c,a with
  |[],a=>exact⟨_,(sC G a).1,rfl⟩
  |[c],a =>
   obtain⟨c',a',b',p3,rfl,w⟩:=lW a;simp only[cb]at w;exact⟨_,Ey (kb c X.Ic _ (Gd.Ic G.gd) w.1.1) (sC G w.1.2).1 (sC G w.2).1,rfl⟩
  |_::_::_,a=>cases a
 obtain⟨o,l,e1⟩:=l;rw[e1];exact EA (λm hm=>by simpa[Jb,and_assoc] using hm) G.nd O (iK Q) (G.fn _) T Y d7 (iK d8) (G.fn _) G.gd.K l (eF H) G.sk G.ex (bL J) r1 (av L).1 (λcl Kt Cc hn=>r2 cl (Zu (mx.mp I cl Kt)) Cc hn) (av A).1 (av A).2
theorem zX(G:Gs ck Γ C d X)(h:uw ck (.Ky c e) X.N X.env.scope s'=b8):L2.PS X s' (G7 C (Jb (.Ky c e)) (exec Γ (.Ky c e))):=by
 obtain⟨r,u,rfl,g⟩:=qy h;obtain⟨as,v,p2,rfl,i⟩:=dz g;obtain⟨a,rfl,f⟩:=aF i;simp only[cb,Zp]at f;obtain⟨⟨⟨⟨j,k⟩,l⟩,m⟩,n⟩:=f;obtain⟨o,p,q,t⟩:=G.xs.xc _ j;exact Ep G.gd.calm (bL k) p (av l).1 t (bw e X a G.gd n) (aZ (es:=[]) m) λH' w b σ s e s' I F=>G.xl _ H' w o b6 H' b σ s e s' q I F
theorem C2(G:Gs ck Γ C d X)(h:uw ck (.tr i f es c D j a) X.N X.env.scope s'=b8):L2.PS X s' (G7 C (Jb (.tr i f es c D j a)) (exec Γ (.tr i f es c D j a))):=by
 obtain⟨b,hd,p,rfl,g⟩:=kf h;obtain⟨t0,n,k,QZ,rfl,l⟩:=kg g;obtain⟨y,p1,v,p4,rfl,o⟩:=fN l;obtain⟨y',p6,v2,NG,rfl,r⟩:=fN o;clear h g l o;simp only[cb,Zp,SS]at r;obtain⟨⟨⟨⟨⟨s,rfl⟩,t⟩,u⟩,⟨⟨⟨⟨⟨⟨⟨⟨I,J⟩,L⟩,O⟩,k⟩,Q⟩,T⟩,Y⟩,d1⟩⟩,⟨⟨⟨⟨d2,d3⟩,d4⟩,d5⟩,x⟩⟩:=r;obtain⟨p5,rfl⟩:=cX s;obtain⟨q,p7,p8,p9,NF,MC,kx,OK,rfl⟩:=uo t;obtain⟨as,p2,p3,rfl,z⟩:=dz u;rw[cb,va]at z;obtain⟨a4,A⟩:=z;clear s t u;have B:=bY A;obtain⟨np,fa,fd,ps,q1,q2,q3,q4,q5,q6⟩:=(G.gd.fns _ I).ex;obtain⟨Cc,Cd,r1,r2,r3,r4,r5⟩:=G.xs.xd _ O;have gn:Gd ck Γ C d X.Ic:=Gd.Ic G.gd;cases as with
 |nil=>cases a4
 |cons e0 H =>
  have st:=aZ (env:=X.env) (es:=H) (B e0 (by simp));have sn:=(a_ (pos:=p3) (env:=X.env) (es:=H) λe he=>B e (by simp[he])).1;exact Er (λm hm=>by simpa[Jb] using hm) G.nd d2 (iK d3) (G.fn _) d4 d5 G.gd.P G.gd.w G.gd.K rfl q5 q6 q1 G.gd.room (bL J) q2 q3 q4 (av L).1 (ib es X.Ic _ gn A) st sn G.sk (bL k) r1 r2 (av Q).1 r4 (bL T) r3 (av Y).1 r5 (bL d1) (G.gd.blt _ fy) (av x).1 (av x).2
mutual
theorem Gj:∀(s:S) (X:Cx) (s':Lo),Gs ck Γ C d X->uw ck s X.N X.env.scope s'=b8->L2.PS X s' (G7 C (Jb s) (exec Γ s))
 |.set i e,X,s',G,h=>by
  obtain⟨t,v,p1,rfl,k⟩:=cZ h;obtain⟨x,p,rfl,l⟩:=uq k;clear h k;have h:=l;simp only[cb,Zp]at h;obtain⟨⟨⟨⟨⟨r,y⟩,A⟩,q⟩,J⟩,L⟩:=h;have Hb:∀j,Jb (.set i e) j=b8->j≠i:=λj O=>by simpa[Jb] using O
  by_cases hc:cN v=b8
  ·exact AI Hb G.nd r (iK y) (.inl (G.fn x)) (bw e X v G.gd q) (eF hc)
  ·cases e with
   |comp n t ik src cond e =>
    obtain⟨elt,tg,ac,al,scope,p3,rfl,_⟩:=iJ q;exact CZ G r y q _ Hb
   |_=>exact absurd L hc
 |.Kx is e,X,s',G,h=>by
  obtain⟨t,v,p1,rfl,k⟩:=cZ h;obtain⟨es,kk,p,rfl,l⟩:=j9 k;clear h k;have h:=l;simp only[cb]at h;obtain⟨⟨⟨r,y⟩,A⟩,q⟩:=h;refine CG (λj O=>by simpa[Jb] using O) (bw e X v G.gd q) (sj (fa:=b8) G.gd.calm G.gd.K G.nd (λ_=>G.fn) r) (nK y) ?_ rfl;cases v<;>first|rfl|cases A
 |.put i a b,X,s',G,h=>by
  obtain⟨t,v,p,rfl,k⟩:=cZ h;obtain⟨o,a',p1,rfl,l⟩:=cW k;obtain⟨x,px,rfl,Y⟩:=aj l;simp only[cb,Zp]at Y;obtain⟨⟨⟨⟨⟨⟨r,y⟩,A⟩,q⟩,J⟩,L⟩,h7⟩:=Y;obtain⟨Q,T⟩:=av A;exact Eo G.gd.P G.gd.w G.gd.K G.gd.u r (bR y) Q T (bw b X _ G.gd h7) (bw a X _ G.gd L) (nK q) rfl (sy J)
 |.app i e,X,s',G,h=>by
  obtain⟨c,p0,rfl,k⟩:=cY h;obtain⟨o,m,ab,as,B',rfl,l⟩:=bj k;obtain⟨x,px,rfl,Y⟩:=aj l;obtain⟨a,rfl,z4⟩:=aF Y;simp only[cb,Zp]at z4;obtain⟨⟨⟨⟨⟨⟨rfl,r⟩,y⟩,A⟩,q⟩,J⟩,L⟩:=z4;obtain⟨Q,T⟩:=av A;have st:=aZ (env:=X.env) (es:=[]) J;have sa:=(a_ (pos:=B') (env:=X.env) (es:=[a]) λe he=>by simp at he;subst he;exact J).2;refine Em G.gd.K r (bR y) Q T (bw e X _ G.gd L) ?_ q st;rw[sa];rfl
 |.ext i e,X,s',G,h=>by
  obtain⟨c,p0,rfl,k⟩:=cY h;obtain⟨o,m,ab,as,B',rfl,l⟩:=bj k;obtain⟨x,px,rfl,Y⟩:=aj l;obtain⟨a,rfl,z4⟩:=aF Y;simp only[cb,Zp]at z4;obtain⟨⟨⟨⟨⟨⟨rfl,r⟩,y⟩,A⟩,q⟩,J⟩,L⟩:=z4;obtain⟨Q,T⟩:=av A;have st:=aZ (env:=X.env) (es:=[]) J;have sa:=(a_ (pos:=B') (env:=X.env) (es:=[a]) λe he=>by simp at he;subst he;exact J).2;refine En G.gd.K r (bR y) Q T (bw e X _ G.gd L) ?_ q st;rw[sa];rfl
 |.bad,X,s',G,h=>λag sh σ H D I ⟨_,_,_,_,w⟩=>(bb.mp w).elim
 |.newD i,X,s',G,h=>by
  obtain⟨t,v,p1,rfl,k⟩:=cZ h;obtain⟨x,p,rfl,l⟩:=aj k;clear h k;have h:=l;simp only[cb,Zp]at h;obtain⟨p2,rfl⟩:=lX h.1.1;exact CI (λj O=>by simpa[Jb] using O) G.nd h.1.2 (iK h.2) (.inl (G.fn _)) (eF rfl)
 |.putD i a b,X,s',G,h=>by
  obtain⟨t,v,p,rfl,k⟩:=cZ h;obtain⟨o,a',p1,rfl,l⟩:=cW k;obtain⟨x,px,rfl,Y⟩:=aj l;simp only[cb,Zp]at Y;obtain⟨⟨⟨⟨⟨⟨r,y⟩,A⟩,q⟩,J⟩,L⟩,h7⟩:=Y;obtain⟨Q,T⟩:=av A;exact CJ G.gd.u r (bR y) Q T (bw b X _ G.gd h7) (bw a X _ G.gd L) (nK q) rfl (sy J)
 |.I_ i a e,X,s',G,h=>by
  obtain⟨c,p0,rfl,k⟩:=cY h;obtain⟨o,m,ab,as,B',rfl,l⟩:=bj k;obtain⟨o',a',p1,rfl,Y⟩:=cW l;obtain⟨x,px,rfl,z4⟩:=aj Y;obtain⟨b,rfl,z5⟩:=aF z4;simp only[cb,Zp]at z5;obtain⟨⟨⟨⟨⟨⟨⟨⟨⟨rfl,r⟩,y⟩,A⟩,q⟩,J⟩,L⟩,h7⟩,h8⟩,h9⟩:=z5;have ha:=EI (C:=C) (Γ:=Γ) (d:=d) (ck:=ck) G.gd h9 h8;obtain⟨Q,T⟩:=av A;have st:=aZ (env:=X.env) (es:=[]) L;have sa:=(a_ (pos:=B') (env:=X.env) (es:=[b]) λe he=>by simp at he;subst he;exact L).2;refine CK G.gd.K G.gd.u r (bR y) Q T ha (bw a X _ G.gd h7) (oV q) ?_ J st;rw[sa];rfl
 |.aug sub i a e,X,s',G,h=>by
  obtain⟨t,op,b,p,rfl,B⟩:=qz h;clear h;have h:=B;obtain⟨o,a',p1,rfl,k⟩:=cW h;obtain⟨x,px,rfl,l⟩:=aj k;simp only[cb,Zp]at l;obtain⟨⟨⟨⟨⟨⟨⟨rfl,r⟩,y⟩,A⟩,q⟩,J⟩,L⟩,h7⟩:=l;have ha:=EI (C:=C) (Γ:=Γ) (d:=d) (ck:=ck) G.gd h7 L;obtain⟨Q,T⟩:=av A;exact Et r (bR y) Q T ha (bw a X _ G.gd J) (zU q)
 |.Oz i,X,s',G,h=>absurd (show cc=b8 from h) mu
 |.exp e,X,s',G,h=>by
  obtain⟨e',p,rfl,B⟩:=cY h;clear h;have h:=B;simp only[cb]at h;exact Eh (bw e X _ G.gd h.2) (eF h.1)
 |.ret e,X,s',G,h=>by
  obtain⟨v,p,rfl,B⟩:=kh h;obtain⟨e',rfl,k⟩:=ur B;clear h B;have h:=k;exact Ei (bw e X _ G.gd h)
 |.Jz,X,s',G,h=>by
  obtain⟨v,p,rfl,B⟩:=kh h;cases v with
  |none=>exact CD
  |some _=>cases B
 |.ite c a b,X,s',G,h=>by
  obtain⟨c',a',b',p,rfl,B⟩:=qA h;clear h;have h:=B;simp only[cb]at h;have ha:=km a X _ G h.1.2;have hb:=km b X _ G h.2;exact Ej (kb c X _ G.gd h.1.1) (Hy.weak ha λD σ H z=>nH (λj O=>by simp only[Jb,cb]at O;exact O.1) z) (Hy.weak hb λD σ H z=>nH (λj O=>by simp only[Jb,cb]at O;exact O.2) z)
 |.G1 t is ik src body,X,s',G,h=>by
  obtain⟨tg,ac,IF,p,rfl,B⟩:=qB h;clear h;have h:=B;rw[cb,cb,cb]at h;exact El G.po G.gd.calm (sA G.gd h.1.2) (sj (fa:=b8) G.gd.calm G.gd.K G.nd (λ_=>G.fn) h.1.1.1) (km body X _ G h.2) (qx h.1.1.2) λj O=>by simpa[Jb] using O
 |.K9 c body,X,s',G,h=>by
  obtain⟨c',IF,p,rfl,B⟩:=uu h;clear h;have h:=B;simp only[cb]at h;exact Ek G.po (kb c X _ G.gd h.1) (km body X _ G h.2)
 |.brk,X,s',G,h=>absurd (show cc=b8 from h) mu
 |.cnt,X,s',G,h=>absurd (show cc=b8 from h) mu
 |.My i,X,s',G,h=>by
  obtain⟨e,p,rfl,B⟩:=cY h;obtain⟨o,m,ab,as,B',rfl,k⟩:=bj B;obtain⟨x,px,rfl,l⟩:=aj k;simp only[cb,Zp,HM]at l;obtain⟨⟨⟨⟨⟨rfl,rfl⟩,r⟩,y⟩,A⟩,q⟩:=l;obtain⟨Q,T⟩:=av A;exact Eu G.gd.K r (bR y) Q T q
 |.JK is,X,s',G,h=>absurd (show cc=b8 from h) mu
 |.JL f es,X,s',G,h=>zV G h
 |.Kg i c f es g HY x cs j m,X,s',G,h=>zW G h
 |.Ky c e,X,s',G,h=>zX G h
 |.tr i f es c D j kk,X,s',G,h=>C2 G h
 |.OA,X,s',G,h=>absurd (show cc=b8 from h) mu
theorem km:∀(ss:List S) (X:Cx) (a:List Lo),Gs ck Γ C d X->dI ck ss X.N X.env.scope a=b8->Hy X a (G7 C (Jc ss) (execs Γ ss))
 |[],X,a,G,h=>by
  cases a with
  |nil=>exact Eg
  |cons _ _=>simp[dI]at h
 |s::ss,X,a,G,h=>by
  cases a with
  |nil=>simp[dI]at h
  |cons s' a =>
   simp only[dI,cb]at h;have c:=Gj s X s' G h.1;have e:=km ss X a G h.2;exact CC (PS.weak c λD σ H z=>nH (λj b=>by simp only[Jc,cb]at b;exact b.1) z) (Hy.weak e λD σ H z=>nH (λj b=>by simp only[Jc,cb]at b;exact b.2) z)
end
end
section
variable{ck:Ck}{Γ:Tab}{d:Nat}{P:D3}{w:H_}{K:PySem.W.Frag}{mg:Str->Option et}{base:Ju}
theorem iL{n i:Nat}(h:(start us n)[i]?=a5 (a5 (k,u))):us[i]?=a5 u/\k=if G5 u=b8 then .loc else .any:=by
 unfold start at h;by_cases a:i<us.length
 ·rw[x3 (by simpa using a),mN]at h;rw[ve a]at h ⊢;simp only[S3,Rk,Uj]at h;obtain⟨b,c⟩:=h;subst c;exact⟨rfl,b.symm⟩
 ·rw[tj (by simp;lia),JO]at h;split at h<;>cases h
theorem c6{i:Nat}(h:vs[i]?=a5 v):(L2.start N vs)[i]?=a5 (a5 v):=by
 unfold L2.start;have a:i<vs.length:=(ez.mp h).1;rw[x3 (by simpa using a),mN,h];rfl
theorem xj(p:∀a,c a->HN H a)(h:aq ⟨P,w,K,H,c,λ_=>False,q⟩ c H us vs)(s:N.length=n):Ok ⟨P,w,K,H,c,λ_=>False,q⟩ ⟨λ_=>False,H,L2.start N vs,start us n,λ_=>[]⟩:=by
 have f:∀(j:Nat) (u:U),(start us n)[j]?≠a5 (a5 (.Gq,u)):=λj u e=>by
  have:=(iL e).2;split at this<;>cases this
 refine⟨λa o e _=>e,λa z=>z.elim,λa z=>⟨p a z,λz=>z⟩,λa z=>z.elim,?_,λi k u e=>?_,λi j k k' u u' r hk x g m y A=>?_,⟨λj u r e _=>(f j u e).elim,λi j a ⟨u,_,e,_⟩=>(f i u e).elim,λj a ⟨u,_,e,_⟩=>(f j u e).elim⟩⟩
 ·have:=h.len;simp[start,L2.start,s];lia
 ·obtain⟨g,m⟩:=iL e;obtain⟨v,ev,b⟩:=h.get g;refine⟨v,c6 ev,?_⟩;subst m;by_cases l:G5 u=b8
  ·rw[Zq l];exact Rep.G5 l b
  ·rw[Zr l];exact Rep.mv (.up λa z=>.inl z) b
 ·obtain⟨_,t⟩:=iL g;subst t;split at hk<;>cases hk
theorem nL(h:dt Γ fn us=a5 (.ok (k,u))):us.length=fn.np/\((k=.own\/k=.loc\/k=.any)/\(∃st',execs Γ fn.body (start us fn.ns)=a5 (.ok (.rt k u),st'))\/(k=.loc/\u=.Gv/\∃st',execs Γ fn.body (start us fn.ns)=a5 (.ok .nx,st'))):=by
 unfold dt at h;split at h
 ·rename_i hl;refine⟨hl,?_⟩;split at h
  ·rename_i e;cases h;exact .inl ⟨.inl rfl,_,e⟩
  ·rename_i e;cases h;exact .inl ⟨.inr (.inl rfl),_,e⟩
  ·rename_i e;cases h;exact .inl ⟨.inr (.inr rfl),_,e⟩
  ·rename_i e;cases h;exact .inr ⟨rfl,rfl,_,e⟩
  ·cases h
  ·cases h
 ·cases h
theorem oW(h:dt Γ fn us=a5 (.exc c)):us.length=fn.np/\∃st',execs Γ fn.body (start us fn.ns)=a5 (.ok (.rt .io (.str c)),st'):=by
 unfold dt at h;split at h
 ·rename_i hl;refine⟨hl,?_⟩;split at h
  ·cases h
  ·cases h
  ·cases h
  ·cases h
  ·rename_i e;cases h;exact⟨_,e⟩
  ·cases h
 ·cases h
theorem AN{st:Lo}(F:KU K fn.name i st f fd)(S:dQ N J (aK st))(hN:N.length=fn.ns)(HL:J.length=fn.np)
  (L8:dI ck fn.body N (aK st) (cH st)=b8) (t:∀x∈bK,mg x=b6) (y:∀g∈ck.fns,zP P w K mg base d (Γ g) g)
  (JE:∀p∈ck.gl,∃val v,mg p.1=a5 val/\RelV v val/\∀(C:Ct) S H,Rep C S H p.2 v) (Ij:∀p∈ck.Ij,zQ P w K mg base d (Γ p.1) p.1 p.2) (xs:L6 ck K mg):gJ P w K mg base (K2 P w) (d+1) f fd J (spT P w K (dt Γ fn) fn.np):=by
 obtain⟨oc,od,kV,ac,pm,an,L,ct,Mi,rfl,lk,GX⟩:=F.ex;refine AB lk GX S (λvs H Q E h=>h.1.trans HL.symm) λA outer s H vs Q E O h=>?_;obtain⟨hl,us,r,q,Y,V8,B,b⟩:=h;have Mz:=O.un;let l:Ct:=⟨P,w,K,H,q,λ_=>False,λu H'=>∃c,u=.str c/\∀j,PySem.W.nsIn K l0 c=a5 (a5 (.ref j))->E (.ref j) b6 H'⟩
 have D:(J2 P w K H q).Eqv l:=⟨rfl,rfl,rfl⟩
 have m:l.Eqv (J2 P w K H q):=⟨rfl,rfl,rfl⟩
 have G:Gs ck Γ l d (n9 (K2 P w) P w K mg base N i (aK st) f L A outer s H E) :=
  ⟨⟨rfl,rfl,rfl,by show(A.deeper (RF i (aK st) s.heap.objs.size f L)).units+60<KJ;lia,rfl,O,t,y,λp hp=>let ⟨val,v,D,m,q3⟩:=JE p hp;⟨val,v,D,m,q3 _⟩,Ij,xs⟩,S.nd,λ_=>rfl,PassesOwn.leaving,S.kind,xs,
   λc H' ⟨c',e1,hE⟩ j T H2 ab σ s2 e s' hm I F=>by
    cases e1;exact F.leave I.ok.frames rfl I.stack I.gF λT' IK F'=>⟨e,j,T',H',rfl,F'.down I rfl rfl rfl,hE j hm⟩,⟨rfl,rfl⟩,rfl⟩
 refine⟨_,km fn.body _ _ G L8,⟨λ_=>False,H,L2.start N vs,start us fn.ns,λ_=>[]⟩,rfl,rfl,xj V8 (B.cg D) hN,?_⟩;cases r with
 |exc c =>
  obtain⟨_,st',e⟩:=oW Y;exact⟨_,st',e,λcf ec ok n kp=>⟨c,rfl,λj hC=>b j cf.H hC λa o z=>ok.same a o z λz=>z⟩⟩
 |ok x =>
 obtain⟨k,u⟩:=x;obtain⟨hk,b⟩:=b;obtain⟨_,Rj⟩:=nL Y;have mk:∀(c:Cf),Ok l c->∀v,CB l c k u v->Back (J2 P w K H q) H c.H c.S k u v:=λc ok v r=>by
  refine⟨λa o e=>ok.same a o e λz=>z,λa z=>ok.Iu a z,λe=>?_,λe=>?_,λe=>?_⟩
  ·subst e;obtain⟨r0,e,h1,h2,h3,h4⟩:=r;exact⟨r0,e,h1,h2,h4.cg m⟩
  ·subst e;exact Rep.cg m r
  ·subst e;exact Rep.cg m r
 rcases Rj with⟨_,st',e⟩|⟨rfl,rfl,st',e⟩
 ·rcases hk with rfl|rfl|rfl<;>exact⟨_,st',e,λc ec ok n kp v r=>b v c.H c.S (mk c ok v r)⟩
 ·exact⟨_,st',e,λc ec ok n kp=>b .Gv c.H c.S (mk c ok .Gv rfl)⟩
theorem gB(h:(cM is us n)[i]?=a5 (a5 (k,u))):us[i]?=a5 u/\k=if i∈is then .io else if G5 u=b8 then .loc else .any:=by
 unfold cM at h;by_cases a:i<us.length
 ·rw[x3 (by simpa using a),mN,List.getElem?_zipIdx]at h;rw[ve a]at h ⊢;simp only[S3,Rk,Uj,Q0]at h;obtain⟨b,c⟩:=h;subst c;exact⟨rfl,b.symm⟩
 ·rw[tj (by simp;lia),JO]at h;split at h<;>cases h
theorem uA(a:CM C C.H₀ is us vs)(t:N.length=n):Ok C ⟨λ_=>False,C.H₀,L2.start N vs,cM is us n,λ_=>[]⟩:=by
 have h:∀(j:Nat) (u:U),(cM is us n)[j]?≠a5 (a5 (.Gq,u)):=λj u e=>by
  have:=(gB e).2;split at this
  ·cases this
  ·split at this<;>cases this
 have rt:∀(j:Nat) (k:Kd) (u:U),k.root=b8->(cM is us n)[j]?=a5 (a5 (k,u))->j∈is/\us[j]?=a5 u:=λj k u hk e=>by
  obtain⟨f,b⟩:=gB e;refine⟨?_,f⟩;by_cases z:j∈is
  ·exact z
  ·rw[Zr z]at b;subst b;split at hk<;>cases hk
 refine⟨λa o e _=>e,λa z=>z.elim,λx z=>a.par x z,λx z=>⟨a.SJ x z,a.SJ x z⟩,?_,λi k u e=>?_,λi j k k' u u' r hk y f b m p=>?_,⟨λj u r e _=>(h j u e).elim,λi j a ⟨u,_,e,_⟩=>(h i u e).elim,λj a ⟨u,_,e,_⟩=>(h j u e).elim⟩⟩
 ·have:=a.len;simp[cM,L2.start,t];lia
 ·obtain⟨f,b⟩:=gB e;by_cases z:i∈is
  ·rw[Zq z]at b;subst b;obtain⟨r,g,c,A⟩:=a.io i u z f;exact⟨_,c6 g,r,rfl,λz=>z,λz=>(a.par r z).2 c,c,A⟩
  ·rw[Zr z]at b;obtain⟨v,g,c⟩:=a.any i u z f;refine⟨v,c6 g,?_⟩;subst b;by_cases l:G5 u=b8
   ·rw[Zq l];exact Rep.G5 l c
   ·rw[Zr l];exact Rep.mv (.up λa z=>.inl z) c
 ·obtain⟨q,B⟩:=rt i k u hk f;obtain⟨s,D⟩:=rt j k' u' y b;obtain⟨G,g,_⟩:=a.io i u q B;obtain⟨H,c,_⟩:=a.io j u' s D;rw[c6 g]at m;rw[c6 c]at p;cases m;cases p;exact a.inj i j _ q s g c
theorem sD:∀{is:List Nat}{st:ax}{ws:List U},LR is st=a5 ws->ws.length=is.length/\∀(n i:Nat),is[n]?=a5 i->∃w,ws[n]?=a5 w/\st[i]?=a5 (a5 (.io,w))
 |[],_,_,h=>by cases h;exact⟨rfl,λn i e=>by simp at e⟩
 |i::is,st,ws,h=>by
  unfold LR at h;split at h
  ·rename_i u c;rw[i1]at h;obtain⟨k,h,rfl⟩:=h;obtain⟨a,b⟩:=sD h;refine⟨by simp[a],λn j e=>?_⟩;cases n with
   |zero=>simp at e;subst e;exact⟨u,rfl,c⟩
   |succ n=>obtain⟨w,f,g⟩:=b n j (by simpa using e);exact⟨w,by simpa using f,g⟩
  ·cases h
theorem sE(h:fT Γ fn is body us=a5 (.ok r)):us.length=fn.np/\∃f st k u ws,execs Γ body (cM is us fn.ns)=a5 (.ok f,st)/\OB f=a5 (k,u)/\LR is st=a5 ws/\r=(k,.tup (u::ws)):=by
 unfold fT at h;split at h
 ·rename_i hl;refine⟨hl,?_⟩;split at h
  ·rename_i f st e;obtain⟨⟨k,u⟩,a,h⟩:=vr.mp h;rw[i1]at h;obtain⟨ws,b,c⟩:=h;cases c;exact⟨f,st,k,u,ws,e,a,b,rfl⟩
  ·cases h
 ·cases h
theorem C3{st:Lo}(F:KU K fn.name b st f fd)(S:dQ N J (aK st))(hN:N.length=fn.ns)(HL:J.length=fn.np)(Hb:∀i∈is,Jc body i=b8)
  (L8:dI ck body N (aK st) (cH st)=b8) (y:∀x∈bK,mg x=b6) (B:∀g∈ck.fns,zP P w K mg base d (Γ g) g)
  (JE:∀p∈ck.gl,∃val v,mg p.1=a5 val/\RelV v val/\∀(C:Ct) S H,Rep C S H p.2 v) (Ij:∀p∈ck.Ij,zQ P w K mg base d (Γ p.1) p.1 p.2) (xs:L6 ck K mg):gJ P w K mg base Ly (d+1) f fd J (OO P w K (fT Γ fn is body) fn.np is):=by
 refine F.ok S (λvs H Q E h=>h.1.trans HL.symm) (λL A outer s H vs Q E O h=>?_);obtain⟨hl,us,k,u,ws,m,IO,HX,hk,D,j⟩:=h;have Mz:=O.un;have G:Gs ck Γ (J6 P w K H m IO) d (n9 Ly P w K mg base N b (aK st) f L A outer s H E).Ic :=
  ⟨⟨rfl,rfl,rfl,by show(A.deeper (RF b (aK st) s.heap.objs.size f L)).units+60<KJ;lia,rfl,O,y,B,λp hp=>let ⟨val,v,q1,q2,q3⟩:=JE p hp;⟨val,v,q1,q2,q3 _⟩,Ij,xs⟩,S.nd,λ_=>rfl,PassesOwn.never,S.kind,xs,λ_ _ z=>z.elim,⟨rfl,rfl⟩,rfl⟩
 refine⟨_,km body _ _ G L8,⟨λ_=>False,H,L2.start N vs,cM is us fn.ns,λ_=>[]⟩,rfl,rfl,uA (C:=J6 P w K H m IO) D hN,?_⟩;obtain⟨_,T,st',k',u',K',e,o,e2,e3⟩:=sE HX;cases e3;obtain⟨l1,l2⟩:=sD e2;have Y:∀(c:Cf),c.st=st'->Ok (J6 P w K H m IO) c->Kept (Jc body) ⟨λ_=>False,H,L2.start N vs,cM is us fn.ns,λ_=>[]⟩ c->∀v,CB (J6 P w K H m IO) c k u v->AJ (J6 P w K H m IO) H c.H c.S is vs ws k u v:=λc q l t v r=>by
  refine⟨l.same,λa z=>l.Iu a z,λe=>?_,λe=>?_,l1,λn i r w g1 g2 g3=>?_⟩
  ·subst e;obtain⟨r0,e,h1,h2,h3,h4⟩:=r;exact⟨r0,e,h1,h2,h4⟩
  ·subst e;exact r
  ·obtain⟨w',z1,z2⟩:=l2 n i g1;rw[g3]at z1;cases z1;rw[<-q]at z2;obtain⟨v',I,r',y2,_,_,_,y3⟩:=l.sl i _ _ z2;have hi:i∈is:=HC g1;rw[t.1 i (Hb i hi)]at I;rw[show(L2.start N vs)[i]?=a5 (a5 (.ref r)) from c6 g2]at I;cases I;cases y2;exact y3
 refine⟨T,st',e,λc q l n t=>?_⟩;cases T with
 |nx=>cases o;exact j .Gv c.H c.S (Y c q l t .Gv rfl)
 |rt k0 u0=>cases k0<;>first|(cases o;done)|(cases o;exact λv r=>j v c.H c.S (Y c q l t v r))
 |_=>cases o
noncomputable def Fn.bd(fn:Fn):List S:=match fn.io with|some (_,b)=>b|none=>fn.body
noncomputable def OR(fn:Fn):Bool:=match fn.io with|some (is,b)=>is.all λi=>Jc b i|none=>b8
noncomputable def OS(ck:Ck)(Pg:List Fn):Bool:=ck.fns.all (λg=>Pg.any λfn=>d6 (fn.name=g)&&fn.io.isNone)&&ck.Ij.all λp=>Pg.any λfn=>d6 (fn.name=p.1)&&d6 (fn.io.map (·.1)=a5 p.2)
structure Ld(ck:Ck)(K:PySem.W.Frag)(mg:Str->Option et)(fn:Fn):Prop where
 ex:∃(qual:Str) (st:Lo) (f:hH) (fd:QC) (N ps:List Str),KU K fn.name qual st f fd/\mg fn.name=a5 (.ref f)/\Binds K fd ps []/\dQ N ps (aK st)/\N.length=fn.ns/\ps.length=fn.np/\dI ck fn.bd N (aK st) (cH st)=b8/\OR fn=b8
theorem zY{Pg:List Fn}(a:(Pg.map (·.name)).Nodup)(h:fn∈Pg):Pg.find? (λg=>d6 (g.name=fn.name))=a5 fn:=by
 induction Pg with
 |nil=>cases h
 |cons g Pg b =>
  rw[hW,td]at a;rcases hU.mp h with rfl|h
  ·simp
  ·rw[L4];have:d6 (g.name=fn.name)=cc:=by
    apply Zs;intro z;exact a.1 (z▸Pk h)
   rw[this];exact b a.2 h
theorem qC(a:(Pg.map (·.name)).Nodup)(h:fn∈Pg):GG Pg (d+1) fn.name=iG (GG Pg d) fn:=by
 funext us
 show(match Pg.find? λg=>d6 (g.name=fn.name) with|some fn=>iG (GG Pg d) fn us|none=>b6)=_;rw[zY a h]
theorem l8(h:fn.io=b6):iG Γ fn=dt Γ fn:=by funext us;unfold iG;rw[h]
theorem uB(h:fn.io=a5 (is,b)):iG Γ fn=fT Γ fn is b:=by funext us;unfold iG;rw[h]
theorem sF(T:(Pg.map (·.name)).Nodup)(t:OS ck Pg=b8)(B:∀x∈bK,mg x=b6)(Y:∀p∈ck.gl,∃val v,mg p.1=a5 val/\RelV v val/\∀(C:Ct) S H,Rep C S H p.2 v)
  (ld:∀fn∈Pg,Ld ck K mg fn) (xs:L6 ck K mg):∀d,(∀g∈ck.fns,zP P w K mg base d (GG Pg d g) g)/\∀p∈ck.Ij,zQ P w K mg base d (GG Pg d p.1) p.1 p.2:=by
 simp only[OS,cb,mx,QK,Zp]at t;intro d;induction d with
 |zero =>
  refine⟨λg J=>?_,λp L=>?_⟩
  ·obtain⟨fn,j,rfl,_⟩:=t.1 g J;obtain⟨a,st,f,l,N,m,F,n,o,S,D,q,_⟩:=(ld fn j).ex;exact⟨fn.np,f,l,m,⟨λvs H Q E h=>h.1.trans q.symm,λA outer s H args us vs Q E _ _ _ _ h=>by obtain⟨_,us,r,_,e,_⟩:=h;cases e⟩,n,F.kp,o,λus k u e=>(by cases e),λus c e=>by cases e⟩
  ·obtain⟨fn,j,e,_⟩:=t.2 p L;obtain⟨a,st,f,l,N,m,F,n,o,S,D,q,_⟩:=(ld fn j).ex;exact⟨fn.np,f,l,m,⟨λvs H Q E h=>h.1.trans q.symm,λA outer s H args us vs Q E _ _ _ _ h=>by obtain⟨_,us,k,u,_,_,_,e,_⟩:=h;cases e⟩,e▸n,F.kp,o,λus k e=>by cases e⟩
 |succ d I =>
  refine⟨λg J=>?_,λp L=>?_⟩
  ·obtain⟨fn,j,rfl,i⟩:=t.1 g J;rw[PB]at i;obtain⟨a,st,f,l,N,m,F,n,o,S,D,q,G,_⟩:=(ld fn j).ex;rw[qC T j,l8 i];rw[show fn.bd=fn.body by unfold Fn.bd;rw[i]]at G;refine⟨fn.np,f,l,m,AN F S D q G B I.1 Y I.2 xs,n,F.kp,o,λus k u e=>?_,λus c e=>(oW e).1⟩;obtain⟨h1,h2⟩:=nL e;refine⟨?_,h1⟩;rcases h2 with⟨z,_⟩|⟨z,_⟩
   ·exact z
   ·exact .inr (.inl z)
  ·obtain⟨fn,j,e,i⟩:=t.2 p L;rw[i1]at i;obtain⟨⟨is,b⟩,i,Ml⟩:=i;obtain⟨x,y⟩:=p
   dsimp only at e Ml
   subst e Ml;obtain⟨a,st,f,l,N,m,F,n,o,S,D,q,G,O⟩:=(ld fn j).ex;rw[qC T j,uB i];rw[show fn.bd=b by unfold Fn.bd;rw[i]]at G;unfold OR at O;rw[i]at O;exact⟨fn.np,f,l,m,C3 F S D q (mx.mp O) G B I.1 Y I.2 xs,n,F.kp,o,λus r e=>(sE e).1⟩
end
noncomputable def qD(ns:List Int):U:=.lst (ns.map .int)
theorem l9{S:hH->Prop}:∀(ns:List Int),aq C S H (ns.map .int) (ns.map V.int)
 |[]=>rfl
 |n::ns=>⟨_,_,rfl,rfl,l9 ns⟩
theorem qE(h:GY C.K H a (ns.map V.int)):Rep C (HN H) H (qD ns) (.ref a):=by
 refine⟨a,_,rfl,?_,l9 ns⟩;rcases h with(h|⟨o,h⟩)|h
 ·exact .inl ⟨⟨_,h⟩,.inl h⟩
 ·exact .inl ⟨⟨_,h⟩,.inr ⟨o,h⟩⟩
 ·exact .inr h
theorem oX:∀{l:List α},(∀a∈l,f a=g a)->l.filterMap f=l.filterMap g
 |[],_=>rfl
 |a::l,h=>by rw[H8,H8,h a (by simp),oX λb c=>h b (by simp[c])]
theorem sG:∀(l:List Str) (us:List et),l.Nodup->us.length=l.length->l.filterMap (λn=>((l.zip us).lookup n).map (n,·))=l.zip us
 |[],_,_,_=>rfl
 |a::l,[],_,h=>nomatch h
 |a::l,u::us,b,h=>by
  rw[td]at b;have c:=sG l us b.2 (by simpa using h);simp only[PD,H8,u7,beq_self_eq_true,S3];congr 1
  conv=>rhs;rw[<-c]
  refine oX λn d=>?_;have:(n==a)=cc:=by
   rw[Zw];rintro rfl;exact b.1 d
  rw[this]
theorem xk(l:List Str)(us:List et)(h:us.length=l.length):l.filter (λn=>((l.zip us).lookup n).isNone)=[]:=by
 rw[List.filter_eq_nil_iff];intro n hn;induction l generalizing us with
 |nil=>cases hn
 |cons a l b =>
  cases us with
  |nil=>cases h
  |cons u us =>
   simp only[PD,u7];cases e:n==a with
   |true=>simp
   |false =>
    rcases hU.mp hn with rfl|hn
    ·simp at e
    ·exact b us (by simpa using h) hn
theorem xm{kV a b c ct:et}(d:(as.map (·.arg)).Nodup)(hl:us.length=(as.map (·.arg)).length):
  XW (PySem.W.fnOf x q ⟨[],as,b6,[],[],b6,[]⟩ body scope .none kV a b g c ct) ⟨us,[]⟩=pure ((as.map (·.arg)).zip us):=by
 have e:=sG _ us d hl;have f:=xk _ us hl;have hs:YQ u3=pure b6:=rfl;simp only[XW,PySem.W.fnOf,LS,u6,y1,hs,pure_bind,So,Q1,Nat.sub_zero,List.drop_nil,List.zip_nil_right,UG,e];rw[Zr (by simp[hl])];rw[ei,LL (by simp),f];rfl
structure Me where
 fn:Fn
 i:Nat
 N:List Str
 a:hH
 c:hH
 m:et
 cr:Obj
noncomputable def Me.fd(top:Nat->Lo)(m:Me):QC:=PySem.W.fnOf m.fn.name m.fn.name (fG (top m.i)) (cH (top m.i)) (aK (top m.i)) .none .none .none m.m b6 (.ref m.c) .none
noncomputable def Me.fo(top:Nat->Lo)(m:Me):Obj:=⟨.type "function",b6,.func (m.fd top),#[]⟩
abbrev Gx:=Obj×List (hH×Obj)
noncomputable def adr(ms:List Me)(xa:List hH):List hH:=3::(ms.flatMap (λm=>[m.c,m.a])++xa)
noncomputable def Il(top:Nat->Lo)(g:Gx)(ms:List Me):PySem.W.Frag:=(3,g.1)::(ms.flatMap (λm=>[(m.c,m.cr),(m.a,m.fo top)])++g.2)
theorem sH(top:Nat->Lo)(g:Gx)(ms:List Me)(xa:List hH)(h:g.2.map (·.1)=xa):adr ms xa=(Il top g ms).map (·.1):=by
 unfold adr Il;rw[hW,qs,List.map_flatMap,h];rfl
noncomputable def C4(v:Option (Option et))(a:hH):Bool:=match v with|some (a5 (.ref b))=>d6 (b=a)|_=>cc
theorem zZ(h:C4 v a=b8):v=a5 (a5 (.ref a)):=by
 unfold C4 at h;split at h
 ·rw[Zu h]
 ·cases h
noncomputable def nn(o:Option (Option et)):Bool:=match o with|some b6=>b8|_=>cc
theorem EK(h:nn o=b8):o=a5 b6:=by
 unfold nn at h;split at h
 ·rfl
 ·cases h
noncomputable def EL(p:Arguments)(a:List Str):Bool:=p.posonlyargs.isEmpty&&p.vararg.isNone&&p.kwonlyargs.isEmpty&&p.kw_defaults.isEmpty&&p.kwarg.isNone&&p.defaults.isEmpty&&d6 (p.args.map (·.arg)=a)
noncomputable def SV(N:List Str)(b:Nat)(a:Ln):Bool:=d6 (a.kind=.function)&&d6 (a.isCoroutine=cc)&&d6 (a.isGenerator=cc)&&decide N.Nodup&&(N.take b).all (jk a)&&a.names.all (λy=>d6 (y.2≠.free))
noncomputable def SW(ck:Ck)(top:Nat->Lo)(K:PySem.W.Frag)(m:Me):Bool:=PySem.W.codeIn K (.ref m.c) m.fn.name&&PySem.W.keepIn K (.ref m.a)&&C4 (PySem.W.nsIn K l0 m.fn.name) m.a&&EL (fG (top m.i)) (m.N.take m.fn.np) &&
 SV m.N m.fn.np (aK (top m.i))&&d6 (m.N.length=m.fn.ns)&&d6 (m.fn.np<=m.fn.ns)&&(dI ck m.fn.bd m.N (aK (top m.i)) (cH (top m.i))&&OR m.fn)
noncomputable def SX(K:PySem.W.Frag)(p:Str×U):Bool:=match p.2,PySem.W.nsIn K l0 p.1 with
 |.int i,a5 (a5 (.int j _))=>d6 (i=j)
 |.str i,a5 (a5 (.str j _))=>d6 (i=j)
 |_,_=>cc
noncomputable def Lc(ck:Ck)(top:Nat->Lo)(K:PySem.W.Frag)(ms:List Me):Bool:=ms.all (SW ck top K)&&bK.all (λy=>nn (PySem.W.nsIn K l0 y))&&ck.gl.all (SX K)&&d6 (K.map (·.1)).Nodup
theorem EM{K:PySem.W.Frag}(b:(K.map (·.1)).Nodup)(h:(a,o)∈K):K.lookup a=a5 o:=by
 induction K with
 |nil=>cases h
 |cons p K c =>
  rw[hW,td]at b;rw[u7];rcases hU.mp h with rfl|h
  ·simp
  ·have:(a==p.1)=cc:=by
    rw[Zw];rintro rfl;exact b.1 (my.mpr ⟨_,h,rfl⟩)
   rw[this];exact c b.2 h
section
theorem AO(c:Lc ck top (Il top g ms) ms=b8)(h:m∈ms):KU (Il top g ms) m.fn.name m.fn.name (top m.i) m.a (m.fd top)/\PySem.W.nsIn (Il top g ms) l0 m.fn.name=a5 (a5 (.ref m.a)) /\
  (∀us:List et,us.length=(m.N.take m.fn.np).length->XW (m.fd top) ⟨us,[]⟩=pure ((m.N.take m.fn.np).zip us))/\dQ m.N (m.N.take m.fn.np) (aK (top m.i))/\m.N.length=m.fn.ns/\(m.N.take m.fn.np).length=m.fn.np/\(dI ck m.fn.bd m.N (aK (top m.i)) (cH (top m.i))=b8/\OR m.fn=b8):=by
 simp only[Lc,cb,Zp]at c;have z:=mx.mp c.1.1.1 m h;simp only[SW,cb,Zp]at z;obtain⟨⟨⟨⟨⟨⟨⟨j,k⟩,l⟩,b⟩,d⟩,n⟩,u⟩,o⟩:=z;simp only[SV,cb,Zp]at d;obtain⟨⟨⟨⟨⟨s1,s2⟩,s3⟩,s4⟩,p⟩,q⟩:=d;have r:(Il top g ms).lookup m.a=a5 (m.fo top):=EM c.2 (hU.mpr (.inr (O0 _ (List.mem_flatMap.mpr ⟨m,h,by simp⟩))));have hl:(m.N.take m.fn.np).length=m.fn.np:=by rw[HJ];lia
 refine⟨BH r j k,zZ l,λus f=>?_,⟨s1,s2,s3,s4,by rw[hl],λx s=>?_,λy t=>?_⟩,n,hl,o⟩
 ·unfold Me.fd;revert b;cases fG (top m.i) with
  |mk v as w A B kw C =>
   intro b;simp only[EL,cb,HM,PB,Zp]at b;obtain⟨⟨⟨⟨⟨⟨rfl,rfl⟩,rfl⟩,rfl⟩,rfl⟩,rfl⟩,e⟩:=b;rw[<-e]at f ⊢;exact xm (by rw[e];exact(Xt _ _).nodup s4) f
 ·have:=mx.mp p x s;simpa[jk] using this
 ·have:=mx.mp q y t;simpa using this
theorem EN(i:Lc ck top (Il top g ms) ms=b8)(X:(Il top g ms).In h)(G:h.Ns l0 mg)(j:m∈ms):Ld ck (Il top g ms) mg m.fn :=
 let ⟨a,b,c,d,e,f,k⟩:=AO i j
 ⟨_,_,_,_,_,_,a,PySem.W.mg_of X G b,.all c,d,e,f,k⟩
theorem C5(c:Lc ck top (Il top g ms) ms=b8)(X:(Il top g ms).In h)(G:h.Ns l0 mg):∀p∈ck.gl,∃val v,mg p.1=a5 val/\RelV v val/\∀(C:Ct) S H,Rep C S H p.2 v:=by
 intro p d;simp only[Lc,cb,Zp]at c;have z:=mx.mp c.1.2 p d;unfold SX at z;split at z
 ·rename_i i j k a b;obtain rfl:=Zu z;exact⟨_,.int i,PySem.W.mg_of X G b,⟨_,rfl⟩,λ_ _ _=>by rw[a];rfl⟩
 ·rename_i i j k a b;obtain rfl:=Zu z;exact⟨_,.str i,PySem.W.mg_of X G b,⟨_,rfl⟩,λ_ _ _=>by rw[a];rfl⟩
 ·cases z
end
noncomputable def xn(K:PySem.W.Frag)(x:Str):Option hH:=match PySem.W.nsIn K l0 x with|some (a5 (.ref C))=>a5 C|_=>b6
noncomputable def SY(K:PySem.W.Frag)(D:Str):Option et:=match PySem.W.nsIn K l0 D with|some (a5 (.ref C))=>a5 (.ref C)|some b6=>if D="ValueError" then a5 (.type "ValueError") else b6|_=>b6
noncomputable def gY(ck:Ck)(K:PySem.W.Frag):Bool:=ck.xi.all (λp=>match xn K p.1,SY K p.2.1 with|some C,a5 dv=>fj K C&&(PySem.W.kitOne K (.ref C) dv==a5 p.2.2)|_,_=>cc)&&ck.xe.all λp=>match xn K p.1,xn K p.2 with|some C,a5 D=>PySem.W.exmOne K (.ref C) (.ref D)==a5 b8|_,_=>cc
theorem iM{K:PySem.W.Frag}(h:xn K x=a5 C):PySem.W.nsIn K l0 x=a5 (a5 (.ref C)):=by
 unfold xn at h;split at h
 ·rename_i e;cases h;exact e
 ·cases h
theorem EO{K:PySem.W.Frag}(z:gY ck K=b8)(X:K.In h)(G:h.Ns l0 mg)(D:Str)(g:∃p∈ck.xi,p.2.1=D):∃dv,((∃d,dv=.ref d/\mg D=a5 (.ref d))\/(D="ValueError"/\dv=.type "ValueError"/\mg D=b6))/\∀p∈ck.xi,p.2.1=D->∀C,PySem.W.nsIn K l0 p.1=a5 (a5 (.ref C))->fj K C=b8/\PySem.W.kitOne K (.ref C) dv=a5 p.2.2:=by
 rw[gY,cb,mx]at z;obtain⟨i,j,rfl⟩:=g;have f:=z.1 i j;split at f
 ·rename_i n dv o a;refine⟨dv,?_,λp k e C l=>?_⟩
  ·unfold SY at a;split at a
   ·rename_i e;cases a;exact .inl ⟨_,rfl,PySem.W.mg_of X G e⟩
   ·rename_i e;split at a
    ·rename_i c;cases a;exact .inr ⟨c,rfl,PySem.W.mg_none_of X G e⟩
    ·cases a
   ·cases a
  ·have b:=z.1 p k;rw[e,a]at b;split at b
   ·rename_i q r c m;cases m;have:=iM c;rw[l]at this;cases this;rw[cb,beq_iff_eq]at b;exact b
   ·cases b
 ·cases f
theorem ER{K:PySem.W.Frag}(z:gY ck K=b8)(X:K.In h)(G:h.Ns l0 mg)(x:Str)(d:∃p∈ck.xe,p.2=x):∃D,mg x=a5 (.ref D)/\∀cl,(cl,x)∈ck.xe->∀C,PySem.W.nsIn K l0 cl=a5 (a5 (.ref C))->PySem.W.exmOne K (.ref C) (.ref D)=a5 b8:=by
 rw[gY,cb,mx,mx]at z;obtain⟨e,f,rfl⟩:=d;have b:=z.2 e f;split at b
 ·rename_i l D m c;refine⟨D,PySem.W.mg_of X G (iM c),λcl g C i=>?_⟩;have a:=z.2 _ g
  dsimp only at a
  rw[c]at a;split at a
  ·rename_i n o j k;cases k;have:=iM j;rw[i]at this;cases this;exact beq_iff_eq.mp a
  ·cases a
 ·cases b
noncomputable def gX(ck:Ck)(K:PySem.W.Frag):Bool:=ck.xc.all (λx=>match PySem.W.nsIn K l0 x with|some (a5 (.ref C))=>PySem.W.excIn K C Mu "ValueError.__new__"|_=>cc)&&ck.xd.all λp=>match PySem.W.nsIn K l0 p.1,PySem.W.nsIn K l0 p.2 with
 |some (a5 (.ref C)),a5 (a5 (.ref D))=>(PySem.W.exmOne K (.ref C) (.ref C)==a5 b8)&&(PySem.W.kitCls K (.ref C) (.ref D)==a5 b8&&C != D)
 |_,_=>cc
theorem C6{K:PySem.W.Frag}(z:(gX ck K&&gY ck K)=b8)(X:K.In h)(G:h.Ns l0 mg):L6 ck K mg:=by
 rw[cb]at z;obtain⟨z,a⟩:=z;rw[gX,cb,mx,mx]at z;refine⟨λx c=>?_,λp d=>?_,EO a X G,ER a X G⟩
 ·have:=z.1 x c;split at this
  ·rename_i e;exact⟨_,PySem.W.mg_of X G e,e,this⟩
  ·cases this
 ·have:=z.2 p d;split at this
  ·rename_i b f;rw[cb,beq_iff_eq]at this;exact⟨_,_,PySem.W.mg_of X G b,b,PySem.W.mg_of X G f,this.1,this.2⟩
  ·cases this
theorem walk{l:PySem.W.OpenLaw}{K:S7->PySem.W.Frag}
  (A:l.most=a5 63) (B:d.params.defaults=[]) (D:eM (dp+1) Rt) (I:∀(w:H_) (h:Ju),J w h->(K w.params).In h)
  (j:(Pg.map (·.name)).Nodup) (r:OS ck Pg=b8) (L:fn.io=b6) (O:fn∈Pg) (J8:fn.name=d.name)
  (F:∀(w:H_) (mg:Str->Option et) (fa:hH) (h:Ju),(K w.params).In h->h.Ns l0 mg->mg d.name=a5 (.ref fa) ->
   (∀y∈bK,mg y=b6)/\(∀p∈ck.gl,∃val v,mg p.1=a5 val/\RelV v val/\∀(C:Ct) S H,Rep C S H p.2 v)/\(∀g∈Pg,Ld ck (K w.params) mg g)/\L6 ck (K w.params) mg /\
   ∃(c:Str) (st:Lo) (i:QC) (N:List Str),KU (K w.params) fn.name c st fa i/\dQ N [x] (aK st)/\N.length=fn.ns/\1=fn.np/\dI ck fn.body N (aK st) (cH st)=b8/\∀(s:gj) (u:et),Xn s i ⟨[u],[]⟩ [(x,u)])
  (T:∀ns:List Int,ns.length<=63->GG Pg (dp+1) fn.name [qD ns]=a5 (.ok (.loc,.bl b8))) :
  PySem.W.WalkO q m XP J l.row.toRowW d [] (λf vs=>PySem.call f vs) :=
 L2.yN (n:=63) (k:=dp+1) (x:=x) (CX:=λw=>K2 l.prog w) (sp:=λw=>spT l.prog w (K w.params) (dt (GG Pg dp) fn) fn.np) A (by decide) B D I
  (λw mg fa h Q G Y=>by
   obtain⟨e,o,ld,xs,c,st,i,N,F1,S,hN,HL,hc,hb⟩:=F w mg fa h Q G Y;exact⟨i,hb,λbase _ _=>AN F1 S hN HL hc e (sF j r e o ld xs dp).1 o (sF j r e o ld xs dp).2 xs⟩)
  (λw H a ns hl _ hS=>by
   have t:=T ns hl;rw[qC j O,l8 L]at t;have V_:fn.np=1:=(nL t).1.symm;exact⟨V_.symm,[qD ns],.ok (.loc,.bl b8),HN H,t,λ_ z=>z,⟨_,_,rfl,qE hS,rfl⟩,.inr (.inl rfl),λv H' S' b=>b.loc rfl⟩)
  λ_ _ _ _ _ ⟨_,_,_,_,_,_,z⟩=>z
theorem walk2{l:PySem.W.OpenLaw}{g:S7->Gx}
  (z:l.most=a5 63) (A:d.params.defaults=[]) (B:eM (dp+1) Rt) (o:ms.map (·.fn)=Pg) (C:(Pg.map (·.name)).Nodup) (D:OS ck Pg=b8) (p:m.fn.io=b6) (r:m∈ms) (t:m.fn.name=d.name) (H:m.N.take m.fn.np=[x])
  (ok:∀P,Lc ck top (Il top (g P) ms) ms=b8) (I:∀P,(gX ck (Il top (g P) ms)&&gY ck (Il top (g P) ms))=b8) (J:∀P,(g P).2.map (·.1)=xa) (T:∀ns:List Int,ns.length<=63->GG Pg (dp+1) m.fn.name [qD ns]=a5 (.ok (.loc,.bl b8))) :
  PySem.W.WalkO q j O (PySem.W.kHook (λP=>Il top (g P) ms) (adr ms xa) λP=>sH top (g P) ms xa (J P)).says l.row.toRowW d [] (λf vs=>PySem.call f vs) :=
 walk z A B (λw h Y=>PySem.W.kIn_of Y) C D p (o▸my.mpr ⟨m,r,rfl⟩) t (λw mg fa h X G v=>by
  have hk:=ok w.params;obtain⟨a,b,c,e,f,k,n⟩:=AO hk r;rw[<-t,PySem.W.mg_of X G b]at v;cases v;rw[H]at c e k;refine⟨λy i=>PySem.W.mg_none_of X G (EK ?_),C5 hk X G,λy i=>?_,C6 (I w.params) X G,_,_,_,_,a,e,f,k,by have:=n.1;rw[show m.fn.bd=m.fn.body by unfold Fn.bd;rw[p]]at this;exact this,λs u=>.of_eq (c [u] rfl)⟩
  ·simp only[Lc,cb]at hk;exact mx.mp hk.1.1.2 y i
  ·rw[<-o]at i;obtain⟨Q,L,rfl⟩:=my.mp i;exact EN hk X G L) T
noncomputable def co(n:Str)(k l c:Nat)(r s:hH)(x y z:et)(a b t:Nat):Obj:=⟨.type "code",b6,.fields #[.str n k,.str n (k+1),.str "/claim/cut.py" (k+2),.int l 0,.int c 0,.int 0 0,.int 0 0,.int 3 0,.ref r,.bool b8,.int t 0,.ref s,.none,x,y,z,.int a 0,.int l 0,.str "/claim/cut.py" b],#[]⟩
noncomputable def ge(P:S7)(x:Str)(k:Nat)(v:et):DictEntry:=⟨js P x,.str x k,v⟩
end TM
namespace TM
open PySem L2
section
def Run(m:M α)(st:ax)(a:α)(st':ax):Prop:=m st=a5 (.ok a,st')
theorem aa(c:Run m st a st1)(d:Run (f a) st1 b st2):Run (m >>= f) st b st2:=by
 show M.bind m f st=_;unfold M.bind;rw[show m st=_ from c];exact d
theorem aG:Run (pure a:M α) st a st:=rfl
theorem cD(h:o=a5 a):Run (M.GJ o) st a st:=by subst h;rfl
theorem aV(h:bo rs st):Run (aB rs) st () st:=by show aB rs st=_;unfold aB;rw[Zq h]
noncomputable def kv(i:Nat)(k:Kd):Kd:=if k.root=b8 then .bor i else k
theorem dS(h:st[i]?=a5 (a5 (k,u)))(hk:k≠.Gq:=by intro z;cases z):Run (c8 i) st (kv i k,u) st:=by
 show c8 i st=_;unfold c8;rw[h];cases k<;>first|rfl|exact absurd rfl hk
theorem af(h:st[i]?=a5 (a5 (.loc,u))):Run (ev Γ (.var i)) st (.loc,u) st:=dS h
theorem aX(h:st[i]?=a5 (a5 (.any,u))):Run (ev Γ (.var i)) st (.any,u) st:=dS h
theorem aR(h:st[i]?=a5 (a5 (.own,u))):Run (ev Γ (.var i)) st (.bor i,u) st:=dS h
theorem ai:Run (ev Γ (.cst u)) st (.loc,u) st:=rfl
theorem bx(c:Run (ev Γ a) st x st1)(d:Run (ev Γ b) st1 y st2)(e:bo [x,y] st2)(f:JA g x y=a5 r):Run (ev Γ (.bin g a b)) st r st2 :=
 aa c (aa d (aa (aV e) (cD f)))
theorem oY(d:Run (ev Γ a) st x st1)(e:Run (ev Γ b) st1 y st2)(f:bo [x,y] st2)(g:cK h x.2 y.2=a5 c):Run (ev Γ (.cmp h a b)) st (.loc,.bl c) st2 :=
 aa d (aa e (aa (aV f) (aa (cD g) aG)))
theorem bt(c:Run (ev Γ a) st x st1)(d:Run (ev Γ b) st1 y st2)(e:bo [x,y] st2)(f:gT x y.2=a5 r):Run (ev Γ (.idx a b)) st r st2 :=
 aa c (aa d (aa (aV e) (cD f)))
theorem sI:Run (LQ Γ []) st b6 st:=rfl
theorem l_(h:Run (ev Γ e) st (k,.int i) st1):Run (LQ Γ [e]) st (a5 i) st1:=aa h rfl
theorem oZ(c:Run (ev Γ a) st x st1)(d:Run (LQ Γ lo) st1 l st2)(e:Run (LQ Γ f) st2 h b)(g:bo [x] b)(i:oK x l h=a5 r):Run (ev Γ (.Kv a lo f)) st r b :=
 aa c (aa d (aa e (aa (aV g) (cD i))))
theorem ak:Run (bc Γ []) st [] st:=rfl
theorem ae(a:Run (ev Γ e) st r st1)(b:Run (bc Γ es) st1 rs st2):Run (bc Γ (e::es)) st (r::rs) st2:=aa a (aa b aG)
theorem c_(a:Run (bc Γ es) st rs st1)(b:bo rs st1)(c:JB f rs=a5 r):Run (ev Γ (.bi f es)) st r st1:=aa a (aa (aV b) (cD c))
theorem AQ(a:Run (bc Γ es) st rs st1)(b:bo rs st1)(c:qe f rs=a5 r):Run (ev Γ (.K7 f es)) st r st1:=aa a (aa (aV b) (cD c))
theorem xp(b:Run (ev Γ a) st x st1)(c:Run (bc Γ es) st1 rs st2)(d:bo (x::rs) st2)(e:lj m x.2 rs=a5 r):Run (ev Γ (.K8 m a es)) st r st2:=aa b (aa c (aa (aV d) (cD e)))
theorem sJ(h:Γ f us=a5 (.ok r))(a:isAny r.1=cc):Run (jZ Γ f us) st r st:=by
 obtain⟨k,u⟩:=r;show jZ Γ f us st=_;unfold jZ;rw[h];cases k<;>first|rfl|cases a
theorem bJ(a:Run (bc Γ es) st rs st1)(b:bo rs st1)(c:Γ f (rs.map (·.2))=a5 (.ok r))(d:isAny r.1=cc:=by exact rfl):Run (ev Γ (.call f es)) st r st1:=aa a (aa (aV b) (sJ c d))
theorem i8(a:Run (bc Γ es) st rs st1)(b:bo rs st1)(c:Run (cL rs) st1 us st2)(d:us.length<=dV):Run (ev Γ (.tup es)) st (.loc,.tup us) st2:=by
 refine aa a (aa (aV b) (aa c ?_));rw[Zq d];exact aG
theorem cE(a:Run (bc Γ es) st rs st1)(b:bo rs st1)(c:Run (cL rs) st1 us st2)(d:us.length<=dV):Run (ev Γ (.lst es)) st (.own,.lst us) st2:=by
 refine aa a (aa (aV b) (aa c ?_));rw[Zq d];exact aG
theorem nM:Run (ev Γ (.IB r)) st (.own,.GD [] []) st:=rfl
theorem mf:Run (lift (.own,u)) st u st:=rfl
theorem aI:Run (lift (.loc,u)) st u st:=rfl
theorem xq(h:G5 u=b8):Run (lift (.any,u)) st u st:=by
 show(if G5 u=b8 then(pure u:M U) else M.fail) st=_;rw[Zq h];rfl
theorem aO:Run (cL []) st [] st:=rfl
theorem az(a:Run (lift r) st u st1)(b:Run (cL rs) st1 us st2):Run (cL (r::rs)) st (u::us) st2:=aa a (aa b aG)
theorem qF(d:Run (GN Γ c) st b8 st1)(e:Run (ev Γ a) st1 r st2):Run (ev Γ (.ite c a b)) st r st2:=aa d e
theorem qG(d:Run (GN Γ c) st cc st1)(e:Run (ev Γ b) st1 r st2):Run (ev Γ (.ite c a b)) st r st2:=aa d e
theorem C7(h:Run (ev Γ e) st r st1):Run (gW Γ [e]) st r st1:=h
theorem C8(h:Run (ev Γ e) st (k,.bl p) st1)(a:if p=b8 then Run (gW Γ (b::es)) st1 r st2 else st2=st1/\r=(.loc,.bl cc)):Run (gW Γ (e::b::es)) st r st2:=by
 refine aa h ?_;cases p with
 |true=>exact a
 |false=>obtain⟨rfl,rfl⟩:=a;exact aG
theorem ES(h:Run (gW Γ es) st r st1):Run (ev Γ (.and es)) st r st1:=h
theorem aU(d:Run (ev Γ a) st x st1)(e:Run (ev Γ b) st1 y st2)(f:bo [x,y] st2)(g:cK h x.2 y.2=a5 c):Run (GN Γ (.cmp h a b)) st c st2:=aa d (aa e (aa (aV f) (cD g)))
theorem o_(h:Run (GN Γ a) st c st1):Run (GN Γ (.not a)) st (!c) st1:=aa h aG
theorem kn(h:Run (bq Γ es) st c st1):Run (GN Γ (.and es)) st c st1:=h
theorem C9(h:Run (fq Γ es) st c st1):Run (GN Γ (.or es)) st c st1:=h
theorem sL:Run (bq Γ []) st b8 st:=rfl
theorem fz(h:Run (GN Γ e) st c st1):Run (bq Γ [e]) st c st1:=h
theorem kq(h:Run (GN Γ e) st b8 st1)(a:Run (bq Γ (b::es)) st1 c st2):Run (bq Γ (e::b::es)) st c st2:=aa h a
theorem qH(h:Run (GN Γ e) st cc st1):Run (bq Γ (e::a::es)) st cc st1:=aa h aG
theorem xr(h:Run (GN Γ e) st c st1):Run (fq Γ [e]) st c st1:=h
theorem ET(h:Run (GN Γ e) st b8 st1):Run (fq Γ (e::a::es)) st b8 st1:=aa h aG
theorem xt(h:Run (GN Γ e) st cc st1)(a:Run (fq Γ (b::es)) st1 c st2):Run (fq Γ (e::b::es)) st c st2:=aa h a
theorem bF:Run (dr i (.own,u)) st () (st.set i (a5 (.own,u))):=rfl
theorem aD:Run (dr i (.loc,u)) st () (st.set i (a5 (.loc,u))):=rfl
theorem ku:Run (dr i (.any,u)) st () (st.set i (a5 (.any,u))):=rfl
theorem EU(a:Run (ev Γ e) st r st1)(b:Run (dr i r) st1 () st2):Run (exec Γ (.set i e)) st .nx st2:=aa a (aa b aG)
theorem EV(b:∃k' c,st[i]?=a5 (a5 (k',.lst c))/\k'≠.Gq)(d:Run (ev Γ e) st r st1)(f:Run (lift r) st1 u st2)(g:st2[i]?=a5 (a5 (k,.lst us)))(hk:k.root=b8)(hl:us.length<dV):
  Run (exec Γ (.app i e)) st .nx (st2.set i (a5 (k,.lst (us++[u])))):=by
 obtain⟨k',c,b,h⟩:=b;refine aa (dS b h) (aa (a:=()) (st1:=st) rfl (aa d (aa f (aa (a:=()) ?_ aG))));show modS i (wj u) st2=_;unfold modS;rw[g];simp only[hk,if_true];have e:wj u (.lst us)=a5 (.lst (us++[u])):=by show(if us.length<dV then _ else _)=_;rw[Zq hl]
 rw[e]
theorem EW(a:Run (ev Γ e) st r st1)(b:Run (retS r) st1 f st2):Run (exec Γ (.ret e)) st f st2:=aa a b
theorem ic:Run (retS (.own,u)) st (.rt .own u) st:=rfl
theorem fA:Run (retS (.loc,u)) st (.rt .loc u) st:=rfl
theorem kA(h:st[j]?=a5 (a5 (.own,u))):Run (retS (.bor j,a)) st (.rt .own u) (st.set j b6):=by
 show(match st[j]? with|some (a5 (.own,u))=>a5 (Ex.ok (Fl.rt .own u),st.set j b6)|_=>b6)=_;rw[h]
theorem kB(d:Run (GN Γ c) st b8 st1)(e:Run (execs Γ a) st1 f st2):Run (exec Γ (.ite c a b)) st f st2:=aa d e
theorem qI(d:Run (GN Γ c) st cc st1)(e:Run (execs Γ b) st1 f st2):Run (exec Γ (.ite c a b)) st f st2:=aa d e
theorem ay:Run (execs Γ []) st .nx st:=rfl
theorem fB(a:Run (exec Γ s) st .nx st1)(b:Run (execs Γ ss) st1 f st2):Run (execs Γ (s::ss)) st f st2:=aa a b
theorem qJ(a:Run (exec Γ s) st (.rt k u) st1):Run (execs Γ (s::ss)) st (.rt k u) st1:=aa a aG
theorem aA(a:Run (ev Γ e) st r st1)(b:Run (dr i r) st1 () st2)(c:Run (execs Γ ss) st2 f d):Run (execs Γ (.set i e::ss)) st f d:=fB (EU a b) c
theorem i9(a:st[i]?=a5 (a5 (k',.lst l)))(b:Run (ev Γ e) st r st1)(c:Run (lift r) st1 u st2)(d:st2[i]?=a5 (a5 (k,.lst us)))(hk:k.root=b8)(hl:us.length<dV)
  (g:Run (execs Γ ss) (st2.set i (a5 (k,.lst (us++[u])))) f h) (j:k'≠.Gq:=by intro z;cases z):Run (execs Γ (.app i e::ss)) st f h:=fB (EV ⟨_,_,a,j⟩ b c d hk hl) g
theorem bS(a:Run (ev Γ e) st r st1)(b:Run (retS r) st1 (.rt k u) st2):Run (execs Γ (.ret e::ss)) st (.rt k u) st2:=qJ (EW a b)
theorem dJ(d:Run (GN Γ c) st b8 st1)(e:Run (execs Γ a) st1 .nx st2)(g:Run (execs Γ ss) st2 f h):Run (execs Γ (.ite c a b::ss)) st f h:=fB (kB d e) g
theorem ba(d:Run (GN Γ c) st cc st1)(e:Run (execs Γ b) st1 .nx st2)(g:Run (execs Γ ss) st2 f h):Run (execs Γ (.ite c a b::ss)) st f h:=fB (qI d e) g
theorem iN(d:Run (GN Γ c) st b8 st1)(e:Run (execs Γ a) st1 (.rt k u) st2):Run (execs Γ (.ite c a b::ss)) st (.rt k u) st2:=qJ (kB d e)
theorem AR(a:Run (bc Γ src) st rs st1)(b:bo rs st1)(c:Ja ik rs=a5 xs)(d:rQ rs is body=b8)(e:Run (forM t is (execs Γ body) rs xs) st1 f st2):
  Run (exec Γ (.G1 t is ik src body)) st f st2:=by
 refine aa a (aa (aV b) (aa (cD c) ?_));rw[Zq d];exact e
theorem di(a:Run (bc Γ src) st rs st1)(b:bo rs st1)(c:Ja ik rs=a5 xs)(d:rQ rs is body=b8)(e:Run (forM t is (execs Γ body) rs xs) st1 .nx st2)(g:Run (execs Γ ss) st2 f h):
  Run (execs Γ (.G1 t is ik src body::ss)) st f h:=fB (AR a b c d e) g
theorem AS(h:bo rs st):Run (forM t is body rs []) st .nx st:=aa (aV h) aG
theorem EX(h:bo rs st)(a:Run (eC t is x) st () st1)(b:Run body st1 .nx st2)(c:Run (forM t is body rs xs) st2 f d):Run (forM t is body rs (x::xs)) st f d:=aa (aV h) (aa a (aa b c))
theorem Gk(h:bo rs st)(a:Run (eC t is x) st () st1)(b:Run body st1 (.rt k u) st2):Run (forM t is body rs (x::xs)) st (.rt k u) st2:=aa (aV h) (aa a (aa b aG))
theorem iO(h:Run (dr i r) st () st1):Run (eC cc [i] r) st () st1:=h
theorem bC(a:us.length=fn.np)(hk:k=.own\/k=.loc)(hs:start us fn.ns=st0)(h:Run (execs Γ fn.body) st0 (.rt k u) st):dt Γ fn us=a5 (.ok (k,u)):=by
 subst hs;unfold dt;rw[Zq a,show execs Γ fn.body (start us fn.ns)=_ from h];rcases hk with rfl|rfl<;>rfl
theorem xu{cond:M Bool}(h:bo src st):Run (bO k t cond elt src [] acc) st acc st:=aa (aV h) aG
theorem qK{cond:M Bool}(h:bo src st)(c:Run (eC t (ko k) x) (mh k b6++st) () s1)(d:Run cond s1 b8 s2)(e:Run elt s2 r s3)(g:Run (lift r) s3 u s4)
  (hl:acc.length<dV) (i:Run (bO k t cond elt src xs (acc++[u])) (s4.drop k) us st2):Run (bO k t cond elt src (x::xs) acc) st us st2:=by
 refine aa (aV h) (aa (a:=a5 u) (st1:=s4.drop k) ?_ ?_)
 ·show inScope k _ st=_;unfold inScope;have j:Run (eC t (ko k) x >>= λ_=>cond >>= λb=>if b=b8 then(elt >>= λr=>lift r >>= λu=>pure (a5 u)) else pure b6) (mh k b6++st) (a5 u) s4 :=
   aa c (aa d (show Run (elt >>= λr=>lift r >>= λu=>pure (a5 u)) s2 (a5 u) s4 from aa e (aa (f:=λu=>pure (a5 u)) g rfl)))
  rw[show _=_ from j]
 ·show Run (if acc.length<dV then bO k t cond elt src xs (acc++[u]) else M.fail) _ _ _;rw[Zq hl];exact i
theorem C_{cond:M Bool}(h:bo src st)(c:Run (eC t (ko k) x) (mh k b6++st) () s1)(d:Run cond s1 cc s2)
  (e:Run (bO k t cond elt src xs acc) (s2.drop k) us st2):Run (bO k t cond elt src (x::xs) acc) st us st2:=by
 refine aa (aV h) (aa (a:=b6) (st1:=s2.drop k) ?_ e);show inScope k _ st=_;unfold inScope;have f:Run (eC t (ko k) x >>= λ_=>cond >>= λb=>if b=b8 then(elt >>= λr=>lift r >>= λu=>pure (a5 u)) else pure b6) (mh k b6++st) b6 s2 :=
  aa c (aa d (show Run (pure b6:M (Option U)) s2 b6 s2 from rfl))
 rw[show _=_ from f]
theorem iP{src cond:List E}(a:Run (bc Γ src) st rs st1)(b:bo rs st1)(c:Ja ik rs=a5 xs)(d:Run (bO k t (bq Γ cond) (ev Γ e) rs xs []) st1 us st2):Run (ev Γ (.comp k t ik src cond e)) st (.own,.lst us) st2 :=
 aa a (aa (aV b) (aa (cD c) (aa d aG)))
end
section
theorem qL(c:Run (bc Γ es) st rs st1)(d:bo (rs.map (dO st1)) st1)(e:Γ f ((rs.map (dO st1)).map (·.2))=a5 (.ok (k,.tup (u::ws))))(hk:k=.own\/k=.loc)(a:oM (rs.map (dO st1)) is=b8)(b:f9 (rs.map (dO st1)) is ws st1=a5 st2):
  Run (ev Γ (.Gy f es is)) st (k,u) st2:=by
 have g:Run (bc Γ es >>= y9) st (rs.map (dO st1)) st1:=aa c (show Run (y9 rs) st1 (rs.map (dO st1)) st1 from rfl);refine aa g (aa (aV d) ?_);show oN Γ f _ is st1=_;unfold oN;rw[e];rcases hk with rfl|rfl
 ·show(if _ then _ else _)=_;rw[Zq a,b]
 ·show(if _ then _ else _)=_;rw[Zq a,b]
theorem AU(h:st[i]?=a5 (a5 (k,.lst us)))(hk:k.root=b8)(a:us[us.length - 1]?=a5 u):Run (ev Γ (.pop i)) st (.loc,u) (st.set i (a5 (k,.lst us.dropLast))):=by
 show wa i st=_;unfold wa;rw[h];show(if _ then _ else _)=_;rw[Zq hk,a]
theorem Dd(b:st[i]?=a5 (a5 (k0,.lst us0)))(c:k0≠.Gq)(d:Run (ev Γ e) st (l,.int j) st1)(h:st1[i]?=a5 (a5 (k,.lst us)))(hk:k.root=b8)(j0:0<=j)(f:j<1000000)(g:us[j.toNat]?=a5 u):Run (ev Γ (.I0 i e)) st (.loc,u) (st1.set i (a5 (k,.lst (us.eraseIdx j.toNat)))):=by
 refine aa (dS b c) (aa (a:=()) (st1:=st) rfl (aa d ?_));show t7 i (.int j) st1=_;unfold t7
 dsimp only
 rw[h];show(if _ then _ else _)=_;rw[Zq ⟨hk,j0,f⟩,g]
theorem bT(a:us.length=fn.np)(hs:cM is us fn.ns=st0)(h:Run (execs Γ body) st0 f st)(b:OB f=a5 (k,u))(c:LR is st=a5 ws):fT Γ fn is body us=a5 (.ok (k,.tup (u::ws))):=by
 subst hs;unfold fT;rw[Zq a,show execs Γ body (cM is us fn.ns)=_ from h];show(OB f).bind _=_;rw[b];show(LR is st).map _=_;rw[c];rfl
end
def G_(Pg:List Fn)(f:Str)(fn:Fn):Prop:=(Pg.find? λg=>d6 (g.name=f))=a5 fn
section
theorem aW(h:G_ Pg f fn)(us:List U)(a:fn.io=b6:=by rfl):GG Pg (d+1) f us=dt (GG Pg d) fn us:=by
 show(match Pg.find? λg=>d6 (g.name=f) with|some fn=>iG (GG Pg d) fn us|none=>b6)=_;rw[show _=a5 fn from h];show iG _ _ _=_;unfold iG;rw[a]
theorem cF(h:G_ Pg f fn)(us:List U)(a:fn.io=a5 (is,b)):GG Pg (d+1) f us=fT (GG Pg d) fn is b us:=by
 show(match Pg.find? λg=>d6 (g.name=f) with|some fn=>iG (GG Pg d) fn us|none=>b6)=_;rw[show _=a5 fn from h];show iG _ _ _=_;unfold iG;rw[a]
end
theorem dW(h:0<j):JA .mod (k,.int i) (k',.int j)=a5 (.loc,.int (i % j)):=by show(y4 i j).map _=_;rw[y4,Zq h];rfl
theorem kC(h:0<j/\j<1073741824):JA .LM (k,.int i) (k',.int j)=a5 (.loc,.int (i / j)):=by show(y0 i j).map _=_;rw[y0,Zq h];rfl
theorem jE(h:(-(2 ^ 64)<i/\i<2 ^ 64)\/(-(2 ^ 64)<j/\j<2 ^ 64)):JA .mul (k,.int i) (k',.int j)=a5 (.loc,.int (i * j)):=by show(yZ i j).map _=_;rw[yZ,Zq h];rfl
theorem mM(h:0<=j/\j<=1000000/\i.natAbs<2 ^ 64):JA .pow (k,.int i) (k',.int j)=a5 (.loc,.int (i ^ j.toNat)):=by show(y6 i j).map _=_;rw[y6,Zq h];rfl
theorem b_:JA .add (k,.int i) (k',.int j)=a5 (.loc,.int (i+j)):=rfl
theorem bU(h:Hs xs i=a5 u):gT (k,.lst xs) (.int i)=a5 (kE k,u):=by show(Hs xs i).map _=_;rw[h];rfl
theorem mT(h:Hs xs i=a5 u):gT (k,.tup xs) (.int i)=a5 (kE k,u):=by show(Hs xs i).map _=_;rw[h];rfl
local macro_rules
 |`(tactic| sizeOf_list_dec)=>`(tactic| first|exact ay|apply aA|apply i9|apply bS|exact ai|exact af rfl|exact aX rfl|exact aR rfl|apply bx|apply oY|apply bt|apply c_|apply bJ|apply xp|apply aU|exact ak|apply ae|apply i8|apply cE|exact aO|apply az|exact aI|exact mf|(first|exact trivial|exact⟨⟨_,rfl,rfl⟩,trivial⟩|exact⟨⟨_,rfl,rfl⟩,⟨_,rfl,rfl⟩,trivial⟩)|exact b_|exact pJ|exact dW (by first|lia|decide)|exact kC (by first|lia|decide)|exact jE (by first|lia|decide)|exact mM (by decide)|exact aD|exact bF|exact ku|exact fA|exact ic|exact kA rfl|exact oT _|exact rfl|exact KD)
theorem EY(h:d6 (i<j)=c):cK .lt (.int i) (.int j)=a5 c:=by subst h;rfl
theorem i_(h:d6 (j<i)=c):cK .gt (.int i) (.int j)=a5 c:=by subst h;rfl
theorem cj(h:(i==j)=c):cK .eq (.int i) (.int j)=a5 c:=by subst h;rfl
theorem bP:JB .len [(k,.lst xs)]=a5 (.loc,.int (xs.length:Nat)):=rfl
theorem xv(x:Kd×U):Ja .Hk [x]=v_ x:=rfl
theorem fC(h:n<2 ^ 62):Ja .Hk [(k,.int (n:Nat))]=a5 ((ko n).map λi:Nat=>(Kd.loc,U.int (0+(i:Int)))):=by
 rw[xv,v_,Zq ⋯,XM]
end TM
local macro_rules
 |`(tactic| sizeOf_list_dec)=>`(tactic| first|exact TM.ay|apply TM.aA|apply TM.i9|apply TM.bS|exact TM.ai|exact TM.af rfl|exact TM.aX rfl|exact TM.aR rfl|apply TM.bx|apply TM.oY|apply TM.bt|apply TM.c_|apply TM.bJ|apply TM.xp|apply TM.aU|exact TM.ak|apply TM.ae|apply TM.i8|apply TM.cE|exact TM.aO|apply TM.az|exact TM.aI|exact TM.mf|(first|exact trivial|exact⟨⟨_,rfl,rfl⟩,trivial⟩|exact⟨⟨_,rfl,rfl⟩,⟨_,rfl,rfl⟩,trivial⟩)|exact TM.b_|exact TM.pJ|exact TM.dW (by first|lia|decide)|exact TM.kC (by first|lia|decide)|exact TM.jE (by first|lia|decide)|exact TM.mM (by decide)|exact TM.aD|exact TM.bF|exact TM.ku|exact TM.fA|exact TM.ic|exact TM.kA rfl|exact oT _|exact rfl|exact TM.KD)
namespace GZ
open PySem L2
theorem len_list(x:Str):x.length=x.cps.toList.length:=by simp[Zg]
theorem uC(a:0<=k)(b:k<=99):(vt k).length<=2:=by
 obtain⟨m,rfl⟩:=wk a;have c:m<100:=by lia
 clear a b;revert m;decide +kernel
theorem eY:∀(a:List Str) (acc:Array Nat),(a.foldl (λacc p=>acc++zy.cps++p.cps) acc).toList=acc.toList++(a.map λp=>p.cps.toList).flatten
 |[],acc=>by simp
 |p::a,acc=>by
  rw[Q2,eY a];have:zy.cps=#[]:=rfl;simp[this]
theorem join_list(ts:List Str):(Ru zy ts).cps.toList=(ts.map λp=>p.cps.toList).flatten:=by
 cases ts with
 |nil=>rfl
 |cons t ts =>
  show(ts.foldl (λacc p=>acc++zy.cps++p.cps) t.cps).toList=_;rw[eY];simp
noncomputable def one(c:Nat):Str:=⟨#[c]⟩
theorem join_ones(a:List Nat):(Ru zy (a.map one)).cps.toList=a:=by
 rw[join_list,vu];induction a with
 |nil=>rfl
 |cons c a b=>rw[hW,Xu,b];rfl
theorem pb(a:List Nat)(h:a.length<=100):Yj zy (a.map one)=b8:=by
 unfold Yj;have e:=PySem.StrLaws.joinTotal zy (a.map one);have b:zy.length=0:=rfl;have es:((a.map one).map (·.length)).sum=a.length:=by
  rw[vu];clear h e;induction a with
  |nil=>rfl
  |cons c a d=>rw[hW,List.sum_cons,d];show 1+a.length=a.length+1;lia
 rw[e,b,es];have f:a.length+(a.map one).length * 0<=100:=by lia
 revert f;generalize a.length+(a.map one).length * 0=m;revert m;decide
theorem De(x:Str)(j:Nat):(PySem.StrLaws.sliceText x b6 (a5 (j:Int))).cps.toList=x.cps.toList.take j:=by
 by_cases h:j<=x.cps.toList.length
 ·rw[PySem.StrLaws.sliceText_to (x:=x) ⟨⋯,⋯⟩];simp
 ·have e:PySem.StrLaws.sliceText x b6 (a5 (j:Int))=PySem.StrLaws.sliceText x b6 (a5 (x.length:Int)):=by
   unfold PySem.StrLaws.sliceText;have hl:=len_list x;have:PySem.Builtin.Str.strSliceIndices b6 (a5 (j:Int)) 1 x.length=PySem.Builtin.Str.strSliceIndices b6 (a5 (x.length:Int)) 1 x.length:=by
    have a:¬((j:Int)<0):=by lia
    have b:¬((x.length:Int)<0):=by lia
    have c:min (j:Int) (x.length:Int)=x.length:=by lia
    simp[PySem.Builtin.Str.strSliceIndices,a,b,c]
   rw[this]
  have hl:=len_list x;rw[e,PySem.StrLaws.sliceText_to (x:=x) ⟨⋯,⋯⟩,List.drop_zero,LL (l:=x.cps.toList) (i:=j) ⋯];show(x.cps.toList.take ((x.length:Int) - 0).toNat).toArray.toList=_;rw[LL ⋯]
noncomputable def small:Str:="abcdefghijklmnopqrstuvwxyz"
theorem ie [DecidableEq α]:∀{l m:List α},l.Nodup->(∀x∈l,x∈m)->l.length<=m.length
 |[],_,_,_=>oT _
 |x::l,m,c,h=>by
  obtain⟨d,e⟩:=td.mp c;have a:=h x r6;have f:=ie (l:=l) (m:=m.erase x) e λy b=>(List.mem_erase_of_ne (by rintro rfl;exact d b)).mpr (h y (mA _ b));rw[List.length_erase_of_mem a]at f;have:0<m.length:=List.length_pos_of_mem a;rw[rz];lia
end GZ
namespace TM
open PySem L2 GZ
theorem mU(a:x.length<=dV)(h:Hs x.cps.toList i=a5 c):gT (k,.str x) (.int i)=a5 (.loc,.str (GZ.one c)):=by
 simp only[gT];rw[Zq a,h];rfl
theorem pd:small.length<=dV:=by decide
theorem eG:∀(ss:List Str),strsOf (ss.map U.str)=a5 ss
 |[]=>rfl
 |s::ss=>by show(strsOf (ss.map U.str)).map (s::·)=_;rw[eG ss];rfl
section
theorem nN(h:x.length+y.length<=dV):JA .add (k,.str x) (k',.str y)=a5 (.loc,.str (x++y)):=by
 simp only[JA,v9];rw[Zq h]
theorem fO:∀(ss:List Str) (n:Nat),jY n (ss.map U.str)=b8
 |[],n=>by simp[jY]
 |s::ss,n=>by simp only[hW,jY,fO ss n,Yr];cases n<;>rfl
theorem pe(x:Str):∀(ss:List Str),((ss.map U.str).any λy=>cu y (.str x))=d6 (x∈ss)
 |[]=>by simp
 |s::ss=>by
  rw[hW,R3,pe x ss];have:cu (.str s) (.str x)=d6 (x=s):=by
   simp only[cu];by_cases h:x=s
   ·subst h;simp
   ·have h':s≠x:=λz=>h z.symm;simp[h,h']
  rw[this,L5];simp
theorem z_(x:Str)(ss:List Str):LP (.str x) (ss.map U.str)=a5 (d6 (x∈ss)):=by
 unfold LP;rw[Zq ⟨by rfl,fO ss 50⟩,pe]
theorem ig{x:Str}{ss:List Str}:cK .G0 (.str x) (.lst (ss.map U.str))=a5 (d6 (x∉ss)):=by
 show(LP (.str x) (ss.map U.str)).map (!·)=_;rw[z_];simp
end
section
end
theorem ij(h:Run (ev Γ j) st rv st1)(l:st1[i]?=a5 (a5 (k',u')))(m:Run (ev Γ n) st1 rk st2)(o:Run (cL [rv,rk]) st2 [c,d] b)(p:b[i]?=a5 (a5 (k,e)))(hk:k.root=b8)(q:eT d c e=a5 g)
  (r:Run (execs Γ ss) (b.set i (a5 (k,g))) f s) (t:k'≠.Gq:=by intro z;cases z):Run (execs Γ (.put i n j::ss)) st f s:=by
 refine fB (aa h (aa (dS l t) (aa m (aa o (aa (a:=()) (st1:=b.set i (a5 (k,g))) ?_ aG))))) r;show modS i (rP [c,d]) b=_;unfold modS;rw[p];simp only[hk,if_true];show(match eT d c e with|some u'=>_|none=>b6)=_;rw[q]
abbrev Row:=Str×List Str
noncomputable def Gr(r:Row):U:=.tup [.str r.1,.tup (r.2.map .str)]
noncomputable def keyOf(r:Row):Row:=(r.1,aL r.2)
theorem sorted_strs(h:ss.length<64):JB .sorted [(k,.tup (ss.map .str))]=a5 (.own,.lst ((aL ss).map .str)):=by
 show(strsOf (ss.map U.str)).bind _=_;rw[eG];show(if ss.length<64 then _ else _)=_;rw[Zq h]
structure sM(names:List Str)(r:Row):Prop where
 word:r.1∈names
 PN:r.2.length<=8
 once:r.2.Nodup
 told:∀x∈r.2,x∈names
section
theorem mi(h:Run (execs Γ (a++ss)) st f st2):(∃s1,Run (execs Γ a) st .nx s1/\Run (execs Γ ss) s1 f st2)\/(Run (execs Γ a) st f st2/\f≠.nx):=by
 induction a generalizing st with
 |nil=>exact .inl ⟨st,ay,h⟩
 |cons s a i =>
  have h':M.bind (exec Γ s) (λf=>match f with|.nx=>execs Γ (a++ss)|f=>pure f) st=a5 (.ok f,st2):=h;unfold M.bind at h';cases e:exec Γ s st with
  |none=>rw[e]at h';cases h'
  |some p =>
   obtain⟨x,s1⟩:=p;rw[e]at h';cases x with
   |exc c=>cases h'
   |ok g =>
    cases g with
    |nx =>
     rcases i h' with⟨s2,b,d⟩|⟨b,d⟩
     ·exact .inl ⟨s2,fB e b,d⟩
     ·exact .inr ⟨fB e b,d⟩
    |rt k u=>cases h';exact .inr ⟨qJ e,λz=>nomatch z⟩
    |bk=>cases h';exact .inr ⟨aa (show Run (exec Γ s) st Fl.bk _ from e) aG,λz=>nomatch z⟩
    |ct=>cases h';exact .inr ⟨aa (show Run (exec Γ s) st Fl.ct _ from e) aG,λz=>nomatch z⟩
theorem EZ(a:Run (exec Γ s) st f st1)(b:f≠.nx):Run (execs Γ (s::ss)) st f st1:=by
 cases f with
 |nx=>exact absurd rfl b
 |rt k u=>exact qJ a
 |_=>exact aa a aG
theorem E1(g:Run (GN Γ c) st p st1)(h:p=b8->Run (execs Γ (a++ss)) st1 f st2)(i:p=cc->Run (execs Γ (b++ss)) st1 f st2):Run (execs Γ (.ite c a b::ss)) st f st2:=by
 cases p with
 |true =>
  rcases mi (h rfl) with⟨s1,d,e⟩|⟨d,e⟩
  ·exact fB (kB g d) e
  ·exact EZ (kB g d) e
 |false =>
  rcases mi (i rfl) with⟨s1,d,e⟩|⟨d,e⟩
  ·exact fB (qI g d) e
  ·exact EZ (qI g d) e
theorem Df(h:Run (ev Γ e) st (k,.bl p) st)(a:p=b8->Run (gW Γ (b::es)) st (.loc,.bl q) st):Run (gW Γ (e::b::es)) st (.loc,.bl (p&&q)) st:=by
 refine C8 h ?_;cases p with
 |true=>rw[Zq rfl];exact a rfl
 |false=>rw[Zr mu];exact⟨rfl,rfl⟩
theorem E2(h:Run (GN Γ e) st p st)(a:p=cc->Run (fq Γ (b::es)) st q st):Run (fq Γ (e::b::es)) st (p||q) st:=by
 cases p with
 |true=>exact ET h
 |false=>exact xt h (a rfl)
theorem xx(h:Run (GN Γ e) st p st)(a:p=b8->Run (bq Γ (b::es)) st q st):Run (bq Γ (e::b::es)) st (p&&q) st:=by
 cases p with
 |true=>exact kq h (a rfl)
 |false=>exact qH h
theorem qM{cond:M Bool}(h:bo src st)(k:Kd)(hk:k=.loc\/k=.any)(a g:α->U)(b:Kd)(c:∀y,Run cond (a5 (k,a y)::st) b8 (a5 (k,a y)::st)):∀(ys:List α) (acc:List U),acc.length+ys.length<=dV ->
  (∀y∈ys,Run elt (a5 (k,a y)::st) (b,g y) (a5 (k,a y)::st)/\Run (lift (b,g y)) (a5 (k,a y)::st) (g y) (a5 (k,a y)::st))->Run (bO 1 cc cond elt src (ys.map λy=>(k,a y)) acc) st (acc++ys.map g) st
 |[],acc,_,_=>by rw[LS,LS,y1];exact xu h
 |y::ys,acc,hl,d=>by
  obtain⟨e,f⟩:=d y (by simp);rw[rz]at hl;refine qK (s1:=a5 (k,a y)::st) (s2:=a5 (k,a y)::st) (s3:=a5 (k,a y)::st) (s4:=a5 (k,a y)::st) h ?_ (c y) e f ⋯ ?_
  ·rcases hk with rfl|rfl
   ·exact iO aD
   ·exact iO ku
  ·have:=qM h k hk a g b c ys (acc++[g y]) (by simp;lia) λz hz=>d z (by simp[hz]);rw[hW];simpa using this
theorem nO{cond:M Bool}(h:bo src st)(k:Kd)(hk:k=.loc\/k=.any)(a g:α->U)(p:α->Bool)(c:Kd):∀(ys:List α) (acc:List U),acc.length+ys.length<=dV ->
  (∀y∈ys,Run cond (a5 (k,a y)::st) (p y) (a5 (k,a y)::st)/\(p y=b8->Run elt (a5 (k,a y)::st) (c,g y) (a5 (k,a y)::st)/\Run (lift (c,g y)) (a5 (k,a y)::st) (g y) (a5 (k,a y)::st)))->Run (bO 1 cc cond elt src (ys.map λy=>(k,a y)) acc) st (acc++(ys.filter p).map g) st
 |[],acc,_,_=>by rw[LS,Tc,LS,y1];exact xu h
 |y::ys,acc,hl,e=>by
  obtain⟨d,i⟩:=e y (by simp);rw[rz]at hl;have f:Run (eC cc (ko 1) (k,a y)) (mh 1 b6++st) () (a5 (k,a y)::st):=by
   rcases hk with rfl|rfl
   ·exact iO aD
   ·exact iO ku
  cases b:p y with
  |true =>
   rw[b]at d;obtain⟨j,l⟩:=i b;refine qK (s1:=a5 (k,a y)::st) (s2:=a5 (k,a y)::st) (s3:=a5 (k,a y)::st) (s4:=a5 (k,a y)::st) h f d j l ⋯ ?_;have:=nO h k hk a g p c ys (acc++[g y]) (by simp;lia) λz hz=>e z (by simp[hz]);rw[S5,Zq b,hW];simpa using this
  |false =>
   rw[b]at d;refine C_ (s1:=a5 (k,a y)::st) (s2:=a5 (k,a y)::st) h f d ?_;have:=nO h k hk a g p c ys acc ⋯ λz hz=>e z (by simp[hz]);rw[S5,Zr (by simp[b])];exact this
theorem cm(it:α->Kd×U)(I:List α->List α->ax->Prop)(hs:∀d r st,I d r st->bo rs st)
  (XQ:∀d y r st,I d (y::r) st->∃st1 st2,Run (eC t is (it y)) st () st1/\Run body st1 .nx st2/\I (d++[y]) r st2):∀(r d:List α) (st:ax),I d r st->∃st',Run (forM t is body rs (r.map it)) st .nx st'/\I (d++r) [] st'
 |[],d,st,h=>⟨st,AS (hs _ _ _ h),by rw[y1];exact h⟩
 |y::r,d,st,h=>by
  obtain⟨s1,s2,a,b,c⟩:=XQ d y r st h;obtain⟨s3,e,f⟩:=cm it I hs XQ r (d++[y]) s2 c;exact⟨s3,EX (hs _ _ _ h) a b e,by simpa using f⟩
theorem qN(a:Run (bc Γ es) st rs st1)(c:bo rs st1)(d:Γ f (rs.map (·.2))=a5 (.ok r))(e:t6 r.2=a5 b)(g:isAny r.1=cc:=by exact rfl):Run (GN Γ (.call f es)) st b st1:=aa a (aa (aV c) (aa (sJ d g) (cD e)))
theorem xy(c:st[i]?=a5 (a5 (k',.lst n)))(d:Run (ev Γ e) st r st1)(g:st1[i]?=a5 (a5 (k,.lst us)))(hk:k.root=b8)(h:iF r (.lst us)=a5 (.lst b))
  (j:Run (execs Γ ss) (st1.set i (a5 (k,.lst b))) f l) (m:k'≠.Gq:=by intro z;cases z):Run (execs Γ (.ext i e::ss)) st f l:=by
 refine fB (aa (dS c m) (aa (a:=()) (st1:=st) rfl (aa d (aa (a:=()) (st1:=st1.set i (a5 (k,.lst b))) ?_ aG)))) j;show modS i (iF r) st1=_;unfold modS;rw[g];simp only[hk,if_true];rw[h]
end
theorem Aa(h:xs.length+ys.length<=dV)(hs:dZ k ys=b8):iF (k,.tup ys) (.lst xs)=a5 (.lst (xs++ys)):=by
 show(if xs.length+ys.length<=dV/\dZ k ys=b8 then _ else _)=_;rw[Zq ⟨h,hs⟩]
theorem sN(h:xs.length+ys.length<=dV)(hs:dZ k ys=b8):iF (k,.lst ys) (.lst xs)=a5 (.lst (xs++ys)):=by
 show(if xs.length+ys.length<=dV/\dZ k ys=b8 then _ else _)=_;rw[Zq ⟨h,hs⟩]
theorem iQ:∀ss:List Str,cG (ss.map U.str)=b8
 |[]=>by simp[cG]
 |s::ss=>by simp[cG,G5,iQ ss]
theorem sO(r:Row):G5 (Gr r)=b8:=by simp[Gr,G5,cG,iQ]
theorem dA:∀rs:List Row,cG (rs.map Gr)=b8
 |[]=>by simp[cG]
 |r::rs=>by simp[cG,sO,dA rs]
theorem kD:∀(a b:List Str),cP (a.map U.str) (b.map U.str)=d6 (a=b)
 |[],[]=>by simp[cP]
 |[],_::_=>by simp[cP]
 |_::_,[]=>by simp[cP]
 |x::a,y::b=>by
  rw[hW,hW,cP,kD a b];simp only[cu];by_cases h:x=y
  ·subst h;simp
  ·simp[h]
theorem kF(ss:List Str)(n:Nat):ID (n+1) (.lst (ss.map U.str))=b8:=by simp[ID,fO]
theorem pf{a b:List Str}:cK .eq (.lst (a.map U.str)) (.lst (b.map U.str))=a5 (d6 (a=b)):=by
 simp only[cK];rw[Zq ⟨kF a 49,kF b 49⟩];simp only[cu,kD]
theorem nP:cK .eq (.str a) (.str b)=a5 (d6 (a=b)):=by
 simp only[cK];rw[Zq ⟨rfl,rfl⟩];simp only[cu];by_cases h:a=b
 ·subst h;simp
 ·simp[h]
theorem Ab(f:α->β)(xs:List α)(lo a:Option Int):cut (xs.map f) lo a=(cut xs lo a).map f:=by simp[cut,Yo,Yp]
theorem Ac(xs:List α)(lo a:Option Int):(cut xs lo a).length<=xs.length:=by simp[cut];lia
theorem xA(h:dZ k (a.map U.int)=b8):oK (k,.lst (a.map .int)) lo b=a5 (.own,.lst ((cut a lo b).map .int)):=by
 simp only[oK];rw[Zq h,Ab]
theorem xB(h:acc.length<4000)(a:(aE acc).length<64):qe .sset [(k,.lst (acc.map .str))]=a5 (.own,.lst ((aL (aE acc)).map .str)):=by
 have e:gU (.lst (acc.map U.str))=a5 (aE acc):=by
  show(strsOf (acc.map U.str)).bind _=_;rw[eG];show(if acc.length+1<HU then _ else _)=_;rw[Zq (by show acc.length+1<4096;lia)]
 show(gU (.lst (acc.map U.str))).bind _=_;rw[e];show(if (aE acc).length<64 then _ else _)=_;rw[Zq a]
theorem xC(l:List Str):(aL (aE l)).Nodup:=(bp _).nodup_iff.mpr (dq l)
theorem Dg(l:List Str)(x:Str):x∈aL (aE l)↔x∈l:=by rw[(bp _).mem_iff,cU]
theorem xD{l names:List Str}(h:∀x∈l,x∈names):(aE l).length<=names.length:=ie (dq l) λx a=>h x ((cU l x).mp a)
section
end
section
theorem E3(c:Run (ev Γ a) st x st1)(d:ny x.2 T=a5 b):Run (ev Γ (.IZ a T)) st (.loc,.bl b) st1:=aa c (aa (cD d) aG)
theorem mj(c:Run (ev Γ a) st x st1)(d:ny x.2 T=a5 b):Run (GN Γ (.IZ a T)) st b st1:=aa c (cD d)
end
theorem ph(h:xs.length+ys.length<=dV)(a:dZ k xs=b8)(b:dZ k' ys=b8):JA .add (k,.lst xs) (k',.lst ys)=a5 (.own,.lst (xs++ys)):=by
 simp only[JA,v9];rw[Zq ⟨h,a,b⟩]
noncomputable def cw(rows:List Row):List Str:=(rows.map λr=>r.1::r.2).flatten
noncomputable def aH(rows:List Row):List Str:=aL (aE (cw rows))
theorem pj(d:List Row)(y:Row):cw (d++[y])=cw d++[y.1]++y.2:=by simp[cw]
theorem gC:x∈cw rows↔∃r∈rows,x=r.1\/x∈r.2:=by
 simp only[cw,XD,my];constructor
 ·rintro⟨l,⟨r,a,rfl⟩,b⟩;exact⟨r,a,hU.mp b⟩
 ·rintro⟨r,a,b⟩;exact⟨_,⟨r,a,rfl⟩,hU.mpr b⟩
theorem il(h:∀r∈rows,sM names r):∀x∈cw rows,x∈names:=by
 intro x hx;obtain⟨r,a,hx⟩:=gC.mp hx;rcases hx with rfl|hx
 ·exact(h r a).word
 ·exact(h r a).told x hx
theorem kG(h:∀r∈rows,r.2.length<=8):(cw rows).length<=9 * rows.length:=by
 induction rows with
 |nil=>simp[cw]
 |cons r rows a =>
  have c:=h r (by simp);have b:=a λs hs=>h s (by simp[hs]);simp only[cw,hW,Xu,l',rz]at b ⊢;lia
theorem qO:x∈aH rows↔x∈cw rows:=Dg _ _
theorem kH(h:∀r∈rows,sM names r):(aH rows).length<=names.length:=by
 show(aL (aE (cw rows))).length<=_;rw[cI];exact xD (il h)
noncomputable def nQ:Fn:=⟨"words_of",1,3,[.set 1 (.lst []),.G1 cc [2] .seq [.var 0] [.app 1 (.idx (.var 2) (.cst (.int 0))),.ext 1 (.idx (.var 2) (.cst (.int 1)))],.ret (.K7 .sset [.var 1])]⟩
theorem nR(hl:rows.length<=100)(c:∀r∈rows,sM names r)(n:names.length<64):dt Γ nQ [.tup (rows.map Gr)]=a5 (.ok (.own,.lst ((aH rows).map .str))):=by
 have hsz:(4000:Nat)<=dV:=by decide
 have f:TM.start [.tup (rows.map Gr)] 3=[a5 (.loc,.tup (rows.map Gr)),b6,b6]:=by simp[TM.start,G5,dA]
 have b:∀r∈rows,r.2.length<=8:=λr h=>(c r h).PN;obtain⟨st',g,_,o2,e⟩:=cm (t:=cc) (is:=[2]) (body:=execs Γ [.app 1 (.idx (.var 2) (.cst (.int 0))),.ext 1 (.idx (.var 2) (.cst (.int 1)))]) (rs:=[(.loc,.tup (rows.map Gr))]) (λr:Row=>(Kd.loc,Gr r))
  (λd r st=>d++r=rows/\∃o2,st=[a5 (.loc,.tup (rows.map Gr)),a5 (.own,.lst ((cw d).map .str)),o2]) (λ_ _ _ _=>trivial) (λd y r st i=>by
   obtain⟨a,o2,e⟩:=i;subst e;have j:y∈rows:=by rw[<-a];simp
   have o:=kG (rows:=d) λs hs=>b s (by rw[<-a];simp[hs]);have l:d.length<=100:=by have:=Zv Lz a;simp at this;lia
   have p:=b y j;refine⟨[a5 (.loc,.tup (rows.map Gr)),a5 (.own,.lst ((cw d).map .str)),a5 (.loc,Gr y)],[a5 (.loc,.tup (rows.map Gr)),a5 (.own,.lst ((cw d).map .str++[.str y.1]++y.2.map .str)),a5 (.loc,Gr y)],iO aD,?_,by rw[<-a];simp,a5 (.loc,Gr y),?_⟩
   ·exact i9 (k:=.own) (k':=.own) (r:=(.loc,.str y.1)) rfl (bt (x:=(.loc,Gr y)) (af rfl) ai trivial rfl) aI rfl rfl (by rw[ei];lia)
     (xy (k:=.own) rfl (bt (x:=(.loc,Gr y)) (af rfl) ai trivial rfl) rfl rfl (Aa (by simp;lia) rfl) ay)
   ·rw[pj];simp) rows [] [a5 (.loc,.tup (rows.map Gr)),a5 (.own,.lst []),b6] ⟨rfl,b6,rfl⟩
 subst e;have m:(rows.map Gr).map (λu=>(kE .loc,u))=rows.map λr=>(Kd.loc,Gr r):=by rw[vu];rfl
 have q:=kG b;have l:=xD (il c);exact bC rfl (.inl rfl) f (aA (r:=(.own,.lst [])) (cE ak trivial aO (oT _)) bF (di (rs:=[(.loc,.tup (rows.map Gr))]) (ae (af rfl) ak) trivial rfl rfl (by rw[m];exact g) (bS (AQ (ae (aR rfl) ak) ⟨⟨.own,rfl,rfl⟩,trivial⟩ (xB ⋯ ⋯)) ic)))
theorem Ad(h:ks.length<1000):eT (.str x) u (.GD ks us)=a5 (.GD (dput ks us x u).1 (dput ks us x u).2):=by
 have hsz:(1000:Nat)<=dV:=by decide
 show(if ks.length<dV then _ else _)=_;rw[Zq ⋯]
end TM
namespace Od
section
variable{W:Type}[DecidableEq W]{rows:List (W×List W)}
end
end Od
namespace TM
open PySem L2 GZ
section
theorem sQ(h:Run c st cc st1):Run (fS c body (n+1)) st .nx st1:=aa h aG
theorem xE(h:Run c st b8 st1)(a:Run body st1 .nx st2)(b:Run (fS c body n) st2 f d):Run (fS c body (n+1)) st f d:=aa h (aa a b)
theorem xF(h:Run (fS (GN Γ c) (execs Γ body) fuel) st .nx st1)(a:Run (execs Γ ss) st1 f st2):Run (execs Γ (.K9 c body::ss)) st f st2:=fB h a
theorem pk(hk:k=.loc\/k=.any):Run (eC b8 [i,j] (k,.tup [a,b])) st () ((st.set i (a5 (k,a))).set j (a5 (k,b))):=by
 rcases hk with rfl|rfl<;>rfl
theorem Dh(h:Run (execs Γ ss) (st.set i (a5 (.Gq,.GD [] []))) f st1):Run (execs Γ (.newD i::ss)) st f st1:=fB (aa (a:=()) (st1:=st.set i (a5 (.Gq,.GD [] []))) rfl aG) h
theorem nS(h:st[i]?=a5 (a5 (.Gq,.GD ks us))):Run (gV i) st (ks,us) st:=by
 show gV i st=_;unfold gV;rw[h]
theorem qP:Run (jh (k,.str y)) st y st:=rfl
theorem Ae(a:st[i]?=a5 (a5 (.Gq,.GD ks us)))(b:y∉ks)(c:ks.length<dV):Run (j3 i y (.own,.lst xs)) st () (st.set i (a5 (.Gq,.GD (ks++[y]) (us++[.lst xs])))):=by
 show j3 i y (.own,.lst xs) st=_;unfold j3
 dsimp only
 rw[a]
 dsimp only
 rw[Zq ⟨b,c⟩]
theorem Af(a:st[i]?=a5 (a5 (.Gq,.GD ks us)))(b:dN ks us y=a5 (.lst xs))(c:xs.length<dV):Run (j4 i y u) st () (st.set i (a5 (.Gq,.GD ks (ji ks us y (.lst (xs++[u])))))):=by
 show j4 i y u st=_;unfold j4;rw[a]
 dsimp only
 rw[b]
 dsimp only
 rw[Zq c]
theorem E4(b:Run (ev Γ a) st (k,.str y) st1)(c:st1[i]?=a5 (a5 (.Gq,.GD ks us))):Run (GN Γ (.inD neg a i)) st (Qy neg y ks) st1 :=
 aa b (aa qP (aa (nS c) aG))
theorem Di(b:Run (ev Γ c) st (.own,.lst xs) st1)(a:st1[i]?=a5 (a5 (.Gq,.GD ks us)))(d:Run (ev Γ e) st1 (k,.str y) st1)(g:y∉ks)(h:ks.length<dV)
  (j:Run (execs Γ ss) (st1.set i (a5 (.Gq,.GD (ks++[y]) (us++[.lst xs])))) f l):Run (execs Γ (.putD i e c::ss)) st f l:=by
 refine fB ?_ j;exact aa b (aa (nS a) (aa d (aa qP (aa (Ae a g h) aG))))
theorem Dj(a:st[i]?=a5 (a5 (.Gq,.GD ks us)))(b:Run (ev Γ c) st (k,.str y) st)(d:y∈ks)(e:Run (ev Γ g) st r st)(h:Run (lift r) st u st)(j:dN ks us y=a5 (.lst xs))(l:xs.length<dV)
  (m:Run (execs Γ ss) (st.set i (a5 (.Gq,.GD ks (ji ks us y (.lst (xs++[u])))))) f n):Run (execs Γ (.I_ i c g::ss)) st f n:=by
 refine fB ?_ m;refine aa (nS a) (aa b (aa qP (aa (nS a) ?_)));rw[Zq d];exact aa e (aa h (aa (Af a j l) aG))
theorem E5(h:st[i]?=a5 (a5 (.Gq,u))):Run (ev Γ (.Mx i)) st (.bor i,u) (st.set i (a5 (.own,u))):=by
 show wb i st=_;unfold wb;rw[h]
end
theorem ip(f:Str->U)(y:Str):∀ks:List Str,dN ks (ks.map f) y=if y∈ks then a5 (f y) else b6
 |[]=>rfl
 |k::ks=>by
  rw[hW];show(if k=y then a5 (f k) else dN ks (ks.map f) y)=_;by_cases e:k=y
  ·subst e;rw[Zq rfl,Zq (by simp)]
  ·rw[Zr e,ip f y ks];have:(y∈k::ks)↔y∈ks:=by simp[uv e]
   by_cases h:y∈ks
   ·rw[Zq h,Zq (this.mpr h)]
   ·rw[Zr h,Zr λz=>h (this.mp z)]
theorem pq(f:Str->U)(y:Str)(u:U):∀ks:List Str,ks.Nodup->ji ks (ks.map f) y u=ks.map λk=>if k=y then u else f k
 |[],_=>rfl
 |k::ks,h=>by
  obtain⟨a,b⟩:=td.mp h;rw[hW,hW];show(if k=y then u::ks.map f else f k::ji ks (ks.map f) y u)=_;by_cases e:k=y
  ·subst e;rw[Zq rfl,Zq rfl];congr 1
   refine Nl λz hz=>?_;have c:z≠k:=λq=>a (by rw[<-q];exact hz);rw[Zr c]
  ·rw[Zr e,Zr e,pq f y u ks b]
theorem Dk:cK .isin (.str x) (.GD ks vs)=a5 (d6 (x∈ks)):=rfl
theorem mn:cK .G0 (.str x) (.GD ks vs)=a5 (!d6 (x∈ks)):=rfl
theorem AV{ss:List Str}:cK .isin (.str x) (.lst (ss.map U.str))=a5 (d6 (x∈ss)):=by
 have h:=@ig x ss;have e:cK .G0 (.str x) (.lst (ss.map U.str))=(cK .isin (.str x) (.lst (ss.map U.str))).map (!·):=rfl;rw[e,i1]at h;obtain⟨b,a,c⟩:=h;rw[a];congr 1
 cases b<;>simp_all
theorem Ag(bs:List Bool):JB .all [(k,.lst (bs.map .bl))]=a5 (.loc,.bl (bs.all id)):=by
 show(fZ (bs.map U.bl)).map _=_;have:∀bs:List Bool,fZ (bs.map U.bl)=a5 bs:=λbs=>by
  induction bs with
  |nil=>rfl
  |cons b bs a=>show(fZ (bs.map U.bl)).map _=_;rw[a];rfl
 rw[this];rfl
section
end
theorem Ah:cK .eq (.tup (ss.map U.str)) (.tup [])=a5 (d6 (ss=[])):=by
 simp only[cK];rw[Zq ⟨by simp[ID,fO],by simp[ID,jY]⟩];cases ss with
 |_=>simp[cu,cP]
section
theorem E6(c:Run (ev Γ a) st x st1)(d:gU x.2=a5 e)(f:Run (ev Γ b) st1 y st2)(g:gU y.2=a5 h)(i:t5 ln e h=a5 r):Run (ev Γ (.LO ln a b)) st r st2 :=
 aa c (aa (cD d) (aa f (aa (cD g) (cD i))))
end
theorem mq(h:ss.length<4000):gU (.lst (ss.map .str))=a5 (aE ss):=by
 show(strsOf (ss.map U.str)).bind _=_;rw[eG];show(if ss.length+1<HU then _ else _)=_;rw[Zq (by show ss.length+1<4096;lia)]
end TM
namespace TM
open PySem L2
section
theorem dg(h:st[i]?=a5 (a5 (.io,u))):Run (ev Γ (.var i)) st (.bor i,u) st:=dS h
end
noncomputable def Dl:List S :=
   [.ite (.cmp .eq (.bi .len [.var 0]) (.cst (.int 0)))
      [.ret (.lst [.var 1,.cst (.int 0),.cst (.int 1)])]
      [],
    .set 2 (.pop 0),
    .ret (.lst [(.bin .LM (.var 2) (.cst (.int 2))),(.cst (.int 0)),(.bin .mod (.var 2) (.cst (.int 2)))])]
noncomputable def xG:Fn:=⟨"_law_source",2,3,.JK [0]::Dl⟩
theorem S4:(3:Nat)<=dV:=by decide
theorem xH:fT Γ xG [0] Dl [.lst [],.int k]=a5 (.ok (.own,.tup [.lst [.int k,.int 0,.int 1],.lst []])):=by
 refine bT (st0:=[a5 (.io,.lst []),a5 (.loc,.int k),b6]) (f:=.rt .own (.lst [.int k,.int 0,.int 1])) (st:=[a5 (.io,.lst []),a5 (.loc,.int k),b6]) rfl rfl ?_ rfl rfl;apply iN
 all_goals repeat' (first|exact dg rfl|exact cj (by simp)|exact bP|exact S4|sizeOf_list_dec)
theorem xI:fT Γ xG [0] Dl [.lst ((ns++[c]).map .int),.int k]=a5 (.ok (.own,.tup [.lst [.int (c / 2),.int 0,.int (c % 2)],.lst (ns.map .int)])):=by
 have hl:cK .eq (.int (((ns++[c]).map U.int).length:Nat)) (.int 0)=a5 cc:=cj (by simp;lia);have a:((ns++[c]).map U.int).dropLast=ns.map .int:=by simp
 have b:Run (ev Γ (.pop 0)) [a5 (.io,.lst ((ns++[c]).map .int)),a5 (.loc,.int k),b6] (.loc,.int c) [a5 (.io,.lst (ns.map .int)),a5 (.loc,.int k),b6]:=by
  have:=AU (Γ:=Γ) (st:=[a5 (.io,.lst ((ns++[c]).map .int)),a5 (.loc,.int k),b6]) (i:=0) (u:=.int c) (us:=(ns++[c]).map .int) (k:=.io) rfl rfl (by simp);rw[a]at this;exact this
 refine bT (st0:=[a5 (.io,.lst ((ns++[c]).map .int)),a5 (.loc,.int k),b6]) (f:=.rt .own (.lst [.int (c / 2),.int 0,.int (c % 2)])) (st:=[a5 (.io,.lst (ns.map .int)),a5 (.loc,.int k),a5 (.loc,.int c)]) rfl rfl ?_ rfl rfl;refine ba (st1:=[a5 (.io,.lst ((ns++[c]).map .int)),a5 (.loc,.int k),b6]) ?_ ay (aA (st2:=[a5 (.io,.lst (ns.map .int)),a5 (.loc,.int k),a5 (.loc,.int c)]) b aD ?_)
 all_goals repeat' (first|exact dg rfl|exact hl|exact bP|exact S4|sizeOf_list_dec)
noncomputable def e_(a t w:Int):U:=.lst [.int a,.int t,.int w]
noncomputable def mr(a t w m:Int):Int:=if w=0 then a % m else((a % 10 ^ 15+1) * 48271+(t+1) * (t+1) * 16807+(t+1) * 7919) % 2147483647 * 69621 % 2147483629 % m
noncomputable def xJ(a w m:Int):Int:=if w=0 then a / m else a
noncomputable def AW:List S :=
   [.put 0 (.cst (.int 1)) (.bin .add (.idx (.var 0) (.cst (.int 1))) (.cst (.int 1))),
    .ite (.cmp .eq (.idx (.var 0) (.cst (.int 2))) (.cst (.int 0)))
      [.set 2 (.bin .mod (.idx (.var 0) (.cst (.int 0))) (.var 1)),
      .put 0 (.cst (.int 0)) (.bin .LM (.idx (.var 0) (.cst (.int 0))) (.var 1)),
      .ret (.var 2)]
      [],
    .set 3 (.idx (.var 0) (.cst (.int 1))),
    .set 4 (.bin .add (.bin .add (.bin .mul (.bin .add (.bin .mod (.idx (.var 0) (.cst (.int 0))) (.bin .pow (.cst (.int 10)) (.cst (.int 15)))) (.cst (.int 1))) (.cst (.int 48271))) (.bin .mul (.bin .mul (.var 3) (.var 3)) (.cst (.int 16807)))) (.bin .mul (.var 3) (.cst (.int 7919)))),
    .ret (.bin .mod (.bin .mod (.bin .mul (.bin .mod (.var 4) (.cst (.int 2147483647))) (.cst (.int 69621))) (.cst (.int 2147483629))) (.var 1))]
noncomputable def sR:Fn:=⟨"_law_draw",2,5,.JK [0]::AW⟩
theorem xK(i:0<=t)(j:t<2 ^ 62)(m0:0<m)(m1:m<1073741824):fT Γ sR [0] AW [e_ a t w,.int m]=a5 (.ok (.loc,.tup [.int (mr a t w m),e_ (xJ a w m) (t+1) w])):=by
 unfold mr xJ e_;have c:∀a t w:Int,Hs [U.int a,.int t,.int w] 0=a5 (.int a):=λa t w=>rfl;have d:∀a t w:Int,Hs [U.int a,.int t,.int w] 1=a5 (.int t):=λa t w=>rfl;have e:∀a t w:Int,Hs [U.int a,.int t,.int w] 2=a5 (.int w):=λa t w=>rfl;have g:∀a t w x:Int,eT (.int 1) (.int x) (.lst [.int a,.int t,.int w])=a5 (.lst [.int a,.int x,.int w]):=λa t w x=>rfl;have h:∀a t w x:Int,eT (.int 0) (.int x) (.lst [.int a,.int t,.int w])=a5 (.lst [.int x,.int t,.int w]):=λa t w x=>rfl;by_cases b:w=0
 ·subst b;rw[Zq rfl,Zq rfl];refine bT (st0:=[a5 (.io,.lst [.int a,.int t,.int 0]),a5 (.loc,.int m),b6,b6,b6]) (f:=.rt .loc (.int (a % m))) (st:=[a5 (.io,.lst [.int (a / m),.int (t+1),.int 0]),a5 (.loc,.int m),a5 (.loc,.int (a % m)),b6,b6]) rfl rfl ?_ rfl rfl;refine ij (rv:=(.loc,.int (t+1))) (rk:=(.loc,.int 1)) (k:=.io) (k':=.io) (bx (bt (dg rfl) ai ∅ (bU (d _ _ _))) ai ∅ b_) rfl ai (az aI (az aI aO)) rfl rfl (g _ _ _ _) ?_;apply iN
  ·repeat' (first|exact dg rfl|exact bU (e _ _ _)|exact cj (show((0:Int)==0)=b8 from rfl)|sizeOf_list_dec)
  ·refine aA (st2:=[a5 (.io,.lst [.int a,.int (t+1),.int 0]),a5 (.loc,.int m),a5 (.loc,.int (a % m)),b6,b6]) (bx (bt (dg rfl) ai ∅ (bU (c _ _ _))) (af rfl) ∅ (dW m0)) aD ?_;refine ij (rv:=(.loc,.int (a / m))) (rk:=(.loc,.int 0)) (k:=.io) (k':=.io) (bx (bt (dg rfl) ai ∅ (bU (c _ _ _))) (af rfl) ∅ (kC ⟨m0,m1⟩)) rfl ai (az aI (az aI aO)) rfl rfl (h _ _ _ _) ?_
   repeat' sizeOf_list_dec
 ·rw[Zr b,Zr b];refine bT (st0:=[a5 (.io,.lst [.int a,.int t,.int w]),a5 (.loc,.int m),b6,b6,b6]) (f:=.rt .loc (.int (((a % 10 ^ 15+1) * 48271+(t+1) * (t+1) * 16807+(t+1) * 7919) % 2147483647 * 69621 % 2147483629 % m))) (st:=[a5 (.io,.lst [.int a,.int (t+1),.int w]),a5 (.loc,.int m),b6,a5 (.loc,.int (t+1)),a5 (.loc,.int ((a % 10 ^ 15+1) * 48271+(t+1) * (t+1) * 16807+(t+1) * 7919))]) rfl rfl ?_ rfl rfl;refine ij (rv:=(.loc,.int (t+1))) (rk:=(.loc,.int 1)) (k:=.io) (k':=.io) (bx (bt (dg rfl) ai ∅ (bU (d _ _ _))) ai ∅ b_) rfl ai (az aI (az aI aO)) rfl rfl (g _ _ _ _) ?_;apply ba
  ·repeat' (first|exact dg rfl|exact bU (e _ _ _)|exact cj (show(w==0)=cc by simp[b])|sizeOf_list_dec)
  ·exact ay
  ·repeat' (first|exact dg rfl|exact bU (c _ _ _)|exact bU (d _ _ _)|exact dW m0|sizeOf_list_dec)
def Src(T:Int)(u:U):Prop:=∃a t w,u=e_ a t w/\0<=t/\t<=T
theorem Src.up(h:Src T u)(l:T<=b):Src b u:=let ⟨a,t,w,e,c,d⟩:=h;⟨a,t,w,e,c,YZ d l⟩
def bg(Γ:Tab):Prop:=∀(T m:Int) (u:U),Src T u->T<2 ^ 62->0<m->m<1073741824->∃n u',Γ "_law_draw" [u,.int m]=a5 (.ok (.loc,.tup [.int n,u']))/\0<=n/\n<m/\Src (T+1) u'
theorem pv(m0:0<m):0<=mr a t w m/\mr a t w m<m:=by
 unfold mr;split
 ·exact⟨Po _ ⋯,P' _ m0⟩
 ·exact⟨Po _ ⋯,P' _ m0⟩
theorem qQ(h:G_ Pg "_law_draw" sR):bg (GG Pg (d+1)):=by
 rintro T m u ⟨a,t,w,rfl,b,c⟩ e m0 m1;refine⟨mr a t w m,e_ (xJ a w m) (t+1) w,?_,(pv m0).1,(pv m0).2,⟨_,_,_,rfl,⋯,⋯⟩⟩;rw[cF h _ rfl];exact xK b ⋯ m0 m1
section
theorem xM(o:bg Γ)(p:st[i]?=a5 (a5 (k0,b)))(f:k0.root=b8)(q:Run (ev Γ e) st (.loc,.int m) st1)(d:st1[i]?=a5 (a5 (k,u)))(hk:k.root=b8)(g:Src T u)(r:T<2 ^ 62)(m0:0<m)(m1:m<1073741824):
  ∃n u',Run (ev Γ (.Gy "_law_draw" [.var i,e] [0])) st (.loc,.int n) (st1.set i (a5 (k,u')))/\0<=n/\n<m/\Src (T+1) u':=by
 obtain⟨n,u',s,v,x,hs⟩:=o T m u g r m0 m1;refine⟨n,u',?_,v,x,hs⟩;obtain⟨a,t,w,rfl,_,_⟩:=hs;obtain⟨a0,h,l,rfl,_,_⟩:=g;have y:Run (ev Γ (.var i)) st (.bor i,b) st:=by
  have:=dS p (by rintro rfl;cases f);unfold kv at this;rw[Zq f]at this;exact this
 have c:[((Kd.bor i,b):Kd×U),(.loc,.int m)].map (dO st1)=[(.bor i,e_ a0 h l),(.loc,.int m)]:=by
  show [dO st1 (.bor i,b),(.loc,.int m)]=_;unfold dO
  dsimp only
  rw[d];simp[hk]
 refine qL (rs:=[(.bor i,b),(.loc,.int m)]) (ws:=[e_ a t w]) (st1:=st1) (ae y (ae q ak)) ?_ ?_ (.inr rfl) ?_ ?_
 ·rw[c];exact⟨⟨k,hk,d⟩,trivial⟩
 ·rw[c];exact s
 ·rw[c];show((b8&&d6 ([a5 i].Nodup))&&(b8&&(b8&&b8)))=b8;simp
 ·rw[c];show(match gy [(Kd.bor i,e_ a0 h l),(.loc,.int m)] 0 with|some j=>(match e_ a t w,st1[j]? with|.lst us,a5 (a5 (k,_))=>f9 _ [] [] (st1.set j (a5 (k,.lst us)))|_,_=>b6)|none=>b6)=_;show(match e_ a t w,st1[i]? with|.lst us,a5 (a5 (k,_))=>f9 _ [] [] (st1.set i (a5 (k,.lst us)))|_,_=>b6)=_;rw[d];rfl
theorem cQ(b:bg Γ)(a:st[i]?=a5 (a5 (k,u)))(hk:k.root=b8)(c:Run (ev Γ e) st (.loc,.int m) st)(d:Src T u)(f:T<2 ^ 62)(m0:0<m)(m1:m<1073741824):
  ∃n u',Run (ev Γ (.Gy "_law_draw" [.var i,e] [0])) st (.loc,.int n) (st.set i (a5 (k,u')))/\0<=n/\n<m/\Src (T+1) u':=xM b a hk c a hk d f m0 m1
end
section
theorem iR(h:st[i]?=a5 (a5 (.loc,.bl b))):Run (GN Γ (.var i)) st b st:=aa (dS h) (cD rfl)
end
noncomputable def xN:List S :=
   [.set 6 (.idx (.var 1) (.Gy "_law_draw" [.var 0,.bi .len [.var 1]] [0])),
   .ite (.and [.var 3,.cmp .gt (.var 2) (.cst (.int 0))])
    [.set 6 (.idx (.var 1) (.Gy "_law_draw" [.var 0,.var 2] [0]))]
    [],
   .ite (.cmp .G0 (.var 6) (.var 4))
    [.app 4 (.var 6)]
    []]
noncomputable def E7:List U:=[.int 0,.int 1,.int 1,.int 2,.int 2,.int 3,.int 8,.int 2]
noncomputable def E8:List S :=
   [.set 4 (.lst []),
    .G1 cc [5] .Hk [.idx (.lst [.cst (.int 0),.cst (.int 1),.cst (.int 1),.cst (.int 2),.cst (.int 2),.cst (.int 3),.cst (.int 8),.cst (.int 2)]) (.Gy "_law_draw" [.var 0,.cst (.int 8)] [0])] xN,
    .ret (.tup [(.idx (.var 1) (.var 2)),(.bi .tuple [(.var 4)])])]
noncomputable def Dm:Fn:=⟨"_law_row",4,7,.JK [0]::E8⟩
noncomputable def dM(u:U)(ws:List Str)(at_:Int)(b:Bool)(told:List Str)(o5 o6:Option (Kd×U)):ax:=[a5 (.io,u),a5 (.any,.lst (ws.map .str)),a5 (.loc,.int at_),a5 (.loc,.bl b),a5 (.own,.lst (told.map .str)),o5,o6]
theorem nU{ws:List Str}{n:Int}(b:0<=n)(c:n<ws.length):∃x,x∈ws/\ws[n.toNat]?=a5 x/\Hs (ws.map U.str) n=a5 (.str x):=by
 obtain⟨k,rfl⟩:=wk b;have a:k<ws.length:=by lia
 exact⟨ws[k],Ki a,by simp[a],jm (by simp[a])⟩
theorem xO(h:bg Γ)(r:Src T u)(D:T+1<2 ^ 62)(G:ws.length<1000000)(a0:0<=at_)(H:at_<ws.length)(I:told.length<=8):
  ∃u' x a,Run (execs Γ xN) (dM u ws at_ b told o5 o6) .nx (dM u' ws at_ b a o5 (a5 (.any,.str x)))/\Src (T+2) u'/\(a=told\/(x∈ws/\x∉told/\a=told++[x])):=by
 have s:(8:Nat)<dV:=by decide
 obtain⟨n,d,t,v,j,s1⟩:=cQ (st:=dM u ws at_ b told o5 o6) h (i:=0) (k:=.io) (e:=.bi .len [.var 1]) (m:=((ws.map U.str).length:Nat)) rfl rfl (c_ (ae (aX rfl) ak) trivial bP) r ⋯ (by simp;lia) (by simp;lia);rw[ei]at j;obtain⟨x,w,_,ex⟩:=nU v j;have l:Run (ev Γ (.idx (.var 1) (.Gy "_law_draw" [.var 0,.bi .len [.var 1]] [0]))) (dM u ws at_ b told o5 o6) (.any,.str x) (dM d ws at_ b told o5 o6):=bt (aX rfl) t trivial (bU (k:=.any) ex);have c:∀(u2:U) (y:Str),y∈ws->Src (T+2) u2->∃u' x a,Run (execs Γ [.ite (.cmp .G0 (.var 6) (.var 4)) [.app 4 (.var 6)] []]) (dM u2 ws at_ b told o5 (a5 (.any,.str y))) .nx (dM u' ws at_ b a o5 (a5 (.any,.str x)))/\Src (T+2) u'/\(a=told\/(x∈ws/\x∉told/\a=told++[x])):=by
  intro u2 y f hs;by_cases g:y∈told
  ·refine⟨u2,y,told,?_,hs,.inl rfl⟩;refine ba (aU (aX rfl) (aR rfl) ∅ (ig.trans (by simp[g]))) ay ay
  ·refine⟨u2,y,told++[y],?_,hs,.inr ⟨f,g,rfl⟩⟩;refine dJ (aU (aX rfl) (aR rfl) ∅ (ig.trans (by simp[g]))) (i9 (k:=.own) (k':=.own) rfl (aX rfl) (xq rfl) rfl rfl (by simp;lia) ay) ?_;rw[show told.map U.str++[U.str y]=(told++[y]).map U.str by simp];exact ay
 by_cases o:b=b8/\0<at_
 ·obtain⟨rfl,p⟩:=o;obtain⟨J,u2,A,B,L,s2⟩:=cQ (st:=dM d ws at_ b8 told o5 (a5 (.any,.str x))) h (i:=0) (k:=.io) (e:=.var 2) (m:=at_) rfl rfl (af rfl) s1 ⋯ p ⋯;obtain⟨y,f,_,C⟩:=nU (ws:=ws) B ⋯;obtain⟨u',z,a,q,hs,ho⟩:=c u2 y f (s2.up ⋯);refine⟨u',z,a,aA l ku (dJ (kn (kq (iR rfl) (fz (aU (af rfl) ai trivial (i_ (by simp[p])))))) (aA (bt (aX rfl) A trivial (bU (k:=.any) C)) ku ay) q),hs,ho⟩
 ·obtain⟨u',z,a,q,hs,ho⟩:=c d x w (s1.up ⋯);refine⟨u',z,a,aA l ku (ba (st1:=dM d ws at_ b told o5 (a5 (.any,.str x))) (kn ?_) ay q),hs,ho⟩;cases b with
  |false=>exact qH (iR rfl)
  |true=>exact kq (iR rfl) (fz (aU (af rfl) ai trivial (i_ (by simp at o ⊢;lia))))
def kI(Γ:Tab):Prop:=∀(T at_:Int) (u:U) (ws:List Str) (b:Bool),Src T u->T+17<2 ^ 62->ws.length<1000000->0<=at_->at_<ws.length->∃(x:Str) (told:List Str) (u':U),Γ "_law_row" [u,.lst (ws.map .str),.int at_,.bl b]=a5 (.ok (.loc,.tup [.tup [.str x,.tup (told.map .str)],u']))/\ws[at_.toNat]?=a5 x/\told.Nodup/\(∀y∈told,y∈ws)/\told.length<=8/\Src (T+17) u'
theorem Ai(a:0<=n)(b:n<8):∃m:Nat,m<=8/\Hs E7 n=a5 (.int (m:Nat)):=by
 obtain⟨k,rfl⟩:=wk a;have:k=0\/k=1\/k=2\/k=3\/k=4\/k=5\/k=6\/k=7:=by lia
 rcases this with rfl|rfl|rfl|rfl|rfl|rfl|rfl|rfl
 ·exact⟨0,⋯,rfl⟩
 ·exact⟨1,⋯,rfl⟩
 ·exact⟨1,⋯,rfl⟩
 ·exact⟨2,⋯,rfl⟩
 ·exact⟨2,⋯,rfl⟩
 ·exact⟨3,⋯,rfl⟩
 ·exact⟨8,⋯,rfl⟩
 ·exact⟨2,⋯,rfl⟩
theorem Aj(l:bg Γ){ws:List Str}{T at_:Int}(o:Src T u)(hT:T+17<2 ^ 62)(A:ws.length<1000000)(a0:0<=at_)(p:at_<ws.length):
  ∃(x:Str) (told:List Str) (u':U),fT Γ Dm [0] E8 [u,.lst (ws.map .str),.int at_,.bl b]=a5 (.ok (.loc,.tup [.tup [.str x,.tup (told.map .str)],u']))/\ws[at_.toNat]?=a5 x/\told.Nodup/\(∀y∈told,y∈ws)/\told.length<=8/\Src (T+17) u':=by
 have B:(8:Nat)<dV:=by decide
 obtain⟨x,_,C,ex⟩:=nU a0 p;obtain⟨n,s,D,G,H,s1⟩:=cQ (st:=dM u ws at_ b [] b6 b6) l (i:=0) (k:=.io) (e:=.cst (.int 8)) (m:=8) rfl rfl ai o ⋯ ⋯ ⋯;obtain⟨m,hm,em⟩:=Ai G H;obtain⟨st',I,u2,told,o5,o6,rfl,s2,g,j,v,_⟩:=cm (rs:=[(.loc,.int (m:Nat))]) (t:=cc) (is:=[5]) (body:=execs Γ xN) (λi:Nat=>(Kd.loc,U.int (0+(i:Int)))) (λd r st=>∃(u2:U) (told:List Str) (o5 o6:Option (Kd×U)),st=dM u2 ws at_ b told o5 o6/\Src (T+1+2 * (d.length:Nat)) u2/\told.Nodup/\(∀y∈told,y∈ws)/\told.length<=d.length/\d.length+r.length=m)
  (λd r st _=>trivial) (λd y r st h=>by
   obtain⟨u2,told,o5,o6,rfl,s2,g,j,v,J⟩:=h;simp only[rz]at J;obtain⟨L,z,N,q,s3,ho⟩:=xO l (u:=u2) (ws:=ws) (told:=told) (b:=b) (at_:=at_) (o5:=a5 (.loc,.int (0+(y:Int)))) (o6:=o6) s2 ⋯ A a0 p ⋯;refine⟨dM u2 ws at_ b told (a5 (.loc,.int (0+(y:Int)))) o6,_,aD,q,L,N,_,_,rfl,s3.up (by simp;lia),?_⟩;rw[l',IS];rcases ho with rfl|⟨O,Q,rfl⟩
   ·exact⟨g,j,⋯,⋯⟩
   ·refine⟨JJ.mpr ⟨g,by simp,λa Y c w=>by rw[kr]at w;subst w;exact λe=>Q (e▸Y)⟩,λy hy=>?_,by simp;lia,⋯⟩;rcases qd.mp hy with hy|hy
    ·exact j y hy
    ·rw[kr]at hy;subst hy;exact O) (ko m) [] (dM s ws at_ b [] b6 b6) ⟨s,[],b6,b6,rfl,by simpa using s1,by simp,by simp,by simp,by simp⟩
 rw[u6,G9]at s2 v;refine⟨x,told,u2,?_,C,g,j,⋯,s2.up ⋯⟩;refine bT (st0:=[a5 (.io,u),a5 (.any,.lst (ws.map .str)),a5 (.loc,.int at_),a5 (.loc,.bl b),b6,b6,b6]) (f:=.rt .loc (.tup [.str x,.tup (told.map .str)])) (st:=dM u2 ws at_ b told o5 o6) rfl ?_ ?_ rfl rfl
 ·obtain⟨_,_,_,rfl,_⟩:=o;rfl
 refine aA (st2:=dM u ws at_ b [] b6 b6) (cE ak trivial aO (oT _)) bF ?_;refine di (rs:=[(.loc,.int (m:Nat))]) (ae (bt (x:=(.own,.lst E7)) (cE (by repeat (first|exact ak|exact ae ai (by assumption)|apply ae ai)) (by exact trivial) (by repeat (first|exact aO|apply az aI)) (by decide)) D trivial (bU em)) ak) trivial (fC ⋯) rfl I ?_;exact bS (i8 (ae (bt (aX rfl) (af rfl) trivial (bU (k:=.any) ex)) (ae (c_ (ae (aR rfl) ak) ∅ rfl) ak)) trivial (az (xq rfl) (az aI aO)) (by show 2<=dV;lia)) fA
theorem E9(a:bg (GG Pg d))(h:G_ Pg "_law_row" Dm):kI (GG Pg (d+1)):=by
 intro T at_ u ws b c f g a0 i;obtain⟨x,told,u',e,r⟩:=Aj a (b:=b) c f g a0 i;exact⟨x,told,u',by rw[cF h _ rfl];exact e,r⟩
noncomputable def AX:List S :=
   [.ite (.and [.cmp .eq (.idx (.var 2) (.cst (.int 0))) (.idx (.var 1) (.cst (.int 0))),.cmp .eq (.bi .sorted [.idx (.var 2) (.cst (.int 1))]) (.bi .sorted [.idx (.var 1) (.cst (.int 1))])])
    [.Jz]
    []]
noncomputable def E_:List S:=[.G1 cc [2] .seq [.var 0] AX,.app 0 (.var 1)]
noncomputable def Ak:Fn:=⟨"_law_lay",2,3,.JK [0]::E_⟩
noncomputable def gb(rs:List Row)(r:Row)(o:Option (Kd×U)):ax:=[a5 (.io,.lst (rs.map Gr)),a5 (.loc,Gr r),o]
noncomputable def layR(rs:List Row)(r:Row):List Row:=if keyOf r∈rs.map keyOf then rs else rs++[r]
theorem xP(c:x.2.length<64)(d:r.2.length<64):Run (GN Γ (.and [.cmp .eq (.idx (.var 2) (.cst (.int 0))) (.idx (.var 1) (.cst (.int 0))),.cmp .eq (.bi .sorted [.idx (.var 2) (.cst (.int 1))]) (.bi .sorted [.idx (.var 1) (.cst (.int 1))])])) (gb rs r (a5 (.loc,Gr x))) (d6 (keyOf x=keyOf r)) (gb rs r (a5 (.loc,Gr x))):=by
 have a:∀y:Row,gT (.loc,Gr y) (.int 0)=a5 (.loc,.str y.1):=λy=>rfl;have b:∀y:Row,gT (.loc,Gr y) (.int 1)=a5 (.loc,.tup (y.2.map .str)):=λy=>rfl;have f:Run (GN Γ (.cmp .eq (.idx (.var 2) (.cst (.int 0))) (.idx (.var 1) (.cst (.int 0))))) (gb rs r (a5 (.loc,Gr x))) (d6 (x.1=r.1)) (gb rs r (a5 (.loc,Gr x))):=aU (bt (af rfl) ai trivial (a x)) (bt (af rfl) ai trivial (a r)) trivial nP;have g:Run (GN Γ (.cmp .eq (.bi .sorted [.idx (.var 2) (.cst (.int 1))]) (.bi .sorted [.idx (.var 1) (.cst (.int 1))]))) (gb rs r (a5 (.loc,Gr x))) (d6 (aL x.2=aL r.2)) (gb rs r (a5 (.loc,Gr x))):=aU (c_ (ae (bt (af rfl) ai trivial (b x)) ak) trivial (sorted_strs c)) (c_ (ae (bt (af rfl) ai trivial (b r)) ak) trivial (sorted_strs d)) trivial pf;have e:d6 (keyOf x=keyOf r)=(d6 (x.1=r.1)&&d6 (aL x.2=aL r.2)):=by
  rw[<-Bool.decide_and];exact decide_eq_decide.mpr (by unfold keyOf;exact Uj ..▸Iff.rfl)
 rw[e];exact kn (xx f λ_=>fz g)
theorem Dn:Run (execs Γ (.Jz::ss)) st (.rt .loc .Gv) st:=qJ (aG)
theorem pw(c:r.2.length<64):∀(xs:List Row) (o:Option (Kd×U)),(∀x∈xs,x.2.length<64) ->
  ∃b,Run (forM cc [2] (execs Γ AX) [(.bor 0,.lst (rs.map Gr))] (xs.map λx=>(Kd.loc,Gr x))) (gb rs r o) (if keyOf r∈xs.map keyOf then .rt .loc .Gv else .nx) (gb rs r b)
 |[],o,_=>⟨o,by rw[Zr (by simp)];exact AS ⟨⟨_,rfl,rfl⟩,trivial⟩⟩
 |x::xs,o,h=>by
  have a:=xP (Γ:=Γ) (rs:=rs) (h x (by simp)) c;by_cases hk:keyOf x=keyOf r
  ·refine⟨a5 (.loc,Gr x),?_⟩;rw[Zq (by simp[hk])];rw[Zt hk]at a;exact Gk ⟨⟨_,rfl,rfl⟩,trivial⟩ aD (iN a Dn)
  ·rw[Zs hk]at a;obtain⟨b,q⟩:=pw (Γ:=Γ) (rs:=rs) c xs (a5 (.loc,Gr x)) λy d=>h y (by simp[d]);refine⟨b,?_⟩;have f:(keyOf r∈(x::xs).map keyOf)↔(keyOf r∈xs.map keyOf):=by
    rw[hW,hU];exact⟨λz=>z.resolve_left λe=>hk e.symm,.inr⟩
   rw[show(if keyOf r∈(x::xs).map keyOf then Fl.rt .loc .Gv else Fl.nx)=(if keyOf r∈xs.map keyOf then Fl.rt .loc .Gv else Fl.nx) by simp only[f]];exact EX ⟨⟨_,rfl,rfl⟩,trivial⟩ aD (ba a ay ay) q
theorem Al(b:r.2.length<64)(h:∀x∈rs,x.2.length<64)(hl:rs.length<1000):fT Γ Ak [0] E_ [.lst (rs.map Gr),Gr r]=a5 (.ok (.loc,.tup [.Gv,.lst ((layR rs r).map Gr)])):=by
 have c:(1000:Nat)<dV:=by decide
 obtain⟨d,q⟩:=pw (Γ:=Γ) b rs b6 h;have hs:cM [0] [.lst (rs.map Gr),Gr r] Ak.ns=gb rs r b6:=by
  show [a5 (Kd.io,U.lst (rs.map Gr)),a5 (if G5 (Gr r)=b8 then Kd.loc else Kd.any,Gr r),b6]=_;rw[Zq (sO r)];rfl
 have a:Ja .seq [(Kd.bor 0,U.lst (rs.map Gr))]=a5 (rs.map λx=>(Kd.loc,Gr x)):=by
  show a5 ((rs.map Gr).map λu=>(kE (.bor 0),u))=_;rw[vu];rfl
 unfold layR;by_cases hk:keyOf r∈rs.map keyOf
 ·rw[Zq hk]at q ⊢;exact bT (f:=.rt .loc .Gv) rfl hs (qJ (AR (ae (dg rfl) ak) ⟨⟨_,rfl,rfl⟩,trivial⟩ a rfl q)) rfl rfl
 ·rw[Zr hk]at q ⊢;refine bT (f:=.nx) (st:=gb (rs++[r]) r d) rfl hs (di (ae (dg rfl) ak) ⟨⟨_,rfl,rfl⟩,trivial⟩ a rfl q (i9 (k:=.io) (k':=.io) rfl (af rfl) aI rfl rfl (by simp;lia) ?_)) rfl rfl;rw[show rs.map Gr++[Gr r]=(rs++[r]).map Gr by simp];exact ay
def kJ(Γ:Tab):Prop:=∀(rs:List Row) (r:Row),r.2.length<64->(∀x∈rs,x.2.length<64)->rs.length<1000->Γ "_law_lay" [.lst (rs.map Gr),Gr r]=a5 (.ok (.loc,.tup [.Gv,.lst ((layR rs r).map Gr)]))
theorem Fb(h:G_ Pg "_law_lay" Ak):kJ (GG Pg (d+1)):=λrs r a b hl=>by
 rw[cF h _ rfl];exact Al a b hl
noncomputable def OT:Kd×U->Bool
 |(.bor _,_)=>cc
 |_=>b8
section
theorem xQ(h:OT r=b8):dO st r=r:=by
 obtain⟨k,u⟩:=r;cases k<;>first|rfl|cases h
theorem uD(h:OT r=b8):rO a r=b8:=by
 obtain⟨k,u⟩:=r;cases k<;>first|rfl|cases h
theorem xR(h:rs.all OT=b8):bo rs st:=by
 induction rs with
 |nil=>trivial
 |cons r rs a =>
  obtain⟨k,u⟩:=r;rw[Yq,cb]at h;have:=a h.2;cases k<;>first|exact this|cases h.1
theorem gD(l:st[i]?=a5 (a5 (k0,a)))(g:k0.root=b8)(m:Run (bc Γ es) st rs st1)(c:st1[i]?=a5 (a5 (k,.lst us)))(hk:k.root=b8)(n:cG us=b8)(d:rs.all OT=b8)
  (o:Γ f (.lst us::rs.map (·.2))=a5 (.ok (e,.tup [v,.lst h]))) (p:e=.own\/e=.loc):Run (ev Γ (.Gy f (.var i::es) [0])) st (e,v) (st1.set i (a5 (k,.lst h))):=by
 have s:Run (ev Γ (.var i)) st (.bor i,a) st:=by
  have:=dS l (by rintro rfl;cases g);unfold kv at this;rw[Zq g]at this;exact this
 have t:dO st1 (.bor i,a)=(.bor i,.lst us):=by
  unfold dO
  dsimp only
  rw[c];simp[hk]
 have u:rs.map (dO st1)=rs:=by
  conv=>rhs;rw[<-WK rs]
  exact Nl λr w=>xQ (mx.mp d r w)
 have b:((Kd.bor i,a)::rs).map (dO st1)=(.bor i,.lst us)::rs:=by rw[hW,t,u]
 have j:gy ((Kd.bor i,U.lst us)::rs) 0=a5 i:=by
  show(if cG us=b8 then a5 i else b6)=_;rw[Zq n]
 refine qL (rs:=(.bor i,a)::rs) (ws:=[.lst h]) (st1:=st1) (ae s m) ?_ ?_ p ?_ ?_
 ·rw[b];exact⟨⟨k,hk,c⟩,xR d⟩
 ·rw[b];exact o
 ·rw[b];unfold oM;rw[cb,cb];refine⟨⟨by simp[j],by simp⟩,mx.mpr λq x=>?_⟩;cases q with
  |zero=>simp
  |succ q =>
   have hl:q<rs.length:=by have:=HW.mp x;simpa using this
   rw[KQ];refine .inr (uD ?_);rw[show((Kd.bor i,U.lst us)::rs).getD (q+1) (.loc,.Gv)=rs[q] by simp[Ou,hl]];exact mx.mp d _ (Ki hl)
 ·rw[b];unfold f9;rw[j]
  dsimp only
  rw[c];rfl
end
section
theorem xS(p:kI Γ){ws:List Str}(c:st[i]?=a5 (a5 (k0,G)))(d:k0.root=b8)(f:st[j]?=a5 (a5 (kw,.lst (ws.map .str))))(q:kw=.loc\/kw=.any)(g:Run (ev Γ e) st (.loc,.int at_) st1)(h:Run (ev Γ t) st1 (.loc,.bl b) st2)
  (l:st2[i]?=a5 (a5 (k,u))) (hk:k.root=b8) (m:Src T u) (s:T+17<2 ^ 62) (v:ws.length<1000000) (a0:0<=at_) (z:at_<ws.length) :
  ∃(r:Row) (u':U),Run (ev Γ (.Gy "_law_row" [.var i,.var j,e,t] [0])) st (.loc,Gr r) (st2.set i (a5 (k,u')))/\ws[at_.toNat]?=a5 r.1/\r.2.Nodup/\(∀y∈r.2,y∈ws)/\r.2.length<=8/\Src (T+17) u':=by
 obtain⟨x,told,u',n,A,B,C,D,o⟩:=p T at_ u ws b m s v a0 z;refine⟨(x,told),u',?_,A,B,C,D,o⟩;obtain⟨a,t',w,rfl,_,_⟩:=m;obtain⟨H,I,J,rfl,_,_⟩:=o;rcases q with rfl|rfl
 ·exact gD (rs:=[(.loc,.lst (ws.map .str)),(.loc,.int at_),(.loc,.bl b)]) c d (ae (af f) (ae g (ae h ak))) l hk rfl rfl n (.inr rfl)
 ·exact gD (rs:=[(.any,.lst (ws.map .str)),(.loc,.int at_),(.loc,.bl b)]) c d (ae (aX f) (ae g (ae h ak))) l hk rfl rfl n (.inr rfl)
theorem xT(a:kJ Γ)(b:st[i]?=a5 (a5 (k0,j)))(c:k0.root=b8)(d:Run (ev Γ e) st (.loc,Gr r) st1)(f:st1[i]?=a5 (a5 (k,.lst (rs.map Gr))))(hk:k.root=b8)(g:r.2.length<64)(h:∀x∈rs,x.2.length<64)(hl:rs.length<1000):
  Run (ev Γ (.Gy "_law_lay" [.var i,e] [0])) st (.loc,.Gv) (st1.set i (a5 (k,.lst ((layR rs r).map Gr)))) :=
 gD (rs:=[(.loc,Gr r)]) b c (ae d ak) f hk (dA rs) rfl (a rs r g h hl) (.inr rfl)
theorem AY(a:Run (ev Γ e) st r st1)(b:Run (execs Γ ss) st1 f st2):Run (execs Γ (.exp e::ss)) st f st2:=fB (aa a aG) b
def iq(Γ:Tab):Prop:=(∀k:Int,Γ "_law_source" [.lst [],.int k]=a5 (.ok (.own,.tup [e_ k 0 1,.lst []])))/\∀(ns:List Int) (c k:Int),Γ "_law_source" [.lst ((ns++[c]).map .int),.int k]=a5 (.ok (.own,.tup [e_ (c / 2) 0 (c % 2),.lst (ns.map .int)]))
theorem xU(h:G_ Pg "_law_source" xG):iq (GG Pg (d+1)):=⟨λk=>by rw[cF h _ rfl];exact xH,λns c k=>by rw[cF h _ rfl];exact xI⟩
theorem fP:∀ns:List Int,cG (ns.map U.int)=b8
 |[]=>rfl
 |n::ns=>by show(b8&&cG (ns.map U.int))=b8;rw[fP ns];rfl
theorem xV(a:iq Γ)(b:st[i]?=a5 (a5 (k0,h)))(d:k0.root=b8)(f:Run (ev Γ e) st (.loc,.int m) st1)(g:st1[i]?=a5 (a5 (k,.lst ((ns++[c]).map .int))))(hk:k.root=b8):
  Run (ev Γ (.Gy "_law_source" [.var i,e] [0])) st (.own,e_ (c / 2) 0 (c % 2)) (st1.set i (a5 (k,.lst (ns.map .int)))) :=
 gD (rs:=[(.loc,.int m)]) b d (ae f ak) g hk (fP _) rfl (a.2 ns c m) (.inl rfl)
theorem Dp(a:iq Γ)(b:st[i]?=a5 (a5 (k0,g)))(c:k0.root=b8)(d:Run (ev Γ e) st (.loc,.int m) st1)(f:st1[i]?=a5 (a5 (k,.lst [])))(hk:k.root=b8):
  Run (ev Γ (.Gy "_law_source" [.var i,e] [0])) st (.own,e_ m 0 1) (st1.set i (a5 (k,.lst []))) :=
 gD (rs:=[(.loc,.int m)]) b c (ae d ak) f hk rfl rfl (a.1 m) (.inl rfl)
end
noncomputable def qR:List S :=
   [.set 6 (.Gy "_law_draw" [.var 1,.bi .len [.var 2]] [0]),
   .ite (.cmp .eq (.var 4) (.cst (.int 3)))
    [.set 6 (.bin .mod (.var 5) (.bi .len [.var 2]))]
    [],
   .exp (.Gy "_law_lay" [(.var 3),(.Gy "_law_row" [(.var 1),(.var 2),(.var 6),(.cmp .gt (.var 4) (.cst (.int 1)))] [0])] [0])]
noncomputable def qS:List S :=
   [.set 7 (.Gy "_law_source" [.var 0,.cst (.int 0)] [0]),
   .exp (.Gy "_law_lay" [(.var 3),(.Gy "_law_row" [(.var 7),(.var 2),(.Gy "_law_draw" [(.var 7),(.bi .len [(.var 2)])] [0]),(.cmp .eq (.var 4) (.cst (.int 2)))] [0])] [0])]
noncomputable def da(ns:List Int)(u:U)(ws:List Str)(rs:List Row)(way:Int)(o5 o6 o7:Option (Kd×U)):ax:=[a5 (.io,.lst (ns.map .int)),a5 (.io,u),a5 (.any,.lst (ws.map .str)),a5 (.own,.lst (rs.map Gr)),a5 (.loc,.int way),o5,o6,o7]
def bV(ws:List Str)(r:Row):Prop:=r.1∈ws/\r.2.Nodup/\(∀y∈r.2,y∈ws)/\r.2.length<=8
def c7(ws:List Str)(rs:List Row):Prop:=(∀r∈rs,bV ws r)/\(rs.map keyOf).Nodup
theorem c7.lay(h:c7 ws rs)(d:bV ws r):c7 ws (layR rs r):=by
 unfold layR;split
 ·exact h
 ·rename_i hk;refine⟨λx hx=>?_,?_⟩
  ·rcases qd.mp hx with hx|hx
   ·exact h.1 x hx
   ·rw[kr]at hx;subst hx;exact d
  ·rw[qs];exact JJ.mpr ⟨h.2,by simp,λa f c b=>by rw[Xa,kr]at b;subst b;exact λe=>hk (e▸f)⟩
theorem pz:(layR rs r).length<=rs.length+1:=by
 unfold layR;split
 ·lia
 ·simp
theorem uE(s:bg Γ)(v:kI Γ)(w:kJ Γ){k:Nat}(y:Src T u)(N:T+18<2 ^ 62)(O:0<ws.length)(z:ws.length<1000000)(h:c7 ws rs)(hl:rs.length<1000):
  ∃u' a c,Run (execs Γ qR) (da ns u ws rs way (a5 (.loc,.int (0+(k:Int)))) o6 o7) .nx (da ns u' ws a way (a5 (.loc,.int (0+(k:Int)))) c o7)/\Src (T+18) u'/\c7 ws a/\a.length<=rs.length+1:=by
 obtain⟨n,f,l,A,o,s1⟩:=cQ (st:=da ns u ws rs way (a5 (.loc,.int (0+(k:Int)))) o6 o7) s (i:=1) (k:=.io) (e:=.bi .len [.var 2]) (m:=((ws.map U.str).length:Nat)) rfl rfl (c_ (ae (aX rfl) ak) trivial bP) y ⋯ (by simp;lia) (by simp;lia);rw[ei]at o;have d:∀at_:Int,0<=at_->at_<ws.length->∃u' a c,Run (execs Γ [.exp (.Gy "_law_lay" [.var 3,.Gy "_law_row" [.var 1,.var 2,.var 6,.cmp .gt (.var 4) (.cst (.int 1))] [0]] [0])]) (da ns f ws rs way (a5 (.loc,.int (0+(k:Int)))) (a5 (.loc,.int at_)) o7) .nx (da ns u' ws a way (a5 (.loc,.int (0+(k:Int)))) c o7)/\Src (T+18) u'/\c7 ws a/\a.length<=rs.length+1:=by
  intro at_ a0 B;obtain⟨r,u2,q,C,D,G,H,I⟩:=xS (st:=da ns f ws rs way (a5 (.loc,.int (0+(k:Int)))) (a5 (.loc,.int at_)) o7) (st1:=da ns f ws rs way (a5 (.loc,.int (0+(k:Int)))) (a5 (.loc,.int at_)) o7) (st2:=da ns f ws rs way (a5 (.loc,.int (0+(k:Int)))) (a5 (.loc,.int at_)) o7) v (i:=1) (j:=2) (e:=.var 6) (t:=.cmp .gt (.var 4) (.cst (.int 1))) (k0:=.io) (k:=.io) (kw:=.any) (b:=d6 (1<way)) rfl rfl rfl (.inr rfl) (af rfl) (oY (af rfl) ai trivial (i_ rfl)) rfl rfl s1 ⋯ z a0 B;have J:bV ws r:=⟨HC C,D,G,H⟩
  exact⟨u2,layR rs r,_,AY (xT w (k0:=.own) (k:=.own) (rs:=rs) rfl rfl q rfl rfl ⋯ (λx L=>by have:=(h.1 x L).2.2.2;lia) hl) ay,I.up ⋯,h.lay J,pz⟩
 by_cases p:way=3
 ·subst p;obtain⟨u',a,c,q,g⟩:=d ((0+(k:Int)) % (ws.length:Nat)) (Po _ ⋯) (P' _ ⋯);refine⟨u',a,c,aA l aD (dJ (aU (af rfl) ai trivial (cj rfl)) (aA (bx (af rfl) (c_ (ae (aX rfl) ak) trivial bP) trivial (dW (by simp;lia))) aD ay) ?_),g⟩;rw[ei];exact q
 ·obtain⟨u',a,c,q,g⟩:=d n A o;exact⟨u',a,c,aA l aD (ba (aU (af rfl) ai trivial (cj (by simp[p]))) ay q),g⟩
theorem uF(o:iq Γ)(p:bg Γ)(s:kI Γ)(w:kJ Γ)(L:0<ws.length)(y:ws.length<1000000)(d:c7 ws rs)(hl:rs.length<1000):
  ∃a z,Run (execs Γ qS) (da (ns++[c]) u ws rs way o5 o6 o7) .nx (da ns u ws a way o5 o6 z)/\c7 ws a/\a.length<=rs.length+1:=by
 have f:=xV (st:=da (ns++[c]) u ws rs way o5 o6 o7) (st1:=da (ns++[c]) u ws rs way o5 o6 o7) o (i:=0) (k0:=.io) (k:=.io) (e:=.cst (.int 0)) (m:=0) rfl rfl ai rfl rfl;have g:Src 0 (e_ (c / 2) 0 (c % 2)):=⟨_,_,_,rfl,⋯,⋯⟩
 generalize e_ (c / 2) 0 (c % 2)=v at f g;obtain⟨n,h,A,B,l,s1⟩:=cQ (st:=da ns u ws rs way o5 o6 (a5 (.own,v))) p (i:=7) (k:=.own) (e:=.bi .len [.var 2]) (m:=((ws.map U.str).length:Nat)) rfl rfl (c_ (ae (aX rfl) ak) trivial bP) g ⋯ (by simp;lia) (by simp;lia);rw[ei]at l;obtain⟨r,u2,q,C,D,G,H,N⟩:=xS (st:=da ns u ws rs way o5 o6 (a5 (.own,v))) (st1:=da ns u ws rs way o5 o6 (a5 (.own,h))) (st2:=da ns u ws rs way o5 o6 (a5 (.own,h))) s (i:=7) (j:=2) (t:=.cmp .eq (.var 4) (.cst (.int 2))) (k0:=.own) (k:=.own) (kw:=.any) (b:=(way==2)) rfl rfl rfl (.inr rfl) A (oY (af rfl) ai trivial (cj rfl)) rfl rfl s1 ⋯ y B l;have I:bV ws r:=⟨HC C,D,G,H⟩
 exact⟨layR rs r,a5 (.own,u2),aA (st2:=da ns u ws rs way o5 o6 (a5 (.own,v))) f bF (AY (xT w (k0:=.own) (k:=.own) (rs:=rs) rfl rfl q rfl rfl ⋯ (λx J=>by have:=(d.1 x J).2.2.2;lia) hl) ay),d.lay I,pz⟩
noncomputable def qT:E:=.and [.cmp .gt (.bi .len [.var 0]) (.cst (.int 0)),.cmp .lt (.bi .len [.var 3]) (.cst (.int 60))]
theorem mw:Run (GN Γ qT) (da ns u ws rs way o5 o6 o7) (d6 (0<ns.length)&&d6 (rs.length<60)) (da ns u ws rs way o5 o6 o7):=by
 refine kn (xx (aU (c_ (ae (dg rfl) ak) ∅ bP) ai trivial (i_ ?_)) λ_=>fz (aU (c_ (ae (aR rfl) ak) ∅ bP) ai trivial (EY ?_)))
 ·rw[ei];exact decide_eq_decide.mpr ⋯
 ·rw[ei];exact decide_eq_decide.mpr ⋯
theorem qU(m:iq Γ)(n:bg Γ)(o:kI Γ)(p:kJ Γ)(q:0<ws.length)(r:ws.length<1000000):
  ∀(k f:Nat) (ns:List Int) (rs:List Row) (o7:Option (Kd×U)),ns.length=k->k<f->c7 ws rs->rs.length<=60->∃d b i,Run (fS (GN Γ qT) (execs Γ qS) f) (da ns u ws rs way o5 o6 o7) .nx (da d u ws b way o5 o6 i)/\c7 ws b/\b.length<=60/\d.length<=ns.length:=by
 intro k;induction k with
 |zero =>
  intro f ns rs o7 hk s h hl;obtain⟨f,rfl⟩:∃g,f=g+1:=⟨f - 1,⋯⟩
  have a:=mw (Γ:=Γ) (ns:=ns) (u:=u) (ws:=ws) (rs:=rs) (way:=way) (o5:=o5) (o6:=o6) (o7:=o7);rw[Zs (show ¬0<ns.length by lia)]at a;exact⟨ns,rs,o7,sQ a,h,hl,i3 _⟩
 |succ k t =>
  intro f ns rs o7 hk s h hl;obtain⟨f,rfl⟩:∃g,f=g+1:=⟨f - 1,⋯⟩
  have a:=mw (Γ:=Γ) (ns:=ns) (u:=u) (ws:=ws) (rs:=rs) (way:=way) (o5:=o5) (o6:=o6) (o7:=o7);rw[Zt (show 0<ns.length by lia)]at a;by_cases j:rs.length<60
  ·rw[Zt j]at a;obtain⟨ms,c,rfl⟩:∃ms c,ns=ms++[c]:=by
    have l:ns≠[]:=λe=>by rw[e]at hk;cases hk
    exact⟨ns.dropLast,ns.getLast l,(O4 l).symm⟩
   have v:ms.length=k:=by simpa using hk
   obtain⟨w,x,y,z,D⟩:=uF (u:=u) (ws:=ws) (way:=way) (o5:=o5) (o6:=o6) (o7:=o7) (ns:=ms) (c:=c) m n o p q r h ⋯;obtain⟨d,b,i,A,B,C,G⟩:=t f ms w x v ⋯ z ⋯;exact⟨d,b,i,xE a y A,B,C,by simp;lia⟩
  ·rw[Zs j]at a;exact⟨ns,rs,o7,sQ a,h,hl,i3 _⟩
noncomputable def AZ:List S :=
   [.set 3 (.lst []),
    .set 4 (.Gy "_law_draw" [.var 1,.cst (.int 4)] [0]),
    .G1 cc [5] .Hk [.Gy "_law_draw" [.var 1,.cst (.int 25)] [0]] qR,
    .K9 qT qS,
    .ret (.bi .tuple [(.var 3)])]
noncomputable def nV:Fn:=⟨"_law_book",3,8,.JK [0,1]::AZ⟩
theorem qV(A:iq Γ)(g:bg Γ)(o:kI Γ)(p:kJ Γ){ns:List Int}(s:Src T u)(Y:T+500<2 ^ 62)(hn:ns.length<1000)(v:0<ws.length)(w:ws.length<1000000):
  ∃(rs:List Row) (c:List Int) (u':U),fT Γ nV [0,1] AZ [.lst (ns.map .int),u,.lst (ws.map .str)]=a5 (.ok (.loc,.tup [.tup (rs.map Gr),.lst (c.map .int),u']))/\c7 ws rs/\rs.length<=60/\c.length<=ns.length/\Src (T+500) u':=by
 have B:(60:Nat)<dV:=by decide
 obtain⟨way,C,D,_,_,s1⟩:=cQ (st:=[a5 (.io,.lst (ns.map .int)),a5 (.io,u),a5 (.any,.lst (ws.map .str)),a5 (.own,.lst []),b6,b6,b6,b6]) g (i:=1) (k:=.io) (e:=.cst (.int 4)) (m:=4) rfl rfl ai s ⋯ ⋯ ⋯;obtain⟨m,u2,G,m0,m1,s2⟩:=cQ (st:=da ns C ws [] way b6 b6 b6) g (i:=1) (k:=.io) (e:=.cst (.int 25)) (m:=25) rfl rfl ai s1 ⋯ ⋯ ⋯;obtain⟨m,rfl⟩:=wk m0;obtain⟨st',H,a,b,o5,o6,rfl,s3,j,x,_⟩:=cm (rs:=[(.loc,.int (m:Nat))]) (t:=cc) (is:=[5]) (body:=execs Γ qR) (λi:Nat=>(Kd.loc,U.int (0+(i:Int)))) (λd r st=>∃(a:U) (b:List Row) (o5 o6:Option (Kd×U)),st=da ns a ws b way o5 o6 b6/\Src (T+2+18 * (d.length:Nat)) a/\c7 ws b/\b.length<=d.length/\d.length+r.length=m)
  (λd r st _=>trivial) (λd y r st h=>by
   obtain⟨a,b,o5,o6,rfl,s3,j,x,I⟩:=h;simp only[rz]at I;obtain⟨J,L,HG,q,s4,l,z⟩:=uE (ns:=ns) (way:=way) (k:=y) (o6:=o6) (o7:=b6) g o p s3 ⋯ v w j ⋯;refine⟨da ns a ws b way (a5 (.loc,.int (0+(y:Int)))) o6 b6,_,aD,q,J,L,_,_,rfl,s4.up (by simp;lia),l,?_,?_⟩
   ·simp;lia
   ·simp;lia) (ko m) [] (da ns u2 ws [] way b6 b6 b6) ⟨u2,[],b6,b6,rfl,s2.up (by simp;lia),⟨by simp,by simp⟩,by simp,by simp⟩
 rw[u6,G9]at s3 x;obtain⟨c,n,N,O,l,z,Q⟩:=qU A g o p (u:=a) (way:=way) (o5:=o5) (o6:=o6) v w ns.length fuel ns b b6 rfl (by unfold fuel;lia) j ⋯;refine⟨n,c,a,?_,l,z,Q,s3.up ⋯⟩;refine bT (st0:=[a5 (.io,.lst (ns.map .int)),a5 (.io,u),a5 (.any,.lst (ws.map .str)),b6,b6,b6,b6,b6]) (f:=.rt .loc (.tup (n.map Gr))) (st:=da c a ws n way o5 o6 N) rfl ?_ ?_ rfl rfl
 ·obtain⟨_,_,_,rfl,_⟩:=s;rfl
 refine aA (cE ak trivial aO (oT _)) bF (aA D aD ?_);refine di (rs:=[(.loc,.int (m:Nat))]) (ae G ak) trivial (fC ⋯) rfl H (xF O ?_);exact bS (c_ (ae (aR rfl) ak) ∅ rfl) fA
end TM
namespace TM
open PySem L2 GZ
theorem qW{cond:M Bool}(it:α->Kd×U)(I:List α->List α->List U->ax->Prop)(hs:∀d r a st,I d r a st->bo src st)
  (XQ:∀d y q a st,I d (y::q) a st->∃s1 s2 s3 s4 r u,Run (eC t (ko k) (it y)) (mh k b6++st) () s1/\Run cond s1 b8 s2/\Run elt s2 r s3/\Run (lift r) s3 u s4/\I (d++[y]) q (a++[u]) (s4.drop k)) :
  ∀(ys d:List α) (acc:List U) (st:ax),I d ys acc st->acc.length+ys.length<=dV->∃us st',Run (bO k t cond elt src (ys.map it) acc) st us st'/\I (d++ys) [] us st'
 |[],d,acc,st,h,_=>⟨acc,st,xu (hs _ _ _ _ h),by rw[y1];exact h⟩
 |y::ys,d,acc,st,h,hl=>by
  rw[rz]at hl;obtain⟨s1,s2,s3,s4,r,u,b,c,e,f,g⟩:=XQ d y ys acc st h;obtain⟨us,st',i,j⟩:=qW it I hs XQ ys (d++[y]) (acc++[u]) _ g (by simp;lia);exact⟨us,st',qK (hs _ _ _ _ h) b c e f ⋯ i,by simpa using j⟩
theorem pA(a:0<=n)(b:n<26):∃c,Hs small.cps.toList n=a5 c:=by
 obtain⟨k,rfl⟩:=wk a;have hl:small.cps.toList.length=26:=by decide
 exact⟨small.cps.toList[k]'⋯,jm (by simp)⟩
theorem xW(g:bg Γ)(j:Src T u)(w:T+8<2 ^ 62):
  ∃x u',Run (ev Γ (.K8 .join (.cst (.str "")) [.comp 1 cc .Hk [.cst (.int 8)] [] (.idx (.var 2) (.Gy "_law_draw" [.var 1,.cst (.int 26)] [0]))])) (a5 (.io,u)::a5 (.loc,.str small)::rest) (.loc,.str x) (a5 (.io,u')::a5 (.loc,.str small)::rest)/\x.length=8/\Src (T+8) u':=by
 have l:(100:Nat)<=dV:=by decide
 obtain⟨us,st',f,u',b,rfl,rfl,hl,hs,_⟩:=qW (k:=1) (t:=cc) (cond:=bq Γ []) (elt:=ev Γ (.idx (.var 2) (.Gy "_law_draw" [.var 1,.cst (.int 26)] [0]))) (src:=[(.loc,.int (8:Nat))]) (λi:Nat=>(Kd.loc,U.int (0+(i:Int))))
  (λd r a st=>∃(u':U) (b:List Nat),st=a5 (.io,u')::a5 (.loc,.str small)::rest/\a=(b.map GZ.one).map U.str/\b.length=d.length/\Src (T+(d.length:Nat)) u'/\d.length+r.length=8) (λ_ _ _ _ _=>trivial)
  (λd y q a st h=>by
   obtain⟨u',b,rfl,rfl,hl,hs,o⟩:=h;rw[rz]at o;obtain⟨n,u2,r,p,s,s2⟩:=cQ (st:=a5 (.loc,.int (0+(y:Int)))::a5 (.io,u')::a5 (.loc,.str small)::rest) g (i:=1) (k:=.io) (e:=.cst (.int 26)) (m:=26) rfl rfl ai hs ⋯ ⋯ ⋯;obtain⟨c,f⟩:=pA p s;refine⟨_,_,_,_,_,_,iO aD,sL,bt (af rfl) r trivial (mU pd f),aI,u2,b++[c],rfl,by simp,by simp[hl],s2.up (by simp;lia),by simp;lia⟩)
  (ko 8) [] [] (a5 (.io,u)::a5 (.loc,.str small)::rest) ⟨u,[],rfl,rfl,rfl,by simpa using j,by simp⟩ (by simp;lia)
 rw[u6,G9]at hl hs;have v:lj .join (.str "") [(.own,.lst ((b.map GZ.one).map U.str))]=a5 (.loc,.str (Ru zy (b.map GZ.one))):=by
  show(strsOf ((b.map GZ.one).map U.str)).bind _=_;rw[eG];show(if Yj zy (b.map GZ.one)=b8 then _ else _)=_;rw[Zq (GZ.pb b ⋯)];rfl
 refine⟨Ru zy (b.map GZ.one),u',xp ai (ae (iP (ae ai ak) trivial (fC (n:=8) ⋯) f) ak) trivial v,?_,hs⟩;show(Ru zy (b.map GZ.one)).cps.size=8;rw[<-i2,GZ.join_ones,hl]
noncomputable def xX:List S:=[.app 7 (.ite (.cmp .eq (.var 10) (.cst (.int 1))) (.var 9) (.bin .add (.bin .add (.var 9) (.cst (.str "/"))) (.bi .str [.var 10])))]
noncomputable def xY:List S :=
   .ite (.cmp .eq (.var 4) (.cst (.int 3)))
    [.set 10 (.bin .add (.cst (.int 1)) (.Gy "_law_draw" [.var 0,.cst (.int 99)] [0]))]
    []::xX
noncomputable def xZ:List S :=
   .ite (.cmp .gt (.var 4) (.cst (.int 1)))
    [.set 9 (.bin .add (.idx (.var 1) (.bin .mod (.bin .add (.var 6) (.bin .mul (.cst (.int 7)) (.var 8))) (.cst (.int 26)))) (.Kv (.var 3) [.cst (.int 1)] [.var 5])),
    .set 10 (.cst (.int 1))]
    []::xY
noncomputable def qX:List S :=
   .set 9 (.Kv (.var 3) [] [.bin .add (.cst (.int 1)) (.bin .mod (.var 8) (.cst (.int 8)))]) ::
   .set 10 (.bin .add (.cst (.int 1)) (.bin .LM (.var 8) (.cst (.int 8)))) ::
   .ite (.cmp .eq (.var 4) (.cst (.int 1)))
    [.set 9 (.Kv (.var 3) [] [.var 5]),
    .set 10 (.bin .add (.cst (.int 1)) (.var 8))]
    []::xZ
noncomputable def x6:List S :=
   [.set 1 (.cst (.str "abcdefghijklmnopqrstuvwxyz")),
    .set 2 (.bin .add (.cst (.int 1)) (.Gy "_law_draw" [.var 0,.idx (.lst [.cst (.int 8),.cst (.int 16),.cst (.int 24)]) (.Gy "_law_draw" [.var 0,.cst (.int 3)] [0])] [0])),
    .set 3 (.K8 .join (.cst (.str "")) [.comp 1 cc .Hk [.cst (.int 8)] [] (.idx (.var 2) (.Gy "_law_draw" [.var 1,.cst (.int 26)] [0]))]),
    .set 4 (.Gy "_law_draw" [.var 0,.cst (.int 4)] [0]),
    .set 5 (.bin .add (.cst (.int 1)) (.Gy "_law_draw" [.var 0,.cst (.int 8)] [0])),
    .set 6 (.Gy "_law_draw" [.var 0,.cst (.int 26)] [0]),
    .set 7 (.lst []),
    .G1 cc [8] .Hk [.var 2] qX,
    .ret (.var 7)]
noncomputable def kK:Fn:=⟨"_law_words",1,11,.JK [0]::x6⟩
noncomputable def iS(u:U)(many:Int)(base:Str)(way size first:Int)(acc:List Str)(o8 o9 o10:Option (Kd×U)):ax:=[a5 (.io,u),a5 (.loc,.str small),a5 (.loc,.int many),a5 (.loc,.str base),a5 (.loc,.int way),a5 (.loc,.int size),a5 (.loc,.int first),a5 (.own,.lst (acc.map .str)),o8,o9,o10]
theorem jx(h:x.length<=dV):oK (k,.str x) lo a=a5 (.loc,.str (PySem.StrLaws.sliceText x lo a)):=by
 show(if x.length<=dV then _ else _)=_;rw[Zq h]
theorem mz(e:acc.length<1000)(f:w.length<=9)(g:1<=s)(s1:s<=99):
  ∃x:Str,x.length<=20/\Run (execs Γ xX) (iS u many base way size first acc o8 (a5 (.loc,.str w)) (a5 (.loc,.int s))) .nx (iS u many base way size first (acc++[x]) o8 (a5 (.loc,.str w)) (a5 (.loc,.int s))):=by
 have b:(1000:Nat)<=dV:=by decide
 by_cases h:s=1
 ·subst h;refine⟨w,⋯,i9 (k:=.own) (k':=.own) rfl (qF (aU (af rfl) ai trivial (cj rfl)) (af rfl)) aI rfl rfl (by simp;lia) ?_⟩;rw[show acc.map U.str++[U.str w]=(acc++[w]).map U.str by simp];exact ay
 ·have i:=uC (k:=s) ⋯ s1;have c:JB .str [(.loc,.int s)]=a5 (.loc,.str (vt s)):=by
   simp only[JB,iE,y8];rw[Zq (by
    have:s.natAbs<2 ^ 7:=by lia
    have d:s.natAbs≠0:=by lia
    have:=(Nat.log2_lt d).mpr this;lia)]
   rfl
  have a:(w++("/":Str)).length=w.length+1:=by rw[len_list,len_list,app_list,l'];rfl
  refine⟨w++("/":Str)++vt s,by rw[len_list,app_list,l',<-len_list,<-len_list,a];lia,i9 (k:=.own) (k':=.own) rfl (qG (aU (af rfl) ai trivial (cj (by simp[h]))) (bx (bx (af rfl) ai trivial (nN (by show w.length+1<=dV;lia))) (c_ (ae (af rfl) ak) trivial c) trivial (nN (by rw[a];lia)))) aI rfl rfl (by simp;lia) ?_⟩;rw[show acc.map U.str++[U.str (w++("/":Str)++vt s)]=(acc++[w++("/":Str)++vt s]).map U.str by simp];exact ay
theorem mB(g:bg Γ)(b:Src T u)(p:T+1<2 ^ 62)(c:acc.length<1000)(d:w.length<=9)(j:1<=s)(s1:s<=99):
  ∃u' x o9 o10,Run (execs Γ xY) (iS u many base way size first acc o8 (a5 (.loc,.str w)) (a5 (.loc,.int s))) .nx (iS u' many base way size first (acc++[x]) o8 o9 o10)/\Src (T+1) u'/\x.length<=20:=by
 by_cases h:way=3
 ·subst h;obtain⟨n,f,l,r,t,o⟩:=cQ (st:=iS u many base 3 size first acc o8 (a5 (.loc,.str w)) (a5 (.loc,.int s))) g (i:=0) (k:=.io) (e:=.cst (.int 99)) (m:=99) rfl rfl ai b ⋯ ⋯ ⋯;obtain⟨x,a,q⟩:=mz (Γ:=Γ) (u:=f) (many:=many) (base:=base) (way:=3) (size:=size) (first:=first) (acc:=acc) (o8:=o8) (w:=w) (s:=1+n) c d ⋯ ⋯;exact⟨f,x,_,_,dJ (aU (af rfl) ai trivial (cj rfl)) (aA (bx ai l trivial b_) aD ay) q,o,a⟩
 ·obtain⟨x,a,q⟩:=mz (Γ:=Γ) (u:=u) (many:=many) (base:=base) (way:=way) (size:=size) (first:=first) (acc:=acc) (o8:=o8) (w:=w) (s:=s) c d j s1;exact⟨u,x,_,_,ba (aU (af rfl) ai trivial (cj (by simp[h]))) ay q,b.up ⋯,a⟩
theorem mC(a:bg Γ){k:Nat}(b:Src T u)(d:T+1<2 ^ 62)(e:acc.length<1000)(f:w.length<=9)(g:1<=s)(s1:s<=99)(p:base.length=8)(i:1<=size)(r:size<=8)(t:0<=first)(v:first<26)(hk:k<1000):
  ∃u' x o9 o10,Run (execs Γ xZ) (iS u many base way size first acc (a5 (.loc,.int (0+(k:Int)))) (a5 (.loc,.str w)) (a5 (.loc,.int s))) .nx (iS u' many base way size first (acc++[x]) (a5 (.loc,.int (0+(k:Int)))) o9 o10)/\Src (T+1) u'/\x.length<=20:=by
 have j:(1000:Nat)<=dV:=by decide
 by_cases h:1<way
 ·have l:0<=(first+7 * (0+(k:Int))) % 26:=Po _ ⋯;have m:(first+7 * (0+(k:Int))) % 26<26:=P' _ ⋯;obtain⟨c,n⟩:=pA l m;have y:=len_list base;have z:(PySem.StrLaws.sliceText base (a5 1) (a5 size)).length<=8:=by
   rw[PySem.StrLaws.sliceText_plain ⟨⋯,i,⋯⟩,len_list];simp;lia
  have A:(GZ.one c).length=1:=rfl;have o:(GZ.one c++PySem.StrLaws.sliceText base (a5 1) (a5 size)).length<=9:=by rw[len_list,app_list,l',<-len_list,<-len_list];lia
  obtain⟨u',x,o9,o10,q,hs⟩:=mB (Γ:=Γ) a (u:=u) (many:=many) (base:=base) (way:=way) (size:=size) (first:=first) (acc:=acc) (o8:=a5 (.loc,.int (0+(k:Int)))) (w:=GZ.one c++PySem.StrLaws.sliceText base (a5 1) (a5 size)) (s:=1) b d e o ⋯ ⋯;refine⟨u',x,o9,o10,dJ (aU (af rfl) ai trivial (i_ (by simp[h]))) (aA (bx (bt (af rfl) (bx (bx (af rfl) (bx ai (af rfl) trivial (jE ⋯)) trivial b_) ai trivial (dW ⋯)) trivial (mU pd n)) (oZ (af rfl) (l_ ai) (l_ (af rfl)) trivial (jx ⋯)) trivial (nN ⋯)) aD (aA ai aD ay)) q,hs⟩
 ·obtain⟨u',x,o9,o10,q,hs⟩:=mB (Γ:=Γ) a (u:=u) (many:=many) (base:=base) (way:=way) (size:=size) (first:=first) (acc:=acc) (o8:=a5 (.loc,.int (0+(k:Int)))) (w:=w) (s:=s) b d e f g s1;exact⟨u',x,o9,o10,ba (aU (af rfl) ai trivial (i_ (by simp[h]))) ay q,hs⟩
theorem x8(a:0<=j)(b:x.length=8):(PySem.StrLaws.sliceText x b6 (a5 j)).length<=9:=by
 obtain⟨j,rfl⟩:=wk a;have h:=len_list (PySem.StrLaws.sliceText x b6 (a5 (j:Int)));have hl:=len_list x;rw[De]at h;rw[h,HJ];lia
theorem uG(b:bg Γ){k:Nat}(c:Src T u)(d:T+1<2 ^ 62)(e:acc.length<1000)(a:base.length=8)(f:1<=size)(g:size<=8)(i:0<=first)(j:first<26)(hk:k<98):
  ∃u' x l m,Run (execs Γ qX) (iS u many base way size first acc (a5 (.loc,.int (0+(k:Int)))) o9 o10) .nx (iS u' many base way size first (acc++[x]) (a5 (.loc,.int (0+(k:Int)))) l m)/\Src (T+1) u'/\x.length<=20:=by
 have n:(1000:Nat)<=dV:=by decide
 have o:0<=(0+(k:Int)) % 8:=Po _ ⋯;by_cases h:way=1
 ·obtain⟨u',x,o9,o10,q,hs⟩:=mC (Γ:=Γ) b (u:=u) (many:=many) (base:=base) (way:=way) (size:=size) (first:=first) (acc:=acc) (k:=k) (w:=PySem.StrLaws.sliceText base b6 (a5 size)) (s:=1+(0+(k:Int))) c d e (x8 ⋯ a) ⋯ ⋯ a f g i j ⋯;exact⟨u',x,o9,o10,aA (oZ (af rfl) sI (l_ (bx ai (bx (af rfl) ai trivial (dW ⋯)) trivial b_)) trivial (jx ⋯)) aD (aA (bx ai (bx (af rfl) ai trivial (kC ⋯)) trivial b_) aD (dJ (aU (af rfl) ai trivial (cj (by simp[h]))) (aA (oZ (af rfl) sI (l_ (af rfl)) trivial (jx ⋯)) aD (aA (bx ai (af rfl) trivial b_) aD ay)) q)),hs⟩
 ·obtain⟨u',x,o9,o10,q,hs⟩:=mC (Γ:=Γ) b (u:=u) (many:=many) (base:=base) (way:=way) (size:=size) (first:=first) (acc:=acc) (k:=k) (w:=PySem.StrLaws.sliceText base b6 (a5 (1+(0+(k:Int)) % 8))) (s:=1+(0+(k:Int)) / 8) c d e (x8 ⋯ a) ⋯ ⋯ a f g i j ⋯;exact⟨u',x,o9,o10,aA (oZ (af rfl) sI (l_ (bx ai (bx (af rfl) ai trivial (dW ⋯)) trivial b_)) trivial (jx ⋯)) aD (aA (bx ai (bx (af rfl) ai trivial (kC ⋯)) trivial b_) aD (ba (aU (af rfl) ai trivial (cj (by simp[h]))) ay q)),hs⟩
theorem Gm(a:0<=n)(b:n<3):∃m:Int,8<=m/\m<=24/\Hs [U.int 8,.int 16,.int 24] n=a5 (.int m):=by
 obtain⟨k,rfl⟩:=wk a;have:k=0\/k=1\/k=2:=by lia
 rcases this with rfl|rfl|rfl
 ·exact⟨8,⋯,⋯,rfl⟩
 ·exact⟨16,⋯,⋯,rfl⟩
 ·exact⟨24,⋯,⋯,rfl⟩
theorem uH(a:bg Γ)(l:Src T u)(hT:T+100<2 ^ 62):
  ∃(ws:List Str) (u':U),fT Γ kK [0] x6 [u]=a5 (.ok (.own,.tup [.lst (ws.map .str),u']))/\1<=ws.length/\ws.length<=24/\Src (T+100) u'/\∀x∈ws,x.length<=20:=by
 have A:(1000:Nat)<=dV:=by decide
 let S1:U->ax:=λv=>[a5 (.io,v),a5 (.loc,.str small),b6,b6,b6,b6,b6,b6,b6,b6,b6]
 obtain⟨i,B,C,D,G,s1⟩:=cQ (st:=S1 u) a (i:=0) (k:=.io) (e:=.cst (.int 3)) (m:=3) rfl rfl ai l ⋯ ⋯ ⋯;obtain⟨m,m0,m1,em⟩:=Gm D G;obtain⟨n,u2,H,n0,n1,s2⟩:=xM (st:=S1 u) (st1:=S1 B) a (i:=0) (k:=.io) (k0:=.io) (e:=.idx (.lst [.cst (.int 8),.cst (.int 16),.cst (.int 24)]) (.Gy "_law_draw" [.var 0,.cst (.int 3)] [0])) (m:=m) rfl rfl (bt (x:=(.own,.lst [U.int 8,.int 16,.int 24])) (cE (ae ai (ae ai (ae ai ak))) trivial (az aI (az aI (az aI aO))) (by show 3<=dV;lia)) C trivial (bU em)) rfl rfl s1 ⋯ ⋯ ⋯;obtain⟨base,b,I,J,s3⟩:=xW (rest:=[a5 (.loc,.int (1+n)),b6,b6,b6,b6,b6,b6,b6,b6]) a s2 ⋯;obtain⟨way,g,L,_,_,s4⟩:=cQ (st:=[a5 (.io,b),a5 (.loc,.str small),a5 (.loc,.int (1+n)),a5 (.loc,.str base),b6,b6,b6,b6,b6,b6,b6]) a (i:=0) (k:=.io) (e:=.cst (.int 4)) (m:=4) rfl rfl ai s3 ⋯ ⋯ ⋯;obtain⟨size,N,O,z0,z1,Q⟩:=cQ (st:=[a5 (.io,g),a5 (.loc,.str small),a5 (.loc,.int (1+n)),a5 (.loc,.str base),a5 (.loc,.int way),b6,b6,b6,b6,b6,b6]) a (i:=0) (k:=.io) (e:=.cst (.int 8)) (m:=8) rfl rfl ai s4 ⋯ ⋯ ⋯;obtain⟨first,o,Y,f0,f1,s6⟩:=cQ (st:=[a5 (.io,N),a5 (.loc,.str small),a5 (.loc,.int (1+n)),a5 (.loc,.str base),a5 (.loc,.int way),a5 (.loc,.int (1+size)),b6,b6,b6,b6,b6]) a (i:=0) (k:=.io) (e:=.cst (.int 26)) (m:=26) rfl rfl ai Q ⋯ ⋯ ⋯;obtain⟨many,NV⟩:=wk (show 0<=1+n by lia);obtain⟨st',hf,p,ws,o8,o9,o10,rfl,s,l7,b7,_⟩:=cm (rs:=[(.loc,.int (1+n))]) (t:=cc) (is:=[8]) (body:=execs Γ qX) (λi:Nat=>(Kd.loc,U.int (0+(i:Int)))) (λd r st=>∃(b:U) (ws:List Str) (o8 o9 o10:Option (Kd×U)),st=iS b (1+n) base way (1+size) first ws o8 o9 o10/\Src (T+13+(d.length:Nat)) b/\ws.length=d.length/\(∀x∈ws,x.length<=20)/\∃j,d=YX 0 j/\r=YX j (many - j)/\j<=many)
  (λd r st _=>trivial) (λd y r st h=>by
   obtain⟨b,ws,o8,o9,o10,rfl,s3,w,b3,j,rfl,c,hj⟩:=h;have W0:j<many:=by
    rcases Nat.lt_or_ge j many with z|z
    ·exact z
    ·rw[show many - j=0 by lia]at c;cases c
   rw[show many - j=(many - (j+1))+1 by lia,List.range'_succ]at c;cases c;rw[List.length_range']at s3 w;obtain⟨g,x,NU,J9,q,s4,hx⟩:=uG (Γ:=Γ) a (u:=b) (many:=1+n) (base:=base) (way:=way) (size:=1+size) (first:=first) (acc:=ws) (k:=y) (o9:=o9) (o10:=o10) s3 ⋯ ⋯ J ⋯ ⋯ f0 f1 ⋯;refine⟨iS b (1+n) base way (1+size) first ws (a5 (.loc,.int (0+(y:Int)))) o9 o10,_,aD,q,g,ws++[x],_,_,_,rfl,s4.up (by simp;lia),by simp[w],λz hz=>(qd.mp hz).elim (b3 z) λhz=>by rw[kr.mp hz];exact hx,y+1,by have:=@List.range'_1_concat 0 y;simpa using this.symm,rfl,⋯⟩) (ko many) [] (iS o (1+n) base way (1+size) first [] b6 b6 b6) ⟨o,[],b6,b6,b6,rfl,s6.up (by simp;lia),by simp,λ_ h=>(nomatch h),0,rfl,by rw[List.range_eq_range'];simp,⋯⟩
 rw[u6,G9]at s l7;refine⟨ws,p,?_,⋯,⋯,s.up ⋯,b7⟩;refine bT (st0:=[a5 (.io,u),b6,b6,b6,b6,b6,b6,b6,b6,b6,b6]) (f:=.rt .own (.lst (ws.map .str))) (st:=(iS p (1+n) base way (1+size) first ws o8 o9 o10).set 7 b6) rfl ?_ ?_ rfl rfl
 ·obtain⟨_,_,_,rfl,_⟩:=l;rfl
 refine aA (st2:=S1 u) ai aD (aA (bx ai H trivial b_) aD (aA I aD (aA L aD (aA (bx ai O trivial b_) aD (aA Y aD (aA (cE ak trivial aO (oT _)) bF ?_))))));refine di (rs:=[(.loc,.int (1+n))]) (xs:=(ko many).map λi:Nat=>(Kd.loc,U.int (0+(i:Int)))) (ae (af rfl) ak) trivial (by rw[NV];exact fC ⋯) rfl hf (bS (aR rfl) (kA rfl))
def sT(Γ:Tab):Prop:=∀(T:Int) (u:U),Src T u->T+100<2 ^ 62->∃(ws:List Str) (u':U),Γ "_law_words" [u]=a5 (.ok (.own,.tup [.lst (ws.map .str),u']))/\1<=ws.length/\ws.length<=24/\Src (T+100) u'/\∀x∈ws,x.length<=20
theorem Am(a:bg (GG Pg d))(h:G_ Pg "_law_words" kK):sT (GG Pg (d+1)):=by
 intro T u b c;obtain⟨ws,u',e,r⟩:=uH a b c;exact⟨ws,u',by rw[cF h _ rfl];exact e,r⟩
noncomputable def du(ks:List Str)(x:Str):List Str:=if x∈ks then ks else ks++[x]
theorem x9:dput ks (ks.map f) x u=(du ks x,(du ks x).map λk=>if k=x then u else f k):=by
 unfold dput du;by_cases h:x∈ks
 ·rw[Zq h,Zq h];congr 1
  clear h;induction ks with
  |nil=>rfl
  |cons k ks a=>rw[hW,PD,hW,hW,a]
 ·rw[Zr h,Zr h];congr 1
  rw[qs,Xa,Zq rfl];congr 1
  refine Nl λk hk=>?_;rw[Zr (λe:k=x=>h (e▸hk))]
theorem qY(h:ks.Nodup):(du ks x).Nodup:=by
 unfold du;split
 ·exact h
 ·rename_i d;exact JJ.mpr ⟨h,by simp,λa f c b=>by rw[kr]at b;subst b;exact λe=>d (e▸f)⟩
theorem bM:y∈du ks x↔y∈ks\/y=x:=by
 unfold du;split
 ·rename_i h;exact⟨.inl,λz=>z.elim id λe=>e▸h⟩
 ·simp
theorem An(h:ks.length<1000):eT (.str x) u (.GD ks (ks.map f))=a5 (.GD (du ks x) ((du ks x).map λk=>if k=x then u else f k)):=by
 rw[Ad h,x9]
noncomputable def x_:List S:=[.put 1 (.var 4) (.cst (.bl b8))]
noncomputable def pB:List S:=[.put 1 (.var 2) (.cst (.bl b8)),.G1 cc [4] .seq [.var 3] x_]
noncomputable def Ao:Fn:=⟨"_law_all",1,5,[.set 1 (.IB cc),.G1 b8 [2,3] .seq [.var 0] pB,.ret (.bi .sorted [.var 1])]⟩
noncomputable def qZ(ks:List Str):U:=.GD ks (ks.map λ_=>.bl b8)
theorem fQ(h:ks.length<1000):eT (.str x) (.bl b8) (qZ ks)=a5 (qZ (du ks x)):=by
 unfold qZ;rw[An h];congr 3
 funext k
 split<;>rfl
def dw(ws ks:List Str):Prop:=ks.Nodup/\∀x∈ks,x∈ws
theorem dw.ins(h:dw ws ks)(a:x∈ws):dw ws (du ks x):=⟨qY h.1,λy b=>(bM.mp b).elim (h.2 y) λe=>e▸a⟩
theorem dw.len(h:dw ws ks):ks.length<=ws.length:=ie h.1 h.2
noncomputable def fb(rs:List Row)(ks:List Str)(o2 o3 o4:Option (Kd×U)):ax:=[a5 (.loc,.tup (rs.map Gr)),a5 (.own,qZ ks),o2,o3,o4]
theorem Ap(m:ws.length<1000)(hk:dw ws ks)(c:bV ws r):
  ∃a b,Run (execs Γ pB) (fb rs ks (a5 (.loc,.str r.1)) (a5 (.loc,.tup (r.2.map .str))) o4) .nx (fb rs a (a5 (.loc,.str r.1)) (a5 (.loc,.tup (r.2.map .str))) b)/\dw ws a:=by
 have n:=hk.len;obtain⟨st',i,a,b,rfl,j,_⟩:=cm (rs:=[(.loc,.tup (r.2.map .str))]) (t:=cc) (is:=[4]) (body:=execs Γ x_) (λx:Str=>(Kd.loc,U.str x)) (λd q st=>∃a b,st=fb rs a (a5 (.loc,.str r.1)) (a5 (.loc,.tup (r.2.map .str))) b/\dw ws a/\∀x∈q,x∈ws)
  (λ_ _ _ _=>trivial) (λd y q st h=>by
   obtain⟨e,b,rfl,f,g⟩:=h;have o:=f.len;exact⟨fb rs e (a5 (.loc,.str r.1)) (a5 (.loc,.tup (r.2.map .str))) (a5 (.loc,.str y)),_,aD,ij (k:=.own) (k':=.own) ai rfl (af rfl) (az aI (az aI aO)) rfl rfl (fQ ⋯) ay,du e y,_,rfl,f.ins (g y (by simp)),λx l=>g x (by simp[l])⟩) r.2 [] (fb rs (du ks r.1) (a5 (.loc,.str r.1)) (a5 (.loc,.tup (r.2.map .str))) o4) ⟨_,_,rfl,hk.ins c.1,c.2.2.1⟩
 refine⟨a,b,?_,j⟩;exact ij (k:=.own) (k':=.own) ai rfl (af rfl) (az aI (az aI aO)) rfl rfl (fQ ⋯) (di (rs:=[(.loc,.tup (r.2.map .str))]) (ae (af rfl) ak) trivial (by show a5 ((r.2.map U.str).map λu=>(kE .loc,u))=_;rw[vu];rfl) rfl i ay)
theorem ir{rs:List Row}:Ja .seq [(k,.tup (rs.map Gr))]=a5 (rs.map λr=>(kE k,Gr r)):=by
 show a5 ((rs.map Gr).map λu=>(kE k,u))=_;rw[vu];rfl
def ya(Γ:Tab):Prop:=∀(ws:List Str) (rs:List Row),ws.length<=24->(∀r∈rs,bV ws r)->∃ts,Γ "_law_all" [.tup (rs.map Gr)]=a5 (.ok (.own,.lst (ts.map .str)))/\dw ws ts
theorem Aq{rs:List Row}(l:ws.length<=24)(a:∀r∈rs,bV ws r):∃ts,dt Γ Ao [.tup (rs.map Gr)]=a5 (.ok (.own,.lst (ts.map .str)))/\dw ws ts:=by
 obtain⟨st',c,ks,o2,o3,o4,rfl,hk,_⟩:=cm (rs:=[(.loc,.tup (rs.map Gr))]) (t:=b8) (is:=[2,3]) (body:=execs Γ pB) (λr:Row=>(Kd.loc,Gr r)) (λd q st=>∃ks o2 o3 o4,st=fb rs ks o2 o3 o4/\dw ws ks/\∀r∈q,bV ws r)
  (λ_ _ _ _=>trivial) (λd y q st h=>by
   obtain⟨e,o2,o3,o4,rfl,f,b⟩:=h;obtain⟨g,m,i,j⟩:=Ap (Γ:=Γ) (rs:=rs) (o4:=o4) ⋯ f (b y (by simp));exact⟨fb rs e (a5 (.loc,.str y.1)) (a5 (.loc,.tup (y.2.map .str))) o4,_,pk (.inl rfl),i,g,_,_,_,rfl,j,λr a=>b r (by simp[a])⟩) rs [] (fb rs [] b6 b6 b6) ⟨[],b6,b6,b6,rfl,⟨by simp,by simp⟩,a⟩
 have hl:=hk.len;refine⟨aL ks,?_,⟨(bp _).nodup_iff.mpr hk.1,λx k=>hk.2 x ((bp _).mem_iff.mp k)⟩⟩;refine bC (st0:=[a5 (.loc,.tup (rs.map Gr)),b6,b6,b6,b6]) rfl (.inl rfl) ?_ (aA (st2:=fb rs [] b6 b6 b6) nM bF (di (rs:=[(.loc,.tup (rs.map Gr))]) (ae (af rfl) ak) trivial ir rfl c (bS (c_ (ae (aR rfl) ak) ∅ ?_) ic)))
 ·show [a5 (if G5 (.tup (rs.map Gr))=b8 then Kd.loc else Kd.any,U.tup (rs.map Gr)),b6,b6,b6,b6]=_;rw[Zq (by show cG (rs.map Gr)=b8;exact dA rs)]
 ·show(if ks.length<64 then a5 (Kd.own,U.lst ((aL ks).map .str)) else b6)=_;rw[Zq ⋯]
theorem Fc(h:G_ Pg "_law_all" Ao):ya (GG Pg (d+1)):=λws rs a b=>by
 obtain⟨ts,e,k⟩:=Aq (Γ:=GG Pg d) a b;exact⟨ts,by rw[aW h];exact e,k⟩
noncomputable def yb:List S :=
   [.set 7 (.I0 4 (.Gy "_law_draw" [.var 0,.bi .len [.var 4]] [0])),
   .ite (.and [.cmp .G0 (.var 7) (.var 3),.cmp .eq (.Gy "_law_draw" [.var 0,.var 2] [0]) (.cst (.int 0))])
    [.app 5 (.tup [.var 7,.tup []])]
    []]
noncomputable def Fd:List S :=
   [.ite (.cmp .ne (.Gy "_law_draw" [.var 0,.cst (.int 8)] [0]) (.cst (.int 1)))
      [.ret (.var 1)]
      [],
    .set 2 (.bin .add (.cst (.int 1)) (.Gy "_law_draw" [.var 0,.cst (.int 2)] [0])),
    .set 3 (.comp 1 cc .seq [.var 1] [.cmp .eq (.idx (.var 0) (.cst (.int 1))) (.tup [])] (.idx (.var 0) (.cst (.int 0)))),
    .set 4 (.call "_law_all" [.var 1]),
    .set 5 (.lst []),
    .G1 cc [6] .Hk [.bi .len [.var 4]] yb,
    .ret (.bin .add (.var 1) (.bi .tuple [(.var 5)]))]
noncomputable def Ar:Fn:=⟨"_law_widened",2,8,.JK [0]::Fd⟩
theorem nW(h:(!(i==j))=c):cK .ne (.int i) (.int j)=a5 c:=by subst h;rfl
noncomputable def jl(u:U)(rs:List Row)(share:Int)(hs ts:List Str)(more:List Row)(o6 o7:Option (Kd×U)):ax:=[a5 (.io,u),a5 (.loc,.tup (rs.map Gr)),a5 (.loc,.int share),a5 (.own,.lst (hs.map .str)),a5 (.own,.lst (ts.map .str)),a5 (.own,.lst (more.map Gr)),o6,o7]
theorem yc(o:bg Γ)(w:Src T u)(L:T+2<2 ^ 62)(A:0<share)(N:share<=2)(O:0<ts.length)(Q:ts.length<=24)(p:∀x∈ts,x∈ws)(h:∀r∈more,bV ws r)(Y:more.length<1000):
  ∃u' a j B,Run (execs Γ yb) (jl u rs share hs ts more o6 o7) .nx (jl u' rs share hs a j o6 B)/\Src (T+2) u'/\a.length+1=ts.length/\(∀x∈a,x∈ws)/\(∀r∈j,bV ws r)/\j.length<=more.length+1:=by
 have C:(1000:Nat)<=dV:=by decide
 obtain⟨n,b,D,G,H,s1⟩:=cQ (st:=jl u rs share hs ts more o6 o7) o (i:=0) (k:=.io) (e:=.bi .len [.var 4]) (m:=((ts.map U.str).length:Nat)) rfl rfl (c_ (ae (aR rfl) ak) ∅ bP) w ⋯ (by simp;lia) (by simp;lia);rw[ei]at H;have l:n.toNat<ts.length:=by lia
 have q:(ts.map U.str)[n.toNat]?=a5 (.str ts[n.toNat]):=by simp[l]
 have s:ts[n.toNat]∈ws:=p _ (Ki l);generalize ts[n.toNat]=x at q s;have I:(ts.map U.str).eraseIdx n.toNat=(ts.eraseIdx n.toNat).map U.str:=by
  rw[Od,Od,qs,Yo,Yp]
 have hl:(ts.eraseIdx n.toNat).length+1=ts.length:=by rw[List.length_eraseIdx_of_lt l];lia
 have f:∀y∈ts.eraseIdx n.toNat,y∈ws:=λy J=>p y (List.mem_of_mem_eraseIdx J);have g:Run (ev Γ (.I0 4 (.Gy "_law_draw" [.var 0,.bi .len [.var 4]] [0]))) (jl u rs share hs ts more o6 o7) (.loc,.str x) (jl b rs share hs (ts.eraseIdx n.toNat) more o6 o7):=by
  have:=Dd (i:=4) (k0:=.own) (k:=.own) (us0:=ts.map U.str) (us:=ts.map U.str) rfl (by intro z;cases z) D rfl rfl G ⋯ q;rw[I]at this;exact this
 generalize ts.eraseIdx n.toNat=a at g hl f;have d:Run (GN Γ (.cmp .G0 (.var 7) (.var 3))) (jl b rs share hs a more o6 (a5 (.loc,.str x))) (d6 (x∉hs)) (jl b rs share hs a more o6 (a5 (.loc,.str x))):=aU (af rfl) (aR rfl) ∅ ig;by_cases t:x∈hs
 ·rw[Zs (by simp[t])]at d;exact⟨b,a,more,_,aA g aD (ba (kn (qH d)) ay ay),s1.up ⋯,hl,f,h,⋯⟩
 ·rw[Zt t]at d;obtain⟨m,u2,v,m0,m1,s2⟩:=cQ (st:=jl b rs share hs a more o6 (a5 (.loc,.str x))) o (i:=0) (k:=.io) (e:=.var 2) (m:=share) rfl rfl (af rfl) s1 ⋯ A ⋯;by_cases hz:m=0
  ·refine⟨u2,a,more++[(x,[])],a5 (.loc,.str x),aA g aD (dJ (kn (kq d (fz (aU v ai trivial (cj (c:=b8) (by simp[hz])))))) (i9 (k:=.own) (k':=.own) rfl (i8 (ae (af rfl) (ae (i8 ak trivial aO (oT _)) ak)) trivial (az aI (az aI aO)) (by show 2<=dV;lia)) aI rfl rfl (by simp;lia) ay) ?_),s2.up ⋯,hl,f,?_,by simp⟩
   ·rw[show more.map Gr++[U.tup [.str x,.tup []]]=(more++[(x,[])]).map Gr by simp[Gr]];exact ay
   ·intro r hr;rcases qd.mp hr with hr|hr
    ·exact h r hr
    ·rw[kr]at hr;subst hr;exact⟨s,by simp,by simp,by simp⟩
  ·exact⟨u2,a,more,_,aA g aD (ba (kn (kq d (fz (aU v ai trivial (cj (c:=cc) (by simp[hz])))))) ay ay),s2.up ⋯,hl,f,h,⋯⟩
theorem yd{rs:List Row}(hl:rs.length<=1000)(h:st[i]?=a5 (a5 (.loc,.tup (rs.map Gr)))):Run (ev Γ (.comp 1 cc .seq [.var i] [.cmp .eq (.idx (.var 0) (.cst (.int 1))) (.tup [])] (.idx (.var 0) (.cst (.int 0))))) st (.own,.lst (((rs.filter λr=>d6 (r.2=[])).map (·.1)).map .str)) st:=by
 have b:(1000:Nat)<=dV:=by decide
 have c:∀y:Row,gT (.loc,Gr y) (.int 0)=a5 (.loc,.str y.1):=λy=>rfl;have d:∀y:Row,gT (.loc,Gr y) (.int 1)=a5 (.loc,.tup (y.2.map .str)):=λy=>rfl;have a:=nO (cond:=bq Γ [.cmp .eq (.idx (.var 0) (.cst (.int 1))) (.tup [])]) (elt:=ev Γ (.idx (.var 0) (.cst (.int 0)))) (src:=[(.loc,.tup (rs.map Gr))]) (st:=st) trivial .loc (.inl rfl) Gr (λr:Row=>.str r.1) (λr=>d6 (r.2=[])) .loc rs [] (by simp;lia)
  (λr _=>⟨fz (aU (bt (af rfl) ai trivial (d r)) (i8 ak trivial aO (oT _)) trivial Ah),λ_=>⟨bt (af rfl) ai trivial (c r),aI⟩⟩)
 rw[u6]at a;rw[vu];exact iP (rs:=[(.loc,.tup (rs.map Gr))]) (ae (af h) ak) trivial ir a
def ye(Γ:Tab):Prop:=∀(T:Int) (u:U) (ws:List Str) (rs:List Row),Src T u->T+60<2 ^ 62->ws.length<=24->(∀r∈rs,bV ws r)->rs.length<=60->∃(a:List Row) (u':U),Γ "_law_widened" [u,.tup (rs.map Gr)]=a5 (.ok (.loc,.tup [.tup (a.map Gr),u']))/\(∀r∈a,bV ws r)/\a.length<=84/\Src (T+60) u'
theorem As(g:bg Γ)(J:ya Γ){rs:List Row}(w:Src T u)(hT:T+60<2 ^ 62)(L:ws.length<=24)(j:∀r∈rs,bV ws r)(hl:rs.length<=60):
  ∃(l:List Row) (u':U),fT Γ Ar [0] Fd [u,.tup (rs.map Gr)]=a5 (.ok (.loc,.tup [.tup (l.map Gr),u']))/\(∀r∈l,bV ws r)/\l.length<=84/\Src (T+60) u':=by
 have N:(1000:Nat)<=dV:=by decide
 let c:U->ax:=λv=>[a5 (.io,v),a5 (.loc,.tup (rs.map Gr)),b6,b6,b6,b6,b6,b6]
 have z:cM [0] [u,.tup (rs.map Gr)] Ar.ns=c u:=by
  obtain⟨_,_,_,rfl,_⟩:=w;show [a5 (Kd.io,_),a5 (if G5 (.tup (rs.map Gr))=b8 then Kd.loc else Kd.any,U.tup (rs.map Gr)),b6,b6,b6,b6,b6,b6]=_;rw[Zq (by show cG (rs.map Gr)=b8;exact dA rs)]
 obtain⟨n,o,A,n0,n1,s1⟩:=cQ (st:=c u) g (i:=0) (k:=.io) (e:=.cst (.int 8)) (m:=8) rfl rfl ai w ⋯ ⋯ ⋯;by_cases B:n=1
 ·obtain⟨p,u2,O,p0,p1,s2⟩:=cQ (st:=c o) g (i:=0) (k:=.io) (e:=.cst (.int 2)) (m:=2) rfl rfl ai s1 ⋯ ⋯ ⋯;obtain⟨ts,Q,C⟩:=J ws rs L j;have Ro:=C.len;generalize Y:((rs.filter λr=>d6 (r.2=[])).map (·.1))=hs;have D:=yd (Γ:=Γ) (st:=[a5 (.io,u2),a5 (.loc,.tup (rs.map Gr)),a5 (.loc,.int (1+p)),b6,b6,b6,b6,b6]) (rs:=rs) (i:=1) ⋯ rfl;rw[Y]at D;obtain⟨st',hf,a,b,more,o6,o7,rfl,s3,G,H,I,s,_⟩:=cm (rs:=[(.loc,.int (ts.length:Nat))]) (t:=cc) (is:=[6]) (body:=execs Γ yb) (λi:Nat=>(Kd.loc,U.int (0+(i:Int)))) (λd r st=>∃(a:U) (b:List Str) (more:List Row) (o6 o7:Option (Kd×U)),st=jl a rs (1+p) hs b more o6 o7/\Src (T+2+2 * (d.length:Nat)) a/\b.length=r.length/\more.length<=d.length/\(∀x∈b,x∈ws)/\(∀r∈more,bV ws r)/\d.length+r.length=ts.length)
   (λd r st _=>trivial) (λd y r st h=>by
    obtain⟨a,b,more,o6,o7,rfl,s3,G,H,I,s,t3⟩:=h;simp only[rz]at G t3;obtain⟨u4,Wi,NY,Kj,q,s4,l4,i4,g4,m4⟩:=yc (Γ:=Γ) g (u:=a) (share:=1+p) (rs:=rs) (more:=more) (ws:=ws) (hs:=hs) (ts:=b) (o6:=a5 (.loc,.int (0+(y:Int)))) (o7:=o7) s3 ⋯ ⋯ ⋯ ⋯ ⋯ I s ⋯;refine⟨jl a rs (1+p) hs b more (a5 (.loc,.int (0+(y:Int)))) o7,_,aD,q,u4,Wi,NY,_,_,rfl,s4.up (by simp;lia),⋯,by simp;lia,i4,g4,by simp;lia⟩) (ko ts.length) [] (jl u2 rs (1+p) hs ts [] b6 b6) ⟨u2,ts,[],b6,b6,rfl,s2.up (by simp;lia),by simp,by simp,C.2,by simp,by simp⟩
  rw[u6,G9]at H s3;refine⟨rs++more,a,?_,?_,by simp;lia,s3.up ⋯⟩
  ·refine bT (f:=.rt .loc (.tup ((rs++more).map Gr))) (st:=jl a rs (1+p) hs b more o6 o7) rfl z ?_ rfl rfl;refine ba (aU A ai trivial (nW (by simp[B]))) ay (aA (bx ai O trivial b_) aD (aA D bF (aA (bJ (ae (af rfl) ak) trivial Q) bF (aA (cE ak trivial aO (oT _)) bF ?_))));refine di (rs:=[(.loc,.int (ts.length:Nat))]) (ae (c_ (ae (aR rfl) ak) ∅ (by rw[bP,ei])) ak) trivial (fC ⋯) rfl hf (bS (bx (af rfl) (c_ (ae (aR rfl) ak) ∅ rfl) trivial ?_) fA);show(if (rs.map Gr).length+(more.map Gr).length<=dV then a5 (kT .loc .loc,U.tup (rs.map Gr++more.map Gr)) else b6)=_;rw[Zq (by simp;lia),qs];rfl
  ·intro r hm;rcases qd.mp hm with hm|hm
   ·exact j r hm
   ·exact s r hm
 ·exact⟨rs,o,bT (f:=.rt .loc (.tup (rs.map Gr))) (st:=c o) rfl z (iN (aU A ai trivial (nW (by simp[B]))) (bS (af rfl) fA)) rfl rfl,j,⋯,s1.up ⋯⟩
theorem Fe(a:bg (GG Pg d))(b:ya (GG Pg d))(h:G_ Pg "_law_widened" Ar):ye (GG Pg (d+1)):=by
 intro T u ws rs c f g i hl;obtain⟨j,u',e,r⟩:=As a b c f g i hl;exact⟨j,u',by rw[cF h _ rfl];exact e,r⟩
noncomputable def kL:Fn:=⟨"_law_same",2,2,[.ite (.IZ (.var 1) .tuple) [.ite (.or [.not (.IZ (.var 0) .tuple),.cmp .ne (.bi .len [.var 0]) (.bi .len [.var 1])]) [.ret (.cst (.bl cc))] [],.ret (.bi .all [.comp 1 cc .Hk [.bi .len [.var 1]] [] (.call "_law_same" [.idx (.var 1) (.var 0),.idx (.var 2) (.var 0)])])] [],.ite (.IZ (.var 1) .list) [.ite (.or [.not (.IZ (.var 0) .list),.cmp .ne (.bi .len [.var 0]) (.bi .len [.var 1])]) [.ret (.cst (.bl cc))] [],.ret (.bi .all [.comp 1 cc .Hk [.bi .len [.var 1]] [] (.call "_law_same" [.idx (.var 1) (.var 0),.idx (.var 2) (.var 0)])])] [],.ite (.cmp .is (.var 1) (.cst .Gv)) [.ret (.cmp .is (.var 0) (.cst .Gv))] [],.ite (.IZ (.var 1) .str) [.ret (.and [.IZ (.var 0) .str,.cmp .eq (.var 0) (.var 1)])] [],.ret (.and [.IZ (.var 0) .int,.not (.IZ (.var 0) .bool),.cmp .eq (.var 0) (.var 1)])]⟩
def cS(Γ:Tab)(u:U):Prop:=Γ "_law_same" [u,u]=a5 (.ok (.loc,.bl b8))
theorem uI:dt Γ kL [.str x,.str x]=a5 (.ok (.loc,.bl b8)):=by
 exact bC (st0:=[a5 (.loc,.str x),a5 (.loc,.str x)]) rfl (.inr rfl) rfl (ba (mj (af rfl) rfl) ay (ba (mj (af rfl) rfl) ay (ba (aU (af rfl) ai trivial rfl) ay (iN (mj (af rfl) rfl) (bS (ES (Df (p:=b8) (q:=b8) (E3 (af rfl) rfl) λ_=>C7 (oY (af rfl) (af rfl) trivial (by rw[nP];simp)))) fA)))))
theorem uJ{xs:List U}(hk:k=.loc\/k=.any)(d:∀i u,xs[i]?=a5 u->gT (k,w) (.int (i:Nat))=a5 (k,u))(f:JB .len [(k,w)]=a5 (.loc,.int (xs.length:Nat)))(hl:xs.length<=1000)(g:∀u∈xs,cS Γ u):
  Run (ev Γ (.bi .all [.comp 1 cc .Hk [.bi .len [.var 1]] [] (.call "_law_same" [.idx (.var 1) (.var 0),.idx (.var 2) (.var 0)])])) [a5 (k,w),a5 (k,w)] (.loc,.bl b8) [a5 (k,w),a5 (k,w)]:=by
 have j:(1000:Nat)<=dV:=by decide
 have l:∀(i:Nat) (st:ax),st[i]?=a5 (a5 (k,w))->Run (ev Γ (.var i)) st (k,w) st:=λi st h=>by
  rcases hk with rfl|rfl
  ·exact af h
  ·exact aX h
 have a:=qM (cond:=bq Γ []) (elt:=ev Γ (.call "_law_same" [.idx (.var 1) (.var 0),.idx (.var 2) (.var 0)])) (src:=[(.loc,.int (xs.length:Nat))]) (st:=[a5 (k,w),a5 (k,w)]) trivial .loc (.inl rfl) (λi:Nat=>U.int (0+(i:Int))) (λ_=>.bl b8) .loc (λ_=>sL) (ko xs.length) [] (by simp;lia)
  (λi m=>by
   have b:=HW.mp m;have e:=d i xs[i] (by simp[b]);have c:=g xs[i] (Ki b);rw[show(0:Int)+(i:Int)=(i:Nat) by lia];refine⟨?_,aI⟩;rcases hk with rfl|rfl
   ·exact bJ (ae (bt (af rfl) (af rfl) trivial e) (ae (bt (af rfl) (af rfl) trivial e) ak)) trivial c
   ·exact bJ (ae (bt (aX rfl) (af rfl) trivial e) (ae (bt (aX rfl) (af rfl) trivial e) ak)) trivial c)
 rw[u6]at a;have n:JB .all [(.own,.lst ((ko xs.length).map λ_=>U.bl b8))]=a5 (.loc,.bl b8):=by
  have:=Ag (k:=.own) ((ko xs.length).map λ_=>b8);rw[vu]at this;refine Eq.trans this ?_;congr 3
  rw[YH];exact mx.mpr λ_ _=>rfl
 refine c_ (ae (iP (rs:=[(.loc,.int (xs.length:Nat))]) (ae (c_ (ae (l 1 _ rfl) ak) ?_ f) ak) trivial (fC ⋯) a) ak) trivial n;rcases hk with rfl|rfl<;>exact trivial
theorem uK(hl:xs.length<=1000)(a:∀u∈xs,cS Γ u):dt Γ kL [.lst xs,.lst xs]=a5 (.ok (.loc,.bl b8)):=by
 have q:=uJ (Γ:=Γ) (k:=.any) (w:=.lst xs) (xs:=xs) (.inr rfl) (λi u h=>bU (jm h)) bP hl a;refine bC (st0:=[a5 (.any,.lst xs),a5 (.any,.lst xs)]) rfl (.inr rfl) rfl (ba (mj (aX rfl) rfl) ay (iN (mj (aX rfl) rfl) (ba (C9 (xt (o_ (mj (b:=b8) (aX rfl) rfl)) (xr (aU (c_ (ae (aX rfl) ak) trivial bP) (c_ (ae (aX rfl) ak) trivial bP) trivial (nW (c:=cc) (by simp)))))) ay (bS q fA))))
theorem A4(h:G_ Pg "_law_same" kL)(x:Str):cS (GG Pg (d+1)) (.str x):=by unfold cS;rw[aW h];exact uI
theorem Ff(h:G_ Pg "_law_same" kL)(hl:xs.length<=1000)(a:∀u∈xs,cS (GG Pg d) u):cS (GG Pg (d+1)) (.lst xs):=by unfold cS;rw[aW h];exact uK hl a
section
theorem yf(o:i≠j)(l:st[i]?=a5 (a5 (k0,a)))(c:k0.root=b8)(y:st[j]?=a5 (a5 (k0',d)))(z:k0'.root=b8)(A:Run (bc Γ es) st rs st1)
  (b:st1[i]?=a5 (a5 (k,.lst us))) (hk:k.root=b8) (B:cG us=b8) (m:st1[j]?=a5 (a5 (k',.lst vs))) (p:k'.root=b8) (C:cG vs=b8) (D:rs.map (dO st1)=rs) (G:bo rs st1) (H:∀r∈rs,rO [a5 i,a5 j] r=b8)
  (I:Γ f (.lst us::.lst vs::rs.map (·.2))=a5 (.ok (n,.tup [v,.lst s,.lst t]))) (J:n=.own\/n=.loc):Run (ev Γ (.Gy f (.var i::.var j::es) [0,1])) st (n,v) ((st1.set i (a5 (k,.lst s))).set j (a5 (k',.lst t))):=by
 have w:∀(i:Nat) (k0:Kd) (a:U),st[i]?=a5 (a5 (k0,a))->k0.root=b8->Run (ev Γ (.var i)) st (.bor i,a) st:=λi k0 a l c=>by
  have:=dS l (by rintro rfl;cases c);unfold kv at this;rw[Zq c]at this;exact this
 have x:∀(i:Nat) (k:Kd) (a u:U),st1[i]?=a5 (a5 (k,u))->k.root=b8->dO st1 (.bor i,a)=(.bor i,u):=λi k a u b hk=>by
  unfold dO
  dsimp only
  rw[b];simp[hk]
 have e:((Kd.bor i,a)::(Kd.bor j,d)::rs).map (dO st1)=(.bor i,.lst us)::(.bor j,.lst vs)::rs:=by rw[hW,hW,x i k a _ b hk,x j k' d _ m p,D]
 have g:gy ((Kd.bor i,U.lst us)::(Kd.bor j,U.lst vs)::rs) 0=a5 i:=by
  show(if cG us=b8 then a5 i else b6)=_;rw[Zq B]
 have h:gy ((Kd.bor i,U.lst us)::(Kd.bor j,U.lst vs)::rs) 1=a5 j:=by
  show(if cG vs=b8 then a5 j else b6)=_;rw[Zq C]
 refine qL (rs:=(.bor i,a)::(.bor j,d)::rs) (ws:=[.lst s,.lst t]) (st1:=st1) (ae (w i k0 a l c) (ae (w j k0' d y z) A)) ?_ ?_ J ?_ ?_
 ·rw[e];exact⟨⟨k,hk,b⟩,⟨k',p,m⟩,G⟩
 ·rw[e];exact I
 ·rw[e];unfold oM;rw[cb,cb];refine⟨⟨by simp[g,h],by simp[g,h,o]⟩,mx.mpr λq L=>?_⟩
  match q with
  |0=>simp
  |1=>simp
  |q+2 =>
   have hl:q<rs.length:=by have:=HW.mp L;simpa using this
   rw[KQ];refine .inr ?_;rw[show((Kd.bor i,U.lst us)::(Kd.bor j,U.lst vs)::rs).getD (q+2) (.loc,.Gv)=rs[q] by simp[Ou,hl]];simp only[hW,LS,g,h];exact H _ (Ki hl)
 ·rw[e];unfold f9;rw[g]
  dsimp only
  rw[b]
  dsimp only
  unfold f9;rw[h]
  dsimp only
  rw[i0 o,m];rfl
end
def kM(Γ:Tab):Prop:=∀(ns:List Int) (u:U) (ws:List Str) (T:Int),Src T u->T+500<2 ^ 62->ns.length<1000->0<ws.length->ws.length<1000000 ->
  ∃(rs:List Row) (a:List Int) (u':U),Γ "_law_book" [.lst (ns.map .int),u,.lst (ws.map .str)]=a5 (.ok (.loc,.tup [.tup (rs.map Gr),.lst (a.map .int),u']))/\c7 ws rs/\rs.length<=60/\a.length<=ns.length/\Src (T+500) u'
theorem yg(a:iq (GG Pg d))(b:bg (GG Pg d))(c:kI (GG Pg d))(f:kJ (GG Pg d))(h:G_ Pg "_law_book" nV):kM (GG Pg (d+1)):=by
 intro ns u ws T g i j k l;obtain⟨rs,m,u',e,r⟩:=qV a b c f g i j k l;exact⟨rs,m,u',by rw[cF h _ rfl];exact e,r⟩
theorem pC(a:iq Γ){ns:List Int}:∃(b:List Int) (u:U),Run (ev Γ (.Gy "_law_source" [.var 1,.cst (.int k)] [0])) (o0::a5 (.own,.lst (ns.map .int))::rest) (.own,u) (o0::a5 (.own,.lst (b.map .int))::rest)/\b.length<=ns.length/\Src 0 u:=by
 by_cases h:ns=[]
 ·subst h;exact⟨[],e_ k 0 1,Dp (k0:=.own) (k:=.own) a rfl rfl ai rfl rfl,i3 _,⟨_,_,_,rfl,⋯,⋯⟩⟩
 ·have e:=O4 h;generalize ns.dropLast=l at e;generalize ns.getLast h=c at e;subst e;exact⟨l,e_ (c / 2) 0 (c % 2),xV (k0:=.own) (k:=.own) a rfl rfl ai rfl rfl,by simp,⟨_,_,_,rfl,⋯,⋯⟩⟩
theorem Src.lst(h:Src T u):∃us,u=.lst us/\cG us=b8:=by
 obtain⟨a,t,w,rfl,_,_⟩:=h;exact⟨_,rfl,rfl⟩
noncomputable def HP(p:Str×Str):U:=.tup [.str p.1,.str p.2]
noncomputable def bB(a:List (Str×Str))(w:Str):List Str:=(a.filter λp=>d6 (p.1=w)).map (·.2)
theorem fR:x∈bB a w↔(w,x)∈a:=by
 unfold bB;constructor
 ·intro h;obtain⟨p,b,rfl⟩:=my.mp h;obtain⟨c,d⟩:=NS.mp b;rw[<-Zu d];exact c
 ·intro h;exact my.mpr ⟨_,NS.mpr ⟨h,Zt rfl⟩,rfl⟩
theorem iT(a:List (Str×Str))(w:Str):(bB a w).length<=a.length:=by
 unfold bB;rw[ei];exact L_ _ _
theorem gE(d:List (Str×Str))(y:Str×Str)(k:Str):bB (d++[y]) k=if y.1=k then bB d k++[y.2] else bB d k:=by
 unfold bB;rw[Xb,qs];by_cases e:y.1=k
 ·rw[Zq e];simp[e]
 ·rw[Zr e];simp[e]
noncomputable def II(a:List (Str×Str))(k:Str):U:=.lst ((bB a k).map .str)
noncomputable def dc(ks:List Str)(a:List (Str×Str)):U:=.GD ks (ks.map (II a))
inductive Hg(ps:List (Str×Str))(a:Str):Str->Prop
 |one {b:Str}:(a,b)∈ps->Hg ps a b
 |more {b c:Str}:Hg ps a b->(b,c)∈ps->Hg ps a c
theorem Hg.head(h:(a,b)∈e)(r:Hg e b c):Hg e a c:=by
 induction r with
 |one d=>exact .more (.one h) d
 |more _ d f=>exact .more f d
noncomputable def Jr(p:Str×Str):Str×Str:=(p.2,p.1)
theorem nX{c:List (Str×Str)}:(a,b)∈c.map Jr↔(b,a)∈c:=by
 constructor
 ·intro h;obtain⟨p,d,e⟩:=my.mp h;cases e;exact d
 ·intro h;exact my.mpr ⟨_,h,rfl⟩
theorem Hg.flip(c:∀a b,(a,b)∈d->(b,a)∈e)(r:Hg d a b):Hg e b a:=by
 induction r with
 |one h=>exact .one (c _ _ h)
 |more _ f g=>exact .head (c _ _ f) g
theorem Hg.Jr:Hg (c.map Jr) a b↔Hg c b a:=⟨Hg.flip λ_ _ h=>nX.mp h,Hg.flip λ_ _ h=>nX.mpr h⟩
theorem Hg.last(r:Hg d a b):∃c,(c,b)∈d:=by cases r with
 |one h=>exact⟨_,h⟩
 |more _ h=>exact⟨_,h⟩
theorem Hg.first(r:Hg d a b):∃c,(a,c)∈d:=by
 induction r with
 |one h=>exact⟨_,h⟩
 |more _ _ e=>exact e
theorem Hg.sub{F:List Str}(h:∀y z,y=a\/y∈F->(y,z)∈c->z∈F)(r:Hg c a b):b∈F:=by
 induction r with
 |one d=>exact h _ _ (.inl rfl) d
 |more _ e f=>exact h _ _ (.inr f) e
noncomputable def Fg:List S:=[.ite (.inD b8 (.var 2) 1) [.putD 1 (.var 2) (.lst [])] [],.I_ 1 (.var 2) (.var 3)]
noncomputable def uL:Fn:=⟨"gathered",1,4,[.newD 1,.G1 b8 [2,3] .seq [.var 0] Fg,.ret (.Mx 1)]⟩
section
theorem Au(hl:c.length<=1000):∃ks:List Str,(∀w,w∉ks->bB c w=[])/\dt Γ uL [.lst (c.map HP)]=a5 (.ok (.own,dc ks c)):=by
 have hsz:(2000:Nat)<=dV:=by decide
 let S:=λ(ks:List Str) (us:List U) (o2 o3:Option (Kd×U))=>([a5 (.any,.lst (c.map HP)),a5 (.Gq,.GD ks us),o2,o3]:ax)
 obtain⟨st',A,m,ks,o2,o3,e,g,hk,B⟩:=cm (t:=b8) (is:=[2,3]) (body:=execs Γ Fg) (rs:=[(.any,.lst (c.map HP))]) (λp:Str×Str=>(Kd.any,HP p))
  (λd r st=>d++r=c/\∃(ks:List Str) (o2 o3:Option (Kd×U)),st=S ks (ks.map (II d)) o2 o3/\ks.Nodup/\(∀w,w∉ks->bB d w=[])/\ks.length<=d.length) (λ_ _ _ _=>trivial) (λd y r st C=>by
   obtain⟨m,ks,o2,o3,e,g,hk,B⟩:=C;subst e;have J:d.length<1000:=by have:=Zv Lz m;simp at this;lia
   let i:Option (Kd×U):=a5 (.any,.str y.1);let j:Option (Kd×U):=a5 (.any,.str y.2);have L:=iT d y.1;have l:∀(ks:List Str),ks.Nodup->y.1∈ks->Run (execs Γ [.I_ 1 (.var 2) (.var 3)]) (S ks (ks.map (II d)) i j) .nx (S ks (ks.map (II (d++[y]))) i j):=λks g f=>by
    have D:dN ks (ks.map (II d)) y.1=a5 (.lst ((bB d y.1).map .str)):=by rw[ip,Zq f];rfl
    have hs:ji ks (ks.map (II d)) y.1 (.lst ((bB d y.1).map U.str++[.str y.2]))=ks.map (II (d++[y])):=by
     rw[pq _ _ _ _ g];refine Nl λk hk=>?_;unfold II;rw[gE];by_cases e:y.1=k
     ·subst e;rw[Zq rfl,Zq rfl];simp
     ·rw[Zr e,Zr (uv e)]
    rw[<-hs];exact Dj (k:=.any) (r:=(.any,.str y.2)) rfl (aX rfl) f (aX rfl) (xq rfl) D (by rw[ei];lia) ay
   have n:Run (GN Γ (.inD b8 (.var 2) 1)) (S ks (ks.map (II d)) i j) (!d6 (y.1∈ks)) (S ks (ks.map (II d)) i j):=E4 (neg:=b8) (k:=.any) (aX rfl) rfl;have q:Run (eC b8 [2,3] (.any,HP y)) (S ks (ks.map (II d)) o2 o3) () (S ks (ks.map (II d)) i j):=pk (.inr rfl);by_cases f:y.1∈ks
   ·rw[Zt f]at n;refine⟨_,_,q,E1 n (λh=>by cases h) λ_=>l ks g f,by rw[<-m];simp,ks,_,_,rfl,g,λw o=>?_,by simp;lia⟩;have G:y.1≠w:=λz=>o (by rw[<-z];exact f);rw[gE,Zr G];exact hk w o
   ·rw[Zs f]at n;have s:(ks++[y.1]).Nodup:=by
     rw[JJ];refine⟨g,by simp,λa H b I e=>?_⟩;have:b=y.1:=by simpa using I
     subst this;exact f (e▸H)
    have em:ks.map (II d)++[.lst []]=(ks++[y.1]).map (II d):=by
     rw[qs];congr 1
     show _=[II d y.1]
     unfold II;rw[hk y.1 f];rfl
    have v:=l (ks++[y.1]) s (by simp);rw[<-em]at v;refine⟨_,_,q,E1 n (λ_=>Di (k:=.any) (xs:=[]) (cE ak trivial aO (oT _)) rfl (aX rfl) f ⋯ v) λh=>(by cases h),by rw[<-m];simp,ks++[y.1],_,_,rfl,s,λw o=>?_,by simp;lia⟩;have x:w∉ks/\w≠y.1:=by simpa using o
    rw[gE,Zr (uv x.2)];exact hk w x.1) c [] (S [] [] b6 b6) ⟨rfl,[],b6,b6,rfl,.nil,λ_ _=>rfl,i3 _⟩
 subst e;rw[u6]at *;refine⟨ks,hk,?_⟩;have e:(c.map HP).map (λu=>(kE .any,u))=c.map λp=>(Kd.any,HP p):=by rw[vu];rfl
 exact bC rfl (.inl rfl) (st0:=[a5 (.any,.lst (c.map HP)),b6,b6,b6]) rfl (Dh (di (rs:=[(.any,.lst (c.map HP))]) (st1:=S [] [] b6 b6) (ae (aX rfl) ak) trivial rfl rfl (by rw[e];exact A) (bS (E5 rfl) (kA rfl))))
def Gn(Γ:Tab):Prop:=∀a:List (Str×Str),a.length<=1000->∃ks:List Str,(∀w,w∉ks->bB a w=[])/\Γ "gathered" [.lst (a.map HP)]=a5 (.ok (.own,dc ks a))
theorem Fh(h:G_ Pg "gathered" uL):Gn (GG Pg (d+1)):=λa hl=>by
 obtain⟨ks,hk,e⟩:=Au (Γ:=GG Pg d) hl;exact⟨ks,hk,(aW h _).trans e⟩
noncomputable def bz(rs:List Row):List (Str×Str):=(rs.map λr=>r.2.map λx=>(r.1,x)).flatten
theorem fD:(a,b)∈bz rs↔∃r∈rs,r.1=a/\b∈r.2:=by
 unfold bz;rw[XD];constructor
 ·rintro⟨l,hl,h⟩;obtain⟨r,c,rfl⟩:=my.mp hl;obtain⟨x,d,e⟩:=my.mp h;cases e;exact⟨r,c,rfl,d⟩
 ·rintro⟨r,c,rfl,f⟩;exact⟨_,Pk c,Pk f⟩
theorem uM(d:List Row)(r:Row):bz (d++[r])=bz d++r.2.map λx=>(r.1,x):=by simp[bz]
theorem fE:∀{rs:List Row},(∀r∈rs,r.2.length<=8)->(bz rs).length<=8 * rs.length
 |[],_=>by simp[bz]
 |r::rs,h=>by
  have b:=fE (rs:=rs) λq a=>h q (by simp[a]);have c:=h r (by simp);have e:bz (r::rs)=(r.2.map λx=>(r.1,x))++bz rs:=by simp[bz]
  rw[e,l',ei,rz];lia
noncomputable def Fi:List S:=[.ext 1 (.comp 1 cc .seq [.idx (.var 2) (.cst (.int 1))] [] (.tup [.idx (.var 3) (.cst (.int 0)),.var 0]))]
noncomputable def yh:Fn:=⟨"pairs_of",1,3,[.set 1 (.lst []),.G1 cc [2] .seq [.var 0] Fi,.ret (.var 1)]⟩
theorem bW(rs:List Row):(a5 (if G5 (.tup (rs.map Gr))=b8 then Kd.loc else Kd.any,U.tup (rs.map Gr)):Option (Kd×U))=a5 (.loc,.tup (rs.map Gr)):=by
 rw[Zq (by show cG (rs.map Gr)=b8;exact dA rs)]
theorem kN{ss:List Str}:Ja .seq [(k,.tup (ss.map .str))]=a5 (ss.map λx=>(kE k,U.str x)):=by
 show a5 ((ss.map U.str).map λu=>(kE k,u))=_;rw[vu];rfl
theorem sU(b:∀r∈rs,r.2.length<=8)(m:rs.length<=100):dt Γ yh [.tup (rs.map Gr)]=a5 (.ok (.own,.lst ((bz rs).map HP))):=by
 have hsz:(2000:Nat)<=dV:=by decide
 let S:=λ(g:List (Str×Str)) (o2:Option (Kd×U))=>([a5 (.loc,.tup (rs.map Gr)),a5 (.own,.lst (g.map HP)),o2]:ax)
 obtain⟨st',h,a,o2,rfl⟩:=cm (t:=cc) (is:=[2]) (body:=execs Γ Fi) (rs:=[(.loc,.tup (rs.map Gr))]) (λr:Row=>(Kd.loc,Gr r))
  (λd r st=>d++r=rs/\∃(o2:Option (Kd×U)),st=S (bz d) o2) (λ_ _ _ _=>trivial) (λd y r st i=>by
   obtain⟨a,o2,e⟩:=i;subst e;have j:∀r∈d,r.2.length<=8:=λq l=>b q (by rw[<-a];simp[l]);have n:=b y (by rw[<-a];simp);have o:d.length<100:=by have:=Zv Lz a;simp at this;lia
   have p:=fE j;have c:=qM (cond:=bq Γ []) (elt:=ev Γ (.tup [.idx (.var 3) (.cst (.int 0)),.var 0])) (src:=[(.loc,.tup (y.2.map .str))]) (st:=S (bz d) (a5 (.loc,Gr y))) trivial .loc (.inl rfl) U.str (λx=>HP (y.1,x)) .loc (λ_=>sL) y.2 [] (by simp;lia)
    (λx f=>⟨i8 (rs:=[(.loc,.str y.1),(.loc,.str x)]) (ae (bt (af rfl) ai trivial (mT rfl)) (ae (af rfl) ak)) trivial (az aI (az aI aO)) (by show 2<=dV;lia),aI⟩)
   rw[u6]at c;have f:iF (.own,.lst (y.2.map λx=>HP (y.1,x))) (.lst ((bz d).map HP))=a5 (.lst ((bz (d++[y])).map HP)):=by
    rw[sN (by rw[ei,ei];lia) rfl,uM,qs,vu];rfl
   exact⟨S (bz d) (a5 (.loc,Gr y)),_,aD,xy (k:=.own) (k':=.own) rfl (iP (ae (bt (af rfl) ai trivial (mT rfl)) ak) trivial kN c) rfl rfl f ay,by rw[<-a];simp,_,rfl⟩) rs [] (S [] b6) ⟨rfl,b6,rfl⟩
 exact bC rfl (.inl rfl) (st0:=[a5 (.loc,.tup (rs.map Gr)),b6,b6]) (Zv (λx=>[x,b6,b6]) (bW rs)) (aA (cE ak trivial aO (oT _)) bF (di (rs:=[(.loc,.tup (rs.map Gr))]) (ae (af rfl) ak) trivial ir rfl h (bS (aR rfl) (kA rfl))))
noncomputable def sV:Fn:=⟨"words_told_of",1,1,[.ret (.call "gathered" [.call "pairs_of" [.var 0]])]⟩
noncomputable def pD:Fn:=⟨"words_that_tell",1,1,[.ret (.call "gathered" [.comp 2 b8 .seq [.call "pairs_of" [.var 0]] [] (.tup [.var 1,.var 0])])]⟩
def q9(Γ:Tab)(f:Str)(rs:List Row)(a:List (Str×Str)):Prop:=∃ks:List Str,(∀w,w∉ks->bB a w=[])/\Γ f [.tup (rs.map Gr)]=a5 (.ok (.own,dc ks a))
theorem Dq(b:G_ Pg "gathered" uL)(c:G_ Pg "pairs_of" yh)(f:G_ Pg "words_told_of" sV)(a:∀r∈rs,r.2.length<=8)(g:rs.length<=100):q9 (GG Pg (d+2)) "words_told_of" rs (bz rs):=by
 obtain⟨ks,hk,e⟩:=Fh (d:=d) b (bz rs) (by have:=fE a;lia);exact⟨ks,hk,(aW f _).trans (bC rfl (.inl rfl) (st0:=[a5 (.loc,.tup (rs.map Gr))]) (Zv (λx=>[x]) (bW rs)) (bS (bJ (ae (bJ (ae (af rfl) ak) trivial ((aW c _).trans (sU a g))) ak) trivial e) ic))⟩
theorem Av(f:G_ Pg "gathered" uL)(g:G_ Pg "pairs_of" yh)(h:G_ Pg "words_that_tell" pD)(c:∀r∈rs,r.2.length<=8)(i:rs.length<=100):q9 (GG Pg (d+2)) "words_that_tell" rs ((bz rs).map Jr):=by
 have hsz:(2000:Nat)<=dV:=by decide
 have hl:=fE c;obtain⟨ks,hk,e⟩:=Fh (d:=d) f ((bz rs).map Jr) (by rw[ei];lia);have j:Run (bO 2 b8 (bq (GG Pg (d+1)) []) (ev (GG Pg (d+1)) (.tup [.var 1,.var 0])) [(.own,.lst ((bz rs).map HP))] ((bz rs).map λp=>(Kd.loc,HP p)) []) [a5 (.loc,.tup (rs.map Gr))] (((bz rs).map Jr).map HP) [a5 (.loc,.tup (rs.map Gr))]:=by
  obtain⟨us,st',b,rfl,rfl⟩:=qW (k:=2) (t:=b8) (cond:=bq (GG Pg (d+1)) []) (elt:=ev (GG Pg (d+1)) (.tup [.var 1,.var 0])) (src:=[(.own,.lst ((bz rs).map HP))]) (λp:Str×Str=>(Kd.loc,HP p))
   (λd r a st=>st=[a5 (.loc,.tup (rs.map Gr))]/\a=(d.map Jr).map HP) (λ_ _ _ _ _=>trivial) (λd y q a st l=>by
    obtain⟨b,m⟩:=l;subst b m;exact⟨[a5 (.loc,.str y.1),a5 (.loc,.str y.2),a5 (.loc,.tup (rs.map Gr))],_,_,_,_,HP (Jr y),pk (.inl rfl),sL,i8 (rs:=[(.loc,.str y.2),(.loc,.str y.1)]) (ae (af rfl) (ae (af rfl) ak)) trivial (az aI (az aI aO)) (by show 2<=dV;lia),aI,rfl,by simp⟩) (bz rs) [] [] _ ⟨rfl,rfl⟩ (by simp;lia)
  rw[u6]at b;exact b
 refine⟨ks,hk,(aW h _).trans (bC rfl (.inl rfl) (st0:=[a5 (.loc,.tup (rs.map Gr))]) (Zv (λx=>[x]) (bW rs)) (bS (bJ (ae (iP (ae (bJ (ae (af rfl) ak) trivial ((aW g _).trans (sU c i))) ak) trivial ?_ j) ak) trivial e) ic))⟩;show a5 (((bz rs).map HP).map λu=>(kE .own,u))=_;rw[vu];rfl
end
section
theorem sW(c:st[i]?=a5 (a5 (.any,.GD ks us)))(d:Run (ev Γ a) st (k,.str y) st)(e:Run (ev Γ b) st z st)(f:Run (lift z) st u st)(g:(match dN ks us y with|some v=>(Kd.any,v)|none=>(.loc,u))=r):
  Run (ev Γ (.IC i a b)) st r st:=by
 refine aa (dS c) (aa (a:=()) (st1:=st) rfl (aa d (aa (a:=y) (st1:=st) rfl (aa e (aa f (aa (dS c) (cD ?_)))))));subst g;rfl
theorem sX(hk:∀w,w∉ks->bB b w=[])(c:st[i]?=a5 (a5 (.any,dc ks b)))(d:Run (ev Γ a) st (.loc,.str y) st):∃k,(k=.any\/k=.loc)/\Run (ev Γ (.IC i a (.lst []))) st (k,.lst ((bB b y).map .str)) st:=by
 by_cases h:y∈ks
 ·exact⟨.any,.inl rfl,sW c d (cE ak trivial aO (oT _)) mf (by rw[ip,Zq h];rfl)⟩
 ·exact⟨.loc,.inr rfl,sW c d (cE ak trivial aO (oT _)) mf (by rw[ip,Zr h,hk y h];rfl)⟩
theorem mD{ss:List Str}(hk:k=.any\/k=.loc):dZ k (ss.map .str)=b8:=by
 rcases hk with rfl|rfl
 ·exact iQ ss
 ·rfl
noncomputable def Fj:List S :=
   [.set 4 (.pop 3),
   .ite (.cmp .G0 (.var 4) (.var 2))
    [.put 2 (.var 4) (.cst (.bl b8)),
    .ext 3 (.IC 0 (.var 4) (.lst []))]
    []]
noncomputable def Fm:Fn:=⟨"reached",2,5,[.set 2 (.IB cc),.set 3 (.bi .list [.IC 0 (.var 1) (.lst [])]),.K9 (.cmp .ne (.var 3) (.lst [])) Fj,.ret (.var 2)]⟩
noncomputable def ll(l:U)(w:Str)(a b:List Str)(o4:Option (Kd×U)):ax:=[a5 (.any,l),a5 (.loc,.str w),a5 (.own,qZ a),a5 (.own,.lst (b.map .str)),o4]
structure N1(ws:List Str)(ps:List (Str×Str))(w:Str)(fd wt:List Str):Prop where
 ks:dw ws fd
 fr:∀x∈fd,Hg ps w x
 wr:∀x∈wt,Hg ps w x
 cl:∀y z,y=w\/y∈fd->(y,z)∈ps->z∈fd\/z∈wt
 wl:wt.length<=(fd.length+1) * 1000
theorem Aw{a b:List Str}:cK .ne (.lst (a.map U.str)) (.lst (b.map U.str))=a5 (!d6 (a=b)):=by
 have h:=@pf a b;simp only[cK]at h ⊢;split at h
 ·rename_i c;rw[Zq c,GI h]
 ·cases h
theorem kO(J:ws.length<=24)(L:d.length<=1000)(A:∀p∈d,p.2∈ws)(hk:∀w,w∉ks->bB d w=[]):
  ∀(n:Nat) (f g:List Str) (o4:Option (Kd×U)),(64 - f.length) * 2000+g.length<n->N1 ws d w f g->∃o r,Run (fS (GN Γ (.cmp .ne (.var 3) (.lst []))) (execs Γ Fj) n) (ll (dc ks d) w f g o4) .nx (ll (dc ks d) w o [] r)/\N1 ws d w o []
 |0,_,_,_,h,_=>by lia
 |n+1,f,g,o4,h,j=>by
  have T:(100000:Nat)<=dV:=by decide
  have N:∀g,Run (GN Γ (.cmp .ne (.var 3) (.lst []))) (ll (dc ks d) w f g o4) (!d6 (g=[])) (ll (dc ks d) w f g o4):=λg=>aU (aR rfl) (cE ak trivial aO (oT _)) ∅ (Aw (b:=[]));by_cases e:g=[]
  ·subst e;exact⟨f,o4,sQ (N []),j⟩
  ·have hl:=j.ks.len;have B:=N g;rw[Zs e]at B;have C:=O4 e;generalize g.dropLast=l at C;generalize g.getLast e=y at C;subst C;have Y:=j.wl;rw[l',IS]at Y h;have O:Run (ev Γ (.pop 3)) (ll (dc ks d) w f (l++[y]) o4) (.loc,.str y) (ll (dc ks d) w f l o4):=by
    have q:=AU (Γ:=Γ) (st:=ll (dc ks d) w f (l++[y]) o4) (i:=3) (k:=.own) (us:=(l++[y]).map .str) (u:=.str y) rfl rfl (by simp);rw[show((l++[y]).map U.str).dropLast=l.map U.str by rw[qs];simp]at q;exact q
   have D:Hg d w y:=j.wr y (by simp);have Rq:y∈ws:=by obtain⟨c,hc⟩:=D.last;exact A _ hc
   have t:Run (GN Γ (.cmp .G0 (.var 4) (.var 2))) (ll (dc ks d) w f l (a5 (.loc,.str y))) (!d6 (y∈f)) (ll (dc ks d) w f l (a5 (.loc,.str y))):=aU (af rfl) (aR rfl) ∅ mn;by_cases v:y∈f
   ·rw[Zt v]at t;have G:N1 ws d w f l:=⟨j.ks,j.fr,λx m=>j.wr x (by simp[m]),λa z ha hz=>by
     rcases j.cl a z ha hz with q|q
     ·exact .inl q
     ·rcases qd.mp q with q|q
      ·exact .inr q
      ·rw[kr]at q;subst q;exact .inl v,⋯⟩
    obtain⟨o,r,q,H⟩:=kO J L A hk n f l (a5 (.loc,.str y)) ⋯ G;exact⟨o,r,xE B (aA O aD (ba t ay ay)) q,H⟩
   ·rw[Zs v]at t;have I:du f y=f++[y]:=by unfold du;rw[Zr v]
    have Q:=j.ks.ins Rq;have JS:=Q.len;rw[I,l',IS]at JS;have Ro:=iT d y;have G:N1 ws d w (du f y) (l++bB d y):=⟨Q,λx m=>(bM.mp m).elim (j.fr x) λe=>e▸D,λx m=>by
      rcases qd.mp m with q|q
      ·exact j.wr x (by simp[q])
      ·exact .more D (fR.mp q),λa z ha hz=>by
      have s:a=w\/a∈f->z∈du f y\/z∈l++bB d y:=λha=>by
       rcases j.cl a z ha hz with q|q
       ·exact .inl (bM.mpr (.inl q))
       ·rcases qd.mp q with q|q
        ·exact .inr (qd.mpr (.inl q))
        ·rw[kr]at q;exact .inl (bM.mpr (.inr q))
      rcases ha with ha|ha
      ·exact s (.inl ha)
      ·rcases bM.mp ha with ha|rfl
       ·exact s (.inr ha)
       ·exact .inr (qd.mpr (.inr (fR.mpr hz))),by rw[I,l',l',IS];lia⟩
    obtain⟨k,GS,q5⟩:=sX (Γ:=Γ) (st:=ll (dc ks d) w (du f y) l (a5 (.loc,.str y))) (i:=0) (a:=.var 4) (y:=y) hk rfl (af rfl);have m:iF (k,.lst ((bB d y).map .str)) (.lst (l.map .str))=a5 (.lst ((l++bB d y).map .str)):=by
     rw[sN (by rw[ei,ei];lia) (mD GS),qs]
    obtain⟨o,r,q,H⟩:=kO J L A hk n (du f y) (l++bB d y) (a5 (.loc,.str y)) (by rw[I,l',l',IS];lia) G;exact⟨o,r,xE B (aA O aD (dJ t (ij (k:=.own) (k':=.own) ai rfl (af rfl) (az aI (az aI aO)) rfl rfl (fQ ⋯) (xy (k:=.own) (k':=.own) rfl q5 rfl rfl m ay)) ay)) q,H⟩
def yi(Γ:Tab):Prop:=∀(ws ks:List Str) (a:List (Str×Str)) (w:Str),ws.length<=24->a.length<=1000->(∀p∈a,p.2∈ws)->(∀w,w∉ks->bB a w=[])->∃b,Γ "reached" [dc ks a,.str w]=a5 (.ok (.own,qZ b))/\dw ws b/\∀x,x∈b↔Hg a w x
theorem Fo(h:G_ Pg "reached" Fm):yi (GG Pg (d+1)):=λws ks b w f g j hk=>by
 have l:(100000:Nat)<=dV:=by decide
 have t:=iT b w;have m:N1 ws b w [] (bB b w):=by
  refine⟨⟨.nil,λ_ h=>absurd h Jf⟩,λ_ h=>absurd h Jf,λx n=>.one (fR.mp n),λa z ha hz=>?_,by simp;lia⟩;rcases ha with rfl|ha
  ·exact .inr (fR.mpr hz)
  ·cases ha
 obtain⟨o,o4,q,c⟩:=kO (Γ:=GG Pg d) f g j hk fuel [] (bB b w) b6 (by unfold fuel;simp;lia) m;obtain⟨k,e,p⟩:=sX (Γ:=GG Pg d) (st:=[a5 (.any,dc ks b),a5 (.loc,.str w),a5 (.own,.GD [] []),b6,b6]) (i:=0) (a:=.var 1) (y:=w) hk rfl (af rfl);refine⟨o,(aW h _).trans (bC rfl (.inl rfl) (st0:=[a5 (.any,dc ks b),a5 (.loc,.str w),b6,b6,b6]) rfl (aA nM bF (aA (r:=(.own,.lst ((bB b w).map .str))) (c_ (ae p ak) ?_ ?_) bF (xF q (bS (aR rfl) (kA rfl)))))),c.ks,λx=>⟨c.fr x,λr=>r.sub λy z s hz=>(c.cl y z s hz).elim id λq=>by cases q⟩⟩
 ·rcases e with rfl|rfl<;>exact trivial
 ·show(if dZ k ((bB b w).map U.str)=b8 then _ else _)=_;rw[Zq (mD e)]
theorem uN(a:us.length=fn.np)(hs:start us fn.ns=st0)(h:Run (execs Γ fn.body) st0 .nx st):dt Γ fn us=a5 (.ok (.loc,.Gv)):=by
 subst hs;unfold dt;rw[Zq a,show execs Γ fn.body (start us fn.ns)=_ from h]
end
section
theorem Fp(h:Run (ev Γ e) st x st1):Run (execs Γ (.Ky c e::ss)) st (.rt .io (.str c)) st1:=aa (aa h aG) aG
theorem pE(a:us.length=fn.np)(hs:start us fn.ns=st0)(h:Run (execs Γ fn.body) st0 (.rt .io (.str c)) st):dt Γ fn us=a5 (.exc c):=by
 subst hs;unfold dt;rw[Zq a,show execs Γ fn.body (start us fn.ns)=_ from h]
theorem Fq(h:Γ f us=a5 (.ok (.own,u))):Run (cy Γ f us) st (.inl (.own,u)) st:=by
 show cy Γ f us st=_;unfold cy;rw[h]
theorem Fs(h:Γ f us=a5 (.ok (.loc,u))):Run (cy Γ f us) st (.inl (.loc,u)) st:=by
 show cy Γ f us st=_;unfold cy;rw[h]
theorem A5(h:Γ f us=a5 (.exc c)):Run (cy Γ f us) st (.inr c) st:=by
 show cy Γ f us st=_;unfold cy;rw[h]
theorem Ft(a:Run (bc Γ es) st rs st)(b:bo rs st)(c:Run (cy Γ f (rs.map (·.2))) st (.inl r) st)(d:Run (execs Γ ss) st e st1):Run (execs Γ (.JL f es::ss)) st e st1 :=
 aa (aa (aa a (aa (aV b) c)) aG) d
theorem Dr(a:Run (bc Γ es) st rs st)(b:bo rs st)(d:Run (cy Γ f (rs.map (·.2))) st (.inr c) st):Run (execs Γ (.JL f es::ss)) st (.rt .io (.str c)) st :=
 aa (aa (aa a (aa (aV b) d)) aG) aG
theorem Fu(h:st[j]?=a5 b6)(hk:k≠j)(b:c∈a):Run (jj a i j k (.inr c)) st .nx (st.set k (a5 (.loc,.exc c))):=by
 show jj a i j k (.inr c) st=_;unfold jj
 dsimp only
 rw[h];exact Zq ⟨hk,b⟩
theorem Fv:Run (jj a i j k (.inl (.own,u))) st .nx (st.set i (a5 (.own,u))):=aa bF aG
theorem yj(a:Run (GN Γ c) st p st)(b:Run (bc Γ es) st rs st)(d:bo rs st)(e:Run (cy Γ (if p=b8 then f else g) (rs.map (·.2))) st r st)(h:Run (jj l i j k r) st .nx st1)(m:Run (execs Γ ss) st1 n st2):
  Run (execs Γ (.Kg i [c] f es g es x l j k::ss)) st n st2:=by
 refine aa (aa (aa a ?_) h) m;cases p with
 |_=>exact aa b (aa (aV d) e)
theorem ja(h:Run (ev Γ a) st x st1)(c:j5 d x.2=a5 b):Run (ev Γ (.HD a D d)) st (.loc,.bl b) st1:=aa h (aa (cD c) aG)
theorem Fw(h:Run (ev Γ a) st x st1)(c:j5 d x.2=a5 b):Run (GN Γ (.HD a D d)) st b st1:=aa h (cD c)
theorem A6(h:we a i b st=a5 (.ok r,st)):Run (ev Γ (.Kw a i b)) st r st:=h
noncomputable def sY:Fn:=⟨"refuse_unknown",2,2,[.ite (.cmp .gt (.LO b8 (.var 1) (.call "words_of" [.var 0])) (.cst (.int 0))) [.Ky "Unknown" (.cst (.str "the book has no such word"))] []]⟩
theorem bV.ok(h:bV ws r):sM ws r:=⟨h.1,h.2.2.2,h.2.1,h.2.2.1⟩
structure Bq(ws:List Str)(rs:List Row):Prop where
 wl:ws.length<=24
 rl:rs.length<=84
 ok:∀r∈rs,bV ws r
theorem yk(h:Bq ws rs)(d:Γ "words_of" [.tup (rs.map Gr)]=a5 (.ok (.own,.lst ((aH rs).map .str)))):dt Γ sY [.tup (rs.map Gr),.lst [.str w]]=a5 (if w∈aH rs then .ok (.loc,.Gv) else .exc "Unknown"):=by
 have g:=kH λr b=>(h.ok r b).ok;have hl:=h.wl;have i:(aE (aH rs)).length<=(aH rs).length:=ie (dq _) λx f=>by simpa[cU] using f
 have e:aE [w]=[w]:=by simp[aE,iz]
 have c:start [.tup (rs.map Gr),.lst [.str w]] 2=[a5 (.loc,.tup (rs.map Gr)),a5 (.any,.lst [.str w])]:=Zv (λx:Option (Kd×U)=>[x,a5 (Kd.any,U.lst [.str w])]) (bW rs);have hs:t5 b8 (aE [w]) (aE (aH rs))=a5 (.loc,.int ((if w∈aH rs then 0 else 1:Nat):Nat)):=by
  unfold t5;rw[e,Zq ⟨by simp,⋯⟩,Zq rfl,S5];by_cases a:w∈aH rs
  ·rw[Zr (by simp[cU,a]),Zq a,Tc];rfl
  ·rw[Zq (by simp[cU,a]),Zr a,Tc];rfl
 have b:Run (ev Γ (.LO b8 (.var 1) (.call "words_of" [.var 0]))) [a5 (.loc,.tup (rs.map Gr)),a5 (.any,.lst [.str w])] _ _:=E6 (aX rfl) (mq (ss:=[w]) (by simp)) (bJ (ae (af rfl) ak) trivial d) (mq ⋯) hs;by_cases a:w∈aH rs
 ·rw[Zq a]at b ⊢;exact uN rfl c (ba (aU b ai trivial (i_ rfl)) ay ay)
 ·rw[Zr a]at b ⊢;exact pE rfl c (qJ (kB (aU b ai trivial (i_ rfl)) (Fp ai)))
theorem Fx(b:G_ Pg "words_of" nQ)(h:G_ Pg "refuse_unknown" sY)(a:Bq ws rs)(w:Str):GG Pg (d+2) "refuse_unknown" [.tup (rs.map Gr),.lst [.str w]]=a5 (if w∈aH rs then .ok (.loc,.Gv) else .exc "Unknown") :=
 (aW h _).trans (yk a ((aW b _).trans (nR (by have:=a.rl;lia) (λr c=>(a.ok r c).ok) (by have:=a.wl;lia))))
noncomputable def Wl(n g:Str):Fn:=⟨n,2,2,[.JL "refuse_unknown" [.var 0,.lst [.var 1]],.ret (.bi .sorted [.call "reached" [.call g [.var 0],.var 1]])]⟩
def Fy(Γ:Tab)(f:Str)(ws:List Str)(rs:List Row)(b:List (Str×Str)):Prop:=∀w,(w∈aH rs->∃a,Γ f [.tup (rs.map Gr),.str w]=a5 (.ok (.own,.lst ((aL a).map .str)))/\dw ws a/\∀x,x∈a↔Hg b w x)/\(w∉aH rs->Γ f [.tup (rs.map Gr),.str w]=a5 (.exc "Unknown"))
theorem Fz(h:G_ Pg n (Wl n g))(k:yi (GG Pg d))(f:Bq ws rs)(l:∀w,GG Pg d "refuse_unknown" [.tup (rs.map Gr),.lst [.str w]]=a5 (if w∈aH rs then .ok (.loc,.Gv) else .exc "Unknown"))(m:q9 (GG Pg d) g rs a)(o:a.length<=1000)(q:∀p∈a,p.2∈ws):Fy (GG Pg (d+1)) n ws rs a:=λw=>by
 have r:(1000:Nat)<=dV:=by decide
 have i:start [.tup (rs.map Gr),.str w] 2=[a5 (.loc,.tup (rs.map Gr)),a5 (.loc,.str w)]:=Zv (λx:Option (Kd×U)=>[x,a5 (Kd.loc,U.str w)]) (bW rs);have as:Run (bc (GG Pg d) [.var 0,.lst [.var 1]]) [a5 (.loc,.tup (rs.map Gr)),a5 (.loc,.str w)] [(.loc,.tup (rs.map Gr)),(.own,.lst [.str w])] [a5 (.loc,.tup (rs.map Gr)),a5 (.loc,.str w)]:=ae (af rfl) (ae (cE (ae (af rfl) ak) trivial (az aI aO) (by show 1<=dV;lia)) ak);have b:=l w;constructor
 ·intro c;rw[Zq c]at b;obtain⟨ks,hk,s⟩:=m;obtain⟨e,t,j,u⟩:=k ws ks a w f.wl o q hk;refine⟨e,(aW h _).trans (bC rfl (.inl rfl) i (Ft as trivial (Fs b) (bS (c_ (ae (bJ (ae (bJ (ae (af rfl) ak) trivial s) (ae (af rfl) ak)) trivial t) ak) trivial ?_) ic))),j,u⟩;show(if e.length<64 then a5 (Kd.own,U.lst ((aL e).map .str)) else b6)=_;rw[Zq (by have:=j.len;have:=f.wl;lia)]
 ·intro c;rw[Zr c]at b;exact(aW h _).trans (pE rfl i (Dr as trivial (A5 b)))
noncomputable def Lf:List (Str×Bool):=[("Unknown",cc)]
noncomputable def yl:Fn:=⟨"_law_kind",1,2,[.set 1 (.lst [.HD (.var 0) "Unknown" [("Unknown",b8)],.HD (.var 0) "Unlearnt" Lf,.HD (.var 0) "TooMany" Lf,.HD (.var 0) "Lacking" Lf]),.set 1 (.bin .add (.var 1) (.lst [.HD (.var 0) "NoText" Lf,.HD (.var 0) "Unfit" Lf,.HD (.var 0) "NoRow" Lf,.HD (.var 0) "NoDeed" Lf])),.ite (.or [.cmp .ne (.Kw cc 1 b8) (.cst (.int 1)),.not (.HD (.var 0) "ValueError" [("Unknown",b8)])]) [.ret (.cst (.str "none"))] [],.ret (.idx (.lst [.cst (.str "unknown"),.cst (.str "unlearnt"),.cst (.str "many"),.cst (.str "lacking"),.cst (.str "text"),.cst (.str "unfit"),.cst (.str "row"),.cst (.str "deed")]) (.Kw b8 1 b8))]⟩
theorem ym:dt Γ yl [.exc "Unknown"]=a5 (.ok (.loc,.str "unknown")):=by
 have f:(1000:Nat)<=dV:=by decide
 have c:(4:Nat)<=dV:=by lia
 have d:(8:Nat)<=dV:=by lia
 have lk:j5 Lf (.exc "Unknown")=a5 cc:=by decide +kernel
 have lt:j5 [("Unknown",b8)] (.exc "Unknown")=a5 b8:=by decide +kernel
 have a:∀(r:Kd×U) (rs:List (Kd×U)) (us:List U) (st:ax),r.1=.loc->Run (cL rs) st us st->Run (cL (r::rs)) st (r.2::us) st:=λr rs us st e h=>az (by obtain⟨k,u⟩:=r;cases e;exact aI) h;refine bC rfl (.inr rfl) (st:=[a5 (.loc,.exc "Unknown"),a5 (.own,.lst [.bl b8,.bl cc,.bl cc,.bl cc,.bl cc,.bl cc,.bl cc,.bl cc])]) (st0:=[a5 (.loc,.exc "Unknown"),b6]) rfl (aA (r:=(.own,.lst [.bl b8,.bl cc,.bl cc,.bl cc])) (st1:=[a5 (.loc,.exc "Unknown"),b6]) ?_ bF (aA (r:=(.own,.lst [.bl b8,.bl cc,.bl cc,.bl cc,.bl cc,.bl cc,.bl cc,.bl cc])) (st1:=[a5 (.loc,.exc "Unknown"),a5 (.own,.lst [.bl b8,.bl cc,.bl cc,.bl cc])]) ?_ bF (ba (st2:=[a5 (.loc,.exc "Unknown"),a5 (.own,.lst [.bl b8,.bl cc,.bl cc,.bl cc,.bl cc,.bl cc,.bl cc,.bl cc])]) ?_ ay (bS ?_ fA))))
 ·exact cE (ae (ja (af rfl) lt) (ae (ja (af rfl) lk) (ae (ja (af rfl) lk) (ae (ja (af rfl) lk) ak)))) trivial (a _ _ _ _ rfl (a _ _ _ _ rfl (a _ _ _ _ rfl (a _ _ _ _ rfl aO)))) c
 ·exact bx (aR rfl) (cE (ae (ja (af rfl) lk) (ae (ja (af rfl) lk) (ae (ja (af rfl) lk) (ae (ja (af rfl) lk) ak)))) trivial (a _ _ _ _ rfl (a _ _ _ _ rfl (a _ _ _ _ rfl (a _ _ _ _ rfl aO)))) c) ∅ (ph d rfl rfl)
 ·exact C9 (xt (aU (A6 rfl) ai trivial (nW rfl)) (xr (o_ (Fw (b:=b8) (af rfl) lt))))
 ·exact bt (cE (ae ai (ae ai (ae ai (ae ai (ae ai (ae ai (ae ai (ae ai ak)))))))) trivial (a _ _ _ _ rfl (a _ _ _ _ rfl (a _ _ _ _ rfl (a _ _ _ _ rfl (a _ _ _ _ rfl (a _ _ _ _ rfl (a _ _ _ _ rfl (a _ _ _ _ rfl aO)))))))) d) (A6 rfl) trivial (bU rfl)
noncomputable def q_:Fn:=⟨"_law_asked",3,6,[.set 3 (.cst .Gv),.set 4 (.cst .Gv),.Kg 3 [.cmp .eq (.var 2) (.cst (.int 0))] "under" [.var 0,.var 1] "over" [.var 0,.var 1] "PrimerError" ["Unknown"] 5 4,.ret (.ite (.cmp .is (.var 4) (.cst .Gv)) (.var 3) (.call "_law_kind" [.var 4]))]⟩
def kP(Γ:Tab)(ws:List Str)(rs:List Row)(i:Int)(b:List (Str×Str)):Prop:=∀w,(w∈aH rs->∃a,Γ "_law_asked" [.tup (rs.map Gr),.str w,.int i]=a5 (.ok (.own,.lst ((aL a).map .str)))/\dw ws a/\∀x,x∈a↔Hg b w x)/\(w∉aH rs->Γ "_law_asked" [.tup (rs.map Gr),.str w,.int i]=a5 (.ok (.loc,.str "unknown")))
theorem A7(h:G_ Pg "_law_asked" q_)(hk:G_ Pg "_law_kind" yl)(b:Fy (GG Pg (d+1)) (if (i==0)=b8 then "under" else "over") ws rs g):kP (GG Pg (d+2)) ws rs i g:=λw=>by
 have c:start [.tup (rs.map Gr),.str w,.int i] 6=[a5 (.loc,.tup (rs.map Gr)),a5 (.loc,.str w),a5 (.loc,.int i),b6,b6,b6]:=Zv (λx:Option (Kd×U)=>[x,a5 (Kd.loc,U.str w),a5 (Kd.loc,U.int i),b6,b6,b6]) (bW rs);have as:∀r,Run (bc (GG Pg (d+1)) [.var 0,.var 1]) (a5 (.loc,.tup (rs.map Gr))::a5 (.loc,.str w)::r) [(.loc,.tup (rs.map Gr)),(.loc,.str w)] (a5 (.loc,.tup (rs.map Gr))::a5 (.loc,.str w)::r):=λr=>ae (af rfl) (ae (af rfl) ak);have f:Run (GN (GG Pg (d+1)) (.cmp .eq (.var 2) (.cst (.int 0)))) [a5 (.loc,.tup (rs.map Gr)),a5 (.loc,.str w),a5 (.loc,.int i),a5 (.loc,.Gv),a5 (.loc,.Gv),b6] (i==0) [a5 (.loc,.tup (rs.map Gr)),a5 (.loc,.str w),a5 (.loc,.int i),a5 (.loc,.Gv),a5 (.loc,.Gv),b6]:=aU (af rfl) ai trivial (cj rfl);constructor
 ·intro a;obtain⟨j,e,r⟩:=(b w).1 a;exact⟨j,(aW h _).trans (bC rfl (.inl rfl) c (aA ai aD (aA ai aD (yj f (as _) trivial (Fq e) Fv (bS (qF (aU (af rfl) ai trivial rfl) (aR rfl)) (kA rfl)))))),r⟩
 ·intro a;have e:=(b w).2 a;exact(aW h _).trans (bC rfl (.inr rfl) c (aA ai aD (aA ai aD (yj f (as _) trivial (A5 e) (Fu rfl (by decide) (by simp)) (bS (qG (aU (af rfl) ai trivial rfl) (bJ (ae (af rfl) ak) trivial ((aW hk _).trans ym))) fA)))))
end
section
noncomputable def FA:List S:=[.ite (.cmp .G0 (.var 6) (.var 2)) [.put 2 (.var 6) (.cst (.bl b8)),.set 3 (.cst (.bl b8))] []]
noncomputable def Ds:List S:=[.ite (.or [.cmp .eq (.var 4) (.var 1),.cmp .isin (.var 4) (.var 2)]) [.G1 cc [6] .seq [.var 5] FA] []]
noncomputable def Dt:List S:=[.set 3 (.cst (.bl cc)),.G1 b8 [4,5] .seq [.var 0] Ds]
noncomputable def S9:Fn:=⟨"_law_beneath",2,7,[.set 2 (.IB cc),.set 3 (.cst (.bl b8)),.K9 (.var 3) Dt,.ret (.bi .sorted [.var 2])]⟩
noncomputable def fF(rs:List Row)(w:Str)(ks:List Str)(g:Bool)(o4 o5 o6:Option (Kd×U)):ax:=[a5 (.loc,.tup (rs.map Gr)),a5 (.loc,.str w),a5 (.own,qZ ks),a5 (.loc,.bl g),o4,o5,o6]
structure Kk(ws:List Str)(rs:List Row)(w:Str)(k0 ks:List Str)(g:Bool):Prop where
 ki:dw ws ks
 rc:∀x∈ks,Hg (bz rs) w x
 sb:∀x∈k0,x∈ks
 nf:g=cc->ks=k0
 gr:g=b8->k0.length<ks.length
theorem Kk.add(h:Kk ws rs w k0 ks g)(b:y∉ks)(c:y∈ws)(d:Hg (bz rs) w y):Kk ws rs w k0 (du ks y) b8:=by
 refine⟨h.ki.ins c,λx a=>(bM.mp a).elim (h.rc x) λe=>e▸d,λx a=>bM.mpr (.inl (h.sb x a)),λe=>XN e,λ_=>?_⟩;have:k0.length<=ks.length:=by
  cases g with
  |false=>rw[h.nf rfl];exact i3 _
  |true=>exact Ni (h.gr rfl)
 unfold du;rw[Zr b,l',IS];lia
theorem Ax(G:ws.length<=24)(z:r∈rs)(A:bV ws r)(h:Kk ws rs w k0 ks g):
  ∃a g' f,Run (execs Γ Ds) (fF rs w ks g (a5 (.loc,.str r.1)) (a5 (.loc,.tup (r.2.map .str))) o6) .nx (fF rs w a g' (a5 (.loc,.str r.1)) (a5 (.loc,.tup (r.2.map .str))) f)/\Kk ws rs w k0 a g'/\(∀x∈ks,x∈a)/\(r.1=w\/r.1∈ks->∀x∈r.2,x∈a):=by
 have l:Run (GN Γ (.or [.cmp .eq (.var 4) (.var 1),.cmp .isin (.var 4) (.var 2)])) (fF rs w ks g (a5 (.loc,.str r.1)) (a5 (.loc,.tup (r.2.map .str))) o6) (d6 (r.1=w)||decide (r.1∈ks)) (fF rs w ks g (a5 (.loc,.str r.1)) (a5 (.loc,.tup (r.2.map .str))) o6) :=
  C9 (E2 (aU (af rfl) (af rfl) trivial nP) λ_=>xr (aU (af rfl) (aR rfl) ∅ Dk))
 by_cases m:r.1=w\/r.1∈ks
 ·rw[show(d6 (r.1=w)||decide (r.1∈ks))=b8 by simpa using m]at l;have B:∀x∈r.2,Hg (bz rs) w x:=λx b=>by
   have:(r.1,x)∈bz rs:=fD.mpr ⟨r,z,rfl,b⟩;rcases m with e|e
   ·exact .one (e▸this)
   ·exact .more (h.rc _ e) this
  obtain⟨st',C,a,g',f,rfl,i,n,o,_⟩:=cm (rs:=[(.loc,.tup (r.2.map .str))]) (t:=cc) (is:=[6]) (body:=execs Γ FA) (λx:Str=>(Kd.loc,U.str x)) (λd q st=>∃a g' f,st=fF rs w a g' (a5 (.loc,.str r.1)) (a5 (.loc,.tup (r.2.map .str))) f/\Kk ws rs w k0 a g'/\(∀x∈ks,x∈a)/\(∀x∈d,x∈a)/\∀x∈q,x∈r.2)
   (λ_ _ _ _=>trivial) (λd y q st D=>by
    obtain⟨c,j,f,rfl,i,n,o,u⟩:=D;have H:=i.ki.len;have v:=u y (by simp);have p:Run (GN Γ (.cmp .G0 (.var 6) (.var 2))) (fF rs w c j (a5 (.loc,.str r.1)) (a5 (.loc,.tup (r.2.map .str))) (a5 (.loc,.str y))) (!d6 (y∈c)) (fF rs w c j (a5 (.loc,.str r.1)) (a5 (.loc,.tup (r.2.map .str))) (a5 (.loc,.str y))):=aU (af rfl) (aR rfl) ∅ mn;by_cases s:y∈c
    ·rw[Zt s]at p;refine⟨fF rs w c j (a5 (.loc,.str r.1)) (a5 (.loc,.tup (r.2.map .str))) (a5 (.loc,.str y)),_,aD,ba p ay ay,c,j,_,rfl,i,n,λx b=>?_,λx b=>u x (by simp[b])⟩;rcases qd.mp b with q|q
     ·exact o x q
     ·rw[kr]at q;subst q;exact s
    ·rw[Zs s]at p;refine⟨fF rs w c j (a5 (.loc,.str r.1)) (a5 (.loc,.tup (r.2.map .str))) (a5 (.loc,.str y)),_,aD,dJ p (ij (k:=.own) (k':=.own) ai rfl (af rfl) (az aI (az aI aO)) rfl rfl (fQ ⋯) (aA ai aD ay)) ay,du c y,b8,_,rfl,i.add s (A.2.2.1 y v) (B y v),λx b=>bM.mpr (.inl (n x b)),λx b=>?_,λx b=>u x (by simp[b])⟩;rcases qd.mp b with q|q
     ·exact bM.mpr (.inl (o x q))
     ·rw[kr]at q;exact bM.mpr (.inr q)) r.2 [] (fF rs w ks g (a5 (.loc,.str r.1)) (a5 (.loc,.tup (r.2.map .str))) o6) ⟨ks,g,o6,rfl,h,λ_ q=>q,λ_ q=>absurd q Jf,λ_ q=>q⟩
  exact⟨a,g',f,dJ l (di (rs:=[(.loc,.tup (r.2.map .str))]) (ae (af rfl) ak) trivial kN rfl C ay) ay,i,n,λ_=>o⟩
 ·rw[show(d6 (r.1=w)||decide (r.1∈ks))=cc by simpa using m]at l;exact⟨ks,g,o6,ba l ay ay,h,λ_ q=>q,λe=>absurd e m⟩
theorem Ay(o:ws.length<=24)(p:∀r∈rs,bV ws r)(h:Kk ws rs w ks ks cc):
  ∃a g' e f b,Run (execs Γ Dt) (fF rs w ks g o4 o5 o6) .nx (fF rs w a g' e f b)/\Kk ws rs w ks a g'/\∀r∈rs,r.1=w\/r.1∈ks->∀x∈r.2,x∈a:=by
 obtain⟨st',s,a,g',e,f,b,rfl,c,i,_⟩:=cm (rs:=[(.loc,.tup (rs.map Gr))]) (t:=b8) (is:=[4,5]) (body:=execs Γ Ds) (λr:Row=>(Kd.loc,Gr r)) (λd q st=>∃a g' o4 o5 b,st=fF rs w a g' o4 o5 b/\Kk ws rs w ks a g'/\(∀r∈d,r.1=w\/r.1∈ks->∀x∈r.2,x∈a)/\∀r∈q,r∈rs)
  (λ_ _ _ _=>trivial) (λd y q st u=>by
   obtain⟨v,z,o4,o5,o6,rfl,c,i,k⟩:=u;have l:=k y (by simp);obtain⟨A,B,b,C,D,G,H⟩:=Ax (Γ:=Γ) (o6:=o6) o l (p y l) c;refine⟨fF rs w v z (a5 (.loc,.str y.1)) (a5 (.loc,.tup (y.2.map .str))) o6,_,pk (.inl rfl),C,A,B,_,_,_,rfl,D,λr j m x n=>?_,λr j=>k r (by simp[j])⟩;rcases qd.mp j with q|q
   ·exact G x (i r q m x n)
   ·rw[kr]at q;subst q;exact H (m.imp id (c.sb _)) x n) rs [] (fF rs w ks cc o4 o5 o6) ⟨ks,cc,_,_,_,rfl,h,λ_ q=>absurd q Jf,λ_ q=>q⟩
 exact⟨a,g',e,f,b,aA ai aD (di (rs:=[(.loc,.tup (rs.map Gr))]) (ae (af rfl) ak) trivial ir rfl s ay),c,i⟩
theorem sZ(i:ws.length<=24)(j:∀r∈rs,bV ws r):
  ∀(n:Nat) (ks:List Str) (o4 o5 o6:Option (Kd×U)),64 - ks.length<n->Kk ws rs w ks ks cc->∃b c d f,Run (fS (GN Γ (.var 3)) (execs Γ Dt) (n+1)) (fF rs w ks b8 o4 o5 o6) .nx (fF rs w b cc c d f)/\dw ws b/\∀x,x∈b↔Hg (bz rs) w x
 |0,_,_,_,_,h,_=>by lia
 |n+1,ks,o4,o5,o6,h,l=>by
  obtain⟨k,m,c,d,f,q,a,o⟩:=Ay (Γ:=Γ) (g:=b8) (o4:=o4) (o5:=o5) (o6:=o6) i j l;have hl:=a.ki.len;cases m with
  |true =>
   have C:=a.gr rfl;obtain⟨b,p,s,t,u,r⟩:=sZ i j n k c d f ⋯ ⟨a.ki,a.rc,λ_ z=>z,λ_=>rfl,λe=>by cases e⟩;exact⟨b,p,s,t,xE (iR rfl) q u,r⟩
  |false =>
   have e:=a.nf rfl;subst e;refine⟨k,c,d,f,xE (iR rfl) q (sQ (iR rfl)),a.ki,λx=>⟨a.rc x,λr=>r.sub λy z v hz=>?_⟩⟩;obtain⟨r,A,rfl,B⟩:=fD.mp hz;exact o r A v z B
def Az(Γ:Tab):Prop:=∀(ws:List Str) (rs:List Row) (w:Str),Bq ws rs->∃ks,Γ "_law_beneath" [.tup (rs.map Gr),.str w]=a5 (.ok (.own,.lst ((aL ks).map .str)))/\dw ws ks/\∀x,x∈ks↔Hg (bz rs) w x
theorem Gp(h:G_ Pg "_law_beneath" S9):Az (GG Pg (d+1)):=λws rs w a=>by
 have c:start [.tup (rs.map Gr),.str w] 7=[a5 (.loc,.tup (rs.map Gr)),a5 (.loc,.str w),b6,b6,b6,b6,b6]:=Zv (λx:Option (Kd×U)=>[x,a5 (Kd.loc,U.str w),b6,b6,b6,b6,b6]) (bW rs);obtain⟨ks,o4,o5,o6,q,b,f⟩:=sZ (Γ:=GG Pg d) (w:=w) a.wl a.ok 999999999999 [] b6 b6 b6 (by simp) ⟨⟨.nil,λ_ h=>absurd h Jf⟩,λ_ h=>absurd h Jf,λ_ h=>h,λ_=>rfl,λe=>by cases e⟩;refine⟨ks,(aW h _).trans (bC rfl (.inl rfl) c (aA nM bF (aA ai aD (xF q (bS (c_ (ae (aR rfl) ak) ∅ ?_) ic))))),b,f⟩;show(if ks.length<64 then a5 (Kd.own,U.lst ((aL ks).map .str)) else b6)=_;rw[Zq (by have:=b.len;have:=a.wl;lia)]
theorem yn(n:ws.length<1000)(hk:dw ws ks)(e:bV ws r):
  ∃a b,Run (execs Γ pB) (fb rs ks (a5 (.loc,.str r.1)) (a5 (.loc,.tup (r.2.map .str))) o4) .nx (fb rs a (a5 (.loc,.str r.1)) (a5 (.loc,.tup (r.2.map .str))) b)/\dw ws a/\∀x,x∈a↔x∈ks\/x=r.1\/x∈r.2:=by
 have o:=hk.len;obtain⟨st',j,a,b,rfl,l,_,c⟩:=cm (rs:=[(.loc,.tup (r.2.map .str))]) (t:=cc) (is:=[4]) (body:=execs Γ x_) (λx:Str=>(Kd.loc,U.str x)) (λd q st=>∃a b,st=fb rs a (a5 (.loc,.str r.1)) (a5 (.loc,.tup (r.2.map .str))) b/\dw ws a/\(∀x∈q,x∈ws)/\∀x,x∈a↔(x∈ks\/x=r.1)\/x∈d)
  (λ_ _ _ _=>trivial) (λd y q st h=>by
   obtain⟨f,b,rfl,g,i,c⟩:=h;have p:=g.len;refine⟨fb rs f (a5 (.loc,.str r.1)) (a5 (.loc,.tup (r.2.map .str))) (a5 (.loc,.str y)),_,aD,ij (k:=.own) (k':=.own) ai rfl (af rfl) (az aI (az aI aO)) rfl rfl (fQ ⋯) ay,du f y,_,rfl,g.ins (i y (by simp)),λx m=>i x (by simp[m]),λx=>?_⟩;rw[bM,c x,qd,kr,or_assoc]) r.2 [] (fb rs (du ks r.1) (a5 (.loc,.str r.1)) (a5 (.loc,.tup (r.2.map .str))) o4) ⟨_,_,rfl,hk.ins e.1,e.2.2.1,λx=>by rw[bM];simp⟩
 refine⟨a,b,?_,l,λx=>by rw[c x,or_assoc,u6]⟩;exact ij (k:=.own) (k':=.own) ai rfl (af rfl) (az aI (az aI aO)) rfl rfl (fQ ⋯) (di (rs:=[(.loc,.tup (r.2.map .str))]) (ae (af rfl) ak) trivial kN rfl j ay)
theorem all2(h:G_ Pg "_law_all" Ao)(b:Bq ws rs):GG Pg (d+1) "_law_all" [.tup (rs.map Gr)]=a5 (.ok (.own,.lst ((aH rs).map .str))):=by
 have p:=b.wl;obtain⟨st',f,ks,o2,o3,o4,rfl,hk,_,g⟩:=cm (rs:=[(.loc,.tup (rs.map Gr))]) (t:=b8) (is:=[2,3]) (body:=execs (GG Pg d) pB) (λr:Row=>(Kd.loc,Gr r)) (λd q st=>∃ks o2 o3 o4,st=fb rs ks o2 o3 o4/\dw ws ks/\(∀r∈q,bV ws r)/\∀x,x∈ks↔∃r∈d,x=r.1\/x∈r.2)
  (λ_ _ _ _=>trivial) (λd y q st h=>by
   obtain⟨i,o2,o3,o4,rfl,j,c,k⟩:=h;obtain⟨l,s,m,n,o⟩:=yn (Γ:=GG Pg ‹Nat›) (rs:=rs) (o4:=o4) ⋯ j (c y (by simp));refine⟨fb rs i (a5 (.loc,.str y.1)) (a5 (.loc,.tup (y.2.map .str))) o4,_,pk (.inl rfl),m,l,_,_,_,rfl,n,λr a=>c r (by simp[a]),λx=>?_⟩;rw[o x,k x];constructor
   ·rintro(⟨r,a,e⟩|e)
    ·exact⟨r,by simp[a],e⟩
    ·exact⟨y,by simp,e⟩
   ·rintro⟨r,a,e⟩;rcases qd.mp a with q|q
    ·exact .inl ⟨r,q,e⟩
    ·rw[kr]at q;subst q;exact .inr e) rs [] (fb rs [] b6 b6 b6) ⟨[],b6,b6,b6,rfl,⟨by simp,by simp⟩,b.ok,by simp⟩
 have hl:=hk.len;have e:aL ks=aH rs:=ff ((PK hk.1 (dq _)).mpr λx=>by rw[g x,cU,gC,u6]);refine(aW h _).trans (bC (st0:=[a5 (.loc,.tup (rs.map Gr)),b6,b6,b6,b6]) rfl (.inl rfl) (Zv (λx:Option (Kd×U)=>[x,b6,b6,b6,b6]) (bW rs)) (aA (st2:=fb rs [] b6 b6 b6) nM bF (di (rs:=[(.loc,.tup (rs.map Gr))]) (ae (af rfl) ak) trivial ir rfl f (bS (c_ (ae (aR rfl) ak) ∅ ?_) ic))));show(if ks.length<64 then a5 (Kd.own,U.lst ((aL ks).map .str)) else b6)=_;rw[Zq ⋯,e]
end
section
theorem FC(h:st[i]?=a5 (a5 (k,.lst us)))(hk:k.root=b8)(b:Run (execs Γ ss) (st.set i (a5 (k,.lst []))) f st2):Run (execs Γ (.My i::ss)) st f st2:=by
 refine fB (aa (a:=()) (st1:=st.set i (a5 (k,.lst []))) ?_ aG) b;show modS i Ce st=_;unfold modS;rw[h];simp only[hk,if_true];rfl
end
theorem Du(h:G_ Pg "_law_same" kL){ss:List Str}(hl:ss.length<=1000):cS (GG Pg (d+2)) (.lst (ss.map .str)):=Ff h (by simpa using hl) λu a=>by
 obtain⟨x,_,rfl⟩:=my.mp a;exact A4 h x
noncomputable def yo : List S :=
        [.set 12 (.call "_law_asked" [.var 5,.var 9,.var 11]),
        .ite (.not (.call "_law_same" [.var 12,.ite (.cmp .isin (.var 9) (.var 6)) (.idx (.var 10) (.var 11)) (.cst (.str "unknown"))]))
          [.ret (.cst (.bl cc))]
          [],
        .ite (.cmp .isin (.var 9) (.var 6))
          [.My 12,
          .ite (.not (.call "_law_same" [.call "_law_asked" [.var 5,.var 9,.var 11],.idx (.var 10) (.var 11)]))
            [.ret (.cst (.bl false))]
            []]
          []]
noncomputable def A8:E:=.lst [.call "_law_beneath" [.var 5,.var 9],.comp 1 cc .seq [.var 6] [.cmp .isin (.var 10) (.call "_law_beneath" [.var 6,.var 0])] (.var 0)]
noncomputable def yp:List S :=
   [.set 9 (.idx (.var 7) (.Gy "_law_draw" [.var 2,.bi .len [.var 7]] [0])),
   .set 10 A8,
   .G1 cc [11] .Hk [(.cst (.int 2))] yo]
noncomputable def ra:Fn:=⟨"law",1,13,[.set 1 (.K7 .Iz [.Kv (.var 0) [] [.cst (.int 200)]]),.set 2 (.Gy "_law_source" [.var 1,.cst (.int 2)] [0]),.set 3 (.Gy "_law_source" [.var 1,.cst (.int 1)] [0]),.set 4 (.Gy "_law_words" [.var 3] [0]),.set 5 (.Gy "_law_widened" [.var 3,.Gy "_law_book" [.var 1,.var 3,.var 4] [0,1]] [0]),.set 6 (.call "_law_all" [.var 5]),.set 7 (.bin .add (.var 4) (.lst [.cst (.str "zzzzzzzz"),.cst (.str "a/99"),.cst (.str "b/2"),.cst (.str "q")])),.G1 cc [8] .Hk [.cst (.int 2)] yp,.ret (.cst (.bl b8))]⟩
noncomputable def Jg(o0 o1:Option (Kd×U))(u2:U)(o3 o4:Option (Kd×U))(rs:List Row)(sm:List Str)(o8 o9 o10 o11 o12:Option (Kd×U)):ax :=
 [o0,o1,a5 (.own,u2),o3,o4,a5 (.loc,.tup (rs.map Gr)),a5 (.own,.lst ((aH rs).map .str)),a5 (.own,.lst (sm.map .str)),o8,o9,o10,o11,o12]
section
theorem yq{a:Nat->List Str}(e:∀i,i<2->cS Γ (.lst ((a i).map .str)))(m:cS Γ (.str "unknown"))
  (f:w∈aH rs->∀i:Nat,i<2->Γ "_law_asked" [.tup (rs.map Gr),.str w,.int (0+(i:Int))]=a5 (.ok (.own,.lst ((a i).map .str)))) (n:w∉aH rs->∀i:Nat,i<2->Γ "_law_asked" [.tup (rs.map Gr),.str w,.int (0+(i:Int))]=a5 (.ok (.loc,.str "unknown")))
  {i:Nat} (b:i<2):∃o,Run (execs Γ yo) (Jg o0 o1 u2 o3 o4 rs sm o8 (a5 (.loc,.str w)) (a5 (.own,.lst [.lst ((a 0).map .str),.lst ((a 1).map .str)])) (a5 (.loc,.int (0+(i:Int)))) o12) .nx (Jg o0 o1 u2 o3 o4 rs sm o8 (a5 (.loc,.str w)) (a5 (.own,.lst [.lst ((a 0).map .str),.lst ((a 1).map .str)])) (a5 (.loc,.int (0+(i:Int)))) o):=by
 let S:=λo12=>Jg o0 o1 u2 o3 o4 rs sm o8 (a5 (.loc,.str w)) (a5 (.own,.lst [.lst ((a 0).map .str),.lst ((a 1).map .str)])) (a5 (.loc,.int (0+(i:Int)))) o12;have g:∀o12,Run (GN Γ (.cmp .isin (.var 9) (.var 6))) (S o12) (d6 (w∈aH rs)) (S o12):=λo12=>aU (af rfl) (aR rfl) ∅ AV;have h:∀o12,Run (ev Γ (.idx (.var 10) (.var 11))) (S o12) (.loc,.lst ((a i).map .str)) (S o12):=λo12=>by
  refine bt (aR rfl) (af rfl) ∅ (bU (k:=.bor 10) ?_);rw[show(0:Int)+(i:Int)=(i:Nat) by lia]
  match i,b with
  |0,_=>rfl
  |1,_=>rfl
 by_cases d:w∈aH rs
 ·have j:=λo12=>(Zt d)▸g o12;refine⟨a5 (.own,.lst []),aA (st2:=S (a5 (.own,.lst ((a i).map .str)))) (bJ (ae (af rfl) (ae (af rfl) (ae (af rfl) ak))) trivial (f d i b)) bF (ba (o_ (c:=b8) (qN (ae (aR rfl) (ae (qF (j _) (h _)) ak)) ∅ (e i b) rfl)) ay (dJ (j _) (FC (k:=.own) rfl rfl (ba (st2:=S (a5 (.own,.lst []))) (o_ (c:=b8) (qN (ae (bJ (ae (af rfl) (ae (af rfl) (ae (af rfl) ak))) trivial (f d i b)) (ae (h _) ak)) trivial (e i b) rfl)) ay ay)) ay))⟩
 ·have l:=λo12=>(Zs d)▸g o12;exact⟨a5 (.loc,.str "unknown"),aA (st2:=S (a5 (.loc,.str "unknown"))) (bJ (ae (af rfl) (ae (af rfl) (ae (af rfl) ak))) trivial (n d i b)) aD (ba (o_ (c:=b8) (qN (ae (af rfl) (ae (qG (l _) ai) ak)) trivial m rfl)) ay (ba (l _) ay ay))⟩
theorem yr(l:Az Γ)(f:Bq ws rs):
  ∃d:Nat->List Str,Run (ev Γ A8) (Jg o0 o1 u2 o3 o4 rs sm o8 (a5 (.loc,.str w)) o10 o11 o12) (.own,.lst [.lst ((d 0).map .str),.lst ((d 1).map .str)]) (Jg o0 o1 u2 o3 o4 rs sm o8 (a5 (.loc,.str w)) o10 o11 o12) /\
   (∀a,dw ws a->(∀x,x∈a↔Hg (bz rs) w x)->d 0=aL a)/\(∀a,dw ws a->(∀x,x∈a↔Hg ((bz rs).map Jr) w x)->d 1=aL a)/\∀i,(d i).length<=24:=by
 have m:(1000:Nat)<=dV:=by decide
 have q:=kH λr e=>(f.ok r e).ok;have hl:=f.wl;obtain⟨g,b⟩:=Classical.skolem.mp λx=>l ws rs x f;let p:Str->Bool:=λx=>d6 (w∈aL (g x));have n:∀x,p x=b8↔Hg (bz rs) x w:=λx=>by
  show decide _=b8↔_;rw[decide_eq_true_iff,(bp _).mem_iff];exact(b x).2.2 w
 have s:=L_ p (aH rs);have j:=nO (cond:=bq Γ [.cmp .isin (.var 10) (.call "_law_beneath" [.var 6,.var 0])]) (elt:=ev Γ (.var 0)) (src:=[(.bor 6,.lst ((aH rs).map .str))]) (st:=Jg o0 o1 u2 o3 o4 rs sm o8 (a5 (.loc,.str w)) o10 o11 o12) ∅ .loc (.inl rfl) U.str U.str p .loc (aH rs) [] (by simp;lia)
  (λy v=>⟨fz (aU (af rfl) (bJ (ae (af rfl) (ae (af rfl) ak)) trivial (b y).1) trivial AV),λ_=>⟨af rfl,aI⟩⟩)
 rw[u6]at j;have e:=iP (Γ:=Γ) (rs:=[(.bor 6,.lst ((aH rs).map .str))]) (k:=1) (t:=cc) (ik:=.seq) (src:=[.var 6]) (ae (aR rfl) ak) ∅ (by show a5 (((aH rs).map U.str).map λu=>(kE (.bor 6),u))=_;rw[vu];rfl) j;refine⟨λi=>if i=0 then aL (g w) else(aH rs).filter p,cE (ae (bJ (ae (af rfl) (ae (af rfl) ak)) trivial (b w).1) (ae e ak)) trivial (az mf (az mf aO)) (by show 2<=dV;lia),λa hk h=>?_,λa hk h=>?_,λi=>?_⟩
 ·show aL (g w)=_;exact ff ((PK (b w).2.1.1 hk.1).mpr λx=>((b w).2.2 x).trans (h x).symm)
 ·show(aH rs).filter p=_;refine fH ?_ (S8 p (fe _)) (fe _);refine(PK (S8 p (xC _)) ((bp _).nodup_iff.mpr hk.1)).mpr λx=>?_;rw[NS,n x,(bp a).mem_iff,h x,Hg.Jr];refine⟨λz=>z.2,λz=>⟨?_,z⟩⟩;obtain⟨c,o⟩:=z.first;obtain⟨r,e,rfl,_⟩:=fD.mp o;exact qO.mpr (gC.mpr ⟨r,e,.inl rfl⟩)
 ·dsimp only
  split
  ·rw[cI];have:=(b w).2.1.len;lia
  ·lia
theorem yt(v:bg Γ)(x:Az Γ)(z:∀ss:List Str,ss.length<=1000->cS Γ (.lst (ss.map .str)))(A:cS Γ (.str "unknown"))(B:Bq ws rs)(l:kP Γ ws rs 0 (bz rs))(o:kP Γ ws rs 1 ((bz rs).map Jr))
 (C:Src T u2) (D:T<2 ^ 62) (W3:0<sm.length) (W4:sm.length<1000) :
    ∃a G H p g,Run (execs Γ yp) (Jg o0 o1 u2 o3 o4 rs sm o8 o9 o10 o11 o12) .nx (Jg o0 o1 a o3 o4 rs sm o8 G H p g)/\Src (T+1) a:=by
  obtain⟨n,a,q,I,J,s2⟩:=cQ (Γ:=Γ) (st:=Jg o0 o1 u2 o3 o4 rs sm o8 o9 o10 o11 o12) v (i:=2) (k:=.own) (e:=.bi .len [.var 7]) (m:=((sm.map U.str).length:Nat)) rfl rfl (c_ (ae (aR rfl) ak) ∅ bP) C D (by simp;lia) (by simp;lia);obtain⟨m,rfl⟩:=wk I;have L:m<sm.length:=by simp at J;lia
  have s:Hs (sm.map U.str) (m:Int)=a5 (.str sm[m]):=jm (by simp[L]);generalize sm[m]=w at s;obtain⟨b,N,O,Q,dl⟩:=yr (Γ:=Γ) x B (o0:=o0) (o1:=o1) (u2:=a) (o3:=o3) (o4:=o4) (sm:=sm) (o8:=o8) (w:=w) (o10:=o10) (o11:=o11) (o12:=o12);have Y:∀i,i<2->cS Γ (.lst ((b i).map .str)):=λi _=>z _ (by have:=dl i;lia);have hA:w∈aH rs->∀i:Nat,i<2->Γ "_law_asked" [.tup (rs.map Gr),.str w,.int (0+(i:Int))]=a5 (.ok (.own,.lst ((b i).map .str))):=λf i c=>by
    match i,c with
    | 0,_ =>
      obtain⟨j,e,k,m⟩:=(l w).1 f;rw[O j k m];exact e
    | 1,_ =>
      obtain⟨j,e,k,m⟩:=(o w).1 f;rw[Q j k m];exact e
  have hX:w∉aH rs->∀i:Nat,i<2->Γ "_law_asked" [.tup (rs.map Gr),.str w,.int (0+(i:Int))]=a5 (.ok (.loc,.str "unknown")):=λf i c=>by
    match i,c with
    | 0,_=>exact(l w).2 f
    | 1,_=>exact(o w).2 f
  obtain⟨st',hf,p,g,rfl,_⟩:=cm (rs:=[(.loc,.int (2:Nat))]) (t:=cc) (is:=[11]) (body:=execs Γ yo) (λi:Nat=>(Kd.loc,U.int (0+(i:Int)))) (λd r st=>∃o11 o12,st=Jg o0 o1 a o3 o4 rs sm o8 (a5 (.loc,.str w)) (a5 (.own,.lst [.lst ((b 0).map .str),.lst ((b 1).map .str)])) o11 o12/\∀i∈r,i<2)
    (λ_ _ _ _=>trivial) (λd y r st h=>by
      obtain⟨o11,o12,rfl,u⟩:=h;obtain⟨g,q⟩:=yq (Γ:=Γ) (o0:=o0) (o1:=o1) (u2:=a) (o3:=o3) (o4:=o4) (sm:=sm) (o8:=o8) (o12:=o12) Y A hA hX (u y (by simp));exact⟨Jg o0 o1 a o3 o4 rs sm o8 (a5 (.loc,.str w)) (a5 (.own,.lst [.lst ((b 0).map .str),.lst ((b 1).map .str)])) (a5 (.loc,.int (0+(y:Int)))) o12,_,aD,q,_,_,rfl,λi c=>u i (by simp[c])⟩) (ko 2) [] (Jg o0 o1 a o3 o4 rs sm o8 (a5 (.loc,.str w)) (a5 (.own,.lst [.lst ((b 0).map .str),.lst ((b 1).map .str)])) o11 o12) ⟨_,_,rfl,λi c=>HW.mp c⟩
  exact⟨a,_,_,_,_,aA (bt (aR rfl) q (by exact⟨⟨.own,rfl,rfl⟩,trivial⟩) (bU s)) aD (aA N bF (di (rs:=[(.loc,.int (2:Nat))]) (ae ai ak) trivial (fC ⋯) rfl hf ay)),s2⟩
end
section
theorem uO(g:kM Γ)(h:ye Γ){ns:List Int}(l:ns.length<1000)(c:Src T u)(z:T+1000<2 ^ 62)(A:1<=ws.length)(d:ws.length<=24):
  ∃(rs:List Row) (a:List Int) (u':U),Run (ev Γ (.Gy "_law_widened" [.var 3,.Gy "_law_book" [.var 1,.var 3,.var 4] [0,1]] [0])) (o0::a5 (.own,.lst (ns.map .int))::o2::a5 (.own,u)::a5 (.own,.lst (ws.map .str))::rest) (.loc,.tup (rs.map Gr)) (o0::a5 (.own,.lst (a.map .int))::o2::a5 (.own,u')::a5 (.own,.lst (ws.map .str))::rest)/\Bq ws rs:=by
 obtain⟨b,rfl,m⟩:=c.lst;obtain⟨rs,a,u2,n,o,p,B,s2⟩:=g ns (.lst b) ws _ c ⋯ l ⋯ ⋯;obtain⟨e,rfl,q⟩:=s2.lst;have s:=yf (Γ:=Γ) (st:=o0::a5 (.own,.lst (ns.map .int))::o2::a5 (.own,.lst b)::a5 (.own,.lst (ws.map .str))::rest) (st1:=o0::a5 (.own,.lst (ns.map .int))::o2::a5 (.own,.lst b)::a5 (.own,.lst (ws.map .str))::rest) (i:=1) (j:=3) (k0:=.own) (k:=.own) (k0':=.own) (k':=.own) (rs:=[(.bor 4,.lst (ws.map .str))]) ⋯ rfl rfl rfl rfl (ae (aR rfl) ak) rfl rfl (fP ns) rfl rfl m rfl ⟨⟨.own,rfl,rfl⟩,trivial⟩ (λr f=>by rw[kr]at f;subst f;rfl) n (.inr rfl);obtain⟨t,C,v,w,x,s3⟩:=h _ (.lst e) ws rs s2 ⋯ d o.1 p;obtain⟨y,rfl,D⟩:=s3.lst;exact⟨t,a,.lst y,gD (Γ:=Γ) (st:=o0::a5 (.own,.lst (ns.map .int))::o2::a5 (.own,.lst b)::a5 (.own,.lst (ws.map .str))::rest) (st1:=o0::a5 (.own,.lst (a.map .int))::o2::a5 (.own,.lst e)::a5 (.own,.lst (ws.map .str))::rest) (i:=3) (k0:=.own) (k:=.own) (rs:=[(.loc,.tup (rs.map Gr))]) rfl rfl (ae s ak) rfl rfl q rfl v (.inr rfl),d,x,w⟩
noncomputable def uP:List Str:=["zzzzzzzz","a/99","b/2","q"]
theorem uQ(f:iq Γ)(l:bg Γ)(m:sT Γ)(n:kM Γ)(o:ye Γ)(p:Az Γ)(v:∀ws rs,Bq ws rs->Γ "_law_all" [.tup (rs.map Gr)]=a5 (.ok (.own,.lst ((aH rs).map .str))))(w:∀ss:List Str,ss.length<=1000->cS Γ (.lst (ss.map .str)))(x:cS Γ (.str "unknown"))
  (z:∀ws rs,Bq ws rs->kP Γ ws rs 0 (bz rs)) (A:∀ws rs,Bq ws rs->kP Γ ws rs 1 ((bz rs).map Jr)) {ns:List Int} (hn:ns.length<=63):dt Γ ra [.lst (ns.map .int)]=a5 (.ok (.loc,.bl b8)):=by
 have B:(1000:Nat)<=dV:=by decide
 have g:qe .Iz [(.own,.lst ((cut ns b6 (a5 200)).map .int))]=a5 (.own,.lst ((cut ns b6 (a5 200)).reverse.map .int)):=by
  show(if dZ .own ((cut ns b6 (a5 200)).map U.int)=b8 then a5 (Kd.own,U.lst ((cut ns b6 (a5 200)).map U.int).reverse) else b6)=_;rw[Zq (show dZ .own ((cut ns b6 (a5 200)).map U.int)=b8 from rfl),List.map_reverse]
 have c:(cut ns b6 (a5 200)).reverse.length<=63:=by rw[RY];have:=Ac ns b6 (a5 200);lia
 generalize (cut ns b6 (a5 200)).reverse=C at g c;let o0:Option (Kd×U):=a5 (.any,.lst (ns.map .int));obtain⟨D,u2,G,l2,s2⟩:=pC (Γ:=Γ) f (ns:=C) (rest:=[b6,b6,b6,b6,b6,b6,b6,b6,b6,b6,b6]) (o0:=o0) (k:=2);obtain⟨j,H,I,l3,s3⟩:=pC (Γ:=Γ) f (ns:=D) (rest:=[a5 (.own,u2),b6,b6,b6,b6,b6,b6,b6,b6,b6,b6]) (o0:=o0) (k:=1);obtain⟨ws,u4,J,L,N,s4,_⟩:=m 0 H s3 ⋯;obtain⟨O,rfl,Q⟩:=s3.lst;obtain⟨Y,rfl,W5⟩:=s4.lst;have q4:=gD (Γ:=Γ) (st:=[o0,a5 (.own,.lst (j.map .int)),a5 (.own,u2),a5 (.own,.lst O),b6,b6,b6,b6,b6,b6,b6,b6,b6]) (i:=3) (es:=[]) (k0:=.own) (k:=.own) rfl rfl ak rfl rfl Q rfl J (.inl rfl);obtain⟨rs,a,b,q5,e⟩:=uO (Γ:=Γ) n o (ns:=j) (u:=.lst Y) (ws:=ws) (rest:=[b6,b6,b6,b6,b6,b6,b6,b6]) (o0:=o0) (o2:=a5 (.own,u2)) ⋯ s4 ⋯ L N;have e6:=v ws rs e;have q7:Run (ev Γ (.bin .add (.var 4) (.lst [.cst (.str "zzzzzzzz"),.cst (.str "a/99"),.cst (.str "b/2"),.cst (.str "q")]))) [o0,a5 (.own,.lst (a.map .int)),a5 (.own,u2),a5 (.own,b),a5 (.own,.lst (ws.map .str)),a5 (.loc,.tup (rs.map Gr)),a5 (.own,.lst ((aH rs).map .str)),b6,b6,b6,b6,b6,b6] (.own,.lst ((ws++uP).map .str)) [o0,a5 (.own,.lst (a.map .int)),a5 (.own,u2),a5 (.own,b),a5 (.own,.lst (ws.map .str)),a5 (.loc,.tup (rs.map Gr)),a5 (.own,.lst ((aH rs).map .str)),b6,b6,b6,b6,b6,b6]:=by
  rw[qs];exact bx (aR rfl) (cE (us:=uP.map .str) (ae ai (ae ai (ae ai (ae ai ak)))) trivial (az aI (az aI (az aI (az aI aO)))) (by show 4<=dV;lia)) ∅ (ph (by rw[ei];show ws.length+4<=dV;lia) rfl rfl)
 obtain⟨st',hf,J',o8,o9,o10,o11,o12,T,rfl,_⟩:=cm (rs:=[(.loc,.int (2:Nat))]) (t:=cc) (is:=[8]) (body:=execs Γ yp) (λi:Nat=>(Kd.loc,U.int (0+(i:Int)))) (λd r st=>∃u2 o8 o9 o10 o11 o12 T,st=Jg o0 (a5 (.own,.lst (a.map .int))) u2 (a5 (.own,b)) (a5 (.own,.lst (ws.map .str))) rs (ws++uP) o8 o9 o10 o11 o12/\Src T u2/\T+(r.length:Nat)<1000)
  (λ_ _ _ _=>trivial) (λd y r st h=>by
   obtain⟨u2,o8,o9,o10,o11,o12,T,rfl,s,t⟩:=h;rw[rz]at t;obtain⟨J',NU,J9,Mb,JF,q,s'⟩:=yt (Γ:=Γ) l p w x e (z ws rs e) (A ws rs e) (o0:=o0) (o1:=a5 (.own,.lst (a.map .int))) (u2:=u2) (o3:=a5 (.own,b)) (o4:=a5 (.own,.lst (ws.map .str))) (sm:=ws++uP) (o8:=a5 (.loc,.int (0+(y:Int)))) (o9:=o9) (o10:=o10) (o11:=o11) (o12:=o12) s ⋯ (by simp;lia) (by rw[l'];show ws.length+4<1000;lia);exact⟨Jg o0 (a5 (.own,.lst (a.map .int))) u2 (a5 (.own,b)) (a5 (.own,.lst (ws.map .str))) rs (ws++uP) (a5 (.loc,.int (0+(y:Int)))) o9 o10 o11 o12,_,aD,q,_,_,_,_,_,_,_,rfl,s',⋯⟩) (ko 2) [] (Jg o0 (a5 (.own,.lst (a.map .int))) u2 (a5 (.own,b)) (a5 (.own,.lst (ws.map .str))) rs (ws++uP) b6 b6 b6 b6 b6) ⟨_,_,_,_,_,_,0,rfl,s2,by simp⟩
 exact bC (st0:=[o0,b6,b6,b6,b6,b6,b6,b6,b6,b6,b6,b6,b6]) rfl (.inr rfl) rfl (aA (AQ (ae (oZ (aX rfl) sI (l_ ai) trivial (xA (by show cG _=b8;exact fP ns))) ak) trivial g) bF (aA G bF (aA I bF (aA q4 bF (aA q5 aD (aA (bJ (ae (af rfl) ak) trivial e6) bF (aA q7 bF (di (rs:=[(.loc,.int (2:Nat))]) (ae ai ak) trivial (fC ⋯) rfl hf (bS ai fA)))))))))
end
end TM
namespace K
open PySem L2 TM
noncomputable def top(i:Nat):Lo:=PySem.Challenge.pw_primer_k31_under_and_over.main.body.getD i (.Pass ⟨0,0,0,0⟩)
noncomputable abbrev kQ:Fn:=TM.nQ
noncomputable abbrev kR:Fn:=TM.uL
noncomputable abbrev eI:Fn:=TM.sY
noncomputable abbrev kS:Fn:=TM.yh
noncomputable abbrev eZ:Fn:=TM.sV
noncomputable abbrev dU:Fn:=TM.pD
noncomputable abbrev mE:Fn:=TM.Fm
noncomputable def s9:Fn:=⟨"under",2,2,[.JL "refuse_unknown" [.var 0,.lst [.var 1]],.ret (.bi .sorted [.call "reached" [.call "words_told_of" [.var 0],.var 1]])]⟩
noncomputable def yu:Fn:=⟨"over",2,2,[.JL "refuse_unknown" [.var 0,.lst [.var 1]],.ret (.bi .sorted [.call "reached" [.call "words_that_tell" [.var 0],.var 1]])]⟩
noncomputable abbrev iu:Fn:=TM.xG
noncomputable abbrev kU:Fn:=TM.sR
noncomputable abbrev jb:Fn:=TM.kK
noncomputable abbrev mF:Fn:=TM.Dm
noncomputable abbrev mG:Fn:=TM.Ak
noncomputable abbrev kW:Fn:=TM.nV
noncomputable abbrev mH:Fn:=TM.Ao
noncomputable abbrev kX:Fn:=TM.kL
noncomputable def kY:Fn:=⟨"_law_kind",1,2,[.set 1 (.lst [.HD (.var 0) "Unknown" [("Unknown",b8)],.HD (.var 0) "Unlearnt" [("Unknown",cc)],.HD (.var 0) "TooMany" [("Unknown",cc)],.HD (.var 0) "Lacking" [("Unknown",cc)]]),.set 1 (.bin .add (.var 1) (.lst [.HD (.var 0) "NoText" [("Unknown",cc)],.HD (.var 0) "Unfit" [("Unknown",cc)],.HD (.var 0) "NoRow" [("Unknown",cc)],.HD (.var 0) "NoDeed" [("Unknown",cc)]])),.ite (.or [.cmp .ne (.Kw cc 1 b8) (.cst (.int 1)),.not (.HD (.var 0) "ValueError" [("Unknown",b8)])]) [.ret (.cst (.str "none"))] [],.ret (.idx (.lst [.cst (.str "unknown"),.cst (.str "unlearnt"),.cst (.str "many"),.cst (.str "lacking"),.cst (.str "text"),.cst (.str "unfit"),.cst (.str "row"),.cst (.str "deed")]) (.Kw b8 1 b8))]⟩
noncomputable abbrev gc:Fn:=TM.S9
noncomputable abbrev jc:Fn:=TM.q_
noncomputable abbrev gf:Fn:=TM.Ar
noncomputable abbrev A9:Fn:=TM.ra
noncomputable def prog:List Fn:=[kQ,kR,eI,kS,eZ,dU,mE,s9,yu,iu,kU,jb,mF,mG,kW,mH,kX,kY,gc,jc,gf,A9]
noncomputable def ck:Ck:=⟨(prog.filter λf=>f.io.isNone).map (·.name),[],prog.filterMap λf=>f.io.map λp=>(f.name,p.1),["Unknown"],[],[("Unknown","Lacking",cc),("Unknown","NoDeed",cc),("Unknown","NoRow",cc),("Unknown","NoText",cc),("Unknown","TooMany",cc),("Unknown","Unfit",cc),("Unknown","Unknown",b8),("Unknown","Unlearnt",cc),("Unknown","ValueError",b8)],[("Unknown","PrimerError")]⟩
theorem pure(ns:List Int)(s:ns.length<=63):GG prog 5 "law" [qD ns]=a5 (.ok (.loc,.bl b8)):=by
 have c:G_ prog "_law_draw" sR:=rfl;have hs:G_ prog "_law_source" xG:=rfl;have i:G_ prog "_law_same" kL:=rfl;have j:G_ prog "gathered" uL:=rfl;have k:G_ prog "pairs_of" yh:=rfl;have l:G_ prog "refuse_unknown" sY:=rfl;have m:G_ prog "words_of" nQ:=rfl;have b:yi (GG prog 2):=Fo (Pg:=prog) (d:=1) rfl;have o:G_ prog "_law_asked" q_:=rfl;have hk:G_ prog "_law_kind" yl:=rfl;have t:bg (GG prog 2):=qQ c;have e:bg (GG prog 3):=qQ c;have f:∀ws rs,Bq ws rs->∀r∈rs,r.2.length<=8:=λws rs a r b=>(a.ok r b).2.2.2;have q:∀ws rs,Bq ws rs->(bz rs).length<=1000:=λws rs a=>by have:=fE (f ws rs a);have:=a.rl;lia
 have u:∀ws rs,Bq ws rs->kP (GG prog 4) ws rs 0 (bz rs):=λws rs a =>
  A7 o hk (Fz (Pg:=prog) (d:=2) (n:="under") (g:="words_told_of") rfl b a (Fx m l a) (Dq j k rfl (f ws rs a) (by have:=a.rl;lia)) (q ws rs a) λp h=>by
   obtain⟨r,b,_,v⟩:=fD.mp (show(p.1,p.2)∈bz rs from h);exact(a.ok r b).2.2.1 _ v)
 have w:∀ws rs,Bq ws rs->kP (GG prog 4) ws rs 1 ((bz rs).map Jr):=λws rs a =>
  A7 o hk (Fz (Pg:=prog) (d:=2) (n:="over") (g:="words_that_tell") rfl b a (Fx m l a) (Av j k rfl (f ws rs a) (by have:=a.rl;lia)) (by rw[ei];exact q ws rs a) λp h=>by
   obtain⟨r,b,x,_⟩:=fD.mp (nX.mp (show(p.1,p.2)∈(bz rs).map Jr from h));exact x▸(a.ok r b).1)
 have hl:G_ prog "law" ra:=rfl;rw[show GG prog 5 "law" [qD ns]=_ from aW hl [qD ns]];exact uQ (xU hs) (qQ c) (Am e rfl) (yg (xU hs) e (E9 t rfl) (Fb rfl) rfl) (Fe e (Fc rfl) rfl) (Gp rfl) (λws rs a=>all2 (Pg:=prog) rfl a) (λss hl=>Du i hl) (A4 i _) u w s
end K
namespace K
open PySem L2 TM PySem.W PyProof.Rows
noncomputable def m0:et:=.str "primer.books" 335
noncomputable def m1:et:=.str "primer.leaning" 364
noncomputable def m2:et:=.str "law_primer_k31_under_and_over" 412
noncomputable def ml:Me:=⟨A9,34,["_law_script","_law_left","_law_query","_law_source_here","_law_words_here","_law_book_here","_law_known","_law_some","_law_turn","_law_word","_law_dues","_law_way","_law_found"],265,264,m2,co "law" 532 183 1 261 262 .none .none (.ref 263) 535 536 181⟩
noncomputable def ms:List Me:=[⟨kQ,11,["book","words","row"],130,129,m0,co "words_of" 337 21 1 124 125 (.ref 126) (.ref 127) (.ref 128) 343 344 181⟩,
 ⟨kR,12,["pairs","found","key","value"],137,136,m0,co "gathered" 346 27 1 131 132 (.ref 133) (.ref 134) (.ref 135) 353 354 181⟩,
 ⟨eI,13,["book","words"],144,143,m0,co "refuse_unknown" 356 34 2 138 139 (.ref 140) (.ref 141) (.ref 142) 361 362 181⟩,
 ⟨kS,15,["book","pairs","row"],149,148,m1,co "pairs_of" 366 38 1 145 146 .none .none (.ref 147) 369 370 181⟩,
 ⟨eZ,16,["book"],156,155,m1,co "words_told_of" 372 43 1 150 151 (.ref 152) (.ref 153) (.ref 154) 376 377 181⟩,
 ⟨dU,17,["book"],161,160,m1,co "words_that_tell" 379 45 1 157 158 .none .none (.ref 159) 382 383 181⟩,
 ⟨mE,18,["links","word","found","waiting","each"],168,167,m1,co "reached" 385 47 2 162 163 (.ref 164) (.ref 165) (.ref 166) 393 394 181⟩,
 ⟨s9,19,["book","word"],175,174,m1,co "under" 396 56 2 169 170 (.ref 171) (.ref 172) (.ref 173) 401 402 181⟩,
 ⟨yu,20,["book","word"],182,181,m1,co "over" 404 59 2 176 177 (.ref 178) (.ref 179) (.ref 180) 409 410 181⟩,
 ⟨iu,22,["_law_left","_law_k","_law_cell"],189,188,m2,co "_law_source" 414 63 2 183 184 (.ref 185) (.ref 186) (.ref 187) 420 421 181⟩,
 ⟨kU,23,["_law_source_here","_law_many","_law_number","_law_turn","_law_mixed"],196,195,m2,co "_law_draw" 423 68 2 190 191 (.ref 192) (.ref 193) (.ref 194) 431 432 181⟩,
 ⟨jb,24,["_law_source_here","_law_letters","_law_many","_law_base","_law_way","_law_size","_law_first","_law_words_here","_law_k","_law_word","_law_sense"],201,200,m2,co "_law_words" 434 77 1 197 198 .none .none (.ref 199) 437 438 181⟩,
 ⟨mF,25,["_law_source_here","_law_words_here","_law_at","_law_below","_law_told","_law_k","_law_one"],208,207,m2,co "_law_row" 440 98 4 202 203 (.ref 204) (.ref 205) (.ref 206) 450 451 181⟩,
 ⟨mG,26,["_law_rows","_law_row_here","_law_other"],215,214,m2,co "_law_lay" 453 107 2 209 210 (.ref 211) (.ref 212) (.ref 213) 459 460 181⟩,
 ⟨kW,27,["_law_left","_law_source_here","_law_words_here","_law_rows","_law_way","_law_k","_law_at","_law_more"],222,221,m2,co "_law_book" 462 112 3 216 217 (.ref 218) (.ref 219) (.ref 220) 473 474 181⟩,
 ⟨mH,28,["_law_book_here","_law_met","_law_word","_law_told","_law_one"],229,228,m2,co "_law_all" 476 124 1 223 224 (.ref 225) (.ref 226) (.ref 227) 484 485 181⟩,
 ⟨kX,29,["_law_found","_law_due"],234,233,m2,co "_law_same" 487 131 2 230 231 .none .none (.ref 232) 490 491 181⟩,
 ⟨kY,30,["_law_e","_law_some"],241,240,m2,co "_law_kind" 493 145 1 235 236 (.ref 237) (.ref 238) (.ref 239) 498 499 181⟩,
 ⟨gc,31,["_law_book_here","_law_word","_law_met","_law_grew","_law_head","_law_told","_law_one"],248,247,m2,co "_law_beneath" 501 151 2 242 243 (.ref 244) (.ref 245) (.ref 246) 511 512 181⟩,
 ⟨jc,32,["_law_book_here","_law_word","_law_way","_law_found","_law_caught","_law_e"],255,254,m2,co "_law_asked" 514 163 3 249 250 (.ref 251) (.ref 252) (.ref 253) 523 524 181⟩,
 ⟨gf,33,["_law_source_here","_law_book_here","_law_share","_law_heads","_law_pool","_law_more","_law_k","_law_word"],260,259,m2,co "_law_widened" 526 171 2 256 257 .none .none (.ref 258) 529 530 181⟩,
 ml]
noncomputable def gg(P:S7):Obj:=⟨.type "dict",b6,.dict #[ge P "__name__" 165 (.str "law_primer_k31_under_and_over" 412),ge P "__doc__" 166 .none,ge P "__package__" 167 .none,ge P "__loader__" 168 (.builtin "__main__.__loader__#opaque"),ge P "__spec__" 169 .none,ge P "__annotations__" 170 (.ref 6),ge P "__builtins__" 171 (.ref 4),ge P "__file__" 173 (.str "/claim/cut.py" 172),ge P "__cached__" 174 .none,ge P "PrimerError" 206 (.ref 24),ge P "NoText" 222 (.ref 37),ge P "Unfit" 238 (.ref 49),ge P "Unknown" 254 (.ref 61),ge P "Unlearnt" 270 (.ref 73),ge P "TooMany" 286 (.ref 85),ge P "Lacking" 302 (.ref 97),ge P "NoRow" 318 (.ref 109),ge P "NoDeed" 334 (.ref 121),ge P "words_of" 345 (.ref 130),ge P "gathered" 355 (.ref 137),ge P "refuse_unknown" 363 (.ref 144),ge P "pairs_of" 371 (.ref 149),ge P "words_told_of" 378 (.ref 156),ge P "words_that_tell" 384 (.ref 161),ge P "reached" 395 (.ref 168),ge P "under" 403 (.ref 175),ge P "over" 411 (.ref 182),ge P "_law_source" 422 (.ref 189),ge P "_law_draw" 433 (.ref 196),ge P "_law_words" 439 (.ref 201),ge P "_law_row" 452 (.ref 208),ge P "_law_lay" 461 (.ref 215),ge P "_law_book" 475 (.ref 222),ge P "_law_all" 486 (.ref 229),ge P "_law_same" 492 (.ref 234),ge P "_law_kind" 500 (.ref 241),ge P "_law_beneath" 513 (.ref 248),ge P "_law_asked" 525 (.ref 255),ge P "_law_widened" 531 (.ref 260),ge P "law" 537 (.ref 265)] 40,#[]⟩
noncomputable def xo(P:S7):List (hH×Obj):=[(97,({cls:=.type "type",data:=.cls {name:="Lacking",bases:=[.ref 24],mro:=[.ref 97,.ref 24,.type "ValueError",.type "Exception",.type "BaseException",.type "object"],ns:=96,qualname:="Lacking" },slots:=#[a5 (.ref 88),b6,a5 (.str "Lacking" 287),a5 (.str "Lacking" 295),a5 (.builtin "ValueError.__new__"),a5 (.bool b8)]}:Obj)),
 (121,({cls:=.type "type",data:=.cls {name:="NoDeed",bases:=[.ref 24],mro:=[.ref 121,.ref 24,.type "ValueError",.type "Exception",.type "BaseException",.type "object"],ns:=120,qualname:="NoDeed" },slots:=#[a5 (.ref 112),b6,a5 (.str "NoDeed" 319),a5 (.str "NoDeed" 327),a5 (.builtin "ValueError.__new__"),a5 (.bool b8)]}:Obj)),
 (109,({cls:=.type "type",data:=.cls {name:="NoRow",bases:=[.ref 24],mro:=[.ref 109,.ref 24,.type "ValueError",.type "Exception",.type "BaseException",.type "object"],ns:=108,qualname:="NoRow" },slots:=#[a5 (.ref 100),b6,a5 (.str "NoRow" 303),a5 (.str "NoRow" 311),a5 (.builtin "ValueError.__new__"),a5 (.bool b8)]}:Obj)),
 (37,({cls:=.type "type",data:=.cls {name:="NoText",bases:=[.ref 24],mro:=[.ref 37,.ref 24,.type "ValueError",.type "Exception",.type "BaseException",.type "object"],ns:=36,qualname:="NoText" },slots:=#[a5 (.ref 28),b6,a5 (.str "NoText" 207),a5 (.str "NoText" 215),a5 (.builtin "ValueError.__new__"),a5 (.bool b8)]}:Obj)),
 (24,({cls:=.type "type",data:=.cls {name:="PrimerError",bases:=[.type "ValueError"],mro:=[.ref 24,.type "ValueError",.type "Exception",.type "BaseException",.type "object"],ns:=23,qualname:="PrimerError",subclasses:=[.ref 37,.ref 49,.ref 61,.ref 73,.ref 85,.ref 97,.ref 109,.ref 121]},slots:=#[a5 (.ref 15),b6,a5 (.str "PrimerError" 189),a5 (.str "PrimerError" 197),a5 (.builtin "ValueError.__new__"),a5 (.bool b8)]}:Obj)),
 (85,({cls:=.type "type",data:=.cls {name:="TooMany",bases:=[.ref 24],mro:=[.ref 85,.ref 24,.type "ValueError",.type "Exception",.type "BaseException",.type "object"],ns:=84,qualname:="TooMany" },slots:=#[a5 (.ref 76),b6,a5 (.str "TooMany" 271),a5 (.str "TooMany" 279),a5 (.builtin "ValueError.__new__"),a5 (.bool b8)]}:Obj)),
 (49,({cls:=.type "type",data:=.cls {name:="Unfit",bases:=[.ref 24],mro:=[.ref 49,.ref 24,.type "ValueError",.type "Exception",.type "BaseException",.type "object"],ns:=48,qualname:="Unfit" },slots:=#[a5 (.ref 40),b6,a5 (.str "Unfit" 223),a5 (.str "Unfit" 231),a5 (.builtin "ValueError.__new__"),a5 (.bool b8)]}:Obj)),
 (61,({cls:=.type "type",data:=.cls {name:="Unknown",bases:=[.ref 24],mro:=[.ref 61,.ref 24,.type "ValueError",.type "Exception",.type "BaseException",.type "object"],ns:=60,qualname:="Unknown" },slots:=#[a5 (.ref 52),b6,a5 (.str "Unknown" 239),a5 (.str "Unknown" 247),a5 (.builtin "ValueError.__new__"),a5 (.bool b8)]}:Obj)),
 (73,({cls:=.type "type",data:=.cls {name:="Unlearnt",bases:=[.ref 24],mro:=[.ref 73,.ref 24,.type "ValueError",.type "Exception",.type "BaseException",.type "object"],ns:=72,qualname:="Unlearnt" },slots:=#[a5 (.ref 64),b6,a5 (.str "Unlearnt" 255),a5 (.str "Unlearnt" 263),a5 (.builtin "ValueError.__new__"),a5 (.bool b8)]}:Obj)),
 (96,({cls:=.type "dict",data:=.dict #[{hash:=js P "__module__",key:=.str "__module__" 294,val:=.str "primer.errors" 187},{hash:=js P "__firstlineno__",key:=.str "__firstlineno__" 298,val:=.int 14 297},{hash:=js P "__static_attributes__",key:=.str "__static_attributes__" 299,val:=.ref 95},{hash:=js P "__doc__",key:=.str "__doc__" 300,val:=.none}] 2}:Obj)),
 (120,({cls:=.type "dict",data:=.dict #[{hash:=js P "__module__",key:=.str "__module__" 326,val:=.str "primer.errors" 187},{hash:=js P "__firstlineno__",key:=.str "__firstlineno__" 330,val:=.int 18 329},{hash:=js P "__static_attributes__",key:=.str "__static_attributes__" 331,val:=.ref 119},{hash:=js P "__doc__",key:=.str "__doc__" 332,val:=.none}] 2}:Obj)),
 (108,({cls:=.type "dict",data:=.dict #[{hash:=js P "__module__",key:=.str "__module__" 310,val:=.str "primer.errors" 187},{hash:=js P "__firstlineno__",key:=.str "__firstlineno__" 314,val:=.int 16 313},{hash:=js P "__static_attributes__",key:=.str "__static_attributes__" 315,val:=.ref 107},{hash:=js P "__doc__",key:=.str "__doc__" 316,val:=.none}] 2}:Obj)),
 (36,({cls:=.type "dict",data:=.dict #[{hash:=js P "__module__",key:=.str "__module__" 214,val:=.str "primer.errors" 187},{hash:=js P "__firstlineno__",key:=.str "__firstlineno__" 218,val:=.int 4 217},{hash:=js P "__static_attributes__",key:=.str "__static_attributes__" 219,val:=.ref 35},{hash:=js P "__doc__",key:=.str "__doc__" 220,val:=.none}] 2}:Obj)),
 (23,({cls:=.type "dict",data:=.dict #[{hash:=js P "__module__",key:=.str "__module__" 196,val:=.str "primer.errors" 187},{hash:=js P "__firstlineno__",key:=.str "__firstlineno__" 200,val:=.int 2 199},{hash:=js P "__static_attributes__",key:=.str "__static_attributes__" 201,val:=.ref 22},{hash:=js P "__weakref__",key:=.str "__weakref__" 203,val:=.ref 25},{hash:=js P "__doc__",key:=.str "__doc__" 204,val:=.none}] 3}:Obj)),
 (84,({cls:=.type "dict",data:=.dict #[{hash:=js P "__module__",key:=.str "__module__" 278,val:=.str "primer.errors" 187},{hash:=js P "__firstlineno__",key:=.str "__firstlineno__" 282,val:=.int 12 281},{hash:=js P "__static_attributes__",key:=.str "__static_attributes__" 283,val:=.ref 83},{hash:=js P "__doc__",key:=.str "__doc__" 284,val:=.none}] 2}:Obj)),
 (48,({cls:=.type "dict",data:=.dict #[{hash:=js P "__module__",key:=.str "__module__" 230,val:=.str "primer.errors" 187},{hash:=js P "__firstlineno__",key:=.str "__firstlineno__" 234,val:=.int 6 233},{hash:=js P "__static_attributes__",key:=.str "__static_attributes__" 235,val:=.ref 47},{hash:=js P "__doc__",key:=.str "__doc__" 236,val:=.none}] 2}:Obj)),
 (60,({cls:=.type "dict",data:=.dict #[{hash:=js P "__module__",key:=.str "__module__" 246,val:=.str "primer.errors" 187},{hash:=js P "__firstlineno__",key:=.str "__firstlineno__" 250,val:=.int 8 249},{hash:=js P "__static_attributes__",key:=.str "__static_attributes__" 251,val:=.ref 59},{hash:=js P "__doc__",key:=.str "__doc__" 252,val:=.none}] 2}:Obj)),
 (72,({cls:=.type "dict",data:=.dict #[{hash:=js P "__module__",key:=.str "__module__" 262,val:=.str "primer.errors" 187},{hash:=js P "__firstlineno__",key:=.str "__firstlineno__" 266,val:=.int 10 265},{hash:=js P "__static_attributes__",key:=.str "__static_attributes__" 267,val:=.ref 71},{hash:=js P "__doc__",key:=.str "__doc__" 268,val:=.none}] 2}:Obj))]
noncomputable def gx(P:S7):Gx:=(gg P,xo P)
noncomputable def xa:List hH:=[97,121,109,37,24,85,49,61,73,96,120,108,36,23,84,48,60,72]
noncomputable def vw:D3:=view PySem.Challenge.pw_primer_k31_under_and_over [11,12,13,15,16,17,18,19,20,22,23,24,25,26,27,28,29,30,31,32,33,34]
noncomputable def hk:Hook:=kHook (λP=>Il top (gx P) ms) (adr ms xa) λP=>sH top (gx P) ms xa rfl
theorem hl:LeftO PySem.Challenge.rw_primer_k31_under_and_over.row.prog vw ["PrimerError","NoText","Unfit","Unknown","Unlearnt","TooMany","Lacking","NoRow","NoDeed"] (λs=>xlAt vw [] s&&recOk (RowW.records PySem.Challenge.rw_primer_k31_under_and_over.row.toRowW) s) hk.obs hk.val 4000:=λw=>by kernel_rfl
theorem hs:PySem.Challenge.rw_primer_k31_under_and_over.wellSaid=b8:=by kernel_rfl
theorem ho(P:S7):Lc ck top (Il top (gx P) ms) ms=b8:=by kernel_rfl
theorem Ws(P:S7):(gX ck (Il top (gx P) ms)&&gY ck (Il top (gx P) ms))=b8:=by kernel_rfl
end K
open PySem PySem.W PyProof.Rows K
theorem PySem.Challenge.cw_primer_k31_under_and_over_holds : PySem.Challenge.rw_primer_k31_under_and_over.Holds := by
 w_on
 refine holds_law hs λz => ?_;refine holds_open hl hk.of hk.keeps (λs e => xl_of s (KS.mp e).1) XL.keeps rfl rfl rfl (λs e => recFacts_of (KS.mp e).2) rfl z (by kernel_rfl) ⟨rfl, rfl, rfl, rfl, rfl, by decide +kernel⟩ ?hw ?a
 (case hw => w_witness2)
 exact TM.walk2 (l := PySem.Challenge.rw_primer_k31_under_and_over) (Pg := prog) (ck := ck) (dp := 4) (x := "_law_script") (m := ml) rfl rfl ⟨rfl, by decide, by decide, rfl⟩ rfl (by decide +kernel) (by decide +kernel) rfl (by simp [ms]) rfl rfl ho Ws (λ_ => rfl) K.pure
